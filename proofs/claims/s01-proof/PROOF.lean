import PyProof.Rows.All
import Wide.All
import OpenK.AllK
import Wide.FinOn
import PyProof.EqAt
import PyProof.EqKinds
import PyProof.TupleCall
import Open.SpecLaws
import KE.OsGo
import HandS.ForMost
import HandS.ForSpec
import HandS.More
import HandS.Wide
import HandS.Walk
import HandS.Flow
import HandS.CallLocal
import PySem.Challenge.RW_spreadwalks_s01_answers
set_option Elab.async false
set_option maxRecDepth 100000
set_option maxHeartbeats 4000000
set_option linter.all false
namespace Sw
/-! ### 1. Determinants -/
def star (f : Nat → Int) : (List Nat → Int) → List Nat → Int
  | _, [] => 0
  | G, c :: cs => f c * G cs - star f (fun l => G (c :: l)) cs
theorem star_sub (f : Nat → Int) : ∀ (cs : List Nat) (G H : List Nat → Int) (a b : Int), star f (fun l => a * G l - b * H l) cs = a * star f G cs - b * star f H cs
  | [], G, H, a, b => by simp [star]
  | c :: cs, G, H, a, b => by
    simp only [star]
    rw [star_sub f cs (fun l => G (c :: l)) (fun l => H (c :: l)) a b]
    grind
theorem star_smul (f : Nat → Int) (cs : List Nat) (G : List Nat → Int) (a : Int) : star f (fun l => a * G l) cs = a * star f G cs := by
  have h := star_sub f cs G G a 0
  simp only [Int.zero_mul, Int.sub_zero] at h
  exact h
theorem star_zero (f : Nat → Int) (cs : List Nat) : star f (fun _ => 0) cs = 0 := by
  have h := star_smul f cs (fun _ => 0) 0
  simpa using h
theorem star_fsub (f g : Nat → Int) (a b : Int) : ∀ (cs : List Nat) (G : List Nat → Int), star (fun j => a * f j - b * g j) G cs = a * star f G cs - b * star g G cs
  | [], G => by simp [star]
  | c :: cs, G => by
    simp only [star]
    rw [star_fsub f g a b cs (fun l => G (c :: l))]
    grind
theorem star_anti (f g : Nat → Int) : ∀ (cs : List Nat) (G : List Nat → Int), star f (star g G) cs = - star g (star f G) cs
  | [], G => by simp [star]
  | c :: cs, G => by
    have e1 : (fun l => star g G (c :: l)) = fun l => g c * G l - 1 * star g (fun m => G (c :: m)) l := by
      funext l; simp only [star]; grind
    have e2 : (fun l => star f G (c :: l)) = fun l => f c * G l - 1 * star f (fun m => G (c :: m)) l := by
      funext l; simp only [star]; grind
    rw [star, star, e1, e2, star_sub, star_sub, star_anti f g cs (fun m => G (c :: m))]
    grind
theorem star_self (f : Nat → Int) (cs : List Nat) (G : List Nat → Int) : star f (star f G) cs = 0 := by
  have h := star_anti f f cs G
  omega
def det : List (Nat → Int) → List Nat → Int
  | [], l => match l with
    | [] => 1
    | _ :: _ => 0
  | f :: fs, l => star f (det fs) l
theorem det_pull (a : Int) (c : Nat) (f : Nat → Int) : ∀ (gs : List (Nat → Int)) (cs : List Nat), star f (det (gs.map fun g j => a * g j - g c * f j)) cs = a ^ gs.length * star f (det gs) cs
  | [], cs => by simp
  | g :: gs, cs => by
    have e1 : det ((g :: gs).map fun g j => a * g j - g c * f j) = fun l => a * star g (det (gs.map fun g j => a * g j - g c * f j)) l - g c * star f (det (gs.map fun g j => a * g j - g c * f j)) l := by
      funext l
      rw [List.map_cons, det, star_fsub]
    have e2 : star f (det (gs.map fun g j => a * g j - g c * f j)) = fun l => a ^ gs.length * star f (det gs) l := by
      funext l
      exact det_pull a c f gs l
    have e3 : star f (det (g :: gs)) cs = - star g (star f (det gs)) cs := star_anti f g cs (det gs)
    rw [e1, star_sub, star_self, star_anti, e2, star_smul, e3, List.length_cons, Int.pow_succ]
    grind
theorem det_vanish (c : Nat) : ∀ (hs : List (Nat → Int)) (l : List Nat), (∀ h ∈ hs, h c = 0) → det hs (c :: l) = 0
  | [], l, _ => rfl
  | h :: hs, l, H => by
    have e : (fun m => det hs (c :: m)) = fun _ => 0 := by
      funext m
      exact det_vanish c hs m fun h' q => H h' (List.mem_cons_of_mem _ q)
    rw [det, star, e, star_zero, H h (List.mem_cons_self ..)]
    simp
theorem chio (c : Nat) (f : Nat → Int) (gs : List (Nat → Int)) (cs : List Nat) :
    f c ^ gs.length * det (f :: gs) (c :: cs) = f c * det (gs.map fun g j => f c * g j - g c * f j) cs := by
  have h := det_pull (f c) c f gs (c :: cs)
  rw [star] at h
  have e : (fun l => det (gs.map fun g j => f c * g j - g c * f j) (c :: l)) = fun _ => 0 := by
    funext l
    refine det_vanish c _ l fun h q => ?_
    obtain ⟨g, _, rfl⟩ := List.mem_map.mp q
    show f c * g c - g c * f c = 0
    grind
  rw [e, star_zero] at h
  show f c ^ gs.length * star f (det gs) (c :: cs) = _
  omega
theorem star_fsmul (f : Nat → Int) (a : Int) (cs : List Nat) (G : List Nat → Int) : star (fun j => a * f j) G cs = a * star f G cs := by
  have h := star_fsub f f a 0 cs G
  simp only [Int.zero_mul, Int.sub_zero] at h
  exact h
theorem det_homog (c : Int) : ∀ (fs : List (Nat → Int)) (cs : List Nat), det (fs.map fun f j => c * f j) cs = c ^ fs.length * det fs cs
  | [], cs => by simp
  | f :: fs, cs => by
    have e : det (fs.map fun f j => c * f j) = fun l => c ^ fs.length * det fs l := by
      funext l
      exact det_homog c fs l
    rw [List.map_cons, det, star_fsmul, e, star_smul, List.length_cons, Int.pow_succ, det]
    grind
/-! ### 2. What divides what is left -/
def Dv (D : Int) (F : Nat → Nat → Int) : Prop := ∀ (r : Nat) (rs cols : List Nat), D ^ rs.length ∣ det ((r :: rs).map F) cols
theorem dv_one (F : Nat → Nat → Int) : Dv 1 F := fun r rs cols => by
  rw [Int.one_pow]
  exact Int.one_dvd _
def nxt (F : Nat → Nat → Int) (D : Int) (c : Nat) : Nat → Nat → Int := fun i j => (F c c * F i j - F i c * F c j) / D
theorem nxt_exact {D : Int} {F : Nat → Nat → Int} (h : Dv D F) (c i j : Nat) : D * nxt F D c i j = F c c * F i j - F i c * F c j := by
  have q := h c [i] [c, j]
  have e : det (([c, i] : List Nat).map F) [c, j] = F c c * F i j - F i c * F c j := by
    simp [det, star]
    grind
  rw [e] at q
  rw [List.length_singleton, Int.pow_succ, Int.pow_zero, Int.one_mul] at q
  exact Int.mul_ediv_cancel' q
theorem nxt_dv {D : Int} {F : Nat → Nat → Int} (h : Dv D F) (hD : D ≠ 0) (c : Nat) (ha : F c c ≠ 0) : Dv (F c c) (nxt F D c) := by
  intro r rs cols
  have e1 := chio c (F c) ((r :: rs).map F) cols
  have e2 : ((r :: rs).map F).map (fun g j => F c c * g j - g c * F c j) = ((r :: rs).map (nxt F D c)).map (fun g j => D * g j) := by
    rw [List.map_map, List.map_map]
    refine List.map_congr_left fun i _ => ?_
    funext j
    exact (nxt_exact h c i j).symm
  rw [e2, det_homog, List.length_map, List.length_map, List.length_cons] at e1
  obtain ⟨t, ht⟩ := h c (r :: rs) (c :: cols)
  rw [List.map_cons] at ht
  rw [ht, List.length_cons] at e1
  refine ⟨t, ?_⟩
  have hp : (F c c) * D ^ (rs.length + 1) ≠ 0 := Int.mul_ne_zero ha (Int.pow_ne_zero hD)
  have e3 : (F c c) * D ^ (rs.length + 1) * det ((r :: rs).map (nxt F D c)) cols = (F c c) * D ^ (rs.length + 1) * (F c c ^ rs.length * t) := by
    rw [Int.pow_succ (F c c)] at e1
    grind
  exact Int.eq_of_mul_eq_mul_left hp e3
end Sw
namespace Sw
/-! ### 3. Sums -/
def S (l : List Nat) (f : Nat → Int) : Int := (l.map f).sum
theorem S_nil (f : Nat → Int) : S [] f = 0 := rfl
theorem S_cons (c : Nat) (l : List Nat) (f : Nat → Int) : S (c :: l) f = f c + S l f := by simp [S]
theorem S_congr {l : List Nat} {f g : Nat → Int} (h : ∀ i ∈ l, f i = g i) : S l f = S l g := by
  unfold S
  rw [List.map_congr_left h]
theorem S_zero : ∀ (l : List Nat), S l (fun _ => 0) = 0
  | [] => rfl
  | c :: l => by rw [S_cons, S_zero l]; rfl
theorem S_add (f g : Nat → Int) : ∀ (l : List Nat), S l (fun i => f i + g i) = S l f + S l g
  | [] => rfl
  | c :: l => by rw [S_cons, S_cons, S_cons, S_add f g l]; omega
theorem S_sub (f g : Nat → Int) : ∀ (l : List Nat), S l (fun i => f i - g i) = S l f - S l g
  | [] => rfl
  | c :: l => by rw [S_cons, S_cons, S_cons, S_sub f g l]; omega
theorem S_mul (a : Int) (f : Nat → Int) : ∀ (l : List Nat), S l (fun i => a * f i) = a * S l f
  | [] => by simp [S_nil]
  | c :: l => by rw [S_cons, S_cons, S_mul a f l]; grind
theorem S_mulr (a : Int) (f : Nat → Int) (l : List Nat) : S l (fun i => f i * a) = S l f * a := by
  rw [Int.mul_comm, ← S_mul]
  exact S_congr fun i _ => Int.mul_comm ..
theorem S_nonneg {f : Nat → Int} : ∀ {l : List Nat}, (∀ i ∈ l, 0 ≤ f i) → 0 ≤ S l f
  | [], _ => Int.le_refl 0
  | c :: l, h => by
    rw [S_cons]
    have h1 := h c (List.mem_cons_self ..)
    have h2 := S_nonneg (l := l) fun i q => h i (List.mem_cons_of_mem _ q)
    omega
theorem S_perm {l m : List Nat} (f : Nat → Int) (h : l.Perm m) : S l f = S m f := by
  induction h with
  | nil => rfl
  | cons x _ ih => rw [S_cons, S_cons, ih]
  | swap x y l => simp only [S_cons]; omega
  | trans _ _ h1 h2 => rw [h1, h2]
theorem S_comm (f : Nat → Nat → Int) (m : List Nat) : ∀ (l : List Nat), S l (fun i => S m fun j => f i j) = S m (fun j => S l fun i => f i j)
  | [] => by
    rw [S_nil]
    exact (S_zero m).symm
  | c :: l => by
    rw [S_cons, S_comm f m l, ← S_add]
    exact S_congr fun j _ => (S_cons c l fun i => f i j).symm
theorem S_one {c : Nat} (f : Nat → Int) : ∀ {l : List Nat}, l.Nodup → c ∈ l → (∀ i ∈ l, i ≠ c → f i = 0) → S l f = f c
  | [], _, h, _ => by cases h
  | d :: l, nd, h, z => by
    rw [S_cons]
    rw [List.nodup_cons] at nd
    by_cases e : d = c
    · subst e
      have : S l f = 0 := by
        rw [← S_zero l]
        exact S_congr fun i q => z i (List.mem_cons_of_mem _ q) fun k => nd.1 (k ▸ q)
      omega
    · have q : c ∈ l := by
        cases h with
        | head => exact absurd rfl e
        | tail _ q => exact q
      rw [z d (List.mem_cons_self ..) e, S_one f nd.2 q fun i q => z i (List.mem_cons_of_mem _ q)]
      omega
/-! ### 4. Never below 0 -/
def Q (F : Nat → Nat → Int) (l : List Nat) (x : Nat → Int) : Int := S l fun i => S l fun j => x i * x j * F i j
def psd (F : Nat → Nat → Int) (l : List Nat) : Prop := ∀ x, 0 ≤ Q F l x
def sym (F : Nat → Nat → Int) : Prop := ∀ i j, F i j = F j i
theorem Q_congr {F : Nat → Nat → Int} {l : List Nat} {x y : Nat → Int} (h : ∀ i ∈ l, x i = y i) : Q F l x = Q F l y :=
  S_congr fun i hi => S_congr fun j hj => by rw [h i hi, h j hj]
theorem Q_cong {F G : Nat → Nat → Int} {l : List Nat} (x : Nat → Int) (h : ∀ i ∈ l, ∀ j ∈ l, F i j = G i j) : Q F l x = Q G l x :=
  S_congr fun i hi => S_congr fun j hj => by rw [h i hi j hj]
theorem psd_cong {F G : Nat → Nat → Int} {l : List Nat} (h : ∀ i ∈ l, ∀ j ∈ l, F i j = G i j) : psd F l ↔ psd G l :=
  ⟨fun k x => Q_cong x h ▸ k x, fun k x => (Q_cong x h).symm ▸ k x⟩
theorem Q_perm {l m : List Nat} (F : Nat → Nat → Int) (x : Nat → Int) (h : l.Perm m) : Q F l x = Q F m x := by
  unfold Q
  rw [S_perm _ h]
  exact S_congr fun i _ => S_perm _ h
theorem psd_perm {l m : List Nat} (F : Nat → Nat → Int) (h : l.Perm m) : psd F l ↔ psd F m :=
  ⟨fun k x => Q_perm F x h ▸ k x, fun k x => (Q_perm F x h).symm ▸ k x⟩
def L (F : Nat → Nat → Int) (c : Nat) (l : List Nat) (x : Nat → Int) : Int := S l fun j => F c j * x j
theorem Q_cons {F : Nat → Nat → Int} (s : sym F) (c : Nat) (l : List Nat) (x : Nat → Int) : Q F (c :: l) x = F c c * (x c * x c) + 2 * (x c * L F c l x) + Q F l x := by
  unfold Q
  rw [S_cons, S_cons]
  have e1 : (S l fun i => S (c :: l) fun j => x i * x j * F i j) = (S l fun i => x c * (F c i * x i)) + S l fun i => S l fun j => x i * x j * F i j := by
    rw [← S_add]
    refine S_congr fun i _ => ?_
    rw [S_cons, s i c]
    grind
  have e2 : (S l fun j => x c * x j * F c j) = S l fun i => x c * (F c i * x i) := S_congr fun i _ => by grind
  rw [e1, e2, S_mul]
  unfold L
  grind
theorem Q_schur {F : Nat → Nat → Int} (s : sym F) (c : Nat) (l : List Nat) (x : Nat → Int) :
    Q (fun i j => F c c * F i j - F i c * F c j) l x = F c c * Q F l x - L F c l x * L F c l x := by
  unfold Q
  have e : ∀ i, (S l fun j => x i * x j * (F c c * F i j - F i c * F c j)) = F c c * (S l fun j => x i * x j * F i j) - (F c i * x i) * L F c l x := by
    intro i
    unfold L
    rw [← S_mul, ← S_mul, ← S_sub]
    refine S_congr fun j _ => ?_
    rw [s i c]
    grind
  simp only [e]
  rw [S_sub, S_mul, S_mulr]
  rfl
theorem L_congr {F : Nat → Nat → Int} {c : Nat} {l : List Nat} {x y : Nat → Int} (h : ∀ i ∈ l, x i = y i) : L F c l x = L F c l y :=
  S_congr fun i hi => by rw [h i hi]
theorem off {c i : Nat} {l : List Nat} (m : c ∉ l) (hi : i ∈ l) : ¬ i = c := fun e => m (e ▸ hi)
theorem sq_nonneg (a : Int) : 0 ≤ a * a := by
  rcases Int.le_total 0 a with h | h
  · exact Int.mul_nonneg h h
  · exact Int.mul_nonneg_of_nonpos_of_nonpos h h
theorem psd_neg {F : Nat → Nat → Int} (s : sym F) {c : Nat} {l : List Nat} (h : F c c < 0) : ¬ psd F (c :: l) ∨ c ∈ l := by
  by_cases m : c ∈ l
  · exact .inr m
  · refine .inl fun k => ?_
    have q := k fun i => if i = c then 1 else 0
    rw [Q_cons s, Q_congr (y := fun _ => 0) fun i hi => if_neg (off m hi), L_congr (y := fun _ => 0) fun i hi => if_neg (off m hi)] at q
    have e1 : L F c l (fun _ => 0) = 0 := by
      unfold L
      simp only [Int.mul_zero]
      exact S_zero l
    have e2 : Q F l (fun _ => 0) = 0 := by
      unfold Q
      simp only [Int.mul_zero, Int.zero_mul]
      rw [S_zero]
      exact S_zero l
    rw [e1, e2] at q
    simp at q
    omega
theorem psd_pos {F : Nat → Nat → Int} (s : sym F) {c : Nat} {l : List Nat} (m : c ∉ l) (h : 0 < F c c) : psd F (c :: l) ↔ psd (fun i j => F c c * F i j - F i c * F c j) l := by
  constructor
  · intro k x
    rw [Q_schur s]
    have q := k fun i => if i = c then - L F c l x else F c c * x i
    have e1 : L F c l (fun i => if i = c then - L F c l x else F c c * x i) = F c c * L F c l x := by
      rw [L_congr (y := fun i => F c c * x i) fun i hi => if_neg (off m hi)]
      unfold L
      rw [← S_mul]
      exact S_congr fun i _ => by grind
    have e2 : Q F l (fun i => if i = c then - L F c l x else F c c * x i) = F c c * F c c * Q F l x := by
      rw [Q_congr (y := fun i => F c c * x i) fun i hi => if_neg (off m hi)]
      unfold Q
      rw [← S_mul]
      refine S_congr fun i _ => ?_
      rw [← S_mul]
      exact S_congr fun j _ => by grind
    rw [Q_cons s, e1, e2] at q
    simp only [if_true] at q
    have e3 : F c c * (-L F c l x * -L F c l x) + 2 * (-L F c l x * (F c c * L F c l x)) + F c c * F c c * Q F l x = F c c * (F c c * Q F l x - L F c l x * L F c l x) := by grind
    rw [e3] at q
    exact Int.nonneg_of_mul_nonneg_right q h
  · intro k x
    have q := k x
    rw [Q_schur s] at q
    have e : F c c * Q F (c :: l) x = (F c c * x c + L F c l x) * (F c c * x c + L F c l x) + (F c c * Q F l x - L F c l x * L F c l x) := by
      rw [Q_cons s]
      grind
    have h2 : 0 ≤ (F c c * x c + L F c l x) * (F c c * x c + L F c l x) := by
      exact sq_nonneg _
    have h3 : 0 ≤ F c c * Q F (c :: l) x := by rw [e]; omega
    exact Int.nonneg_of_mul_nonneg_right h3 h
theorem psd_off {F : Nat → Nat → Int} (s : sym F) {c j : Nat} {l : List Nat} (nd : (c :: l).Nodup) (h : F c c = 0) (hj : j ∈ l) (z : F c j ≠ 0) : ¬ psd F (c :: l) := by
  intro k
  rw [List.nodup_cons] at nd
  have q := k fun i => if i = c then - F c j * ((F j j).natAbs + 1) else if i = j then 1 else 0
  have e0 : ∀ i ∈ l, (fun i => if i = c then - F c j * ((F j j).natAbs + 1) else if i = j then (1 : Int) else 0) i = (fun i => if i = j then (1 : Int) else 0) i := fun i hi => if_neg (off nd.1 hi)
  rw [Q_cons s, Q_congr e0, L_congr e0, h] at q
  have e1 : L F c l (fun i => if i = j then (1 : Int) else 0) = F c j := by
    unfold L
    rw [S_one _ nd.2 hj fun i _ hi => by simp [hi]]
    simp
  have e2 : Q F l (fun i => if i = j then (1 : Int) else 0) = F j j := by
    unfold Q
    rw [S_one _ nd.2 hj fun i _ hi => ?_]
    · rw [S_one _ nd.2 hj fun i _ hi => by simp [hi]]
      simp
    · simp only [hi, if_false, Int.zero_mul]
      exact S_zero l
  rw [e1, e2] at q
  simp only [if_true] at q
  have h1 : 0 < F c j * F c j := by
    rcases Int.lt_or_gt_of_ne z with h | h
    · exact Int.mul_pos_of_neg_of_neg h h
    · exact Int.mul_pos h h
  have h2 : ((F j j).natAbs : Int) + 1 ≤ F c j * F c j * ((F j j).natAbs + 1) := by
    have := Int.mul_le_mul_of_nonneg_right (show (1 : Int) ≤ F c j * F c j by omega) (show (0 : Int) ≤ (F j j).natAbs + 1 by omega)
    omega
  have e3 : -F c j * (((F j j).natAbs : Int) + 1) * F c j = - (F c j * F c j * ((F j j).natAbs + 1)) := by grind
  rw [e3] at q
  omega
theorem psd_drop {F : Nat → Nat → Int} (s : sym F) {c : Nat} {l : List Nat} (h : F c c = 0) (z : ∀ j ∈ l, F c j = 0) : psd F (c :: l) ↔ psd F l := by
  have e : ∀ x, Q F (c :: l) x = Q F l x := by
    intro x
    have e1 : L F c l x = 0 := by
      unfold L
      rw [← S_zero l]
      exact S_congr fun j hj => by rw [z j hj]; simp
    rw [Q_cons s, h, e1]
    simp
  exact ⟨fun k x => e x ▸ k x, fun k x => (e x).symm ▸ k x⟩
theorem psd_scale {F G : Nat → Nat → Int} {D : Int} (hD : 0 < D) {l : List Nat} (h : ∀ i j, D * G i j = F i j) : psd F l ↔ psd G l := by
  have e : ∀ x, Q F l x = D * Q G l x := by
    intro x
    unfold Q
    rw [← S_mul]
    refine S_congr fun i _ => ?_
    rw [← S_mul]
    exact S_congr fun j _ => by rw [← h]; grind
  constructor
  · intro k x
    have q := k x
    rw [e] at q
    exact Int.nonneg_of_mul_nonneg_right q hD
  · intro k x
    rw [e]
    exact Int.mul_nonneg (Int.le_of_lt hD) (k x)
/-! ### 5. The program's way -/
def bar : (Nat → Nat → Int) → Int → List Nat → Bool
  | _, _, [] => true
  | F, D, c :: cs => if F c c < 0 then false else if 0 < F c c then bar (nxt F D c) (F c c) cs else if (c :: cs).any (fun j => F c j != 0) then false else bar F D cs
theorem nxt_sym {F : Nat → Nat → Int} (s : sym F) (D : Int) (c : Nat) : sym (nxt F D c) := fun i j => by
  unfold nxt
  rw [s i j, s i c, s c j, Int.mul_comm (F c i)]
theorem bar_psd : ∀ (l : List Nat) (F : Nat → Nat → Int) (D : Int), sym F → Dv D F → 0 < D → l.Nodup → (bar F D l = true ↔ psd F l)
  | [], F, D, _, _, _, _ => ⟨fun _ _ => Int.le_refl 0, fun _ => rfl⟩
  | c :: cs, F, D, s, v, hD, nd => by
    have nd' := List.nodup_cons.mp nd
    unfold bar
    by_cases h1 : F c c < 0
    · rw [if_pos h1]
      refine ⟨fun h => (Bool.noConfusion h), fun k => ?_⟩
      rcases psd_neg s (l := cs) h1 with q | q
      · exact absurd k q
      · exact absurd q nd'.1
    rw [if_neg h1]
    by_cases h2 : 0 < F c c
    · rw [if_pos h2, psd_pos s nd'.1 h2, psd_scale hD (nxt_exact v c)]
      exact bar_psd cs _ _ (nxt_sym s D c) (nxt_dv v (by omega) c (by omega)) h2 nd'.2
    rw [if_neg h2]
    have h3 : F c c = 0 := by omega
    by_cases h4 : (c :: cs).any (fun j => F c j != 0) = true
    · rw [if_pos h4]
      refine ⟨fun h => (Bool.noConfusion h), fun k => ?_⟩
      obtain ⟨j, hj, z⟩ := List.any_eq_true.mp h4
      have z' : F c j ≠ 0 := by simpa using z
      cases hj with
      | head => exact absurd h3 z'
      | tail _ hj => exact absurd k (psd_off s nd h3 hj z')
    · rw [if_neg h4, bar_psd cs F D s v hD nd'.2]
      refine (psd_drop s h3 fun j hj => ?_).symm
      have := mt List.any_eq_true.mpr h4
      refine Decidable.byContradiction fun z => this ⟨j, List.mem_cons_of_mem _ hj, by simpa using z⟩
end Sw
namespace Sw
/-! ### 6. The specification's way -/
def mat (F : Nat → Nat → Int) (l : List Nat) : List (List Int) := l.map fun i => l.map fun j => F i j
theorem mat_len (F : Nat → Nat → Int) (l : List Nat) : (mat F l).length = l.length := by simp [mat]
theorem entry_mat (F : Nat → Nat → Int) {l : List Nat} {a b : Nat} (ha : a < l.length) (hb : b < l.length) : Sr60.entry (mat F l) a b = F (l.getD a 0) (l.getD b 0) := by
  simp [Sr60.entry, mat, ha, hb]
theorem erase_map : ∀ (l : List Nat) (k : Nat), ((List.range l.length).filter fun i => i ≠ k).map (fun i => l.getD i 0) = l.eraseIdx k
  | [], k => by simp
  | a :: l, k => by
    rw [List.length_cons, List.range_succ_eq_map]
    cases k with
    | zero =>
      have e : ((List.range l.length).map Nat.succ).filter (fun i => decide (i ≠ 0)) = (List.range l.length).map Nat.succ := by
        rw [List.filter_eq_self]
        intro i hi
        obtain ⟨j, _, rfl⟩ := List.mem_map.mp hi
        simp
      rw [List.filter_cons_of_neg (by simp), e, List.map_map, List.eraseIdx_cons_zero]
      apply List.ext_getElem
      · simp
      · intro i h1 h2
        simp at h1
        simp [h1]
    | succ k =>
      have e : ((List.range l.length).map Nat.succ).filter (fun i => decide (i ≠ k + 1)) = ((List.range l.length).filter fun i => decide (i ≠ k)).map Nat.succ := by
        rw [List.filter_map]
        congr 1
        refine List.filter_congr fun i _ => ?_
        simp
      rw [List.filter_cons_of_pos (by simp), e, List.map_cons, List.map_map, List.eraseIdx_cons_succ, ← erase_map l k]
      rfl
theorem without_mat (F : Nat → Nat → Int) (l : List Nat) {k : Nat} (hk : k < l.length) : Sr60.without (mat F l) k = mat (fun i j => F (l.getD k 0) (l.getD k 0) * F i j - F i (l.getD k 0) * F (l.getD k 0) j) (l.eraseIdx k) := by
  rw [← erase_map l k]
  unfold Sr60.without
  rw [mat_len]
  show _ = mat _ _
  unfold mat
  rw [List.map_map]
  refine List.map_congr_left fun i hi => ?_
  show _ = List.map _ _
  rw [List.map_map]
  refine List.map_congr_left fun j hj => ?_
  have hi' : i < l.length := by simpa using (List.mem_filter.mp hi).1
  have hj' : j < l.length := by simpa using (List.mem_filter.mp hj).1
  have e1 := entry_mat F hk hk
  have e2 := entry_mat F hi' hj'
  have e3 := entry_mat F hi' hk
  have e4 := entry_mat F hk hj'
  unfold mat at e1 e2 e3 e4
  rw [e1, e2, e3, e4]
  rfl
theorem get_mem {l : List Nat} {k : Nat} (h : k < l.length) : l.getD k 0 ∈ l := by
  simp [h]
theorem mem_get {l : List Nat} {i : Nat} (h : i ∈ l) : ∃ k, k < l.length ∧ l.getD k 0 = i := by
  obtain ⟨k, hk, e⟩ := List.mem_iff_getElem.mp h
  exact ⟨k, hk, by simp [hk, e]⟩
theorem get_perm : ∀ {l : List Nat} {k : Nat}, k < l.length → l.Perm (l.getD k 0 :: l.eraseIdx k)
  | [], _, h => absurd h (Nat.not_lt_zero _)
  | a :: l, 0, _ => by
    rw [List.eraseIdx_cons_zero]
    exact List.Perm.refl _
  | a :: l, k + 1, h => by
    have ih := get_perm (l := l) (k := k) (Nat.lt_of_succ_lt_succ h)
    rw [List.eraseIdx_cons_succ]
    show (a :: l).Perm (l.getD k 0 :: a :: l.eraseIdx k)
    exact (List.Perm.cons a ih).trans (List.Perm.swap ..)
theorem psd_diag0 {F : Nat → Nat → Int} (s : sym F) {l : List Nat} (nd : l.Nodup) (h : ∀ i ∈ l, F i i = 0) : psd F l ↔ ∀ i ∈ l, ∀ j ∈ l, F i j = 0 := by
  constructor
  · intro k i hi j hj
    refine Decidable.byContradiction fun z => ?_
    obtain ⟨a, ha, e⟩ := mem_get hi
    have p := get_perm ha
    rw [e] at p
    have k' := (psd_perm F p).mp k
    have nd' := p.nodup nd
    have hj' : j ∈ i :: l.eraseIdx a := p.mem_iff.mp hj
    cases hj' with
    | head => exact z (h i hi)
    | tail _ q => exact psd_off s nd' (h i hi) q z k'
  · intro k x
    have e : Q F l x = 0 := by
      unfold Q
      rw [← S_zero l]
      refine S_congr fun i hi => ?_
      rw [← S_zero l]
      refine S_congr fun j hj => ?_
      rw [k i hi j hj, Int.mul_zero]
    rw [e]
    exact Int.le_refl 0
theorem never_psd : ∀ (f : Nat) (l : List Nat) (F : Nat → Nat → Int), sym F → l.Nodup → l.length < f → (Sr60.neverBelow f (mat F l) = true ↔ psd F l)
  | 0, l, F, _, _, h => absurd h (Nat.not_lt_zero _)
  | f + 1, l, F, s, nd, hf => by
    rw [Sr60.neverBelow]
    by_cases h0 : l = []
    · subst h0
      exact ⟨fun _ _ => Int.le_refl 0, fun _ => rfl⟩
    have e0 : ¬ (mat F l).isEmpty = true := by
      rw [List.isEmpty_iff]
      intro q
      have := congrArg List.length q
      rw [mat_len] at this
      exact h0 (List.length_eq_zero_iff.mp this)
    rw [if_neg e0, mat_len]
    by_cases h1 : ((List.range l.length).any fun i => decide (Sr60.entry (mat F l) i i < 0)) = true
    · rw [if_pos h1]
      refine ⟨fun h => Bool.noConfusion h, fun k => ?_⟩
      obtain ⟨a, ha, q⟩ := List.any_eq_true.mp h1
      have ha' : a < l.length := List.mem_range.mp ha
      rw [entry_mat F ha' ha'] at q
      have p := get_perm ha'
      rcases psd_neg s (l := l.eraseIdx a) (of_decide_eq_true q) with r | r
      · exact absurd ((psd_perm F p).mp k) r
      · exact absurd r (List.nodup_cons.mp (p.nodup nd)).1
    · rw [if_neg h1]
      cases e : (List.range l.length).find? fun i => decide (0 < Sr60.entry (mat F l) i i) with
      | some k =>
        have hk : k < l.length := List.mem_range.mp (List.mem_of_find?_eq_some e)
        have q := List.find?_some e
        rw [entry_mat F hk hk] at q
        have hp : 0 < F (l.getD k 0) (l.getD k 0) := of_decide_eq_true q
        have p := get_perm hk
        have nd' := p.nodup nd
        show Sr60.neverBelow f (Sr60.without (mat F l) k) = true ↔ _
        rw [without_mat F l hk, psd_perm F p, psd_pos s (List.nodup_cons.mp nd').1 hp]
        refine never_psd f _ _ (fun i j => ?_) (List.nodup_cons.mp nd').2 ?_
        · show _ - F i _ * F _ j = _ - F j _ * F _ i
          rw [s i j, s i (l.getD k 0), s j (l.getD k 0), Int.mul_comm (F _ i)]
        · rw [List.length_eraseIdx_of_lt hk]
          omega
      | none =>
        show ((mat F l).all fun r => r.all fun x => x == 0) = true ↔ _
        have hz : ∀ i ∈ l, F i i = 0 := by
          intro i hi
          obtain ⟨a, ha, rfl⟩ := mem_get hi
          have q1 := List.find?_eq_none.mp e a (List.mem_range.mpr ha)
          rw [entry_mat F ha ha] at q1
          have q2 : ¬ F (l.getD a 0) (l.getD a 0) < 0 := fun z => h1 (List.any_eq_true.mpr ⟨a, List.mem_range.mpr ha, by rw [entry_mat F ha ha]; exact decide_eq_true z⟩)
          have q3 : ¬ 0 < F (l.getD a 0) (l.getD a 0) := by simpa using q1
          omega
        rw [psd_diag0 s nd hz]
        simp [mat, List.all_eq_true]
theorem bool_eq_of {a b : Bool} {P : Prop} (h1 : a = true ↔ P) (h2 : b = true ↔ P) : a = b := by
  cases a <;> cases b <;> simp_all
theorem bar_never {F : Nat → Nat → Int} {l : List Nat} (s : sym F) (nd : l.Nodup) {f : Nat} (h : l.length < f) : bar F 1 l = Sr60.neverBelow f (mat F l) :=
  bool_eq_of (bar_psd l F 1 s (dv_one F) (by decide) nd) (never_psd f l F s nd h)
end Sw
namespace Sw
/-! ### 7. Graphs as functions -/
def A (g : Sr60.Graph) : Nat → Nat → Int := fun u v => (Sr60.lines g u v : Int)
structure Good (g : Sr60.Graph) : Prop where
  n1 : 1 ≤ g.length
  n2 : g.length ≤ 10
  rows : ∀ r ∈ g, r.length = g.length
  symm : ∀ u v, Sr60.lines g u v = Sr60.lines g v u
  deg : ∀ u, u < g.length → Sr60.degree g u ≤ 12
def gints (g : Sr60.Graph) : List (List Int) := g.map fun r => r.map fun (x : Nat) => (x : Int)
theorem sum_foldl : ∀ (l : List Nat) (a : Nat), l.foldl (· + ·) a = a + l.sum
  | [], a => by simp
  | x :: l, a => by rw [List.foldl_cons, sum_foldl l]; simp; omega
theorem sum_S (f : Nat → Nat) : ∀ (l : List Nat), (((l.map f).sum : Nat) : Int) = S l fun i => (f i : Int)
  | [] => rfl
  | x :: l => by
    rw [S_cons, ← sum_S f l]
    simp
theorem Sum_S (f : Nat → Nat) (l : List Nat) : ((Sr60.sum (l.map f) : Nat) : Int) = S l fun i => (f i : Int) := by
  unfold Sr60.sum
  rw [sum_foldl, Nat.zero_add]
  exact sum_S f l
theorem degree_S (g : Sr60.Graph) (u : Nat) : ((Sr60.degree g u : Nat) : Int) = S (List.range g.length) (A g u) := by
  unfold Sr60.degree
  rw [sum_foldl, Nat.zero_add]
  exact sum_S (Sr60.lines g u) _
theorem range_getD (l : List Nat) : l = (List.range l.length).map fun i => l.getD i 0 := by
  apply List.ext_getElem
  · simp
  · intro i h1 h2
    simp at h2
    simp [h2]
theorem square_mat {g : Sr60.Graph} (h : ∀ r ∈ g, r.length = g.length) : gints g = mat (A g) (List.range g.length) := by
  unfold gints mat
  apply List.ext_getElem
  · simp
  · intro i h1 h2
    have hi : i < g.length := by simpa using h1
    have hr : g[i].length = g.length := h _ (List.getElem_mem hi)
    simp only [List.getElem_map, List.getElem_range]
    apply List.ext_getElem
    · simp [hr]
    · intro j h3 h4
      have hj : j < g[i].length := by simpa using h3
      simp [A, Sr60.lines, hi, hj]
theorem lines_map {n : Nat} {f : Nat → Nat → Nat} {u v : Nat} : Sr60.lines ((List.range n).map fun u => (List.range n).map fun v => f u v) u v = if u < n ∧ v < n then f u v else 0 := by
  unfold Sr60.lines
  by_cases hu : u < n
  · by_cases hv : v < n
    · simp [hu, hv]
    · simp [hu, hv]
  · simp [hu]
theorem lines_out {g : Sr60.Graph} (h : ∀ r ∈ g, r.length = g.length) {u v : Nat} (q : ¬ (u < g.length ∧ v < g.length)) : Sr60.lines g u v = 0 := by
  unfold Sr60.lines
  by_cases hu : u < g.length
  · have hr : g[u].length = g.length := h _ (List.getElem_mem hu)
    have hv : ¬ v < g.length := fun k => q ⟨hu, k⟩
    simp [hu]
    rw [List.getElem?_eq_none (by omega)]
    rfl
  · simp [hu]
theorem map_graph {n : Nat} (f : Nat → Nat → Nat) : ((List.range n).map fun u => (List.range n).map fun v => f u v).length = n := by simp
theorem map_rows {n : Nat} (f : Nat → Nat → Nat) : ∀ r ∈ ((List.range n).map fun u => (List.range n).map fun v => f u v), r.length = ((List.range n).map fun u => (List.range n).map fun v => f u v).length := by
  intro r hr
  obtain ⟨u, _, rfl⟩ := List.mem_map.mp hr
  simp
theorem A_nonneg (g : Sr60.Graph) (u v : Nat) : 0 ≤ A g u v := Int.natCast_nonneg _
theorem mem_le_sum : ∀ {l : List Nat} {f : Nat → Nat} {v : Nat}, v ∈ l → f v ≤ (l.map f).sum
  | a :: l, f, v, h => by
    rw [List.map_cons, List.sum_cons]
    cases h with
    | head => omega
    | tail _ q =>
      have := mem_le_sum (f := f) q
      omega
theorem Good.line12 {g : Sr60.Graph} (G : Good g) (u v : Nat) : Sr60.lines g u v ≤ 12 := by
  by_cases q : u < g.length ∧ v < g.length
  · have h := G.deg u q.1
    unfold Sr60.degree at h
    rw [sum_foldl, Nat.zero_add] at h
    have := mem_le_sum (f := Sr60.lines g u) (List.mem_range.mpr q.2)
    show Sr60.lines g u v ≤ 12
    have e : Sr60.places g = List.range g.length := rfl
    rw [e] at h
    omega
  · rw [lines_out G.rows q]
    omega
/-! ### 8. Walks -/
def Id0 : Nat → Nat → Int := fun i j => if i = j then 1 else 0
def mulF (n : Nat) (F G : Nat → Nat → Int) : Nat → Nat → Int := fun i j => S (List.range n) fun w => F i w * G w j
def W (n : Nat) (F : Nat → Nat → Int) : Nat → Nat → Nat → Int
  | 0 => Id0
  | k + 1 => mulF n (W n F k) F
theorem power_len (g : Sr60.Graph) : ∀ k, (Sr60.power g k).length = g.length
  | 0 => by simp [Sr60.power, Sr60.one, Sr60.places, Sr60.size]
  | k + 1 => by simp [Sr60.power, Sr60.times, Sr60.places, Sr60.size, power_len g k]
theorem power_rows (g : Sr60.Graph) (k : Nat) : ∀ r ∈ Sr60.power g k, r.length = (Sr60.power g k).length := by
  cases k with
  | zero => exact map_rows (n := g.length) (fun u v => if u = v then 1 else 0)
  | succ k =>
    have := map_rows (n := (Sr60.power g k).length) (fun u v => Sr60.sum ((Sr60.places (Sr60.power g k)).map fun w => Sr60.lines (Sr60.power g k) u w * Sr60.lines g w v))
    exact this
theorem lines_one (g : Sr60.Graph) (u v : Nat) : Sr60.lines (Sr60.one g) u v = if u < g.length ∧ v < g.length then (if u = v then 1 else 0) else 0 :=
  lines_map (n := g.length) (f := fun u v => if u = v then 1 else 0)
theorem lines_times (g h : Sr60.Graph) (u v : Nat) : Sr60.lines (Sr60.times g h) u v = if u < g.length ∧ v < g.length then Sr60.sum ((Sr60.places g).map fun w => Sr60.lines g u w * Sr60.lines h w v) else 0 :=
  lines_map (n := g.length) (f := fun u v => Sr60.sum ((Sr60.places g).map fun w => Sr60.lines g u w * Sr60.lines h w v))
theorem power_W (g : Sr60.Graph) : ∀ (k u v : Nat), u < g.length → v < g.length → A (Sr60.power g k) u v = W g.length (A g) k u v
  | 0, u, v, hu, hv => by
    show ((Sr60.lines (Sr60.one g) u v : Nat) : Int) = Id0 u v
    rw [lines_one, if_pos ⟨hu, hv⟩]
    unfold Id0
    split <;> rfl
  | k + 1, u, v, hu, hv => by
    show ((Sr60.lines (Sr60.times (Sr60.power g k) g) u v : Nat) : Int) = mulF g.length (W g.length (A g) k) (A g) u v
    rw [lines_times, power_len, if_pos ⟨hu, hv⟩, Sum_S]
    unfold mulF
    have e : Sr60.places (Sr60.power g k) = List.range g.length := by
      show List.range (Sr60.power g k).length = _
      rw [power_len]
    rw [e]
    refine S_congr fun w hw => ?_
    rw [← power_W g k u w hu (List.mem_range.mp hw)]
    exact Int.natCast_mul ..
theorem mat_congr {F G : Nat → Nat → Int} {l : List Nat} (h : ∀ i ∈ l, ∀ j ∈ l, F i j = G i j) : mat F l = mat G l :=
  List.map_congr_left fun i hi => List.map_congr_left fun j hj => h i hi j hj
theorem power_mat (g : Sr60.Graph) (k : Nat) : gints (Sr60.power g k) = mat (W g.length (A g) k) (List.range g.length) := by
  rw [square_mat (power_rows g k), power_len]
  exact mat_congr fun i hi j hj => power_W g k i j (List.mem_range.mp hi) (List.mem_range.mp hj)
theorem W_nonneg {n : Nat} {F : Nat → Nat → Int} (h : ∀ i j, 0 ≤ F i j) : ∀ k i j, 0 ≤ W n F k i j
  | 0, i, j => by
    show 0 ≤ Id0 i j
    unfold Id0
    split <;> decide
  | k + 1, i, j => S_nonneg fun w _ => Int.mul_nonneg (W_nonneg h k i w) (h w j)
theorem S_le {f g : Nat → Int} : ∀ {l : List Nat}, (∀ i ∈ l, f i ≤ g i) → S l f ≤ S l g
  | [], _ => Int.le_refl 0
  | c :: l, h => by
    rw [S_cons, S_cons]
    have h1 := h c (List.mem_cons_self ..)
    have h2 := S_le (l := l) fun i q => h i (List.mem_cons_of_mem _ q)
    omega
/-- row sums of walks -/
theorem W_rowsum {n : Nat} {F : Nat → Nat → Int} {d : Int} (h : ∀ i j, 0 ≤ F i j) (hd : 0 ≤ d) (hs : ∀ i, i < n → S (List.range n) (F i) ≤ d) : ∀ (k : Nat) (i : Nat), i < n → S (List.range n) (W n F k i) ≤ d ^ k
  | 0, i, hi => by
    have e : S (List.range n) (W n F 0 i) = 1 := by
      rw [S_one (c := i) _ List.nodup_range (List.mem_range.mpr hi) fun j _ q => by
        show Id0 i j = 0
        unfold Id0
        rw [if_neg fun k => q k.symm]]
      show Id0 i i = 1
      unfold Id0
      simp
    rw [e, Int.pow_zero]
    decide
  | k + 1, i, hi => by
    show S (List.range n) (fun j => S (List.range n) fun w => W n F k i w * F w j) ≤ d ^ (k + 1)
    rw [S_comm (fun j w => W n F k i w * F w j)]
    have e : ∀ w, S (List.range n) (fun j => W n F k i w * F w j) = W n F k i w * S (List.range n) (F w) := fun w => S_mul _ _ _
    simp only [e]
    have h1 : S (List.range n) (fun w => W n F k i w * S (List.range n) (F w)) ≤ S (List.range n) fun w => W n F k i w * d := S_le fun w hw => Int.mul_le_mul_of_nonneg_left (hs w (List.mem_range.mp hw)) (W_nonneg h k i w)
    rw [S_mulr] at h1
    have h2 := Int.mul_le_mul_of_nonneg_right (W_rowsum h hd hs k i hi) hd
    rw [Int.pow_succ]
    omega
theorem W_le {n : Nat} {F : Nat → Nat → Int} {d : Int} (h : ∀ i j, 0 ≤ F i j) (hd : 0 ≤ d) (hs : ∀ i, i < n → S (List.range n) (F i) ≤ d) (k : Nat) {i j : Nat} (hi : i < n) (hj : j < n) : W n F k i j ≤ d ^ k := by
  have h1 := W_rowsum h hd hs k i hi
  have h2 : W n F k i j ≤ S (List.range n) (W n F k i) := by
    have q : S (List.range n) (fun w => if w = j then W n F k i w else 0) ≤ S (List.range n) (W n F k i) := S_le fun w _ => by
      split
      · exact Int.le_refl _
      · exact W_nonneg h k i w
    rw [S_one (c := j) _ List.nodup_range (List.mem_range.mpr hj) fun w _ z => if_neg z] at q
    simpa using q
  omega
end Sw
namespace Sw
open PySem PySem.Spec PyProof.Rows L2
/-! ### Rules of my own -/
section
variable {X : Cx}
/-- d[k], d a written dict with ints as keys -/
def KInt (K : PySem.W.Frag) (a : Addr) (k : Int) (v : V) : Prop := ∃ es n u, K.lookup a = some ⟨.type "dict", none, .dict es n, #[]⟩ ∧ (∀ e ∈ es.toList, ∃ i t, e.key = .int i t ∧ e.hash = hashInt i) ∧ findBy Value.isInt es k = some u ∧ RelV v u
def rIxI (K : PySem.W.Frag) : R2 := fun x y H Q => ∃ p k v, x = .ref p ∧ y = .int k ∧ KInt K p k v ∧ Q v H
theorem ix_kint : IxR X (rIxI X.K) := by
  intro value slice pins s σ H x y v u Q I rx ry h hs
  obtain ⟨p, k, r, rfl, rfl, ⟨es, n, u0, hl, hk, e, ru⟩, q⟩ := h
  obtain rfl : v = Value.ref p := rx
  obtain ⟨t, rfl⟩ := ry
  have hm : s.heap.MapOf (intKind X.prog X.w) p (fun k => findBy Value.isInt es k) :=
    ⟨_, es, n, I.kIn _ _ hl, ⟨rfl, rfl, rfl⟩, rfl, fun e he => by
      obtain ⟨x, t, e1, e2⟩ := hk e (Array.mem_toList_iff.mpr he)
      exact ⟨x, by rw [e1]; exact (show (decide (x = x)) = true from decide_eq_true rfl), e2⟩, fun _ => rfl⟩
  exact tail_any hm.typeIs slot_dict_getitem.lookup (wpAny_getItem_of (knd := intKind X.prog X.w) (k := k) (show (decide (k = k)) = true from decide_eq_true rfl) hm e ⟨r, H, I.tok _, ru, q⟩) hs
/-- o[i] of a list, by values -/
def gIxL (K : PySem.W.Frag) : V → V → Hp → VK → Prop := fun x y H Q => ∃ p xs i v, x = .ref p ∧ y = .int i ∧ SqL K H p xs ∧ 0 ≤ i ∧ atI xs i = some v ∧ Q v H
theorem get_list : PGet X (gIxL X.K) := by
  intro pins s σ H x y v u Q I rx ry h
  obtain ⟨p, xs, i, z, rfl, rfl, hq, h0, he, q⟩ := h
  cases rx
  obtain ⟨t, rfl⟩ := ry
  obtain ⟨its, r, pl, hz⟩ := I.list hq
  obtain ⟨j, h1, h2, h3, h4, h5⟩ := atI_get he
  obtain ⟨w, ew, rw'⟩ := r.get h2
  have hl := r.length
  have hn := line63
  have fin : EP X pins σ Q w s := ⟨z, H, I, rw', q⟩
  have hj : i.toNat = j := by
    rw [seqIndex_of h0 h5] at h1
    exact Option.some.inj h1
  exact wpAny_getItem_list pl.isList h0 (by omega) (by rw [hj]; simpa using ew) fin
/-- e1[e2](args): the value that is called is a def -/
def tCallX (Hd : Addr → Sp → Prop) (tf : TE) (t : TA) : TE := fun σ H Q => tf σ H fun v H1 => ∃ f sp, v = .ref f ∧ Hd f sp ∧ t σ H1 fun vs H2 => sp vs H2 Q (fun _ _ _ => False)
theorem pe_callX {k : Nat} {Hd : Addr → Sp → Prop} {a b e : Expr} {es : List Expr} {p pos : Pos} {tf : TE} {t : TA} (A : ∀ f sp, Hd f sp → Held X.prog X.w X.K X.mg X.base k f sp) (hr : Room k X.A) (hf : PE X (.Subscript a b p) tf) (ha : PA X (e :: es) t)
    (he : starEach (e :: es) X.env = (false, eval e X.env) :: starEach es X.env := by rfl) (hpl : (backTo pos (starEach es X.env)).any (·.1) = false := by rfl)
    (hc : eval (.Call (.Subscript a b p) (e :: es) [] pos) X.env = (do callWith pos (← eval (.Subscript a b p) X.env) [] (backTo pos (starEach (e :: es) X.env)) (backToKw pos (keywordEach [] X.env))) := by rfl) : PE X (.Call (.Subscript a b p) (e :: es) [] pos) (tCallX Hd tf t) := by
  refine ⟨fun pins s σ H Q I h => ?_⟩
  refine Call_ (thn (hf.run pins s σ H _ I h) fun u s1 ⟨v, H1, I1, r1, q1⟩ => ?_) hc
  obtain ⟨f, sp, rfl, hS, ht⟩ := q1
  obtain ⟨fd, ps, F, hk, hb⟩ := (A f sp hS).ex
  cases r1
  refine PySem.W.callWith_K (h₀ := X.base) I.ok.mod.kin hk (thn (ha.run pos pins s1 σ _ _ I1 ht) fun us s2 ⟨vs, H2, I2, r, q⟩ => ⟨I2.kIn, ?_⟩) he hpl
  exact run_fn (sp := sp) (dvs := []) (E := fun _ _ _ => False) F hr hb .nil (fun _ _ _ _ _ _ _ z => z.elim) I2 r (by rw [List.append_nil]; exact q)
end
end Sw
namespace Sw
open PySem PySem.Spec PyProof.Rows L2
/-! ### The text -/
def top (i : Nat) : Stmt := PySem.Challenge.pw_spreadwalks_s01_answers.main.body.getD i (.Pass ⟨0, 0, 0, 0⟩)
/-! ### A def that is called by its name -/
structure Cl (P : Program) (w : World) (K : PySem.W.Frag) (mg : Str → Option Value) (base : Heap) (k : Nat) (x : Str) (sp : Sp) : Prop where
  ex : ∃ (f : Addr) (fd : FuncData) (ps : List Str), FnOk P w K mg base CX0 k f fd ps sp ∧ mg x = some (.ref f) ∧ PySem.W.keepIn K (.ref f) = true ∧ Binds K fd ps []
def tCl (sp : Sp) (t : TA) : TE := tCall sp [] E0 t
theorem pe_cl {X : Cx} {k j : Nat} {x : Str} {sp : Sp} {p pos : Pos} {e : Expr} {es : List Expr} {t : TA} (c : Cl X.prog X.w X.K X.mg X.base k x sp) (hr : Room j X.A) (hk : k ≤ j) (hg : Gl X x) (ha : PA X (e :: es) t)
    (hdb : (x == ("__debug__" : Str)) = false := by decide) (he : starEach (e :: es) X.env = (false, eval e X.env) :: starEach es X.env := by rfl) (hpl : (backTo pos (starEach es X.env)).any (·.1) = false := by rfl) :
    PE X (.Call (.Name x p) (e :: es) [] pos) (tCl sp t) := by
  obtain ⟨f, fd, ps, F, hm, kp, b⟩ := c.ex
  exact pe_call F (hr.mono hk) hg hm kp b .nil pass0 ha hdb he hpl
/-- a def of the module, under its name, all its parameters given -/
structure Df (K : PySem.W.Frag) (mg : Str → Option Value) (x : Str) (i : Nat) (ps : List Str) : Prop where
  ex : ∃ (f : Addr) (fd : FuncData), Fun K x x (top i) f fd ∧ mg x = some (.ref f) ∧ Binds K fd ps []
section
variable {P : Program} {w : World} {K : PySem.W.Frag} {mg : Str → Option Value} {base : Heap}
theorem Df.cl {x : Str} {i : Nat} {N ps : List Str} {k : Nat} {sp : Sp} (D : Df K mg x i ps) (S : FnScope N ps (defScope (top i))) (len : ∀ vs H Q E, sp vs H Q E → vs.length = ps.length)
    (body : ∀ (f : Addr) (cdv : Value) (A : Around) (outer : List Env) (s : Shared) (H : Hp) (vs : List V) (Q : VK) (E : XK), Room k (A.deeper (envOfC x (defScope (top i)) s.heap.objs.size f cdv)) → sp vs H Q E →
      ∃ t, PSs (cxOf CX0 P w K mg base N x (defScope (top i)) f cdv A outer s H E).nox (defBody (top i)) t ∧ t { nx := fun _ H' => Q .non H', rt := Q } (start N vs) H) : Cl P w K mg base (k + 1) x sp := by
  obtain ⟨f, fd, F, hm, b⟩ := D.ex
  exact ⟨f, fd, ps, F.ok S len (body f), hm, F.kp, b⟩
end
/-! ### The builtins that the program calls -/
structure Bi (mg : Str → Option Value) : Prop where
  range : mg "range" = none
  len : mg "len" = none
  sum : mg "sum" = none
  zip : mg "zip" = none
  any : mg "any" = none
  all : mg "all" = none
  min : mg "min" = none
  max : mg "max" = none
  abs : mg "abs" = none
  enumerate : mg "enumerate" = none
  list : mg "list" = none
/-! ### Heaps -/
theorem same_upd {H H1 : Hp} {a : Addr} {o : HO} (s : Same H H1) (n : H a = none) : Same H (upd H1 a o) := fun b q e => by
  rw [upd_ne (ne_of_none e n)]
  exact s b q e
def IntsAt (H : Hp) (a : Addr) (ns : List Int) : Prop := H a = some (.lst (ns.map V.int))
theorem IntsAt.same {H H' : Hp} {a : Addr} {ns : List Int} (h : IntsAt H a ns) (s : Same H H') : IntsAt H' a ns := s _ _ h
/-- rows, row by row -/
inductive Rows (H : Hp) : List Addr → List (List Int) → Prop
  | nil : Rows H [] []
  | cons {a : Addr} {r : List Int} {as : List Addr} {m : List (List Int)} : IntsAt H a r → Rows H as m → Rows H (a :: as) (r :: m)
theorem Rows.same {H H' : Hp} (s : Same H H') : ∀ {as : List Addr} {m : List (List Int)}, Rows H as m → Rows H' as m
  | _, _, .nil => .nil
  | _, _, .cons h t => .cons (h.same s) (t.same s)
theorem Rows.length {H : Hp} : ∀ {as : List Addr} {m : List (List Int)}, Rows H as m → as.length = m.length
  | _, _, .nil => rfl
  | _, _, .cons _ t => congrArg (· + 1) t.length
theorem Rows.get {H : Hp} : ∀ {as : List Addr} {m : List (List Int)} {i : Nat} {r : List Int}, Rows H as m → m[i]? = some r → ∃ a, as[i]? = some a ∧ IntsAt H a r
  | _, _, _, _, .nil, h => by simp at h
  | _, _, 0, _, .cons (a := a) h t, e => by
    obtain rfl := Option.some.inj e
    exact ⟨a, rfl, h⟩
  | _, _, i + 1, _, .cons h t, e => by
    obtain ⟨b, h1, h2⟩ := t.get (i := i) (by simpa using e)
    exact ⟨b, by simpa using h1, h2⟩
theorem Rows.snoc {H : Hp} {a : Addr} {r : List Int} : ∀ {as : List Addr} {m : List (List Int)}, Rows H as m → IntsAt H a r → Rows H (as ++ [a]) (m ++ [r])
  | _, _, .nil, k => .cons k .nil
  | _, _, .cons h t, k => .cons h (t.snoc k)
theorem Rows.keep {H H' : Hp} : ∀ {as : List Addr} {m : List (List Int)}, Rows H as m → (∀ b ∈ as, ∀ o, H b = some o → H' b = some o) → Rows H' as m
  | _, _, .nil, _ => .nil
  | _, _, .cons h t, k => .cons (k _ (List.mem_cons_self ..) _ h) (t.keep fun b q => k b (List.mem_cons_of_mem _ q))
def MatAt (H : Hp) (a : Addr) (m : List (List Int)) : Prop := ∃ as : List Addr, H a = some (.lst (as.map V.ref)) ∧ Rows H as m
theorem MatAt.same {H H' : Hp} {a : Addr} {m : List (List Int)} (h : MatAt H a m) (s : Same H H') : MatAt H' a m := by
  obtain ⟨as, h1, h2⟩ := h
  exact ⟨as, s _ _ h1, h2.same s⟩
/-- .. all of it new since H -/
def NewAt (H H' : Hp) (a : Addr) (m : List (List Int)) : Prop := H a = none ∧ ∃ as : List Addr, H' a = some (.lst (as.map V.ref)) ∧ Rows H' as m ∧ (∀ b ∈ as, H b = none) ∧ as.Nodup ∧ a ∉ as
theorem NewAt.mat {H H' : Hp} {a : Addr} {m : List (List Int)} (h : NewAt H H' a m) : MatAt H' a m := by
  obtain ⟨_, as, h1, h2, _⟩ := h
  exact ⟨as, h1, h2⟩
theorem yesT {σ : L2.St} {H : Hp} {A B : Hp → Prop} (h : A H) : tYes σ H fun b H3 => if b = true then A H3 else B H3 := by
  show if true = true then A H else B H
  exact iteT h
theorem refs_get {as : List Addr} {i : Nat} {x : V} (h : (as.map V.ref)[i]? = some x) : ∃ b, as[i]? = some b ∧ x = V.ref b := by
  rw [List.getElem?_map] at h
  cases e : as[i]? with
  | none => rw [e] at h; cases h
  | some b => rw [e] at h; exact ⟨b, rfl, (Option.some.inj h).symm⟩
theorem ints_get {ns : List Int} {i : Nat} {x : V} (h : (ns.map V.int)[i]? = some x) : ∃ b, ns[i]? = some b ∧ x = V.int b := by
  rw [List.getElem?_map] at h
  cases e : ns[i]? with
  | none => rw [e] at h; cases h
  | some b => rw [e] at h; exact ⟨b, rfl, (Option.some.inj h).symm⟩
theorem Rows.at {H : Hp} {as : List Addr} {m : List (List Int)} {i : Nat} {x : V} (hm : Rows H as m) (hx : (as.map V.ref)[i]? = some x) : ∃ b r, x = .ref b ∧ as[i]? = some b ∧ m[i]? = some r ∧ IntsAt H b r ∧ i < m.length := by
  obtain ⟨b, hb, rfl⟩ := refs_get hx
  have hi : i < m.length := by
    rw [← hm.length]
    exact (List.getElem?_eq_some_iff.mp hb).1
  obtain ⟨b', hb', hr'⟩ := hm.get (i := i) (r := m[i]) (by simp [hi])
  obtain rfl : b = b' := Option.some.inj (hb.symm.trans hb')
  exact ⟨b, m[i], rfl, hb, by simp [hi], hr', hi⟩
theorem ref_at {as : List Addr} {i : Nat} {b : Addr} {z : Int} (h : as[i]? = some b) (e : z = (i : Int)) : atI (as.map V.ref) z = some (.ref b) := at_of e (by rw [List.getElem?_map, h]; rfl)
theorem int_at {ns : List Int} {i : Nat} {x z : Int} (h : ns[i]? = some x) (e : z = (i : Int)) : atI (ns.map V.int) z = some (.int x) := at_of e (by rw [List.getElem?_map, h]; rfl)
/-- what list(x), len(x) ask, by the written part -/
def rLO (K : PySem.W.Frag) : List V → Hp → VK → Prop := fun xs H Q => ∃ p ys, xs = [V.ref p] ∧ (SqL K H p ys ∨ SqT K H p ys) ∧ ∀ l, H l = none → Q (V.ref l) (upd H l (.lst ys))
def rLS (K : PySem.W.Frag) : List V → Hp → VK → Prop := fun xs H Q => ∃ p ys, xs = [V.ref p] ∧ (SqL K H p ys ∨ SqT K H p ys) ∧ Q (.int ys.length) H
theorem NewAt.older {H0 H H' : Hp} {a : Addr} {m : List (List Int)} (h : NewAt H H' a m) (s : Same H0 H) : NewAt H0 H' a m := by
  obtain ⟨q1, bs, q2, q3, q4, q5, q6⟩ := h
  exact ⟨s.free q1, bs, q2, q3, fun b hb => s.free (q4 b hb), q5, q6⟩
theorem NewAt.same {H H' H2 : Hp} {a : Addr} {m : List (List Int)} (h : NewAt H H' a m) (s : Same H' H2) : NewAt H H2 a m := by
  obtain ⟨q1, bs, q2, q3, q4, q5, q6⟩ := h
  exact ⟨q1, bs, s _ _ q2, q3.same s, q4, q5, q6⟩
/-- a comprehension's list, so far -/
structure Fill (H1 : Hp) (D : Addr) (f : Nat → V) (i : Nat) (H : Hp) : Prop where
  same : Same H1 H
  lst : H D = some (.lst ((List.range i).map f))
theorem Fill.start {H1 : Hp} {D : Addr} {f : Nat → V} (n : H1 D = none) : Fill H1 D f 0 (upd H1 D (.lst [])) := ⟨same_upd (Same.refl _) n, upd_same⟩
theorem Fill.step {H1 : Hp} {D : Addr} {f : Nat → V} {i : Nat} {H H' : Hp} (n : H1 D = none) (p : Fill H1 D f i H) (s : Same H H') (hi : i < sizeLine) (y : V) (e : y = f i) :
    ∃ acc, H' D = some (.lst acc) ∧ acc.length < sizeLine ∧ Fill H1 D f (i + 1) (upd H' D (.lst (acc ++ [y]))) := by
  refine ⟨_, s _ _ p.lst, by simpa using hi, same_upd (p.same.trans s) n, ?_⟩
  rw [upd_same, List.range_succ, List.map_append, e]
  rfl
theorem fill_ints {H1 : Hp} {D : Addr} {f : Nat → Int} {i : Nat} {H : Hp} (p : Fill H1 D (fun j => V.int (f j)) i H) : IntsAt H D ((List.range i).map f) := by
  have e := p.lst
  show H D = _
  rw [e, List.map_map]
  rfl
/-- a comprehension's list of new lists, so far -/
structure FillR (H1 : Hp) (D : Addr) (f : Nat → List Int) (i : Nat) (H : Hp) : Prop where
  same : Same H1 H
  ex : ∃ as : List Addr, H D = some (.lst (as.map V.ref)) ∧ Rows H as ((List.range i).map f) ∧ (∀ b ∈ as, H1 b = none ∧ b ≠ D) ∧ as.Nodup
theorem FillR.start {H1 : Hp} {D : Addr} {f : Nat → List Int} (n : H1 D = none) : FillR H1 D f 0 (upd H1 D (.lst [])) := ⟨same_upd (Same.refl _) n, [], upd_same, .nil, fun _ h => (nomatch h), List.nodup_nil⟩
theorem Rows.held {H : Hp} {as : List Addr} {m : List (List Int)} (h : Rows H as m) : ∀ b ∈ as, ∃ o, H b = some o := by
  induction h with
  | nil => exact fun b q => (nomatch q)
  | cons h t ih =>
    intro b q
    rcases List.mem_cons.mp q with e | e
    · rw [e]
      exact ⟨_, h⟩
    · exact ih b e
theorem FillR.step {H1 : Hp} {D r : Addr} {f : Nat → List Int} {i : Nat} {H H' : Hp} (n : H1 D = none) (p : FillR H1 D f i H) (s : Same H H') (hr : H r = none) (e : IntsAt H' r (f i)) (hi : i < sizeLine) :
    ∃ acc, H' D = some (.lst acc) ∧ acc.length < sizeLine ∧ FillR H1 D f (i + 1) (upd H' D (.lst (acc ++ [.ref r]))) := by
  obtain ⟨as, h1, h2, h3, h4⟩ := p.ex
  have hl := h2.length
  have rD : r ≠ D := fun k => by rw [k, h1] at hr; cases hr
  refine ⟨_, s _ _ h1, by simpa [hl] using hi, same_upd (p.same.trans s) n, as ++ [r], ?_, ?_, ?_, ?_⟩
  · rw [upd_same, List.map_append]
    rfl
  · rw [List.range_succ, List.map_append]
    refine Rows.snoc (h2.keep fun b hb o q => ?_) ?_
    · rw [upd_ne (h3 b hb).2]
      exact s _ _ q
    · show upd H' D _ r = _
      rw [upd_ne rD]
      exact e
  · intro b hb
    rcases List.mem_append.mp hb with q | q
    · exact h3 b q
    · rw [List.mem_singleton.mp q]
      exact ⟨p.same.free hr, rD⟩
  · rw [List.nodup_append]
    refine ⟨h4, by simp, fun x hx y hy k => ?_⟩
    rw [List.mem_singleton.mp hy] at k
    obtain ⟨o, q⟩ := h2.held x hx
    rw [k, hr] at q
    cases q
theorem FillR.new {H1 : Hp} {D : Addr} {f : Nat → List Int} {i : Nat} {H : Hp} (n : H1 D = none) (p : FillR H1 D f i H) : NewAt H1 H D ((List.range i).map f) := by
  obtain ⟨as, h1, h2, h3, h4⟩ := p.ex
  exact ⟨n, as, h1, h2, fun b q => (h3 b q).1, h4, fun q => (h3 D q).2 rfl⟩
theorem FillR.mat {H1 : Hp} {D : Addr} {f : Nat → List Int} {i : Nat} {H : Hp} (p : FillR H1 D f i H) : MatAt H D ((List.range i).map f) := by
  obtain ⟨as, h1, h2, _⟩ := p.ex
  exact ⟨as, h1, h2⟩
/-- a row of a new matrix is stored anew -/
theorem Rows.set {H H' : Hp} {b : Addr} {r : List Int} : ∀ {as : List Addr} {m : List (List Int)} {i : Nat}, Rows H as m → as.Nodup → as[i]? = some b → (∀ c ∈ as, c ≠ b → ∀ o, H c = some o → H' c = some o) → IntsAt H' b r → Rows H' as (m.set i r)
  | _, _, _, .nil, _, h, _, _ => by simp at h
  | a :: as, x :: m, 0, .cons h t, nd, e, k, q => by
    obtain rfl : a = b := Option.some.inj e
    have nd' := List.nodup_cons.mp nd
    exact .cons q (t.keep fun c hc o z => k c (List.mem_cons_of_mem _ hc) (fun y => nd'.1 (y ▸ hc)) o z)
  | a :: as, x :: m, i + 1, .cons h t, nd, e, k, q => by
    have nd' := List.nodup_cons.mp nd
    have e' : as[i]? = Option.some b := by simpa using e
    have hb : b ∈ as := List.mem_of_getElem? e'
    exact .cons (k a (List.mem_cons_self ..) (fun y => nd'.1 (y ▸ hb)) _ h) (t.set nd'.2 e' (fun c hc => k c (List.mem_cons_of_mem _ hc)) q)
theorem NewAt.put {H H' : Hp} {p : Addr} {m : List (List Int)} {i : Nat} {r : List Int} (h : NewAt H H' p m) (e : m[i]? = some r) :
    ∃ (as : List Addr) (b : Addr), H' p = some (.lst (as.map V.ref)) ∧ as[i]? = some b ∧ as.length = m.length ∧ IntsAt H' b r ∧ H b = none ∧ b ≠ p ∧ ∀ r' : List Int, NewAt H (upd H' b (.lst (r'.map V.int))) p (m.set i r') := by
  obtain ⟨n, as, h1, h2, h3, h4, h5⟩ := h
  obtain ⟨b, h6, h7⟩ := h2.get e
  have hb : b ∈ as := List.mem_of_getElem? h6
  have bp : b ≠ p := fun k => h5 (k ▸ hb)
  refine ⟨as, b, h1, h6, h2.length, h7, h3 b hb, bp, fun r' => ⟨n, as, ?_, ?_, h3, h4, h5⟩⟩
  · rw [upd_ne (Ne.symm bp)]
    exact h1
  · refine h2.set h4 h6 (fun c _ hc o q => ?_) upd_same
    rw [upd_ne hc]
    exact q
theorem set_map {l : List Int} {j : Nat} {c : Int} : (l.map V.int).set j (V.int c) = (l.set j c).map V.int := List.map_set.symm
theorem ixN_nat {n j : Nat} (h : j < n) : ixN n (j : Int) = some j := by
  unfold ixN
  rw [if_pos (by omega), if_pos (by omega)]
  rfl
theorem mat_get {F : Nat → Nat → Int} {n i : Nat} (h : i < n) : (mat F (List.range n))[i]? = some ((List.range n).map (F i)) := by
  simp [mat, h]
theorem mat_set {F : Nat → Nat → Int} {n i j : Nat} {c : Int} (hi : i < n) (hj : j < n) : (mat F (List.range n)).set i (((List.range n).map (F i)).set j c) = mat (fun a b => if a = i ∧ b = j then c else F a b) (List.range n) := by
  apply List.ext_getElem
  · simp [mat]
  · intro a h1 h2
    have ha : a < n := by simpa [mat] using h1
    apply List.ext_getElem
    · simp [mat, List.getElem_set]
      split <;> simp
    · intro b h3 h4
      simp [mat, List.getElem_set]
      by_cases e : i = a
      · subst e
        by_cases e2 : j = b
        · subst e2
          simp
        · simp [e2, List.getElem_set, Ne.symm e2]
      · simp [e, Ne.symm e]
end Sw
namespace Sw
open PySem PySem.Spec PyProof.Rows L2
section
variable {P : Program} {w : World} {K : PySem.W.Frag} {mg : Str → Option Value} {base : Heap}
/-! zeros(n) -/
def spZeros : Sp := fun vs H Q _ => ∃ n : Nat, vs = [.int (n : Int)] ∧ n ≤ 1000 ∧
  ∀ H' p, Same H H' → NewAt H H' p (mat (fun _ _ => 0) (List.range n)) → Q (.ref p) H'
theorem sc_zeros : FnScope ["n", "place"] ["n"] (defScope (top 1)) := ⟨rfl, rfl, rfl, by decide +kernel, rfl, by decide +kernel, by decide +kernel⟩
theorem rep_zero (n : Nat) : (List.replicate n [V.int 0]).flatten = (((List.range n).map fun _ => (0 : Int)).map V.int) := by
  rw [List.map_map]
  induction n with
  | zero => rfl
  | succ n ih => rw [List.replicate_succ', List.flatten_append, ih, List.range_succ, List.map_append]; rfl
theorem cl_zeros (B : Bi mg) (D : Df K mg "zeros" 1 ["n"]) : Cl P w K mg base 1 "zeros" spZeros := by
  refine D.cl sc_zeros (fun vs H Q E h => ?_) (fun f cdv A outer s H vs Q E hr h => ?_)
  · obtain ⟨n, rfl, _⟩ := h
    rfl
  · obtain ⟨n, rfl, hn, k⟩ := h
    refine ⟨_, pss_one (ps_ret (pe_lc (own := [("place", 1)]) (g := gName 1) (tt := tYes) rfl sc_zeros.nd (pi_range1 rfl B.range (pa_cons (pv 0) pa_nil)) (blkOk_by (N := ["n", "place"]) (sc := defScope (top 1)) (by decide +kernel))
      (fun _ _ _ _ _ => pg_name (i := 1) sc_zeros.nd rfl (Or.inl rfl)) (fun _ _ _ _ _ => pts_nil) (fun _ _ _ _ _ => pe_op op_rep (pe_lst (pa_cons pe_int pa_nil)) (pv 0)))), ?_⟩
    refine ⟨_, rfl, (n : Int), rfl, by omega, by omega, fun D hD => lc_range (lo := 0) (n := n) (FillR H D fun _ => (List.range n).map fun _ => (0 : Int)) (FillR.start hD) (fun i H2 hi p => ?_) (fun H2 p => ?_)⟩
    · refine ⟨rfl, yesT ⟨by decide, fun l hl => ⟨_, rfl, l, (n : Int), _, rfl, rfl, upd_same, by omega, by omega, ?_, fun r hr2 => ?_⟩⟩⟩
      · show 1 * n ≤ sizeLine
        have : 1000 ≤ sizeLine := by decide
        omega
      · have rl : r ≠ l := fun e => by rw [e, upd_same] at hr2; cases hr2
        refine FillR.step hD p (same_upd (same_upd (Same.refl _) hl) (by rwa [upd_ne rl] at hr2)) (by rwa [upd_ne rl] at hr2) ?_ (small1000 (by omega))
        show upd _ r _ r = _
        rw [upd_same]
        congr 2
        exact rep_zero n
    · exact k H2 D p.same (p.new hD)
/-! identity(n) -/
def spIdentity : Sp := fun vs H Q _ => ∃ n : Nat, vs = [.int (n : Int)] ∧ n ≤ 1000 ∧
  ∀ H' p, Same H H' → NewAt H H' p (mat Id0 (List.range n)) → Q (.ref p) H'
theorem sc_identity : FnScope ["n", "rows", "place"] ["n"] (defScope (top 2)) := ⟨rfl, rfl, rfl, by decide +kernel, rfl, by decide +kernel, by decide +kernel⟩
theorem cl_identity (B : Bi mg) (cZ : Cl P w K mg base 1 "zeros" spZeros) (D : Df K mg "identity" 2 ["n"]) : Cl P w K mg base 2 "identity" spIdentity := by
  refine D.cl sc_identity (fun vs H Q E h => ?_) (fun f cdv A outer s H vs Q E hr h => ?_)
  · obtain ⟨n, rfl, _⟩ := h
    rfl
  · obtain ⟨n, rfl, hn, k⟩ := h
    refine ⟨_, pss_cons (ps_set (i := 1) sc_identity.nd rfl (Or.inl rfl) (pe_cl cZ hr (by decide) rfl (pa_cons (pv 0) pa_nil)))
      (pss_cons (ps_for PassesOwn.never rfl (pi_range1 rfl B.range (pa_cons (pv 0) pa_nil)) (pg_name (i := 2) sc_identity.nd rfl (Or.inl rfl))
        (pss_one (ps_asg pe_int (pg_sub (pe_ix ix_list (pv 1) (pv 2) (fun _ _ => rfl)) (pv 2) set_list))))
      (pss_one (ps_ret (pv 1)))), ?_⟩
    refine ⟨_, rfl, n, rfl, hn, fun H1 p s1 N1 => ?_⟩
    refine ⟨_, rfl, (n : Int), rfl, by omega, by omega, for_range (lo := 0) (n := n) (fun i σ H' => ∃ v : Option V, σ = [some (.int (n : Int)), some (.ref p), v] ∧ Same H H' ∧ NewAt H H' p (mat (fun a b => if a = b ∧ a < i then 1 else 0) (List.range n))) ⟨none, rfl, s1, ?_⟩ (fun i σ H2 hi ⟨v, e, s2, N2⟩ => ?_) (fun σ H2 ⟨v, e, s2, N2⟩ => ?_)⟩
    · rw [mat_congr (G := fun _ _ => 0) fun a _ b _ => if_neg fun z => by omega]
      exact N1
    · subst e
      obtain ⟨as, b, h1, h2, h3, h4, h5, h6, h7⟩ := N2.put (mat_get hi)
      refine ⟨_, rfl, _, rfl, p, _, ((0 : Int) + i), .ref b, rfl, rfl, SqL.of h1, at_of (j := i) (by omega) (by rw [List.getElem?_map, h2]; rfl), _, rfl, b, _, (0 : Int) + i, i, rfl, rfl, h4, ?_, ?_⟩
      · have z : (0 : Int) + i = ((i : Nat) : Int) := by omega
        rw [z]
        exact ixN_nat (by simpa using hi)
      · refine ⟨some (.int ((0 : Int) + i)), rfl, same_upd s2 h5, ?_⟩
        have q := h7 (((List.range n).map ((fun a b => if a = b ∧ a < i then 1 else 0) i)).set i 1)
        rw [mat_set hi hi, mat_congr (G := fun a b => if a = b ∧ a < i + 1 then 1 else 0) fun a _ b _ => ?_] at q
        · rw [set_map]
          exact q
        · by_cases z : a = i ∧ b = i
          · rw [if_pos z, if_pos (by omega)]
          · rw [if_neg z]
            by_cases y : a = b ∧ a < i
            · rw [if_pos y, if_pos (by omega)]
            · rw [if_neg y, if_neg (by omega)]
    · subst e
      refine ⟨_, rfl, k H2 p s2 ?_⟩
      rw [mat_congr (G := fun a b => if a = b ∧ a < n then 1 else 0) fun a ha b _ => ?_]
      · exact N2
      · have ha' := List.mem_range.mp ha
        unfold Id0
        by_cases z : a = b
        · rw [if_pos z, if_pos ⟨z, ha'⟩]
        · rw [if_neg z, if_neg fun y => z y.1]
/-! copied(matrix) -/
def spCopied : Sp := fun vs H Q _ => ∃ (a : Addr) (m : List (List Int)), vs = [.ref a] ∧ MatAt H a m ∧ m.length ≤ 1000 ∧
  ∀ H' p, Same H H' → NewAt H H' p m → Q (.ref p) H'
theorem sc_copied : FnScope ["matrix", "row"] ["matrix"] (defScope (top 3)) := ⟨rfl, rfl, rfl, by decide +kernel, rfl, by decide +kernel, by decide +kernel⟩
theorem range_get (m : List (List Int)) : (List.range m.length).map (fun i => m.getD i []) = m := by
  apply List.ext_getElem
  · simp
  · intro i h1 h2
    simp [h2]
theorem getD_of {m : List (List Int)} {i : Nat} {r : List Int} (h : m[i]? = some r) : m.getD i [] = r := by simp [h]
theorem cl_copied (B : Bi mg) (D : Df K mg "copied" 3 ["matrix"]) : Cl P w K mg base 1 "copied" spCopied := by
  refine D.cl sc_copied (fun vs H Q E h => ?_) (fun f cdv A outer s H vs Q E hr h => ?_)
  · obtain ⟨a, m, rfl, _⟩ := h
    rfl
  · obtain ⟨a, m, rfl, ⟨as, ha, hm⟩, hl, k⟩ := h
    refine ⟨_, pss_one (ps_ret (pe_lc (own := [("row", 1)]) (g := gName 1) (tt := tYes) (te := tCB (rLO K) (tCons (tVar 1) tNil)) rfl sc_copied.nd (pi_list (pv 0)) (blkOk_by (N := ["matrix", "row"]) (sc := defScope (top 3)) (by decide +kernel))
      (fun _ _ _ _ _ => pg_name (i := 1) sc_copied.nd rfl (Or.inl rfl)) (fun _ _ _ _ _ => pts_nil) (fun _ _ _ _ _ => pe_callTy (T := "list") call_list_of (by rfl) B.list (by decide +kernel) (pa_cons (pv 1) pa_nil)))), ?_⟩
    have e0 := hm.length
    refine ⟨_, rfl, a, rfl, ⟨_, SqL.of ha⟩, fun D hD => lc_list (K := K) (a := a) (xs := as.map V.ref) (FillR H D fun i => m.getD i []) (FillR.start hD) (fun i H2 _ p => SqL.of (p.same _ _ ha)) (fun i x H2 hx p => ?_) (fun H2 p => ?_)⟩
    · obtain ⟨b, hb, rfl⟩ : ∃ b, as[i]? = some b ∧ x = V.ref b := by
        rw [List.getElem?_map] at hx
        cases e : as[i]? with
        | none => rw [e] at hx; cases hx
        | some b => rw [e] at hx; exact ⟨b, rfl, (Option.some.inj hx).symm⟩
      have hi : i < m.length := by
        rw [← e0]
        exact (List.getElem?_eq_some_iff.mp hb).1
      obtain ⟨b', hb', hr'⟩ := hm.get (i := i) (r := m[i]) (by simp [hi])
      obtain rfl : b = b' := Option.some.inj (hb.symm.trans hb')
      refine ⟨rfl, yesT ⟨_, rfl, b, _, rfl, .inl (SqL.of (p.same _ _ hr')), fun l hl2 => ?_⟩⟩
      refine FillR.step hD p (same_upd (Same.refl _) hl2) hl2 ?_ (small1000 (by omega))
      rw [getD_of (r := m[i]) (by simp [hi])]
      exact upd_same
    · have q := p.new hD
      rw [List.length_map, e0, range_get] at q
      exact k H2 D p.same q
end
end Sw
namespace Sw
open PySem PySem.Spec PyProof.Rows L2
section
variable {P : Program} {w : World} {K : PySem.W.Frag} {mg : Str → Option Value} {base : Heap}
/-! column(matrix, place) -/
def spColumn : Sp := fun vs H Q _ => ∃ (a : Addr) (m : List (List Int)) (j : Nat), vs = [.ref a, .int (j : Int)] ∧ MatAt H a m ∧ m.length ≤ 1000 ∧ (∀ r ∈ m, j < r.length) ∧
  ∀ H' p, Same H H' → H p = none → IntsAt H' p (m.map fun r => r.getD j 0) → Q (.ref p) H'
theorem sc_column : FnScope ["matrix", "place", "row"] ["matrix", "place"] (defScope (top 4)) := ⟨rfl, rfl, rfl, by decide +kernel, rfl, by decide +kernel, by decide +kernel⟩
theorem map_range (m : List (List Int)) (j : Nat) : (List.range m.length).map (fun i => (m.getD i []).getD j 0) = m.map fun r => r.getD j 0 := by
  conv => rhs; rw [← range_get m]
  rw [List.map_map]
  rfl
theorem cl_column (D : Df K mg "column" 4 ["matrix", "place"]) : Cl P w K mg base 1 "column" spColumn := by
  refine D.cl sc_column (fun vs H Q E h => ?_) (fun f cdv A outer s H vs Q E hr h => ?_)
  · obtain ⟨a, m, j, rfl, _⟩ := h
    rfl
  · obtain ⟨a, m, j, rfl, ⟨as, ha, hm⟩, hl, hj, k⟩ := h
    refine ⟨_, pss_one (ps_ret (pe_lc (own := [("row", 2)]) (g := gName 2) (tt := tYes) (te := tOp (rIxL K) (tVar 2) (tVar 1)) rfl sc_column.nd (pi_list (pv 0)) (blkOk_by (N := ["matrix", "place", "row"]) (sc := defScope (top 4)) (by decide +kernel))
      (fun _ _ _ _ _ => pg_name (i := 2) sc_column.nd rfl (Or.inl rfl)) (fun _ _ _ _ _ => pts_nil) (fun _ _ _ _ _ => pe_ix ix_list (pv 2) (pv 1) (fun _ _ => rfl)))), ?_⟩
    have e0 := hm.length
    refine ⟨_, rfl, a, rfl, ⟨_, SqL.of ha⟩, fun D hD => lc_list (K := K) (a := a) (xs := as.map V.ref) (Fill H D fun i => V.int ((m.getD i []).getD j 0)) (Fill.start hD) (fun i H2 _ p => SqL.of (p.same _ _ ha)) (fun i x H2 hx p => ?_) (fun H2 p => ?_)⟩
    · obtain ⟨b, r, rfl, hb, hr', hI, hi⟩ := hm.at hx
      have hjr := hj r (List.mem_of_getElem? hr')
      refine ⟨rfl, yesT ⟨_, rfl, _, rfl, b, _, (j : Int), .int (r.getD j 0), rfl, rfl, SqL.of (p.same _ _ hI), int_at (i := j) (by simp [hjr]) rfl, ?_⟩⟩
      exact Fill.step hD p (Same.refl _) (small1000 (by omega)) _ (by rw [getD_of hr'])
    · have q := fill_ints p
      rw [List.length_map, e0, map_range] at q
      exact k H2 D p.same hD q
/-! dot(ones, others) -/
def spDot (K : PySem.W.Frag) : Sp := fun vs H Q _ => ∃ (a b : Addr) (xs ys : List Int), vs = [.ref a, .ref b] ∧ IntsAt H a xs ∧ IntsAt H b ys ∧ xs.length = ys.length ∧ xs.length ≤ 1000 ∧ (∀ (i : Nat) (x y : Int), xs[i]? = some x → ys[i]? = some y → CMul x y) ∧
  ∀ H', Same H H' → Q (.int (List.zipWith (· * ·) xs ys).sum) H'
theorem sc_dot : FnScope ["ones", "others", "one", "other"] ["ones", "others"] (defScope (top 5)) := ⟨rfl, rfl, rfl, by decide +kernel, rfl, by decide +kernel, by decide +kernel⟩
theorem zip_range : ∀ (xs ys : List Int), xs.length = ys.length → (List.range xs.length).map (fun i => xs.getD i 0 * ys.getD i 0) = List.zipWith (· * ·) xs ys := by
  intro xs ys h
  apply List.ext_getElem
  · simp [h]
  · intro i h1 h2
    have hi : i < xs.length := by simpa using h1
    simp [hi, show i < ys.length by omega]
theorem cl_dot (B : Bi mg) (D : Df K mg "dot" 5 ["ones", "others"]) : Cl P w K mg base 1 "dot" (spDot K) := by
  refine D.cl sc_dot (fun vs H Q E h => ?_) (fun f cdv A outer s H vs Q E hr h => ?_)
  · obtain ⟨a, b, xs, ys, rfl, _⟩ := h
    rfl
  · obtain ⟨a, b, xs, ys, rfl, ha, hb, hl, hn, hc, k⟩ := h
    refine ⟨_, pss_one (ps_ret (pe_callB (cr_sum rfl) (by rfl) B.sum (by decide +kernel) (pa_cons (pe_lc (own := [("one", 2), ("other", 3)]) (g := gTup K 2 (gCons (gName 2) (gCons (gName 3) gNil))) (tt := tYes) rfl sc_dot.nd
      (pi_zip (by rfl) B.zip (pa_cons (pv 0) (pa_cons (pv 1) pa_nil))) (blkOk_by (N := ["ones", "others", "one", "other"]) (sc := defScope (top 5)) (by decide +kernel))
      (fun _ _ _ _ _ => pg_tup rfl (pgs_cons (pg_name (i := 2) sc_dot.nd rfl (Or.inl rfl)) (pgs_cons (pg_name (i := 3) sc_dot.nd rfl (Or.inl rfl)) pgs_nil))) (fun _ _ _ _ _ => pts_nil) (fun _ _ _ _ _ => pe_op op_mul (pv 2) (pv 3))) pa_nil))), ?_⟩
    refine ⟨_, rfl, _, rfl, a, b, _, _, rfl, SqL.of ha, SqL.of hb, fun D hD => lc_it (walk_zip (K := K) (a := a) (b := b) (xs := xs.map V.int) (ys := ys.map V.int) (n := xs.length) (by simp [hl])) (Fill H D fun i => V.int (xs.getD i 0 * ys.getD i 0)) (Fill.start hD) (fun i H2 _ p => ⟨SqL.of (p.same _ _ ha), SqL.of (p.same _ _ hb)⟩) (fun i x H2 H3 hi p y => ?_) (fun H2 p => ?_)⟩
    · obtain ⟨T, x1, y1, rfl, hT, rfl, hx, hy⟩ := y
      obtain ⟨u, hu, rfl⟩ := ints_get hx
      obtain ⟨v, hv, rfl⟩ := ints_get hy
      refine ⟨T, _, rfl, SqT.of upd_same, rfl, _, _, rfl, _, _, rfl, rfl, rfl, yesT ⟨_, rfl, _, rfl, u, v, rfl, rfl, hc i u v hu hv, ?_⟩⟩
      exact Fill.step hD p (same_upd (Same.refl _) hT) (small1000 (by omega)) _ (by simp [hu, hv])
    · have q := fill_ints p
      rw [zip_range xs ys hl] at q
      exact ⟨D, _, rfl, SqL.of q, k H2 p.same⟩
end
end Sw
namespace Sw
open PySem PySem.Spec PyProof.Rows L2
theorem zip_maps (l : List Nat) (f g : Nat → Int) : (List.zipWith (· * ·) (l.map f) (l.map g)).sum = S l fun i => f i * g i := by
  unfold S
  congr 1
  induction l with
  | nil => rfl
  | cons a l ih => simp [ih]
theorem map_getD (l : List Nat) (f : Nat → Int) {i : Nat} (h : i < l.length) : (l.map f)[i]? = some (f (l.getD i 0)) := by simp [h]
section
variable {P : Program} {w : World} {K : PySem.W.Frag} {mg : Str → Option Value} {base : Heap}
/-! product(first, second) -/
def spProduct (K : PySem.W.Frag) : Sp := fun vs H Q _ => ∃ (a b : Addr) (n : Nat) (F G : Nat → Nat → Int), vs = [.ref a, .ref b] ∧ MatAt H a (mat F (List.range n)) ∧ MatAt H b (mat G (List.range n)) ∧ n ≤ 1000 ∧ (∀ i j, i < n → j < n → -(2 ^ 64) < G i j ∧ G i j < 2 ^ 64) ∧
  ∀ H' p, Same H H' → NewAt H H' p (mat (mulF n F G) (List.range n)) → Q (.ref p) H'
theorem sc_product : FnScope ["first", "second", "columns", "rows", "row", "place", "other"] ["first", "second"] (defScope (top 6)) := ⟨rfl, rfl, rfl, by decide +kernel, rfl, by decide +kernel, by decide +kernel⟩
theorem cl_product (B : Bi mg) (cC : Cl P w K mg base 1 "column" spColumn) (cD : Cl P w K mg base 1 "dot" (spDot K)) (D : Df K mg "product" 6 ["first", "second"]) : Cl P w K mg base 2 "product" (spProduct K) := by
  refine D.cl sc_product (fun vs H Q E h => ?_) (fun f cdv A outer s H vs Q E hr h => ?_)
  · obtain ⟨a, b, n, F, G, rfl, _⟩ := h
    rfl
  · obtain ⟨a, b, n, F, G, rfl, ⟨as, ha, hA⟩, ⟨bs, hb, hB⟩, hn, hG, k⟩ := h
    refine ⟨_, pss_cons (ps_setLc (i := 2) (own := [("place", 5)]) (g := gName 5) (tt := tYes) (te := tCl spColumn (tCons (tVar 1) (tCons (tVar 5) tNil))) (by rfl) sc_product.nd rfl rfl (sw_true rfl rfl rfl (by decide +kernel))
        (pi_range1 rfl B.range (pa_cons (pe_callB call_len_seq (by rfl) B.len boot_len (pa_cons (pv 1) pa_nil)) pa_nil)) (blkOk_by (N := ["first", "second", "columns", "rows", "row", "place", "other"]) (sc := defScope (top 6)) (by decide +kernel))
        (fun _ _ _ _ _ => pg_name (i := 5) sc_product.nd rfl (Or.inl rfl)) (fun _ _ _ _ _ => pts_nil) (fun _ _ _ _ _ => pe_cl cC hr (by decide) rfl (pa_cons (pv 1) (pa_cons (pv 5) pa_nil))))
      (pss_cons (ps_set (i := 3) sc_product.nd rfl (Or.inl rfl) (pe_lst pa_nil))
      (pss_cons (ps_for PassesOwn.never rfl (pi_list (pv 0)) (pg_name (i := 4) sc_product.nd rfl (Or.inr rfl))
        (pss_one (ps_expr (pe_bm PySem.F.plainAttrs_list PySem.F.slot_list_append PySem.F.type_list_append mt_append (pv 3)
          (pa_cons (pe_lc (own := [("other", 6)]) (g := gName 6) (tt := tYes) (te := tCl (spDot K) (tCons (tVar 4) (tCons (tVar 6) tNil))) rfl sc_product.nd (pi_list (pv 2)) (blkOk_by (N := ["first", "second", "columns", "rows", "row", "place", "other"]) (sc := defScope (top 6)) (by decide +kernel))
            (fun _ _ _ _ _ => pg_name (i := 6) sc_product.nd rfl (Or.inl rfl)) (fun _ _ _ _ _ => pts_nil) (fun _ _ _ _ _ => pe_cl cD hr (by decide) rfl (pa_cons (pv 4) (pa_cons (pv 6) pa_nil)))) pa_nil)))))
      (pss_one (ps_ret (pv 3))))), ?_⟩
    have lB := hB.length
    rw [mat_len, List.length_range] at lB
    have lA := hA.length
    rw [mat_len, List.length_range] at lA
    refine ⟨_, rfl, b, _, rfl, .inl (SqL.of hb), (n : Int), ?_, by omega, by omega, fun D hD => lc_range (lo := 0) (n := n) (FillR H D fun j => (List.range n).map fun i => G i j) (FillR.start hD) (fun j H2 hj p => ?_) (fun H2 p => ?_)⟩
    · rw [List.length_map, lB]
    · refine ⟨rfl, yesT ⟨_, rfl, _, rfl, b, mat G (List.range n), j, ?_, ⟨bs, p.same _ _ hb, hB.same p.same⟩, by rw [mat_len, List.length_range]; exact hn, ?_, fun H3 r s3 n3 I3 => ?_⟩⟩
      · show [V.ref b, V.int (0 + (j : Int))] = [V.ref b, V.int (j : Int)]
        rw [Int.zero_add]
      · intro r hr
        obtain ⟨i, _, rfl⟩ := List.mem_map.mp hr
        simpa using hj
      · refine FillR.step hD p s3 n3 ?_ (small1000 (by omega))
        unfold mat at I3
        rw [List.map_map] at I3
        have e : ((fun r : List Int => r.getD j 0) ∘ fun i => (List.range n).map fun j => G i j) = fun i => G i j := by
          funext i
          simp [hj]
        rw [e] at I3
        exact I3
    · obtain ⟨cs, hc, hC⟩ := p.mat
      have s2 := p.same
      refine ⟨by decide, fun R hR => ?_⟩
      have sR : Same H2 (upd H2 R (.lst [])) := same_upd (Same.refl _) hR
      refine ⟨_, rfl, a, rfl, ⟨_, SqL.of ((s2.trans sR) _ _ ha)⟩, for_list (K := K) (a := a) (xs := as.map V.ref) (fun i σ H' => ∃ v : Option V, σ = [some (.ref a), some (.ref b), some (.ref D), some (.ref R), v, none, none] ∧ FillR H2 R (fun i => (List.range n).map (mulF n F G i)) i H')
        ⟨none, rfl, FillR.start hR⟩ (fun i σ H' _ ⟨v, _, p2⟩ => SqL.of ((s2.trans p2.same) _ _ ha)) (fun i x σ H3 hx ⟨v, e, p2⟩ => ?_) (fun σ H3 ⟨v, e, p2⟩ => ?_)⟩
      · subst e
        obtain ⟨r, row, rfl, hr1, hrow, hI, hi⟩ := hA.at hx
        rw [mat_len, List.length_range] at hi
        rw [mat_get hi] at hrow
        obtain rfl := Option.some.inj hrow
        obtain ⟨ws, hw, hW, hW2, hW3⟩ := p2.ex
        refine ⟨_, rfl, Or.inl ⟨rfl, _, Or.inl (Or.inl hw)⟩, _, rfl, D, rfl, ⟨_, SqL.of (p2.same _ _ hc)⟩, fun E hE => lc_list (K := K) (a := D) (xs := cs.map V.ref) (Fill H3 E fun j => V.int (mulF n F G i j)) (Fill.start hE) (fun j H4 _ p4 => SqL.of ((p2.same.trans p4.same) _ _ hc)) (fun j y H4 hy p4 => ?_) (fun H4 p4 => ?_)⟩
        · obtain ⟨c, col, rfl, hc1, hcol, hJ, hj⟩ := hC.at hy
          have hj' : j < n := by simpa using hj
          rw [List.getElem?_map, List.getElem?_range hj'] at hcol
          obtain rfl := Option.some.inj hcol
          have s4 := (s2.trans p2.same).trans p4.same
          refine ⟨rfl, yesT ⟨_, rfl, _, rfl, r, c, _, _, rfl, s4 _ _ hI, (p2.same.trans p4.same) _ _ hJ, by simp, by simpa using hn, ?_, fun H5 s5 => ?_⟩⟩
          · intro i' x y h1 h2
            refine .inr ?_
            have hi' : i' < n := by
              have := (List.getElem?_eq_some_iff.mp h2).1
              simpa using this
            rw [List.getElem?_map, List.getElem?_range hi'] at h2
            obtain rfl := Option.some.inj h2
            exact hG i' j hi' hj'
          · exact Fill.step hE p4 s5 (small1000 (by omega)) _ (by rw [zip_maps]; rfl)
        · have q := fill_ints p4
          rw [List.length_map, hC.length, List.length_map, List.length_range] at q
          have hER : E ≠ R := fun e => by rw [e, hw] at hE; cases hE
          obtain ⟨acc, h1, h2, h3⟩ := FillR.step hR p2 p4.same hE q (small1000 (by omega))
          exact ⟨R, acc, _, rfl, rfl, h1, h2, _, rfl, h3⟩
      · subst e
        refine ⟨_, rfl, k H3 R (s2.trans p2.same) ?_⟩
        have q := (p2.new hR).older s2
        rw [List.length_map, lA] at q
        exact q
/-! walks(lines, k) -/
def spWalks (K : PySem.W.Frag) : Sp := fun vs H Q _ => ∃ (a : Addr) (n k : Nat) (F : Nat → Nat → Int), vs = [.ref a, .int (k : Int)] ∧ MatAt H a (mat F (List.range n)) ∧ n ≤ 1000 ∧ k ≤ 1000 ∧ (∀ i j, i < n → j < n → -(2 ^ 64) < F i j ∧ F i j < 2 ^ 64) ∧
  ∀ H' p, Same H H' → NewAt H H' p (mat (W n F k) (List.range n)) → Q (.ref p) H'
theorem sc_walks : FnScope ["lines", "k", "counts", "step"] ["lines", "k"] (defScope (top 7)) := ⟨rfl, rfl, rfl, by decide +kernel, rfl, by decide +kernel, by decide +kernel⟩
theorem MatAt.len {H : Hp} {a : Addr} {m : List (List Int)} (h : MatAt H a m) : ∃ as : List Addr, H a = some (.lst (as.map V.ref)) ∧ as.length = m.length := by
  obtain ⟨as, h1, h2⟩ := h
  exact ⟨as, h1, h2.length⟩
theorem cl_walks (B : Bi mg) (cI : Cl P w K mg base 2 "identity" spIdentity) (cP : Cl P w K mg base 2 "product" (spProduct K)) (D : Df K mg "walks" 7 ["lines", "k"]) : Cl P w K mg base 3 "walks" (spWalks K) := by
  refine D.cl sc_walks (fun vs H Q E h => ?_) (fun f cdv A outer s H vs Q E hr h => ?_)
  · obtain ⟨a, n, k, F, rfl, _⟩ := h
    rfl
  · obtain ⟨a, n, k, F, rfl, hA, hn, hk, hF, kk⟩ := h
    refine ⟨_, pss_cons (ps_set (i := 2) sc_walks.nd rfl (Or.inl rfl) (pe_cl cI hr (by decide) rfl (pa_cons (pe_callB call_len_seq (by rfl) B.len boot_len (pa_cons (pv 0) pa_nil)) pa_nil)))
      (pss_cons (ps_for PassesOwn.never rfl (pi_range1 rfl B.range (pa_cons (pv 1) pa_nil)) (pg_name (i := 3) sc_walks.nd rfl (Or.inl rfl))
        (pss_one (ps_set (i := 2) sc_walks.nd rfl (Or.inl rfl) (pe_cl cP hr (by decide) rfl (pa_cons (pv 2) (pa_cons (pv 0) pa_nil))))))
      (pss_one (ps_ret (pv 2)))), ?_⟩
    obtain ⟨as, ha, la⟩ := hA.len
    rw [mat_len, List.length_range] at la
    refine ⟨_, rfl, a, _, rfl, .inl (SqL.of ha), n, by rw [List.length_map, la]; rfl, hn, fun H1 p s1 M1 => ?_⟩
    refine ⟨_, rfl, (k : Int), rfl, by omega, by omega, for_range (lo := 0) (n := k) (fun i σ H' => ∃ (c : Addr) (v : Option V), σ = [some (.ref a), some (.int (k : Int)), some (.ref c), v] ∧ Same H H' ∧ NewAt H H' c (mat (W n F i) (List.range n)))
      ⟨p, none, rfl, s1, M1⟩ (fun i σ H2 hi ⟨c, v, e, s2, M2⟩ => ?_) (fun σ H2 ⟨c, v, e, s2, M2⟩ => ?_)⟩
    · subst e
      refine ⟨_, rfl, _, rfl, c, a, n, W n F i, F, rfl, M2.mat, hA.same s2, hn, hF, fun H3 q s3 M3 => ?_⟩
      exact ⟨q, _, rfl, s2.trans s3, M3.older s2⟩
    · subst e
      exact ⟨_, rfl, kk H2 c s2 M2⟩
end
end Sw
namespace Sw
open PySem PySem.Spec PyProof.Rows L2
theorem cut1 (xs : List V) : cutV xs (some 1) none = xs.drop 1 := by
  unfold cutV
  have e : HT.sIx xs.length 0 (some 1) = min 1 xs.length := HT.sIx_nat xs.length 0 1
  rw [e, HT.sIx_none]
  cases xs with
  | nil => rfl
  | cons a r =>
    have z : min 1 (a :: r).length = 1 := by rw [List.length_cons]; omega
    rw [z]
    refine List.take_of_length_le ?_
    rw [List.length_drop]
    omega
theorem Rows.drop1 {H : Hp} {as : List Addr} {m : List (List Int)} (h : Rows H as m) : Rows H (as.drop 1) (m.drop 1) := by
  cases h with
  | nil => exact .nil
  | cons _ t => exact t
section
variable {P : Program} {w : World} {K : PySem.W.Frag} {mg : Str → Option Value} {base : Heap}
/-! behind_first(matrix) -/
def spBehind : Sp := fun vs H Q _ => ∃ (a : Addr) (m : List (List Int)), vs = [.ref a] ∧ MatAt H a m ∧ m.length ≤ 1000 ∧
  ∀ H' p, Same H H' → MatAt H' p ((m.drop 1).map fun r => r.drop 1) → Q (.ref p) H'
theorem sc_behind : FnScope ["matrix", "row"] ["matrix"] (defScope (top 8)) := ⟨rfl, rfl, rfl, by decide +kernel, rfl, by decide +kernel, by decide +kernel⟩
theorem map_get_range (m : List (List Int)) (g : List Int → List Int) : (List.range m.length).map (fun i => g (m.getD i [])) = m.map g := by
  conv => rhs; rw [← range_get m]
  rw [List.map_map]
  rfl
theorem cl_behind (D : Df K mg "behind_first" 8 ["matrix"]) : Cl P w K mg base 1 "behind_first" spBehind := by
  refine D.cl sc_behind (fun vs H Q E h => ?_) (fun f cdv A outer s H vs Q E hr h => ?_)
  · obtain ⟨a, m, rfl, _⟩ := h
    rfl
  · obtain ⟨a, m, rfl, ⟨as, ha, hm⟩, hl, k⟩ := h
    refine ⟨_, pss_one (ps_ret (pe_lc (own := [("row", 1)]) (g := gName 1) (tt := tYes) (te := tSl (rSlL K) (tVar 1) (tPart (tC (.int 1))) tNoPart) rfl sc_behind.nd (pi_list (pe_slice sl_list (pv 0) (po_some pe_int) po_none)) (blkOk_by (N := ["matrix", "row"]) (sc := defScope (top 8)) (by decide +kernel))
      (fun _ _ _ _ _ => pg_name (i := 1) sc_behind.nd rfl (Or.inl rfl)) (fun _ _ _ _ _ => pts_nil) (fun _ _ _ _ _ => pe_slice sl_list (pv 1) (po_some pe_int) po_none))), ?_⟩
    have hm1 := hm.drop1
    have e0 := hm1.length
    have l1 : (m.drop 1).length ≤ 1000 := by rw [List.length_drop]; omega
    refine ⟨_, rfl, _, rfl, a, _, rfl, SqL.of ha, fun b hb => ⟨b, rfl, ⟨_, SqL.of upd_same⟩, fun D hD => ?_⟩⟩
    have s1 : Same H (upd H b (.lst (cutV (as.map V.ref) (some 1) none))) := same_upd (Same.refl _) hb
    have h1 : upd H b (.lst (cutV (as.map V.ref) (some 1) none)) b = some (.lst ((as.drop 1).map V.ref)) := by rw [upd_same, cut1, List.map_drop]
    refine lc_list (K := K) (a := b) (xs := (as.drop 1).map V.ref) (FillR _ D fun i => ((m.drop 1).getD i []).drop 1) (FillR.start hD) (fun i H2 _ p => SqL.of (p.same _ _ h1)) (fun i x H2 hx p => ?_) (fun H2 p => ?_)
    · obtain ⟨c, r, rfl, hc, hr', hI, hi⟩ := hm1.at hx
      refine ⟨rfl, yesT ⟨_, rfl, _, rfl, c, _, rfl, SqL.of (p.same _ _ (s1 _ _ hI)), fun q hq => ?_⟩⟩
      refine FillR.step hD p (same_upd (Same.refl _) hq) hq ?_ (small1000 (by omega))
      show upd _ q _ q = _
      rw [upd_same, cut1, getD_of hr', List.map_drop]
    · have q := p.mat
      rw [List.length_map, e0, map_get_range] at q
      exact k H2 D (s1.trans p.same) q
/-! cleared_row(row, first, divisor) -/
def spCleared (K : PySem.W.Frag) : Sp := fun vs H Q _ => ∃ (a b : Addr) (F : Nat → Nat → Int) (i c : Nat) (cs : List Nat) (D : Int) (n : Nat), vs = [.ref a, .ref b, .int D] ∧ IntsAt H a ((c :: cs).map (F i)) ∧ IntsAt H b ((c :: cs).map (F c)) ∧ cs.length ≤ 900 ∧ 0 < n ∧ n ≤ 400000 ∧
  (∀ j ∈ c :: cs, (F i j).natAbs < 2 ^ n ∧ (F c j).natAbs < 2 ^ n) ∧ 0 < D ∧ D.natAbs < 2 ^ 9000 ∧
  ∀ H' p, Same H H' → H p = none → IntsAt H' p (cs.map (nxt F D c i)) → Q (.ref p) H'
theorem sc_cleared : FnScope ["row", "first", "divisor", "place"] ["row", "first", "divisor"] (defScope (top 9)) := ⟨rfl, rfl, rfl, by decide +kernel, rfl, by decide +kernel, by decide +kernel⟩
def rMulW : R2 := rI CMulW fun i j => .int (i * j)
def rDivW : R2 := rI CDivW fun i j => .int (i / j)
def rSubI : R2 := rI0 fun i j => .int (i - j)
theorem range_cs (cs : List Nat) (f : Nat → Int) : (List.range cs.length).map (fun p => f (cs.getD p 0)) = cs.map f := by
  conv => rhs; rw [range_getD cs]
  rw [List.map_map]
  rfl
theorem cl_cleared (B : Bi mg) (D : Df K mg "cleared_row" 9 ["row", "first", "divisor"]) : Cl P w K mg base 1 "cleared_row" (spCleared K) := by
  refine D.cl sc_cleared (fun vs H Q E h => ?_) (fun f cdv A outer s H vs Q E hr h => ?_)
  · obtain ⟨a, b, F, i, c, cs, D, n, rfl, _⟩ := h
    rfl
  · obtain ⟨a, b, F, i, c, cs, D, n, rfl, ha, hb, hl, hn0, hn, hF, hD0, hD9, k⟩ := h
    refine ⟨_, pss_one (ps_ret (pe_lc (own := [("place", 3)]) (g := gName 3) (tt := tYes)
      (te := tOp rDivW (tOp rSubI (tOp rMulW (tOp (rIxL K) (tVar 1) (tC (.int 0))) (tOp (rIxL K) (tVar 0) (tVar 3))) (tOp rMulW (tOp (rIxL K) (tVar 0) (tC (.int 0))) (tOp (rIxL K) (tVar 1) (tVar 3)))) (tVar 2)) rfl sc_cleared.nd
      (pi_range2 rfl B.range (pa_cons pe_int (pa_cons (pe_callB call_len_seq (by rfl) B.len boot_len (pa_cons (pv 0) pa_nil)) pa_nil))) (blkOk_by (N := ["row", "first", "divisor", "place"]) (sc := defScope (top 9)) (by decide +kernel))
      (fun _ _ _ _ _ => pg_name (i := 3) sc_cleared.nd rfl (Or.inl rfl)) (fun _ _ _ _ _ => pts_nil)
      (fun _ _ _ _ _ => pe_op op_fdivW (pe_op op_sub (pe_op op_mulW (pe_ix ix_list (pv 1) pe_int (fun _ _ => rfl)) (pe_ix ix_list (pv 0) (pv 3) (fun _ _ => rfl))) (pe_op op_mulW (pe_ix ix_list (pv 0) pe_int (fun _ _ => rfl)) (pe_ix ix_list (pv 1) (pv 3) (fun _ _ => rfl)))) (pv 2)))), ?_⟩
    refine ⟨_, rfl, a, _, rfl, .inl (SqL.of ha), 1, _, rfl, ⟨by decide, by decide, by simp; omega, by simp; omega⟩, fun E hE => ?_⟩
    have e1 : ((((((c :: cs).map (F i)).map V.int).length : Nat) : Int) - 1).toNat = cs.length := by simp
    rw [e1]
    refine lc_range (lo := 1) (n := cs.length) (Fill H E fun p => V.int (nxt F D c i (cs.getD p 0))) (Fill.start hE) (fun p H2 hp q => ?_) (fun H2 q => ?_)
    · have hm : cs.getD p 0 ∈ c :: cs := List.mem_cons_of_mem _ (get_mem hp)
      have h0 := hF c (List.mem_cons_self ..)
      have h1 := hF _ hm
      have g : ∀ f : Nat → Int, ((c :: cs).map f)[p + 1]? = some (f (cs.getD p 0)) := fun f => by simp [hp]
      refine ⟨rfl, yesT ⟨_, rfl, b, _, 0, _, rfl, rfl, SqL.of (q.same _ _ hb), int_at (i := 0) rfl rfl, _, rfl, _, rfl, a, _, _, _, rfl, rfl, SqL.of (q.same _ _ ha), int_at (i := p + 1) (g _) (by omega), _, _, rfl, rfl, wide_mul h0.2 h1.1 hn0 hn0 (by omega), ?_⟩⟩
      refine ⟨_, rfl, a, _, 0, _, rfl, rfl, SqL.of (q.same _ _ ha), int_at (i := 0) rfl rfl, _, rfl, _, rfl, b, _, _, _, rfl, rfl, SqL.of (q.same _ _ hb), int_at (i := p + 1) (g _) (by omega), _, _, rfl, rfl, wide_mul h0.1 h1.2 hn0 hn0 (by omega), ?_⟩
      refine ⟨_, _, rfl, rfl, _, rfl, _, _, rfl, rfl, wide_div hD0 hD9 (by decide) (by decide), ?_⟩
      exact Fill.step hE q (Same.refl _) (small1000 (by omega)) _ rfl
    · have z := fill_ints q
      rw [range_cs] at z
      exact k H2 E q.same hE z
end
end Sw
namespace Sw
open PySem PySem.Spec PyProof.Rows L2
theorem range_map {α : Type} (cs : List Nat) (f : Nat → α) : (List.range cs.length).map (fun p => f (cs.getD p 0)) = cs.map f := by
  conv => rhs; rw [range_getD cs]
  rw [List.map_map]
  rfl
theorem get_some {l : List Nat} {i : Nat} (h : i < l.length) : l[i]? = some (l.getD i 0) := by
  rw [List.getD_eq_getElem?_getD, List.getElem?_eq_getElem h]
  rfl
theorem pow_half (t : Nat) : 15 * 2 ^ (t + 1) = 30 * 2 ^ t := by rw [Nat.pow_succ]; omega
theorem pow_pos (t : Nat) : 1 ≤ 2 ^ t := Nat.one_le_two_pow
/-- how many bits: behind t steps 30 2^t less 1 -/
theorem nxt_bits {F : Nat → Nat → Int} {D : Int} {c i j t : Nat} (hD : 0 < D) (h1 : (F c c).natAbs < 2 ^ (30 * 2 ^ t - 1)) (h2 : (F i j).natAbs < 2 ^ (30 * 2 ^ t - 1)) (h3 : (F i c).natAbs < 2 ^ (30 * 2 ^ t - 1)) (h4 : (F c j).natAbs < 2 ^ (30 * 2 ^ t - 1)) :
    (nxt F D c i j).natAbs < 2 ^ (30 * 2 ^ (t + 1) - 1) := by
  have p := pow_pos t
  have e : 30 * 2 ^ (t + 1) - 1 = (30 * 2 ^ t - 1 + (30 * 2 ^ t - 1)) + 1 := by rw [Nat.pow_succ]; omega
  have a1 := wide_lt h1 h2
  have a2 := wide_lt h3 h4
  have a3 : (F c c * F i j - F i c * F c j).natAbs < 2 ^ (30 * 2 ^ (t + 1) - 1) := by
    rw [e, Nat.pow_succ]
    omega
  refine Nat.lt_of_le_of_lt ?_ a3
  unfold nxt
  exact Int.natAbs_ediv_le_natAbs _ _
section
variable {P : Program} {w : World} {K : PySem.W.Frag} {mg : Str → Option Value} {base : Heap}
/-! never_below_zero(matrix) -/
def spNever (K : PySem.W.Frag) : Sp := fun vs H Q _ => ∃ (a : Addr) (F : Nat → Nat → Int) (l : List Nat), vs = [.ref a] ∧ MatAt H a (mat F l) ∧ l.length ≤ 10 ∧ (∀ i ∈ l, ∀ j ∈ l, (F i j).natAbs < 2 ^ 29) ∧
  ∀ H', Same H H' → Q (.bl (bar F 1 l)) H'
theorem sc_never : FnScope ["matrix", "rest", "divisor", "first", "row", "number"] ["matrix"] (defScope (top 10)) := ⟨rfl, rfl, rfl, by decide +kernel, rfl, by decide +kernel, by decide +kernel⟩
structure NevIn (H0 : Hp) (a : Addr) (v : Bool) (m : Nat) (σ : L2.St) (H : Hp) : Prop where
  ex : ∃ (r : Addr) (F : Nat → Nat → Int) (D : Int) (l : List Nat) (t : Nat) (x : Option V), σ = [some (.ref a), some (.ref r), some (.int D), x, none, none] ∧ Same H0 H ∧ MatAt H r (mat F l) ∧ l.length = m ∧ m + t ≤ 10 ∧
    (∀ i ∈ l, ∀ j ∈ l, (F i j).natAbs < 2 ^ (30 * 2 ^ t - 1)) ∧ 0 < D ∧ D.natAbs < 2 ^ (15 * 2 ^ t) ∧ bar F D l = v
theorem any_ne (l : List Nat) (f : Nat → Int) : ((l.map fun j => !decide (V.int (f j) = V.int 0)).any id) = l.any fun j => f j != 0 := by
  rw [List.any_map]
  congr 1
  funext j
  show (!decide (V.int (f j) = V.int 0)) = (f j != 0)
  by_cases h : f j = 0
  · simp [h]
  · have : ¬ V.int (f j) = V.int 0 := fun e => h (V.int.inj e)
    simp [h, this]
theorem cl_never (B : Bi mg) (cC : Cl P w K mg base 1 "copied" spCopied) (cR : Cl P w K mg base 1 "cleared_row" (spCleared K)) (cB : Cl P w K mg base 1 "behind_first" spBehind) (D : Df K mg "never_below_zero" 10 ["matrix"]) : Cl P w K mg base 2 "never_below_zero" (spNever K) := by
  refine D.cl sc_never (fun vs H Q E h => ?_) (fun f cdv A outer s H vs Q E hr h => ?_)
  · obtain ⟨a, F, l, rfl, _⟩ := h
    rfl
  · obtain ⟨a, F0, l0, rfl, hA, hl, hF, k⟩ := h
    refine ⟨_, pss_cons (ps_set (i := 1) sc_never.nd rfl (Or.inl rfl) (pe_cl cC hr (by decide) rfl (pa_cons (pv 0) pa_nil)))
      (pss_cons (ps_set (i := 2) sc_never.nd rfl (Or.inr rfl) pe_int)
      (pss_cons (ps_while PassesOwn.never (pt_truth (pv 1) (by intro _; rfl))
        (pss_cons (ps_set (i := 3) sc_never.nd rfl (Or.inr rfl) (pe_ix ix_list (pv 1) pe_int (fun _ _ => rfl)))
        (pss_cons (ps_if (pt_cmpR op_lt (pe_ix ix_list (pv 3) pe_int (fun _ _ => rfl)) pe_int (nomark _)) (pss_one (ps_ret pe_bl)) pss_nil)
        (pss_one (ps_if (pt_cmpR op_gt (pe_ix ix_list (pv 3) pe_int (fun _ _ => rfl)) pe_int (nomark _))
          (pss_cons (ps_setLc (i := 1) (own := [("row", 4)]) (g := gName 4) (tt := tYes) (te := tCl (spCleared K) (tCons (tVar 4) (tCons (tVar 3) (tCons (tVar 2) tNil)))) (by rfl) sc_never.nd rfl rfl (sw_true rfl rfl rfl (by decide +kernel))
            (pi_list (pe_slice sl_list (pv 1) (po_some pe_int) po_none)) (blkOk_by (N := ["matrix", "rest", "divisor", "first", "row", "number"]) (sc := defScope (top 10)) (by decide +kernel))
            (fun _ _ _ _ _ => pg_name (i := 4) sc_never.nd rfl (Or.inl rfl)) (fun _ _ _ _ _ => pts_nil) (fun _ _ _ _ _ => pe_cl cR hr (by decide) rfl (pa_cons (pv 4) (pa_cons (pv 3) (pa_cons (pv 2) pa_nil)))))
          (pss_one (ps_set (i := 2) sc_never.nd rfl (Or.inr rfl) (pe_ix ix_list (pv 3) pe_int (fun _ _ => rfl)))))
          (pss_one (ps_if (pt_val (pe_callB (cr_any rfl) (by rfl) B.any (by decide +kernel) (pa_cons (pe_lc (own := [("number", 5)]) (g := gName 5) (tt := tYes) (te := tOp rNe (tVar 5) (tC (.int 0))) rfl sc_never.nd (pi_list (pv 3)) (blkOk_by (N := ["matrix", "rest", "divisor", "first", "row", "number"]) (sc := defScope (top 10)) (by decide +kernel))
              (fun _ _ _ _ _ => pg_name (i := 5) sc_never.nd rfl (Or.inl rfl)) (fun _ _ _ _ _ => pts_nil) (fun _ _ _ _ _ => pe_cmpR op_ne (pv 5) pe_int (nomark _))) pa_nil)))
            (pss_one (ps_ret pe_bl))
            (pss_one (ps_set (i := 1) sc_never.nd rfl (Or.inl rfl) (pe_cl cB hr (by decide) rfl (pa_cons (pv 1) pa_nil)))))))))))
      (pss_one (ps_ret pe_bl)))), ?_⟩
    refine ⟨_, rfl, a, _, rfl, hA, by rw [mat_len]; omega, fun H1 r s1 N1 => ?_⟩
    refine ⟨fun m σ H' => NevIn H a (bar F0 1 l0) m σ H', ⟨l0.length, r, F0, 1, l0, 0, none, rfl, s1, N1.mat, rfl, hl, hF, by decide, by decide, rfl⟩, ?_⟩
    rintro m σ H2 ⟨r, F, D, l, t, x, rfl, s2, ⟨as, ha, hm⟩, rfl, ht, hb, hD0, hD, ev⟩
    refine ⟨_, rfl, _, .inl ⟨_, SqL.of ha, rfl⟩, ?_⟩
    cases l with
    | nil =>
      cases hm
      refine iteF ?_
      have e : bar F D [] = true := rfl
      rw [e] at ev
      have q := k H2 s2
      rw [← ev] at q
      exact q
    | cons c cs =>
      have hm' := hm
      cases hm with
      | cons hI hT =>
        rename_i b as
        refine iteT ⟨fun σ' H' => ∃ m', m' < (c :: cs).length ∧ NevIn H a (bar F0 1 l0) m' σ' H', fun _ _ h => h, ?_⟩
        have hlen : (c :: cs).length = cs.length + 1 := List.length_cons
        have lt := hT.length
        rw [List.length_map] at lt
        refine ⟨_, rfl, r, _, 0, .ref b, rfl, rfl, SqL.of ha, ref_at (i := 0) rfl rfl, ?_⟩
        have at0 : atI (((c :: cs).map (F c)).map V.int) 0 = some (.int (F c c)) := int_at (i := 0) rfl rfl
        refine ⟨_, rfl, b, _, 0, _, rfl, rfl, SqL.of hI, at0, F c c, 0, rfl, rfl, _, rfl, ite2 (fun h1 => ?_) (fun h1 => ?_)⟩
        · have h1' : F c c < 0 := of_decide_eq_true h1
          have e : bar F D (c :: cs) = false := by rw [bar, if_pos h1']
          rw [e] at ev
          have q := k H2 s2
          rw [← ev] at q
          exact q
        · have h1' : ¬ F c c < 0 := fun z => h1 (decide_eq_true z)
          refine ⟨_, rfl, b, _, 0, _, rfl, rfl, SqL.of hI, at0, F c c, 0, rfl, rfl, _, rfl, ite2 (fun h2 => ?_) (fun h2 => ?_)⟩
          · have h2' : 0 < F c c := of_decide_eq_true h2
            refine ⟨_, rfl, _, rfl, r, _, rfl, SqL.of ha, fun p hp => ⟨p, rfl, ⟨_, SqL.of upd_same⟩, fun E hE => ?_⟩⟩
            have s3 : Same H2 (upd H2 p (.lst (cutV ((b :: as).map V.ref) (some 1) none))) := same_upd (Same.refl _) hp
            have h3 : upd H2 p (.lst (cutV ((b :: as).map V.ref) (some 1) none)) p = some (.lst (as.map V.ref)) := by rw [upd_same, cut1]; rfl
            refine lc_list (K := K) (a := p) (xs := as.map V.ref) (FillR _ E fun i => cs.map (nxt F D c (cs.getD i 0))) (FillR.start hE) (fun i H3 _ q => SqL.of (q.same _ _ h3)) (fun i y H3 hy q => ?_) (fun H3 q => ?_)
            · obtain ⟨g, row, rfl, hg, hrow, hJ, hi⟩ := hT.at hy
              rw [List.length_map] at hi
              rw [List.getElem?_map] at hrow
              have ec : cs[i]? = some (cs.getD i 0) := get_some hi
              rw [ec] at hrow
              obtain rfl := Option.some.inj hrow
              have hi2 : cs.getD i 0 ∈ c :: cs := List.mem_cons_of_mem _ (get_mem hi)
              have p2 := pow_pos t
              have t8 : 2 ^ t ≤ 2 ^ 9 := Nat.pow_le_pow_right (by decide) (by omega)
              refine ⟨rfl, yesT ⟨_, rfl, _, rfl, _, rfl, g, b, F, cs.getD i 0, c, cs, D, 30 * 2 ^ t - 1, rfl, q.same _ _ (s3 _ _ hJ), q.same _ _ (s3 _ _ hI), by omega, by omega, by omega, fun j hj => ⟨hb _ hi2 j hj, hb c (List.mem_cons_self ..) j hj⟩, hD0, ?_, fun H4 u s4 nu I4 => ?_⟩⟩
              · refine Nat.lt_of_lt_of_le hD (Nat.pow_le_pow_right (by decide) ?_)
                omega
              · exact FillR.step hE q s4 nu I4 (small1000 (by omega))
            · refine ⟨_, rfl, b, _, 0, _, rfl, rfl, SqL.of (q.same _ _ (s3 _ _ hI)), at0, cs.length, by omega, ⟨E, nxt F D c, F c c, cs, t + 1, some (.ref b), rfl, (s2.trans s3).trans q.same, ?_, rfl, by omega, ?_, h2', ?_, ?_⟩⟩
              · have z := q.mat
                rw [List.length_map, lt] at z
                have e3 : (List.range cs.length).map (fun i => cs.map (nxt F D c (cs.getD i 0))) = mat (nxt F D c) cs := range_map cs fun i => cs.map (nxt F D c i)
                rw [e3] at z
                exact z
              · intro i hi j hj
                exact nxt_bits hD0 (hb c (List.mem_cons_self ..) c (List.mem_cons_self ..)) (hb i (List.mem_cons_of_mem _ hi) j (List.mem_cons_of_mem _ hj)) (hb i (List.mem_cons_of_mem _ hi) c (List.mem_cons_self ..)) (hb c (List.mem_cons_self ..) j (List.mem_cons_of_mem _ hj))
              · refine Nat.lt_of_lt_of_le (hb c (List.mem_cons_self ..) c (List.mem_cons_self ..)) (Nat.pow_le_pow_right (by decide) ?_)
                rw [pow_half]
                omega
              · rw [← ev, bar, if_neg h1', if_pos h2']
          · have h2' : ¬ 0 < F c c := fun z => h2 (decide_eq_true z)
            refine ⟨_, rfl, b, rfl, ⟨_, SqL.of hI⟩, fun E hE => lc_list (K := K) (a := b) (xs := ((c :: cs).map (F c)).map V.int) (Fill H2 E fun j => V.bl (!decide (V.int (F c ((c :: cs).getD j 0)) = V.int 0))) (Fill.start hE) (fun i H3 _ q => SqL.of (q.same _ _ hI)) (fun i y H3 hy q => ?_) (fun H3 q => ?_)⟩
            · obtain ⟨z, hz, rfl⟩ := ints_get hy
              have hi : i < (c :: cs).length := by
                have := (List.getElem?_eq_some_iff.mp hz).1
                rwa [List.length_map] at this
              have hz' : z = F c ((c :: cs).getD i 0) := by
                rw [List.getElem?_map, get_some hi] at hz
                exact (Option.some.inj hz).symm
              refine ⟨rfl, yesT ⟨_, rfl, rfl, ?_⟩⟩
              exact Fill.step hE q (Same.refl _) (small1000 (by omega)) _ (by rw [hz'])
            · have z := q.lst
              have e4 : (List.range (((c :: cs).map (F c)).map V.int).length).map (fun j => V.bl (!decide (V.int (F c ((c :: cs).getD j 0)) = V.int 0))) = ((c :: cs).map fun j => !decide (V.int (F c j) = V.int 0)).map V.bl := by
                rw [List.length_map, List.length_map]
                conv => rhs; rw [range_getD (c :: cs)]
                rw [List.map_map, List.map_map]
                rfl
              rw [e4] at z
              refine ⟨E, _, rfl, SqL.of z, _, rfl, ?_⟩
              rw [any_ne]
              refine ite2 (fun h3 => ?_) (fun h3 => ?_)
              · have e : bar F D (c :: cs) = false := by rw [bar, if_neg h1', if_neg h2', if_pos h3]
                rw [e] at ev
                have w := k H3 (s2.trans q.same)
                rw [← ev] at w
                exact w
              · refine ⟨_, rfl, r, mat F (c :: cs), rfl, ⟨_, q.same _ _ ha, hm'.same q.same⟩, by rw [mat_len]; omega, fun H4 u s4 M4 => ?_⟩
                refine ⟨cs.length, by omega, u, F, D, cs, t, some (.ref b), rfl, (s2.trans q.same).trans s4, ?_, rfl, by omega, fun i hi j hj => hb i (List.mem_cons_of_mem _ hi) j (List.mem_cons_of_mem _ hj), hD0, hD, ?_⟩
                · have e5 : ((mat F (c :: cs)).drop 1).map (fun r => r.drop 1) = mat F cs := by
                    simp [mat]
                  rw [e5] at M4
                  exact M4
                · rw [← ev]
                  conv => rhs; rw [bar, if_neg h1', if_neg h2', if_neg h3]
end
end Sw
namespace Sw
open PySem PySem.Spec PyProof.Rows L2
section
variable {P : Program} {w : World} {K : PySem.W.Frag} {mg : Str → Option Value} {base : Heap}
/-! raised(base, k) -/
def spRaised : Sp := fun vs H Q _ => ∃ (b : Int) (k : Nat), vs = [.int b, .int (k : Int)] ∧ k ≤ 1000 ∧ -(2 ^ 64) < b ∧ b < 2 ^ 64 ∧ ∀ H', Same H H' → Q (.int (b ^ k)) H'
theorem sc_raised : FnScope ["base", "k", "number", "step"] ["base", "k"] (defScope (top 11)) := ⟨rfl, rfl, rfl, by decide +kernel, rfl, by decide +kernel, by decide +kernel⟩
theorem cl_raised (B : Bi mg) (D : Df K mg "raised" 11 ["base", "k"]) : Cl P w K mg base 1 "raised" spRaised := by
  refine D.cl sc_raised (fun vs H Q E h => ?_) (fun f cdv A outer s H vs Q E hr h => ?_)
  · obtain ⟨b, k, rfl, _⟩ := h
    rfl
  · obtain ⟨b, n, rfl, hn, h1, h2, k⟩ := h
    refine ⟨_, pss_cons (ps_set (i := 2) sc_raised.nd rfl (Or.inl rfl) pe_int)
      (pss_cons (ps_for PassesOwn.never rfl (pi_range1 rfl B.range (pa_cons (pv 1) pa_nil)) (pg_name (i := 3) sc_raised.nd rfl (Or.inl rfl))
        (pss_one (ps_aug (i := 2) sc_raised.nd rfl (Or.inl rfl) (pv 0) (op := .Mult) (ti := rI CMul fun i j => .int (i * j)) iop_mul)))
      (pss_one (ps_ret (pv 2)))), ?_⟩
    refine ⟨_, rfl, (n : Int), rfl, by omega, by omega, for_range (lo := 0) (n := n) (fun i σ H' => ∃ v : Option V, σ = [some (.int b), some (.int (n : Int)), some (.int (b ^ i)), v] ∧ Same H H') ⟨none, by rw [Int.pow_zero]; rfl, Same.refl _⟩ (fun i σ H2 hi ⟨v, e, s2⟩ => ?_) (fun σ H2 ⟨v, e, s2⟩ => ?_)⟩
    · subst e
      exact ⟨_, rfl, _, rfl, _, _, rfl, rfl, .inr ⟨h1, h2⟩, _, by rw [Int.pow_succ]; rfl, s2⟩
    · subst e
      exact ⟨_, rfl, k H2 s2⟩
/-! common_degree(lines) -/
def dgF (n : Nat) (F : Nat → Nat → Int) (u : Nat) : Int := S (List.range n) (F u)
def cdF (n : Nat) (F : Nat → Nat → Int) : Int := if ∀ u, u < n → dgF n F u = dgF n F 0 then dgF n F 0 else 0
def spCommon (K : PySem.W.Frag) : Sp := fun vs H Q _ => ∃ (a : Addr) (n : Nat) (F : Nat → Nat → Int), vs = [.ref a] ∧ MatAt H a (mat F (List.range n)) ∧ 1 ≤ n ∧ n ≤ 1000 ∧ ∀ H', Same H H' → Q (.int (cdF n F)) H'
theorem sc_common : FnScope ["lines", "degrees", "row"] ["lines"] (defScope (top 12)) := ⟨rfl, rfl, rfl, by decide +kernel, rfl, by decide +kernel, by decide +kernel⟩
theorem cl_common (B : Bi mg) (D : Df K mg "common_degree" 12 ["lines"]) : Cl P w K mg base 1 "common_degree" (spCommon K) := by
  refine D.cl sc_common (fun vs H Q E h => ?_) (fun f cdv A outer s H vs Q E hr h => ?_)
  · obtain ⟨a, n, F, rfl, _⟩ := h
    rfl
  · obtain ⟨a, n, F, rfl, ⟨as, ha, hm⟩, hn1, hn, k⟩ := h
    refine ⟨_, pss_cons (ps_setLc (i := 1) (own := [("row", 2)]) (g := gName 2) (tt := tYes) (te := tCB (rSum K) (tCons (tVar 2) tNil)) (by rfl) sc_common.nd rfl rfl (sw_true rfl rfl rfl (by decide +kernel)) (pi_list (pv 0)) (blkOk_by (N := ["lines", "degrees", "row"]) (sc := defScope (top 12)) (by decide +kernel))
        (fun _ _ _ _ _ => pg_name (i := 2) sc_common.nd rfl (Or.inl rfl)) (fun _ _ _ _ _ => pts_nil) (fun _ _ _ _ _ => pe_callB (id := "sum") (cr_sum rfl) (by rfl) B.sum (by decide +kernel) (pa_cons (pv 2) pa_nil)))
      (pss_cons (ps_if (pt_cmpR op_eq (pe_callB (cr_min rfl) (by rfl) B.min (by decide +kernel) (pa_cons (pv 1) pa_nil)) (pe_callB (cr_max rfl) (by rfl) B.max (by decide +kernel) (pa_cons (pv 1) pa_nil)) (nomark _))
        (pss_one (ps_ret (pe_ix ix_list (pv 1) pe_int (fun _ _ => rfl)))) pss_nil)
      (pss_one (ps_ret pe_int))), ?_⟩
    have e0 := hm.length
    rw [mat_len, List.length_range] at e0
    refine ⟨_, rfl, a, rfl, ⟨_, SqL.of ha⟩, fun D hD => lc_list (K := K) (a := a) (xs := as.map V.ref) (Fill H D fun i => V.int (dgF n F i)) (Fill.start hD) (fun i H2 _ p => SqL.of (p.same _ _ ha)) (fun i x H2 hx p => ?_) (fun H2 p => ?_)⟩
    · obtain ⟨b, r, rfl, hb, hr', hI, hi⟩ := hm.at hx
      rw [mat_len, List.length_range] at hi
      rw [mat_get hi] at hr'
      obtain rfl := Option.some.inj hr'
      refine ⟨rfl, yesT ⟨_, rfl, b, _, rfl, SqL.of (p.same _ _ hI), ?_⟩⟩
      exact Fill.step hD p (Same.refl _) (small1000 (by omega)) _ rfl
    · have q := fill_ints p
      rw [List.length_map, e0] at q
      have s2 := p.same
      have ln : 0 < ((List.range n).map (dgF n F)).length := by simp; omega
      refine ⟨_, rfl, D, _, rfl, SqL.of q, ln, fun m hm1 hm2 => ⟨_, rfl, D, _, rfl, SqL.of q, ln, fun M hM1 hM2 => ⟨rfl, _, rfl, ite2 (fun h1 => ?_) (fun h1 => ?_)⟩⟩⟩
      · have hmM : m = M := V.int.inj (of_decide_eq_true h1)
        have all : ∀ u, u < n → dgF n F u = m := fun u hu => by
          have hu' : dgF n F u ∈ (List.range n).map (dgF n F) := List.mem_map.mpr ⟨u, List.mem_range.mpr hu, rfl⟩
          have := hm2 _ hu'
          have := hM2 _ hu'
          omega
        refine ⟨_, rfl, D, _, 0, .int (dgF n F 0), rfl, rfl, SqL.of q, int_at (i := 0) (by rw [List.getElem?_map, List.getElem?_range hn1]; rfl) rfl, ?_⟩
        have c : ∀ u, u < n → dgF n F u = dgF n F 0 := fun u hu => (all u hu).trans (all 0 hn1).symm
        have z := k H2 s2
        rw [cdF, if_pos c] at z
        exact z
      · have hmM : ¬ m = M := fun e => h1 (decide_eq_true (congrArg V.int e))
        have c : ¬ ∀ u, u < n → dgF n F u = dgF n F 0 := fun c => by
          obtain ⟨u, hu, rfl⟩ := List.mem_map.mp hm1
          obtain ⟨v, hv, rfl⟩ := List.mem_map.mp hM1
          exact hmM ((c u (List.mem_range.mp hu)).trans (c v (List.mem_range.mp hv)).symm)
        have z := k H2 s2
        rw [cdF, if_neg c] at z
        exact z
/-! spread_matrix(lines, p, q) -/
def spM (n : Nat) (F : Nat → Nat → Int) (p q : Int) : Nat → Nat → Int := fun u v =>
  if u = v then q * q * cdF n F * cdF n F - q * q * (n : Int) * W n F 2 u v + p * p * cdF n F * cdF n F * (n : Int) else q * q * cdF n F * cdF n F - q * q * (n : Int) * W n F 2 u v
/-- a graph's own bounds -/
structure GrF (n : Nat) (F : Nat → Nat → Int) : Prop where
  n1 : 1 ≤ n
  n2 : n ≤ 10
  nn : ∀ i j, 0 ≤ F i j
  dg : ∀ i, i < n → dgF n F i ≤ 12
theorem GrF.le {n : Nat} {F : Nat → Nat → Int} (g : GrF n F) {i j : Nat} (hi : i < n) (hj : j < n) : F i j ≤ 12 := by
  have h := g.dg i hi
  have q : S (List.range n) (fun w => if w = j then F i w else 0) ≤ S (List.range n) (F i) := S_le fun w _ => by
    split
    · exact Int.le_refl _
    · exact g.nn i w
  rw [S_one (c := j) _ List.nodup_range (List.mem_range.mpr hj) fun w _ z => if_neg z] at q
  simp only [if_true] at q
  unfold dgF at h
  omega
theorem GrF.in64 {n : Nat} {F : Nat → Nat → Int} (g : GrF n F) : ∀ i j, i < n → j < n → -(2 ^ 64) < F i j ∧ F i j < 2 ^ 64 := fun i j hi hj => by
  have := g.nn i j
  have := g.le hi hj
  omega
theorem GrF.w2 {n : Nat} {F : Nat → Nat → Int} (g : GrF n F) {i j : Nat} (hi : i < n) (hj : j < n) : 0 ≤ W n F 2 i j ∧ W n F 2 i j ≤ 144 := ⟨W_nonneg g.nn 2 i j, W_le (d := 12) g.nn (by decide) g.dg 2 hi hj⟩
theorem GrF.cd {n : Nat} {F : Nat → Nat → Int} (g : GrF n F) : 0 ≤ cdF n F ∧ cdF n F ≤ 12 := by
  unfold cdF
  split
  · exact ⟨S_nonneg fun i _ => g.nn 0 i, g.dg 0 g.n1⟩
  · decide
def spSpread (K : PySem.W.Frag) : Sp := fun vs H Q _ => ∃ (a : Addr) (n : Nat) (F : Nat → Nat → Int) (p q : Int), vs = [.ref a, .int p, .int q] ∧ MatAt H a (mat F (List.range n)) ∧ GrF n F ∧ 0 ≤ p ∧ p ≤ 100 ∧ 0 ≤ q ∧ q ≤ 100 ∧
  ∀ H' m, Same H H' → MatAt H' m (mat (spM n F p q) (List.range n)) → Q (.ref m) H'
theorem sc_spread : FnScope ["lines", "p", "q", "n", "d", "matrix", "u", "counts", "row", "count"] ["lines", "p", "q"] (defScope (top 13)) := ⟨rfl, rfl, rfl, by decide +kernel, rfl, by decide +kernel, by decide +kernel⟩
theorem sq_le {x : Int} {b : Int} (h0 : 0 ≤ x) (h : x ≤ b) : 0 ≤ x * x ∧ x * x ≤ b * b :=
  ⟨Int.mul_nonneg h0 h0, Int.mul_le_mul h h h0 (by omega)⟩
theorem mul_in {x y a b : Int} (hx : 0 ≤ x ∧ x ≤ a) (hy : 0 ≤ y ∧ y ≤ b) : 0 ≤ x * y ∧ x * y ≤ a * b := ⟨Int.mul_nonneg hx.1 hy.1, Int.mul_le_mul hx.2 hy.2 hy.1 (by omega)⟩
theorem in_l {x a : Int} (h : 0 ≤ x ∧ x ≤ a) (ha : a < 2 ^ 64) {y : Int} : CMul x y := .inl ⟨by omega, by omega⟩
def rMulI : R2 := rI CMul fun i j => .int (i * j)
theorem cl_spread (B : Bi mg) (cD : Cl P w K mg base 1 "common_degree" (spCommon K)) (cW : Cl P w K mg base 3 "walks" (spWalks K)) (D : Df K mg "spread_matrix" 13 ["lines", "p", "q"]) : Cl P w K mg base 4 "spread_matrix" (spSpread K) := by
  refine D.cl sc_spread (fun vs H Q E h => ?_) (fun f cdv A outer s H vs Q E hr h => ?_)
  · obtain ⟨a, n, F, p, q, rfl, _⟩ := h
    rfl
  · obtain ⟨a, n, F, p, q, rfl, hA, g, hp0, hp1, hq0, hq1, k⟩ := h
    refine ⟨_, pss_cons (ps_set (i := 3) sc_spread.nd rfl (Or.inr rfl) (pe_callB call_len_seq (by rfl) B.len boot_len (pa_cons (pv 0) pa_nil)))
      (pss_cons (ps_set (i := 4) sc_spread.nd rfl (Or.inr rfl) (pe_cl cD hr (by decide) rfl (pa_cons (pv 0) pa_nil)))
      (pss_cons (ps_set (i := 5) sc_spread.nd rfl (Or.inl rfl) (pe_lst pa_nil))
      (pss_cons (ps_for PassesOwn.never rfl (pi_enum (by rfl) B.enumerate (pa_cons (pe_cl cW hr (by decide) rfl (pa_cons (pv 0) (pa_cons pe_int pa_nil))) pa_nil)) (pg_tup rfl (pgs_cons (pg_name (i := 6) sc_spread.nd rfl (Or.inl rfl)) (pgs_cons (pg_name (i := 7) sc_spread.nd rfl (Or.inl rfl)) pgs_nil)))
        (pss_cons (ps_setLc (i := 8) (own := [("count", 9)]) (g := gName 9) (tt := tYes) (te := tOp rSubI (tOp rMulI (tOp rMulI (tOp rMulI (tVar 2) (tVar 2)) (tVar 4)) (tVar 4)) (tOp rMulI (tOp rMulI (tOp rMulI (tVar 2) (tVar 2)) (tVar 3)) (tVar 9))) (by rfl) sc_spread.nd rfl rfl (sw_true rfl rfl rfl (by decide +kernel))
          (pi_list (pv 7)) (blkOk_by (N := ["lines", "p", "q", "n", "d", "matrix", "u", "counts", "row", "count"]) (sc := defScope (top 13)) (by decide +kernel))
          (fun _ _ _ _ _ => pg_name (i := 9) sc_spread.nd rfl (Or.inl rfl)) (fun _ _ _ _ _ => pts_nil) (fun _ _ _ _ _ => pe_op op_sub (pe_op op_mul (pe_op op_mul (pe_op op_mul (pv 2) (pv 2)) (pv 4)) (pv 4)) (pe_op op_mul (pe_op op_mul (pe_op op_mul (pv 2) (pv 2)) (pv 3)) (pv 9))))
        (pss_cons (ps_augS (pv 8) (pv 6) get_list (pe_op op_mul (pe_op op_mul (pe_op op_mul (pe_op op_mul (pv 1) (pv 1)) (pv 4)) (pv 4)) (pv 3)) ip_add set_list)
        (pss_one (ps_expr (pe_bm PySem.F.plainAttrs_list PySem.F.slot_list_append PySem.F.type_list_append mt_append (pv 5) (pa_cons (pv 8) pa_nil)))))))
      (pss_one (ps_ret (pv 5)))))), ?_⟩
    have n2 := g.n2
    have n1 := g.n1
    obtain ⟨d0, d1⟩ := g.cd
    obtain ⟨as, ha, la⟩ := hA.len
    rw [mat_len, List.length_range] at la
    have len : ((as.map V.ref).length : Int) = (n : Int) := by rw [List.length_map, la]
    have qq := mul_in ⟨hq0, hq1⟩ ⟨hq0, hq1⟩
    have qqd := mul_in qq ⟨d0, d1⟩
    have qqdd := mul_in qqd ⟨d0, d1⟩
    have pp := mul_in ⟨hp0, hp1⟩ ⟨hp0, hp1⟩
    have ppd := mul_in pp ⟨d0, d1⟩
    have ppdd := mul_in ppd ⟨d0, d1⟩
    have nI : 0 ≤ (n : Int) ∧ (n : Int) ≤ 10 := ⟨by omega, by omega⟩
    have qqn := mul_in qq nI
    refine ⟨_, rfl, a, _, rfl, .inl (SqL.of ha), ?_⟩
    rw [len]
    refine ⟨_, rfl, a, n, F, rfl, hA, n1, by omega, fun H1 s1 => ⟨by decide, fun M hM => ?_⟩⟩
    have sM : Same H1 (upd H1 M (.lst [])) := same_upd (Same.refl _) hM
    refine ⟨_, rfl, a, n, 2, F, rfl, hA.same (s1.trans sM), by omega, by decide, g.in64, fun H2 c s2 N2 => ?_⟩
    obtain ⟨cs, hc, hC⟩ := N2.mat
    have lC := hC.length
    rw [mat_len, List.length_range] at lC
    have hM2 : H2 M = some (.lst []) := s2 _ _ upd_same
    refine ⟨c, _, rfl, SqL.of hc, for_it (walk_enum (K := K) (a := c) (xs := cs.map V.ref)) (fun i σ H' => ∃ x y z : Option V, σ = [some (.ref a), some (.int p), some (.int q), some (.int (n : Int)), some (.int (cdF n F)), some (.ref M), x, y, z, none] ∧ Same H2 (upd H' M (.lst [])) ∧ Same H1 H' ∧ H' c = some (.lst (cs.map V.ref)) ∧ Rows H' cs (mat (W n F 2) (List.range n)) ∧ ∃ bs : List Addr, H' M = some (.lst (bs.map V.ref)) ∧ (∀ b ∈ bs, b ≠ M) ∧ Rows H' bs ((List.range i).map fun u => (List.range n).map (spM n F p q u)))
      ⟨none, none, none, rfl, ?_, s1 |> fun _ => sM.trans s2, hc, hC, [], hM2, fun _ h => (nomatch h), .nil⟩ (fun i σ H3 _ ⟨x, y, z, _, _, _, h, _⟩ => SqL.of h) (fun i v σ H3 H4 hi ⟨x, y, z, e, sA, sB, hc3, hC3, bs, hb, hbM, hB⟩ yy => ?_) (fun σ H3 ⟨x, y, z, e, sA, sB, hc3, hC3, bs, hb, hbM, hB⟩ => ?_)⟩
    · intro b o hbo
      by_cases e : b = M
      · subst e
        rw [hM2] at hbo
        rw [upd_same]
        exact hbo
      · rw [upd_ne e]
        exact hbo
    · subst e
      obtain ⟨T, x1, y1, rfl, hT, rfl, hx, hy⟩ := yy
      obtain rfl := Option.some.inj hx
      obtain ⟨r, row, rfl, hr1, hrow, hI, hi'⟩ := hC3.at hy
      rw [mat_len, List.length_range] at hi'
      rw [mat_get hi'] at hrow
      obtain rfl := Option.some.inj hrow
      have sT : Same H3 (upd H3 T (.tup [.int (i : Nat), .ref r])) := same_upd (Same.refl _) hT
      refine ⟨T, _, rfl, SqT.of upd_same, rfl, _, _, rfl, _, _, rfl, rfl, ?_⟩
      refine ⟨_, rfl, r, rfl, ⟨_, SqL.of (sT _ _ hI)⟩, fun E hE => lc_list (K := K) (a := r) (xs := ((List.range n).map (W n F 2 i)).map V.int) (Fill _ E fun j => V.int (q * q * cdF n F * cdF n F - q * q * (n : Int) * W n F 2 i j)) (Fill.start hE) (fun j H5 _ p5 => SqL.of (p5.same _ _ (sT _ _ hI))) (fun j v H5 hv p5 => ?_) (fun H5 p5 => ?_)⟩
      · obtain ⟨u, hu, rfl⟩ := ints_get hv
        have hj : j < n := by
          have := (List.getElem?_eq_some_iff.mp hu).1
          simpa using this
        rw [List.getElem?_map, List.getElem?_range hj] at hu
        obtain rfl := Option.some.inj hu
        refine ⟨rfl, yesT ⟨_, rfl, _, rfl, _, _, rfl, rfl, in_l ⟨hq0, hq1⟩ (by decide), _, rfl, _, _, rfl, rfl, in_l qq (by decide), _, rfl, _, _, rfl, rfl, in_l qqd (by decide), _, rfl, _, rfl, _, _, rfl, rfl, in_l ⟨hq0, hq1⟩ (by decide), _, rfl, _, _, rfl, rfl, in_l qq (by decide), _, rfl, _, _, rfl, rfl, in_l qqn (by decide), _, _, rfl, rfl, ?_⟩⟩
        exact Fill.step hE p5 (Same.refl _) (small1000 (by omega)) _ rfl
      · have z5 := fill_ints p5
        rw [List.length_map, List.length_map, List.length_range] at z5
        have s5 := sT.trans p5.same
        have hET : H3 E = none := sT.free hE
        refine ⟨_, rfl, _, rfl, E, _, (i : Int), _, rfl, rfl, SqL.of z5, by omega, int_at (i := i) (by rw [List.getElem?_map, List.getElem?_range hi']; rfl) rfl, ?_⟩
        refine ⟨_, rfl, _, rfl, _, _, rfl, rfl, in_l ⟨hp0, hp1⟩ (by decide), _, rfl, _, _, rfl, rfl, in_l pp (by decide), _, rfl, _, _, rfl, rfl, in_l ppd (by decide), _, rfl, _, _, rfl, rfl, in_l ppdd (by decide), _, _, rfl, rfl, E, _, (i : Int), i, rfl, rfl, z5, ixN_nat (by simpa using hi'), ?_⟩
        have hEM : M ≠ E := fun e => by rw [← e, hb] at hET; cases hET
        have hbE : ∀ b ∈ bs, b ≠ E := fun b q e => by
          obtain ⟨o, ho⟩ := hB.held b q
          rw [e, hET] at ho
          cases ho
        have s6 : ∀ b o, b ≠ E → H3 b = some o → upd H5 E (.lst ((((List.range n).map fun j => q * q * cdF n F * cdF n F - q * q * (n : Int) * W n F 2 i j).map V.int).set i (.int (q * q * cdF n F * cdF n F - q * q * (n : Int) * W n F 2 i i + p * p * cdF n F * cdF n F * (n : Int))))) b = some o := fun b o hbE h => by
          rw [upd_ne hbE]
          exact s5 _ _ h
        have row : (((List.range n).map fun j => q * q * cdF n F * cdF n F - q * q * (n : Int) * W n F 2 i j).map V.int).set i (.int (q * q * cdF n F * cdF n F - q * q * (n : Int) * W n F 2 i i + p * p * cdF n F * cdF n F * (n : Int))) = ((List.range n).map (spM n F p q i)).map V.int := by
          rw [set_map]
          congr 1
          apply List.ext_getElem
          · simp
          · intro b h1 h2
            rw [List.getElem_set]
            simp only [List.getElem_map, List.getElem_range]
            unfold spM
            by_cases e : i = b
            · subst e
              simp
            · simp [e]
        have hbs := s6 M _ hEM hb
        refine ⟨_, rfl, Or.inl ⟨rfl, _, Or.inl (Or.inl hbs)⟩, _, rfl, M, _, _, rfl, rfl, hbs, ?_, ?_⟩
        · rw [List.length_map, hB.length, List.length_map, List.length_range]
          exact small1000 (by omega)
        · refine ⟨_, _, _, rfl, ?_, ?_, ?_, ?_, bs ++ [E], ?_, ?_, ?_⟩
          · intro b o h
            by_cases e : b = M
            · subst e
              rw [hM2] at h
              rw [upd_same]
              exact h
            · have h' := sA b o h
              rw [upd_ne e] at h'
              rw [upd_ne e, upd_ne e]
              exact s6 b o (fun z => by rw [z, hET] at h'; cases h') h'
          · intro b o h
            have h' := sB b o h
            have hbM' : b ≠ M := fun z => by rw [z, hM] at h; cases h
            rw [upd_ne hbM']
            exact s6 b o (fun z => by rw [z, hET] at h'; cases h') h'
          · have hcM : c ≠ M := fun z => by
              rw [z, hM2] at hc
              have := congrArg (fun o => match o with | some (HO.lst xs) => xs.length | _ => 0) hc
              simp at this
              omega
            rw [upd_ne hcM]
            exact s6 c _ (fun z => by rw [z, hET] at hc3; cases hc3) hc3
          · refine hC3.keep fun b hb' o h => ?_
            have hbM' : b ≠ M := fun z => by
              obtain ⟨o', ho'⟩ := hC.held b hb'
              obtain ⟨j, hj⟩ := List.mem_iff_getElem?.mp hb'
              have hj2 : j < n := by
                rw [← lC]
                exact (List.getElem?_eq_some_iff.mp hj).1
              obtain ⟨b2, hb2, hI2⟩ := hC.get (mat_get hj2)
              obtain rfl := Option.some.inj (hj.symm.trans hb2)
              have hI3 : H2 b = _ := hI2
              rw [z, hM2] at hI3
              have := congrArg (fun o => match o with | some (HO.lst xs) => xs.length | _ => 0) hI3
              simp at this
              omega
            rw [upd_ne hbM']
            exact s6 b o (fun z => by rw [z, hET] at h; cases h) h
          · rw [upd_same, List.map_append]
            rfl
          · intro b hb'
            rcases List.mem_append.mp hb' with h | h
            · exact hbM b h
            · rw [List.mem_singleton.mp h]
              exact Ne.symm hEM
          · rw [List.range_succ, List.map_append]
            refine Rows.snoc (hB.keep fun b hb' o h => ?_) ?_
            · rw [upd_ne (hbM b hb')]
              exact s6 b o (hbE b hb') h
            · show upd _ M _ E = _
              rw [upd_ne (Ne.symm hEM), upd_same, row]
    · subst e
      refine ⟨_, rfl, k H3 M (s1.trans sB) ⟨bs, hb, ?_⟩⟩
      rw [List.length_map, lC] at hB
      exact hB
end
end Sw
namespace Sw
open PySem PySem.Spec PyProof.Rows L2
def toI (us : List Nat) : List Int := us.map fun (u : Nat) => (u : Int)
theorem inV_nat (u : Nat) (us : List Nat) : inV (.int (u : Int)) ((toI us).map V.int) = us.contains u := by
  unfold inV toI
  rw [List.map_map, List.any_map]
  induction us with
  | nil => rfl
  | cons a r ih =>
    rw [List.any_cons, ih, List.contains_cons]
    congr 1
    show (((a : Int)) == ((u : Int))) = (u == a)
    rw [Bool.eq_iff_iff, beq_iff_eq, beq_iff_eq]
    omega
theorem flat_toI (us : List Nat) : ((toI us).map V.int).all flatV = true := by
  rw [List.all_eq_true]
  intro x hx
  obtain ⟨z, _, rfl⟩ := List.mem_map.mp hx
  rfl
theorem toI_get {us : List Nat} {i : Nat} {x : V} (h : ((toI us).map V.int)[i]? = some x) : ∃ u : Nat, us[i]? = some u ∧ x = .int (u : Int) := by
  obtain ⟨z, hz, rfl⟩ := ints_get h
  unfold toI at hz
  rw [List.getElem?_map] at hz
  cases e : us[i]? with
  | none => rw [e] at hz; cases hz
  | some u => rw [e] at hz; exact ⟨u, rfl, congrArg V.int (Option.some.inj hz).symm⟩
theorem toI_len (us : List Nat) : ((toI us).map V.int).length = us.length := by simp [toI]
section
variable {P : Program} {w : World} {K : PySem.W.Frag} {mg : Str → Option Value} {base : Heap}
/-! spreads_by(lines, p, q) -/
def spB (n : Nat) (F : Nat → Nat → Int) (p q : Int) : Bool := bar (spM n F p q) 1 (List.range n)
def spSpreadsBy (K : PySem.W.Frag) : Sp := fun vs H Q _ => ∃ (a : Addr) (n : Nat) (F : Nat → Nat → Int) (p q : Int), vs = [.ref a, .int p, .int q] ∧ MatAt H a (mat F (List.range n)) ∧ GrF n F ∧ 0 ≤ p ∧ p ≤ 100 ∧ 0 ≤ q ∧ q ≤ 100 ∧
  ∀ H', Same H H' → Q (.bl (spB n F p q)) H'
theorem sc_spreadsBy : FnScope ["lines", "p", "q"] ["lines", "p", "q"] (defScope (top 14)) := ⟨rfl, rfl, rfl, by decide +kernel, rfl, by decide +kernel, by decide +kernel⟩
theorem spM_bits {n : Nat} {F : Nat → Nat → Int} {p q : Int} (g : GrF n F) (hp0 : 0 ≤ p) (hp1 : p ≤ 100) (hq0 : 0 ≤ q) (hq1 : q ≤ 100) : ∀ i ∈ List.range n, ∀ j ∈ List.range n, (spM n F p q i j).natAbs < 2 ^ 29 := by
  intro i hi j hj
  obtain ⟨d0, d1⟩ := g.cd
  have n2 := g.n2
  have qq := mul_in ⟨hq0, hq1⟩ ⟨hq0, hq1⟩
  have qqdd := mul_in (mul_in qq ⟨d0, d1⟩) ⟨d0, d1⟩
  have ppdd := mul_in (mul_in (mul_in ⟨hp0, hp1⟩ ⟨hp0, hp1⟩) ⟨d0, d1⟩) ⟨d0, d1⟩
  have nI : 0 ≤ (n : Int) ∧ (n : Int) ≤ 10 := ⟨by omega, by omega⟩
  have qqnw := mul_in (mul_in qq nI) (g.w2 (List.mem_range.mp hi) (List.mem_range.mp hj))
  have ppddn := mul_in ppdd nI
  unfold spM
  split <;> omega
theorem cl_spreadsBy (cN : Cl P w K mg base 2 "never_below_zero" (spNever K)) (cM : Cl P w K mg base 4 "spread_matrix" (spSpread K)) (D : Df K mg "spreads_by" 14 ["lines", "p", "q"]) : Cl P w K mg base 5 "spreads_by" (spSpreadsBy K) := by
  refine D.cl sc_spreadsBy (fun vs H Q E h => ?_) (fun f cdv A outer s H vs Q E hr h => ?_)
  · obtain ⟨a, n, F, p, q, rfl, _⟩ := h
    rfl
  · obtain ⟨a, n, F, p, q, rfl, hA, g, hp0, hp1, hq0, hq1, k⟩ := h
    refine ⟨_, pss_one (ps_ret (pe_cl cN hr (by decide) rfl (pa_cons (pe_cl cM hr (by decide) rfl (pa_cons (pv 0) (pa_cons (pv 1) (pa_cons (pv 2) pa_nil)))) pa_nil))), ?_⟩
    refine ⟨_, rfl, _, rfl, _, rfl, a, n, F, p, q, rfl, hA, g, hp0, hp1, hq0, hq1, fun H1 m s1 M1 => ?_⟩
    refine ⟨m, _, _, rfl, M1, by rw [List.length_range]; exact g.n2, spM_bits g hp0 hp1 hq0 hq1, fun H2 s2 => k H2 (s1.trans s2)⟩
/-! least_share(lines, q) -/
def spLeast (K : PySem.W.Frag) : Sp := fun vs H Q _ => ∃ (a : Addr) (n : Nat) (F : Nat → Nat → Int) (q : Int), vs = [.ref a, .int q] ∧ MatAt H a (mat F (List.range n)) ∧ GrF n F ∧ 0 ≤ q ∧ q ≤ 100 ∧ spB n F q q = true ∧ (∀ p p', 0 ≤ p → p ≤ p' → p' ≤ q → spB n F p q = true → spB n F p' q = true) ∧
  ∀ H' r, Same H H' → 0 ≤ r → r ≤ q → spB n F r q = true → (∀ p, 0 ≤ p → p < r → spB n F p q = false) → Q (.int r) H'
theorem sc_least : FnScope ["lines", "q", "low", "high", "middle"] ["lines", "q"] (defScope (top 15)) := ⟨rfl, rfl, rfl, by decide +kernel, rfl, by decide +kernel, by decide +kernel⟩
theorem cl_least (cS : Cl P w K mg base 5 "spreads_by" (spSpreadsBy K)) (D : Df K mg "least_share" 15 ["lines", "q"]) : Cl P w K mg base 6 "least_share" (spLeast K) := by
  refine D.cl sc_least (fun vs H Q E h => ?_) (fun f cdv A outer s H vs Q E hr h => ?_)
  · obtain ⟨a, n, F, q, rfl, _⟩ := h
    rfl
  · obtain ⟨a, n, F, q, rfl, hA, g, hq0, hq1, hqq, mono, k⟩ := h
    refine ⟨_, pss_cons (ps_set (i := 2) sc_least.nd rfl (Or.inl rfl) pe_int)
      (pss_cons (ps_set (i := 3) sc_least.nd rfl (Or.inl rfl) (pv 1))
      (pss_cons (ps_while PassesOwn.never (pt_cmpR op_lt (pv 2) (pv 3) (nomark _))
        (pss_cons (ps_set (i := 4) sc_least.nd rfl (Or.inl rfl) (pe_op op_fdiv (pe_op op_add (pv 2) (pv 3)) pe_int))
        (pss_one (ps_if (pt_val (pe_cl cS hr (by decide) rfl (pa_cons (pv 0) (pa_cons (pv 4) (pa_cons (pv 1) pa_nil)))))
          (pss_one (ps_set (i := 3) sc_least.nd rfl (Or.inl rfl) (pv 4)))
          (pss_one (ps_set (i := 2) sc_least.nd rfl (Or.inl rfl) (pe_op op_add (pv 4) pe_int)))))))
      (pss_one (ps_ret (pv 2))))), ?_⟩
    refine ⟨_, rfl, ?_⟩
    refine ⟨fun m σ H' => ∃ (lo hi : Int) (x : Option V), σ = [some (.ref a), some (.int q), some (.int lo), some (.int hi), x] ∧ Same H H' ∧ 0 ≤ lo ∧ lo ≤ hi ∧ hi ≤ q ∧ m = (hi - lo).toNat ∧ spB n F hi q = true ∧ ∀ p, 0 ≤ p → p < lo → spB n F p q = false,
      ⟨_, 0, q, none, rfl, Same.refl _, by omega, hq0, by omega, rfl, hqq, fun p h1 h2 => by omega⟩, ?_⟩
    rintro m σ H2 ⟨lo, hi, x, rfl, s2, h0, h1, h2, rfl, h3, h4⟩
    refine ⟨_, rfl, _, rfl, lo, hi, rfl, rfl, _, rfl, ite2 (fun c => ?_) (fun c => ?_)⟩
    · have c' : lo < hi := of_decide_eq_true c
      refine ⟨fun σ' H' => ∃ m', m' < (hi - lo).toNat ∧ ∃ (lo hi : Int) (x : Option V), σ' = [some (.ref a), some (.int q), some (.int lo), some (.int hi), x] ∧ Same H H' ∧ 0 ≤ lo ∧ lo ≤ hi ∧ hi ≤ q ∧ m' = (hi - lo).toNat ∧ spB n F hi q = true ∧ ∀ p, 0 ≤ p → p < lo → spB n F p q = false, fun _ _ h => h, ?_⟩
      refine ⟨_, rfl, _, rfl, _, _, rfl, rfl, _, _, rfl, rfl, ⟨by decide, by decide⟩, ?_⟩
      have m1 : lo ≤ (lo + hi) / 2 := by omega
      have m2 : (lo + hi) / 2 < hi := by omega
      refine ⟨_, rfl, _, rfl, _, rfl, a, n, F, (lo + hi) / 2, q, rfl, hA.same s2, g, by omega, by omega, hq0, hq1, fun H3 s3 => ⟨_, rfl, ite2 (fun d => ?_) (fun d => ?_)⟩⟩
      · refine ⟨_, rfl, _, ?_, lo, (lo + hi) / 2, _, rfl, s2.trans s3, h0, m1, by omega, rfl, d, h4⟩
        omega
      · refine ⟨_, rfl, _, _, rfl, rfl, _, ?_, (lo + hi) / 2 + 1, hi, _, rfl, s2.trans s3, by omega, by omega, h2, rfl, h3, fun p p0 p1 => ?_⟩
        · omega
        · cases e : spB n F p q with
          | false => rfl
          | true => exact absurd (mono p ((lo + hi) / 2) p0 (by omega) (by omega) e) d
    · have c' : ¬ lo < hi := fun z => c (decide_eq_true z)
      have e : lo = hi := by omega
      subst e
      exact ⟨_, rfl, k H2 lo s2 h0 (by omega) h3 h4⟩
/-! lines_between(lines, ones, others) -/
def spBetw (K : PySem.W.Frag) : Sp := fun vs H Q _ => ∃ (a b c : Addr) (n : Nat) (F : Nat → Nat → Int) (us ws : List Nat), vs = [.ref a, .ref b, .ref c] ∧ MatAt H a (mat F (List.range n)) ∧ IntsAt H b (toI us) ∧ IntsAt H c (toI ws) ∧ (∀ u ∈ us, u < n) ∧ (∀ v ∈ ws, v < n) ∧ us.length ≤ 1000 ∧ ws.length ≤ 1000 ∧
  ∀ H', Same H H' → Q (.int (S us fun u => S ws fun v => F u v)) H'
theorem sc_betw : FnScope ["lines", "ones", "others", "count", "u", "v"] ["lines", "ones", "others"] (defScope (top 16)) := ⟨rfl, rfl, rfl, by decide +kernel, rfl, by decide +kernel, by decide +kernel⟩
theorem S_take {us : List Nat} {i u : Nat} (f : Nat → Int) (h : us[i]? = some u) : S (us.take (i + 1)) f = S (us.take i) f + f u := by
  unfold S
  rw [List.take_add_one, h, List.map_append]
  simp
theorem sum_range_S (ws : List Nat) (f : Nat → Int) : ((List.range ws.length).map fun j => f (ws.getD j 0)).sum = S ws f := by
  rw [range_map ws f]
  rfl
theorem cl_betw (B : Bi mg) (D : Df K mg "lines_between" 16 ["lines", "ones", "others"]) : Cl P w K mg base 1 "lines_between" (spBetw K) := by
  refine D.cl sc_betw (fun vs H Q E h => ?_) (fun f cdv A outer s H vs Q E hr h => ?_)
  · obtain ⟨a, b, c, n, F, us, ws, rfl, _⟩ := h
    rfl
  · obtain ⟨a, b, c, n, F, us, ws, rfl, ⟨as, ha, hm⟩, hb, hc, hu, hw, lu, lw, k⟩ := h
    refine ⟨_, pss_cons (ps_set (i := 3) sc_betw.nd rfl (Or.inl rfl) pe_int)
      (pss_cons (ps_for PassesOwn.never rfl (pi_list (pv 1)) (pg_name (i := 4) sc_betw.nd rfl (Or.inr rfl))
        (pss_one (ps_aug (i := 3) sc_betw.nd rfl (Or.inl rfl) (pe_callB (cr_sum rfl) (by rfl) B.sum (by decide +kernel) (pa_cons (pe_lc (own := [("v", 5)]) (g := gName 5) (tt := tYes) (te := tOp (rIxL K) (tOp (rIxL K) (tVar 0) (tVar 4)) (tVar 5)) rfl sc_betw.nd (pi_list (pv 2)) (blkOk_by (N := ["lines", "ones", "others", "count", "u", "v"]) (sc := defScope (top 16)) (by decide +kernel))
          (fun _ _ _ _ _ => pg_name (i := 5) sc_betw.nd rfl (Or.inl rfl)) (fun _ _ _ _ _ => pts_nil) (fun _ _ _ _ _ => pe_ix ix_list (pe_ix ix_list (pv 0) (pv 4) (fun _ _ => rfl)) (pv 5) (fun _ _ => rfl))) pa_nil)) ip_add)))
      (pss_one (ps_ret (pv 3)))), ?_⟩
    refine ⟨_, rfl, b, rfl, ⟨_, SqL.of hb⟩, for_list (K := K) (a := b) (xs := (toI us).map V.int) (fun i σ H' => ∃ v : Option V, σ = [some (.ref a), some (.ref b), some (.ref c), some (.int (S (us.take i) fun u => S ws fun v => F u v)), v, none] ∧ Same H H')
      ⟨none, rfl, Same.refl _⟩ (fun i σ H2 _ ⟨v, _, s2⟩ => SqL.of (s2 _ _ hb)) (fun i x σ H2 hx ⟨v, e, s2⟩ => ?_) (fun σ H2 ⟨v, e, s2⟩ => ?_)⟩
    · subst e
      obtain ⟨u, hu1, rfl⟩ := toI_get hx
      have hun := hu u (List.mem_of_getElem? hu1)
      obtain ⟨r, hr1, hr2⟩ := hm.get (mat_get hun)
      refine ⟨_, rfl, _, rfl, c, rfl, ⟨_, SqL.of (s2 _ _ hc)⟩, fun E hE => lc_list (K := K) (a := c) (xs := (toI ws).map V.int) (Fill H2 E fun j => V.int (F u (ws.getD j 0))) (Fill.start hE) (fun j H3 _ p => SqL.of (p.same _ _ (s2 _ _ hc))) (fun j y H3 hy p => ?_) (fun H3 p => ?_)⟩
      · obtain ⟨v, hv1, rfl⟩ := toI_get hy
        have hvn := hw v (List.mem_of_getElem? hv1)
        have hj : j < ws.length := (List.getElem?_eq_some_iff.mp hv1).1
        have s3 := s2.trans p.same
        refine ⟨rfl, yesT ⟨_, rfl, _, rfl, a, _, (u : Int), .ref r, rfl, rfl, SqL.of (s3 _ _ ha), ref_at hr1 rfl, _, rfl, r, _, (v : Int), .int (F u v), rfl, rfl, SqL.of (s3 _ _ hr2), int_at (i := v) (by rw [List.getElem?_map, List.getElem?_range hvn]; rfl) rfl, ?_⟩⟩
        exact Fill.step hE p (Same.refl _) (small1000 (by omega)) _ (by rw [List.getD_eq_getElem?_getD, hv1]; rfl)
      · have z := fill_ints p
        rw [toI_len] at z
        refine ⟨E, _, rfl, SqL.of z, _, _, rfl, rfl, some (.int (u : Int)), ?_, s2.trans p.same⟩
        rw [sum_range_S, S_take _ hu1]
        rfl
    · subst e
      refine ⟨_, rfl, ?_⟩
      rw [toI_len, List.take_length]
      exact k H2 s2
/-! others_than(lines, places) -/
def spOthers (K : PySem.W.Frag) : Sp := fun vs H Q _ => ∃ (a b : Addr) (n : Nat) (F : Nat → Nat → Int) (us : List Nat), vs = [.ref a, .ref b] ∧ MatAt H a (mat F (List.range n)) ∧ IntsAt H b (toI us) ∧ n ≤ 1000 ∧
  ∀ H' p, Same H H' → IntsAt H' p (toI ((List.range n).filter fun u => !us.contains u)) → Q (.ref p) H'
theorem sc_others : FnScope ["lines", "places", "u"] ["lines", "places"] (defScope (top 17)) := ⟨rfl, rfl, rfl, by decide +kernel, rfl, by decide +kernel, by decide +kernel⟩
structure FillF (H1 : Hp) (D : Addr) (f : Nat → Bool) (i : Nat) (H : Hp) : Prop where
  same : Same H1 H
  lst : IntsAt H D (toI ((List.range i).filter f))
theorem cl_others (B : Bi mg) (D : Df K mg "others_than" 17 ["lines", "places"]) : Cl P w K mg base 1 "others_than" (spOthers K) := by
  refine D.cl sc_others (fun vs H Q E h => ?_) (fun f cdv A outer s H vs Q E hr h => ?_)
  · obtain ⟨a, b, n, F, us, rfl, _⟩ := h
    rfl
  · obtain ⟨a, b, n, F, us, rfl, hA, hb, hn, k⟩ := h
    refine ⟨_, pss_one (ps_ret (pe_lc (own := [("u", 2)]) (g := gName 2) (tt := tTest (tOp (rIn K true) (tVar 2) (tVar 1))) (te := tVar 2) rfl sc_others.nd (pi_range1 rfl B.range (pa_cons (pe_callB call_len_seq (by rfl) B.len boot_len (pa_cons (pv 0) pa_nil)) pa_nil)) (blkOk_by (N := ["lines", "places", "u"]) (sc := defScope (top 17)) (by decide +kernel))
      (fun _ _ _ _ _ => pg_name (i := 2) sc_others.nd rfl (Or.inl rfl)) (fun _ _ _ _ _ => pts_one (pt_cmpR op_notIn_seq (pv 2) (pv 1) (by rfl))) (fun _ _ _ _ _ => pv 2))), ?_⟩
    obtain ⟨as, ha, la⟩ := hA.len
    rw [mat_len, List.length_range] at la
    refine ⟨_, rfl, a, _, rfl, .inl (SqL.of ha), (n : Int), by rw [List.length_map, la], by omega, by omega, fun E hE => lc_range (lo := 0) (n := n) (FillF H E fun u => !us.contains u) ⟨same_upd (Same.refl _) hE, upd_same⟩ (fun i H2 hi p => ?_) (fun H2 p => ?_)⟩
    · refine ⟨rfl, _, rfl, _, rfl, b, _, rfl, .inl (SqL.of (p.same _ _ hb)), rfl, flat_toI us, _, rfl, ?_⟩
      have z : (0 : Int) + (i : Int) = ((i : Nat) : Int) := Int.zero_add _
      rw [z, inV_nat]
      have ln : ((List.range i).filter fun u => !us.contains u).length ≤ i := by
        have := List.length_filter_le (fun u => !us.contains u) (List.range i)
        rwa [List.length_range] at this
      refine ite2 (fun c => ?_) (fun c => ?_)
      · refine ⟨_, rfl, _, p.lst, ?_, same_upd p.same hE, ?_⟩
        · rw [List.length_map]
          unfold toI
          rw [List.length_map]
          exact small1000 (by omega)
        · show upd _ E _ E = _
          rw [upd_same, List.range_succ, List.filter_append]
          unfold toI
          rw [List.map_append, List.map_append, List.filter_cons_of_pos (by simpa using c)]
          rfl
      · refine ⟨p.same, ?_⟩
        rw [List.range_succ, List.filter_append, List.filter_cons_of_neg (by simpa using c), List.filter_nil, List.append_nil]
        exact p.lst
    · exact k H2 E p.same p.lst
end
end Sw
namespace Sw
open PySem PySem.Spec PyProof.Rows L2
def inF (us : List Nat) (u : Nat) : Int := if us.contains u = true then 1 else 0
def stF (n : Nat) (F : Nat → Nat → Int) (us : List Nat) : Nat → Nat → Int
  | 0 => inF us
  | k + 1 => fun u => inF us u * S (List.range n) fun v => F u v * stF n F us k v
def setsL : Nat → List (List Nat)
  | 0 => [[]]
  | u + 1 => setsL u ++ (setsL u).map (· ++ [u])
theorem setsL_len : ∀ n, (setsL n).length = 2 ^ n
  | 0 => rfl
  | n + 1 => by rw [setsL, List.length_append, List.length_map, setsL_len n, Nat.pow_succ]; omega
theorem setsL_mem : ∀ (n : Nat) (l : List Nat), l ∈ setsL n → l.length ≤ n ∧ ∀ u ∈ l, u < n
  | 0, l, h => by
    rw [List.mem_singleton.mp h]
    exact ⟨Nat.le_refl _, fun u q => (nomatch q)⟩
  | n + 1, l, h => by
    rcases List.mem_append.mp h with q | q
    · have := setsL_mem n l q
      exact ⟨by omega, fun u hu => Nat.lt_succ_of_lt (this.2 u hu)⟩
    · obtain ⟨m, hm, rfl⟩ := List.mem_map.mp q
      have := setsL_mem n m hm
      refine ⟨by simp; omega, fun u hu => ?_⟩
      rcases List.mem_append.mp hu with z | z
      · exact Nat.lt_succ_of_lt (this.2 u z)
      · rw [List.mem_singleton.mp z]
        omega
section
variable {P : Program} {w : World} {K : PySem.W.Frag} {mg : Str → Option Value} {base : Heap}
/-! staying_walks(lines, places, k) -/
def spStay (K : PySem.W.Frag) : Sp := fun vs H Q _ => ∃ (a b : Addr) (n k : Nat) (F : Nat → Nat → Int) (us : List Nat), vs = [.ref a, .ref b, .int (k : Int)] ∧ MatAt H a (mat F (List.range n)) ∧ IntsAt H b (toI us) ∧ n ≤ 1000 ∧ k ≤ 1000 ∧ (∀ i j, i < n → j < n → -(2 ^ 64) < F i j ∧ F i j < 2 ^ 64) ∧
  ∀ H' p, Same H H' → IntsAt H' p ((List.range n).map (stF n F us k)) → Q (.ref p) H'
theorem sc_stay : FnScope ["lines", "places", "k", "inside", "counts", "step", "u"] ["lines", "places", "k"] (defScope (top 18)) := ⟨rfl, rfl, rfl, by decide +kernel, rfl, by decide +kernel, by decide +kernel⟩
theorem inF_in (us : List Nat) (u : Nat) : 0 ≤ inF us u ∧ inF us u ≤ 1 := by
  unfold inF
  split <;> decide
theorem cl_stay (B : Bi mg) (cD : Cl P w K mg base 1 "dot" (spDot K)) (D : Df K mg "staying_walks" 18 ["lines", "places", "k"]) : Cl P w K mg base 2 "staying_walks" (spStay K) := by
  refine D.cl sc_stay (fun vs H Q E h => ?_) (fun f cdv A outer s H vs Q E hr h => ?_)
  · obtain ⟨a, b, n, k, F, us, rfl, _⟩ := h
    rfl
  · obtain ⟨a, b, n, m, F, us, rfl, hA, hb, hn, hm, hF, k⟩ := h
    refine ⟨_, pss_cons (ps_set (i := 3) sc_stay.nd rfl (Or.inr rfl) (pe_lc (own := [("u", 6)]) (g := gName 6) (tt := tYes) (te := tIf (tTest (tOp (rIn K false) (tVar 6) (tVar 1))) (tC (.int 1)) (tC (.int 0))) rfl sc_stay.nd (pi_range1 rfl B.range (pa_cons (pe_callB call_len_seq (by rfl) B.len boot_len (pa_cons (pv 0) pa_nil)) pa_nil)) (blkOk_by (N := ["lines", "places", "k", "inside", "counts", "step", "u"]) (sc := defScope (top 18)) (by decide +kernel))
        (fun _ _ _ _ _ => pg_name (i := 6) sc_stay.nd rfl (Or.inl rfl)) (fun _ _ _ _ _ => pts_nil) (fun _ _ _ _ _ => pe_ifExp (pt_cmpR op_in_seq (pv 6) (pv 1) (by rfl)) pe_int pe_int)))
      (pss_cons (ps_set (i := 4) sc_stay.nd rfl (Or.inr rfl) (pv 3))
      (pss_cons (ps_for PassesOwn.never rfl (pi_range1 rfl B.range (pa_cons (pv 2) pa_nil)) (pg_name (i := 5) sc_stay.nd rfl (Or.inl rfl))
        (pss_one (ps_set (i := 4) sc_stay.nd rfl (Or.inr rfl) (pe_lc (own := [("u", 6)]) (g := gName 6) (tt := tYes) (te := tOp rMulI (tOp (rIxL K) (tVar 3) (tVar 6)) (tCl (spDot K) (tCons (tOp (rIxL K) (tVar 0) (tVar 6)) (tCons (tVar 4) tNil)))) rfl sc_stay.nd (pi_range1 rfl B.range (pa_cons (pe_callB call_len_seq (by rfl) B.len boot_len (pa_cons (pv 0) pa_nil)) pa_nil)) (blkOk_by (N := ["lines", "places", "k", "inside", "counts", "step", "u"]) (sc := defScope (top 18)) (by decide +kernel))
          (fun _ _ _ _ _ => pg_name (i := 6) sc_stay.nd rfl (Or.inl rfl)) (fun _ _ _ _ _ => pts_nil) (fun _ _ _ _ _ => pe_op op_mul (pe_ix ix_list (pv 3) (pv 6) (fun _ _ => rfl)) (pe_cl cD hr (by decide) rfl (pa_cons (pe_ix ix_list (pv 0) (pv 6) (fun _ _ => rfl)) (pa_cons (pv 4) pa_nil))))))))
      (pss_one (ps_ret (pv 4))))), ?_⟩
    have hA' := hA
    obtain ⟨as, ha, hR⟩ := hA'
    have la := hR.length
    rw [mat_len, List.length_range] at la
    refine ⟨_, rfl, a, _, rfl, .inl (SqL.of ha), (n : Int), by rw [List.length_map, la], by omega, by omega, fun I hI => lc_range (lo := 0) (n := n) (Fill H I fun u => V.int (inF us u)) (Fill.start hI) (fun i H2 hi p => ?_) (fun H2 p => ?_)⟩
    · refine ⟨rfl, yesT ⟨_, rfl, _, rfl, b, _, rfl, .inl (SqL.of (p.same _ _ hb)), rfl, flat_toI us, _, rfl, ?_⟩⟩
      have z : (0 : Int) + (i : Int) = ((i : Nat) : Int) := Int.zero_add _
      rw [z, inV_nat]
      refine ite2 (fun c => ?_) (fun c => ?_)
      · have c' : us.contains i = true := c
        exact Fill.step hI p (Same.refl _) (small1000 (by omega)) _ (by unfold inF; rw [if_pos c'])
      · have c' : ¬ us.contains i = true := c
        exact Fill.step hI p (Same.refl _) (small1000 (by omega)) _ (by unfold inF; rw [if_neg c'])
    · have z := fill_ints p
      have s2 := p.same
      refine ⟨_, rfl, ?_⟩
      refine ⟨_, rfl, (m : Int), rfl, by omega, by omega, for_range (lo := 0) (n := m) (fun i σ H' => ∃ (c : Addr) (v : Option V), σ = [some (.ref a), some (.ref b), some (.int (m : Int)), some (.ref I), some (.ref c), v, none] ∧ Same H2 H' ∧ IntsAt H' c ((List.range n).map (stF n F us i)))
        ⟨I, none, rfl, Same.refl _, z⟩ (fun i σ H3 hi ⟨c, v, e, s3, hc⟩ => ?_) (fun σ H3 ⟨c, v, e, s3, hc⟩ => ?_)⟩
      · subst e
        have s23 := s2.trans s3
        refine ⟨_, rfl, a, _, rfl, .inl (SqL.of (s23 _ _ ha)), (n : Int), by rw [List.length_map, la], by omega, by omega, fun G hG => lc_range (lo := 0) (n := n) (Fill H3 G fun u => V.int (stF n F us (i + 1) u)) (Fill.start hG) (fun u H4 hu p4 => ?_) (fun H4 p4 => ?_)⟩
        · have zu : (0 : Int) + (u : Int) = ((u : Nat) : Int) := Int.zero_add _
          obtain ⟨r, hr1, hr2⟩ := hR.get (mat_get hu)
          have s4 := s23.trans p4.same
          refine ⟨rfl, yesT ⟨_, rfl, _, rfl, I, _, (0 : Int) + u, _, rfl, rfl, SqL.of ((s3.trans p4.same) _ _ z), int_at (i := u) (by rw [List.getElem?_map, List.getElem?_range hu]; rfl) zu, ?_⟩⟩
          refine ⟨_, rfl, _, rfl, a, _, (0 : Int) + u, .ref r, rfl, rfl, SqL.of (s4 _ _ ha), ref_at hr1 zu, _, rfl, r, c, _, _, rfl, s4 _ _ hr2, p4.same _ _ hc, by simp, by simpa using hn, ?_, fun H5 s5 => ?_⟩
          · intro j x y h1 h2
            have hj : j < n := by
              have := (List.getElem?_eq_some_iff.mp h1).1
              simpa using this
            rw [List.getElem?_map, List.getElem?_range hj] at h1
            obtain rfl := Option.some.inj h1
            exact .inl (hF u j hu hj)
          · refine ⟨_, _, rfl, rfl, in_l (inF_in us u) (by decide), ?_⟩
            exact Fill.step hG p4 s5 (small1000 (by omega)) _ (by rw [zip_maps]; rfl)
        · exact ⟨G, _, rfl, s3.trans p4.same, fill_ints p4⟩
      · subst e
        exact ⟨_, rfl, k H3 c (s2.trans s3) hc⟩
/-! sets_of_places(n) -/
def spSets : Sp := fun vs H Q _ => ∃ n : Nat, vs = [.int (n : Int)] ∧ n ≤ 10 ∧
  ∀ H' p, Same H H' → MatAt H' p ((setsL n).map toI) → Q (.ref p) H'
theorem sc_sets : FnScope ["n", "sets", "u", "places"] ["n"] (defScope (top 19)) := ⟨rfl, rfl, rfl, by decide +kernel, rfl, by decide +kernel, by decide +kernel⟩
theorem Rows.append {H : Hp} {bs : List Addr} {m' : List (List Int)} (h' : Rows H bs m') : ∀ {as : List Addr} {m : List (List Int)}, Rows H as m → Rows H (as ++ bs) (m ++ m')
  | _, _, .nil => h'
  | _, _, .cons h t => .cons h (h'.append t)
theorem cl_sets (B : Bi mg) (D : Df K mg "sets_of_places" 19 ["n"]) : Cl P w K mg base 1 "sets_of_places" spSets := by
  refine D.cl sc_sets (fun vs H Q E h => ?_) (fun f cdv A outer s H vs Q E hr h => ?_)
  · obtain ⟨n, rfl, _⟩ := h
    rfl
  · obtain ⟨n, rfl, hn, k⟩ := h
    refine ⟨_, pss_cons (ps_set (i := 1) sc_sets.nd rfl (Or.inl rfl) (pe_lst (pa_cons (pe_lst pa_nil) pa_nil)))
      (pss_cons (ps_for PassesOwn.never rfl (pi_range1 rfl B.range (pa_cons (pv 0) pa_nil)) (pg_name (i := 2) sc_sets.nd rfl (Or.inr rfl))
        (pss_one (ps_set (i := 1) sc_sets.nd rfl (Or.inl rfl) (pe_op op_cat (pv 1) (pe_lc (own := [("places", 3)]) (g := gName 3) (tt := tYes) (te := tOp rCat (tVar 3) (tLst (tCons (tVar 2) tNil))) rfl sc_sets.nd (pi_list (pv 1)) (blkOk_by (N := ["n", "sets", "u", "places"]) (sc := defScope (top 19)) (by decide +kernel))
          (fun _ _ _ _ _ => pg_name (i := 3) sc_sets.nd rfl (Or.inl rfl)) (fun _ _ _ _ _ => pts_nil) (fun _ _ _ _ _ => pe_op op_cat (pv 3) (pe_lst (pa_cons (pv 2) pa_nil))))))))
      (pss_one (ps_ret (pv 1)))), ?_⟩
    refine ⟨by decide, fun e he => ⟨(by show 1 ≤ sizeLine; decide), fun p hp => ?_⟩⟩
    have ep : e ≠ p := fun z => by rw [← z, upd_same] at hp; cases hp
    refine ⟨_, rfl, (n : Int), rfl, by omega, by omega, for_range (lo := 0) (n := n) (fun i σ H' => ∃ (c : Addr) (v : Option V), σ = [some (.int (n : Int)), some (.ref c), v, none] ∧ Same H H' ∧ MatAt H' c ((setsL i).map toI))
      ⟨p, none, rfl, same_upd (same_upd (Same.refl _) he) (by rwa [upd_ne (Ne.symm ep)] at hp), [e], upd_same, .cons (by show upd _ p _ e = _; rw [upd_ne ep, upd_same]; rfl) .nil⟩ (fun i σ H2 hi ⟨c, v, e, s2, as, hc, hm⟩ => ?_) (fun σ H2 ⟨c, v, e, s2, M⟩ => ?_)⟩
    · subst e
      have la := hm.length
      rw [List.length_map, setsL_len] at la
      have l10 : 2 ^ i ≤ 2 ^ 10 := Nat.pow_le_pow_right (by decide) (by omega)
      have sl : 5000 ≤ sizeLine := by decide
      refine ⟨_, rfl, _, rfl, c, rfl, ⟨_, SqL.of hc⟩, fun G hG => lc_list (K := K) (a := c) (xs := as.map V.ref) (FillR H2 G fun j => toI ((setsL i).getD j [] ++ [i])) (FillR.start hG) (fun j H3 _ q => SqL.of (q.same _ _ hc)) (fun j x H3 hx q => ?_) (fun H3 q => ?_)⟩
      · obtain ⟨b, r, rfl, hb, hr', hI, hj⟩ := hm.at hx
        rw [List.length_map] at hj
        have hr2 : r = toI ((setsL i).getD j []) := by
          rw [List.getElem?_map] at hr'
          rw [List.getD_eq_getElem?_getD]
          cases e : (setsL i)[j]? with
          | none => rw [e] at hr'; cases hr'
          | some l => rw [e] at hr'; exact (Option.some.inj hr').symm
        have hl : ((setsL i).getD j []).length ≤ i := by
          refine (setsL_mem i _ ?_).1
          rw [List.getD_eq_getElem?_getD, List.getElem?_eq_getElem hj]
          exact List.getElem_mem hj
        subst hr2
        have hI3 := q.same _ _ hI
        refine ⟨rfl, yesT ⟨_, rfl, _, rfl, (by show 1 ≤ sizeLine; decide), fun g hg => ?_⟩⟩
        have bg : b ≠ g := fun z => by rw [← z, hI3] at hg; cases hg
        refine ⟨b, g, _, _, rfl, rfl, by rw [upd_ne bg]; exact hI3, upd_same, ?_, fun h hh => ?_⟩
        · rw [toI_len]
          show _ + 1 ≤ sizeLine
          omega
        · have hg' : h ≠ g := fun z => by rw [z, upd_same] at hh; cases hh
          rw [upd_ne hg'] at hh
          refine FillR.step hG q (same_upd (same_upd (Same.refl _) hg) hh) hh ?_ ?_
          · show upd _ h _ h = _
            rw [upd_same]
            unfold toI
            rw [List.map_append, List.map_append, Int.zero_add]
            rfl
          · rw [setsL_len] at hj
            omega
      · obtain ⟨gs, h1, h2, _, _⟩ := q.ex
        have lg := h2.length
        rw [List.length_map, List.length_range, List.length_map, la] at lg
        refine ⟨c, G, _, _, rfl, rfl, q.same _ _ hc, h1, ?_, fun r hr => ⟨r, _, rfl, s2.trans (q.same.trans (same_upd (Same.refl _) hr)), as ++ gs, ?_, ?_⟩⟩
        · rw [List.length_map, List.length_map, la, lg]
          omega
        · rw [upd_same, List.map_append]
        · rw [setsL, List.map_append]
          have sr : Same H3 (upd H3 r (.lst (as.map V.ref ++ gs.map V.ref))) := same_upd (Same.refl _) hr
          refine Rows.append ?_ ((hm.same q.same).same sr)
          have e3 : (List.range ((as.map V.ref).length)).map (fun j => toI ((setsL i).getD j [] ++ [i])) = ((setsL i).map (· ++ [i])).map toI := by
            rw [List.length_map, la, ← setsL_len i, List.map_map]
            apply List.ext_getElem
            · simp
            · intro j g1 g2
              have gj : j < (setsL i).length := by simpa using g1
              simp [gj]
          rw [← e3]
          exact h2.same sr
    · subst e
      exact ⟨_, rfl, k H2 c s2 M⟩
end
end Sw
namespace Sw
open PySem PySem.Spec PyProof.Rows L2
/-! ### graph.py: constants, the object -/
def Cst (mg : Str → Option Value) (x : Str) (i : Int) : Prop := ∃ t, mg x = some (.int i t)
theorem pe_cst {X : Cx} {x : Str} {i : Int} {pos : Pos} (c : Cst X.mg x i) (hg : Gl X x) (hd : (x == ("__debug__" : Str)) = false := by decide) : PE X (.Name x pos) (tC (.int i)) := by
  obtain ⟨t, h⟩ := c
  exact pe_glob hg h ⟨t, rfl⟩ hd
structure Csts (mg : Str → Option Value) : Prop where
  noPlace : Cst mg "NO_PLACE" (-2)
  notBegun : Cst mg "NOT_BEGUN" (-11)
  wrong : Cst mg "WRONG_NUMBER" (-22)
  tooMany : Cst mg "TOO_MANY_LINES" (-28)
  notEven : Cst mg "NOT_EVEN" (-33)
  onePlace : Cst mg "ONE_PLACE" (-33)
  mPlaces : Cst mg "MOST_PLACES" 10
  mBetween : Cst mg "MOST_LINES_BETWEEN" 9
  mFrom : Cst mg "MOST_LINES_FROM" 12
  mLaid : Cst mg "MOST_LINES_LAID" 3
  mPower : Cst mg "MOST_POWER" 4
  mSteps : Cst mg "MOST_STEPS" 12
  mQ : Cst mg "MOST_Q" 100
  begin0 : Cst mg "BEGIN" 0
structure GCls (K : PySem.W.Frag) (C : Addr) : Prop where
  cl : Cls K C
  nL : NoAttr K C "lines"
def gF (la : Addr) : List (Str × V) := [("lines", .ref la)]
def GAt (C : Addr) (H : Hp) (ga la : Addr) (m : List (List Int)) : Prop := (∃ dx, H ga = some (.ins C dx (gF la))) ∧ MatAt H la m
theorem GAt.same {C : Addr} {H H' : Hp} {ga la : Addr} {m : List (List Int)} (h : GAt C H ga la m) (s : Same H H') : GAt C H' ga la m := by
  obtain ⟨⟨dx, h1⟩, h2⟩ := h
  exact ⟨⟨dx, s _ _ h1⟩, h2.same s⟩
theorem lkL (la : Addr) : (gF la).lookup ("lines" : Str) = some (.ref la) := by
  have e : (("lines" : Str) == ("lines" : Str)) = true := beq_self_eq_true _
  simp only [gF, List.lookup, e]
theorem ptL (la lb : Addr) : putF "lines" (.ref lb) (gF la) = gF lb := if_pos rfl
section
variable {P : Program} {w : World} {K : PySem.W.Frag} {mg : Str → Option Value} {base : Heap} {C : Addr}
/-! is_place(graph, u) -/
def isPl (n : Nat) (u : Int) : Bool := decide (0 ≤ u) && decide (u < (n : Int))
def spIsPlace (C : Addr) : Sp := fun vs H Q _ => ∃ (ga la : Addr) (m : List (List Int)) (u : Int), vs = [.ref ga, .int u] ∧ GAt C H ga la m ∧ Q (.bl (isPl m.length u)) H
theorem sc_isPlace : FnScope ["graph", "u"] ["graph", "u"] (defScope (top 38)) := ⟨rfl, rfl, rfl, by decide +kernel, rfl, by decide +kernel, by decide +kernel⟩
theorem cl_isPlace (B : Bi mg) (T : GCls K C) (D : Df K mg "is_place" 38 ["graph", "u"]) : Cl P w K mg base 1 "is_place" (spIsPlace C) := by
  refine D.cl sc_isPlace (fun vs H Q E h => ?_) (fun f cdv A outer s H vs Q E hr h => ?_)
  · obtain ⟨ga, la, m, u, rfl, _⟩ := h
    rfl
  · obtain ⟨ga, la, m, u, rfl, ⟨⟨dx, hg⟩, hm⟩, k⟩ := h
    refine ⟨_, pss_one (ps_ret (pe_chain op_le op_lt pe_int (pv 1) (pe_callB call_len_seq (by rfl) B.len boot_len (pa_cons (pe_fld (pv 0) rfl) pa_nil)))), ?_⟩
    obtain ⟨as, ha, ln⟩ := hm.len
    refine ⟨_, rfl, 0, u, rfl, rfl, _, rfl, ite2 (fun c => ?_) (fun c => ?_)⟩
    · refine ⟨_, rfl, ga, C, dx, _, _, rfl, hg, T.cl, T.nL, lkL la, la, _, rfl, .inl (SqL.of ha), u, _, rfl, rfl, ?_⟩
      rw [List.length_map, ln]
      unfold isPl at k
      rw [c, Bool.true_and] at k
      exact k
    · unfold isPl at k
      rw [Bool.eq_false_iff.mpr c, Bool.false_and] at k
      exact k
/-! are_places(graph, places) -/
def okF (n : Nat) (ns : List Int) : Bool := (ns.all fun u => isPl n u) && Sr60.rising ns
def spArePlaces (C : Addr) : Sp := fun vs H Q _ => ∃ (ga la va : Addr) (m : List (List Int)) (ns : List Int), vs = [.ref ga, .ref va] ∧ GAt C H ga la m ∧ IntsAt H va ns ∧ ns.length ≤ 1000 ∧ ∀ H', Same H H' → Q (.bl (okF m.length ns)) H'
theorem sc_arePlaces : FnScope ["graph", "places", "u", "v"] ["graph", "places"] (defScope (top 39)) := ⟨rfl, rfl, rfl, by decide +kernel, rfl, by decide +kernel, by decide +kernel⟩
theorem rising_zip : ∀ ns : List Int, ((List.range (ns.drop 1).length).map fun i => decide (ns.getD i 0 < (ns.drop 1).getD i 0)).all id = Sr60.rising ns
  | [] => rfl
  | [_] => rfl
  | a :: b :: r => by
    have ih := rising_zip (b :: r)
    rw [Sr60.rising, ← ih]
    show (List.map _ (List.range (r.length + 1))).all id = _
    rw [List.range_succ_eq_map, List.map_cons, List.all_cons, List.map_map]
    rfl
theorem range_bl {ns : List Int} (f : Int → Bool) : (List.range ns.length).map (fun i => V.bl (f (ns.getD i 0))) = (ns.map f).map V.bl := by
  apply List.ext_getElem
  · simp
  · intro i h1 h2
    have hi : i < ns.length := by simpa using h1
    simp [hi]
theorem cl_arePlaces (B : Bi mg) (cI : Cl P w K mg base 1 "is_place" (spIsPlace C)) (D : Df K mg "are_places" 39 ["graph", "places"]) : Cl P w K mg base 2 "are_places" (spArePlaces C) := by
  refine D.cl sc_arePlaces (fun vs H Q E h => ?_) (fun f cdv A outer s H vs Q E hr h => ?_)
  · obtain ⟨ga, la, va, m, ns, rfl, _⟩ := h
    rfl
  · obtain ⟨ga, la, va, m, ns, rfl, hG, hv, hl, k⟩ := h
    refine ⟨_, pss_cons (ps_if (pt_not (pt_val (pe_callB (cr_all rfl) (by rfl) B.all (by decide +kernel) (pa_cons (pe_lc (own := [("u", 2)]) (g := gName 2) (tt := tYes) (te := tCl (spIsPlace C) (tCons (tVar 0) (tCons (tVar 2) tNil))) rfl sc_arePlaces.nd (pi_list (pv 1)) (blkOk_by (N := ["graph", "places", "u", "v"]) (sc := defScope (top 39)) (by decide +kernel))
          (fun _ _ _ _ _ => pg_name (i := 2) sc_arePlaces.nd rfl (Or.inl rfl)) (fun _ _ _ _ _ => pts_nil) (fun _ _ _ _ _ => pe_cl cI hr (by decide) rfl (pa_cons (pv 0) (pa_cons (pv 2) pa_nil)))) pa_nil)))) (pss_one (ps_ret pe_bl)) pss_nil)
      (pss_one (ps_ret (pe_callB (cr_all rfl) (by rfl) B.all (by decide +kernel) (pa_cons (pe_lc (own := [("u", 2), ("v", 3)]) (g := gTup K 2 (gCons (gName 2) (gCons (gName 3) gNil))) (tt := tYes) (te := tOp (rI0 fun i j => .bl (decide (i < j))) (tVar 2) (tVar 3)) rfl sc_arePlaces.nd
          (pi_zip (by rfl) B.zip (pa_cons (pv 1) (pa_cons (pe_slice sl_list (pv 1) (po_some pe_int) po_none) pa_nil))) (blkOk_by (N := ["graph", "places", "u", "v"]) (sc := defScope (top 39)) (by decide +kernel))
          (fun _ _ _ _ _ => pg_tup rfl (pgs_cons (pg_name (i := 2) sc_arePlaces.nd rfl (Or.inl rfl)) (pgs_cons (pg_name (i := 3) sc_arePlaces.nd rfl (Or.inl rfl)) pgs_nil))) (fun _ _ _ _ _ => pts_nil) (fun _ _ _ _ _ => pe_cmpR op_lt (pv 2) (pv 3) (nomark _))) pa_nil)))), ?_⟩
    refine ⟨_, rfl, va, rfl, ⟨_, SqL.of hv⟩, fun E hE => lc_list (K := K) (a := va) (xs := ns.map V.int) (Fill H E fun i => V.bl (isPl m.length (ns.getD i 0))) (Fill.start hE) (fun i H2 _ p => SqL.of (p.same _ _ hv)) (fun i x H2 hx p => ?_) (fun H2 p => ?_)⟩
    · obtain ⟨z, hz, rfl⟩ := ints_get hx
      have hi : i < ns.length := (List.getElem?_eq_some_iff.mp hz).1
      refine ⟨rfl, yesT ⟨_, rfl, _, rfl, ga, la, m, z, rfl, hG.same p.same, ?_⟩⟩
      exact Fill.step hE p (Same.refl _) (small1000 (by omega)) _ (by rw [List.getD_eq_getElem?_getD, hz]; rfl)
    · have z := p.lst
      rw [List.length_map, range_bl (isPl m.length)] at z
      refine ⟨E, _, rfl, SqL.of z, _, rfl, ?_⟩
      rw [List.all_map]
      refine ite2 (fun c => ?_) (fun c => ?_)
      · have c' : (ns.all fun u => isPl m.length u) = false := by
          have : (ns.all (id ∘ isPl m.length)) = false := by simpa using c
          exact this
        have q := k H2 p.same
        unfold okF at q
        rw [c', Bool.false_and] at q
        exact q
      · have c' : (ns.all fun u => isPl m.length u) = true := by
          have : (ns.all (id ∘ isPl m.length)) = true := by
            cases e : ns.all (id ∘ isPl m.length) with
            | true => rfl
            | false => exact absurd (by rw [e]; rfl) c
          exact this
        refine ⟨_, rfl, _, rfl, _, rfl, va, _, rfl, SqL.of (p.same _ _ hv), fun t ht => ?_⟩
        have s2 : Same H2 (upd H2 t (.lst (cutV (ns.map V.int) (some 1) none))) := same_upd (Same.refl _) ht
        have hv2 := s2 _ _ (p.same _ _ hv)
        have h3 : upd H2 t (.lst (cutV (ns.map V.int) (some 1) none)) t = some (.lst ((ns.drop 1).map V.int)) := by rw [upd_same, cut1, List.map_drop]
        refine ⟨va, t, _, _, rfl, SqL.of hv2, SqL.of h3, fun G hG2 => lc_it (walk_zip (K := K) (a := va) (b := t) (xs := ns.map V.int) (ys := (ns.drop 1).map V.int) (n := (ns.drop 1).length) (by simp)) (Fill _ G fun i => V.bl (decide (ns.getD i 0 < (ns.drop 1).getD i 0))) (Fill.start hG2) (fun i H3 _ p3 => ⟨SqL.of (p3.same _ _ hv2), SqL.of (p3.same _ _ h3)⟩) (fun i x H3 H4 hi p3 y => ?_) (fun H3 p3 => ?_)⟩
        · obtain ⟨T, x1, y1, rfl, hT, rfl, hx, hy⟩ := y
          obtain ⟨a1, ha1, rfl⟩ := ints_get hx
          obtain ⟨b1, hb1, rfl⟩ := ints_get hy
          have li : (ns.drop 1).length ≤ 1000 := by rw [List.length_drop]; omega
          refine ⟨T, _, rfl, SqT.of upd_same, rfl, _, _, rfl, _, _, rfl, rfl, rfl, yesT ⟨_, rfl, _, rfl, a1, b1, rfl, rfl, ?_⟩⟩
          exact Fill.step hG2 p3 (same_upd (Same.refl _) hT) (small1000 (by omega)) _ (by rw [List.getD_eq_getElem?_getD, ha1, List.getD_eq_getElem?_getD, hb1]; rfl)
        · have z3 := p3.lst
          have e3 : (List.range (ns.drop 1).length).map (fun i => V.bl (decide (ns.getD i 0 < (ns.drop 1).getD i 0))) = ((List.range (ns.drop 1).length).map fun i => decide (ns.getD i 0 < (ns.drop 1).getD i 0)).map V.bl := by rw [List.map_map]; rfl
          rw [e3] at z3
          refine ⟨G, _, rfl, SqL.of z3, ?_⟩
          have q := k H3 ((p.same.trans s2).trans p3.same)
          unfold okF at q
          rw [c', Bool.true_and, ← rising_zip] at q
          exact q
/-! too_many_from_some(lines) -/
def tooF (n : Nat) (F : Nat → Nat → Int) : Bool := (List.range n).any fun u => decide (12 < dgF n F u)
def spTooMany (K : PySem.W.Frag) : Sp := fun vs H Q _ => ∃ (a : Addr) (n : Nat) (F : Nat → Nat → Int), vs = [.ref a] ∧ MatAt H a (mat F (List.range n)) ∧ n ≤ 1000 ∧ ∀ H', Same H H' → Q (.bl (tooF n F)) H'
theorem sc_tooMany : FnScope ["lines", "counts"] ["lines"] (defScope (top 40)) := ⟨rfl, rfl, rfl, by decide +kernel, rfl, by decide +kernel, by decide +kernel⟩
theorem cl_tooMany (B : Bi mg) (T : Csts mg) (D : Df K mg "too_many_from_some" 40 ["lines"]) : Cl P w K mg base 1 "too_many_from_some" (spTooMany K) := by
  refine D.cl sc_tooMany (fun vs H Q E h => ?_) (fun f cdv A outer s H vs Q E hr h => ?_)
  · obtain ⟨a, n, F, rfl, _⟩ := h
    rfl
  · obtain ⟨a, n, F, rfl, ⟨as, ha, hm⟩, hn, k⟩ := h
    refine ⟨_, pss_one (ps_ret (pe_callB (cr_any rfl) (by rfl) B.any (by decide +kernel) (pa_cons (pe_lc (own := [("counts", 1)]) (g := gName 1) (tt := tYes) (te := tOp (rI0 fun i j => .bl (decide (j < i))) (tCB (rSum K) (tCons (tVar 1) tNil)) (tC (.int 12))) rfl sc_tooMany.nd (pi_list (pv 0)) (blkOk_by (N := ["lines", "counts"]) (sc := defScope (top 40)) (by decide +kernel))
      (fun _ _ _ _ _ => pg_name (i := 1) sc_tooMany.nd rfl (Or.inl rfl)) (fun _ _ _ _ _ => pts_nil) (fun _ _ _ _ _ => pe_cmpR op_gt (pe_callB (id := "sum") (cr_sum rfl) (by rfl) B.sum (by decide +kernel) (pa_cons (pv 1) pa_nil)) (pe_cst T.mFrom rfl) (nomark _))) pa_nil))), ?_⟩
    have e0 := hm.length
    rw [mat_len, List.length_range] at e0
    refine ⟨_, rfl, a, rfl, ⟨_, SqL.of ha⟩, fun E hE => lc_list (K := K) (a := a) (xs := as.map V.ref) (Fill H E fun i => V.bl (decide (12 < dgF n F i))) (Fill.start hE) (fun i H2 _ p => SqL.of (p.same _ _ ha)) (fun i x H2 hx p => ?_) (fun H2 p => ?_)⟩
    · obtain ⟨b, r, rfl, hb, hr', hI, hi⟩ := hm.at hx
      rw [mat_len, List.length_range] at hi
      rw [mat_get hi] at hr'
      obtain rfl := Option.some.inj hr'
      refine ⟨rfl, yesT ⟨_, rfl, b, _, rfl, SqL.of (p.same _ _ hI), _, 12, rfl, rfl, ?_⟩⟩
      exact Fill.step hE p (Same.refl _) (small1000 (by omega)) _ rfl
    · have z := p.lst
      rw [List.length_map, e0] at z
      have e1 : (List.range n).map (fun i => V.bl (decide (12 < dgF n F i))) = ((List.range n).map fun i => decide (12 < dgF n F i)).map V.bl := by rw [List.map_map]; rfl
      rw [e1] at z
      refine ⟨E, _, rfl, SqL.of z, ?_⟩
      rw [List.any_map]
      exact k H2 p.same
/-! set_lines(lines, u, v, c) -/
def setF (F : Nat → Nat → Int) (u v : Nat) (c : Int) : Nat → Nat → Int := fun a b => if a = v ∧ b = u then c else if a = u ∧ b = v then c else F a b
def spSetLines (K : PySem.W.Frag) : Sp := fun vs H Q _ => ∃ (H0 : Hp) (a : Addr) (n : Nat) (F : Nat → Nat → Int) (u v : Nat) (c : Int), vs = [.ref a, .int (u : Int), .int (v : Int), .int c] ∧ Same H0 H ∧ NewAt H0 H a (mat F (List.range n)) ∧ u < n ∧ v < n ∧
  ∀ H', Same H0 H' → NewAt H0 H' a (mat (setF F u v c) (List.range n)) → Q .non H'
theorem sc_setLines : FnScope ["lines", "u", "v", "c"] ["lines", "u", "v", "c"] (defScope (top 41)) := ⟨rfl, rfl, rfl, by decide +kernel, rfl, by decide +kernel, by decide +kernel⟩
theorem cl_setLines (D : Df K mg "set_lines" 41 ["lines", "u", "v", "c"]) : Cl P w K mg base 1 "set_lines" (spSetLines K) := by
  refine D.cl sc_setLines (fun vs H Q E h => ?_) (fun f cdv A outer s H vs Q E hr h => ?_)
  · obtain ⟨H0, a, n, F, u, v, c, rfl, _⟩ := h
    rfl
  · obtain ⟨H0, a, n, F, u, v, c, rfl, s0, N0, hu, hv, k⟩ := h
    refine ⟨_, pss_cons (ps_asg (pv 3) (pg_sub (pe_ix ix_list (pv 0) (pv 1) (fun _ _ => rfl)) (pv 2) set_list)) (pss_one (ps_asg (pv 3) (pg_sub (pe_ix ix_list (pv 0) (pv 2) (fun _ _ => rfl)) (pv 1) set_list))), ?_⟩
    obtain ⟨as, b, h1, h2, h3, h4, h5, h6, h7⟩ := N0.put (mat_get hu)
    have q1 := h7 (((List.range n).map (F u)).set v c)
    rw [mat_set hu hv] at q1
    obtain ⟨bs, d, g1, g2, g3, g4, g5, g6, g7⟩ := q1.put (mat_get hv)
    have q2 := g7 (((List.range n).map fun j => if v = u ∧ j = v then c else F v j).set u c)
    rw [mat_set hv hu] at q2
    refine ⟨_, rfl, _, rfl, _, rfl, a, _, (u : Int), .ref b, rfl, rfl, SqL.of h1, ref_at h2 rfl, _, rfl, b, _, (v : Int), v, rfl, rfl, h4, ixN_nat (by simpa using hv), ?_⟩
    rw [set_map]
    refine ⟨_, rfl, _, rfl, _, rfl, a, _, (v : Int), .ref d, rfl, rfl, SqL.of g1, ref_at g2 rfl, _, rfl, d, _, (u : Int), u, rfl, rfl, g4, ixN_nat (by simpa using hu), ?_⟩
    rw [set_map]
    exact k _ (same_upd (same_upd s0 h5) g5) q2
/-! are_shares(p, q), are_steps(k) -/
def shF (p q : Int) : Bool := (decide (1 ≤ q) && decide (q ≤ 100)) && (decide (0 ≤ p) && decide (p ≤ q))
def spShares : Sp := fun vs H Q _ => ∃ p q : Int, vs = [.int p, .int q] ∧ Q (.bl (shF p q)) H
theorem sc_shares : FnScope ["p", "q"] ["p", "q"] (defScope (top 42)) := ⟨rfl, rfl, rfl, by decide +kernel, rfl, by decide +kernel, by decide +kernel⟩
theorem cl_shares (T : Csts mg) (D : Df K mg "are_shares" 42 ["p", "q"]) : Cl P w K mg base 1 "are_shares" spShares := by
  refine D.cl sc_shares (fun vs H Q E h => ?_) (fun f cdv A outer s H vs Q E hr h => ?_)
  · obtain ⟨p, q, rfl, _⟩ := h
    rfl
  · obtain ⟨p, q, rfl, k⟩ := h
    refine ⟨_, pss_one (ps_ret (pe_and (pe_chain op_le op_le pe_int (pv 1) (pe_cst T.mQ rfl)) (pe_one (pe_chain op_le op_le pe_int (pv 0) (pv 1))))), ?_⟩
    unfold shF at k
    refine ⟨_, rfl, 1, q, rfl, rfl, _, rfl, ite2 (fun c => ⟨q, 100, rfl, rfl, _, rfl, ite2 (fun d => ⟨_, rfl, 0, p, rfl, rfl, _, rfl, ite2 (fun e => ⟨_, rfl, p, q, rfl, rfl, ?_⟩) (fun e => ?_)⟩) (fun d => ?_)⟩) (fun c => ⟨_, rfl, iteF ?_⟩)⟩
    · rw [c, d, e] at k
      exact k
    · rw [Bool.eq_false_iff.mpr e] at k
      simpa using k
    · rw [Bool.eq_false_iff.mpr d] at k
      simpa using k
    · rw [Bool.eq_false_iff.mpr c] at k
      simpa using k
def stepsF (k : Int) : Bool := decide (0 ≤ k) && decide (k ≤ 12)
def spSteps : Sp := fun vs H Q _ => ∃ k : Int, vs = [.int k] ∧ Q (.bl (stepsF k)) H
theorem sc_steps : FnScope ["k"] ["k"] (defScope (top 43)) := ⟨rfl, rfl, rfl, by decide +kernel, rfl, by decide +kernel, by decide +kernel⟩
theorem cl_steps (T : Csts mg) (D : Df K mg "are_steps" 43 ["k"]) : Cl P w K mg base 1 "are_steps" spSteps := by
  refine D.cl sc_steps (fun vs H Q E h => ?_) (fun f cdv A outer s H vs Q E hr h => ?_)
  · obtain ⟨k, rfl, _⟩ := h
    rfl
  · obtain ⟨n, rfl, k⟩ := h
    refine ⟨_, pss_one (ps_ret (pe_chain op_le op_le pe_int (pv 0) (pe_cst T.mSteps rfl))), ?_⟩
    unfold stepsF at k
    refine ⟨_, rfl, 0, n, rfl, rfl, _, rfl, ite2 (fun c => ⟨n, 12, rfl, rfl, ?_⟩) (fun c => ?_)⟩
    · rw [c, Bool.true_and] at k
      exact k
    · rw [Bool.eq_false_iff.mpr c, Bool.false_and] at k
      exact k
end
end Sw
namespace Sw
open PySem PySem.Spec PyProof.Rows L2
/-! ### The specification, in the functions' words -/
theorem Good.mat {g : Sr60.Graph} (G : Good g) : gints g = mat (A g) (List.range g.length) := square_mat G.rows
theorem Good.grF {g : Sr60.Graph} (G : Good g) : GrF g.length (A g) := ⟨G.n1, G.n2, A_nonneg g, fun i hi => by
  have h := G.deg i hi
  have e := degree_S g i
  unfold dgF
  rw [← e]
  omega⟩
theorem ints_len (g : Sr60.Graph) : (gints g).length = g.length := by simp [gints]
theorem shF_ok (p q : Int) : shF p q = Sr60.okPQ p q := by
  unfold shF Sr60.okPQ
  by_cases h1 : 0 ≤ p <;> by_cases h2 : p ≤ q <;> by_cases h3 : 1 ≤ q <;> by_cases h4 : q ≤ 100 <;> simp [h1, h2, h3, h4]
theorem okF_ok (g : Sr60.Graph) (ns : List Int) : okF g.length ns = Sr60.okSet g ns := rfl
theorem isPl_ok (g : Sr60.Graph) (u : Int) : isPl g.length u = Sr60.isP g u := rfl
theorem dgF_deg (g : Sr60.Graph) (u : Nat) : dgF g.length (A g) u = ((Sr60.degree g u : Nat) : Int) := (degree_S g u).symm
def evI (g : Sr60.Graph) : Int := match Sr60.even g with
  | none => 0
  | some d => (d : Int)
theorem all_deg (g : Sr60.Graph) : ((Sr60.places g).all fun u => Sr60.degree g u == Sr60.degree g 0) = true ↔ ∀ u, u < g.length → dgF g.length (A g) u = dgF g.length (A g) 0 := by
  rw [List.all_eq_true]
  constructor
  · intro h u hu
    have := h u (List.mem_range.mpr hu)
    rw [beq_iff_eq] at this
    rw [dgF_deg, dgF_deg, this]
  · intro h u hu
    have := h u (List.mem_range.mp hu)
    rw [dgF_deg, dgF_deg] at this
    rw [beq_iff_eq]
    omega
theorem even_cd (g : Sr60.Graph) : cdF g.length (A g) = evI g := by
  unfold cdF evI Sr60.even
  by_cases c : ∀ u, u < g.length → dgF g.length (A g) u = dgF g.length (A g) 0
  · rw [if_pos c, dgF_deg]
    have c' := (all_deg g).mpr c
    by_cases d : 1 ≤ Sr60.degree g 0
    · simp only [d, c', decide_true, Bool.and_self, if_true]
    · have z : Sr60.degree g 0 = 0 := by omega
      simp [d, z]
  · rw [if_neg c]
    have c' : ((Sr60.places g).all fun u => Sr60.degree g u == Sr60.degree g 0) = false := by
      cases e : ((Sr60.places g).all fun u => Sr60.degree g u == Sr60.degree g 0) with
      | false => rfl
      | true => exact absurd ((all_deg g).mp e) c
    simp [c']
theorem even_some {g : Sr60.Graph} {d : Nat} (h : Sr60.even g = some d) : 1 ≤ d ∧ d = Sr60.degree g 0 ∧ ∀ u, u < g.length → Sr60.degree g u = d := by
  unfold Sr60.even at h
  simp only [] at h
  split at h
  · rename_i c
    have e := Option.some.inj h
    rw [Bool.and_eq_true, decide_eq_true_eq, List.all_eq_true] at c
    subst e
    refine ⟨c.1, rfl, fun u hu => ?_⟩
    have := c.2 u (List.mem_range.mpr hu)
    simpa using this
  · cases h
theorem evI_none {g : Sr60.Graph} : evI g = 0 ↔ Sr60.even g = none := by
  unfold evI
  cases h : Sr60.even g with
  | none => simp
  | some d =>
    have := (even_some h).1
    simp
    omega
theorem evI_some {g : Sr60.Graph} {d : Nat} (h : Sr60.even g = some d) : evI g = (d : Int) := by
  unfold evI
  rw [h]
theorem small_too (h : Sr60.Graph) : Sr60.small h = !tooF h.length (A h) := by
  unfold Sr60.small tooF
  rw [List.not_any_eq_all_not]
  show (List.range h.length).all _ = _
  congr 1
  funext u
  rw [dgF_deg]
  show decide (Sr60.degree h u ≤ 12) = _
  by_cases c : Sr60.degree h u ≤ 12
  · have : ¬ (12 : Int) < ((Sr60.degree h u : Nat) : Int) := by omega
    simp [c, this]
  · have : (12 : Int) < ((Sr60.degree h u : Nat) : Int) := by omega
    simp [c, this]
/-! spreads -/
def cmpF (g : Sr60.Graph) (d p q : Nat) : Nat → Nat → Int := fun u v =>
  (if u = v then ((p * p * d * d * g.length : Nat) : Int) else 0) - ((q * q * g.length * Sr60.lines (Sr60.times g g) u v : Nat) : Int) + ((q * q * d * d : Nat) : Int)
theorem check_mat (g : Sr60.Graph) (d p q : Nat) : Sr60.checkOf g d p q = mat (cmpF g d p q) (List.range g.length) := rfl
theorem lines_tt {g : Sr60.Graph} (G : Good g) (u v : Nat) : Sr60.lines (Sr60.times g g) u v = Sr60.lines (Sr60.times g g) v u := by
  rw [lines_times, lines_times]
  by_cases c : u < g.length ∧ v < g.length
  · rw [if_pos c, if_pos ⟨c.2, c.1⟩]
    congr 1
    refine List.map_congr_left fun w _ => ?_
    rw [G.symm u w, G.symm w v, Nat.mul_comm]
  · rw [if_neg c, if_neg fun z => c ⟨z.2, z.1⟩]
theorem cmpF_sym {g : Sr60.Graph} (G : Good g) (d p q : Nat) : sym (cmpF g d p q) := fun u v => by
  unfold cmpF
  rw [lines_tt G u v]
  by_cases e : u = v
  · rw [if_pos e, if_pos e.symm]
  · rw [if_neg e, if_neg fun z => e z.symm]
theorem W1 {n : Nat} (F : Nat → Nat → Int) {u v : Nat} (hu : u < n) : W n F 1 u v = F u v := by
  show S (List.range n) (fun w => Id0 u w * F w v) = F u v
  rw [S_one (c := u) _ List.nodup_range (List.mem_range.mpr hu) fun w _ z => by
    unfold Id0
    rw [if_neg fun k => z k.symm, Int.zero_mul]]
  unfold Id0
  rw [if_pos rfl, Int.one_mul]
theorem W2 {g : Sr60.Graph} {u v : Nat} (hu : u < g.length) (hv : v < g.length) : W g.length (A g) 2 u v = ((Sr60.lines (Sr60.times g g) u v : Nat) : Int) := by
  rw [lines_times, if_pos ⟨hu, hv⟩, Sum_S]
  show S (List.range g.length) (fun w => W g.length (A g) 1 u w * A g w v) = _
  refine S_congr fun w _ => ?_
  rw [W1 (A g) hu]
  exact (Int.natCast_mul ..).symm
theorem spM_cmp {g : Sr60.Graph} {d : Nat} (h : Sr60.even g = some d) (p q : Nat) : mat (spM g.length (A g) (p : Int) (q : Int)) (List.range g.length) = mat (cmpF g d p q) (List.range g.length) := by
  refine mat_congr fun u hu v hv => ?_
  unfold spM cmpF
  rw [even_cd, evI_some h, W2 (List.mem_range.mp hu) (List.mem_range.mp hv)]
  by_cases e : u = v
  · rw [if_pos e, if_pos e]
    simp only [Int.natCast_mul]
    omega
  · rw [if_neg e, if_neg e]
    simp only [Int.natCast_mul]
    omega
theorem bar_cong : ∀ (l : List Nat) (F G : Nat → Nat → Int) (D : Int), (∀ i ∈ l, ∀ j ∈ l, F i j = G i j) → bar F D l = bar G D l
  | [], _, _, _, _ => rfl
  | c :: cs, F, G, D, h => by
    have hc := h c (List.mem_cons_self ..)
    have h1 : ∀ i ∈ cs, ∀ j ∈ cs, F i j = G i j := fun i hi j hj => h i (List.mem_cons_of_mem _ hi) j (List.mem_cons_of_mem _ hj)
    have e0 := hc c (List.mem_cons_self ..)
    have e1 : ((c :: cs).any fun j => F c j != 0) = (c :: cs).any fun j => G c j != 0 := by
      refine Bool.eq_iff_iff.mpr ?_
      rw [List.any_eq_true, List.any_eq_true]
      constructor
      · rintro ⟨j, hj, z⟩
        exact ⟨j, hj, by rw [← hc j hj]; exact z⟩
      · rintro ⟨j, hj, z⟩
        exact ⟨j, hj, by rw [hc j hj]; exact z⟩
    rw [bar, bar, e0, e1]
    have e2 : bar (nxt F D c) (G c c) cs = bar (nxt G D c) (G c c) cs := by
      refine bar_cong cs _ _ _ fun i hi j hj => ?_
      unfold nxt
      rw [e0, h1 i hi j hj, h i (List.mem_cons_of_mem _ hi) c (List.mem_cons_self ..), hc j (List.mem_cons_of_mem _ hj)]
    rw [e2, bar_cong cs F G D h1]
theorem mat_inj {F G : Nat → Nat → Int} {l : List Nat} (h : mat F l = mat G l) : ∀ i ∈ l, ∀ j ∈ l, F i j = G i j := by
  intro i hi j hj
  unfold mat at h
  exact List.map_inj_left.mp (List.map_inj_left.mp h i hi) j hj
theorem spB_psd {g : Sr60.Graph} (G : Good g) {d : Nat} (h : Sr60.even g = some d) (p q : Nat) : spB g.length (A g) (p : Int) (q : Int) = true ↔ psd (cmpF g d p q) (List.range g.length) := by
  unfold spB
  rw [bar_cong _ _ _ _ (mat_inj (spM_cmp h p q))]
  exact bar_psd _ _ 1 (cmpF_sym G d p q) (dv_one _) (by decide) List.nodup_range
theorem spB_spec {g : Sr60.Graph} (G : Good g) {d : Nat} (h : Sr60.even g = some d) (p q : Nat) : spB g.length (A g) (p : Int) (q : Int) = Sr60.spreads g p q := by
  have e : Sr60.spreads g p q = Sr60.neverBelow (Sr60.size g + 1) (Sr60.checkOf g d p q) := by
    unfold Sr60.spreads
    rw [h]
  rw [e, check_mat]
  refine bool_eq_of (spB_psd G h p q) (never_psd _ _ _ (cmpF_sym G d p q) List.nodup_range ?_)
  rw [List.length_range]
  exact Nat.lt_succ_self _
theorem Q_diag {F : Nat → Nat → Int} {l : List Nat} (nd : l.Nodup) (c : Int) (x : Nat → Int) : Q (fun u v => F u v + if u = v then c else 0) l x = Q F l x + c * S l fun u => x u * x u := by
  unfold Q
  rw [← S_mul, ← S_add]
  refine S_congr fun u hu => ?_
  have e : (S l fun j => x u * x j * (F u j + if u = j then c else 0)) = (S l fun j => x u * x j * F u j) + S l fun j => x u * x j * (if u = j then c else 0) := by
    rw [← S_add]
    exact S_congr fun j _ => by grind
  rw [e, S_one (c := u) (fun j => x u * x j * (if u = j then c else 0)) nd hu fun j _ z => by rw [if_neg fun k => z k.symm, Int.mul_zero]]
  simp only [if_true]
  grind
theorem spB_mono {g : Sr60.Graph} (G : Good g) {d : Nat} (h : Sr60.even g = some d) (p p' q : Nat) (hp : p ≤ p') (e : spB g.length (A g) (p : Int) (q : Int) = true) : spB g.length (A g) (p' : Int) (q : Int) = true := by
  rw [spB_psd G h] at e ⊢
  intro x
  have z : p * p ≤ p' * p' := Nat.mul_le_mul hp hp
  obtain ⟨r, hr⟩ : ∃ r, p' * p' = p * p + r := ⟨p' * p' - p * p, by omega⟩
  have e1 : cmpF g d p' q = fun u v => cmpF g d p q u v + if u = v then ((r * d * d * g.length : Nat) : Int) else 0 := by
    funext u v
    unfold cmpF
    by_cases c : u = v
    · rw [if_pos c, if_pos c, if_pos c, hr]
      simp only [Nat.add_mul, Int.natCast_add]
      omega
    · rw [if_neg c, if_neg c, if_neg c]
      omega
  rw [e1, Q_diag List.nodup_range]
  have h1 := e x
  have h2 : 0 ≤ S (List.range g.length) fun u => x u * x u := S_nonneg fun u _ => sq_nonneg (x u)
  have h3 : 0 ≤ ((r * d * d * g.length : Nat) : Int) * S (List.range g.length) fun u => x u * x u := Int.mul_nonneg (by omega) h2
  omega
/-- Cauchy: (sum of a x) squared is no more than (sum of a) (sum of a x x) -/
theorem cauchy (a x : Nat → Int) (ha : ∀ i, 0 ≤ a i) : ∀ l : List Nat, (S l fun i => a i * x i) * (S l fun i => a i * x i) ≤ S l a * S l fun i => a i * (x i * x i)
  | [] => by simp [S_nil]
  | c :: l => by
    have ih := cauchy a x ha l
    rw [S_cons, S_cons, S_cons]
    have h : 0 ≤ S l fun i => a i * ((x i - x c) * (x i - x c)) := S_nonneg fun i _ => Int.mul_nonneg (ha i) (sq_nonneg _)
    have e : (S l fun i => a i * ((x i - x c) * (x i - x c))) = (S l fun i => a i * (x i * x i)) - 2 * x c * (S l fun i => a i * x i) + x c * x c * S l a := by
      rw [← S_mul, ← S_mul, ← S_sub, ← S_add]
      exact S_congr fun i _ => by grind
    rw [e] at h
    have h2 := Int.mul_nonneg (ha c) h
    grind
theorem spB_top {g : Sr60.Graph} (G : Good g) {d : Nat} (h : Sr60.even g = some d) (q : Nat) : spB g.length (A g) (q : Int) (q : Int) = true := by
  rw [spB_psd G h]
  intro x
  have hs := even_some h
  have rowsum : ∀ u, u < g.length → S (List.range g.length) (A g u) = (d : Int) := fun u hu => by
    rw [← degree_S, hs.2.2 u hu]
  -- the squares of the sums
  have hA : ∀ u, (S (List.range g.length) fun v => A g u v * x v) * (S (List.range g.length) fun v => A g u v * x v) ≤ S (List.range g.length) (A g u) * S (List.range g.length) fun v => A g u v * (x v * x v) := fun u => cauchy (A g u) x (A_nonneg g u) _
  have hB : S (List.range g.length) (fun u => (S (List.range g.length) fun v => A g u v * x v) * (S (List.range g.length) fun v => A g u v * x v)) ≤ (d : Int) * ((d : Int) * S (List.range g.length) fun v => x v * x v) := by
    have h1 : S (List.range g.length) (fun u => (S (List.range g.length) fun v => A g u v * x v) * (S (List.range g.length) fun v => A g u v * x v)) ≤ S (List.range g.length) fun u => (d : Int) * S (List.range g.length) fun v => A g u v * (x v * x v) := S_le fun u hu => by
      have := hA u
      rw [rowsum u (List.mem_range.mp hu)] at this
      exact this
    have h2 : (S (List.range g.length) fun u => (d : Int) * S (List.range g.length) fun v => A g u v * (x v * x v)) = (d : Int) * ((d : Int) * S (List.range g.length) fun v => x v * x v) := by
      rw [S_mul, S_comm (fun u v => A g u v * (x v * x v))]
      congr 1
      rw [← S_mul]
      refine S_congr fun v hv => ?_
      rw [S_mulr]
      have : S (List.range g.length) (fun u => A g u v) = (d : Int) := by
        rw [← rowsum v (List.mem_range.mp hv)]
        exact S_congr fun u _ => congrArg (fun z : Nat => (z : Int)) (G.symm u v)
      rw [this]
    omega
  -- the walks of two lines
  have hW : (S (List.range g.length) fun u => S (List.range g.length) fun v => x u * x v * ((Sr60.lines (Sr60.times g g) u v : Nat) : Int)) = S (List.range g.length) fun w => (S (List.range g.length) fun v => A g w v * x v) * (S (List.range g.length) fun v => A g w v * x v) := by
    have e1 : (S (List.range g.length) fun u => S (List.range g.length) fun v => x u * x v * ((Sr60.lines (Sr60.times g g) u v : Nat) : Int)) = S (List.range g.length) fun u => S (List.range g.length) fun w => (A g w u * x u) * S (List.range g.length) fun v => A g w v * x v := by
      refine S_congr fun u hu => ?_
      have e2 : (S (List.range g.length) fun v => x u * x v * ((Sr60.lines (Sr60.times g g) u v : Nat) : Int)) = S (List.range g.length) fun v => S (List.range g.length) fun w => (A g w u * x u) * (A g w v * x v) := by
        refine S_congr fun v hv => ?_
        rw [← W2 (List.mem_range.mp hu) (List.mem_range.mp hv)]
        show x u * x v * S (List.range g.length) (fun w => W g.length (A g) 1 u w * A g w v) = _
        rw [← S_mul]
        refine S_congr fun w _ => ?_
        rw [W1 (A g) (List.mem_range.mp hu)]
        have : A g u w = A g w u := congrArg (fun z : Nat => (z : Int)) (G.symm u w)
        rw [this]
        grind
      rw [e2, S_comm (fun v w => (A g w u * x u) * (A g w v * x v))]
      refine S_congr fun w _ => ?_
      rw [S_mul]
    rw [e1, S_comm (fun u w => (A g w u * x u) * S (List.range g.length) fun v => A g w v * x v)]
    refine S_congr fun w _ => ?_
    rw [S_mulr]
  -- all together
  have hQ : Q (cmpF g d q q) (List.range g.length) x = ((q * q * d * d * g.length : Nat) : Int) * (S (List.range g.length) fun v => x v * x v) - ((q * q * g.length : Nat) : Int) * (S (List.range g.length) fun u => S (List.range g.length) fun v => x u * x v * ((Sr60.lines (Sr60.times g g) u v : Nat) : Int)) + ((q * q * d * d : Nat) : Int) * (S (List.range g.length) x * S (List.range g.length) x) := by
    have e1 : cmpF g d q q = fun u v => (((q * q * d * d : Nat) : Int) - ((q * q * g.length : Nat) : Int) * ((Sr60.lines (Sr60.times g g) u v : Nat) : Int)) + if u = v then ((q * q * d * d * g.length : Nat) : Int) else 0 := by
      funext u v
      unfold cmpF
      rw [Int.natCast_mul (q * q * g.length)]
      omega
    rw [e1, Q_diag List.nodup_range]
    have e2 : Q (fun u v => ((q * q * d * d : Nat) : Int) - ((q * q * g.length : Nat) : Int) * ((Sr60.lines (Sr60.times g g) u v : Nat) : Int)) (List.range g.length) x = ((q * q * d * d : Nat) : Int) * (S (List.range g.length) x * S (List.range g.length) x) - ((q * q * g.length : Nat) : Int) * (S (List.range g.length) fun u => S (List.range g.length) fun v => x u * x v * ((Sr60.lines (Sr60.times g g) u v : Nat) : Int)) := by
      unfold Q
      have e3 : ((q * q * d * d : Nat) : Int) * (S (List.range g.length) x * S (List.range g.length) x) = S (List.range g.length) fun u => S (List.range g.length) fun v => ((q * q * d * d : Nat) : Int) * (x u * x v) := by
        rw [← S_mulr, ← S_mul]
        refine S_congr fun u _ => ?_
        rw [S_mul, S_mul]
      rw [e3, ← S_mul, ← S_sub]
      refine S_congr fun u _ => ?_
      rw [← S_mul, ← S_sub]
      exact S_congr fun v _ => by grind
    rw [e2]
    omega
  rw [hQ, hW]
  have h1 : 0 ≤ ((q * q * d * d : Nat) : Int) * (S (List.range g.length) x * S (List.range g.length) x) := Int.mul_nonneg (by omega) (sq_nonneg _)
  have h2 := Int.mul_le_mul_of_nonneg_left hB (show (0 : Int) ≤ ((q * q * g.length : Nat) : Int) by omega)
  have e4 : ((q * q * g.length : Nat) : Int) * ((d : Int) * ((d : Int) * S (List.range g.length) fun v => x v * x v)) = ((q * q * d * d * g.length : Nat) : Int) * (S (List.range g.length) fun v => x v * x v) := by
    simp only [Int.natCast_mul]
    grind
  rw [e4] at h2
  omega
theorem least_of {g : Sr60.Graph} (G : Good g) {d : Nat} (h : Sr60.even g = some d) {q r : Nat} (h1 : r ≤ q) (h2 : spB g.length (A g) (r : Int) (q : Int) = true) (h3 : ∀ p : Nat, p < r → spB g.length (A g) (p : Int) (q : Int) = false) : Sr60.least g q = some r := by
  unfold Sr60.least
  rw [List.find?_range_eq_some]
  refine ⟨by rw [← spB_spec G h]; exact h2, List.mem_range.mpr (by omega), fun j hj => ?_⟩
  rw [← spB_spec G h, h3 j hj]
  rfl
end Sw
namespace Sw
open PySem PySem.Spec PyProof.Rows L2
/-! ### Sets of places -/
theorem bit_add {a u i : Nat} (h : a < 2 ^ u) : (a + 2 ^ u).testBit i = (a.testBit i || decide (u = i)) := by
  have e : a + 2 ^ u = 2 ^ u * 1 ||| a := by
    rw [← Nat.two_pow_add_eq_or_of_lt h 1]
    omega
  rw [e, Nat.mul_one, Nat.testBit_or, Nat.testBit_two_pow, Bool.or_comm]
theorem bits_fold : ∀ (us : List Nat) (a i : Nat), us.Pairwise (· < ·) → (∀ u ∈ us, a < 2 ^ u) → (us.foldl (fun a u => a + 2 ^ u) a).testBit i = (a.testBit i || us.contains i)
  | [], a, i, _, _ => by simp
  | u :: r, a, i, hp, ha => by
    have hp' := List.pairwise_cons.mp hp
    have h1 := ha u (List.mem_cons_self ..)
    rw [List.foldl_cons, bits_fold r (a + 2 ^ u) i hp'.2 ?_, bit_add h1, List.contains_cons, Bool.or_assoc]
    · congr 2
      rw [Bool.eq_iff_iff, decide_eq_true_eq, beq_iff_eq]
      exact eq_comm
    · intro v hv
      have h2 : u < v := hp'.1 v hv
      have h3 : 2 ^ (u + 1) ≤ 2 ^ v := Nat.pow_le_pow_right (by decide) h2
      rw [Nat.pow_succ] at h3
      omega
theorem rising_pair : ∀ (s : List Int), Sr60.rising s = true → s.Pairwise (· < ·)
  | [], _ => .nil
  | [a], _ => List.pairwise_singleton ..
  | a :: b :: r, h => by
    rw [Sr60.rising, Bool.and_eq_true, decide_eq_true_eq] at h
    have ih := rising_pair (b :: r) h.2
    refine List.pairwise_cons.mpr ⟨fun x hx => ?_, ih⟩
    rcases List.mem_cons.mp hx with e | e
    · rw [e]
      exact h.1
    · exact Int.lt_trans h.1 ((List.pairwise_cons.mp ih).1 x e)
/-- what a row of places is -/
structure RowOf (g : Sr60.Graph) (s : List Int) (us : List Nat) : Prop where
  eq : s = toI us
  lt : us.Pairwise (· < ·)
  inside : ∀ u ∈ us, u < g.length
theorem row_of {g : Sr60.Graph} {s : List Int} (h : Sr60.okSet g s = true) : ∃ us, RowOf g s us := by
  unfold Sr60.okSet at h
  rw [Bool.and_eq_true, List.all_eq_true] at h
  have h1 : ∀ u ∈ s, 0 ≤ u ∧ u < (g.length : Int) := fun u hu => by
    have := h.1 u hu
    unfold Sr60.isP at this
    rw [Bool.and_eq_true, decide_eq_true_eq, decide_eq_true_eq] at this
    exact this
  have h2 := rising_pair s h.2
  refine ⟨s.map Int.toNat, ?_, ?_, ?_⟩
  · unfold toI
    rw [List.map_map]
    conv => lhs; rw [← List.map_id s]
    refine List.map_congr_left fun u hu => ?_
    show u = ((u.toNat : Nat) : Int)
    have := (h1 u hu).1
    omega
  · rw [List.pairwise_map]
    refine h2.imp_of_mem fun {a b} ha hb hab => ?_
    have := h1 a ha
    have := h1 b hb
    omega
  · intro u hu
    obtain ⟨x, hx, rfl⟩ := List.mem_map.mp hu
    have := h1 x hx
    omega
theorem num_toI (us : List Nat) : Sr60.num (toI us) = us.foldl (fun a u => a + 2 ^ u) 0 := by
  unfold Sr60.num toI
  rw [List.foldl_map]
  congr 1
theorem RowOf.bit {g : Sr60.Graph} {s : List Int} {us : List Nat} (r : RowOf g s us) (i : Nat) : Sr60.isIn (Sr60.num s) i = us.contains i := by
  unfold Sr60.isIn
  rw [r.eq, num_toI, bits_fold us 0 i r.lt fun u _ => Nat.two_pow_pos u]
  simp
theorem sorted_filter : ∀ (n : Nat) (us : List Nat), us.Pairwise (· < ·) → (∀ u ∈ us, u < n) → (List.range n).filter (fun i => us.contains i) = us
  | 0, us, _, h => by
    cases us with
    | nil => rfl
    | cons u r => exact absurd (h u (List.mem_cons_self ..)) (Nat.not_lt_zero _)
  | n + 1, us, hp, h => by
    rw [List.range_succ, List.filter_append]
    by_cases c : n ∈ us
    · -- n is the last
      obtain ⟨l, r, e⟩ := List.append_of_mem c
      have hr : r = [] := by
        cases r with
        | nil => rfl
        | cons x r =>
          rw [e, List.pairwise_append] at hp
          have h1 := (List.pairwise_cons.mp hp.2.1).1 x (List.mem_cons_self ..)
          have h2 := h x (by rw [e]; simp)
          omega
      subst hr
      subst e
      rw [List.pairwise_append] at hp
      have hl : ∀ u ∈ l, u < n := fun u hu => hp.2.2 u hu n (List.mem_singleton.mpr rfl)
      have ih := sorted_filter n l hp.1 hl
      have e1 : (List.range n).filter (fun i => (l ++ [n]).contains i) = (List.range n).filter (fun i => l.contains i) := by
        refine List.filter_congr fun i hi => ?_
        have : i < n := List.mem_range.mp hi
        rw [List.contains_eq_any_beq, List.contains_eq_any_beq, List.any_append]
        simp
        omega
      rw [e1, ih]
      simp
    · have h' : ∀ u ∈ us, u < n := fun u hu => by
        have := h u hu
        have : u ≠ n := fun e => c (e ▸ hu)
        omega
      rw [sorted_filter n us hp h']
      simp [c]
theorem RowOf.members {g : Sr60.Graph} {s : List Int} {us : List Nat} (r : RowOf g s us) : Sr60.members g (Sr60.num s) = us := by
  unfold Sr60.members
  have e : (Sr60.isIn (Sr60.num s)) = fun i => us.contains i := funext r.bit
  rw [e]
  exact sorted_filter g.length us r.lt r.inside
theorem flat_S (us ws : List Nat) (f : Nat → Nat → Nat) : ((Sr60.sum (us.flatMap fun u => ws.map fun v => f u v) : Nat) : Int) = S us fun u => S ws fun v => (f u v : Int) := by
  unfold Sr60.sum
  rw [sum_foldl, Nat.zero_add]
  induction us with
  | nil => rfl
  | cons u r ih =>
    rw [List.flatMap_cons, List.sum_append, Int.natCast_add, ih, S_cons, sum_S]
theorem between_S {g : Sr60.Graph} {s t : List Int} {us ws : List Nat} (r : RowOf g s us) (q : RowOf g t ws) : ((Sr60.between g (Sr60.num s) (Sr60.num t) : Nat) : Int) = S us fun u => S ws fun v => A g u v := by
  unfold Sr60.between
  rw [r.members, q.members]
  exact flat_S us ws (Sr60.lines g)
theorem leaving_S {g : Sr60.Graph} {s : List Int} {us : List Nat} (r : RowOf g s us) : ((Sr60.leaving g (Sr60.num s) : Nat) : Int) = S us fun u => S ((List.range g.length).filter fun v => !us.contains v) fun v => A g u v := by
  unfold Sr60.leaving
  have e : (Sr60.places g).filter (fun v => !Sr60.isIn (Sr60.num s) v) = (List.range g.length).filter fun v => !us.contains v := List.filter_congr fun v _ => by rw [r.bit]
  rw [r.members, e]
  exact flat_S us _ (Sr60.lines g)
/-! staying -/
theorem stays_S {g : Sr60.Graph} {s : List Int} {us : List Nat} (r : RowOf g s us) : ∀ k, Sr60.n2i (Sr60.stays g (Sr60.num s) k) = (List.range g.length).map (stF g.length (A g) us k)
  | 0 => by
    unfold Sr60.n2i
    rw [Sr60.stays, List.map_map]
    refine List.map_congr_left fun u _ => ?_
    show (((if Sr60.isIn (Sr60.num s) u then 1 else 0 : Nat)) : Int) = inF us u
    rw [r.bit]
    unfold inF
    split <;> rfl
  | k + 1 => by
    have ih := stays_S r k
    unfold Sr60.n2i at ih ⊢
    rw [Sr60.stays, List.map_map]
    refine List.map_congr_left fun u _ => ?_
    show (((if Sr60.isIn (Sr60.num s) u then Sr60.sum ((Sr60.places g).map fun v => Sr60.lines g u v * (Sr60.stays g (Sr60.num s) k).getD v 0) else 0 : Nat)) : Int) = inF us u * S (List.range g.length) fun v => A g u v * stF g.length (A g) us k v
    have e : ((Sr60.sum ((Sr60.places g).map fun v => Sr60.lines g u v * (Sr60.stays g (Sr60.num s) k).getD v 0) : Nat) : Int) = S (List.range g.length) fun v => A g u v * stF g.length (A g) us k v := by
      rw [Sum_S]
      show S (List.range g.length) _ = _
      refine S_congr fun v hv => ?_
      rw [Int.natCast_mul]
      congr 1
      have hv' : v < g.length := List.mem_range.mp hv
      have := congrArg (fun l : List Int => l[v]?) ih
      simp only [List.getElem?_map, List.getElem?_range hv'] at this
      rw [List.getD_eq_getElem?_getD]
      cases z : (Sr60.stays g (Sr60.num s) k)[v]? with
      | none => rw [z] at this; cases this
      | some y => rw [z] at this; exact Option.some.inj this
    rw [r.bit]
    unfold inF
    by_cases c : us.contains u = true
    · rw [if_pos c, if_pos c, e, Int.one_mul]
    · rw [if_neg c, if_neg c, Int.zero_mul]
      rfl
theorem n2i_sum : ∀ l : List Nat, ((Sr60.sum l : Nat) : Int) = (Sr60.n2i l).sum := by
  intro l
  unfold Sr60.sum Sr60.n2i
  rw [sum_foldl, Nat.zero_add]
  induction l with
  | nil => rfl
  | cons a r ih => rw [List.map_cons, List.sum_cons, List.sum_cons, ← ih, Int.natCast_add]
/-! walks from a place -/
theorem from_W {g : Sr60.Graph} {u : Nat} (hu : u < g.length) (k : Nat) : Sr60.n2i (Sr60.from1 g u k) = (List.range g.length).map (W g.length (A g) k u) := by
  have h := power_mat g k
  have e := congrArg (fun m : List (List Int) => m[u]?) h
  rw [mat_get hu] at e
  unfold Sr60.from1 Sr60.n2i
  have e' : ((Sr60.power g k).map fun r => r.map fun (x : Nat) => (x : Int))[u]? = some ((List.range g.length).map (W g.length (A g) k u)) := e
  rw [List.getElem?_map] at e'
  rw [List.getD_eq_getElem?_getD]
  cases z : (Sr60.power g k)[u]? with
  | none => rw [z] at e'; cases e'
  | some r => rw [z] at e'; exact Option.some.inj e'
theorem sq_abs (z : Int) : ((z.natAbs ^ 2 : Nat) : Int) = z * z := by
  rw [Nat.pow_two, Int.natCast_mul]
  exact Int.natAbs_mul_self
theorem uneven_S {g : Sr60.Graph} {u d k : Nat} (hu : u < g.length) : ((Sr60.uneven g d u k : Nat) : Int) = S (List.range g.length) fun v => ((g.length : Int) * W g.length (A g) k u v - (d : Int) ^ k) * ((g.length : Int) * W g.length (A g) k u v - (d : Int) ^ k) := by
  unfold Sr60.uneven
  have h := from_W hu k
  have e : ∀ (l : List Nat) (m : List Int), Sr60.n2i l = m → ((Sr60.sum (l.map fun x => ((((Sr60.size g * x : Nat) : Int) - ((d ^ k : Nat) : Int)).natAbs) ^ 2) : Nat) : Int) = (m.map fun y => ((g.length : Int) * y - (d : Int) ^ k) * ((g.length : Int) * y - (d : Int) ^ k)).sum := by
    intro l m hlm
    subst hlm
    unfold Sr60.sum Sr60.n2i
    rw [sum_foldl, Nat.zero_add, List.map_map]
    induction l with
    | nil => rfl
    | cons a r ih =>
      rw [List.map_cons, List.sum_cons, List.map_cons, List.sum_cons, Int.natCast_add, ih, sq_abs, Int.natCast_mul, Int.natCast_pow]
      rfl
  rw [e _ _ h, List.map_map]
  rfl
/-! power keeps what a graph is -/
theorem W_left {n : Nat} (F : Nat → Nat → Int) : ∀ (k i j : Nat), i < n → j < n → W n F (k + 1) i j = S (List.range n) fun w => F i w * W n F k w j
  | 0, i, j, hi, hj => by
    rw [W1 F hi, S_one (c := j) (fun w => F i w * W n F 0 w j) List.nodup_range (List.mem_range.mpr hj) fun w _ z => by
      show F i w * Id0 w j = 0
      unfold Id0
      rw [if_neg z, Int.mul_zero]]
    show F i j = F i j * Id0 j j
    unfold Id0
    rw [if_pos rfl, Int.mul_one]
  | k + 1, i, j, hi, hj => by
    show S (List.range n) (fun w => W n F (k + 1) i w * F w j) = _
    have e : S (List.range n) (fun w => W n F (k + 1) i w * F w j) = S (List.range n) fun w => S (List.range n) fun x => F i x * (W n F k x w * F w j) := by
      refine S_congr fun w hw => ?_
      rw [W_left F k i w hi (List.mem_range.mp hw), ← S_mulr]
      exact S_congr fun x _ => by grind
    rw [e, S_comm (fun w x => F i x * (W n F k x w * F w j))]
    refine S_congr fun x _ => ?_
    rw [S_mul]
    rfl
theorem W_sym {n : Nat} {F : Nat → Nat → Int} (s : ∀ i j, i < n → j < n → F i j = F j i) : ∀ (k i j : Nat), i < n → j < n → W n F k i j = W n F k j i
  | 0, i, j, _, _ => by
    show Id0 i j = Id0 j i
    unfold Id0
    by_cases e : i = j
    · rw [if_pos e, if_pos e.symm]
    · rw [if_neg e, if_neg fun z => e z.symm]
  | k + 1, i, j, hi, hj => by
    rw [W_left F k j i hj hi]
    show S (List.range n) (fun w => W n F k i w * F w j) = _
    refine S_congr fun w hw => ?_
    have hw' := List.mem_range.mp hw
    rw [W_sym s k i w hi hw', s w j hw' hj, Int.mul_comm]
theorem good_of {h : Sr60.Graph} (n1 : 1 ≤ h.length) (n2 : h.length ≤ 10) (rows : ∀ r ∈ h, r.length = h.length) (s : ∀ u v, u < h.length → v < h.length → Sr60.lines h u v = Sr60.lines h v u) (sm : Sr60.small h = true) : Good h := by
  refine ⟨n1, n2, rows, fun u v => ?_, fun u hu => ?_⟩
  · by_cases c : u < h.length ∧ v < h.length
    · exact s u v c.1 c.2
    · rw [lines_out rows c, lines_out rows fun z => c ⟨z.2, z.1⟩]
  · unfold Sr60.small at sm
    exact of_decide_eq_true (List.all_eq_true.mp sm u (List.mem_range.mpr hu))
theorem power_good {g : Sr60.Graph} (G : Good g) {k : Nat} (sm : Sr60.small (Sr60.power g k) = true) : Good (Sr60.power g k) := by
  refine good_of (by rw [power_len]; exact G.n1) (by rw [power_len]; exact G.n2) (power_rows g k) (fun u v hu hv => ?_) sm
  rw [power_len] at hu hv
  have e := W_sym (n := g.length) (F := A g) (fun i j _ _ => congrArg (fun z : Nat => (z : Int)) (G.symm i j)) k u v hu hv
  rw [← power_W g k u v hu hv, ← power_W g k v u hv hu] at e
  exact Int.ofNat.inj e
theorem set_rows {g : Sr60.Graph} (h : ∀ r ∈ g, r.length = g.length) (u : Nat) (r : List Nat) (hr : r.length = g.length) : ∀ x ∈ g.set u r, x.length = (g.set u r).length := by
  intro x hx
  rw [List.length_set]
  rcases List.mem_or_eq_of_mem_set hx with q | q
  · exact h x q
  · rw [q]
    exact hr
theorem lines_set {g : Sr60.Graph} (h : ∀ r ∈ g, r.length = g.length) {u v c : Nat} (hu : u < g.length) (hv : v < g.length) (a b : Nat) : Sr60.lines (g.set u ((g.getD u []).set v c)) a b = if a = u ∧ b = v then c else Sr60.lines g a b := by
  have hr : (g.getD u []).length = g.length := by
    rw [List.getD_eq_getElem?_getD, List.getElem?_eq_getElem hu]
    exact h _ (List.getElem_mem hu)
  unfold Sr60.lines
  rw [List.getD_eq_getElem?_getD (l := g.set u ((g.getD u []).set v c)) (a := []), List.getElem?_set]
  by_cases e : u = a
  · subst e
    rw [if_pos rfl, if_pos hu]
    show ((g.getD u []).set v c).getD b 0 = _
    rw [List.getD_eq_getElem?_getD, List.getElem?_set]
    by_cases e2 : v = b
    · subst e2
      rw [if_pos rfl, if_pos (by omega), if_pos ⟨rfl, rfl⟩]
      rfl
    · rw [if_neg e2, if_neg fun z => e2 z.2.symm]
      exact (List.getD_eq_getElem?_getD ..).symm
  · rw [if_neg e, if_neg fun z => e z.1.symm, List.getD_eq_getElem?_getD (l := g)]
theorem setLine_len (g : Sr60.Graph) (u v c : Nat) : (Sr60.setLine g u v c).length = g.length := by simp [Sr60.setLine]
theorem lines_setLine {g : Sr60.Graph} (h : ∀ r ∈ g, r.length = g.length) {u v c : Nat} (hu : u < g.length) (hv : v < g.length) : (∀ r ∈ Sr60.setLine g u v c, r.length = (Sr60.setLine g u v c).length) ∧ ∀ a b, Sr60.lines (Sr60.setLine g u v c) a b = if a = v ∧ b = u then c else if a = u ∧ b = v then c else Sr60.lines g a b := by
  have l1 : ∀ (f : Sr60.Graph) (w : Nat), (∀ r ∈ f, r.length = f.length) → w < f.length → (f.getD w []).length = f.length := fun f w hf hw => by
    rw [List.getD_eq_getElem?_getD, List.getElem?_eq_getElem hw]
    exact hf _ (List.getElem_mem hw)
  have r1 := set_rows h u ((g.getD u []).set v c) (by rw [List.length_set]; exact l1 g u h hu)
  have lu : (g.set u ((g.getD u []).set v c)).length = g.length := List.length_set
  refine ⟨?_, fun a b => ?_⟩
  · exact set_rows r1 v _ (by rw [List.length_set]; exact l1 _ v r1 (by omega))
  · show Sr60.lines ((g.set u ((g.getD u []).set v c)).set v (((g.set u ((g.getD u []).set v c)).getD v []).set u c)) a b = _
    rw [lines_set r1 (by omega) (by omega), lines_set h hu hv]
theorem setLine_mat {g : Sr60.Graph} (G : Good g) {u v c : Nat} (hu : u < g.length) (hv : v < g.length) : gints (Sr60.setLine g u v c) = mat (setF (A g) u v (c : Int)) (List.range g.length) := by
  obtain ⟨r, l⟩ := lines_setLine (c := c) G.rows hu hv
  rw [square_mat r, setLine_len]
  refine mat_congr fun a _ b _ => ?_
  unfold A setF
  rw [l]
  split
  · rfl
  · split <;> rfl
theorem setLine_good {g : Sr60.Graph} (G : Good g) {u v c : Nat} (hu : u < g.length) (hv : v < g.length) (sm : Sr60.small (Sr60.setLine g u v c) = true) : Good (Sr60.setLine g u v c) := by
  obtain ⟨r, l⟩ := lines_setLine (c := c) G.rows hu hv
  refine good_of (by rw [setLine_len]; exact G.n1) (by rw [setLine_len]; exact G.n2) r (fun a b _ _ => ?_) sm
  rw [l, l, G.symm a b]
  by_cases c1 : a = v ∧ b = u
  · rw [if_pos c1]
    by_cases c2 : b = v ∧ a = u
    · rw [if_pos c2]
    · rw [if_neg c2, if_pos ⟨c1.2, c1.1⟩]
  · rw [if_neg c1]
    by_cases c2 : a = u ∧ b = v
    · rw [if_pos c2, if_pos ⟨c2.2, c2.1⟩]
    · rw [if_neg c2, if_neg fun z => c2 ⟨z.2, z.1⟩, if_neg fun z => c1 ⟨z.2, z.1⟩]
end Sw
namespace Sw
open PySem PySem.Spec PyProof.Rows L2
/-! ### The calls: what all of them ask and leave -/
def stM (st : Sr60.State) : List (List Int) := match st with
  | none => []
  | some g => gints g
def StAt (C : Addr) (H : Hp) (ga : Addr) (st : Sr60.State) : Prop := ∃ la, GAt C H ga la (stM st)
def StOk (st : Sr60.State) : Prop := ∀ g, st = some g → Good g
/-- an object that is no part of the graph's matrix -/
def Sep (C : Addr) (H : Hp) (ga t : Addr) : Prop := ∃ (la dx : Addr) (as : List Addr), H ga = some (.ins C dx (gF la)) ∧ H la = some (.lst (as.map V.ref)) ∧ la ≠ t ∧ t ∉ as
theorem Sep.same {C : Addr} {H H' : Hp} {ga t : Addr} (h : Sep C H ga t) (s : Same H H') : Sep C H' ga t := by
  obtain ⟨la, dx, as, h1, h2, h3, h4⟩ := h
  exact ⟨la, dx, as, s _ _ h1, s _ _ h2, h3, h4⟩
structure Post (C : Addr) (H H' : Hp) (ga p : Addr) (y : Sr60.State × Sr60.Ans) : Prop where
  kept : ∀ b o, H b = some o → b ≠ ga → H' b = some o
  obj : StAt C H' ga y.1
  good : StOk y.1
  res : IntsAt H' p (y.2.num :: y.2.nums)
  new : H p = none
  sep : ∀ t o, H t = some o → Sep C H ga t → Sep C H' ga t
theorem Post.ret {C : Addr} {H H' : Hp} {ga p : Addr} {st : Sr60.State} {y : Sr60.State × Sr60.Ans} {x : Int} {xs : List Int} (hS : StAt C H ga st) (ok : StOk st) (s : Same H H') (hp : H' p = none) (e : y = (st, (⟨x, xs⟩ : Sr60.Ans))) : Post C H (upd H' p (.lst ((x :: xs).map V.int))) ga p y := by
  subst e
  have s2 : Same H (upd H' p (.lst ((x :: xs).map V.int))) := s.trans (same_upd (Same.refl _) hp)
  obtain ⟨la, h⟩ := hS
  exact ⟨fun b o h _ => s2 b o h, ⟨la, h.same s2⟩, ok, upd_same, s.free hp, fun t o _ q => q.same s2⟩
theorem Post.ret1 {C : Addr} {H H' : Hp} {ga p : Addr} {st : Sr60.State} {y : Sr60.State × Sr60.Ans} {x : Int} (hS : StAt C H ga st) (ok : StOk st) (s : Same H H') (hp : H' p = none) (e : y = (st, Sr60.say x)) : Post C H (upd H' p (.lst [V.int x])) ga p y := Post.ret (x := x) (xs := []) hS ok s hp e
/-- a list that is made already -/
theorem Post.had {C : Addr} {H H' : Hp} {ga p : Addr} {st : Sr60.State} {y : Sr60.State × Sr60.Ans} {x : Int} {xs : List Int} (hS : StAt C H ga st) (ok : StOk st) (s : Same H H') (hn : H p = none) (hp : IntsAt H' p (x :: xs)) (e : y = (st, (⟨x, xs⟩ : Sr60.Ans))) : Post C H H' ga p y := by
  subst e
  obtain ⟨la, h⟩ := hS
  exact ⟨fun b o h _ => s b o h, ⟨la, h.same s⟩, ok, hp, hn, fun t o _ q => q.same s⟩
theorem Post.put {C : Addr} {H H1 : Hp} {ga p dx la lb : Addr} {g' : Sr60.Graph} {y : Sr60.State × Sr60.Ans} {x : Int} (hg : H1 ga = some (.ins C dx (gF la))) (s : Same H H1) (M : NewAt H H1 lb (gints g')) (G : Good g') (hp : upd H1 ga (.ins C dx (gF lb)) p = none) (e : y = (some g', Sr60.say x)) :
    Post C H (upd (upd H1 ga (.ins C dx (gF lb))) p (.lst [.int x])) ga p y := by
  subst e
  have pg : p ≠ ga := fun z => by rw [z, upd_same] at hp; cases hp
  have hp1 : H1 p = none := by rwa [upd_ne pg] at hp
  have ne : ∀ b xs, H1 b = some (.lst xs) → b ≠ ga := fun b xs h z => by
    rw [z, hg] at h
    cases h
  have keep : ∀ b o, H1 b = some o → b ≠ ga → upd (upd H1 ga (.ins C dx (gF lb))) p (.lst [.int x]) b = some o := fun b o h hb => by
    rw [upd_ne (ne_of_none h hp1), upd_ne hb]
    exact h
  obtain ⟨n0, as, h1, h2, n3, _, _⟩ := M
  refine ⟨fun b o h hb => keep b o (s b o h) hb, ⟨lb, ⟨dx, ?_⟩, as, keep _ _ h1 (ne _ _ h1), ?_⟩, fun g e => by cases e; exact G, upd_same, s.free hp1, fun t o ht _ => ⟨lb, dx, as, ?_, keep _ _ h1 (ne _ _ h1), fun z => ?_, fun z => ?_⟩⟩
  · rw [upd_ne (Ne.symm pg), upd_same]
  · refine h2.keep fun b hb o h => keep b o h ?_
    obtain ⟨i, hi⟩ := List.mem_iff_getElem?.mp hb
    have hl : i < (gints g').length := by
      rw [← h2.length]
      exact (List.getElem?_eq_some_iff.mp hi).1
    obtain ⟨b2, hb2, hI⟩ := h2.get (List.getElem?_eq_getElem hl)
    obtain rfl := Option.some.inj (hi.symm.trans hb2)
    exact ne _ _ hI
  · rw [upd_ne (Ne.symm pg), upd_same]
  · rw [← z, n0] at ht
    cases ht
  · rw [n3 t z] at ht
    cases ht
def spC (C : Addr) (rd : Hp → List V → Sr60.Call → Prop) : Sp := fun vs H Q _ => ∃ (ga va : Addr) (g : Sr60.Graph) (xs : List V) (c : Sr60.Call), vs = [.ref ga, .ref va] ∧ StAt C H ga (some g) ∧ Good g ∧ H va = some (.lst xs) ∧ rd H xs c ∧
  ∀ H' p, Post C H H' ga p (Sr60.step (some g) c) → Q (.ref p) H'
theorem st_ok {g : Sr60.Graph} (G : Good g) : StOk (some g) := fun g' e => by
  cases e
  exact G
theorem chain_C {σ : L2.St} {H : Hp} {Q : VK} {i : Nat} {lo x hi : Int} (hx : σ[i]? = some (some (.int x))) (h : Q (.bl (decide (lo ≤ x) && decide (x ≤ hi))) H) :
    tChain (rI0 fun i j => .bl (decide (i ≤ j))) (rI0 fun i j => .bl (decide (i ≤ j))) (tC (.int lo)) (tVar i) (tC (.int hi)) σ H Q := by
  refine ⟨_, hx, lo, x, rfl, rfl, _, rfl, ite2 (fun a => ⟨x, hi, rfl, rfl, ?_⟩) (fun a => ?_)⟩
  · rw [a, Bool.true_and] at h
    exact h
  · rw [Bool.eq_false_iff.mpr a, Bool.false_and] at h
    exact h
structure Lib (P : Program) (w : World) (K : PySem.W.Frag) (mg : Str → Option Value) (base : Heap) (C : Addr) : Prop where
  b : Bi mg
  t : Csts mg
  c : GCls K C
  zeros : Cl P w K mg base 1 "zeros" spZeros
  copied : Cl P w K mg base 1 "copied" spCopied
  dot : Cl P w K mg base 1 "dot" (spDot K)
  walks : Cl P w K mg base 3 "walks" (spWalks K)
  raised : Cl P w K mg base 1 "raised" spRaised
  common : Cl P w K mg base 1 "common_degree" (spCommon K)
  spreadsBy : Cl P w K mg base 5 "spreads_by" (spSpreadsBy K)
  least : Cl P w K mg base 6 "least_share" (spLeast K)
  betw : Cl P w K mg base 1 "lines_between" (spBetw K)
  others : Cl P w K mg base 1 "others_than" (spOthers K)
  stay : Cl P w K mg base 2 "staying_walks" (spStay K)
  sets : Cl P w K mg base 1 "sets_of_places" spSets
  isPlace : Cl P w K mg base 1 "is_place" (spIsPlace C)
  arePlaces : Cl P w K mg base 2 "are_places" (spArePlaces C)
  tooMany : Cl P w K mg base 1 "too_many_from_some" (spTooMany K)
  setLines : Cl P w K mg base 1 "set_lines" (spSetLines K)
  shares : Cl P w K mg base 1 "are_shares" spShares
  steps : Cl P w K mg base 1 "are_steps" spSteps
section
variable {P : Program} {w : World} {K : PySem.W.Frag} {mg : Str → Option Value} {base : Heap} {C : Addr}
/-! degree(graph, given) -/
def rdDegree : Hp → List V → Sr60.Call → Prop := fun _ xs c => ∃ u, xs = [.int u] ∧ c = .degree u
theorem sc_degree : FnScope ["graph", "given", "u"] ["graph", "given"] (defScope (top 50)) := ⟨rfl, rfl, rfl, by decide +kernel, rfl, by decide +kernel, by decide +kernel⟩
theorem toNat_cast {g : Sr60.Graph} {u : Int} (h : Sr60.isP g u = true) : ∃ n : Nat, u = (n : Int) ∧ n < g.length ∧ u.toNat = n := by
  unfold Sr60.isP at h
  rw [Bool.and_eq_true, decide_eq_true_eq, decide_eq_true_eq] at h
  exact ⟨u.toNat, by omega, by have : u < (g.length : Int) := h.2; omega, rfl⟩
theorem cl_degree (L : Lib P w K mg base C) (D : Df K mg "degree" 50 ["graph", "given"]) : Cl P w K mg base 10 "degree" (spC C rdDegree) := by
  refine D.cl sc_degree (fun vs H Q E h => ?_) (fun f cdv A0 outer s H vs Q E hr h => ?_)
  · obtain ⟨ga, va, g, xs, c, rfl, _⟩ := h
    rfl
  · obtain ⟨ga, va, g, xs, c, rfl, hS, G, hv, ⟨u, rfl, rfl⟩, k⟩ := h
    refine ⟨_, pss_cons (ps_set (i := 2) sc_degree.nd rfl (Or.inl rfl) (pe_ix ix_list (pv 1) pe_int (fun _ _ => rfl)))
      (pss_cons (ps_if (pt_not (pt_val (pe_cl L.isPlace hr (by decide) rfl (pa_cons (pv 0) (pa_cons (pv 2) pa_nil))))) (pss_one (ps_ret (pe_lst (pa_cons (pe_cst L.t.noPlace rfl) pa_nil)))) pss_nil)
      (pss_one (ps_ret (pe_lst (pa_cons (pe_callB (cr_sum rfl) (by rfl) L.b.sum (by decide +kernel) (pa_cons (pe_ix ix_list (pe_fld (pv 0) rfl) (pv 2) (fun _ _ => rfl)) pa_nil)) pa_nil))))), ?_⟩
    have hS' := hS
    obtain ⟨la, hG⟩ := hS'
    have hG' := hG
    obtain ⟨⟨dx, hg⟩, hm⟩ := hG'
    refine ⟨_, rfl, va, _, 0, _, rfl, rfl, SqL.of hv, at_of (j := 0) rfl rfl, ?_⟩
    refine ⟨_, rfl, _, rfl, ga, la, _, u, rfl, hG, _, rfl, ?_⟩
    rw [show (stM (some g)).length = g.length from ints_len g, isPl_ok]
    refine ite2 (fun c => ?_) (fun c => ?_)
    · have c' : Sr60.isP g u = false := by simpa using c
      refine ⟨(by show 1 ≤ sizeLine; decide), fun p hp => k _ p (Post.ret1 hS (st_ok G) (Same.refl _) hp ?_)⟩
      show (some g, if Sr60.isP g u = false then _ else _) = _
      rw [if_pos c']
    · have c' : Sr60.isP g u = true := by simpa using c
      obtain ⟨n, rfl, hn, e⟩ := toNat_cast c'
      have hm' : MatAt H la (mat (A g) (List.range g.length)) := G.mat ▸ hm
      obtain ⟨as, ha, hR⟩ := hm'
      obtain ⟨r, hr1, hr2⟩ := hR.get (mat_get hn)
      refine ⟨_, rfl, ga, C, dx, _, _, rfl, hg, L.c.cl, L.c.nL, lkL la, _, rfl, la, _, _, _, rfl, rfl, SqL.of ha, ref_at hr1 rfl, r, _, rfl, SqL.of hr2, (by show 1 ≤ sizeLine; decide), fun p hp => k _ p (Post.ret1 hS (st_ok G) (Same.refl _) hp ?_)⟩
      show (some g, if Sr60.isP g (n : Int) = false then _ else _) = _
      rw [if_neg (by rw [c']; exact Bool.noConfusion), e]
      show (some g, Sr60.say ((Sr60.degree g n : Nat) : Int)) = _
      rw [degree_S]
      rfl
/-! row(graph, given) -/
def rdRow : Hp → List V → Sr60.Call → Prop := fun _ xs c => ∃ u, xs = [.int u] ∧ c = .row u
theorem sc_row : FnScope ["graph", "given", "u"] ["graph", "given"] (defScope (top 62)) := ⟨rfl, rfl, rfl, by decide +kernel, rfl, by decide +kernel, by decide +kernel⟩
theorem row_n2i {g : Sr60.Graph} (G : Good g) {n : Nat} (hn : n < g.length) : Sr60.n2i (g.getD n []) = (List.range g.length).map (A g n) := by
  have h := congrArg (fun m : List (List Int) => m[n]?) G.mat
  simp only [mat_get hn] at h
  unfold gints at h
  rw [List.getElem?_map] at h
  unfold Sr60.n2i
  rw [List.getD_eq_getElem?_getD]
  cases z : g[n]? with
  | none => rw [z] at h; cases h
  | some r => rw [z] at h; exact Option.some.inj h
theorem cl_row (L : Lib P w K mg base C) (D : Df K mg "row" 62 ["graph", "given"]) : Cl P w K mg base 10 "row" (spC C rdRow) := by
  refine D.cl sc_row (fun vs H Q E h => ?_) (fun f cdv A0 outer s H vs Q E hr h => ?_)
  · obtain ⟨ga, va, g, xs, c, rfl, _⟩ := h
    rfl
  · obtain ⟨ga, va, g, xs, c, rfl, hS, G, hv, ⟨u, rfl, rfl⟩, k⟩ := h
    refine ⟨_, pss_cons (ps_set (i := 2) sc_row.nd rfl (Or.inl rfl) (pe_ix ix_list (pv 1) pe_int (fun _ _ => rfl)))
      (pss_cons (ps_if (pt_not (pt_val (pe_cl L.isPlace hr (by decide) rfl (pa_cons (pv 0) (pa_cons (pv 2) pa_nil))))) (pss_one (ps_ret (pe_lst (pa_cons (pe_cst L.t.noPlace rfl) pa_nil)))) pss_nil)
      (pss_one (ps_ret (pe_op op_cat (pe_lst (pa_cons (pe_callB (cr_sum rfl) (by rfl) L.b.sum (by decide +kernel) (pa_cons (pe_ix ix_list (pe_fld (pv 0) rfl) (pv 2) (fun _ _ => rfl)) pa_nil)) pa_nil)) (pe_ix ix_list (pe_fld (pv 0) rfl) (pv 2) (fun _ _ => rfl)))))), ?_⟩
    have hS' := hS
    obtain ⟨la, hG⟩ := hS'
    have hG' := hG
    obtain ⟨⟨dx, hg⟩, hm⟩ := hG'
    refine ⟨_, rfl, va, _, 0, _, rfl, rfl, SqL.of hv, at_of (j := 0) rfl rfl, ?_⟩
    refine ⟨_, rfl, _, rfl, ga, la, _, u, rfl, hG, _, rfl, ?_⟩
    rw [show (stM (some g)).length = g.length from ints_len g, isPl_ok]
    refine ite2 (fun c => ?_) (fun c => ?_)
    · have c' : Sr60.isP g u = false := by simpa using c
      refine ⟨(by show 1 ≤ sizeLine; decide), fun p hp => k _ p (Post.ret1 hS (st_ok G) (Same.refl _) hp ?_)⟩
      show (some g, if Sr60.isP g u = false then _ else _) = _
      rw [if_pos c']
    · have c' : Sr60.isP g u = true := by simpa using c
      obtain ⟨n, rfl, hn, e⟩ := toNat_cast c'
      have hm' : MatAt H la (mat (A g) (List.range g.length)) := G.mat ▸ hm
      obtain ⟨as, ha, hR⟩ := hm'
      obtain ⟨r, hr1, hr2⟩ := hR.get (mat_get hn)
      refine ⟨_, rfl, ga, C, dx, _, _, rfl, hg, L.c.cl, L.c.nL, lkL la, _, rfl, la, _, _, _, rfl, rfl, SqL.of ha, ref_at hr1 rfl, r, _, rfl, SqL.of hr2, (by show 1 ≤ sizeLine; decide), fun t ht => ?_⟩
      have st : Same H (upd H t (.lst [.int ((List.range g.length).map (A g n)).sum])) := same_upd (Same.refl _) ht
      refine ⟨_, rfl, ga, C, dx, _, _, rfl, st _ _ hg, L.c.cl, L.c.nL, lkL la, _, rfl, la, _, _, _, rfl, rfl, SqL.of (st _ _ ha), ref_at hr1 rfl, t, r, _, _, rfl, rfl, upd_same, st _ _ hr2, ?_, fun p hp => k _ p (Post.ret (x := ((List.range g.length).map (A g n)).sum) (xs := (List.range g.length).map (A g n)) hS (st_ok G) st hp ?_)⟩
      · have := G.n2
        have sl : 1000 ≤ sizeLine := by decide
        simp
        omega
      · show (some g, if Sr60.isP g (n : Int) = false then _ else _) = _
        rw [if_neg (by rw [c']; exact Bool.noConfusion), e, row_n2i G hn, degree_S]
        rfl
/-! even(graph, given) -/
def rdEven : Hp → List V → Sr60.Call → Prop := fun _ xs c => xs = [] ∧ c = .even
theorem sc_even : FnScope ["graph", "given", "d"] ["graph", "given"] (defScope (top 51)) := ⟨rfl, rfl, rfl, by decide +kernel, rfl, by decide +kernel, by decide +kernel⟩
theorem cl_even (L : Lib P w K mg base C) (D : Df K mg "even" 51 ["graph", "given"]) : Cl P w K mg base 10 "even" (spC C rdEven) := by
  refine D.cl sc_even (fun vs H Q E h => ?_) (fun f cdv A0 outer s H vs Q E hr h => ?_)
  · obtain ⟨ga, va, g, xs, c, rfl, _⟩ := h
    rfl
  · obtain ⟨ga, va, g, xs, c, rfl, hS, G, hv, ⟨rfl, rfl⟩, k⟩ := h
    refine ⟨_, pss_cons (ps_set (i := 2) sc_even.nd rfl (Or.inl rfl) (pe_cl L.common hr (by decide) rfl (pa_cons (pe_fld (pv 0) rfl) pa_nil)))
      (pss_cons (ps_if (pt_cmpR op_eq (pv 2) pe_int (nomark _)) (pss_one (ps_ret (pe_lst (pa_cons (pe_cst L.t.notEven rfl) pa_nil)))) pss_nil)
      (pss_one (ps_ret (pe_lst (pa_cons (pv 2) pa_nil))))), ?_⟩
    have hS' := hS
    obtain ⟨la, hG⟩ := hS'
    have hG' := hG
    obtain ⟨⟨dx, hg⟩, hm⟩ := hG'
    have hm' : MatAt H la (mat (A g) (List.range g.length)) := G.mat ▸ hm
    have n2 := G.n2
    refine ⟨_, rfl, ga, C, dx, _, _, rfl, hg, L.c.cl, L.c.nL, lkL la, la, g.length, A g, rfl, hm', G.n1, by omega, fun H1 s1 => ?_⟩
    rw [even_cd]
    refine ⟨_, rfl, rfl, _, rfl, ite2 (fun c => ?_) (fun c => ?_)⟩
    · have c' := evI_none.mp (V.int.inj (of_decide_eq_true c))
      refine ⟨(by show 1 ≤ sizeLine; decide), fun p hp => k _ p (Post.ret1 hS (st_ok G) s1 hp ?_)⟩
      show (some g, match Sr60.even g with | none => Sr60.say (-33) | some d => Sr60.say ((d : Nat) : Int)) = _
      rw [c']
    · have c' : ¬ evI g = 0 := fun z => c (decide_eq_true (congrArg V.int z))
      refine ⟨_, rfl, (by show 1 ≤ sizeLine; decide), fun p hp => k _ p (Post.ret1 hS (st_ok G) s1 hp ?_)⟩
      show (some g, match Sr60.even g with | none => Sr60.say (-33) | some d => Sr60.say ((d : Nat) : Int)) = _
      cases e : Sr60.even g with
      | none => exact absurd (evI_none.mpr e) c'
      | some d => rw [evI_some e]
end
end Sw
namespace Sw
open PySem PySem.Spec PyProof.Rows L2
/-! ### Graphs that are laid anew -/
def chk (h : Sr60.Graph) (n : Nat) : Bool := decide (h.length = n) && (h.all (fun r => r.length == n) && ((List.range n).all (fun u => (List.range n).all fun v => Sr60.lines h u v == Sr60.lines h v u) && Sr60.small h))
theorem chk_good {h : Sr60.Graph} {n : Nat} (c : chk h n = true) (n1 : 1 ≤ n) (n2 : n ≤ 10) : Good h := by
  unfold chk at c
  rw [Bool.and_eq_true, Bool.and_eq_true, Bool.and_eq_true, decide_eq_true_eq, List.all_eq_true, List.all_eq_true] at c
  obtain ⟨c1, c2, c3, c4⟩ := c
  refine good_of (by omega) (by omega) (fun r hr => ?_) (fun u v hu hv => ?_) c4
  · have := c2 r hr
    rw [beq_iff_eq] at this
    omega
  · have := List.all_eq_true.mp (c3 u (List.mem_range.mpr (by omega))) v (List.mem_range.mpr (by omega))
    exact beq_iff_eq.mp this
def z0 : Nat → Nat → Int := fun _ _ => 0
def ringF (n : Nat) (c : Int) : Nat → Nat → Nat → Int
  | 0 => z0
  | i + 1 => setF (ringF n c i) i ((i + 1) % n) c
def inF1 (p : Nat → Nat → Bool) (c : Int) (F : Nat → Nat → Int) (u : Nat) : Nat → Nat → Nat → Int
  | 0 => F
  | v + 1 => if p u v = true then setF (inF1 p c F u v) u v c else inF1 p c F u v
def pairF (p : Nat → Nat → Bool) (c : Int) : Nat → Nat → Nat → Int
  | 0 => z0
  | u + 1 => inF1 p c (pairF p c u) u u
def xorIn (u v : Nat) : Bool := [1, 2, 4].contains (u ^^^ v)
theorem none_chk : ((List.range 11).all fun n => n == 0 || (chk (Sr60.noLines n) n && decide (gints (Sr60.noLines n) = mat z0 (List.range n)))) = true := by decide +kernel
theorem ring_chk : ((List.range 11).all fun n => decide (n < 3) || [1, 2, 3].all fun c => chk (Sr60.ringOf n c) n && decide (gints (Sr60.ringOf n c) = mat (ringF n (c : Nat) n) (List.range n))) = true := by decide +kernel
theorem whole_chk : ((List.range 11).all fun n => decide (n < 2) || [1, 2, 3].all fun c => decide (12 < c * (n - 1)) || (chk (Sr60.wholeOf n c) n && decide (gints (Sr60.wholeOf n c) = mat (pairF (fun _ _ => true) (c : Nat) n) (List.range n)))) = true := by decide +kernel
theorem cube_chk : ([2, 4, 8].all fun n => chk (Sr60.cubeOf n) n && decide (gints (Sr60.cubeOf n) = mat (pairF xorIn 1 n) (List.range n))) = true := by decide +kernel
theorem none_ok {n : Nat} (n1 : 1 ≤ n) (n2 : n ≤ 10) : Good (Sr60.noLines n) ∧ gints (Sr60.noLines n) = mat z0 (List.range n) := by
  have h := List.all_eq_true.mp none_chk n (List.mem_range.mpr (by omega))
  rw [Bool.or_eq_true, beq_iff_eq, Bool.and_eq_true, decide_eq_true_eq] at h
  rcases h with h | h
  · omega
  · exact ⟨chk_good h.1 n1 n2, h.2⟩
theorem in3 {c : Nat} (h1 : 1 ≤ c) (h3 : c ≤ 3) : c ∈ [1, 2, 3] := by
  have : c = 1 ∨ c = 2 ∨ c = 3 := by omega
  rcases this with e | e | e <;> simp [e]
theorem ring_ok {n c : Nat} (n1 : 3 ≤ n) (n2 : n ≤ 10) (c1 : 1 ≤ c) (c3 : c ≤ 3) : Good (Sr60.ringOf n c) ∧ gints (Sr60.ringOf n c) = mat (ringF n (c : Int) n) (List.range n) := by
  have h := List.all_eq_true.mp ring_chk n (List.mem_range.mpr (by omega))
  rw [Bool.or_eq_true, decide_eq_true_eq] at h
  rcases h with h | h
  · omega
  · have q := List.all_eq_true.mp h c (in3 c1 c3)
    rw [Bool.and_eq_true, decide_eq_true_eq] at q
    exact ⟨chk_good q.1 (by omega) n2, q.2⟩
theorem whole_ok {n c : Nat} (n1 : 2 ≤ n) (n2 : n ≤ 10) (c1 : 1 ≤ c) (c3 : c ≤ 3) (m : c * (n - 1) ≤ 12) : Good (Sr60.wholeOf n c) ∧ gints (Sr60.wholeOf n c) = mat (pairF (fun _ _ => true) (c : Int) n) (List.range n) := by
  have h := List.all_eq_true.mp whole_chk n (List.mem_range.mpr (by omega))
  rw [Bool.or_eq_true, decide_eq_true_eq] at h
  rcases h with h | h
  · omega
  · have q := List.all_eq_true.mp h c (in3 c1 c3)
    rw [Bool.or_eq_true, decide_eq_true_eq] at q
    rcases q with q | q
    · omega
    · rw [Bool.and_eq_true, decide_eq_true_eq] at q
      exact ⟨chk_good q.1 (by omega) n2, q.2⟩
theorem cube_ok {n : Nat} (h : n ∈ [2, 4, 8]) : Good (Sr60.cubeOf n) ∧ gints (Sr60.cubeOf n) = mat (pairF xorIn 1 n) (List.range n) := by
  have q := List.all_eq_true.mp cube_chk n h
  rw [Bool.and_eq_true, decide_eq_true_eq] at q
  refine ⟨chk_good q.1 ?_ ?_, q.2⟩ <;> simp at h <;> omega
section
variable {P : Program} {w : World} {K : PySem.W.Frag} {mg : Str → Option Value} {base : Heap} {C : Addr}
/-! begin(graph, given) -/
def spBegin (C : Addr) : Sp := fun vs H Q _ => ∃ (ga va : Addr) (st : Sr60.State) (n : Int), vs = [.ref ga, .ref va] ∧ StAt C H ga st ∧ StOk st ∧ H va = some (.lst [.int n]) ∧
  ∀ H' p, Post C H H' ga p (Sr60.step st (.begin_ n)) → Q (.ref p) H'
theorem sc_begin : FnScope ["graph", "given", "n"] ["graph", "given"] (defScope (top 44)) := ⟨rfl, rfl, rfl, by decide +kernel, rfl, by decide +kernel, by decide +kernel⟩
theorem cl_begin (L : Lib P w K mg base C) (D : Df K mg "begin" 44 ["graph", "given"]) : Cl P w K mg base 10 "begin" (spBegin C) := by
  refine D.cl sc_begin (fun vs H Q E h => ?_) (fun f cdv A0 outer s H vs Q E hr h => ?_)
  · obtain ⟨ga, va, st, n, rfl, _⟩ := h
    rfl
  · obtain ⟨ga, va, st, n, rfl, hS, ok, hv, k⟩ := h
    refine ⟨_, pss_cons (ps_set (i := 2) sc_begin.nd rfl (Or.inl rfl) (pe_ix ix_list (pv 1) pe_int (fun _ _ => rfl)))
      (pss_cons (ps_if (pt_not (pt_chain op_le op_le pe_int (pv 2) (pe_cst L.t.mPlaces rfl))) (pss_one (ps_ret (pe_lst (pa_cons (pe_cst L.t.wrong rfl) pa_nil)))) pss_nil)
      (pss_cons (ps_fld (pv 0) (pe_cl L.zeros hr (by decide) rfl (pa_cons (pv 2) pa_nil)) rfl)
      (pss_one (ps_ret (pe_lst (pa_cons pe_int pa_nil)))))), ?_⟩
    have hS' := hS
    obtain ⟨la, hG⟩ := hS'
    have hG' := hG
    obtain ⟨⟨dx, hg⟩, hm⟩ := hG'
    refine ⟨_, rfl, va, _, 0, _, rfl, rfl, SqL.of hv, at_of (j := 0) rfl rfl, ?_⟩
    refine chain_C rfl ⟨_, rfl, ite2 (fun c => ?_) (fun c => ?_)⟩
    · have c' : n < 1 ∨ (Sr60.PLACES : Int) < n := by
        show n < 1 ∨ (10 : Int) < n
        simp at c
        omega
      refine ⟨(by show 1 ≤ sizeLine; decide), fun p hp => k _ p (Post.ret1 hS ok (Same.refl _) hp ?_)⟩
      show (if n < 1 ∨ (Sr60.PLACES : Int) < n then _ else _) = _
      rw [if_pos c']
    · have c2 : 1 ≤ n ∧ n ≤ 10 := by
        simp at c
        omega
      have c' : ¬ (n < 1 ∨ (Sr60.PLACES : Int) < n) := by
        show ¬ (n < 1 ∨ (10 : Int) < n)
        omega
      obtain ⟨m, rfl⟩ : ∃ m : Nat, n = (m : Int) := ⟨n.toNat, by omega⟩
      obtain ⟨g1, g2⟩ := none_ok (n := m) (by omega) (by omega)
      refine ⟨_, rfl, m, rfl, by omega, fun H1 lb s1 N1 => ?_⟩
      have M1 := N1.mat
      refine ⟨_, rfl, ga, C, dx, _, rfl, s1 _ _ hg, L.c.cl, L.c.nL, (by show 1 < 1000; decide), ?_⟩
      rw [ptL]
      refine ⟨(by show 1 ≤ sizeLine; decide), fun p hp => k _ p (Post.put (g' := Sr60.noLines m) (s1 _ _ hg) s1 (by rw [g2]; exact N1) g1 hp ?_)⟩
      show (if (m : Int) < 1 ∨ (Sr60.PLACES : Int) < (m : Int) then _ else _) = _
      rw [if_neg c']
      rfl
def fin (g : Sr60.Graph) (x : Option Sr60.Graph × Sr60.Ans) : Sr60.State × Sr60.Ans := match x with
  | (some r, a) => (some r, a)
  | (none, a) => (some g, a)
/-! line(graph, given) -/
def rdLine : Hp → List V → Sr60.Call → Prop := fun _ xs c => ∃ u v k, xs = [.int u, .int v, .int k] ∧ c = .line u v k
theorem sc_line : FnScope ["graph", "given", "u", "v", "c", "changed", "before"] ["graph", "given"] (defScope (top 45)) := ⟨rfl, rfl, rfl, by decide +kernel, rfl, by decide +kernel, by decide +kernel⟩
theorem step_line (g : Sr60.Graph) (u v k : Int) : Sr60.step (some g) (.line u v k) = if Sr60.isP g u = false ∨ Sr60.isP g v = false then (some g, Sr60.say (-2)) else if k < 0 ∨ 9 < k then (some g, Sr60.say (-22)) else if Sr60.small (Sr60.setLine g u.toNat v.toNat k.toNat) = false then (some g, Sr60.say (-28)) else (some (Sr60.setLine g u.toNat v.toNat k.toNat), Sr60.say (Sr60.lines g u.toNat v.toNat : Nat)) := by
  show fin g (if Sr60.isP g u = false ∨ Sr60.isP g v = false then _ else if k < 0 ∨ 9 < k then _ else if Sr60.small (Sr60.setLine g u.toNat v.toNat k.toNat) = false then _ else _) = _
  by_cases h1 : Sr60.isP g u = false ∨ Sr60.isP g v = false
  · rw [if_pos h1, if_pos h1]
    rfl
  · rw [if_neg h1, if_neg h1]
    by_cases h2 : k < 0 ∨ 9 < k
    · rw [if_pos h2, if_pos h2]
      rfl
    · rw [if_neg h2, if_neg h2]
      by_cases h3 : Sr60.small (Sr60.setLine g u.toNat v.toNat k.toNat) = false
      · rw [if_pos h3, if_pos h3]
        rfl
      · rw [if_neg h3, if_neg h3]
        rfl
theorem cl_line (L : Lib P w K mg base C) (D : Df K mg "line" 45 ["graph", "given"]) : Cl P w K mg base 10 "line" (spC C rdLine) := by
  refine D.cl sc_line (fun vs H Q E h => ?_) (fun f cdv A0 outer s H vs Q E hr h => ?_)
  · obtain ⟨ga, va, g, xs, c, rfl, _⟩ := h
    rfl
  · obtain ⟨ga, va, g, xs, c, rfl, hS, G, hv, ⟨u, v, e, rfl, rfl⟩, k⟩ := h
    refine ⟨_, pss_cons (ps_set (i := 2) sc_line.nd rfl (Or.inl rfl) (pe_ix ix_list (pv 1) pe_int (fun _ _ => rfl)))
      (pss_cons (ps_set (i := 3) sc_line.nd rfl (Or.inl rfl) (pe_ix ix_list (pv 1) pe_int (fun _ _ => rfl)))
      (pss_cons (ps_set (i := 4) sc_line.nd rfl (Or.inl rfl) (pe_ix ix_list (pv 1) pe_int (fun _ _ => rfl)))
      (pss_cons (ps_if (PW.pt (pw_or (pt_not (pt_val (pe_cl L.isPlace hr (by decide) rfl (pa_cons (pv 0) (pa_cons (pv 2) pa_nil))))) (pw_or1 (pt_not (pt_val (pe_cl L.isPlace hr (by decide) rfl (pa_cons (pv 0) (pa_cons (pv 3) pa_nil)))))))) (pss_one (ps_ret (pe_lst (pa_cons (pe_cst L.t.noPlace rfl) pa_nil)))) pss_nil)
      (pss_cons (ps_if (pt_not (pt_chain op_le op_le pe_int (pv 4) (pe_cst L.t.mBetween rfl))) (pss_one (ps_ret (pe_lst (pa_cons (pe_cst L.t.wrong rfl) pa_nil)))) pss_nil)
      (pss_cons (ps_set (i := 5) sc_line.nd rfl (Or.inl rfl) (pe_cl L.copied hr (by decide) rfl (pa_cons (pe_fld (pv 0) rfl) pa_nil)))
      (pss_cons (ps_expr (pe_cl L.setLines hr (by decide) rfl (pa_cons (pv 5) (pa_cons (pv 2) (pa_cons (pv 3) (pa_cons (pv 4) pa_nil))))))
      (pss_cons (ps_if (pt_val (pe_cl L.tooMany hr (by decide) rfl (pa_cons (pv 5) pa_nil))) (pss_one (ps_ret (pe_lst (pa_cons (pe_cst L.t.tooMany rfl) pa_nil)))) pss_nil)
      (pss_cons (ps_set (i := 6) sc_line.nd rfl (Or.inl rfl) (pe_ix ix_list (pe_ix ix_list (pe_fld (pv 0) rfl) (pv 2) (fun _ _ => rfl)) (pv 3) (fun _ _ => rfl)))
      (pss_cons (ps_fld (pv 0) (pv 5) rfl)
      (pss_one (ps_ret (pe_lst (pa_cons (pv 6) pa_nil))))))))))))), ?_⟩
    have hS' := hS
    obtain ⟨la, hG⟩ := hS'
    have hG' := hG
    obtain ⟨⟨dx, hg⟩, hm⟩ := hG'
    have n2 := G.n2
    refine ⟨_, rfl, va, _, 0, _, rfl, rfl, SqL.of hv, at_of (j := 0) rfl rfl, ?_⟩
    refine ⟨_, rfl, va, _, 1, _, rfl, rfl, SqL.of hv, at_of (j := 1) rfl rfl, ?_⟩
    refine ⟨_, rfl, va, _, 2, _, rfl, rfl, SqL.of hv, at_of (j := 2) rfl rfl, ?_⟩
    have len : (stM (some g)).length = g.length := ints_len g
    refine ⟨_, rfl, _, rfl, ga, la, _, u, rfl, hG, _, rfl, ?_⟩
    rw [len, isPl_ok]
    have bad : (Sr60.isP g u = false ∨ Sr60.isP g v = false) → ∀ p, H p = none → Q (.ref p) (upd H p (.lst [.int (-2)])) := fun c p hp => k _ p (Post.ret1 hS (st_ok G) (Same.refl _) hp (by rw [step_line, if_pos c]))
    refine ite2 (fun c => iteT ⟨(by show 1 ≤ sizeLine; decide), bad (.inl (by simpa using c))⟩) (fun c => ?_)
    refine ⟨_, rfl, _, rfl, ga, la, _, v, rfl, hG, _, rfl, ?_⟩
    rw [len, isPl_ok]
    refine ite2 (fun d => ⟨(by show 1 ≤ sizeLine; decide), bad (.inr (by simpa using d))⟩) (fun d => ?_)
    have c' : Sr60.isP g u = true := by simpa using c
    have d' : Sr60.isP g v = true := by simpa using d
    have ncd : ¬ (Sr60.isP g u = false ∨ Sr60.isP g v = false) := by
      rw [c', d']
      rintro (h | h) <;> cases h
    refine chain_C rfl ⟨_, rfl, ite2 (fun e1 => ?_) (fun e1 => ?_)⟩
    · have e' : e < 0 ∨ 9 < e := by
        simp at e1
        omega
      exact ⟨(by show 1 ≤ sizeLine; decide), fun p hp => k _ p (Post.ret1 hS (st_ok G) (Same.refl _) hp (by rw [step_line, if_neg ncd, if_pos e']))⟩
    · have e' : 0 ≤ e ∧ e ≤ 9 := by
        simp at e1
        omega
      have ne : ¬ (e < 0 ∨ 9 < e) := by omega
      obtain ⟨a, rfl, ha, ea⟩ := toNat_cast c'
      obtain ⟨b, rfl, hb, eb⟩ := toNat_cast d'
      obtain ⟨m, rfl⟩ : ∃ m : Nat, e = (m : Int) := ⟨e.toNat, by omega⟩
      have em : ((m : Int)).toNat = m := Int.toNat_natCast m
      have st0 := step_line g (a : Int) (b : Int) (m : Int)
      rw [if_neg ncd, if_neg ne, ea, eb, em] at st0
      have hmA : MatAt H la (mat (A g) (List.range g.length)) := G.mat ▸ hm
      refine ⟨_, rfl, ga, C, dx, _, _, rfl, hg, L.c.cl, L.c.nL, lkL la, la, _, rfl, hmA, by rw [mat_len, List.length_range]; omega, fun H1 lb s1 N1 => ?_⟩
      refine ⟨_, rfl, _, rfl, _, rfl, _, rfl, H, lb, g.length, A g, a, b, (m : Int), rfl, s1, N1, ha, hb, fun H2 s2 N2 => ?_⟩
      have M2 := N2.mat
      refine ⟨_, rfl, lb, g.length, _, rfl, M2, by omega, fun H3 s3 => ⟨_, rfl, ?_⟩⟩
      have e2 := setLine_mat (c := m) G ha hb
      obtain ⟨r, l⟩ := lines_setLine (c := m) G.rows ha hb
      have e3 : tooF g.length (setF (A g) a b (m : Int)) = !Sr60.small (Sr60.setLine g a b m) := by
        rw [small_too, Bool.not_not, setLine_len]
        have e4 : ∀ u ∈ List.range g.length, dgF g.length (setF (A g) a b (m : Int)) u = dgF g.length (A (Sr60.setLine g a b m)) u := fun u hu => by
          unfold dgF
          refine S_congr fun w hw => ?_
          rw [square_mat r, setLine_len] at e2
          exact (mat_inj e2 u hu w hw).symm
        unfold tooF
        refine Bool.eq_iff_iff.mpr ?_
        rw [List.any_eq_true, List.any_eq_true]
        constructor
        · rintro ⟨u, hu, z⟩
          exact ⟨u, hu, by rw [← e4 u hu]; exact z⟩
        · rintro ⟨u, hu, z⟩
          exact ⟨u, hu, by rw [e4 u hu]; exact z⟩
      rw [e3]
      have s13 := s2.trans s3
      refine ite2 (fun z => ?_) (fun z => ?_)
      · have z' : Sr60.small (Sr60.setLine g a b m) = false := by simpa using z
        exact ⟨(by show 1 ≤ sizeLine; decide), fun p hp => k _ p (Post.ret1 hS (st_ok G) s13 hp (by rw [st0, if_pos z']))⟩
      · have z' : Sr60.small (Sr60.setLine g a b m) = true := by simpa using z
        obtain ⟨as, has, hR⟩ := hmA
        obtain ⟨q, hq1, hq2⟩ := hR.get (mat_get ha)
        refine ⟨_, rfl, ga, C, dx, _, _, rfl, s13 _ _ hg, L.c.cl, L.c.nL, lkL la, _, rfl, la, _, (a : Int), _, rfl, rfl, SqL.of (s13 _ _ has), ref_at hq1 rfl, _, rfl, q, _, (b : Int), _, rfl, rfl, SqL.of (s13 _ _ hq2), int_at (i := b) (by rw [List.getElem?_map, List.getElem?_range hb]; rfl) rfl, ?_⟩
        refine ⟨_, rfl, _, rfl, ga, C, dx, _, rfl, s13 _ _ hg, L.c.cl, L.c.nL, (by show 1 < 1000; decide), ?_⟩
        rw [ptL]
        refine ⟨_, rfl, (by show 1 ≤ sizeLine; decide), fun p hp => k _ p (Post.put (g' := Sr60.setLine g a b m) (s13 _ _ hg) s13 (by rw [e2]; exact N2.same s3) (setLine_good G ha hb z') hp ?_)⟩
        rw [st0, if_neg (by rw [z']; exact Bool.noConfusion)]
        rfl
end
end Sw
namespace Sw
open PySem PySem.Spec PyProof.Rows L2
section
variable {P : Program} {w : World} {K : PySem.W.Frag} {mg : Str → Option Value} {base : Heap} {C : Addr}
/-! ring(graph, given) -/
def rdRing : Hp → List V → Sr60.Call → Prop := fun _ xs c => ∃ k, xs = [.int k] ∧ c = .ring k
theorem sc_ring : FnScope ["graph", "given", "c", "n", "laid", "u"] ["graph", "given"] (defScope (top 46)) := ⟨rfl, rfl, rfl, by decide +kernel, rfl, by decide +kernel, by decide +kernel⟩
theorem step_ring (g : Sr60.Graph) (k : Int) : Sr60.step (some g) (.ring k) = if k < 1 ∨ 3 < k ∨ Sr60.size g < 3 then (some g, Sr60.say (-22)) else (some (Sr60.ringOf (Sr60.size g) k.toNat), Sr60.say 0) := by
  show fin g (if k < 1 ∨ 3 < k ∨ Sr60.size g < 3 then _ else _) = _
  by_cases h1 : k < 1 ∨ 3 < k ∨ Sr60.size g < 3
  · rw [if_pos h1, if_pos h1]
    rfl
  · rw [if_neg h1, if_neg h1]
    rfl
theorem cl_ring (L : Lib P w K mg base C) (D : Df K mg "ring" 46 ["graph", "given"]) : Cl P w K mg base 10 "ring" (spC C rdRing) := by
  refine D.cl sc_ring (fun vs H Q E h => ?_) (fun f cdv A0 outer s H vs Q E hr h => ?_)
  · obtain ⟨ga, va, g, xs, c, rfl, _⟩ := h
    rfl
  · obtain ⟨ga, va, g, xs, c, rfl, hS, G, hv, ⟨e, rfl, rfl⟩, k⟩ := h
    refine ⟨_, pss_cons (ps_set (i := 2) sc_ring.nd rfl (Or.inl rfl) (pe_ix ix_list (pv 1) pe_int (fun _ _ => rfl)))
      (pss_cons (ps_set (i := 3) sc_ring.nd rfl (Or.inl rfl) (pe_callB call_len_seq (by rfl) L.b.len boot_len (pa_cons (pe_fld (pv 0) rfl) pa_nil)))
      (pss_cons (ps_if (PW.pt (pw_or (pt_not (pt_chain op_le op_le pe_int (pv 2) (pe_cst L.t.mLaid rfl))) (pw_or1 (pt_cmpR op_lt (pv 3) pe_int (nomark _))))) (pss_one (ps_ret (pe_lst (pa_cons (pe_cst L.t.wrong rfl) pa_nil)))) pss_nil)
      (pss_cons (ps_set (i := 4) sc_ring.nd rfl (Or.inl rfl) (pe_cl L.zeros hr (by decide) rfl (pa_cons (pv 3) pa_nil)))
      (pss_cons (ps_for PassesOwn.never rfl (pi_range1 rfl L.b.range (pa_cons (pv 3) pa_nil)) (pg_name (i := 5) sc_ring.nd rfl (Or.inl rfl))
        (pss_one (ps_expr (pe_cl L.setLines hr (by decide) rfl (pa_cons (pv 4) (pa_cons (pv 5) (pa_cons (pe_op op_mod (pe_op op_add (pv 5) pe_int) (pv 3)) (pa_cons (pv 2) pa_nil))))))))
      (pss_cons (ps_fld (pv 0) (pv 4) rfl)
      (pss_one (ps_ret (pe_lst (pa_cons pe_int pa_nil))))))))), ?_⟩
    have hS' := hS
    obtain ⟨la, hG⟩ := hS'
    have hG' := hG
    obtain ⟨⟨dx, hg⟩, hm⟩ := hG'
    have n2 := G.n2
    obtain ⟨as, ha, ln⟩ := hm.len
    rw [show (stM (some g)).length = g.length from ints_len g] at ln
    refine ⟨_, rfl, va, _, 0, _, rfl, rfl, SqL.of hv, at_of (j := 0) rfl rfl, ?_⟩
    refine ⟨_, rfl, ga, C, dx, _, _, rfl, hg, L.c.cl, L.c.nL, lkL la, la, _, rfl, .inl (SqL.of ha), ?_⟩
    rw [List.length_map, ln]
    have bad : (e < 1 ∨ 3 < e ∨ Sr60.size g < 3) → ∀ p, H p = none → Q (.ref p) (upd H p (.lst [.int (-22)])) := fun c p hp => k _ p (Post.ret1 hS (st_ok G) (Same.refl _) hp (by rw [step_ring, if_pos c]))
    refine chain_C rfl ⟨_, rfl, ite2 (fun c => iteT ⟨(by show 1 ≤ sizeLine; decide), bad ?_⟩) (fun c => ⟨_, rfl, _, 3, rfl, rfl, _, rfl, ite2 (fun d => ⟨(by show 1 ≤ sizeLine; decide), bad ?_⟩) (fun d => ?_)⟩)⟩
    · simp at c
      omega
    · have d' : (g.length : Int) < 3 := of_decide_eq_true d
      right; right
      show g.length < 3
      omega
    · have d' : ¬ (g.length : Int) < 3 := fun z => d (decide_eq_true z)
      have c' : 1 ≤ e ∧ e ≤ 3 := by
        simp at c
        omega
      obtain ⟨m, rfl⟩ : ∃ m : Nat, e = (m : Int) := ⟨e.toNat, by omega⟩
      obtain ⟨r1, r2⟩ := ring_ok (n := g.length) (c := m) (by omega) n2 (by omega) (by omega)
      refine ⟨_, rfl, g.length, rfl, by omega, fun H1 lb s1 N1 => ?_⟩
      refine ⟨_, rfl, (g.length : Int), rfl, by omega, by omega, for_range (lo := 0) (n := g.length) (fun i σ H' => ∃ v : Option V, σ = [some (.ref ga), some (.ref va), some (.int (m : Int)), some (.int (g.length : Int)), some (.ref lb), v] ∧ Same H H' ∧ NewAt H H' lb (mat (ringF g.length (m : Int) i) (List.range g.length)))
        ⟨none, rfl, s1, N1⟩ (fun i σ H2 hi ⟨v, e, s2, N2⟩ => ?_) (fun σ H2 ⟨v, e, s2, N2⟩ => ?_)⟩
      · subst e
        have zi : (0 : Int) + (i : Int) = ((i : Nat) : Int) := Int.zero_add _
        have zm : ((0 : Int) + (i : Int) + 1) % (g.length : Int) = (((i + 1) % g.length : Nat) : Int) := by
          rw [zi, Int.natCast_emod, Int.natCast_add]
          rfl
        refine ⟨_, rfl, _, rfl, _, rfl, _, _, rfl, rfl, _, rfl, _, _, rfl, rfl, by omega, _, rfl, H, lb, g.length, _, i, (i + 1) % g.length, (m : Int), ?_, s2, N2, hi, Nat.mod_lt _ (by omega), fun H3 s3 N3 => ⟨_, rfl, s3, N3⟩⟩
        show [V.ref lb, V.int ((0 : Int) + i), V.int (((0 : Int) + i + 1) % (g.length : Int)), V.int (m : Int)] = _
        rw [zm, zi]
      · subst e
        have M2 := N2.mat
        refine ⟨_, rfl, _, rfl, ga, C, dx, _, rfl, s2 _ _ hg, L.c.cl, L.c.nL, (by show 1 < 1000; decide), ?_⟩
        rw [ptL]
        refine ⟨(by show 1 ≤ sizeLine; decide), fun p hp => k _ p (Post.put (g' := Sr60.ringOf g.length m) (s2 _ _ hg) s2 (by rw [r2]; exact N2) r1 hp ?_)⟩
        rw [step_ring, if_neg (by show ¬ ((m : Int) < 1 ∨ 3 < (m : Int) ∨ g.length < 3); omega)]
        rfl
/-! whole(graph, given) -/
def rdWhole : Hp → List V → Sr60.Call → Prop := fun _ xs c => ∃ k, xs = [.int k] ∧ c = .whole k
theorem sc_whole : FnScope ["graph", "given", "c", "n", "laid", "u", "v"] ["graph", "given"] (defScope (top 47)) := ⟨rfl, rfl, rfl, by decide +kernel, rfl, by decide +kernel, by decide +kernel⟩
theorem step_whole (g : Sr60.Graph) (k : Int) : Sr60.step (some g) (.whole k) = if k < 1 ∨ 3 < k ∨ (Sr60.DEGREE : Int) < k * ((Sr60.size g : Int) - 1) ∨ Sr60.size g < 2 then (some g, Sr60.say (-22)) else (some (Sr60.wholeOf (Sr60.size g) k.toNat), Sr60.say 0) := by
  show fin g (if k < 1 ∨ 3 < k ∨ (Sr60.DEGREE : Int) < k * ((Sr60.size g : Int) - 1) ∨ Sr60.size g < 2 then _ else _) = _
  by_cases h1 : k < 1 ∨ 3 < k ∨ (Sr60.DEGREE : Int) < k * ((Sr60.size g : Int) - 1) ∨ Sr60.size g < 2
  · rw [if_pos h1, if_pos h1]
    rfl
  · rw [if_neg h1, if_neg h1]
    rfl
theorem cl_whole (L : Lib P w K mg base C) (D : Df K mg "whole" 47 ["graph", "given"]) : Cl P w K mg base 10 "whole" (spC C rdWhole) := by
  refine D.cl sc_whole (fun vs H Q E h => ?_) (fun f cdv A0 outer s H vs Q E hr h => ?_)
  · obtain ⟨ga, va, g, xs, c, rfl, _⟩ := h
    rfl
  · obtain ⟨ga, va, g, xs, c, rfl, hS, G, hv, ⟨e, rfl, rfl⟩, k⟩ := h
    refine ⟨_, pss_cons (ps_set (i := 2) sc_whole.nd rfl (Or.inl rfl) (pe_ix ix_list (pv 1) pe_int (fun _ _ => rfl)))
      (pss_cons (ps_set (i := 3) sc_whole.nd rfl (Or.inl rfl) (pe_callB call_len_seq (by rfl) L.b.len boot_len (pa_cons (pe_fld (pv 0) rfl) pa_nil)))
      (pss_cons (ps_if (PW.pt (pw_or (pt_not (pt_chain op_le op_le pe_int (pv 2) (pe_cst L.t.mLaid rfl))) (pw_or (pt_cmpR op_gt (pe_op op_mul (pv 2) (pe_op op_sub (pv 3) pe_int)) (pe_cst L.t.mFrom rfl) (nomark _)) (pw_or1 (pt_cmpR op_eq (pv 3) pe_int (nomark _)))))) (pss_one (ps_ret (pe_lst (pa_cons (pe_cst L.t.wrong rfl) pa_nil)))) pss_nil)
      (pss_cons (ps_set (i := 4) sc_whole.nd rfl (Or.inl rfl) (pe_cl L.zeros hr (by decide) rfl (pa_cons (pv 3) pa_nil)))
      (pss_cons (ps_for PassesOwn.never rfl (pi_range1 rfl L.b.range (pa_cons (pv 3) pa_nil)) (pg_name (i := 5) sc_whole.nd rfl (Or.inl rfl))
        (pss_one (ps_for PassesOwn.never rfl (pi_range1 rfl L.b.range (pa_cons (pv 5) pa_nil)) (pg_name (i := 6) sc_whole.nd rfl (Or.inl rfl))
          (pss_one (ps_expr (pe_cl L.setLines hr (by decide) rfl (pa_cons (pv 4) (pa_cons (pv 5) (pa_cons (pv 6) (pa_cons (pv 2) pa_nil))))))))))
      (pss_cons (ps_fld (pv 0) (pv 4) rfl)
      (pss_one (ps_ret (pe_lst (pa_cons pe_int pa_nil))))))))), ?_⟩
    have hS' := hS
    obtain ⟨la, hG⟩ := hS'
    have hG' := hG
    obtain ⟨⟨dx, hg⟩, hm⟩ := hG'
    have n2 := G.n2
    have n1 := G.n1
    obtain ⟨as, ha, ln⟩ := hm.len
    rw [show (stM (some g)).length = g.length from ints_len g] at ln
    refine ⟨_, rfl, va, _, 0, _, rfl, rfl, SqL.of hv, at_of (j := 0) rfl rfl, ?_⟩
    refine ⟨_, rfl, ga, C, dx, _, _, rfl, hg, L.c.cl, L.c.nL, lkL la, la, _, rfl, .inl (SqL.of ha), ?_⟩
    rw [List.length_map, ln]
    have bad : (e < 1 ∨ 3 < e ∨ (Sr60.DEGREE : Int) < e * ((Sr60.size g : Int) - 1) ∨ Sr60.size g < 2) → ∀ p, H p = none → Q (.ref p) (upd H p (.lst [.int (-22)])) := fun c p hp => k _ p (Post.ret1 hS (st_ok G) (Same.refl _) hp (by rw [step_whole, if_pos c]))
    refine chain_C rfl ⟨_, rfl, ite2 (fun c => iteT ⟨(by show 1 ≤ sizeLine; decide), bad ?_⟩) (fun c => ?_)⟩
    · simp at c
      omega
    have c' : 1 ≤ e ∧ e ≤ 3 := by
      simp at c
      omega
    refine ⟨_, rfl, _, rfl, _, _, rfl, rfl, _, _, rfl, rfl, .inl ⟨by omega, by omega⟩, _, _, rfl, rfl, _, rfl, ite2 (fun d => iteT ⟨(by show 1 ≤ sizeLine; decide), bad ?_⟩) (fun d => ?_)⟩
    · right; right; left
      exact of_decide_eq_true d
    have d' : ¬ (12 : Int) < e * ((g.length : Int) - 1) := fun z => d (decide_eq_true z)
    refine ⟨_, rfl, rfl, _, rfl, ite2 (fun d2 => ⟨(by show 1 ≤ sizeLine; decide), bad ?_⟩) (fun d2 => ?_)⟩
    · have := V.int.inj (of_decide_eq_true d2)
      right; right; right
      show g.length < 2
      omega
    · have d2' : ¬ (g.length : Int) = 1 := fun z => d2 (decide_eq_true (congrArg V.int z))
      obtain ⟨m, rfl⟩ : ∃ m : Nat, e = (m : Int) := ⟨e.toNat, by omega⟩
      have mm : m * (g.length - 1) ≤ 12 := by
        have : ((m * (g.length - 1) : Nat) : Int) = (m : Int) * ((g.length : Int) - 1) := by
          rw [Int.natCast_mul, Int.natCast_sub n1]
          rfl
        omega
      obtain ⟨r1, r2⟩ := whole_ok (n := g.length) (c := m) (by omega) n2 (by omega) (by omega) mm
      refine ⟨_, rfl, g.length, rfl, by omega, fun H1 lb s1 N1 => ?_⟩
      refine ⟨_, rfl, (g.length : Int), rfl, by omega, by omega, for_range (lo := 0) (n := g.length) (fun i σ H' => ∃ v v2 : Option V, σ = [some (.ref ga), some (.ref va), some (.int (m : Int)), some (.int (g.length : Int)), some (.ref lb), v, v2] ∧ Same H H' ∧ NewAt H H' lb (mat (pairF (fun _ _ => true) (m : Int) i) (List.range g.length)))
        ⟨none, none, rfl, s1, N1⟩ (fun i σ H2 hi ⟨v, v2, e, s2, N2⟩ => ?_) (fun σ H2 ⟨v, v2, e, s2, N2⟩ => ?_)⟩
      · subst e
        have zi : (0 : Int) + (i : Int) = ((i : Nat) : Int) := Int.zero_add _
        refine ⟨_, rfl, (0 : Int) + i, rfl, by omega, by omega, ?_⟩
        have zt : ((0 : Int) + (i : Int)).toNat = i := by omega
        rw [zt]
        refine for_range (lo := 0) (n := i) (fun j σ H' => ∃ v2 : Option V, σ = [some (.ref ga), some (.ref va), some (.int (m : Int)), some (.int (g.length : Int)), some (.ref lb), some (.int ((0 : Int) + i)), v2] ∧ Same H H' ∧ NewAt H H' lb (mat (inF1 (fun _ _ => true) (m : Int) (pairF (fun _ _ => true) (m : Int) i) i j) (List.range g.length)))
          ⟨v2, rfl, s2, N2⟩ (fun j σ H3 hj ⟨v3, e, s3, N3⟩ => ?_) (fun σ H3 ⟨v3, e, s3, N3⟩ => ?_)
        · subst e
          have zj : (0 : Int) + (j : Int) = ((j : Nat) : Int) := Int.zero_add _
          refine ⟨_, rfl, _, rfl, _, rfl, _, rfl, H, lb, g.length, _, i, j, (m : Int), ?_, s3, N3, hi, by omega, fun H4 s4 N4 => ⟨_, rfl, s4, ?_⟩⟩
          · show [V.ref lb, V.int ((0 : Int) + i), V.int ((0 : Int) + j), V.int (m : Int)] = _
            rw [zi, zj]
          · rw [inF1, if_pos rfl]
            exact N4
        · subst e
          exact ⟨_, _, rfl, s3, N3⟩
      · subst e
        have M2 := N2.mat
        refine ⟨_, rfl, _, rfl, ga, C, dx, _, rfl, s2 _ _ hg, L.c.cl, L.c.nL, (by show 1 < 1000; decide), ?_⟩
        rw [ptL]
        refine ⟨(by show 1 ≤ sizeLine; decide), fun p hp => k _ p (Post.put (g' := Sr60.wholeOf g.length m) (s2 _ _ hg) s2 (by rw [r2]; exact N2) r1 hp ?_)⟩
        rw [step_whole, if_neg ?_]
        · rfl
        · show ¬ ((m : Int) < 1 ∨ 3 < (m : Int) ∨ (12 : Int) < (m : Int) * ((g.length : Int) - 1) ∨ g.length < 2)
          omega
/-! cube(graph, given) -/
def rdCube : Hp → List V → Sr60.Call → Prop := fun _ xs c => xs = [] ∧ c = .cube
theorem sc_cube : FnScope ["graph", "given", "n", "laid", "u", "v"] ["graph", "given"] (defScope (top 48)) := ⟨rfl, rfl, rfl, by decide +kernel, rfl, by decide +kernel, by decide +kernel⟩
theorem step_cube (g : Sr60.Graph) : Sr60.step (some g) .cube = if Sr60.size g ≠ 2 ∧ Sr60.size g ≠ 4 ∧ Sr60.size g ≠ 8 then (some g, Sr60.say (-22)) else (some (Sr60.cubeOf (Sr60.size g)), Sr60.say 0) := by
  show fin g (if Sr60.size g ≠ 2 ∧ Sr60.size g ≠ 4 ∧ Sr60.size g ≠ 8 then _ else _) = _
  by_cases h1 : Sr60.size g ≠ 2 ∧ Sr60.size g ≠ 4 ∧ Sr60.size g ≠ 8
  · rw [if_pos h1, if_pos h1]
    rfl
  · rw [if_neg h1, if_neg h1]
    rfl
theorem xor_chk : ((List.range 8).all fun u => (List.range 8).all fun v => inV (.int (Builtin.bitXor (u : Int) (v : Int))) [.int 1, .int 2, .int 4] == xorIn u v) = true := by decide +kernel
theorem xor_ok {u v : Nat} (hu : u < 8) (hv : v < 8) : inV (.int (Builtin.bitXor (u : Int) (v : Int))) [.int 1, .int 2, .int 4] = xorIn u v :=
  beq_iff_eq.mp (List.all_eq_true.mp (List.all_eq_true.mp xor_chk u (List.mem_range.mpr hu)) v (List.mem_range.mpr hv))
theorem inV_248 (n : Nat) : inV (.int (n : Int)) [.int 2, .int 4, .int 8] = decide (n = 2 ∨ n = 4 ∨ n = 8) := by
  show ((2 : Int) == (n : Int) || ((4 : Int) == (n : Int) || ((8 : Int) == (n : Int) || false))) = _
  rw [Bool.eq_iff_iff]
  simp only [Bool.or_eq_true, beq_iff_eq, decide_eq_true_eq, Bool.false_eq_true, or_false]
  omega
theorem cl_cube (L : Lib P w K mg base C) (D : Df K mg "cube" 48 ["graph", "given"]) : Cl P w K mg base 10 "cube" (spC C rdCube) := by
  refine D.cl sc_cube (fun vs H Q E h => ?_) (fun f cdv A0 outer s H vs Q E hr h => ?_)
  · obtain ⟨ga, va, g, xs, c, rfl, _⟩ := h
    rfl
  · obtain ⟨ga, va, g, xs, c, rfl, hS, G, hv, ⟨rfl, rfl⟩, k⟩ := h
    refine ⟨_, pss_cons (ps_set (i := 2) sc_cube.nd rfl (Or.inl rfl) (pe_callB call_len_seq (by rfl) L.b.len boot_len (pa_cons (pe_fld (pv 0) rfl) pa_nil)))
      (pss_cons (ps_if (pt_cmpR op_notIn_seq (pv 2) (pe_tup (pa_cons pe_int (pa_cons pe_int (pa_cons pe_int pa_nil)))) (by rfl)) (pss_one (ps_ret (pe_lst (pa_cons (pe_cst L.t.wrong rfl) pa_nil)))) pss_nil)
      (pss_cons (ps_set (i := 3) sc_cube.nd rfl (Or.inl rfl) (pe_cl L.zeros hr (by decide) rfl (pa_cons (pv 2) pa_nil)))
      (pss_cons (ps_for PassesOwn.never rfl (pi_range1 rfl L.b.range (pa_cons (pv 2) pa_nil)) (pg_name (i := 4) sc_cube.nd rfl (Or.inl rfl))
        (pss_one (ps_for PassesOwn.never rfl (pi_range1 rfl L.b.range (pa_cons (pv 4) pa_nil)) (pg_name (i := 5) sc_cube.nd rfl (Or.inl rfl))
          (pss_one (ps_if (pt_cmpR op_in_seq (pe_op op_xor (pv 4) (pv 5)) (pe_tup (pa_cons pe_int (pa_cons pe_int (pa_cons pe_int pa_nil)))) (by rfl))
            (pss_one (ps_expr (pe_cl L.setLines hr (by decide) rfl (pa_cons (pv 3) (pa_cons (pv 4) (pa_cons (pv 5) (pa_cons pe_int pa_nil))))))) pss_nil)))))
      (pss_cons (ps_fld (pv 0) (pv 3) rfl)
      (pss_one (ps_ret (pe_lst (pa_cons pe_int pa_nil)))))))), ?_⟩
    have hS' := hS
    obtain ⟨la, hG⟩ := hS'
    have hG' := hG
    obtain ⟨⟨dx, hg⟩, hm⟩ := hG'
    have n2 := G.n2
    have n1 := G.n1
    obtain ⟨as, ha, ln⟩ := hm.len
    rw [show (stM (some g)).length = g.length from ints_len g] at ln
    refine ⟨_, rfl, ga, C, dx, _, _, rfl, hg, L.c.cl, L.c.nL, lkL la, la, _, rfl, .inl (SqL.of ha), ?_⟩
    rw [List.length_map, ln]
    refine ⟨_, rfl, (by show 3 ≤ sizeLine; decide), fun t ht => ⟨t, _, rfl, .inr (SqT.of upd_same), rfl, rfl, _, rfl, ?_⟩⟩
    have st : Same H (upd H t (.tup [.int 2, .int 4, .int 8])) := same_upd (Same.refl _) ht
    rw [inV_248]
    refine ite2 (fun c => ?_) (fun c => ?_)
    · have c' : Sr60.size g ≠ 2 ∧ Sr60.size g ≠ 4 ∧ Sr60.size g ≠ 8 := by
        have z : ¬ (g.length = 2 ∨ g.length = 4 ∨ g.length = 8) := by simpa using c
        show g.length ≠ 2 ∧ g.length ≠ 4 ∧ g.length ≠ 8
        omega
      exact ⟨(by show 1 ≤ sizeLine; decide), fun p hp => k _ p (Post.ret1 hS (st_ok G) st hp (by rw [step_cube, if_pos c']))⟩
    · have z : g.length = 2 ∨ g.length = 4 ∨ g.length = 8 := by
        refine Decidable.byContradiction fun z => c ?_
        simp [z]
      obtain ⟨r1, r2⟩ := cube_ok (n := g.length) (by rcases z with z | z | z <;> simp [z])
      refine ⟨_, rfl, g.length, rfl, by omega, fun H1 lb s1 N1' => ?_⟩
      have N1 : NewAt H H1 lb (mat (fun _ _ => 0) (List.range g.length)) := by
        obtain ⟨q1, bs, q2, q3, q4, q5, q6⟩ := N1'
        exact ⟨st.free q1, bs, q2, q3, fun b hb => st.free (q4 b hb), q5, q6⟩
      refine ⟨_, rfl, (g.length : Int), rfl, by omega, by omega, for_range (lo := 0) (n := g.length) (fun i σ H' => ∃ v v2 : Option V, σ = [some (.ref ga), some (.ref va), some (.int (g.length : Int)), some (.ref lb), v, v2] ∧ Same H H' ∧ NewAt H H' lb (mat (pairF xorIn 1 i) (List.range g.length)))
        ⟨none, none, rfl, st.trans s1, N1⟩ (fun i σ H2 hi ⟨v, v2, e, s2, N2⟩ => ?_) (fun σ H2 ⟨v, v2, e, s2, N2⟩ => ?_)⟩
      · subst e
        have zi : (0 : Int) + (i : Int) = ((i : Nat) : Int) := Int.zero_add _
        refine ⟨_, rfl, (0 : Int) + i, rfl, by omega, by omega, ?_⟩
        have zt : ((0 : Int) + (i : Int)).toNat = i := by omega
        rw [zt]
        refine for_range (lo := 0) (n := i) (fun j σ H' => ∃ v2 : Option V, σ = [some (.ref ga), some (.ref va), some (.int (g.length : Int)), some (.ref lb), some (.int ((0 : Int) + i)), v2] ∧ Same H H' ∧ NewAt H H' lb (mat (inF1 xorIn 1 (pairF xorIn 1 i) i j) (List.range g.length)))
          ⟨v2, rfl, s2, N2⟩ (fun j σ H3 hj ⟨v3, e, s3, N3⟩ => ?_) (fun σ H3 ⟨v3, e, s3, N3⟩ => ?_)
        · subst e
          have zj : (0 : Int) + (j : Int) = ((j : Nat) : Int) := Int.zero_add _
          refine ⟨_, rfl, _, rfl, _, _, rfl, rfl, (by show 3 ≤ sizeLine; decide), fun t2 ht2 => ⟨t2, _, rfl, .inr (SqT.of upd_same), rfl, rfl, _, rfl, ?_⟩⟩
          have st2 : Same H3 (upd H3 t2 (.tup [.int 1, .int 2, .int 4])) := same_upd (Same.refl _) ht2
          have N3' : NewAt H (upd H3 t2 (.tup [.int 1, .int 2, .int 4])) lb (mat (inF1 xorIn 1 (pairF xorIn 1 i) i j) (List.range g.length)) := by
            obtain ⟨q1, bs, q2, q3, q4, q5, q6⟩ := N3
            exact ⟨q1, bs, st2 _ _ q2, q3.same st2, q4, q5, q6⟩
          rw [zi, zj, if_neg (by decide), xor_ok (by omega) (by omega)]
          refine ite2 (fun d => ?_) (fun d => ?_)
          · refine ⟨_, rfl, _, rfl, _, rfl, H, lb, g.length, _, i, j, 1, ?_, s3.trans st2, N3', hi, by omega, fun H4 s4 N4 => ⟨_, rfl, s4, ?_⟩⟩
            · rfl
            · rw [inF1, if_pos d]
              exact N4
          · refine ⟨_, rfl, s3.trans st2, ?_⟩
            rw [inF1, if_neg d]
            exact N3'
        · subst e
          exact ⟨_, _, rfl, s3, N3⟩
      · subst e
        have M2 := N2.mat
        refine ⟨_, rfl, _, rfl, ga, C, dx, _, rfl, s2 _ _ hg, L.c.cl, L.c.nL, (by show 1 < 1000; decide), ?_⟩
        rw [ptL]
        refine ⟨(by show 1 ≤ sizeLine; decide), fun p hp => k _ p (Post.put (g' := Sr60.cubeOf g.length) (s2 _ _ hg) s2 (by rw [r2]; exact N2) r1 hp ?_)⟩
        rw [step_cube, if_neg ?_]
        · rfl
        · show ¬ (g.length ≠ 2 ∧ g.length ≠ 4 ∧ g.length ≠ 8)
          omega
end
end Sw
namespace Sw
open PySem PySem.Spec PyProof.Rows L2
theorem tooF_congr {n : Nat} {F G : Nat → Nat → Int} (h : ∀ i ∈ List.range n, ∀ j ∈ List.range n, F i j = G i j) : tooF n F = tooF n G := by
  have e4 : ∀ u ∈ List.range n, dgF n F u = dgF n G u := fun u hu => S_congr fun w hw => h u hu w hw
  unfold tooF
  refine Bool.eq_iff_iff.mpr ?_
  rw [List.any_eq_true, List.any_eq_true]
  constructor
  · rintro ⟨u, hu, z⟩
    exact ⟨u, hu, by rw [← e4 u hu]; exact z⟩
  · rintro ⟨u, hu, z⟩
    exact ⟨u, hu, by rw [e4 u hu]; exact z⟩
section
variable {P : Program} {w : World} {K : PySem.W.Frag} {mg : Str → Option Value} {base : Heap} {C : Addr}
/-! power(graph, given) -/
def rdPower : Hp → List V → Sr60.Call → Prop := fun _ xs c => ∃ k, xs = [.int k] ∧ c = .power k
theorem sc_power : FnScope ["graph", "given", "k", "counts"] ["graph", "given"] (defScope (top 49)) := ⟨rfl, rfl, rfl, by decide +kernel, rfl, by decide +kernel, by decide +kernel⟩
theorem step_power (g : Sr60.Graph) (k : Int) : Sr60.step (some g) (.power k) = if k < 1 ∨ 4 < k then (some g, Sr60.say (-22)) else if Sr60.small (Sr60.power g k.toNat) = false then (some g, Sr60.say (-28)) else (some (Sr60.power g k.toNat), Sr60.say 0) := by
  show fin g (if k < 1 ∨ 4 < k then _ else if Sr60.small (Sr60.power g k.toNat) = false then _ else _) = _
  by_cases h1 : k < 1 ∨ 4 < k
  · rw [if_pos h1, if_pos h1]
    rfl
  · rw [if_neg h1, if_neg h1]
    by_cases h2 : Sr60.small (Sr60.power g k.toNat) = false
    · rw [if_pos h2, if_pos h2]
      rfl
    · rw [if_neg h2, if_neg h2]
      rfl
theorem cl_power (L : Lib P w K mg base C) (D : Df K mg "power" 49 ["graph", "given"]) : Cl P w K mg base 10 "power" (spC C rdPower) := by
  refine D.cl sc_power (fun vs H Q E h => ?_) (fun f cdv A0 outer s H vs Q E hr h => ?_)
  · obtain ⟨ga, va, g, xs, c, rfl, _⟩ := h
    rfl
  · obtain ⟨ga, va, g, xs, c, rfl, hS, G, hv, ⟨e, rfl, rfl⟩, k⟩ := h
    refine ⟨_, pss_cons (ps_set (i := 2) sc_power.nd rfl (Or.inl rfl) (pe_ix ix_list (pv 1) pe_int (fun _ _ => rfl)))
      (pss_cons (ps_if (pt_not (pt_chain op_le op_le pe_int (pv 2) (pe_cst L.t.mPower rfl))) (pss_one (ps_ret (pe_lst (pa_cons (pe_cst L.t.wrong rfl) pa_nil)))) pss_nil)
      (pss_cons (ps_set (i := 3) sc_power.nd rfl (Or.inl rfl) (pe_cl L.walks hr (by decide) rfl (pa_cons (pe_fld (pv 0) rfl) (pa_cons (pv 2) pa_nil))))
      (pss_cons (ps_if (pt_val (pe_cl L.tooMany hr (by decide) rfl (pa_cons (pv 3) pa_nil))) (pss_one (ps_ret (pe_lst (pa_cons (pe_cst L.t.tooMany rfl) pa_nil)))) pss_nil)
      (pss_cons (ps_fld (pv 0) (pv 3) rfl)
      (pss_one (ps_ret (pe_lst (pa_cons pe_int pa_nil)))))))), ?_⟩
    have hS' := hS
    obtain ⟨la, hG⟩ := hS'
    have hG' := hG
    obtain ⟨⟨dx, hg⟩, hm⟩ := hG'
    have n2 := G.n2
    have hmA : MatAt H la (mat (A g) (List.range g.length)) := G.mat ▸ hm
    refine ⟨_, rfl, va, _, 0, _, rfl, rfl, SqL.of hv, at_of (j := 0) rfl rfl, ?_⟩
    refine chain_C rfl ⟨_, rfl, ite2 (fun c => ?_) (fun c => ?_)⟩
    · have c' : e < 1 ∨ 4 < e := by
        simp at c
        omega
      exact ⟨(by show 1 ≤ sizeLine; decide), fun p hp => k _ p (Post.ret1 hS (st_ok G) (Same.refl _) hp (by rw [step_power, if_pos c']))⟩
    · have c' : ¬ (e < 1 ∨ 4 < e) := by
        simp at c
        omega
      obtain ⟨m, rfl⟩ : ∃ m : Nat, e = (m : Int) := ⟨e.toNat, by omega⟩
      have st0 := step_power g (m : Int)
      rw [if_neg c', Int.toNat_natCast] at st0
      refine ⟨_, rfl, ga, C, dx, _, _, rfl, hg, L.c.cl, L.c.nL, lkL la, _, rfl, la, g.length, m, A g, rfl, hmA, by omega, by omega, G.grF.in64, fun H1 lb s1 M1 => ?_⟩
      refine ⟨_, rfl, lb, g.length, _, rfl, M1.mat, by omega, fun H2 s2 => ⟨_, rfl, ?_⟩⟩
      have e3 : tooF g.length (W g.length (A g) m) = !Sr60.small (Sr60.power g m) := by
        rw [small_too, Bool.not_not, power_len]
        exact tooF_congr fun i hi j hj => (power_W g m i j (List.mem_range.mp hi) (List.mem_range.mp hj)).symm
      rw [e3]
      have s13 := s1.trans s2
      refine ite2 (fun z => ?_) (fun z => ?_)
      · have z' : Sr60.small (Sr60.power g m) = false := by simpa using z
        exact ⟨(by show 1 ≤ sizeLine; decide), fun p hp => k _ p (Post.ret1 hS (st_ok G) s13 hp (by rw [st0, if_pos z']))⟩
      · have z' : Sr60.small (Sr60.power g m) = true := by simpa using z
        refine ⟨_, rfl, _, rfl, ga, C, dx, _, rfl, s13 _ _ hg, L.c.cl, L.c.nL, (by show 1 < 1000; decide), ?_⟩
        rw [ptL]
        refine ⟨(by show 1 ≤ sizeLine; decide), fun p hp => k _ p (Post.put (g' := Sr60.power g m) (s13 _ _ hg) s13 (by rw [power_mat]; exact M1.same s2) (power_good G z') hp ?_)⟩
        rw [st0, if_neg (by rw [z']; exact Bool.noConfusion)]
/-! spreads(graph, given) -/
def rdSpreads : Hp → List V → Sr60.Call → Prop := fun _ xs c => ∃ p q, xs = [.int p, .int q] ∧ c = .spreads p q
theorem sc_spreads : FnScope ["graph", "given", "p", "q"] ["graph", "given"] (defScope (top 52)) := ⟨rfl, rfl, rfl, by decide +kernel, rfl, by decide +kernel, by decide +kernel⟩
theorem okPQ_of {p q : Int} (h : Sr60.okPQ p q = true) : 0 ≤ p ∧ p ≤ q ∧ 1 ≤ q ∧ q ≤ 100 := by
  unfold Sr60.okPQ at h
  rw [Bool.and_eq_true, Bool.and_eq_true, Bool.and_eq_true, decide_eq_true_eq, decide_eq_true_eq, decide_eq_true_eq, decide_eq_true_eq] at h
  exact h
theorem bit_if (b : Bool) : Sr60.bit b = if b = true then 1 else 0 := rfl
theorem cl_spreads (L : Lib P w K mg base C) (D : Df K mg "spreads" 52 ["graph", "given"]) : Cl P w K mg base 10 "spreads" (spC C rdSpreads) := by
  refine D.cl sc_spreads (fun vs H Q E h => ?_) (fun f cdv A0 outer s H vs Q E hr h => ?_)
  · obtain ⟨ga, va, g, xs, c, rfl, _⟩ := h
    rfl
  · obtain ⟨ga, va, g, xs, c, rfl, hS, G, hv, ⟨p0, q0, rfl, rfl⟩, k⟩ := h
    refine ⟨_, pss_cons (ps_set (i := 2) sc_spreads.nd rfl (Or.inl rfl) (pe_ix ix_list (pv 1) pe_int (fun _ _ => rfl)))
      (pss_cons (ps_set (i := 3) sc_spreads.nd rfl (Or.inl rfl) (pe_ix ix_list (pv 1) pe_int (fun _ _ => rfl)))
      (pss_cons (ps_if (pt_not (pt_val (pe_cl L.shares hr (by decide) rfl (pa_cons (pv 2) (pa_cons (pv 3) pa_nil))))) (pss_one (ps_ret (pe_lst (pa_cons (pe_cst L.t.wrong rfl) pa_nil)))) pss_nil)
      (pss_cons (ps_if (pt_cmpR op_eq (pe_cl L.common hr (by decide) rfl (pa_cons (pe_fld (pv 0) rfl) pa_nil)) pe_int (nomark _)) (pss_one (ps_ret (pe_lst (pa_cons (pe_cst L.t.notEven rfl) pa_nil)))) pss_nil)
      (pss_one (ps_ret (pe_lst (pa_cons (pe_ifExp (pt_val (pe_cl L.spreadsBy hr (by decide) rfl (pa_cons (pe_fld (pv 0) rfl) (pa_cons (pv 2) (pa_cons (pv 3) pa_nil))))) pe_int pe_int) pa_nil))))))), ?_⟩
    have hS' := hS
    obtain ⟨la, hG⟩ := hS'
    have hG' := hG
    obtain ⟨⟨dx, hg⟩, hm⟩ := hG'
    have n2 := G.n2
    have hmA : MatAt H la (mat (A g) (List.range g.length)) := G.mat ▸ hm
    have st0 : Sr60.step (some g) (.spreads p0 q0) = (some g, if Sr60.okPQ p0 q0 = false then Sr60.say (-22) else if (Sr60.even g).isNone then Sr60.say (-33) else Sr60.say (Sr60.bit (Sr60.spreads g p0.toNat q0.toNat))) := rfl
    refine ⟨_, rfl, va, _, 0, _, rfl, rfl, SqL.of hv, at_of (j := 0) rfl rfl, ?_⟩
    refine ⟨_, rfl, va, _, 1, _, rfl, rfl, SqL.of hv, at_of (j := 1) rfl rfl, ?_⟩
    refine ⟨_, rfl, _, rfl, p0, q0, rfl, _, rfl, ?_⟩
    rw [shF_ok]
    refine ite2 (fun c => ?_) (fun c => ?_)
    · have c' : Sr60.okPQ p0 q0 = false := by simpa using c
      exact ⟨(by show 1 ≤ sizeLine; decide), fun p hp => k _ p (Post.ret1 hS (st_ok G) (Same.refl _) hp (by rw [st0, if_pos c']))⟩
    · have c' : Sr60.okPQ p0 q0 = true := by simpa using c
      rw [if_neg (by rw [c']; exact Bool.noConfusion)] at st0
      have b := okPQ_of c'
      refine ⟨_, rfl, ga, C, dx, _, _, rfl, hg, L.c.cl, L.c.nL, lkL la, la, g.length, A g, rfl, hmA, G.n1, by omega, fun H1 s1 => ⟨rfl, _, rfl, ?_⟩⟩
      rw [even_cd]
      refine ite2 (fun d => ?_) (fun d => ?_)
      · have d' := evI_none.mp (V.int.inj (of_decide_eq_true d))
        exact ⟨(by show 1 ≤ sizeLine; decide), fun p hp => k _ p (Post.ret1 hS (st_ok G) s1 hp (by rw [st0, d']; rfl))⟩
      · have d' : ¬ evI g = 0 := fun z => d (decide_eq_true (congrArg V.int z))
        cases e : Sr60.even g with
        | none => exact absurd (evI_none.mpr e) d'
        | some dd =>
          rw [e] at st0
          obtain ⟨p1, rfl⟩ : ∃ m : Nat, p0 = (m : Int) := ⟨p0.toNat, by omega⟩
          obtain ⟨q1, rfl⟩ : ∃ m : Nat, q0 = (m : Int) := ⟨q0.toNat, by omega⟩
          refine ⟨_, rfl, ga, C, dx, _, _, rfl, s1 _ _ hg, L.c.cl, L.c.nL, lkL la, _, rfl, _, rfl, la, g.length, A g, (p1 : Int), (q1 : Int), rfl, hmA.same s1, G.grF, by omega, by omega, by omega, by omega, fun H2 s2 => ⟨_, rfl, ?_⟩⟩
          rw [spB_spec G e]
          refine ite2 (fun z => ?_) (fun z => ?_)
          · refine ⟨(by show 1 ≤ sizeLine; decide), fun p hp => k _ p (Post.ret1 hS (st_ok G) (s1.trans s2) hp ?_)⟩
            rw [st0]
            show (some g, Sr60.say (Sr60.bit (Sr60.spreads g p1 q1))) = _
            rw [z]
            rfl
          · refine ⟨(by show 1 ≤ sizeLine; decide), fun p hp => k _ p (Post.ret1 hS (st_ok G) (s1.trans s2) hp ?_)⟩
            rw [st0]
            show (some g, Sr60.say (Sr60.bit (Sr60.spreads g p1 q1))) = _
            rw [Bool.eq_false_iff.mpr z]
            rfl
/-! least(graph, given) -/
def rdLeast : Hp → List V → Sr60.Call → Prop := fun _ xs c => ∃ q, xs = [.int q] ∧ c = .least q
theorem sc_leastC : FnScope ["graph", "given", "q"] ["graph", "given"] (defScope (top 53)) := ⟨rfl, rfl, rfl, by decide +kernel, rfl, by decide +kernel, by decide +kernel⟩
theorem sh0 (q : Int) : shF 0 q = decide (1 ≤ q ∧ q ≤ 100) := by
  unfold shF
  by_cases h1 : 1 ≤ q <;> by_cases h2 : q ≤ 100 <;> simp [h1, h2] <;> omega
theorem cl_leastC (L : Lib P w K mg base C) (D : Df K mg "least" 53 ["graph", "given"]) : Cl P w K mg base 10 "least" (spC C rdLeast) := by
  refine D.cl sc_leastC (fun vs H Q E h => ?_) (fun f cdv A0 outer s H vs Q E hr h => ?_)
  · obtain ⟨ga, va, g, xs, c, rfl, _⟩ := h
    rfl
  · obtain ⟨ga, va, g, xs, c, rfl, hS, G, hv, ⟨q0, rfl, rfl⟩, k⟩ := h
    refine ⟨_, pss_cons (ps_set (i := 2) sc_leastC.nd rfl (Or.inl rfl) (pe_ix ix_list (pv 1) pe_int (fun _ _ => rfl)))
      (pss_cons (ps_if (pt_not (pt_val (pe_cl L.shares hr (by decide) rfl (pa_cons pe_int (pa_cons (pv 2) pa_nil))))) (pss_one (ps_ret (pe_lst (pa_cons (pe_cst L.t.wrong rfl) pa_nil)))) pss_nil)
      (pss_cons (ps_if (pt_cmpR op_eq (pe_cl L.common hr (by decide) rfl (pa_cons (pe_fld (pv 0) rfl) pa_nil)) pe_int (nomark _)) (pss_one (ps_ret (pe_lst (pa_cons (pe_cst L.t.notEven rfl) pa_nil)))) pss_nil)
      (pss_one (ps_ret (pe_lst (pa_cons (pe_cl L.least hr (by decide) rfl (pa_cons (pe_fld (pv 0) rfl) (pa_cons (pv 2) pa_nil))) pa_nil)))))), ?_⟩
    have hS' := hS
    obtain ⟨la, hG⟩ := hS'
    have hG' := hG
    obtain ⟨⟨dx, hg⟩, hm⟩ := hG'
    have n2 := G.n2
    have hmA : MatAt H la (mat (A g) (List.range g.length)) := G.mat ▸ hm
    have st0 : Sr60.step (some g) (.least q0) = (some g, if q0 < 1 ∨ 100 < q0 then Sr60.say (-22) else if (Sr60.even g).isNone then Sr60.say (-33) else match Sr60.least g q0.toNat with | none => Sr60.say (-33) | some p => Sr60.say ((p : Nat) : Int)) := rfl
    refine ⟨_, rfl, va, _, 0, _, rfl, rfl, SqL.of hv, at_of (j := 0) rfl rfl, ?_⟩
    refine ⟨_, rfl, 0, q0, rfl, _, rfl, ?_⟩
    rw [sh0]
    refine ite2 (fun c => ?_) (fun c => ?_)
    · have c' : q0 < 1 ∨ 100 < q0 := by
        simp at c
        omega
      exact ⟨(by show 1 ≤ sizeLine; decide), fun p hp => k _ p (Post.ret1 hS (st_ok G) (Same.refl _) hp (by rw [st0, if_pos c']))⟩
    · have c' : 1 ≤ q0 ∧ q0 ≤ 100 := by
        refine Decidable.byContradiction fun z => c ?_
        simp [z]
      rw [if_neg (by omega)] at st0
      refine ⟨_, rfl, ga, C, dx, _, _, rfl, hg, L.c.cl, L.c.nL, lkL la, la, g.length, A g, rfl, hmA, G.n1, by omega, fun H1 s1 => ⟨rfl, _, rfl, ?_⟩⟩
      rw [even_cd]
      refine ite2 (fun d => ?_) (fun d => ?_)
      · have d' := evI_none.mp (V.int.inj (of_decide_eq_true d))
        exact ⟨(by show 1 ≤ sizeLine; decide), fun p hp => k _ p (Post.ret1 hS (st_ok G) s1 hp (by rw [st0, d']; rfl))⟩
      · have d' : ¬ evI g = 0 := fun z => d (decide_eq_true (congrArg V.int z))
        cases e : Sr60.even g with
        | none => exact absurd (evI_none.mpr e) d'
        | some dd =>
          rw [e] at st0
          obtain ⟨q1, rfl⟩ : ∃ m : Nat, q0 = (m : Int) := ⟨q0.toNat, by omega⟩
          refine ⟨_, rfl, ga, C, dx, _, _, rfl, s1 _ _ hg, L.c.cl, L.c.nL, lkL la, _, rfl, la, g.length, A g, (q1 : Int), rfl, hmA.same s1, G.grF, by omega, by omega, spB_top G e q1, fun p p' h1 h2 h3 h4 => ?_, fun H2 r s2 r0 r1 r2 r3 => ?_⟩
          · obtain ⟨a, rfl⟩ : ∃ m : Nat, p = (m : Int) := ⟨p.toNat, by omega⟩
            obtain ⟨b, rfl⟩ : ∃ m : Nat, p' = (m : Int) := ⟨p'.toNat, by omega⟩
            exact spB_mono G e a b q1 (by omega) h4
          · obtain ⟨a, rfl⟩ : ∃ m : Nat, r = (m : Int) := ⟨r.toNat, by omega⟩
            have z := least_of G e (q := q1) (r := a) (by omega) r2 fun p hp => r3 (p : Int) (by omega) (by omega)
            refine ⟨(by show 1 ≤ sizeLine; decide), fun p hp => k _ p (Post.ret1 hS (st_ok G) (s1.trans s2) hp ?_)⟩
            rw [st0, Int.toNat_natCast, z]
            rfl
/-! between(graph, given) -/
def rdBetween : Hp → List V → Sr60.Call → Prop := fun H xs c => ∃ (b1 b2 : Addr) (s t : List Int), xs = [.ref b1, .ref b2] ∧ IntsAt H b1 s ∧ IntsAt H b2 t ∧ s.length ≤ 1000 ∧ t.length ≤ 1000 ∧ c = .between s t
theorem sc_between : FnScope ["graph", "given", "ones", "others", "count", "d"] ["graph", "given"] (defScope (top 54)) := ⟨rfl, rfl, rfl, by decide +kernel, rfl, by decide +kernel, by decide +kernel⟩
theorem abs_nat (z : Int) : (if z < 0 then -z else z) = (z.natAbs : Int) := by
  split <;> omega
theorem toI_length (us : List Nat) : (toI us).length = us.length := by simp [toI]
theorem cl_between (L : Lib P w K mg base C) (D : Df K mg "between" 54 ["graph", "given"]) : Cl P w K mg base 10 "between" (spC C rdBetween) := by
  refine D.cl sc_between (fun vs H Q E h => ?_) (fun f cdv A0 outer s H vs Q E hr h => ?_)
  · obtain ⟨ga, va, g, xs, c, rfl, _⟩ := h
    rfl
  · obtain ⟨ga, va, g, xs, c, rfl, hS, G, hv, ⟨b1, b2, s1', t1, rfl, hb1, hb2, l1, l2, rfl⟩, k⟩ := h
    refine ⟨_, pss_cons (ps_set (i := 2) sc_between.nd rfl (Or.inl rfl) (pe_ix ix_list (pv 1) pe_int (fun _ _ => rfl)))
      (pss_cons (ps_set (i := 3) sc_between.nd rfl (Or.inl rfl) (pe_ix ix_list (pv 1) pe_int (fun _ _ => rfl)))
      (pss_cons (ps_if (PW.pt (pw_or (pt_not (pt_val (pe_cl L.arePlaces hr (by decide) rfl (pa_cons (pv 0) (pa_cons (pv 2) pa_nil))))) (pw_or1 (pt_not (pt_val (pe_cl L.arePlaces hr (by decide) rfl (pa_cons (pv 0) (pa_cons (pv 3) pa_nil)))))))) (pss_one (ps_ret (pe_lst (pa_cons (pe_cst L.t.wrong rfl) pa_nil)))) pss_nil)
      (pss_cons (ps_set (i := 4) sc_between.nd rfl (Or.inl rfl) (pe_cl L.betw hr (by decide) rfl (pa_cons (pe_fld (pv 0) rfl) (pa_cons (pv 2) (pa_cons (pv 3) pa_nil)))))
      (pss_cons (ps_set (i := 5) sc_between.nd rfl (Or.inl rfl) (pe_cl L.common hr (by decide) rfl (pa_cons (pe_fld (pv 0) rfl) pa_nil)))
      (pss_cons (ps_if (pt_cmpR op_eq (pv 5) pe_int (nomark _)) (pss_one (ps_ret (pe_lst (pa_cons (pv 4) pa_nil)))) pss_nil)
      (pss_one (ps_ret (pe_lst (pa_cons (pv 4) (pa_cons (pe_callB call_abs (by rfl) L.b.abs (by decide +kernel) (pa_cons (pe_op op_sub (pe_op op_mul (pe_callB call_len_seq (by rfl) L.b.len boot_len (pa_cons (pe_fld (pv 0) rfl) pa_nil)) (pv 4))
        (pe_op op_mul (pe_op op_mul (pv 5) (pe_callB call_len_seq (by rfl) L.b.len boot_len (pa_cons (pv 2) pa_nil))) (pe_callB call_len_seq (by rfl) L.b.len boot_len (pa_cons (pv 3) pa_nil)))) pa_nil)) pa_nil)))))))))), ?_⟩
    have hS' := hS
    obtain ⟨la, hG⟩ := hS'
    have hG' := hG
    obtain ⟨⟨dx, hg⟩, hm⟩ := hG'
    have n2 := G.n2
    have n1 := G.n1
    have hmA : MatAt H la (mat (A g) (List.range g.length)) := G.mat ▸ hm
    have st0 : Sr60.step (some g) (.between s1' t1) = (some g, if Sr60.okSet g s1' = false ∨ Sr60.okSet g t1 = false then Sr60.say (-22) else match Sr60.even g with | none => ⟨(Sr60.between g (Sr60.num s1') (Sr60.num t1) : Int), []⟩ | some d => ⟨(Sr60.between g (Sr60.num s1') (Sr60.num t1) : Int), [(Sr60.off g d (Sr60.num s1') (Sr60.num t1) : Int)]⟩) := rfl
    refine ⟨_, rfl, va, _, 0, _, rfl, rfl, SqL.of hv, at_of (j := 0) rfl rfl, ?_⟩
    refine ⟨_, rfl, va, _, 1, _, rfl, rfl, SqL.of hv, at_of (j := 1) rfl rfl, ?_⟩
    have len : (stM (some g)).length = g.length := ints_len g
    refine ⟨_, rfl, _, rfl, ga, la, b1, _, s1', rfl, hG, hb1, l1, fun H1 s1 => ⟨_, rfl, ?_⟩⟩
    rw [len, okF_ok]
    have bad : (Sr60.okSet g s1' = false ∨ Sr60.okSet g t1 = false) → ∀ H2, Same H H2 → ∀ p, H2 p = none → Q (.ref p) (upd H2 p (.lst [.int (-22)])) := fun c H2 s2 p hp => k _ p (Post.ret1 hS (st_ok G) s2 hp (by rw [st0, if_pos c]))
    refine ite2 (fun c => iteT ⟨(by show 1 ≤ sizeLine; decide), bad (.inl (by simpa using c)) H1 s1⟩) (fun c => ?_)
    refine ⟨_, rfl, _, rfl, ga, la, b2, _, t1, rfl, hG.same s1, s1 _ _ hb2, l2, fun H2 s2 => ⟨_, rfl, ?_⟩⟩
    rw [len, okF_ok]
    have s12 := s1.trans s2
    refine ite2 (fun d => ⟨(by show 1 ≤ sizeLine; decide), bad (.inr (by simpa using d)) H2 s12⟩) (fun d => ?_)
    have c' : Sr60.okSet g s1' = true := by simpa using c
    have d' : Sr60.okSet g t1 = true := by simpa using d
    rw [if_neg (by rw [c', d']; rintro (h | h) <;> cases h)] at st0
    obtain ⟨us, ru⟩ := row_of c'
    obtain ⟨ws, rw1⟩ := row_of d'
    have hb1' : IntsAt H b1 (toI us) := ru.eq ▸ hb1
    have hb2' : IntsAt H b2 (toI ws) := rw1.eq ▸ hb2
    have lus : us.length = s1'.length := by rw [ru.eq, toI_length]
    have lws : ws.length = t1.length := by rw [rw1.eq, toI_length]
    refine ⟨_, rfl, ga, C, dx, _, _, rfl, s12 _ _ hg, L.c.cl, L.c.nL, lkL la, _, rfl, _, rfl, la, b1, b2, g.length, A g, us, ws, rfl, hmA.same s12, hb1'.same s12, hb2'.same s12, ru.inside, rw1.inside, by omega, by omega, fun H3 s3 => ?_⟩
    have s13 := s12.trans s3
    rw [← between_S ru rw1]
    refine ⟨_, rfl, ga, C, dx, _, _, rfl, s13 _ _ hg, L.c.cl, L.c.nL, lkL la, la, g.length, A g, rfl, hmA.same s13, n1, by omega, fun H4 s4 => ?_⟩
    have s14 := s13.trans s4
    rw [even_cd]
    refine ⟨_, rfl, rfl, _, rfl, ite2 (fun z => ?_) (fun z => ?_)⟩
    · have z' := evI_none.mp (V.int.inj (of_decide_eq_true z))
      rw [z'] at st0
      exact ⟨_, rfl, (by show 1 ≤ sizeLine; decide), fun p hp => k _ p (Post.ret1 hS (st_ok G) s14 hp (by rw [st0]; rfl))⟩
    · have z' : ¬ evI g = 0 := fun y => z (decide_eq_true (congrArg V.int y))
      cases e : Sr60.even g with
      | none => exact absurd (evI_none.mpr e) z'
      | some dd =>
        rw [e] at st0
        have ev := evI_some e
        have d12 := G.grF.cd
        rw [even_cd, ev] at d12
        obtain ⟨as, ha, ln⟩ := hmA.len
        rw [mat_len, List.length_range] at ln
        have dl : 0 ≤ (us.length : Int) ∧ (us.length : Int) ≤ 1000 := ⟨by omega, by omega⟩
        have dd1 := mul_in d12 dl
        refine ⟨_, rfl, _, rfl, ga, C, dx, _, _, rfl, s14 _ _ hg, L.c.cl, L.c.nL, lkL la, la, _, rfl, .inl (SqL.of (s14 _ _ ha)), _, rfl, _, _, rfl, rfl, ?_, ?_⟩
        · rw [List.length_map, ln]
          exact .inl ⟨by omega, by omega⟩
        · refine ⟨_, rfl, _, rfl, b1, _, rfl, .inl (SqL.of (s14 _ _ hb1')), _, _, rfl, rfl, ?_, _, rfl, b2, _, rfl, .inl (SqL.of (s14 _ _ hb2')), _, _, rfl, rfl, ?_, _, _, rfl, rfl, _, rfl, (by show 2 ≤ sizeLine; decide), fun p hp => ?_⟩
          · rw [ev]
            exact in_l d12 (by decide)
          · rw [toI_len, ev]
            exact in_l dd1 (by decide)
          · rw [abs_nat, List.length_map, ln, toI_len, toI_len, ev]
            refine k _ p (Post.ret (x := ((Sr60.between g (Sr60.num s1') (Sr60.num t1) : Nat) : Int)) (xs := [_]) hS (st_ok G) s14 hp ?_)
            rw [st0]
            have eo : ((Sr60.off g dd (Sr60.num s1') (Sr60.num t1) : Nat) : Int) = ((((g.length : Int) * ((Sr60.between g (Sr60.num s1') (Sr60.num t1) : Nat) : Int) - (dd : Int) * (us.length : Int) * (ws.length : Int)).natAbs : Nat) : Int) := by
              unfold Sr60.off
              rw [ru.members, rw1.members, Int.natCast_mul, Int.natCast_mul, Int.natCast_mul]
              rfl
            rw [← eo]
/-! staying(graph, given) -/
def rdStaying : Hp → List V → Sr60.Call → Prop := fun H xs c => ∃ (b1 : Addr) (k : Int) (s : List Int), xs = [.int k, .ref b1] ∧ IntsAt H b1 s ∧ s.length ≤ 1000 ∧ c = .staying k s
theorem sc_staying : FnScope ["graph", "given", "k", "places", "counts"] ["graph", "given"] (defScope (top 55)) := ⟨rfl, rfl, rfl, by decide +kernel, rfl, by decide +kernel, by decide +kernel⟩
theorem stepsF_false {k : Int} (h : stepsF k = false) : k < 0 ∨ 12 < k := by
  unfold stepsF at h
  refine Decidable.byContradiction fun z => ?_
  have h1 : 0 ≤ k := by omega
  have h2 : k ≤ 12 := by omega
  rw [decide_eq_true h1, decide_eq_true h2] at h
  cases h
theorem stepsF_true {k : Int} (h : stepsF k = true) : 0 ≤ k ∧ k ≤ 12 := by
  unfold stepsF at h
  rw [Bool.and_eq_true, decide_eq_true_eq, decide_eq_true_eq] at h
  exact h
theorem cl_staying (L : Lib P w K mg base C) (D : Df K mg "staying" 55 ["graph", "given"]) : Cl P w K mg base 10 "staying" (spC C rdStaying) := by
  refine D.cl sc_staying (fun vs H Q E h => ?_) (fun f cdv A0 outer s H vs Q E hr h => ?_)
  · obtain ⟨ga, va, g, xs, c, rfl, _⟩ := h
    rfl
  · obtain ⟨ga, va, g, xs, c, rfl, hS, G, hv, ⟨b1, k0, s1', rfl, hb1, l1, rfl⟩, k⟩ := h
    refine ⟨_, pss_cons (ps_set (i := 2) sc_staying.nd rfl (Or.inl rfl) (pe_ix ix_list (pv 1) pe_int (fun _ _ => rfl)))
      (pss_cons (ps_set (i := 3) sc_staying.nd rfl (Or.inl rfl) (pe_ix ix_list (pv 1) pe_int (fun _ _ => rfl)))
      (pss_cons (ps_if (PW.pt (pw_or (pt_not (pt_val (pe_cl L.steps hr (by decide) rfl (pa_cons (pv 2) pa_nil)))) (pw_or1 (pt_not (pt_val (pe_cl L.arePlaces hr (by decide) rfl (pa_cons (pv 0) (pa_cons (pv 3) pa_nil)))))))) (pss_one (ps_ret (pe_lst (pa_cons (pe_cst L.t.wrong rfl) pa_nil)))) pss_nil)
      (pss_cons (ps_set (i := 4) sc_staying.nd rfl (Or.inl rfl) (pe_cl L.stay hr (by decide) rfl (pa_cons (pe_fld (pv 0) rfl) (pa_cons (pv 3) (pa_cons (pv 2) pa_nil)))))
      (pss_one (ps_ret (pe_op op_cat (pe_lst (pa_cons (pe_callB (cr_sum rfl) (by rfl) L.b.sum (by decide +kernel) (pa_cons (pv 4) pa_nil)) pa_nil)) (pv 4))))))), ?_⟩
    have hS' := hS
    obtain ⟨la, hG⟩ := hS'
    have hG' := hG
    obtain ⟨⟨dx, hg⟩, hm⟩ := hG'
    have n2 := G.n2
    have hmA : MatAt H la (mat (A g) (List.range g.length)) := G.mat ▸ hm
    have st0 : Sr60.step (some g) (.staying k0 s1') = (some g, if k0 < 0 ∨ 12 < k0 ∨ Sr60.okSet g s1' = false then Sr60.say (-22) else ⟨(Sr60.staying g (Sr60.num s1') k0.toNat : Int), Sr60.n2i (Sr60.stays g (Sr60.num s1') k0.toNat)⟩) := rfl
    refine ⟨_, rfl, va, _, 0, _, rfl, rfl, SqL.of hv, at_of (j := 0) rfl rfl, ?_⟩
    refine ⟨_, rfl, va, _, 1, _, rfl, rfl, SqL.of hv, at_of (j := 1) rfl rfl, ?_⟩
    have len : (stM (some g)).length = g.length := ints_len g
    have bad : (k0 < 0 ∨ 12 < k0 ∨ Sr60.okSet g s1' = false) → ∀ H2, Same H H2 → ∀ p, H2 p = none → Q (.ref p) (upd H2 p (.lst [.int (-22)])) := fun c H2 s2 p hp => k _ p (Post.ret1 hS (st_ok G) s2 hp (by rw [st0, if_pos c]))
    refine ⟨_, rfl, k0, rfl, _, rfl, ite2 (fun c => iteT ⟨(by show 1 ≤ sizeLine; decide), bad ?_ H (Same.refl _)⟩) (fun c => ?_)⟩
    · have := stepsF_false (show stepsF k0 = false by simpa using c)
      omega
    have c' := stepsF_true (show stepsF k0 = true by simpa using c)
    refine ⟨_, rfl, _, rfl, ga, la, b1, _, s1', rfl, hG, hb1, l1, fun H1 s1 => ⟨_, rfl, ?_⟩⟩
    rw [len, okF_ok]
    refine ite2 (fun d => ⟨(by show 1 ≤ sizeLine; decide), bad (.inr (.inr (by simpa using d))) H1 s1⟩) (fun d => ?_)
    have d' : Sr60.okSet g s1' = true := by simpa using d
    rw [if_neg (by rw [d']; rintro (h | h | h); omega; omega; cases h)] at st0
    obtain ⟨us, ru⟩ := row_of d'
    have hb1' : IntsAt H b1 (toI us) := ru.eq ▸ hb1
    obtain ⟨m, rfl⟩ : ∃ m : Nat, k0 = (m : Int) := ⟨k0.toNat, by omega⟩
    rw [Int.toNat_natCast] at st0
    refine ⟨_, rfl, ga, C, dx, _, _, rfl, s1 _ _ hg, L.c.cl, L.c.nL, lkL la, _, rfl, _, rfl, la, b1, g.length, m, A g, us, rfl, hmA.same s1, hb1'.same s1, by omega, by omega, G.grF.in64, fun H2 r s2 I2 => ?_⟩
    have s12 := s1.trans s2
    refine ⟨_, rfl, r, _, rfl, SqL.of I2, (by show 1 ≤ sizeLine; decide), fun t ht => ?_⟩
    have st : Same H2 (upd H2 t (.lst [.int ((List.range g.length).map (stF g.length (A g) us m)).sum])) := same_upd (Same.refl _) ht
    refine ⟨_, rfl, t, r, _, _, rfl, rfl, upd_same, st _ _ I2, ?_, fun p hp => k _ p (Post.ret (x := ((List.range g.length).map (stF g.length (A g) us m)).sum) (xs := (List.range g.length).map (stF g.length (A g) us m)) hS (st_ok G) (s12.trans st) hp ?_)⟩
    · have sl : 1000 ≤ sizeLine := by decide
      simp
      omega
    · rw [st0]
      unfold Sr60.staying
      rw [n2i_sum, stays_S ru m]
end
end Sw
namespace Sw
open PySem PySem.Spec PyProof.Rows L2
theorem lt_len : ∀ (n : Nat) (us : List Nat), us.Pairwise (· < ·) → (∀ u ∈ us, u < n) → us.length ≤ n := fun n us h1 h2 => by
  have e := sorted_filter n us h1 h2
  have := List.length_filter_le (fun i => us.contains i) (List.range n)
  rw [e, List.length_range] at this
  exact this
theorem pow_in {x b : Int} (h0 : 0 ≤ x) (h : x ≤ b) : ∀ k : Nat, 0 ≤ x ^ k ∧ x ^ k ≤ b ^ k
  | 0 => by
    rw [Int.pow_zero, Int.pow_zero]
    decide
  | k + 1 => by
    have ih := pow_in h0 h k
    rw [Int.pow_succ, Int.pow_succ]
    exact mul_in ih ⟨h0, h⟩
theorem pow_mono12 {b : Int} (hb : 1 ≤ b) : ∀ (k m : Nat), k ≤ m → b ^ k ≤ b ^ m := by
  intro k m h
  induction m with
  | zero =>
    have : k = 0 := by omega
    rw [this]
    exact Int.le_refl _
  | succ m ih =>
    by_cases c : k ≤ m
    · have h1 := ih c
      have h2 : 0 ≤ b ^ m := (pow_in (x := b) (b := b) (by omega) (Int.le_refl _) m).1
      rw [Int.pow_succ]
      have h3 := Int.mul_le_mul_of_nonneg_left hb h2
      omega
    · have : k = m + 1 := by omega
      rw [this]
      exact Int.le_refl _
theorem pow_lid {x b : Int} {k m : Nat} (h0 : 0 ≤ x) (h : x ≤ b) (hb : 1 ≤ b) (hk : k ≤ m) : 0 ≤ x ^ k ∧ x ^ k ≤ b ^ m := by
  have h1 := pow_in h0 h k
  have h2 := pow_mono12 hb k m hk
  exact ⟨h1.1, by omega⟩
section
variable {P : Program} {w : World} {K : PySem.W.Frag} {mg : Str → Option Value} {base : Heap} {C : Addr}
/-! bound(graph, given) -/
def rdBound : Hp → List V → Sr60.Call → Prop := fun H xs c => ∃ (b1 : Addr) (k p q : Int) (s : List Int), xs = [.int k, .int p, .int q, .ref b1] ∧ IntsAt H b1 s ∧ s.length ≤ 1000 ∧ c = .bound k p q s
theorem sc_bound : FnScope ["graph", "given", "k", "p", "q", "places", "d", "n", "b", "spread"] ["graph", "given"] (defScope (top 56)) := ⟨rfl, rfl, rfl, by decide +kernel, rfl, by decide +kernel, by decide +kernel⟩
theorem cl_bound (L : Lib P w K mg base C) (D : Df K mg "bound" 56 ["graph", "given"]) : Cl P w K mg base 10 "bound" (spC C rdBound) := by
  refine D.cl sc_bound (fun vs H Q E h => ?_) (fun f cdv A0 outer s H vs Q E hr h => ?_)
  · obtain ⟨ga, va, g, xs, c, rfl, _⟩ := h
    rfl
  · obtain ⟨ga, va, g, xs, c, rfl, hS, G, hv, ⟨b1, k0, p0, q0, s1', rfl, hb1, l1, rfl⟩, k⟩ := h
    refine ⟨_, pss_cons (ps_set (i := 2) sc_bound.nd rfl (Or.inl rfl) (pe_ix ix_list (pv 1) pe_int (fun _ _ => rfl)))
      (pss_cons (ps_set (i := 3) sc_bound.nd rfl (Or.inl rfl) (pe_ix ix_list (pv 1) pe_int (fun _ _ => rfl)))
      (pss_cons (ps_set (i := 4) sc_bound.nd rfl (Or.inl rfl) (pe_ix ix_list (pv 1) pe_int (fun _ _ => rfl)))
      (pss_cons (ps_set (i := 5) sc_bound.nd rfl (Or.inl rfl) (pe_ix ix_list (pv 1) pe_int (fun _ _ => rfl)))
      (pss_cons (ps_if (PW.pt (pw_or (pt_not (pt_val (pe_cl L.steps hr (by decide) rfl (pa_cons (pv 2) pa_nil)))) (pw_or (pt_not (pt_val (pe_cl L.shares hr (by decide) rfl (pa_cons (pv 3) (pa_cons (pv 4) pa_nil))))) (pw_or1 (pt_not (pt_val (pe_cl L.arePlaces hr (by decide) rfl (pa_cons (pv 0) (pa_cons (pv 5) pa_nil))))))))) (pss_one (ps_ret (pe_lst (pa_cons (pe_cst L.t.wrong rfl) pa_nil)))) pss_nil)
      (pss_cons (ps_set (i := 6) sc_bound.nd rfl (Or.inl rfl) (pe_cl L.common hr (by decide) rfl (pa_cons (pe_fld (pv 0) rfl) pa_nil)))
      (pss_cons (ps_if (pt_cmpR op_eq (pv 6) pe_int (nomark _)) (pss_one (ps_ret (pe_lst (pa_cons (pe_cst L.t.notEven rfl) pa_nil)))) pss_nil)
      (pss_cons (ps_set (i := 7) sc_bound.nd rfl (Or.inl rfl) (pe_callB call_len_seq (by rfl) L.b.len boot_len (pa_cons (pe_fld (pv 0) rfl) pa_nil)))
      (pss_cons (ps_set (i := 8) sc_bound.nd rfl (Or.inl rfl) (pe_callB call_len_seq (by rfl) L.b.len boot_len (pa_cons (pv 5) pa_nil)))
      (pss_cons (ps_set (i := 9) sc_bound.nd rfl (Or.inl rfl) (pe_ifExp (pt_val (pe_cl L.spreadsBy hr (by decide) rfl (pa_cons (pe_fld (pv 0) rfl) (pa_cons (pv 3) (pa_cons (pv 4) pa_nil))))) pe_int pe_int))
      (pss_one (ps_ret (pe_lst (pa_cons (pv 9) (pa_cons (pe_op op_mul (pe_op op_mul (pe_cl L.raised hr (by decide) rfl (pa_cons (pv 6) (pa_cons (pv 2) pa_nil))) (pv 8)) (pe_cl L.raised hr (by decide) rfl (pa_cons (pe_op op_add (pe_op op_mul (pv 8) (pv 4)) (pe_op op_mul (pv 3) (pe_op op_sub (pv 7) (pv 8)))) (pa_cons (pv 2) pa_nil))))
        (pa_cons (pe_cl L.raised hr (by decide) rfl (pa_cons (pe_op op_mul (pv 7) (pv 4)) (pa_cons (pv 2) pa_nil))) pa_nil))))))))))))))), ?_⟩
    have hS' := hS
    obtain ⟨la, hG⟩ := hS'
    have hG' := hG
    obtain ⟨⟨dx, hg⟩, hm⟩ := hG'
    have n2 := G.n2
    have n1 := G.n1
    have hmA : MatAt H la (mat (A g) (List.range g.length)) := G.mat ▸ hm
    have st0 : Sr60.step (some g) (.bound k0 p0 q0 s1') = (some g, if k0 < 0 ∨ 12 < k0 ∨ Sr60.okPQ p0 q0 = false ∨ Sr60.okSet g s1' = false then Sr60.say (-22) else match Sr60.even g with | none => Sr60.say (-33) | some d => ⟨Sr60.bit (Sr60.spreads g p0.toNat q0.toNat), [(Sr60.boundUp (Sr60.size g) d (Sr60.members g (Sr60.num s1')).length k0.toNat p0.toNat q0.toNat : Int), (Sr60.boundDown (Sr60.size g) k0.toNat q0.toNat : Int)]⟩) := rfl
    refine ⟨_, rfl, va, _, 0, _, rfl, rfl, SqL.of hv, at_of (j := 0) rfl rfl, ?_⟩
    refine ⟨_, rfl, va, _, 1, _, rfl, rfl, SqL.of hv, at_of (j := 1) rfl rfl, ?_⟩
    refine ⟨_, rfl, va, _, 2, _, rfl, rfl, SqL.of hv, at_of (j := 2) rfl rfl, ?_⟩
    refine ⟨_, rfl, va, _, 3, _, rfl, rfl, SqL.of hv, at_of (j := 3) rfl rfl, ?_⟩
    have len : (stM (some g)).length = g.length := ints_len g
    have bad : (k0 < 0 ∨ 12 < k0 ∨ Sr60.okPQ p0 q0 = false ∨ Sr60.okSet g s1' = false) → ∀ H2, Same H H2 → ∀ p, H2 p = none → Q (.ref p) (upd H2 p (.lst [.int (-22)])) := fun c H2 s2 p hp => k _ p (Post.ret1 hS (st_ok G) s2 hp (by rw [st0, if_pos c]))
    refine ⟨_, rfl, k0, rfl, _, rfl, ite2 (fun c => iteT ⟨(by show 1 ≤ sizeLine; decide), bad ?_ H (Same.refl _)⟩) (fun c => ?_)⟩
    · have := stepsF_false (show stepsF k0 = false by simpa using c)
      omega
    have c' := stepsF_true (show stepsF k0 = true by simpa using c)
    refine ⟨_, rfl, _, rfl, p0, q0, rfl, _, rfl, ?_⟩
    rw [shF_ok]
    refine ite2 (fun c2 => iteT ⟨(by show 1 ≤ sizeLine; decide), bad (.inr (.inr (.inl (by simpa using c2)))) H (Same.refl _)⟩) (fun c2 => ?_)
    have c2' : Sr60.okPQ p0 q0 = true := by simpa using c2
    refine ⟨_, rfl, _, rfl, ga, la, b1, _, s1', rfl, hG, hb1, l1, fun H1 s1 => ⟨_, rfl, ?_⟩⟩
    rw [len, okF_ok]
    refine ite2 (fun d => ⟨(by show 1 ≤ sizeLine; decide), bad (.inr (.inr (.inr (by simpa using d)))) H1 s1⟩) (fun d => ?_)
    have d' : Sr60.okSet g s1' = true := by simpa using d
    rw [if_neg (by rw [d', c2']; rintro (h | h | h | h); omega; omega; cases h; cases h)] at st0
    obtain ⟨us, ru⟩ := row_of d'
    have hb1' : IntsAt H b1 (toI us) := ru.eq ▸ hb1
    have lu := lt_len g.length us ru.lt ru.inside
    have bq := okPQ_of c2'
    refine ⟨_, rfl, ga, C, dx, _, _, rfl, s1 _ _ hg, L.c.cl, L.c.nL, lkL la, la, g.length, A g, rfl, hmA.same s1, n1, by omega, fun H2 s2 => ?_⟩
    have s12 := s1.trans s2
    rw [even_cd]
    refine ⟨_, rfl, rfl, _, rfl, ite2 (fun z => ?_) (fun z => ?_)⟩
    · have z' := evI_none.mp (V.int.inj (of_decide_eq_true z))
      rw [z'] at st0
      exact ⟨(by show 1 ≤ sizeLine; decide), fun p hp => k _ p (Post.ret1 hS (st_ok G) s12 hp (by rw [st0]))⟩
    · have z' : ¬ evI g = 0 := fun y => z (decide_eq_true (congrArg V.int y))
      cases e : Sr60.even g with
      | none => exact absurd (evI_none.mpr e) z'
      | some dd =>
        rw [e, ru.members] at st0
        have ev := evI_some e
        have d12 := G.grF.cd
        rw [even_cd, ev] at d12
        obtain ⟨as, ha, ln⟩ := hmA.len
        rw [mat_len, List.length_range] at ln
        obtain ⟨kk, rfl⟩ : ∃ m : Nat, k0 = (m : Int) := ⟨k0.toNat, by omega⟩
        obtain ⟨pp, rfl⟩ : ∃ m : Nat, p0 = (m : Int) := ⟨p0.toNat, by omega⟩
        obtain ⟨qq, rfl⟩ : ∃ m : Nat, q0 = (m : Int) := ⟨q0.toNat, by omega⟩
        rw [Int.toNat_natCast, Int.toNat_natCast, Int.toNat_natCast] at st0
        refine ⟨_, rfl, ga, C, dx, _, _, rfl, s12 _ _ hg, L.c.cl, L.c.nL, lkL la, la, _, rfl, .inl (SqL.of (s12 _ _ ha)), ?_⟩
        refine ⟨_, rfl, b1, _, rfl, .inl (SqL.of (s12 _ _ hb1')), ?_⟩
        rw [List.length_map, ln, toI_len, ev]
        have fin2 : ∀ H3, Same H H3 → ∀ b : Bool, b = Sr60.spreads g pp qq → ∀ σ : L2.St, σ = [some (.ref ga), some (.ref va), some (.int (kk : Int)), some (.int (pp : Int)), some (.int (qq : Int)), some (.ref b1), some (.int (dd : Int)), some (.int (g.length : Int)), some (.int (us.length : Int)), some (.int (Sr60.bit b))] →
            tRet (tLst (tCons (tVar 9) (tCons (tOp rMulI (tOp rMulI (tCl spRaised (tCons (tVar 6) (tCons (tVar 2) tNil))) (tVar 8)) (tCl spRaised (tCons (tOp (rI0 fun i j => .int (i + j)) (tOp rMulI (tVar 8) (tVar 4)) (tOp rMulI (tVar 3) (tOp rSubI (tVar 7) (tVar 8)))) (tCons (tVar 2) tNil)))) (tCons (tCl spRaised (tCons (tOp rMulI (tVar 7) (tVar 4)) (tCons (tVar 2) tNil))) tNil)))) { nx := fun _ H' => Q .non H', rt := Q } σ H3 := by
          rintro H3 s3 b rfl σ rfl
          have dk := pow_lid (k := kk) (m := 12) d12.1 d12.2 (by decide) (by omega)
          have ub : 0 ≤ (us.length : Int) ∧ (us.length : Int) ≤ 10 := ⟨by omega, by omega⟩
          have dku := mul_in dk ub
          have qb : 0 ≤ (qq : Int) ∧ (qq : Int) ≤ 100 := ⟨by omega, by omega⟩
          have pb : 0 ≤ (pp : Int) ∧ (pp : Int) ≤ 100 := ⟨by omega, by omega⟩
          have nb : 0 ≤ (g.length : Int) ∧ (g.length : Int) ≤ 10 := ⟨by omega, by omega⟩
          have nu : 0 ≤ (g.length : Int) - (us.length : Int) ∧ (g.length : Int) - (us.length : Int) ≤ 10 := ⟨by omega, by omega⟩
          have uq := mul_in ub qb
          have pn := mul_in pb nu
          have nq := mul_in nb qb
          refine ⟨_, rfl, _, rfl, _, rfl, (dd : Int), kk, rfl, by omega, by omega, by omega, fun H4 s4 => ?_⟩
          refine ⟨_, rfl, _, _, rfl, rfl, in_l dk (by decide), ?_⟩
          refine ⟨_, rfl, _, rfl, _, _, rfl, rfl, in_l ub (by decide), _, rfl, _, rfl, _, rfl, _, _, rfl, rfl, _, _, rfl, rfl, in_l pb (by decide), _, _, rfl, rfl, _, rfl, _, kk, rfl, by omega, by omega, by omega, fun H5 s5 => ?_⟩
          refine ⟨_, _, rfl, rfl, in_l dku (by decide), ?_⟩
          refine ⟨_, rfl, _, rfl, _, _, rfl, rfl, in_l nb (by decide), _, rfl, _, kk, rfl, by omega, by omega, by omega, fun H6 s6 => ⟨(by show 3 ≤ sizeLine; decide), fun p hp => ?_⟩⟩
          refine k _ p (Post.ret (x := Sr60.bit (Sr60.spreads g pp qq)) (xs := [_, _]) hS (st_ok G) (s3.trans (s4.trans (s5.trans s6))) hp ?_)
          rw [st0]
          have e1 : ((Sr60.boundUp (Sr60.size g) dd us.length kk pp qq : Nat) : Int) = (dd : Int) ^ kk * (us.length : Int) * ((us.length : Int) * (qq : Int) + (pp : Int) * ((g.length : Int) - (us.length : Int))) ^ kk := by
            unfold Sr60.boundUp
            rw [Int.natCast_mul, Int.natCast_mul, Int.natCast_pow, Int.natCast_pow, Int.natCast_add, Int.natCast_mul, Int.natCast_mul, Int.natCast_sub (show us.length ≤ Sr60.size g from lu)]
            rfl
          have e2 : ((Sr60.boundDown (Sr60.size g) kk qq : Nat) : Int) = ((g.length : Int) * (qq : Int)) ^ kk := by
            unfold Sr60.boundDown
            rw [Int.natCast_pow, Int.natCast_mul]
            rfl
          show (some g, (⟨Sr60.bit (Sr60.spreads g pp qq), [((Sr60.boundUp (Sr60.size g) dd us.length kk pp qq : Nat) : Int), ((Sr60.boundDown (Sr60.size g) kk qq : Nat) : Int)]⟩ : Sr60.Ans)) = _
          rw [e1, e2]
        refine ⟨_, rfl, ga, C, dx, _, _, rfl, s12 _ _ hg, L.c.cl, L.c.nL, lkL la, _, rfl, _, rfl, la, g.length, A g, (pp : Int), (qq : Int), rfl, hmA.same s12, G.grF, by omega, by omega, by omega, by omega, fun H3 s3 => ⟨_, rfl, ?_⟩⟩
        rw [spB_spec G e]
        refine ite2 (fun y => ?_) (fun y => ?_)
        · refine fin2 H3 (s12.trans s3) true y.symm _ ?_
          rfl
        · refine fin2 H3 (s12.trans s3) false (Bool.eq_false_iff.mpr y).symm _ ?_
          rfl
/-! led_from(graph, given) -/
def rdFrom : Hp → List V → Sr60.Call → Prop := fun _ xs c => ∃ u k : Int, xs = [.int u, .int k] ∧ c = .from_ u k
theorem sc_from : FnScope ["graph", "given", "u", "k"] ["graph", "given"] (defScope (top 57)) := ⟨rfl, rfl, rfl, by decide +kernel, rfl, by decide +kernel, by decide +kernel⟩
theorem cl_from (L : Lib P w K mg base C) (D : Df K mg "led_from" 57 ["graph", "given"]) : Cl P w K mg base 10 "led_from" (spC C rdFrom) := by
  refine D.cl sc_from (fun vs H Q E h => ?_) (fun f cdv A0 outer s H vs Q E hr h => ?_)
  · obtain ⟨ga, va, g, xs, c, rfl, _⟩ := h
    rfl
  · obtain ⟨ga, va, g, xs, c, rfl, hS, G, hv, ⟨u, k0, rfl, rfl⟩, k⟩ := h
    refine ⟨_, pss_cons (ps_set (i := 2) sc_from.nd rfl (Or.inl rfl) (pe_ix ix_list (pv 1) pe_int (fun _ _ => rfl)))
      (pss_cons (ps_set (i := 3) sc_from.nd rfl (Or.inl rfl) (pe_ix ix_list (pv 1) pe_int (fun _ _ => rfl)))
      (pss_cons (ps_if (pt_not (pt_val (pe_cl L.isPlace hr (by decide) rfl (pa_cons (pv 0) (pa_cons (pv 2) pa_nil))))) (pss_one (ps_ret (pe_lst (pa_cons (pe_cst L.t.noPlace rfl) pa_nil)))) pss_nil)
      (pss_cons (ps_if (pt_not (pt_val (pe_cl L.steps hr (by decide) rfl (pa_cons (pv 3) pa_nil)))) (pss_one (ps_ret (pe_lst (pa_cons (pe_cst L.t.wrong rfl) pa_nil)))) pss_nil)
      (pss_one (ps_ret (pe_op op_cat (pe_lst (pa_cons (pe_callB call_len_seq (by rfl) L.b.len boot_len (pa_cons (pe_fld (pv 0) rfl) pa_nil)) pa_nil)) (pe_ix ix_list (pe_cl L.walks hr (by decide) rfl (pa_cons (pe_fld (pv 0) rfl) (pa_cons (pv 3) pa_nil))) (pv 2) (fun _ _ => rfl)))))))), ?_⟩
    have hS' := hS
    obtain ⟨la, hG⟩ := hS'
    have hG' := hG
    obtain ⟨⟨dx, hg⟩, hm⟩ := hG'
    have n2 := G.n2
    have hmA : MatAt H la (mat (A g) (List.range g.length)) := G.mat ▸ hm
    have st0 : Sr60.step (some g) (.from_ u k0) = (some g, if Sr60.isP g u = false then Sr60.say (-2) else if k0 < 0 ∨ 12 < k0 then Sr60.say (-22) else ⟨(Sr60.size g : Int), Sr60.n2i (Sr60.from1 g u.toNat k0.toNat)⟩) := rfl
    refine ⟨_, rfl, va, _, 0, _, rfl, rfl, SqL.of hv, at_of (j := 0) rfl rfl, ?_⟩
    refine ⟨_, rfl, va, _, 1, _, rfl, rfl, SqL.of hv, at_of (j := 1) rfl rfl, ?_⟩
    have len : (stM (some g)).length = g.length := ints_len g
    refine ⟨_, rfl, _, rfl, ga, la, _, u, rfl, hG, _, rfl, ?_⟩
    rw [len, isPl_ok]
    refine ite2 (fun c => ?_) (fun c => ?_)
    · have c' : Sr60.isP g u = false := by simpa using c
      exact ⟨(by show 1 ≤ sizeLine; decide), fun p hp => k _ p (Post.ret1 hS (st_ok G) (Same.refl _) hp (by rw [st0, if_pos c']))⟩
    · have c' : Sr60.isP g u = true := by simpa using c
      obtain ⟨a, rfl, hu, eu⟩ := toNat_cast c'
      rw [if_neg (by rw [c']; exact Bool.noConfusion), eu] at st0
      refine ⟨_, rfl, k0, rfl, _, rfl, ite2 (fun d => ?_) (fun d => ?_)⟩
      · have d' := stepsF_false (show stepsF k0 = false by simpa using d)
        exact ⟨(by show 1 ≤ sizeLine; decide), fun p hp => k _ p (Post.ret1 hS (st_ok G) (Same.refl _) hp (by rw [st0, if_pos d']))⟩
      · have d' := stepsF_true (show stepsF k0 = true by simpa using d)
        obtain ⟨m, rfl⟩ : ∃ m : Nat, k0 = (m : Int) := ⟨k0.toNat, by omega⟩
        rw [if_neg (by omega), Int.toNat_natCast] at st0
        obtain ⟨as, ha, ln⟩ := hmA.len
        rw [mat_len, List.length_range] at ln
        refine ⟨_, rfl, ga, C, dx, _, _, rfl, hg, L.c.cl, L.c.nL, lkL la, la, _, rfl, .inl (SqL.of ha), (by show 1 ≤ sizeLine; decide), fun t ht => ?_⟩
        have st : Same H (upd H t (.lst [.int ((as.map V.ref).length : Nat)])) := same_upd (Same.refl _) ht
        refine ⟨_, rfl, ga, C, dx, _, _, rfl, st _ _ hg, L.c.cl, L.c.nL, lkL la, _, rfl, la, g.length, m, A g, rfl, hmA.same st, by omega, by omega, G.grF.in64, fun H1 lb s1 N1 => ?_⟩
        obtain ⟨bs, hb, hB⟩ := N1.mat
        obtain ⟨r, hr1, hr2⟩ := hB.get (mat_get hu)
        refine ⟨_, rfl, lb, _, (a : Int), .ref r, rfl, rfl, SqL.of hb, ref_at hr1 rfl, t, r, _, _, rfl, rfl, s1 _ _ upd_same, hr2, ?_, fun p hp => ?_⟩
        · have sl : 1000 ≤ sizeLine := by decide
          simp
          omega
        · rw [List.length_map, ln]
          refine k _ p (Post.ret (x := (g.length : Int)) (xs := (List.range g.length).map (W g.length (A g) m a)) hS (st_ok G) (st.trans s1) hp ?_)
          rw [st0, from_W hu]
          rfl
/-! uneven(graph, given) -/
def rdUneven : Hp → List V → Sr60.Call → Prop := fun _ xs c => ∃ u k p q : Int, xs = [.int u, .int k, .int p, .int q] ∧ c = .uneven u k p q
theorem sc_uneven : FnScope ["graph", "given", "u", "k", "p", "q", "d", "n", "off", "squares", "most", "count"] ["graph", "given"] (defScope (top 58)) := ⟨rfl, rfl, rfl, by decide +kernel, rfl, by decide +kernel, by decide +kernel⟩
theorem bits_of {x b : Int} {n : Nat} (h : 0 ≤ x ∧ x ≤ b) (hb : b < 2 ^ n) : x.natAbs < 2 ^ n := by
  have e : ((2 ^ n : Nat) : Int) = (2 : Int) ^ n := Int.natCast_pow 2 n
  omega
theorem cl_uneven (L : Lib P w K mg base C) (D : Df K mg "uneven" 58 ["graph", "given"]) : Cl P w K mg base 10 "uneven" (spC C rdUneven) := by
  refine D.cl sc_uneven (fun vs H Q E h => ?_) (fun f cdv A0 outer s H vs Q E hr h => ?_)
  · obtain ⟨ga, va, g, xs, c, rfl, _⟩ := h
    rfl
  · obtain ⟨ga, va, g, xs, c, rfl, hS, G, hv, ⟨u, k0, p0, q0, rfl, rfl⟩, k⟩ := h
    refine ⟨_, pss_cons (ps_set (i := 2) sc_uneven.nd rfl (Or.inl rfl) (pe_ix ix_list (pv 1) pe_int (fun _ _ => rfl)))
      (pss_cons (ps_set (i := 3) sc_uneven.nd rfl (Or.inr rfl) (pe_ix ix_list (pv 1) pe_int (fun _ _ => rfl)))
      (pss_cons (ps_set (i := 4) sc_uneven.nd rfl (Or.inl rfl) (pe_ix ix_list (pv 1) pe_int (fun _ _ => rfl)))
      (pss_cons (ps_set (i := 5) sc_uneven.nd rfl (Or.inl rfl) (pe_ix ix_list (pv 1) pe_int (fun _ _ => rfl)))
      (pss_cons (ps_if (pt_not (pt_val (pe_cl L.isPlace hr (by decide) rfl (pa_cons (pv 0) (pa_cons (pv 2) pa_nil))))) (pss_one (ps_ret (pe_lst (pa_cons (pe_cst L.t.noPlace rfl) pa_nil)))) pss_nil)
      (pss_cons (ps_if (PW.pt (pw_or (pt_not (pt_val (pe_cl L.steps hr (by decide) rfl (pa_cons (pv 3) pa_nil)))) (pw_or1 (pt_not (pt_val (pe_cl L.shares hr (by decide) rfl (pa_cons (pv 4) (pa_cons (pv 5) pa_nil)))))))) (pss_one (ps_ret (pe_lst (pa_cons (pe_cst L.t.wrong rfl) pa_nil)))) pss_nil)
      (pss_cons (ps_set (i := 6) sc_uneven.nd rfl (Or.inr rfl) (pe_cl L.common hr (by decide) rfl (pa_cons (pe_fld (pv 0) rfl) pa_nil)))
      (pss_cons (ps_if (pt_cmpR op_eq (pv 6) pe_int (nomark _)) (pss_one (ps_ret (pe_lst (pa_cons (pe_cst L.t.notEven rfl) pa_nil)))) pss_nil)
      (pss_cons (ps_set (i := 7) sc_uneven.nd rfl (Or.inr rfl) (pe_callB call_len_seq (by rfl) L.b.len boot_len (pa_cons (pe_fld (pv 0) rfl) pa_nil)))
      (pss_cons (ps_setLc (i := 8) (own := [("count", 11)]) (g := gName 11) (tt := tYes) (te := tOp rSubI (tOp rMulI (tVar 7) (tVar 11)) (tCl spRaised (tCons (tVar 6) (tCons (tVar 3) tNil)))) (by rfl) sc_uneven.nd rfl rfl (sw_true rfl rfl rfl (by decide +kernel))
        (pi_list (pe_ix ix_list (pe_cl L.walks hr (by decide) rfl (pa_cons (pe_fld (pv 0) rfl) (pa_cons (pv 3) pa_nil))) (pv 2) (fun _ _ => rfl))) (blkOk_by (N := ["graph", "given", "u", "k", "p", "q", "d", "n", "off", "squares", "most", "count"]) (sc := defScope (top 58)) (by decide +kernel))
        (fun _ _ _ _ _ => pg_name (i := 11) sc_uneven.nd rfl (Or.inl rfl)) (fun _ _ _ _ _ => pts_nil) (fun _ _ _ _ _ => pe_op op_sub (pe_op op_mul (pv 7) (pv 11)) (pe_cl L.raised hr (by decide) rfl (pa_cons (pv 6) (pa_cons (pv 3) pa_nil)))))
      (pss_cons (ps_set (i := 9) sc_uneven.nd rfl (Or.inl rfl) (pe_cl L.dot hr (by decide) rfl (pa_cons (pv 8) (pa_cons (pv 8) pa_nil))))
      (pss_cons (ps_set (i := 10) sc_uneven.nd rfl (Or.inl rfl) (pe_op op_mul (pe_op op_mul (pe_op op_mulW (pe_cl L.raised hr (by decide) rfl (pa_cons (pv 4) (pa_cons (pe_op op_mul pe_int (pv 3)) pa_nil))) (pe_cl L.raised hr (by decide) rfl (pa_cons (pv 6) (pa_cons (pe_op op_mul pe_int (pv 3)) pa_nil)))) (pv 7)) (pe_op op_sub (pv 7) pe_int)))
      (pss_one (ps_ret (pe_lst (pa_cons (pe_ifExp (pt_cmpR op_le (pe_op op_mulW (pv 9) (pe_cl L.raised hr (by decide) rfl (pa_cons (pv 5) (pa_cons (pe_op op_mul pe_int (pv 3)) pa_nil)))) (pv 10) (nomark _)) pe_int pe_int) (pa_cons (pv 9) pa_nil)))))))))))))))), ?_⟩
    have hS' := hS
    obtain ⟨la, hG⟩ := hS'
    have hG' := hG
    obtain ⟨⟨dx, hg⟩, hm⟩ := hG'
    have n2 := G.n2
    have n1 := G.n1
    have hmA : MatAt H la (mat (A g) (List.range g.length)) := G.mat ▸ hm
    have st0 : Sr60.step (some g) (.uneven u k0 p0 q0) = (some g, if Sr60.isP g u = false then Sr60.say (-2) else if k0 < 0 ∨ 12 < k0 ∨ Sr60.okPQ p0 q0 = false then Sr60.say (-22) else match Sr60.even g with | none => Sr60.say (-33) | some d => ⟨Sr60.bit (decide (Sr60.uneven g d u.toNat k0.toNat * q0.toNat ^ (2 * k0.toNat) ≤ p0.toNat ^ (2 * k0.toNat) * d ^ (2 * k0.toNat) * Sr60.size g * (Sr60.size g - 1))), [(Sr60.uneven g d u.toNat k0.toNat : Int)]⟩) := rfl
    refine ⟨_, rfl, va, _, 0, _, rfl, rfl, SqL.of hv, at_of (j := 0) rfl rfl, ?_⟩
    refine ⟨_, rfl, va, _, 1, _, rfl, rfl, SqL.of hv, at_of (j := 1) rfl rfl, ?_⟩
    refine ⟨_, rfl, va, _, 2, _, rfl, rfl, SqL.of hv, at_of (j := 2) rfl rfl, ?_⟩
    refine ⟨_, rfl, va, _, 3, _, rfl, rfl, SqL.of hv, at_of (j := 3) rfl rfl, ?_⟩
    have len : (stM (some g)).length = g.length := ints_len g
    refine ⟨_, rfl, _, rfl, ga, la, _, u, rfl, hG, _, rfl, ?_⟩
    rw [len, isPl_ok]
    refine ite2 (fun c => ?_) (fun c => ?_)
    · have c' : Sr60.isP g u = false := by simpa using c
      exact ⟨(by show 1 ≤ sizeLine; decide), fun p hp => k _ p (Post.ret1 hS (st_ok G) (Same.refl _) hp (by rw [st0, if_pos c']))⟩
    have c' : Sr60.isP g u = true := by simpa using c
    obtain ⟨a, rfl, hu, eu⟩ := toNat_cast c'
    rw [if_neg (by rw [c']; exact Bool.noConfusion), eu] at st0
    have bad : (k0 < 0 ∨ 12 < k0 ∨ Sr60.okPQ p0 q0 = false) → ∀ p, H p = none → Q (.ref p) (upd H p (.lst [.int (-22)])) := fun c p hp => k _ p (Post.ret1 hS (st_ok G) (Same.refl _) hp (by rw [st0, if_pos c]))
    refine ⟨_, rfl, k0, rfl, _, rfl, ite2 (fun d => iteT ⟨(by show 1 ≤ sizeLine; decide), bad ?_⟩) (fun d => ?_)⟩
    · have := stepsF_false (show stepsF k0 = false by simpa using d)
      omega
    have d' := stepsF_true (show stepsF k0 = true by simpa using d)
    refine ⟨_, rfl, _, rfl, p0, q0, rfl, _, rfl, ?_⟩
    rw [shF_ok]
    refine ite2 (fun c2 => ⟨(by show 1 ≤ sizeLine; decide), bad (.inr (.inr (by simpa using c2)))⟩) (fun c2 => ?_)
    have c2' : Sr60.okPQ p0 q0 = true := by simpa using c2
    rw [if_neg (by rw [c2']; rintro (h | h | h); omega; omega; cases h)] at st0
    have bq := okPQ_of c2'
    refine ⟨_, rfl, ga, C, dx, _, _, rfl, hg, L.c.cl, L.c.nL, lkL la, la, g.length, A g, rfl, hmA, n1, by omega, fun H1 s1 => ?_⟩
    rw [even_cd]
    refine ⟨_, rfl, rfl, _, rfl, ite2 (fun z => ?_) (fun z => ?_)⟩
    · have z' := evI_none.mp (V.int.inj (of_decide_eq_true z))
      rw [z'] at st0
      exact ⟨(by show 1 ≤ sizeLine; decide), fun p hp => k _ p (Post.ret1 hS (st_ok G) s1 hp (by rw [st0]))⟩
    have z' : ¬ evI g = 0 := fun y => z (decide_eq_true (congrArg V.int y))
    cases e : Sr60.even g with
    | none => exact absurd (evI_none.mpr e) z'
    | some dd =>
      rw [e] at st0
      have ev := evI_some e
      have d12 := G.grF.cd
      rw [even_cd, ev] at d12
      obtain ⟨as, ha, ln⟩ := hmA.len
      rw [mat_len, List.length_range] at ln
      obtain ⟨kk, rfl⟩ : ∃ m : Nat, k0 = (m : Int) := ⟨k0.toNat, by omega⟩
      obtain ⟨pp, rfl⟩ : ∃ m : Nat, p0 = (m : Int) := ⟨p0.toNat, by omega⟩
      obtain ⟨qq, rfl⟩ : ∃ m : Nat, q0 = (m : Int) := ⟨q0.toNat, by omega⟩
      rw [Int.toNat_natCast, Int.toNat_natCast, Int.toNat_natCast] at st0
      rw [ev]
      refine ⟨_, rfl, ga, C, dx, _, _, rfl, s1 _ _ hg, L.c.cl, L.c.nL, lkL la, la, _, rfl, .inl (SqL.of (s1 _ _ ha)), ?_⟩
      rw [List.length_map, ln]
      have dk := pow_lid (k := kk) (m := 12) d12.1 d12.2 (by decide) (by omega)
      have qb : 0 ≤ (qq : Int) ∧ (qq : Int) ≤ 100 := ⟨by omega, by omega⟩
      have pb : 0 ≤ (pp : Int) ∧ (pp : Int) ≤ 100 := ⟨by omega, by omega⟩
      have nb : 0 ≤ (g.length : Int) ∧ (g.length : Int) ≤ 10 := ⟨by omega, by omega⟩
      have gr := G.grF
      have wb : ∀ v, v < g.length → 0 ≤ W g.length (A g) kk a v ∧ W g.length (A g) kk a v ≤ 12 ^ 12 := fun v hv' => by
        refine ⟨W_nonneg gr.nn kk a v, ?_⟩
        have h1 := W_le (d := 12) gr.nn (by decide) gr.dg kk hu hv'
        have h2 := pow_mono12 (b := 12) (by decide) kk 12 (by omega)
        omega
      refine ⟨_, rfl, ga, C, dx, _, _, rfl, s1 _ _ hg, L.c.cl, L.c.nL, lkL la, _, rfl, la, g.length, kk, A g, rfl, hmA.same s1, by omega, by omega, gr.in64, fun H2 lb s2 N2 => ?_⟩
      obtain ⟨bs, hb, hB⟩ := N2.mat
      obtain ⟨r, hr1, hr2⟩ := hB.get (mat_get hu)
      refine ⟨_, rfl, lb, _, (a : Int), .ref r, rfl, rfl, SqL.of hb, ref_at hr1 rfl, r, rfl, ⟨_, SqL.of hr2⟩, fun O hO => lc_list (K := K) (a := r) (xs := ((List.range g.length).map (W g.length (A g) kk a)).map V.int) (Fill H2 O fun v => V.int ((g.length : Int) * W g.length (A g) kk a v - (dd : Int) ^ kk)) (Fill.start hO) (fun v H3 _ p3 => SqL.of (p3.same _ _ hr2)) (fun v y H3 hy p3 => ?_) (fun H3 p3 => ?_)⟩
      · obtain ⟨x, hx, rfl⟩ := ints_get hy
        have hvn : v < g.length := by
          have := (List.getElem?_eq_some_iff.mp hx).1
          simpa using this
        rw [List.getElem?_map, List.getElem?_range hvn] at hx
        obtain rfl := Option.some.inj hx
        refine ⟨rfl, yesT ⟨_, rfl, _, rfl, _, _, rfl, rfl, in_l nb (by decide), _, rfl, _, rfl, (dd : Int), kk, rfl, by omega, by omega, by omega, fun H4 s4 => ⟨_, _, rfl, rfl, ?_⟩⟩⟩
        exact Fill.step hO p3 s4 (small1000 (by omega)) _ rfl
      · have z3 := fill_ints p3
        rw [List.length_map, List.length_map, List.length_range] at z3
        have s13 := s1.trans (s2.trans p3.same)
        have offb : ∀ v, v < g.length → -(2 ^ 64) < (g.length : Int) * W g.length (A g) kk a v - (dd : Int) ^ kk ∧ (g.length : Int) * W g.length (A g) kk a v - (dd : Int) ^ kk < 2 ^ 64 := fun v hv' => by
          have h1 := mul_in nb (wb v hv')
          omega
        refine ⟨_, rfl, _, rfl, O, O, _, _, rfl, z3, z3, rfl, by simp; omega, ?_, fun H4 s4 => ?_⟩
        · intro i x y h1 h2
          have hi : i < g.length := by
            have := (List.getElem?_eq_some_iff.mp h1).1
            simpa using this
          rw [List.getElem?_map, List.getElem?_range hi] at h1
          obtain rfl := Option.some.inj h1
          exact .inl (offb i hi)
        have s14 := s13.trans s4
        rw [zip_maps, ← uneven_S hu]
        have sq : 0 ≤ ((Sr60.uneven g dd a kk : Nat) : Int) ∧ ((Sr60.uneven g dd a kk : Nat) : Int) ≤ 10 * (2 ^ 64 * 2 ^ 64) := by
          refine ⟨by omega, ?_⟩
          rw [uneven_S hu]
          have h1 : S (List.range g.length) (fun v => ((g.length : Int) * W g.length (A g) kk a v - (dd : Int) ^ kk) * ((g.length : Int) * W g.length (A g) kk a v - (dd : Int) ^ kk)) ≤ S (List.range g.length) fun _ => 2 ^ 64 * 2 ^ 64 := S_le fun v hv' => by
            have h := offb v (List.mem_range.mp hv')
            by_cases c : 0 ≤ (g.length : Int) * W g.length (A g) kk a v - (dd : Int) ^ kk
            · exact (sq_le c (Int.le_of_lt h.2)).2
            · have h' := (sq_le (x := -((g.length : Int) * W g.length (A g) kk a v - (dd : Int) ^ kk)) (b := 2 ^ 64) (by omega) (by omega)).2
              rw [Int.neg_mul_neg] at h'
              exact h'
          have h2 : ∀ l : List Nat, S l (fun _ => (2 : Int) ^ 64 * 2 ^ 64) = (l.length : Int) * (2 ^ 64 * 2 ^ 64) := fun l => by
            induction l with
            | nil => simp [S_nil]
            | cons x r ih =>
              rw [S_cons, ih, List.length_cons, Int.natCast_add]
              omega
          rw [h2, List.length_range] at h1
          have h3 : (g.length : Int) * (2 ^ 64 * 2 ^ 64) ≤ 10 * (2 ^ 64 * 2 ^ 64) := Int.mul_le_mul_of_nonneg_right nb.2 (by decide)
          omega
        have pk := pow_lid (k := 2 * kk) (m := 24) pb.1 pb.2 (by decide) (by omega)
        have qk := pow_lid (k := 2 * kk) (m := 24) qb.1 qb.2 (by decide) (by omega)
        have dk2 := pow_lid (k := 2 * kk) (m := 24) d12.1 d12.2 (by decide) (by omega)
        have zz : (2 : Int) * (kk : Int) = ((2 * kk : Nat) : Int) := (Int.natCast_mul 2 kk).symm
        refine ⟨_, rfl, _, rfl, _, _, rfl, rfl, .inl ⟨by decide, by decide⟩, (pp : Int), 2 * kk, (by show [V.int (pp : Int), V.int ((2 : Int) * (kk : Int))] = [V.int (pp : Int), V.int ((2 * kk : Nat) : Int)]; rw [zz]), by omega, by omega, by omega, fun H5 s5 => ?_⟩
        refine ⟨_, rfl, _, rfl, _, _, rfl, rfl, .inl ⟨by decide, by decide⟩, (dd : Int), 2 * kk, (by show [V.int (dd : Int), V.int ((2 : Int) * (kk : Int))] = [V.int (dd : Int), V.int ((2 * kk : Nat) : Int)]; rw [zz]), by omega, by omega, by omega, fun H6 s6 => ?_⟩
        refine ⟨_, _, rfl, rfl, wide_mul (bits_of (n := 200) pk (by decide)) (bits_of (n := 200) dk2 (by decide)) (by decide) (by decide) (by decide), ?_⟩
        refine ⟨_, rfl, _, _, rfl, rfl, .inr ⟨by omega, by omega⟩, _, rfl, _, _, rfl, rfl, _, _, rfl, rfl, .inr ⟨by omega, by omega⟩, ?_⟩
        refine ⟨_, rfl, _, rfl, _, rfl, _, _, rfl, rfl, .inl ⟨by decide, by decide⟩, (qq : Int), 2 * kk, (by show [V.int (qq : Int), V.int ((2 : Int) * (kk : Int))] = [V.int (qq : Int), V.int ((2 * kk : Nat) : Int)]; rw [zz]), by omega, by omega, by omega, fun H7 s7 => ?_⟩
        refine ⟨_, _, rfl, rfl, wide_mul (bits_of (n := 200) sq (by decide)) (bits_of (n := 200) qk (by decide)) (by decide) (by decide) (by decide), _, rfl, _, _, rfl, rfl, _, rfl, ?_⟩
        have s17 := s14.trans (s5.trans (s6.trans s7))
        have cmp : (Sr60.uneven g dd a kk * qq ^ (2 * kk) ≤ pp ^ (2 * kk) * dd ^ (2 * kk) * Sr60.size g * (Sr60.size g - 1)) ↔ ((Sr60.uneven g dd a kk : Nat) : Int) * (qq : Int) ^ (2 * kk) ≤ (pp : Int) ^ (2 * kk) * (dd : Int) ^ (2 * kk) * (g.length : Int) * ((g.length : Int) - 1) := by
          have e1 : ((Sr60.uneven g dd a kk * qq ^ (2 * kk) : Nat) : Int) = ((Sr60.uneven g dd a kk : Nat) : Int) * (qq : Int) ^ (2 * kk) := by rw [Int.natCast_mul, Int.natCast_pow]
          have e2 : ((pp ^ (2 * kk) * dd ^ (2 * kk) * Sr60.size g * (Sr60.size g - 1) : Nat) : Int) = (pp : Int) ^ (2 * kk) * (dd : Int) ^ (2 * kk) * (g.length : Int) * ((g.length : Int) - 1) := by
            rw [Int.natCast_mul, Int.natCast_mul, Int.natCast_mul, Int.natCast_pow, Int.natCast_pow, Int.natCast_sub (show 1 ≤ Sr60.size g from n1)]
            rfl
          rw [← e1, ← e2]
          exact Int.ofNat_le.symm
        refine ite2 (fun y => ?_) (fun y => ?_)
        · have y' := cmp.mpr (of_decide_eq_true y)
          refine ⟨_, rfl, (by show 2 ≤ sizeLine; decide), fun p hp => k _ p (Post.ret (x := 1) (xs := [((Sr60.uneven g dd a kk : Nat) : Int)]) hS (st_ok G) s17 hp ?_)⟩
          rw [st0]
          show (some g, (⟨Sr60.bit (decide (Sr60.uneven g dd a kk * qq ^ (2 * kk) ≤ pp ^ (2 * kk) * dd ^ (2 * kk) * Sr60.size g * (Sr60.size g - 1))), _⟩ : Sr60.Ans)) = _
          rw [decide_eq_true y']
          rfl
        · have y' : ¬ _ := fun z => y (decide_eq_true (cmp.mp z))
          refine ⟨_, rfl, (by show 2 ≤ sizeLine; decide), fun p hp => k _ p (Post.ret (x := 0) (xs := [((Sr60.uneven g dd a kk : Nat) : Int)]) hS (st_ok G) s17 hp ?_)⟩
          rw [st0]
          show (some g, (⟨Sr60.bit (decide (Sr60.uneven g dd a kk * qq ^ (2 * kk) ≤ pp ^ (2 * kk) * dd ^ (2 * kk) * Sr60.size g * (Sr60.size g - 1))), _⟩ : Sr60.Ans)) = _
          rw [decide_eq_false y']
          rfl
end
end Sw
namespace Sw
open PySem PySem.Spec PyProof.Rows L2
/-! ### Sets by their numbers -/
def mem2 (n s : Nat) : List Nat := (List.range n).filter fun u => s.testBit u
theorem sets_chk : ((List.range 11).all fun n => (setsL n == (List.range (2 ^ n)).map (mem2 n)) && ((List.range (2 ^ n)).all fun s => (s != 0) == decide (1 ≤ (mem2 n s).length)) && (n == 0 || (mem2 n 1).length == 1)) = true := by decide +kernel
theorem sets_ok {n : Nat} (h : n ≤ 10) : setsL n = (List.range (2 ^ n)).map (mem2 n) ∧ (∀ s, s < 2 ^ n → (s != 0) = decide (1 ≤ (mem2 n s).length)) ∧ (1 ≤ n → (mem2 n 1).length = 1) := by
  have q := List.all_eq_true.mp sets_chk n (List.mem_range.mpr (by omega))
  rw [Bool.and_eq_true, Bool.and_eq_true, beq_iff_eq, List.all_eq_true, Bool.or_eq_true, beq_iff_eq, beq_iff_eq] at q
  refine ⟨q.1.1, fun s hs => beq_iff_eq.mp (q.1.2 s (List.mem_range.mpr hs)), fun h1 => ?_⟩
  rcases q.2 with z | z
  · omega
  · exact z
theorem members_mem2 (g : Sr60.Graph) (s : Nat) : Sr60.members g s = mem2 g.length s := rfl
theorem mem2_contains {n s v : Nat} (h : v < n) : (mem2 n s).contains v = s.testBit v := by
  rw [Bool.eq_iff_iff, List.contains_iff_mem]
  unfold mem2
  rw [List.mem_filter, List.mem_range]
  exact ⟨fun z => z.2, fun z => ⟨h, z⟩⟩
theorem leaving_N (g : Sr60.Graph) (s : Nat) : ((Sr60.leaving g s : Nat) : Int) = S (mem2 g.length s) fun u => S ((List.range g.length).filter fun v => !(mem2 g.length s).contains v) fun v => A g u v := by
  unfold Sr60.leaving
  have e : (Sr60.places g).filter (fun v => !Sr60.isIn s v) = (List.range g.length).filter fun v => !(mem2 g.length s).contains v := List.filter_congr fun v hv => by
    have hv' : v < g.length := List.mem_range.mp hv
    rw [mem2_contains hv']
    rfl
  rw [e]
  exact flat_S _ _ (Sr60.lines g)
def thC (g : Sr60.Graph) (s : Nat) : Bool := s != 0 && decide (2 * (mem2 g.length s).length ≤ g.length)
def thF (g : Sr60.Graph) (o : Option (Nat × Nat × Nat)) (s : Nat) : Option (Nat × Nat × Nat) := match o with
  | none => some (s, Sr60.leaving g s, (mem2 g.length s).length)
  | some y => if Sr60.leaving g s * y.2.2 < y.2.1 * (mem2 g.length s).length then some (s, Sr60.leaving g s, (mem2 g.length s).length) else some y
def thS (g : Sr60.Graph) (o : Option (Nat × Nat × Nat)) (s : Nat) : Option (Nat × Nat × Nat) := if thC g s = true then thF g o s else o
theorem thin_fold (g : Sr60.Graph) : Sr60.thinnest g = (List.range (2 ^ g.length)).foldl (thS g) none := by
  unfold Sr60.thinnest
  rw [List.foldl_filter]
  show List.foldl _ none (List.range (2 ^ g.length)) = _
  congr 1
  funext o s
  unfold thS thC thF
  cases o <;> rfl
theorem thS_some (g : Sr60.Graph) (y : Nat × Nat × Nat) (s : Nat) : ∃ z, thS g (some y) s = some z := by
  unfold thS thF
  by_cases c : thC g s = true
  · rw [if_pos c]
    by_cases d : Sr60.leaving g s * y.2.2 < y.2.1 * (mem2 g.length s).length
    · exact ⟨_, if_pos d⟩
    · exact ⟨_, if_neg d⟩
  · rw [if_neg c]
    exact ⟨y, rfl⟩
theorem fold_some (g : Sr60.Graph) : ∀ (l : List Nat) (y : Nat × Nat × Nat), ∃ z, l.foldl (thS g) (some y) = some z
  | [], y => ⟨y, rfl⟩
  | s :: l, y => by
    obtain ⟨z, e⟩ := thS_some g y s
    rw [List.foldl_cons, e]
    exact fold_some g l z
theorem thin_some {g : Sr60.Graph} (G : Good g) (h : 2 ≤ g.length) : ∃ y, Sr60.thinnest g = some y := by
  rw [thin_fold]
  have p : 2 ^ g.length = (2 ^ g.length - 2) + 2 := by
    have : 2 ^ 1 ≤ 2 ^ g.length := Nat.pow_le_pow_right (by decide) (by omega)
    omega
  rw [p, Nat.add_comm, List.range_add, List.foldl_append]
  have e : (List.range 2).foldl (thS g) none = some (1, Sr60.leaving g 1, (mem2 g.length 1).length) := by
    show thS g (thS g none 0) 1 = _
    have c0 : ¬ thC g 0 = true := by
      unfold thC
      simp
    have c1 : thC g 1 = true := by
      unfold thC
      rw [(sets_ok G.n2).2.2 (by omega)]
      simp
      omega
    have e0 : thS g none 0 = none := by
      unfold thS
      rw [if_neg c0]
    rw [e0]
    unfold thS
    rw [if_pos c1]
    rfl
  rw [e]
  exact fold_some g _ _
theorem mem2_le (n s : Nat) : (mem2 n s).length ≤ n := by
  have := List.length_filter_le (fun u => s.testBit u) (List.range n)
  rw [List.length_range] at this
  exact this
theorem fold_size (g : Sr60.Graph) : ∀ (l : List Nat) (o : Option (Nat × Nat × Nat)), (∀ y, o = some y → y.2.2 ≤ g.length) → ∀ y, l.foldl (thS g) o = some y → y.2.2 ≤ g.length
  | [], _, h, y, e => h y e
  | s :: l, o, h, y, e => by
    refine fold_size g l (thS g o s) (fun z ez => ?_) y e
    unfold thS at ez
    by_cases c : thC g s = true
    · rw [if_pos c] at ez
      cases o with
      | none =>
        have := Option.some.inj ez
        subst this
        exact mem2_le g.length s
      | some y0 =>
        unfold thF at ez
        simp only [] at ez
        by_cases d : Sr60.leaving g s * y0.2.2 < y0.2.1 * (mem2 g.length s).length
        · rw [if_pos d] at ez
          have := Option.some.inj ez
          subst this
          exact mem2_le g.length s
        · rw [if_neg d] at ez
          exact h z ez
    · rw [if_neg c] at ez
      exact h z ez
def tL (o : Option (Nat × Nat × Nat)) : List Int := match o with
  | none => []
  | some y => [(y.2.1 : Int), (y.2.2 : Int), (y.1 : Int)]
section
variable {P : Program} {w : World} {K : PySem.W.Frag} {mg : Str → Option Value} {base : Heap} {C : Addr}
/-! count_leaving(graph, places) -/
def spLeav (C : Addr) : Sp := fun vs H Q _ => ∃ (ga va : Addr) (g : Sr60.Graph) (us : List Nat), vs = [.ref ga, .ref va] ∧ StAt C H ga (some g) ∧ Good g ∧ IntsAt H va (toI us) ∧ us.length ≤ 1000 ∧ (∀ u ∈ us, u < g.length) ∧
  ∀ H', Same H H' → Q (.int (S us fun u => S ((List.range g.length).filter fun v => !us.contains v) fun v => A g u v)) H'
theorem sc_leav : FnScope ["graph", "places"] ["graph", "places"] (defScope (top 59)) := ⟨rfl, rfl, rfl, by decide +kernel, rfl, by decide +kernel, by decide +kernel⟩
theorem cl_leav (L : Lib P w K mg base C) (D : Df K mg "count_leaving" 59 ["graph", "places"]) : Cl P w K mg base 9 "count_leaving" (spLeav C) := by
  refine D.cl sc_leav (fun vs H Q E h => ?_) (fun f cdv A0 outer s H vs Q E hr h => ?_)
  · obtain ⟨ga, va, g, us, rfl, _⟩ := h
    rfl
  · obtain ⟨ga, va, g, us, rfl, ⟨la, ⟨dx, hg⟩, hm⟩, G, hv, lu, hu, k⟩ := h
    refine ⟨_, pss_one (ps_ret (pe_cl L.betw hr (by decide) rfl (pa_cons (pe_fld (pv 0) rfl) (pa_cons (pv 1) (pa_cons (pe_cl L.others hr (by decide) rfl (pa_cons (pe_fld (pv 0) rfl) (pa_cons (pv 1) pa_nil))) pa_nil))))), ?_⟩
    have n2 := G.n2
    have hmA : MatAt H la (mat (A g) (List.range g.length)) := G.mat ▸ hm
    refine ⟨_, rfl, ga, C, dx, _, _, rfl, hg, L.c.cl, L.c.nL, lkL la, _, rfl, _, rfl, ga, C, dx, _, _, rfl, hg, L.c.cl, L.c.nL, lkL la, _, rfl, la, va, g.length, A g, us, rfl, hmA, hv, by omega, fun H1 o s1 I1 => ?_⟩
    refine ⟨la, va, o, g.length, A g, us, _, rfl, hmA.same s1, hv.same s1, I1, hu, fun v hv' => ?_, lu, ?_, fun H2 s2 => k H2 (s1.trans s2)⟩
    · exact List.mem_range.mp (List.mem_filter.mp hv').1
    · have := List.length_filter_le (fun u => !us.contains u) (List.range g.length)
      rw [List.length_range] at this
      omega
/-! leaving(graph, given) -/
def rdLeaving : Hp → List V → Sr60.Call → Prop := fun H xs c => ∃ (b1 : Addr) (s : List Int), xs = [.ref b1] ∧ IntsAt H b1 s ∧ s.length ≤ 1000 ∧ c = .leaving s
theorem sc_leaving : FnScope ["graph", "given", "places"] ["graph", "given"] (defScope (top 61)) := ⟨rfl, rfl, rfl, by decide +kernel, rfl, by decide +kernel, by decide +kernel⟩
theorem cl_leaving (L : Lib P w K mg base C) (cL : Cl P w K mg base 9 "count_leaving" (spLeav C)) (D : Df K mg "leaving" 61 ["graph", "given"]) : Cl P w K mg base 10 "leaving" (spC C rdLeaving) := by
  refine D.cl sc_leaving (fun vs H Q E h => ?_) (fun f cdv A0 outer s H vs Q E hr h => ?_)
  · obtain ⟨ga, va, g, xs, c, rfl, _⟩ := h
    rfl
  · obtain ⟨ga, va, g, xs, c, rfl, hS, G, hv, ⟨b1, s1', rfl, hb1, l1, rfl⟩, k⟩ := h
    refine ⟨_, pss_cons (ps_set (i := 2) sc_leaving.nd rfl (Or.inl rfl) (pe_ix ix_list (pv 1) pe_int (fun _ _ => rfl)))
      (pss_cons (ps_if (pt_not (pt_val (pe_cl L.arePlaces hr (by decide) rfl (pa_cons (pv 0) (pa_cons (pv 2) pa_nil))))) (pss_one (ps_ret (pe_lst (pa_cons (pe_cst L.t.wrong rfl) pa_nil)))) pss_nil)
      (pss_one (ps_ret (pe_lst (pa_cons (pe_cl cL hr (by decide) rfl (pa_cons (pv 0) (pa_cons (pv 2) pa_nil))) (pa_cons (pe_callB call_len_seq (by rfl) L.b.len boot_len (pa_cons (pv 2) pa_nil)) pa_nil)))))), ?_⟩
    have hS' := hS
    obtain ⟨la, hG⟩ := hS'
    have st0 : Sr60.step (some g) (.leaving s1') = (some g, if Sr60.okSet g s1' = false then Sr60.say (-22) else ⟨(Sr60.leaving g (Sr60.num s1') : Int), [((Sr60.members g (Sr60.num s1')).length : Int)]⟩) := rfl
    refine ⟨_, rfl, va, _, 0, _, rfl, rfl, SqL.of hv, at_of (j := 0) rfl rfl, ?_⟩
    have len : (stM (some g)).length = g.length := ints_len g
    refine ⟨_, rfl, _, rfl, ga, la, b1, _, s1', rfl, hG, hb1, l1, fun H1 s1 => ⟨_, rfl, ?_⟩⟩
    rw [len, okF_ok]
    refine ite2 (fun d => ?_) (fun d => ?_)
    · have d' : Sr60.okSet g s1' = false := by simpa using d
      exact ⟨(by show 1 ≤ sizeLine; decide), fun p hp => k _ p (Post.ret1 hS (st_ok G) s1 hp (by rw [st0, if_pos d']))⟩
    · have d' : Sr60.okSet g s1' = true := by simpa using d
      rw [if_neg (by rw [d']; exact Bool.noConfusion)] at st0
      obtain ⟨us, ru⟩ := row_of d'
      have hb1' : IntsAt H b1 (toI us) := ru.eq ▸ hb1
      have lus : us.length = s1'.length := by rw [ru.eq, toI_length]
      refine ⟨_, rfl, _, rfl, ga, b1, g, us, rfl, ⟨la, hG.same s1⟩, G, hb1'.same s1, by omega, ru.inside, fun H2 s2 => ?_⟩
      have s12 := s1.trans s2
      refine ⟨_, rfl, b1, _, rfl, .inl (SqL.of (s12 _ _ hb1')), (by show 2 ≤ sizeLine; decide), fun p hp => ?_⟩
      rw [toI_len, ← leaving_S ru]
      refine k _ p (Post.ret (x := ((Sr60.leaving g (Sr60.num s1') : Nat) : Int)) (xs := [(us.length : Int)]) hS (st_ok G) s12 hp ?_)
      rw [st0, ru.members]
/-! thinnest(graph, given) -/
def rdThin : Hp → List V → Sr60.Call → Prop := fun _ xs c => xs = [] ∧ c = .thinnest
theorem sc_thin : FnScope ["graph", "given", "n", "thin", "number", "places", "size", "count"] ["graph", "given"] (defScope (top 60)) := ⟨rfl, rfl, rfl, by decide +kernel, rfl, by decide +kernel, by decide +kernel⟩
theorem fold_succ (g : Sr60.Graph) (i : Nat) : (List.range (i + 1)).foldl (thS g) none = thS g ((List.range i).foldl (thS g) none) i := by
  rw [List.range_succ, List.foldl_append]
  rfl
theorem cl_thin (L : Lib P w K mg base C) (cL : Cl P w K mg base 9 "count_leaving" (spLeav C)) (D : Df K mg "thinnest" 60 ["graph", "given"]) : Cl P w K mg base 10 "thinnest" (spC C rdThin) := by
  refine D.cl sc_thin (fun vs H Q E h => ?_) (fun f cdv A0 outer s H vs Q E hr h => ?_)
  · obtain ⟨ga, va, g, xs, c, rfl, _⟩ := h
    rfl
  · obtain ⟨ga, va, g, xs, c, rfl, hS, G, hv, ⟨rfl, rfl⟩, k⟩ := h
    refine ⟨_, pss_cons (ps_set (i := 2) sc_thin.nd rfl (Or.inl rfl) (pe_callB call_len_seq (by rfl) L.b.len boot_len (pa_cons (pe_fld (pv 0) rfl) pa_nil)))
      (pss_cons (ps_if (pt_cmpR op_eq (pv 2) pe_int (nomark _)) (pss_one (ps_ret (pe_lst (pa_cons (pe_cst L.t.onePlace rfl) pa_nil)))) pss_nil)
      (pss_cons (ps_set (i := 3) sc_thin.nd rfl (Or.inl rfl) (pe_lst pa_nil))
      (pss_cons (ps_for PassesOwn.never rfl (pi_enum (by rfl) L.b.enumerate (pa_cons (pe_cl L.sets hr (by decide) rfl (pa_cons (pv 2) pa_nil)) pa_nil)) (pg_tup rfl (pgs_cons (pg_name (i := 4) sc_thin.nd rfl (Or.inl rfl)) (pgs_cons (pg_name (i := 5) sc_thin.nd rfl (Or.inl rfl)) pgs_nil)))
        (pss_cons (ps_set (i := 6) sc_thin.nd rfl (Or.inl rfl) (pe_callB call_len_seq (by rfl) L.b.len boot_len (pa_cons (pv 5) pa_nil)))
        (pss_one (ps_if (PW.pt (pw_and (pt_cmpR op_le pe_int (pv 6) (nomark _)) (pw_and1 (pt_cmpR op_le (pe_op op_mul pe_int (pv 6)) (pv 2) (nomark _)))))
          (pss_cons (ps_set (i := 7) sc_thin.nd rfl (Or.inl rfl) (pe_cl cL hr (by decide) rfl (pa_cons (pv 0) (pa_cons (pv 5) pa_nil))))
          (pss_one (ps_if (PW.pt (pw_or (pt_not (pt_truth (pv 3) (by intro _; rfl))) (pw_or1 (pt_cmpR op_lt (pe_op op_mul (pv 7) (pe_ix ix_list (pv 3) pe_int (fun _ _ => rfl))) (pe_op op_mul (pe_ix ix_list (pv 3) pe_int (fun _ _ => rfl)) (pv 6)) (nomark _)))))
            (pss_one (ps_set (i := 3) sc_thin.nd rfl (Or.inl rfl) (pe_lst (pa_cons (pv 7) (pa_cons (pv 6) (pa_cons (pv 4) pa_nil)))))) pss_nil))) pss_nil))))
      (pss_one (ps_ret (pv 3)))))), ?_⟩
    have hS' := hS
    obtain ⟨la, hG⟩ := hS'
    have hG' := hG
    obtain ⟨⟨dx, hg⟩, hm⟩ := hG'
    have n2 := G.n2
    have n1 := G.n1
    obtain ⟨as, ha, ln⟩ := hm.len
    rw [show (stM (some g)).length = g.length from ints_len g] at ln
    have st0 : Sr60.step (some g) .thinnest = (some g, match Sr60.thinnest g with | none => Sr60.say (-33) | some y => ⟨(y.2.1 : Int), [(y.2.2 : Int), (y.1 : Int)]⟩) := rfl
    refine ⟨_, rfl, ga, C, dx, _, _, rfl, hg, L.c.cl, L.c.nL, lkL la, la, _, rfl, .inl (SqL.of ha), ?_⟩
    rw [List.length_map, ln]
    refine ⟨_, rfl, rfl, _, rfl, ite2 (fun c => ?_) (fun c => ?_)⟩
    · have c' : g.length = 1 := by
        have := V.int.inj (of_decide_eq_true c)
        omega
      refine ⟨(by show 1 ≤ sizeLine; decide), fun p hp => k _ p (Post.ret1 hS (st_ok G) (Same.refl _) hp ?_)⟩
      rw [st0]
      have e : Sr60.thinnest g = none := by
        rw [thin_fold, c']
        show thS g (thS g none 0) 1 = none
        have c0 : ¬ thC g 0 = true := by
          unfold thC
          simp
        have c1 : ¬ thC g 1 = true := by
          unfold thC
          rw [(sets_ok n2).2.2 n1, c']
          decide
        unfold thS
        rw [if_neg c0, if_neg c1]
      rw [e]
    · have c' : ¬ (g.length : Int) = 1 := fun z => c (decide_eq_true (congrArg V.int z))
      obtain ⟨so1, so2, so3⟩ := sets_ok n2
      refine ⟨by decide, fun t0 ht0 => ?_⟩
      have st0' : Same H (upd H t0 (.lst [])) := same_upd (Same.refl _) ht0
      refine ⟨_, rfl, g.length, rfl, n2, fun H1 c1 s1 ⟨cs, hc, hC⟩ => ?_⟩
      have s01 := st0'.trans s1
      have lC := hC.length
      rw [List.length_map, setsL_len] at lC
      refine ⟨c1, _, rfl, SqL.of hc, for_it (walk_enum (K := K) (a := c1) (xs := cs.map V.ref)) (fun i σ H' => ∃ (t : Addr) (x y z v : Option V), σ = [some (.ref ga), some (.ref va), some (.int (g.length : Int)), some (.ref t), x, y, z, v] ∧ Same H1 H' ∧ H t = none ∧ IntsAt H' t (tL ((List.range i).foldl (thS g) none)))
        ⟨t0, none, none, none, none, rfl, Same.refl _, ht0, s1 _ _ upd_same⟩ (fun i σ H2 _ ⟨t, x, y, z, v, _, s2, _⟩ => SqL.of (s2 _ _ hc)) (fun i v0 σ H2 H3 hi ⟨t, x, y, z, v, e, s2, nt, ht⟩ yy => ?_) (fun σ H2 ⟨t, x, y, z, v, e, s2, nt, ht⟩ => ?_)⟩
      · subst e
        obtain ⟨T, x1, y1, rfl, hT, rfl, hx, hy⟩ := yy
        obtain rfl := Option.some.inj hx
        obtain ⟨r, row, rfl, hr1, hrow, hI, hi'⟩ := hC.at hy
        rw [List.length_map, setsL_len] at hi'
        have hrow' : row = toI (mem2 g.length i) := by
          rw [so1, List.map_map, List.getElem?_map, List.getElem?_range hi'] at hrow
          exact (Option.some.inj hrow).symm
        subst hrow'
        have sT : Same H2 (upd H2 T (.tup [.int (i : Nat), .ref r])) := same_upd (Same.refl _) hT
        have s2T := s2.trans sT
        have ht' := ht.same sT
        have ml : (mem2 g.length i).length ≤ 10 := by
          have := List.length_filter_le (fun u => i.testBit u) (List.range g.length)
          rw [List.length_range] at this
          unfold mem2
          omega
        have mi : ∀ u ∈ mem2 g.length i, u < g.length := fun u hu => List.mem_range.mp (List.mem_filter.mp hu).1
        refine ⟨T, _, rfl, SqT.of upd_same, rfl, _, _, rfl, _, _, rfl, rfl, ?_⟩
        refine ⟨_, rfl, r, _, rfl, .inl (SqL.of (s2T _ _ hI)), ?_⟩
        rw [toI_len]
        have stop : ¬ thC g i = true → IntsAt (upd H2 T (.tup [.int (i : Nat), .ref r])) t (tL ((List.range (i + 1)).foldl (thS g) none)) := fun z => by
          rw [fold_succ]
          unfold thS at ht' ⊢
          rw [if_neg z]
          exact ht'
        refine ⟨_, rfl, 1, _, rfl, rfl, _, rfl, ite2 (fun d1 => ?_) (fun d1 => iteF ?_)⟩
        · have d1' : 1 ≤ (mem2 g.length i).length := by
            have : (1 : Int) ≤ ((mem2 g.length i).length : Int) := of_decide_eq_true d1
            omega
          have nz : (i != 0) = true := by
            rw [so2 i hi']
            exact decide_eq_true d1'
          refine ⟨_, rfl, _, _, rfl, rfl, .inl ⟨by decide, by decide⟩, _, rfl, _, _, rfl, rfl, _, rfl, ite2 (fun d2 => ?_) (fun d2 => ?_)⟩
          · have d2' : 2 * (mem2 g.length i).length ≤ g.length := by
              have : (2 : Int) * ((mem2 g.length i).length : Int) ≤ (g.length : Int) := of_decide_eq_true d2
              omega
            have tc : thC g i = true := by
              unfold thC
              rw [nz, decide_eq_true d2']
              rfl
            refine ⟨_, rfl, _, rfl, ga, r, g, mem2 g.length i, rfl, ⟨la, hG.same (s01.trans s2T)⟩, G, s2T _ _ hI, by omega, mi, fun H4 s4 => ?_⟩
            rw [← leaving_N]
            have ht4 := ht'.same s4
            have s24 := s2T.trans s4
            have put : (thF g ((List.range i).foldl (thS g) none) i = some (i, Sr60.leaving g i, (mem2 g.length i).length)) → ∀ p, H4 p = none → IntsAt (upd H4 p (.lst [.int ((Sr60.leaving g i : Nat) : Int), .int ((mem2 g.length i).length : Int), .int (i : Int)])) p (tL ((List.range (i + 1)).foldl (thS g) none)) := fun z p hp => by
              rw [fold_succ]
              unfold thS at z ⊢
              rw [if_pos tc, z]
              exact upd_same
            refine ⟨_, rfl, _, .inl ⟨_, SqL.of ht4, rfl⟩, ?_⟩
            cases eo : (List.range i).foldl (thS g) none with
            | none =>
              rw [eo] at ht4 put
              refine iteT (iteT ?_)
              refine ⟨_, rfl, _, rfl, _, rfl, (by show 3 ≤ sizeLine; decide), fun p hp => ⟨p, _, _, _, _, rfl, s24.trans (same_upd (Same.refl _) hp), (s01.trans s24).free hp, put rfl p hp⟩⟩
            | some y0 =>
              rw [eo] at ht4 put
              refine iteF ?_
              have y10 : y0.2.2 ≤ g.length := fold_size g _ none (fun y e => by cases e) y0 eo
              refine ⟨_, rfl, _, rfl, t, _, 1, _, rfl, rfl, SqL.of ht4, at_of (j := 1) rfl rfl, _, _, rfl, rfl, .inr ⟨by omega, by omega⟩, ?_⟩
              refine ⟨_, rfl, t, _, 0, _, rfl, rfl, SqL.of ht4, at_of (j := 0) rfl rfl, _, rfl, _, _, rfl, rfl, .inr ⟨by omega, by omega⟩, _, _, rfl, rfl, _, rfl, ?_⟩
              have cmp : (Sr60.leaving g i * y0.2.2 < y0.2.1 * (mem2 g.length i).length) ↔ ((Sr60.leaving g i : Nat) : Int) * (y0.2.2 : Int) < (y0.2.1 : Int) * ((mem2 g.length i).length : Int) := by
                rw [← Int.natCast_mul, ← Int.natCast_mul]
                exact Int.ofNat_lt.symm
              refine ite2 (fun d3 => ?_) (fun d3 => ?_)
              · have d3' := cmp.mpr (of_decide_eq_true d3)
                exact ⟨_, rfl, _, rfl, _, rfl, (by show 3 ≤ sizeLine; decide), fun p hp => ⟨p, _, _, _, _, rfl, s24.trans (same_upd (Same.refl _) hp), (s01.trans s24).free hp, put (if_pos d3') p hp⟩⟩
              · have d3' : ¬ (Sr60.leaving g i * y0.2.2 < y0.2.1 * (mem2 g.length i).length) := fun z => d3 (decide_eq_true (cmp.mp z))
                refine ⟨t, _, _, _, _, rfl, s24, nt, ?_⟩
                have e5 : (List.range (i + 1)).foldl (thS g) none = some y0 := by
                  rw [fold_succ, eo]
                  show (if thC g i = true then (if Sr60.leaving g i * y0.2.2 < y0.2.1 * (mem2 g.length i).length then _ else _) else _) = _
                  rw [if_pos tc, if_neg d3']
                rw [e5]
                exact ht4
          · have tc : ¬ thC g i = true := by
              unfold thC
              have : ¬ 2 * (mem2 g.length i).length ≤ g.length := fun z => d2 (decide_eq_true (by omega))
              simp [this]
            exact ⟨t, _, _, _, _, rfl, s2T, nt, stop tc⟩
        · have tc : ¬ thC g i = true := by
            unfold thC
            rw [so2 i hi']
            have : ¬ 1 ≤ (mem2 g.length i).length := fun z => d1 (decide_eq_true (by omega))
            simp [this]
          exact ⟨t, _, _, _, _, rfl, s2T, nt, stop tc⟩
      · subst e
        obtain ⟨y0, ey⟩ := thin_some G (by omega)
        rw [List.length_map, lC, ← thin_fold, ey] at ht
        rw [ey] at st0
        exact ⟨_, rfl, k H2 t (Post.had (x := (y0.2.1 : Int)) (xs := [(y0.2.2 : Int), (y0.1 : Int)]) hS (st_ok G) (s01.trans s2) nt ht st0)⟩
end
end Sw
namespace Sw
open PySem PySem.Spec PyProof.Rows L2
/-! ### The classes -/
structure Mt (P : Program) (w : World) (K : PySem.W.Frag) (mg : Str → Option Value) (base : Heap) (k : Nat) (C : Addr) (m : Str) (sp : Sp) : Prop where
  ex : ∃ (f : Addr) (fd : FuncData) (ps : List Str), Meth K C m f ∧ FnOk P w K mg base CX0 k f fd ps sp ∧ Binds K fd ps []
structure Dm (K : PySem.W.Frag) (C : Addr) (m qual : Str) (i j : Nat) (ps : List Str) : Prop where
  ex : ∃ (f : Addr) (fd : FuncData), Fun K m qual (inClass (top i) j) f fd ∧ Meth K C m f ∧ Binds K fd ps []
structure Di (K : PySem.W.Frag) (C : Addr) (qual : Str) (i j : Nat) (ps : List Str) : Prop where
  ex : ∃ (f : Addr) (fd : FuncData), Fun K "__init__" qual (inClass (top i) j) f fd ∧ Mk K C f ∧ Binds K fd ps []
structure Ma (P : Program) (w : World) (K : PySem.W.Frag) (mg : Str → Option Value) (base : Heap) (k : Nat) (C : Addr) (sp : Sp) : Prop where
  ex : ∃ (f : Addr) (fd : FuncData) (ps : List Str), Mk K C f ∧ FnOk P w K mg base CX0 k f fd ps sp ∧ Binds K fd ps []
section
variable {P : Program} {w : World} {K : PySem.W.Frag} {mg : Str → Option Value} {base : Heap} {C : Addr}
theorem Dm.mt {m qual : Str} {i j : Nat} {N ps : List Str} {k : Nat} {sp : Sp} (D : Dm K C m qual i j ps) (S : FnScope N ps (defScope (inClass (top i) j))) (len : ∀ vs H Q E, sp vs H Q E → vs.length = ps.length)
    (body : ∀ (f : Addr) (cdv : Value) (A : Around) (outer : List Env) (s : Shared) (H : Hp) (vs : List V) (Q : VK) (E : XK), Room k (A.deeper (envOfC qual (defScope (inClass (top i) j)) s.heap.objs.size f cdv)) → sp vs H Q E →
      ∃ t, PSs (cxOf CX0 P w K mg base N qual (defScope (inClass (top i) j)) f cdv A outer s H E).nox (defBody (inClass (top i) j)) t ∧ t { nx := fun _ H' => Q .non H', rt := Q } (start N vs) H) : Mt P w K mg base (k + 1) C m sp := by
  obtain ⟨f, fd, F, hm, b⟩ := D.ex
  exact ⟨f, fd, ps, hm, F.ok S len (body f), b⟩
theorem Di.ma {qual : Str} {i j : Nat} {N ps : List Str} {k : Nat} {sp : Sp} (D : Di K C qual i j ps) (S : FnScope N ps (defScope (inClass (top i) j))) (len : ∀ vs H Q E, sp vs H Q E → vs.length = ps.length)
    (body : ∀ (f : Addr) (cdv : Value) (A : Around) (outer : List Env) (s : Shared) (H : Hp) (vs : List V) (Q : VK) (E : XK), Room k (A.deeper (envOfC qual (defScope (inClass (top i) j)) s.heap.objs.size f cdv)) → sp vs H Q E →
      ∃ t, PSs (cxOf CX0 P w K mg base N qual (defScope (inClass (top i) j)) f cdv A outer s H E).nox (defBody (inClass (top i) j)) t ∧ t { nx := fun _ H' => Q .non H', rt := Q } (start N vs) H) : Ma P w K mg base (k + 1) C sp := by
  obtain ⟨f, fd, F, hm, b⟩ := D.ex
  exact ⟨f, fd, ps, hm, F.ok S len (body f), b⟩
end
def tMt (C : Addr) (m : Str) (sp : Sp) (ta : TE) (t : TA) : TE := tMeth C m sp [] E0 ta t
theorem pe_mt {X : Cx} {k j : Nat} {C : Addr} {m : Str} {sp : Sp} {pos apos : Pos} {e o : Expr} {es : List Expr} {ta : TE} {t : TA} {pl : Sem Bool} (c : Mt X.prog X.w X.K X.mg X.base k C m sp) (cl : Cls X.K C) (hr : Room j X.A) (hk : k ≤ j) (he : PE X o ta) (ha : PA X (e :: es) t)
    (hst : starEach (e :: es) X.env = (false, eval e X.env) :: starEach es X.env := by rfl) (hpl : (backTo pos (starEach es X.env)).any (·.1) = false := by rfl)
    (ht : eval (.Call (.Attribute o m apos) (e :: es) [] pos) X.env = (do
      let ov ← eval o X.env
      standAt apos.atName
      let (f, first) ← holding [ov] (getMethod ov m pl)
      callWith pos f first (backTo pos (starEach (e :: es) X.env)) (backToKw pos (keywordEach [] X.env))) := by rfl) :
    PE X (.Call (.Attribute o m apos) (e :: es) [] pos) (tMt C m sp ta t) := by
  obtain ⟨f, fd, ps, hm, F, b⟩ := c.ex
  exact pe_meth (pl := pl) he cl hm F (hr.mono hk) b .nil pass0 ha hst hpl ht
theorem pe_mt0 {X : Cx} {k j : Nat} {C : Addr} {m : Str} {sp : Sp} {pos apos : Pos} {o : Expr} {ta : TE} {pl : Sem Bool} (c : Mt X.prog X.w X.K X.mg X.base k C m sp) (cl : Cls X.K C) (hr : Room j X.A) (hk : k ≤ j) (he : PE X o ta)
    (ht : eval (.Call (.Attribute o m apos) [] [] pos) X.env = (do
      let ov ← eval o X.env
      standAt apos.atName
      let (f, first) ← holding [ov] (getMethod ov m pl)
      callWith pos f first (backTo pos (starEach [] X.env)) (backToKw pos (keywordEach [] X.env))) := by rfl) :
    PE X (.Call (.Attribute o m apos) [] [] pos) (tMt C m sp ta tNil) := by
  obtain ⟨f, fd, ps, hm, F, b⟩ := c.ex
  exact pe_meth0 (pl := pl) he cl hm F (hr.mono hk) b .nil pass0 ht
/-! ### The reader -/
structure RCls (K : PySem.W.Frag) (R : Addr) : Prop where
  cl : Cls K R
  nC : NoAttr K R "calls"
  nA : NoAttr K R "at"
def rF (a : Addr) (i : Int) : List (Str × V) := [("calls", .ref a), ("at", .int i)]
theorem rk_here {k : Str} {v : V} {r : List (Str × V)} : List.lookup k ((k, v) :: r) = some v := by
  have e : (k == k) = true := beq_self_eq_true k
  simp only [List.lookup, e]
theorem rk_past {k g : Str} {v : V} {r : List (Str × V)} (h : (k == g) = false) : List.lookup k ((g, v) :: r) = List.lookup k r := by
  simp only [List.lookup, h]
theorem lkC (a : Addr) (i : Int) : (rF a i).lookup ("calls" : Str) = some (.ref a) := rk_here
theorem lkA (a : Addr) (i : Int) : (rF a i).lookup ("at" : Str) = some (.int i) := (rk_past (by decide +kernel)).trans rk_here
theorem nlk (a : Addr) (i : Int) {m : Str} (h1 : (m == ("calls" : Str)) = false) (h2 : (m == ("at" : Str)) = false) : (rF a i).lookup m = none := (rk_past h1).trans ((rk_past h2).trans rfl)
theorem ptA (a : Addr) (i j : Int) : putF "at" (.int j) (rF a i) = rF a j := by
  have e : ¬ (("calls" : Str) = ("at" : Str)) := by decide +kernel
  show (if ("calls" : Str) = ("at" : Str) then _ else _) = _
  rw [if_neg e]
  show _ :: (if ("at" : Str) = ("at" : Str) then _ else _) = _
  rw [if_pos rfl]
  rfl
theorem ptNew (a : Addr) : putF "at" (.int 0) (putF "calls" (.ref a) []) = rF a 0 := by
  have e : ¬ (("calls" : Str) = ("at" : Str)) := by decide +kernel
  show (if ("calls" : Str) = ("at" : Str) then _ else _) = _
  rw [if_neg e]
  rfl
def RAt (R : Addr) (H : Hp) (r a : Addr) (i : Nat) : Prop := ∃ dx, H r = some (.ins R dx (rF a (i : Int)))
/-- all but one object stands -/
def But (r : Addr) (H H' : Hp) : Prop := ∀ b o, H b = some o → b ≠ r → H' b = some o
theorem But.seq {K : PySem.W.Frag} {r a : Addr} {H H' : Hp} {C dx : Addr} {fs : List (Str × V)} {xs : List V} (k : But r H H') (hr : H r = some (.ins C dx fs)) (h : SqL K H a xs) : SqL K H' a xs := by
  rcases h with h | h
  · rcases h with h | ⟨o, h⟩
    · refine .inl (.inl (k _ _ h fun e => ?_))
      rw [e, hr] at h
      cases h
    · refine .inl (.inr ⟨o, k _ _ h fun e => ?_⟩)
      rw [e, hr] at h
      cases h
  · exact .inr h
theorem Same.but {r : Addr} {H H' : Hp} (s : Same H H') : But r H H' := fun b o h _ => s b o h
theorem But.trans {r : Addr} {H H1 H2 : Hp} (a : But r H H1) (b : But r H1 H2) : But r H H2 := fun c o h hc => b c o (a c o h hc) hc
theorem But.ints {r a : Addr} {H H' : Hp} {C dx : Addr} {fs : List (Str × V)} {ns : List Int} (k : But r H H') (hr : H r = some (.ins C dx fs)) (h : IntsAt H a ns) : IntsAt H' a ns := k _ _ h fun e => by
  have h' : H a = _ := h
  rw [e, hr] at h'
  cases h'
section
variable {P : Program} {w : World} {K : PySem.W.Frag} {mg : Str → Option Value} {base : Heap} {C R : Addr}
/-! Graph.__init__ -/
def spGInit (C : Addr) : Sp := fun vs H Q _ => ∃ (p dx : Addr), vs = [.ref p] ∧ H p = some (.ins C dx []) ∧ ∀ H', StAt C H' p none → But p H H' → Q .non H'
theorem sc_gInit : FnScope ["self"] ["self"] (defScope (inClass (top 36) 0)) := ⟨rfl, rfl, rfl, by decide +kernel, rfl, by decide +kernel, by decide +kernel⟩
theorem ma_graph (T : GCls K C) (D : Di K C "Graph.__init__" 36 0 ["self"]) : Ma P w K mg base 1 C (spGInit C) := by
  refine D.ma sc_gInit (fun vs H Q E h => ?_) (fun f cdv A outer s H vs Q E hr h => ?_)
  · obtain ⟨p, dx, rfl, _⟩ := h
    rfl
  · obtain ⟨p, dx, rfl, hp, k⟩ := h
    refine ⟨_, pss_one (ps_fld (pv 0) (pe_lst pa_nil) rfl), ?_⟩
    refine ⟨by decide, fun l hl => ?_⟩
    have lp : p ≠ l := fun e => by rw [← e, hp] at hl; cases hl
    refine ⟨_, rfl, p, C, dx, _, rfl, by rw [upd_ne lp]; exact hp, T.cl, T.nL, (by show 0 < 1000; decide), ?_⟩
    refine k _ ⟨l, ⟨dx, upd_same⟩, [], ?_, .nil⟩ fun b o h hb => ?_
    · rw [upd_ne (Ne.symm lp), upd_same]
      rfl
    · rw [upd_ne hb, upd_ne (ne_of_none h hl)]
      exact h
/-! Reader.__init__ -/
def spRInit (R : Addr) : Sp := fun vs H Q _ => ∃ (p dx a : Addr), vs = [.ref p, .ref a] ∧ H p = some (.ins R dx []) ∧ ∀ H', RAt R H' p a 0 → But p H H' → Q .non H'
theorem sc_rInit : FnScope ["self", "calls"] ["self", "calls"] (defScope (inClass (top 37) 0)) := ⟨rfl, rfl, rfl, by decide +kernel, rfl, by decide +kernel, by decide +kernel⟩
theorem ma_reader (T : RCls K R) (D : Di K R "Reader.__init__" 37 0 ["self", "calls"]) : Ma P w K mg base 1 R (spRInit R) := by
  refine D.ma sc_rInit (fun vs H Q E h => ?_) (fun f cdv A outer s H vs Q E hr h => ?_)
  · obtain ⟨p, dx, a, rfl, _⟩ := h
    rfl
  · obtain ⟨p, dx, a, rfl, hp, k⟩ := h
    refine ⟨_, pss_cons (ps_fld (pv 0) (pv 1) rfl) (pss_one (ps_fld (pv 0) pe_int rfl)), ?_⟩
    refine ⟨_, rfl, _, rfl, p, R, dx, _, rfl, hp, T.cl, T.nC, (by show 0 < 1000; decide), ?_⟩
    refine ⟨_, rfl, p, R, dx, _, rfl, upd_same, T.cl, T.nA, (by show 1 < 1000; decide), ?_⟩
    rw [ptNew]
    refine k _ ⟨dx, upd_same⟩ fun b o h hb => ?_
    rw [upd_ne hb, upd_ne hb]
    exact h
/-! Reader.ended -/
def spEnded (K : PySem.W.Frag) (R : Addr) : Sp := fun vs H Q _ => ∃ (r a : Addr) (i : Nat) (ns : List Int), vs = [.ref r] ∧ RAt R H r a i ∧ SqL K H a (ns.map V.int) ∧ Q (.bl (decide ((ns.length : Int) ≤ (i : Int)))) H
theorem sc_ended : FnScope ["self"] ["self"] (defScope (inClass (top 37) 1)) := ⟨rfl, rfl, rfl, by decide +kernel, rfl, by decide +kernel, by decide +kernel⟩
theorem mt_ended (B : Bi mg) (T : RCls K R) (D : Dm K R "ended" "Reader.ended" 37 1 ["self"]) : Mt P w K mg base 1 R "ended" (spEnded K R) := by
  refine D.mt sc_ended (fun vs H Q E h => ?_) (fun f cdv A outer s H vs Q E hr h => ?_)
  · obtain ⟨r, a, i, ns, rfl, _⟩ := h
    rfl
  · obtain ⟨r, a, i, ns, rfl, ⟨dx, hr0⟩, hs, k⟩ := h
    refine ⟨_, pss_one (ps_ret (pe_cmpR op_ge (pe_fld (pv 0) rfl) (pe_callB call_len_seq (by rfl) B.len boot_len (pa_cons (pe_fld (pv 0) rfl) pa_nil)) (nomark _))), ?_⟩
    refine ⟨_, rfl, r, R, dx, _, _, rfl, hr0, T.cl, T.nA, lkA a _, _, rfl, r, R, dx, _, _, rfl, hr0, T.cl, T.nC, lkC a _, a, _, rfl, .inl hs, _, _, rfl, rfl, ?_⟩
    rw [List.length_map]
    exact k
/-! Reader.read_number -/
def spReadN (K : PySem.W.Frag) (R : Addr) : Sp := fun vs H Q _ => ∃ (r a : Addr) (i : Nat) (ns : List Int) (x : Int), vs = [.ref r] ∧ RAt R H r a i ∧ SqL K H a (ns.map V.int) ∧ ns[i]? = some x ∧ ∀ H', RAt R H' r a (i + 1) → But r H H' → Q (.int x) H'
theorem sc_readN : FnScope ["self", "number"] ["self"] (defScope (inClass (top 37) 2)) := ⟨rfl, rfl, rfl, by decide +kernel, rfl, by decide +kernel, by decide +kernel⟩
theorem mt_readN (T : RCls K R) (D : Dm K R "read_number" "Reader.read_number" 37 2 ["self"]) : Mt P w K mg base 1 R "read_number" (spReadN K R) := by
  refine D.mt sc_readN (fun vs H Q E h => ?_) (fun f cdv A outer s H vs Q E hr h => ?_)
  · obtain ⟨r, a, i, ns, x, rfl, _⟩ := h
    rfl
  · obtain ⟨r, a, i, ns, x, rfl, ⟨dx, hr0⟩, hs, hx, k⟩ := h
    refine ⟨_, pss_cons (ps_set (i := 1) sc_readN.nd rfl (Or.inl rfl) (pe_ix ix_list (pe_fld (pv 0) rfl) (pe_fld (pv 0) rfl) (fun _ _ => rfl)))
      (pss_cons (ps_fldaug (pv 0) pe_int in_add) (pss_one (ps_ret (pv 1)))), ?_⟩
    refine ⟨_, rfl, r, R, dx, _, _, rfl, hr0, T.cl, T.nC, lkC a _, _, rfl, r, R, dx, _, _, rfl, hr0, T.cl, T.nA, lkA a _, a, _, _, _, rfl, rfl, hs, int_at hx rfl, ?_⟩
    refine ⟨_, rfl, r, R, dx, _, _, rfl, hr0, T.cl, T.nA, lkA a _, _, _, rfl, rfl, dx, _, hr0, (by show 2 < 1000; decide), ?_⟩
    rw [ptA]
    refine ⟨_, rfl, k _ ⟨dx, ?_⟩ fun b o h hb => ?_⟩
    · rw [upd_same, Int.natCast_add]
      rfl
    · rw [upd_ne hb]
      exact h
/-! Reader.read_numbers -/
def spReadNs (K : PySem.W.Frag) (R : Addr) : Sp := fun vs H Q _ => ∃ (r a : Addr) (i m : Nat) (ns : List Int), vs = [.ref r, .int (m : Int)] ∧ RAt R H r a i ∧ SqL K H a (ns.map V.int) ∧ i + m ≤ ns.length ∧ ∀ H' p, RAt R H' r a (i + m) → But r H H' → H p = none → IntsAt H' p ((ns.drop i).take m) → Q (.ref p) H'
theorem sc_readNs : FnScope ["self", "size", "numbers"] ["self", "size"] (defScope (inClass (top 37) 3)) := ⟨rfl, rfl, rfl, by decide +kernel, rfl, by decide +kernel, by decide +kernel⟩
theorem cut_mid (ns : List Int) (i m : Nat) (h : i + m ≤ ns.length) : cutV (ns.map V.int) (some (i : Int)) (some ((i : Int) + (m : Int))) = ((ns.drop i).take m).map V.int := by
  unfold cutV
  have e : (i : Int) + (m : Int) = ((i + m : Nat) : Int) := (Int.natCast_add i m).symm
  rw [e, HT.sIx_nat, HT.sIx_nat, List.length_map, Nat.min_eq_left h, Nat.min_eq_left (show i ≤ ns.length by omega), List.map_take, List.map_drop]
  congr 1
  omega
theorem mt_readNs (T : RCls K R) (D : Dm K R "read_numbers" "Reader.read_numbers" 37 3 ["self", "size"]) : Mt P w K mg base 1 R "read_numbers" (spReadNs K R) := by
  refine D.mt sc_readNs (fun vs H Q E h => ?_) (fun f cdv A outer s H vs Q E hr h => ?_)
  · obtain ⟨r, a, i, m, ns, rfl, _⟩ := h
    rfl
  · obtain ⟨r, a, i, m, ns, rfl, ⟨dx, hr0⟩, hs, hl, k⟩ := h
    refine ⟨_, pss_cons (ps_set (i := 2) sc_readNs.nd rfl (Or.inl rfl) (pe_slice sl_list (pe_fld (pv 0) rfl) (po_some (pe_fld (pv 0) rfl)) (po_some (pe_op op_add (pe_fld (pv 0) rfl) (pv 1)))))
      (pss_cons (ps_fldaug (pv 0) (pv 1) in_add) (pss_one (ps_ret (pv 2)))), ?_⟩
    refine ⟨_, rfl, r, R, dx, _, _, rfl, hr0, T.cl, T.nC, lkC a _, _, rfl, r, R, dx, _, _, rfl, hr0, T.cl, T.nA, lkA a _, _, rfl, _, rfl, r, R, dx, _, _, rfl, hr0, T.cl, T.nA, lkA a _, _, rfl, _, _, rfl, rfl, _, rfl, a, _, rfl, hs, fun p hp => ?_⟩
    rw [cut_mid ns i m hl]
    have rp : r ≠ p := fun e => by rw [← e, hr0] at hp; cases hp
    have hr1 : upd H p (.lst (((ns.drop i).take m).map V.int)) r = some (.ins R dx (rF a (i : Int))) := by
      rw [upd_ne rp]
      exact hr0
    refine ⟨_, rfl, r, R, dx, _, _, rfl, hr1, T.cl, T.nA, lkA a _, _, rfl, _, _, rfl, rfl, dx, _, hr1, (by show 2 < 1000; decide), ?_⟩
    rw [ptA]
    refine ⟨_, rfl, k _ p ⟨dx, ?_⟩ (fun b o h hb => ?_) hp ?_⟩
    · rw [upd_same, Int.natCast_add]
    · rw [upd_ne hb, upd_ne (ne_of_none h hp)]
      exact h
    · show upd _ r _ p = _
      rw [upd_ne (Ne.symm rp), upd_same]
/-! Reader.read_given -/
def KTup (K : PySem.W.Frag) (a : Addr) (xs : List V) : Prop := ∃ (o : Obj) (its : Array Value) (n : Nat), K.lookup a = some o ∧ o.cls = .type "tuple" ∧ o.data = .seq its n ∧ its.size ≤ sizeLine ∧ Vals xs its.toList
structure Forms (K : PySem.W.Frag) (mg : Str → Option Value) : Prop where
  ex : ∃ (fa : Addr) (xs : List V), mg "FORMS" = some (.ref fa) ∧ KTup K fa xs ∧ ∀ (c : Int) (n k : Nat), PySr60.shape c = some (n, k) → ∃ ta, atI xs c = some (.ref ta) ∧ KTup K ta [.int (n : Int), .int (k : Int)]
/-- what is given: numbers, then rows -/
def Given (H : Hp) (xs : List V) (nums : List Int) (rows : List (List Int)) : Prop := ∃ bs : List Addr, xs = nums.map V.int ++ bs.map V.ref ∧ Rows H bs rows
def spGiven (K : PySem.W.Frag) (R : Addr) : Sp := fun vs H Q _ => ∃ (r a : Addr) (i : Nat) (ns : List Int) (c : Int) (n k : Nat) (rows : List (List Int)) (t : List Int), vs = [.ref r, .int c] ∧ RAt R H r a i ∧ SqL K H a (ns.map V.int) ∧ PySr60.shape c = some (n, k) ∧ k ≤ 100 ∧ n ≤ 100 ∧ i ≤ ns.length ∧ n ≤ (ns.drop i).length ∧ PyFlat.rows k ((ns.drop i).drop n) = some (rows, t) ∧
  ∀ H' p j xs, RAt R H' r a j → i ≤ j → j ≤ ns.length → But r H H' → H p = none → ns.drop j = t → H' p = some (.lst xs) → Given H' xs ((ns.drop i).take n) rows → Q (.ref p) H'
theorem sc_given : FnScope ["self", "call", "given", "part", "size"] ["self", "call"] (defScope (inClass (top 37) 4)) := ⟨rfl, rfl, rfl, by decide +kernel, rfl, by decide +kernel, by decide +kernel⟩
/-- rows, taken one by one from the left -/
theorem rows_more {k : Nat} {l : List Int} {rows : List (List Int)} {t : List Int} (h : PyFlat.rows (k + 1) l = some (rows, t)) : ∃ x r xs s, l = (x : Int) :: r ∧ 0 ≤ x ∧ x.toNat ≤ r.length ∧ rows = r.take x.toNat :: xs ∧ s = r.drop x.toNat ∧ PyFlat.rows k s = some (xs, t) := by
  rw [PyFlat.rows] at h
  cases l with
  | nil => rw [PyFlat.row] at h; cases h
  | cons x r =>
    rw [PyFlat.row] at h
    by_cases c : 0 ≤ x ∧ x.toNat ≤ r.length
    · rw [if_pos c] at h
      simp only [] at h
      cases e : PyFlat.rows k (r.drop x.toNat) with
      | none => rw [e] at h; cases h
      | some q =>
        obtain ⟨xs, t'⟩ := q
        rw [e] at h
        have := Option.some.inj h
        obtain ⟨rfl, rfl⟩ := Prod.mk.inj this
        exact ⟨x, r, xs, _, rfl, c.1, c.2, rfl, rfl, e⟩
    · rw [if_neg c] at h
      cases h
theorem mt_given (B : Bi mg) (T : RCls K R) (Fo : Forms K mg) (mN : Mt P w K mg base 1 R "read_number" (spReadN K R)) (mNs : Mt P w K mg base 1 R "read_numbers" (spReadNs K R)) (D : Dm K R "read_given" "Reader.read_given" 37 4 ["self", "call"]) : Mt P w K mg base 2 R "read_given" (spGiven K R) := by
  refine D.mt sc_given (fun vs H Q E h => ?_) (fun f cdv A outer s H vs Q E hr h => ?_)
  · obtain ⟨r, a, i, ns, c, n, k, rows, t, rfl, _⟩ := h
    rfl
  · obtain ⟨r, a, i, ns, c, n, m, rows, t, rfl, hR, hs, hc, hm, hn1, hi0, hn, hrows, k⟩ := h
    obtain ⟨fa, fx, hF, hK, hf⟩ := Fo.ex
    obtain ⟨ta, h1, h2⟩ := hf c n m hc
    have q : ∀ H : Hp, SqT K H fa fx := fun H => .inr hK
    have q2 : ∀ H : Hp, SqT K H ta [.int (n : Int), .int (m : Int)] := fun H => .inr h2
    refine ⟨_, pss_cons (ps_set (i := 2) sc_given.nd rfl (Or.inl rfl) (pe_mt mNs T.cl hr (by decide) (pv 0) (pa_cons (pe_ix ix_tup (pe_ix ix_tup (pe_glob (v := .ref fa) rfl hF rfl) (pv 1) (fun _ _ => rfl)) pe_int (fun _ _ => rfl)) pa_nil)))
      (pss_cons (ps_for PassesOwn.never rfl (pi_range1 rfl B.range (pa_cons (pe_ix ix_tup (pe_ix ix_tup (pe_glob (v := .ref fa) rfl hF rfl) (pv 1) (fun _ _ => rfl)) pe_int (fun _ _ => rfl)) pa_nil)) (pg_name (i := 3) sc_given.nd rfl (Or.inl rfl))
        (pss_cons (ps_set (i := 4) sc_given.nd rfl (Or.inl rfl) (pe_mt0 mN T.cl hr (by decide) (pv 0)))
        (pss_one (ps_expr (pe_bm PySem.F.plainAttrs_list PySem.F.slot_list_append PySem.F.type_list_append mt_append (pv 2) (pa_cons (pe_mt mNs T.cl hr (by decide) (pv 0) (pa_cons (pv 4) pa_nil)) pa_nil))))))
      (pss_one (ps_ret (pv 2)))), ?_⟩
    have hR' := hR
    obtain ⟨dx, hr0⟩ := hR'
    refine ⟨_, rfl, r, dx, _, rfl, hr0, nlk a _ (by decide +kernel) (by decide +kernel), _, rfl, fa, _, _, _, rfl, rfl, q _, h1, ta, _, 0, _, rfl, rfl, q2 _, at_of (j := 0) rfl rfl, r, a, i, n, ns, rfl, hR, hs, ?_, fun H1 p R1 b1 np I1 => ?_⟩
    · rw [List.length_drop] at hn
      omega
    refine ⟨_, rfl, fa, _, _, _, rfl, rfl, q _, h1, ta, _, 1, _, rfl, rfl, q2 _, at_of (j := 1) rfl rfl, (m : Int), rfl, by omega, by omega, for_range (lo := 0) (n := m) (fun u σ H' => ∃ (j : Nat) (x y : Option V) (done rest : List (List Int)) (bs : List Addr), σ = [some (.ref r), some (.int c), some (.ref p), x, y] ∧ RAt R H' r a j ∧ i ≤ j ∧ j ≤ ns.length ∧ But r H H' ∧ H' p = some (.lst (((ns.drop i).take n).map V.int ++ bs.map V.ref)) ∧ Rows H' bs done ∧ done.length = u ∧ rows = done ++ rest ∧ PyFlat.rows (m - u) (ns.drop j) = some (rest, t))
      ⟨i + n, none, none, [], rows, [], rfl, R1, by omega, by rw [List.length_drop] at hn; omega, b1, by rw [List.map_nil, List.append_nil]; exact I1, .nil, rfl, rfl, ?_⟩ (fun u σ H2 hu ⟨j, x, y, done, rest, bs, e, R2, ij, jl, b2, hp2, hd, ld, er, hrest⟩ => ?_) (fun σ H2 ⟨j, x, y, done, rest, bs, e, R2, ij, jl, b2, hp2, hd, ld, er, hrest⟩ => ?_)⟩
    · rw [List.drop_drop] at hrows
      exact hrows
    · subst e
      obtain ⟨v, rest', xs', s', e1, e2, e3, e4, e5, e6⟩ := rows_more (k := m - u - 1) (by rw [show m - u - 1 + 1 = m - u by omega]; exact hrest)
      obtain ⟨dx2, hr2⟩ := R2
      have hs2 : SqL K H2 a (ns.map V.int) := b2.seq hr0 hs
      have hv : ns[j]? = some v := by
        have := congrArg (fun l : List Int => l[0]?) e1
        simpa using this
      refine ⟨_, rfl, r, dx2, _, rfl, hr2, nlk a _ (by decide +kernel) (by decide +kernel), r, a, j, ns, v, rfl, ⟨dx2, hr2⟩, hs2, hv, fun H3 R3 b3 => ?_⟩
      obtain ⟨dx3, hr3⟩ := R3
      have pr : p ≠ r := fun z => by rw [z, hr2] at hp2; cases hp2
      have hp3 := b3 _ _ hp2 pr
      have hs3 : SqL K H3 a (ns.map V.int) := b3.seq hr2 hs2
      have ej : ns.drop (j + 1) = rest' := by
        have := congrArg (fun l : List Int => l.drop 1) e1
        simpa [List.drop_drop, Nat.add_comm] using this
      obtain ⟨vn, rfl⟩ : ∃ vn : Nat, v = (vn : Int) := ⟨v.toNat, by omega⟩
      rw [Int.toNat_natCast] at e3 e4 e5
      have jv : j + 1 + vn ≤ ns.length := by
        have := congrArg List.length ej
        rw [List.length_drop] at this
        have l2 := (List.getElem?_eq_some_iff.mp hv).1
        omega
      refine ⟨_, rfl, Or.inl ⟨rfl, _, Or.inl (Or.inl hp3)⟩, _, rfl, r, dx3, _, rfl, hr3, nlk a _ (by decide +kernel) (by decide +kernel), _, rfl, r, a, j + 1, vn, ns, rfl, ⟨dx3, hr3⟩, hs3, ?_, fun H4 b R4 b4 nb I4 => ?_⟩
      · exact jv
      · rw [ej] at I4
        have bp : b ≠ p := fun z => by rw [z, hp3] at nb; cases nb
        have br : b ≠ r := fun z => by rw [z, hr3] at nb; cases nb
        have hp4 := b4 _ _ hp3 pr
        have lbs := hd.length
        refine ⟨p, _, _, rfl, rfl, hp4, ?_, j + 1 + vn, _, _, done ++ [rest'.take vn], xs', bs ++ [b], rfl, ?_, by omega, jv, ?_, ?_, ?_, ?_, ?_, ?_⟩
        · rw [List.length_append, List.length_map, List.length_map, List.length_take, lbs, ld]
          exact small1000 (by omega)
        · obtain ⟨dx4, hr4⟩ := R4
          refine ⟨dx4, ?_⟩
          rw [upd_ne (Ne.symm pr)]
          exact hr4
        · intro d o hdo hdr
          have hdp : d ≠ p := fun z => by rw [z, np] at hdo; cases hdo
          rw [upd_ne hdp]
          exact b4 _ _ (b3 _ _ (b2 _ _ hdo hdr) hdr) hdr
        · rw [upd_same, List.map_append, List.append_assoc]
          rfl
        · refine Rows.snoc (hd.keep fun d hdm o ho => ?_) ?_
          · have hdr : d ≠ r := fun z => by
              obtain ⟨y1, hy1⟩ := List.mem_iff_getElem?.mp hdm
              have hl : y1 < done.length := by
                rw [← lbs]
                exact (List.getElem?_eq_some_iff.mp hy1).1
              obtain ⟨d2, hd2, hI2⟩ := hd.get (List.getElem?_eq_getElem hl)
              obtain rfl := Option.some.inj (hy1.symm.trans hd2)
              have hI3 : H2 d = _ := hI2
              rw [z, hr2] at hI3
              cases hI3
            have hdp : d ≠ p := fun z => by
              obtain ⟨y1, hy1⟩ := List.mem_iff_getElem?.mp hdm
              have hl : y1 < done.length := by
                rw [← lbs]
                exact (List.getElem?_eq_some_iff.mp hy1).1
              obtain ⟨d2, hd2, hI2⟩ := hd.get (List.getElem?_eq_getElem hl)
              obtain rfl := Option.some.inj (hy1.symm.trans hd2)
              have hI3 : H2 d = _ := hI2
              rw [z, hp2] at hI3
              -- a row of ints is no list with a ref in it
              have hb : V.ref d ∈ ((ns.drop i).take n).map V.int ++ bs.map V.ref := List.mem_append.mpr (.inr (List.mem_map.mpr ⟨d, hdm, rfl⟩))
              have hI4 := HO.lst.inj (Option.some.inj hI3)
              rw [hI4] at hb
              obtain ⟨y2, _, hy2⟩ := List.mem_map.mp hb
              cases hy2
            rw [upd_ne hdp]
            exact b4 _ _ (b3 _ _ ho hdr) hdr
          · show upd _ p _ b = _
            rw [upd_ne bp]
            exact I4
        · rw [List.length_append, ld]
          rfl
        · rw [er, e4, List.append_assoc]
          rfl
        · rw [e5, ← ej, List.drop_drop] at e6
          rw [show m - (u + 1) = m - u - 1 by omega]
          exact e6
    · subst e
      have e0 : rest = [] ∧ t = ns.drop j := by
        rw [show m - m = 0 by omega, PyFlat.rows] at hrest
        have := Option.some.inj hrest
        obtain ⟨z1, z2⟩ := Prod.mk.inj this
        exact ⟨z1.symm, z2.symm⟩
      obtain ⟨rfl, rfl⟩ := e0
      rw [List.append_nil] at er
      subst er
      exact ⟨_, rfl, k H2 p j _ R2 ij jl b2 np rfl hp2 ⟨bs, rfl, hd⟩⟩
end
end Sw
namespace Sw
open PySem PySem.Spec PyProof.Rows L2
/-! ### answer(graph, call, given) -/
def callTab : List (Int × Str) := [(0, "begin"), (1, "line"), (2, "ring"), (3, "whole"), (4, "cube"), (5, "power"), (6, "degree"), (7, "even"), (8, "spreads"), (9, "least"), (10, "between"), (11, "staying"), (12, "bound"), (13, "led_from"), (14, "uneven"), (15, "thinnest"), (16, "leaving"), (17, "row")]
structure Calls (K : PySem.W.Frag) (mg : Str → Option Value) : Prop where
  ex : ∃ ca : Addr, mg "CALLS" = some (.ref ca) ∧ ∀ j x, (j, x) ∈ callTab → ∃ f, KInt K ca j (.ref f) ∧ mg x = some (.ref f)
structure Every (P : Program) (w : World) (K : PySem.W.Frag) (mg : Str → Option Value) (base : Heap) (C : Addr) : Prop where
  begin0 : Cl P w K mg base 10 "begin" (spBegin C)
  line : Cl P w K mg base 10 "line" (spC C rdLine)
  ring : Cl P w K mg base 10 "ring" (spC C rdRing)
  whole : Cl P w K mg base 10 "whole" (spC C rdWhole)
  cube : Cl P w K mg base 10 "cube" (spC C rdCube)
  power : Cl P w K mg base 10 "power" (spC C rdPower)
  degree : Cl P w K mg base 10 "degree" (spC C rdDegree)
  even : Cl P w K mg base 10 "even" (spC C rdEven)
  spreads : Cl P w K mg base 10 "spreads" (spC C rdSpreads)
  least : Cl P w K mg base 10 "least" (spC C rdLeast)
  between : Cl P w K mg base 10 "between" (spC C rdBetween)
  staying : Cl P w K mg base 10 "staying" (spC C rdStaying)
  bound : Cl P w K mg base 10 "bound" (spC C rdBound)
  from1 : Cl P w K mg base 10 "led_from" (spC C rdFrom)
  uneven : Cl P w K mg base 10 "uneven" (spC C rdUneven)
  thin : Cl P w K mg base 10 "thinnest" (spC C rdThin)
  leaving : Cl P w K mg base 10 "leaving" (spC C rdLeaving)
  row : Cl P w K mg base 10 "row" (spC C rdRow)
section
variable {P : Program} {w : World} {K : PySem.W.Frag} {mg : Str → Option Value} {base : Heap} {C R : Addr}
theorem held_of {x : Str} {sp : Sp} {f : Addr} {k : Nat} (c : Cl P w K mg base k x sp) (h : mg x = some (.ref f)) : Held P w K mg base k f sp := by
  obtain ⟨f', fd, ps, F, hm, kp, b⟩ := c.ex
  rw [h] at hm
  cases hm
  exact ⟨fd, ps, F, kp, b⟩
/-- the promise of the def that answers this call, for what is given -/
theorem call_promise (E : Every P w K mg base C) (Cs : Calls K mg) {H : Hp} {Q : VK} {ga va : Addr} {st : Sr60.State} {xs : List V} {p : Int} {nums : List Int} {rows : List (List Int)} {sc : Sr60.Call} (hS : StAt C H ga st) (ok : StOk st) (hv : H va = some (.lst xs)) (hG : Given H xs nums rows) (hl : ∀ r ∈ rows, r.length ≤ 1000)
    (hc : Sr60Neutral.callOf ((p :: nums) :: rows) = some sc) (k : ∀ H' q, Post C H H' ga q (Sr60.step st sc) → Q (.ref q) H') (ca : Addr) (hca : mg "CALLS" = some (.ref ca)) :
    (p ≠ 0 ∧ st = none ∧ Sr60.step st sc = (none, Sr60.say (-11))) ∨ ((p = 0 ∨ st ≠ none) ∧ ∃ f sp, KInt K ca p (.ref f) ∧ Held P w K mg base 10 f sp ∧ sp [.ref ga, .ref va] H Q (fun _ _ _ => False)) := by
  obtain ⟨ca', hca', tab⟩ := Cs.ex
  rw [hca] at hca'
  cases hca'
  obtain ⟨bs, rfl, hR⟩ := hG
  have go : ∀ {j : Int} {x : Str} {sp : Sp}, (j, x) ∈ callTab → Cl P w K mg base 10 x sp → sp [.ref ga, .ref va] H Q (fun _ _ _ => False) → ∃ f sp, KInt K ca j (.ref f) ∧ Held P w K mg base 10 f sp ∧ sp [.ref ga, .ref va] H Q (fun _ _ _ => False) := by
    intro j x sp hm c hp
    obtain ⟨f, h1, h2⟩ := tab j x hm
    exact ⟨f, sp, h1, held_of c h2, hp⟩
  cases st with
  | none =>
    unfold Sr60Neutral.callOf at hc
    split at hc
    case h_1 a heq =>
      obtain ⟨⟨rfl, rfl⟩, rfl⟩ : (p = 0 ∧ nums = [a]) ∧ rows = [] := by simpa using heq
      cases hc
      cases hR
      exact .inr ⟨.inl rfl, go (by decide) E.begin0 ⟨ga, va, none, a, rfl, hS, ok, hv, k⟩⟩
    all_goals
      first
      | cases hc; done
      | (rename_i heq
         have z : p ≠ 0 := by
           have := congrArg (fun l : List (List Int) => (l.headD []).headD 0) heq
           simp only [List.headD_cons] at this
           omega
         cases hc
         exact .inl ⟨z, rfl, rfl⟩)
  | some g =>
    refine .inr ⟨.inr (by simp), ?_⟩
    have G := ok g rfl
    have run : ∀ {rd : Hp → List V → Sr60.Call → Prop}, rd H (nums.map V.int ++ bs.map V.ref) sc → spC C rd [.ref ga, .ref va] H Q (fun _ _ _ => False) := fun h => ⟨ga, va, g, _, sc, rfl, hS, G, hv, h, k⟩
    unfold Sr60Neutral.callOf at hc
    split at hc
    case h_1 a heq =>
      obtain ⟨⟨rfl, rfl⟩, rfl⟩ : (p = 0 ∧ nums = [a]) ∧ rows = [] := by simpa using heq
      cases hc
      cases hR
      exact go (by decide) E.begin0 ⟨ga, va, some g, a, rfl, hS, ok, hv, k⟩
    case h_2 a b c heq =>
      obtain ⟨⟨rfl, rfl⟩, rfl⟩ : (p = 1 ∧ nums = [a, b, c]) ∧ rows = [] := by simpa using heq
      cases hc; cases hR
      exact go (by decide) E.line (run ⟨a, b, c, rfl, rfl⟩)
    case h_3 a heq =>
      obtain ⟨⟨rfl, rfl⟩, rfl⟩ : (p = 2 ∧ nums = [a]) ∧ rows = [] := by simpa using heq
      cases hc; cases hR
      exact go (by decide) E.ring (run ⟨a, rfl, rfl⟩)
    case h_4 a heq =>
      obtain ⟨⟨rfl, rfl⟩, rfl⟩ : (p = 3 ∧ nums = [a]) ∧ rows = [] := by simpa using heq
      cases hc; cases hR
      exact go (by decide) E.whole (run ⟨a, rfl, rfl⟩)
    case h_5 heq =>
      obtain ⟨⟨rfl, rfl⟩, rfl⟩ : (p = 4 ∧ nums = []) ∧ rows = [] := by simpa using heq
      cases hc; cases hR
      exact go (by decide) E.cube (run ⟨rfl, rfl⟩)
    case h_6 a heq =>
      obtain ⟨⟨rfl, rfl⟩, rfl⟩ : (p = 5 ∧ nums = [a]) ∧ rows = [] := by simpa using heq
      cases hc; cases hR
      exact go (by decide) E.power (run ⟨a, rfl, rfl⟩)
    case h_7 a heq =>
      obtain ⟨⟨rfl, rfl⟩, rfl⟩ : (p = 6 ∧ nums = [a]) ∧ rows = [] := by simpa using heq
      cases hc; cases hR
      exact go (by decide) E.degree (run ⟨a, rfl, rfl⟩)
    case h_8 heq =>
      obtain ⟨⟨rfl, rfl⟩, rfl⟩ : (p = 7 ∧ nums = []) ∧ rows = [] := by simpa using heq
      cases hc; cases hR
      exact go (by decide) E.even (run ⟨rfl, rfl⟩)
    case h_9 a b heq =>
      obtain ⟨⟨rfl, rfl⟩, rfl⟩ : (p = 8 ∧ nums = [a, b]) ∧ rows = [] := by simpa using heq
      cases hc; cases hR
      exact go (by decide) E.spreads (run ⟨a, b, rfl, rfl⟩)
    case h_10 a heq =>
      obtain ⟨⟨rfl, rfl⟩, rfl⟩ : (p = 9 ∧ nums = [a]) ∧ rows = [] := by simpa using heq
      cases hc; cases hR
      exact go (by decide) E.least (run ⟨a, rfl, rfl⟩)
    case h_11 r t heq =>
      obtain ⟨⟨rfl, rfl⟩, rfl⟩ : (p = 10 ∧ nums = []) ∧ rows = [r, t] := by simpa using heq
      cases hc
      cases hR with
      | cons h1 hR =>
        cases hR with
        | cons h2 hR =>
          cases hR
          exact go (by decide) E.between (run ⟨_, _, r, t, rfl, h1, h2, hl r (by simp), hl t (by simp), rfl⟩)
    case h_12 a r heq =>
      obtain ⟨⟨rfl, rfl⟩, rfl⟩ : (p = 11 ∧ nums = [a]) ∧ rows = [r] := by simpa using heq
      cases hc
      cases hR with
      | cons h1 hR =>
        cases hR
        exact go (by decide) E.staying (run ⟨_, a, r, rfl, h1, hl r (by simp), rfl⟩)
    case h_13 a b c r heq =>
      obtain ⟨⟨rfl, rfl⟩, rfl⟩ : (p = 12 ∧ nums = [a, b, c]) ∧ rows = [r] := by simpa using heq
      cases hc
      cases hR with
      | cons h1 hR =>
        cases hR
        exact go (by decide) E.bound (run ⟨_, a, b, c, r, rfl, h1, hl r (by simp), rfl⟩)
    case h_14 a b heq =>
      obtain ⟨⟨rfl, rfl⟩, rfl⟩ : (p = 13 ∧ nums = [a, b]) ∧ rows = [] := by simpa using heq
      cases hc; cases hR
      exact go (by decide) E.from1 (run ⟨a, b, rfl, rfl⟩)
    case h_15 a b c d heq =>
      obtain ⟨⟨rfl, rfl⟩, rfl⟩ : (p = 14 ∧ nums = [a, b, c, d]) ∧ rows = [] := by simpa using heq
      cases hc; cases hR
      exact go (by decide) E.uneven (run ⟨a, b, c, d, rfl, rfl⟩)
    case h_16 heq =>
      obtain ⟨⟨rfl, rfl⟩, rfl⟩ : (p = 15 ∧ nums = []) ∧ rows = [] := by simpa using heq
      cases hc; cases hR
      exact go (by decide) E.thin (run ⟨rfl, rfl⟩)
    case h_17 r heq =>
      obtain ⟨⟨rfl, rfl⟩, rfl⟩ : (p = 16 ∧ nums = []) ∧ rows = [r] := by simpa using heq
      cases hc
      cases hR with
      | cons h1 hR =>
        cases hR
        exact go (by decide) E.leaving (run ⟨_, r, rfl, h1, hl r (by simp), rfl⟩)
    case h_18 a heq =>
      obtain ⟨⟨rfl, rfl⟩, rfl⟩ : (p = 17 ∧ nums = [a]) ∧ rows = [] := by simpa using heq
      cases hc; cases hR
      exact go (by decide) E.row (run ⟨a, rfl, rfl⟩)
    all_goals cases hc
end
end Sw
namespace Sw
open PySem PySem.Spec PyProof.Rows L2
theorem pe_mkA {X : Cx} {k j : Nat} {C : Addr} {x : Str} {sp : Sp} {p pos : Pos} {e : Expr} {es : List Expr} {t : TA} (c : Ma X.prog X.w X.K X.mg X.base k C sp) (hr : Room j X.A) (hk : k + 1 ≤ j) (hg : Gl X x) (hm : X.mg x = some (.ref C)) (ha : PA X (e :: es) t)
    (hdb : (x == ("__debug__" : Str)) = false := by decide) (he : starEach (e :: es) X.env = (false, eval e X.env) :: starEach es X.env := by rfl) (hpl : (backTo pos (starEach es X.env)).any (·.1) = false := by rfl) :
    PE X (.Call (.Name x p) (e :: es) [] pos) (tMake C sp [] E0 t) := by
  obtain ⟨f, fd, ps, M, F, b⟩ := c.ex
  exact pe_make M F (hr.mono hk) hg hm b .nil pass0 ha hdb he hpl
theorem pe_mkB {X : Cx} {k j : Nat} {C : Addr} {x : Str} {sp : Sp} {p pos : Pos} (c : Ma X.prog X.w X.K X.mg X.base k C sp) (hr : Room j X.A) (hk : k + 1 ≤ j) (hg : Gl X x) (hm : X.mg x = some (.ref C))
    (hdb : (x == ("__debug__" : Str)) = false := by decide) : PE X (.Call (.Name x p) [] [] pos) (tMake C sp [] E0 tNil) := by
  obtain ⟨f, fd, ps, M, F, b⟩ := c.ex
  exact pe_make0 M F (hr.mono hk) hg hm b .nil pass0 hdb
section
variable {P : Program} {w : World} {K : PySem.W.Frag} {mg : Str → Option Value} {base : Heap} {C R : Addr}
/-! answer(graph, call, given) -/
def spAnswer (C : Addr) : Sp := fun vs H Q _ => ∃ (ga va : Addr) (st : Sr60.State) (xs : List V) (p : Int) (nums : List Int) (rows : List (List Int)) (sc : Sr60.Call), vs = [.ref ga, .int p, .ref va] ∧ StAt C H ga st ∧ StOk st ∧ H va = some (.lst xs) ∧ Given H xs nums rows ∧ (∀ r ∈ rows, r.length ≤ 1000) ∧
  Sr60Neutral.callOf ((p :: nums) :: rows) = some sc ∧ ∀ H' q, Post C H H' ga q (Sr60.step st sc) → Q (.ref q) H'
theorem sc_answer : FnScope ["graph", "call", "given"] ["graph", "call", "given"] (defScope (top 64)) := ⟨rfl, rfl, rfl, by decide +kernel, rfl, by decide +kernel, by decide +kernel⟩
theorem stM_len {st : Sr60.State} (ok : StOk st) : (stM st).length = 0 ↔ st = none := by
  cases st with
  | none => exact ⟨fun _ => rfl, fun _ => rfl⟩
  | some g =>
    have h := (ok g rfl).n1
    refine ⟨fun z => ?_, fun z => by cases z⟩
    have : (gints g).length = 0 := z
    rw [ints_len] at this
    omega
theorem cl_answer (L : Lib P w K mg base C) (E : Every P w K mg base C) (Cs : Calls K mg) (D : Df K mg "answer" 64 ["graph", "call", "given"]) : Cl P w K mg base 11 "answer" (spAnswer C) := by
  refine D.cl sc_answer (fun vs H Q E h => ?_) (fun f cdv A0 outer s H vs Q E' hr h => ?_)
  · obtain ⟨ga, va, st, xs, p, nums, rows, sc, rfl, _⟩ := h
    rfl
  · obtain ⟨ga, va, st, xs, p, nums, rows, sc, rfl, hS, ok, hv, hG, hl, hc, k⟩ := h
    have Cs' := Cs
    obtain ⟨ca, hca, _⟩ := Cs'.ex
    refine ⟨_, pss_cons (ps_if (PW.pt (pw_and (pt_cmpR op_ne (pv 1) (pe_cst L.t.begin0 rfl) (nomark _)) (pw_and1 (pt_cmpR op_eq (pe_callB call_len_seq (by rfl) L.b.len boot_len (pa_cons (pe_fld (pv 0) rfl) pa_nil)) pe_int (nomark _))))) (pss_one (ps_ret (pe_lst (pa_cons (pe_cst L.t.notBegun rfl) pa_nil)))) pss_nil)
      (pss_one (ps_ret (pe_callX (k := 10) (Hd := fun f sp => Held P w K mg base 10 f sp) (fun _ _ h => h) hr (pe_ix ix_kint (pe_glob (v := .ref ca) rfl hca rfl) (pv 1) (fun _ _ => rfl)) (pa_cons (pv 0) (pa_cons (pv 2) pa_nil))))), ?_⟩
    have hS' := hS
    obtain ⟨la, ⟨dx, hg⟩, hm⟩ := hS'
    obtain ⟨as, ha, ln⟩ := hm.len
    have key := call_promise E Cs (Q := Q) hS ok hv hG hl hc k ca hca
    have goOn : (∃ f sp, KInt K ca p (.ref f) ∧ Held P w K mg base 10 f sp ∧ sp [.ref ga, .ref va] H Q (fun _ _ _ => False)) → tRet (tCallX (fun f sp => Held P w K mg base 10 f sp) (tOp (rIxI K) (tC (.ref ca)) (tVar 1)) (tCons (tVar 0) (tCons (tVar 2) tNil))) { nx := fun _ H' => Q .non H', rt := Q } (L2.start ["graph", "call", "given"] [.ref ga, .int p, .ref va]) H := by
      rintro ⟨f1, sp1, h1, h2, h3⟩
      exact ⟨_, rfl, ca, p, _, rfl, rfl, h1, f1, sp1, rfl, h2, _, rfl, _, rfl, h3⟩
    refine ⟨_, rfl, rfl, _, rfl, ite2 (fun c => ?_) (fun c => iteF ?_)⟩
    · have c' : p ≠ 0 := fun z => by
        rw [z] at c
        simp at c
      refine ⟨_, rfl, ga, C, dx, _, _, rfl, hg, L.c.cl, L.c.nL, lkL la, la, _, rfl, .inl (SqL.of ha), rfl, _, rfl, ?_⟩
      rw [List.length_map, ln]
      refine ite2 (fun d => ?_) (fun d => ?_)
      · have d' : (stM st).length = 0 := by
          have := V.int.inj (of_decide_eq_true d)
          omega
        rcases key with ⟨_, _, h⟩ | ⟨h, _⟩
        · rename_i hst
          subst hst
          exact ⟨(by show 1 ≤ sizeLine; decide), fun q hq => k _ q (Post.ret1 hS ok (Same.refl _) hq h)⟩
        · rcases h with h | h
          · exact absurd h c'
          · exact absurd ((stM_len ok).mp d') h
      · have d' : ¬ (stM st).length = 0 := fun z => d (decide_eq_true (by rw [z]; rfl))
        rcases key with ⟨_, h, _⟩ | ⟨_, h⟩
        · exact absurd ((stM_len ok).mpr h) d'
        · exact goOn h
    · have c' : p = 0 := by
        refine Decidable.byContradiction fun z => c ?_
        have : ¬ V.int p = V.int 0 := fun y => z (V.int.inj y)
        simp [this]
      rcases key with ⟨h, _⟩ | ⟨_, h⟩
      · exact absurd c' h
      · exact goOn h
/-! answers(calls) -/
def spAns (K : PySem.W.Frag) : Sp := fun vs H Q _ => ∃ (a : Addr) (ns : List Int), vs = [.ref a] ∧ SqL K H a (ns.map V.int) ∧ PySr60.answers_asked ns = true ∧
  ∀ (H' : Hp) (p : Addr), H' p = some (.lst ((PySr60.answers ns).map V.int)) → Q (.ref p) H'
theorem sc_answers : FnScope ["calls", "graph", "reader", "told", "call", "numbers"] ["calls"] (defScope (top 65)) := ⟨rfl, rfl, rfl, by decide +kernel, rfl, by decide +kernel, by decide +kernel⟩
theorem whole_id (c : List (List Int)) : PySr60.whole c = c := by
  unfold PySr60.whole
  split <;> rfl
/-- what is asked, opened -/
theorem asked_open {ns : List Int} (h : PySr60.answers_asked ns = true) : ∃ raw, PyFlat.calls PySr60.shape ns.length ns = some raw ∧ (∀ c ∈ raw, Sr60Neutral.asked1 c = true) ∧ PySr60.answers ns = PyFlat.told (PyFlat.played Sr60Neutral.step Sr60Neutral.start raw) ∧ (PySr60.answers ns).length ≤ 10000000 := by
  unfold PySr60.answers_asked at h
  cases e : PyFlat.calls PySr60.shape ns.length ns with
  | none => rw [e] at h; cases h
  | some raw =>
    rw [e] at h
    simp only [Bool.and_eq_true] at h
    obtain ⟨⟨⟨⟨_, _⟩, _⟩, h4⟩, h5⟩ := h
    have em : raw.map PySr60.whole = raw := by
      have : PySr60.whole = id := funext whole_id
      rw [this, List.map_id]
    refine ⟨raw, rfl, fun c hc => ?_, ?_, of_decide_eq_true h5⟩
    · rw [em] at h4
      unfold Sr60Neutral.asked at h4
      simp only [Bool.and_eq_true] at h4
      exact List.all_eq_true.mp h4.2.2 c hc
    · show (match PySr60.calls ns with | none => [] | some cs => PyFlat.told (PyFlat.played Sr60Neutral.step Sr60Neutral.start cs)) = _
      have : PySr60.calls ns = some raw := by
        show (match PyFlat.calls PySr60.shape ns.length ns with | none => none | some cs => some (cs.map PySr60.whole)) = _
        rw [e]
        show some (raw.map PySr60.whole) = some raw
        rw [em]
      rw [this]
theorem row_len {r : List Int} (h : Sr60Neutral.row r = true) : r.length ≤ 1000 := by
  unfold Sr60Neutral.row at h
  rw [Bool.and_eq_true, decide_eq_true_eq] at h
  omega
theorem asked_call {c : List (List Int)} (h : Sr60Neutral.asked1 c = true) : (∃ sc, Sr60Neutral.callOf c = some sc) ∧ ∀ r ∈ c.drop 1, r.length ≤ 1000 := by
  unfold Sr60Neutral.asked1 at h
  split at h
  all_goals first
    | (cases h; done)
    | (refine ⟨⟨_, rfl⟩, fun r hr => ?_⟩
       first
       | (cases hr; done)
       | (try simp only [Bool.and_eq_true] at h
          simp only [List.drop_succ_cons, List.drop_zero, List.mem_cons, List.not_mem_nil, or_false] at hr
          first
          | (rcases hr with rfl | rfl
             · exact row_len h.1
             · exact row_len h.2)
          | (rw [hr]; exact row_len h.2)
          | (rw [hr]; exact row_len h)))
theorem calls_more {f : Nat} {p : Int} {rest : List Int} {cs : List (List (List Int))} (h : PyFlat.calls PySr60.shape f (p :: rest) = some cs) : ∃ f' n k rows t cs', PySr60.shape p = some (n, k) ∧ n ≤ rest.length ∧ PyFlat.rows k (rest.drop n) = some (rows, t) ∧ cs = ((p :: rest.take n) :: rows) :: cs' ∧ PyFlat.calls PySr60.shape f' t = some cs' := by
  cases f with
  | zero => rw [PyFlat.calls] at h; cases h
  | succ f =>
    rw [PyFlat.calls, PyFlat.call] at h
    cases e : PySr60.shape p with
    | none => rw [e] at h; cases h
    | some nk =>
      obtain ⟨n, k⟩ := nk
      rw [e] at h
      simp only [] at h
      by_cases c : rest.length < n
      · rw [if_pos c] at h
        cases h
      · rw [if_neg c] at h
        cases e2 : PyFlat.rows k (rest.drop n) with
        | none => rw [e2] at h; cases h
        | some q =>
          obtain ⟨rows, t⟩ := q
          rw [e2] at h
          simp only [] at h
          cases e3 : PyFlat.calls PySr60.shape f t with
          | none => rw [e3] at h; cases h
          | some cs' =>
            rw [e3] at h
            have := Option.some.inj h
            exact ⟨f, n, k, rows, t, cs', rfl, by omega, e2, this.symm, e3⟩
theorem shape_le {p : Int} {n k : Nat} (h : PySr60.shape p = some (n, k)) : n ≤ 100 ∧ k ≤ 100 := by
  have tab : (((List.range 18).map fun (j : Nat) => (j : Int)).all fun j => match PySr60.shape j with | none => true | some (n, k) => decide (n ≤ 100 ∧ k ≤ 100)) = true := by decide +kernel
  by_cases c : p ∈ (List.range 18).map fun (j : Nat) => (j : Int)
  · have q := List.all_eq_true.mp tab p c
    rw [h] at q
    exact of_decide_eq_true q
  · exfalso
    have ne : ∀ j : Nat, j < 18 → p ≠ (j : Int) := fun j hj e => c (List.mem_map.mpr ⟨j, List.mem_range.mpr hj, e.symm⟩)
    unfold PySr60.shape at h
    rw [if_neg (show p ≠ 0 from ne 0 (by decide)), if_neg (show p ≠ 1 from ne 1 (by decide)), if_neg (show p ≠ 2 from ne 2 (by decide)), if_neg (show p ≠ 3 from ne 3 (by decide)), if_neg (show p ≠ 4 from ne 4 (by decide)), if_neg (show p ≠ 5 from ne 5 (by decide)), if_neg (show p ≠ 6 from ne 6 (by decide)), if_neg (show p ≠ 7 from ne 7 (by decide)), if_neg (show p ≠ 8 from ne 8 (by decide)), if_neg (show p ≠ 9 from ne 9 (by decide)), if_neg (show p ≠ 10 from ne 10 (by decide)), if_neg (show p ≠ 11 from ne 11 (by decide)), if_neg (show p ≠ 12 from ne 12 (by decide)), if_neg (show p ≠ 13 from ne 13 (by decide)), if_neg (show p ≠ 14 from ne 14 (by decide)), if_neg (show p ≠ 15 from ne 15 (by decide)), if_neg (show p ≠ 16 from ne 16 (by decide)), if_neg (show p ≠ 17 from ne 17 (by decide))] at h
    cases h
structure AIn (C R : Addr) (H0 : Hp) (a ga r : Addr) (ns : List Int) (m : Nat) (σ : L2.St) (H : Hp) : Prop where
  ex : ∃ (i : Nat) (st : Sr60.State) (tp : Addr) (x y : Option V) (cs : List (List (List Int))) (f : Nat) (told : List Int), σ = [some (.ref a), some (.ref ga), some (.ref r), some (.ref tp), x, y] ∧ Same H0 H ∧ RAt R H r a i ∧ StAt C H ga st ∧ StOk st ∧ H0 tp = none ∧ IntsAt H tp told ∧ i ≤ ns.length ∧ m = ns.length - i ∧
    PyFlat.calls PySr60.shape f (ns.drop i) = some cs ∧ (∀ c ∈ cs, Sr60Neutral.asked1 c = true) ∧ told ++ PyFlat.told (PyFlat.played Sr60Neutral.step st cs) = PySr60.answers ns ∧ Sep C H ga tp
theorem fn_answers (L : Lib P w K mg base C) (T : RCls K R) (gG : mg "Graph" = some (.ref C)) (gR : mg "Reader" = some (.ref R)) (mG : Ma P w K mg base 1 C (spGInit C)) (mR : Ma P w K mg base 1 R (spRInit R)) (mE : Mt P w K mg base 1 R "ended" (spEnded K R)) (mN : Mt P w K mg base 1 R "read_number" (spReadN K R)) (mV : Mt P w K mg base 2 R "read_given" (spGiven K R))
    (cA : Cl P w K mg base 11 "answer" (spAnswer C)) {fA : Addr} {fdA : FuncData} (F : Fun K "answers" "answers" (top 65) fA fdA) : FnOk P w K mg base CX0 12 fA fdA ["calls"] (spAns K) := by
  refine F.ok sc_answers (fun vs H Q E h => ?_) (fun cdv A0 outer s H vs Q E' hr h => ?_)
  · obtain ⟨a, ns, rfl, _⟩ := h
    rfl
  · obtain ⟨a, ns, rfl, hs, hask, k⟩ := h
    refine ⟨_, pss_cons (ps_set (i := 1) sc_answers.nd rfl (Or.inl rfl) (pe_mkB mG hr (by decide) rfl gG))
      (pss_cons (ps_set (i := 2) sc_answers.nd rfl (Or.inl rfl) (pe_mkA mR hr (by decide) rfl gR (pa_cons (pv 0) pa_nil)))
      (pss_cons (ps_set (i := 3) sc_answers.nd rfl (Or.inl rfl) (pe_lst pa_nil))
      (pss_cons (ps_while PassesOwn.never (pt_not (pt_val (pe_mt0 mE T.cl hr (by decide) (pv 2))))
        (pss_cons (ps_set (i := 4) sc_answers.nd rfl (Or.inl rfl) (pe_mt0 mN T.cl hr (by decide) (pv 2)))
        (pss_cons (ps_set (i := 5) sc_answers.nd rfl (Or.inl rfl) (pe_cl cA hr (by decide) rfl (pa_cons (pv 1) (pa_cons (pv 4) (pa_cons (pe_mt mV T.cl hr (by decide) (pv 2) (pa_cons (pv 4) pa_nil)) pa_nil)))))
        (pss_cons (ps_expr (pe_bm PySem.F.plainAttrs_list PySem.F.slot_list_append PySem.F.type_list_append mt_append (pv 3) (pa_cons (pe_callB call_len_seq (by rfl) L.b.len boot_len (pa_cons (pv 5) pa_nil)) pa_nil)))
        (pss_one (ps_expr (pe_bm PySem.F.plainAttrs_list PySem.F.slot_list_extend PySem.F.type_list_extend mt_extend (pv 3) (pa_cons (pv 5) pa_nil))))))))
      (pss_one (ps_ret (pv 3)))))), ?_⟩
    obtain ⟨raw, hraw, hasked, hans, hlen⟩ := asked_open hask
    -- graph = Graph()
    intro ga dg nga ndg nedg
    refine ⟨ga, dg, rfl, upd_same, fun H1 S1 b1 => ⟨rfl, ?_⟩⟩
    have s1 : Same H H1 := Same.made nga ndg b1
    -- reader = Reader(calls)
    refine ⟨_, rfl, fun r dr nr ndr nedr => ⟨r, dr, a, rfl, upd_same, fun H2 R2 b2 => ⟨rfl, ?_⟩⟩⟩
    have s2 : Same H1 H2 := Same.made nr ndr b2
    have gr : ga ≠ r := fun z => by
      obtain ⟨la, ⟨dx, h⟩, _⟩ := S1
      rw [z, nr] at h
      cases h
    have S2 : StAt C H2 ga none := by
      obtain ⟨la, h⟩ := S1
      exact ⟨la, h.same s2⟩
    have nr0 : H r = none := s1.free nr
    -- told = []
    refine ⟨by decide, fun tp htp => ?_⟩
    have s3 : Same H2 (upd H2 tp (.lst [])) := same_upd (Same.refl _) htp
    have s03 := (s1.trans s2).trans s3
    refine ⟨fun m σ H' => AIn C R H a ga r ns m σ H', ⟨ns.length, 0, none, tp, none, none, raw, ns.length, [], rfl, s03, ?_, ?_, fun g e => by (cases e), (s1.trans s2).free htp, upd_same, Nat.zero_le _, rfl, hraw, hasked, hans.symm, ?_⟩, ?_⟩
    · obtain ⟨dx, h⟩ := R2
      exact ⟨dx, s3 _ _ h⟩
    · obtain ⟨la, h⟩ := S2
      exact ⟨la, h.same s3⟩
    · obtain ⟨la, ⟨dx, h1⟩, as, h2, h3⟩ := S2
      cases h3
      exact ⟨la, dx, [], s3 _ _ h1, s3 _ _ h2, (fun z => by rw [z, htp] at h2; cases h2), fun z => (nomatch z)⟩
    rintro m σ H3 ⟨i, st, tp, x, y, cs, f1, told, rfl, s4, R4, S4, ok4, ntp, I4, hi, rfl, hcs, hask4, htold, hsep⟩
    have R4' := R4
    obtain ⟨dx4, hr4⟩ := R4'
    have hs4 : SqL K H3 a (ns.map V.int) := s4.seq hs
    refine ⟨_, rfl, r, dx4, _, rfl, hr4, nlk a _ (by decide +kernel) (by decide +kernel), r, a, i, ns, rfl, R4, hs4, _, rfl, ite2 (fun c => ?_) (fun c => ?_)⟩
    · have c' : i < ns.length := by
        have : ¬ (ns.length : Int) ≤ (i : Int) := by simpa using c
        omega
      obtain ⟨p, hp⟩ : ∃ p, ns[i]? = some p := ⟨ns[i], by simp [c']⟩
      have ed : ns.drop i = p :: ns.drop (i + 1) := by
        rw [List.drop_eq_getElem_cons c']
        congr 1
        exact Option.some.inj ((List.getElem?_eq_getElem c').symm.trans hp)
      rw [ed] at hcs
      obtain ⟨f', n, kk, rows, t, cs', e1, e2, e3, rfl, e5⟩ := calls_more hcs
      have hl := shape_le e1
      have ha1 := hask4 _ (List.mem_cons_self ..)
      obtain ⟨⟨sc, hsc⟩, hrl⟩ := asked_call ha1
      refine ⟨fun σ' H' => ∃ m', m' < ns.length - i ∧ AIn C R H a ga r ns m' σ' H', fun _ _ h => h, ?_⟩
      -- call = reader.read_number()
      refine ⟨_, rfl, r, dx4, _, rfl, hr4, nlk a _ (by decide +kernel) (by decide +kernel), r, a, i, ns, p, rfl, R4, hs4, hp, fun H4 R5 b5 => ?_⟩
      have R5' := R5
      obtain ⟨dx5, hr5⟩ := R5'
      have hs5 : SqL K H4 a (ns.map V.int) := b5.seq hr4 hs4
      -- numbers = answer(graph, call, reader.read_given(call))
      refine ⟨_, rfl, _, rfl, _, rfl, r, dx5, _, rfl, hr5, nlk a _ (by decide +kernel) (by decide +kernel), _, rfl, r, a, i + 1, ns, p, n, kk, rows, t, rfl, R5, hs5, e1, hl.2, hl.1, by omega, e2, e3, fun H5 va j xs R6 ij jl b6 nva hj hva hGv => ?_⟩
      have b46 : But r H3 H5 := b5.trans b6
      have st_keep : ∀ {H' H'' : Hp}, But r H' H'' → StAt C H' ga st → (∃ dx fs, H' r = some (.ins R dx fs)) → StAt C H'' ga st := by
        rintro H' H'' b ⟨la, ⟨dx, h1⟩, as, h2, h3⟩ ⟨dxr, fsr, hr⟩
        have nl : ∀ c xs, H' c = some (.lst xs) → c ≠ r := fun c xs h z => by
          rw [z, hr] at h
          cases h
        refine ⟨la, ⟨dx, b _ _ h1 gr⟩, as, b _ _ h2 (nl _ _ h2), h3.keep fun c hc o ho => b _ _ ho ?_⟩
        obtain ⟨y1, hy1⟩ := List.mem_iff_getElem?.mp hc
        have hl : y1 < (stM st).length := by
          rw [← h3.length]
          exact (List.getElem?_eq_some_iff.mp hy1).1
        obtain ⟨d2, hd2, hI2⟩ := h3.get (List.getElem?_eq_getElem hl)
        obtain rfl := Option.some.inj (hy1.symm.trans hd2)
        exact nl _ _ hI2
      have S5 : StAt C H5 ga st := st_keep b6 (st_keep b5 S4 ⟨_, _, hr4⟩) ⟨_, _, hr5⟩
      refine ⟨ga, va, st, xs, p, _, rows, sc, rfl, S5, ok4, hva, hGv, fun r' hr' => hrl r' hr', hsc, fun H6 q PO => ?_⟩
      -- told
      have sep_keep : ∀ {H' H'' : Hp}, But r H' H'' → Sep C H' ga tp → (∃ dx fs, H' r = some (.ins R dx fs)) → Sep C H'' ga tp := by
        rintro H' H'' b ⟨la, dx, as, h1, h2, h3, h4⟩ ⟨dxr, fsr, hr⟩
        exact ⟨la, dx, as, b _ _ h1 gr, b _ _ h2 (fun z => by rw [z, hr] at h2; cases h2), h3, h4⟩
      have sep5 : Sep C H5 ga tp := sep_keep b6 (sep_keep b5 hsep ⟨_, _, hr4⟩) ⟨_, _, hr5⟩
      have tr : tp ≠ r := fun z => by
        have h' : H3 tp = _ := I4
        rw [z, hr4] at h'
        cases h'
      have tg : tp ≠ ga := fun z => by
        obtain ⟨la, ⟨dx, h1⟩, _⟩ := S4
        have h' : H3 tp = _ := I4
        rw [z, h1] at h'
        cases h'
      have I5 : IntsAt H5 tp told := b46 _ _ I4 tr
      have I6 : IntsAt H6 tp told := PO.kept _ _ I5 tg
      have sep6 : Sep C H6 ga tp := PO.sep tp _ I5 sep5
      have qt : q ≠ tp := fun z => by
        have h' : H5 tp = _ := I5
        rw [← z, PO.new] at h'
        cases h'
      have step_eq : Sr60Neutral.step st ((p :: (ns.drop (i + 1)).take n) :: rows) = ((Sr60.step st sc).1, (Sr60.step st sc).2.num :: (Sr60.step st sc).2.nums) := by
        unfold Sr60Neutral.step
        rw [hsc]
      have total : told ++ ((((Sr60.step st sc).2.num :: (Sr60.step st sc).2.nums).length : Int) :: ((Sr60.step st sc).2.num :: (Sr60.step st sc).2.nums) ++ PyFlat.told (PyFlat.played Sr60Neutral.step (Sr60.step st sc).1 cs')) = PySr60.answers ns := by
        rw [← htold, PyFlat.played, step_eq]
        rfl
      have tlen : told.length + 1 + ((Sr60.step st sc).2.num :: (Sr60.step st sc).2.nums).length ≤ 10000000 := by
        have := congrArg List.length total
        rw [List.length_append, List.length_append, List.length_cons] at this
        omega
      have sl : 10000001 ≤ sizeLine := by decide
      refine ⟨_, rfl, Or.inl ⟨rfl, _, Or.inl (Or.inl I6)⟩, _, rfl, q, _, rfl, .inl (SqL.of PO.res), tp, _, _, rfl, rfl, I6, ?_, ?_⟩
      · rw [List.length_map]
        omega
      refine ⟨_, rfl, Or.inl ⟨rfl, _, Or.inl (Or.inl upd_same)⟩, _, rfl, tp, q, _, _, rfl, rfl, upd_same, by rw [upd_ne qt]; exact PO.res, ?_, ?_⟩
      · rw [List.length_append, List.length_map, List.length_map]
        simp only [List.length_cons, List.length_nil] at tlen ⊢
        omega
      rw [upd_upd]
      have s6 : Same H H6 := fun b o h => by
        have hbr : b ≠ r := fun z => by rw [z, nr0] at h; cases h
        have hbg : b ≠ ga := fun z => by rw [z, nga] at h; cases h
        exact PO.kept _ _ (b46 _ _ (s4 b o h) hbr) hbg
      have heq : told.map V.int ++ [V.int (((((Sr60.step st sc).2.num :: (Sr60.step st sc).2.nums).map V.int).length : Nat) : Int)] ++ ((Sr60.step st sc).2.num :: (Sr60.step st sc).2.nums).map V.int = (told ++ ((((Sr60.step st sc).2.num :: (Sr60.step st sc).2.nums).length : Int) :: ((Sr60.step st sc).2.num :: (Sr60.step st sc).2.nums))).map V.int := by
        rw [List.length_map, List.map_append, List.map_cons, List.append_assoc]
        rfl
      refine ⟨ns.length - j, by omega, j, (Sr60.step st sc).1, tp, _, _, cs', f', _, rfl, same_upd s6 ntp, ?_, ?_, PO.good, ntp, (by show upd _ tp _ tp = _; rw [upd_same, heq]), jl, rfl, by rw [hj]; exact e5, fun c hc => hask4 c (List.mem_cons_of_mem _ hc), ?_, ?_⟩
      · obtain ⟨dx6, hr6⟩ := R6
        refine ⟨dx6, ?_⟩
        rw [upd_ne (Ne.symm tr)]
        exact PO.kept _ _ hr6 (Ne.symm gr)
      · obtain ⟨la, ⟨dx, h1⟩, as, h2, h3⟩ := PO.obj
        obtain ⟨la', dx', as', g1, g2, g3, g4⟩ := sep6
        have e7 := h1.symm.trans g1
        have e8 : la = la' := by
          have := Option.some.inj e7
          injection this with _ _ e9
          injection e9 with e10 _
          injection e10 with _ e11
          exact V.ref.inj e11
        subst e8
        have e12 := HO.lst.inj (Option.some.inj (h2.symm.trans g2))
        have e13 : as = as' := by
          have inj : ∀ {x y : List Addr}, x.map V.ref = y.map V.ref → x = y := by
            intro x
            induction x with
            | nil => intro y h; cases y with
              | nil => rfl
              | cons _ _ => cases h
            | cons a x ih => intro y h; cases y with
              | nil => cases h
              | cons b y =>
                rw [List.map_cons, List.map_cons] at h
                injection h with h1 h2
                rw [V.ref.inj h1, ih h2]
          exact inj e12
        subst e13
        refine ⟨la, ⟨dx, by rw [upd_ne (Ne.symm tg)]; exact h1⟩, as, by rw [upd_ne g3]; exact h2, h3.keep fun b hb o ho => ?_⟩
        have nb : b ≠ tp := fun z => g4 (z ▸ hb)
        rw [upd_ne nb]
        exact ho
      · rw [← total, List.append_assoc]
      · obtain ⟨la', dx', as', g1, g2, g3, g4⟩ := sep6
        exact ⟨la', dx', as', by rw [upd_ne (Ne.symm tg)]; exact g1, by rw [upd_ne g3]; exact g2, g3, g4⟩
    · have c' : i = ns.length := by
        have : (ns.length : Int) ≤ (i : Int) := by simpa using c
        omega
      subst c'
      rw [List.drop_length] at hcs
      have ecs : cs = [] := by
        cases f1 with
        | zero => rw [PyFlat.calls] at hcs; exact (Option.some.inj hcs).symm
        | succ f1 => rw [PyFlat.calls] at hcs; exact (Option.some.inj hcs).symm
      subst ecs
      refine ⟨_, rfl, k H3 tp ?_⟩
      have : told = PySr60.answers ns := by
        rw [← htold]
        show told = told ++ []
        rw [List.append_nil]
      rw [← this]
      exact I4
end
end Sw
namespace Sw
open PySem PySem.Spec PyProof.Rows L2
/-! ### What the top has written -/
structure Top (K : PySem.W.Frag) (mg : Str → Option Value) (C R : Addr) : Prop where
  b : Bi mg
  t : Csts mg
  c : GCls K C
  r : RCls K R
  fo : Forms K mg
  cs : Calls K mg
  gG : mg "Graph" = some (.ref C)
  gR : mg "Reader" = some (.ref R)
  gi : Di K C "Graph.__init__" 36 0 ["self"]
  ri : Di K R "Reader.__init__" 37 0 ["self", "calls"]
  re : Dm K R "ended" "Reader.ended" 37 1 ["self"]
  rn : Dm K R "read_number" "Reader.read_number" 37 2 ["self"]
  rs : Dm K R "read_numbers" "Reader.read_numbers" 37 3 ["self", "size"]
  rg : Dm K R "read_given" "Reader.read_given" 37 4 ["self", "call"]
  d1 : Df K mg "zeros" 1 ["n"]
  d2 : Df K mg "identity" 2 ["n"]
  d3 : Df K mg "copied" 3 ["matrix"]
  d4 : Df K mg "column" 4 ["matrix", "place"]
  d5 : Df K mg "dot" 5 ["ones", "others"]
  d6 : Df K mg "product" 6 ["first", "second"]
  d7 : Df K mg "walks" 7 ["lines", "k"]
  d8 : Df K mg "behind_first" 8 ["matrix"]
  d9 : Df K mg "cleared_row" 9 ["row", "first", "divisor"]
  d10 : Df K mg "never_below_zero" 10 ["matrix"]
  d11 : Df K mg "raised" 11 ["base", "k"]
  d12 : Df K mg "common_degree" 12 ["lines"]
  d13 : Df K mg "spread_matrix" 13 ["lines", "p", "q"]
  d14 : Df K mg "spreads_by" 14 ["lines", "p", "q"]
  d15 : Df K mg "least_share" 15 ["lines", "q"]
  d16 : Df K mg "lines_between" 16 ["lines", "ones", "others"]
  d17 : Df K mg "others_than" 17 ["lines", "places"]
  d18 : Df K mg "staying_walks" 18 ["lines", "places", "k"]
  d19 : Df K mg "sets_of_places" 19 ["n"]
  d38 : Df K mg "is_place" 38 ["graph", "u"]
  d39 : Df K mg "are_places" 39 ["graph", "places"]
  d40 : Df K mg "too_many_from_some" 40 ["lines"]
  d41 : Df K mg "set_lines" 41 ["lines", "u", "v", "c"]
  d42 : Df K mg "are_shares" 42 ["p", "q"]
  d43 : Df K mg "are_steps" 43 ["k"]
  d44 : Df K mg "begin" 44 ["graph", "given"]
  d45 : Df K mg "line" 45 ["graph", "given"]
  d46 : Df K mg "ring" 46 ["graph", "given"]
  d47 : Df K mg "whole" 47 ["graph", "given"]
  d48 : Df K mg "cube" 48 ["graph", "given"]
  d49 : Df K mg "power" 49 ["graph", "given"]
  d50 : Df K mg "degree" 50 ["graph", "given"]
  d51 : Df K mg "even" 51 ["graph", "given"]
  d52 : Df K mg "spreads" 52 ["graph", "given"]
  d53 : Df K mg "least" 53 ["graph", "given"]
  d54 : Df K mg "between" 54 ["graph", "given"]
  d55 : Df K mg "staying" 55 ["graph", "given"]
  d56 : Df K mg "bound" 56 ["graph", "given"]
  d57 : Df K mg "led_from" 57 ["graph", "given"]
  d58 : Df K mg "uneven" 58 ["graph", "given"]
  d59 : Df K mg "count_leaving" 59 ["graph", "places"]
  d60 : Df K mg "thinnest" 60 ["graph", "given"]
  d61 : Df K mg "leaving" 61 ["graph", "given"]
  d62 : Df K mg "row" 62 ["graph", "given"]
  d64 : Df K mg "answer" 64 ["graph", "call", "given"]
section
variable {P : Program} {w : World} {K : PySem.W.Frag} {mg : Str → Option Value} {base : Heap} {C R : Addr}
theorem top_fn (T : Top K mg C R) {fA : Addr} {fdA : FuncData} (F : Fun K "answers" "answers" (top 65) fA fdA) : FnOk P w K mg base CX0 12 fA fdA ["calls"] (spAns K) := by
  have zeros : Cl P w K mg base 1 "zeros" spZeros := cl_zeros T.b T.d1
  have identity : Cl P w K mg base 2 "identity" spIdentity := cl_identity T.b zeros T.d2
  have copied : Cl P w K mg base 1 "copied" spCopied := cl_copied T.b T.d3
  have column : Cl P w K mg base 1 "column" spColumn := cl_column T.d4
  have dot : Cl P w K mg base 1 "dot" (spDot K) := cl_dot T.b T.d5
  have product : Cl P w K mg base 2 "product" (spProduct K) := cl_product T.b column dot T.d6
  have walks : Cl P w K mg base 3 "walks" (spWalks K) := cl_walks T.b identity product T.d7
  have behind : Cl P w K mg base 1 "behind_first" spBehind := cl_behind T.d8
  have cleared : Cl P w K mg base 1 "cleared_row" (spCleared K) := cl_cleared T.b T.d9
  have never : Cl P w K mg base 2 "never_below_zero" (spNever K) := cl_never T.b copied cleared behind T.d10
  have raised : Cl P w K mg base 1 "raised" spRaised := cl_raised T.b T.d11
  have common : Cl P w K mg base 1 "common_degree" (spCommon K) := cl_common T.b T.d12
  have spread : Cl P w K mg base 4 "spread_matrix" (spSpread K) := cl_spread T.b common walks T.d13
  have spreadsBy : Cl P w K mg base 5 "spreads_by" (spSpreadsBy K) := cl_spreadsBy never spread T.d14
  have least : Cl P w K mg base 6 "least_share" (spLeast K) := cl_least spreadsBy T.d15
  have betw : Cl P w K mg base 1 "lines_between" (spBetw K) := cl_betw T.b T.d16
  have others : Cl P w K mg base 1 "others_than" (spOthers K) := cl_others T.b T.d17
  have stay : Cl P w K mg base 2 "staying_walks" (spStay K) := cl_stay T.b dot T.d18
  have sets : Cl P w K mg base 1 "sets_of_places" spSets := cl_sets T.b T.d19
  have isPlace : Cl P w K mg base 1 "is_place" (spIsPlace C) := cl_isPlace T.b T.c T.d38
  have arePlaces : Cl P w K mg base 2 "are_places" (spArePlaces C) := cl_arePlaces T.b isPlace T.d39
  have tooMany : Cl P w K mg base 1 "too_many_from_some" (spTooMany K) := cl_tooMany T.b T.t T.d40
  have setLines : Cl P w K mg base 1 "set_lines" (spSetLines K) := cl_setLines T.d41
  have shares : Cl P w K mg base 1 "are_shares" spShares := cl_shares T.t T.d42
  have steps : Cl P w K mg base 1 "are_steps" spSteps := cl_steps T.t T.d43
  have L : Lib P w K mg base C := ⟨T.b, T.t, T.c, zeros, copied, dot, walks, raised, common, spreadsBy, least, betw, others, stay, sets, isPlace, arePlaces, tooMany, setLines, shares, steps⟩
  have leav : Cl P w K mg base 9 "count_leaving" (spLeav C) := cl_leav L T.d59
  have E : Every P w K mg base C := ⟨cl_begin L T.d44, cl_line L T.d45, cl_ring L T.d46, cl_whole L T.d47, cl_cube L T.d48, cl_power L T.d49, cl_degree L T.d50, cl_even L T.d51, cl_spreads L T.d52, cl_leastC L T.d53, cl_between L T.d54, cl_staying L T.d55, cl_bound L T.d56, cl_from L T.d57, cl_uneven L T.d58, cl_thin L leav T.d60, cl_leaving L leav T.d61, cl_row L T.d62⟩
  have mN : Mt P w K mg base 1 R "read_number" (spReadN K R) := mt_readN T.r T.rn
  have mNs : Mt P w K mg base 1 R "read_numbers" (spReadNs K R) := mt_readNs T.r T.rs
  exact fn_answers L T.r T.gG T.gR (ma_graph T.c T.gi) (ma_reader T.r T.ri) (mt_ended T.b T.r T.re) mN (mt_given T.b T.r T.fo mN mNs T.rg) (cl_answer L E T.cs T.d64) F
end
/-! ### .. found in the heap that it left -/
section
variable {K : PySem.W.Frag} {h : Heap} {mg : Str → Option Value}
theorem df_mk {x : Str} {i : Nat} {ps : List Str} {f : Addr} {oc kV dc pm cd ct : Value} {od an : Option Addr} {sl : Array (Option Value)} (X : K.In h) (G : h.Ns mainGlobals mg) (a : PySem.W.nsIn K mainGlobals x = some (some (.ref f)))
    (l : K.lookup f = some ⟨oc, od, .func (PySem.W.fnOf x x (defArgs (top i)) (defBody (top i)) (defScope (top i)) .none kV dc pm an cd ct), sl⟩) (c : PySem.W.codeIn K cd x = true) (k : PySem.W.keepIn K (.ref f) = true)
    (b : ∀ (kV doc pm : Value) (an : Option Addr) (cdv ct : Value) (us : List Value), us.length = ps.length → bindArgs (PySem.W.fnOf x x (defArgs (top i)) (defBody (top i)) (defScope (top i)) .none kV doc pm an cdv ct) ⟨us, []⟩ = pure (ps.zip us)) : Df K mg x i ps := by
  have F := fun_mk (st := top i) l c k
  exact ⟨f, _, F, PySem.W.mg_of X G a, F.binds b⟩
theorem dm_mk {C : Addr} {m qual : Str} {i j : Nat} {ps : List Str} {f : Addr} {oc kV dc pm cd ct : Value} {od an : Option Addr} {sl : Array (Option Value)} (a : PySem.W.findIn K (.ref C) m = some (some (.ref f))) (q : PySem.W.isFn K (.ref f) = true)
    (l : K.lookup f = some ⟨oc, od, .func (PySem.W.fnOf m qual (defArgs (inClass (top i) j)) (defBody (inClass (top i) j)) (defScope (inClass (top i) j)) .none kV dc pm an cd ct), sl⟩) (c : PySem.W.codeIn K cd qual = true) (k : PySem.W.keepIn K (.ref f) = true)
    (b : ∀ (kV doc pm : Value) (an : Option Addr) (cdv ct : Value) (us : List Value), us.length = ps.length → bindArgs (PySem.W.fnOf m qual (defArgs (inClass (top i) j)) (defBody (inClass (top i) j)) (defScope (inClass (top i) j)) .none kV doc pm an cdv ct) ⟨us, []⟩ = pure (ps.zip us)) : Dm K C m qual i j ps := by
  have F := fun_mk (st := inClass (top i) j) l c k
  exact ⟨f, _, F, ⟨a, q, k⟩, F.binds b⟩
theorem di_mk {C : Addr} {qual : Str} {i j : Nat} {ps : List Str} {f : Addr} {oc kV dc pm cd ct : Value} {od an : Option Addr} {sl : Array (Option Value)} (a : PySem.W.findIn K (.ref C) "__init__" = some (some (.ref f))) (q : PySem.W.isFn K (.ref f) = true)
    (l : K.lookup f = some ⟨oc, od, .func (PySem.W.fnOf "__init__" qual (defArgs (inClass (top i) j)) (defBody (inClass (top i) j)) (defScope (inClass (top i) j)) .none kV dc pm an cd ct), sl⟩) (c : PySem.W.codeIn K cd qual = true) (k : PySem.W.keepIn K (.ref f) = true) (mk : PySem.W.makesIn K C = true) (kc : PySem.W.keepIn K (.ref C) = true)
    (b : ∀ (kV doc pm : Value) (an : Option Addr) (cdv ct : Value) (us : List Value), us.length = ps.length → bindArgs (PySem.W.fnOf "__init__" qual (defArgs (inClass (top i) j)) (defBody (inClass (top i) j)) (defScope (inClass (top i) j)) .none kV doc pm an cdv ct) ⟨us, []⟩ = pure (ps.zip us)) : Di K C qual i j ps := by
  have F := fun_mk (st := inClass (top i) j) l c k
  exact ⟨f, _, F, ⟨mk, a, q, kc⟩, F.binds b⟩
theorem cst_mk {x : Str} {i : Int} {t : Tok} (X : K.In h) (G : h.Ns mainGlobals mg) (a : PySem.W.nsIn K mainGlobals x = some (some (.int i t))) : Cst mg x i := ⟨t, PySem.W.mg_of X G a⟩
def tupObj (its : Array Value) (o : Option Addr) (n : Nat) (s : Array (Option Value)) : Obj := ⟨.type "tuple", o, .seq its n, s⟩
theorem forms_mk {fa t0 t1 t2 t3 t4 t5 t6 t7 t8 t9 t10 t11 t12 t13 t14 t15 t16 t17 : Addr} {o o0 o1 o2 o3 o4 o5 o6 o7 o8 o9 o10 o11 o12 o13 o14 o15 o16 o17 : Option Addr} {n n0 n1 n2 n3 n4 n5 n6 n7 n8 n9 n10 n11 n12 n13 n14 n15 n16 n17 : Nat} {s s0 s1 s2 s3 s4 s5 s6 s7 s8 s9 s10 s11 s12 s13 s14 s15 s16 s17 : Array (Option Value)} {x0 y0 x1 y1 x2 y2 x3 y3 x4 y4 x5 y5 x6 y6 x7 y7 x8 y8 x9 y9 x10 y10 x11 y11 x12 y12 x13 y13 x14 y14 x15 y15 x16 y16 x17 y17 : Tok} (X : K.In h) (G : h.Ns mainGlobals mg) (a : PySem.W.nsIn K mainGlobals "FORMS" = some (some (.ref fa)))
    (l : K.lookup fa = some ⟨.type "tuple", o, .seq #[.ref t0, .ref t1, .ref t2, .ref t3, .ref t4, .ref t5, .ref t6, .ref t7, .ref t8, .ref t9, .ref t10, .ref t11, .ref t12, .ref t13, .ref t14, .ref t15, .ref t16, .ref t17] n, s⟩)
    (l0 : K.lookup t0 = some ⟨.type "tuple", o0, .seq #[.int 1 x0, .int 0 y0] n0, s0⟩) (l1 : K.lookup t1 = some ⟨.type "tuple", o1, .seq #[.int 3 x1, .int 0 y1] n1, s1⟩) (l2 : K.lookup t2 = some ⟨.type "tuple", o2, .seq #[.int 1 x2, .int 0 y2] n2, s2⟩) (l3 : K.lookup t3 = some ⟨.type "tuple", o3, .seq #[.int 1 x3, .int 0 y3] n3, s3⟩) (l4 : K.lookup t4 = some ⟨.type "tuple", o4, .seq #[.int 0 x4, .int 0 y4] n4, s4⟩) (l5 : K.lookup t5 = some ⟨.type "tuple", o5, .seq #[.int 1 x5, .int 0 y5] n5, s5⟩) (l6 : K.lookup t6 = some ⟨.type "tuple", o6, .seq #[.int 1 x6, .int 0 y6] n6, s6⟩) (l7 : K.lookup t7 = some ⟨.type "tuple", o7, .seq #[.int 0 x7, .int 0 y7] n7, s7⟩) (l8 : K.lookup t8 = some ⟨.type "tuple", o8, .seq #[.int 2 x8, .int 0 y8] n8, s8⟩) (l9 : K.lookup t9 = some ⟨.type "tuple", o9, .seq #[.int 1 x9, .int 0 y9] n9, s9⟩) (l10 : K.lookup t10 = some ⟨.type "tuple", o10, .seq #[.int 0 x10, .int 2 y10] n10, s10⟩) (l11 : K.lookup t11 = some ⟨.type "tuple", o11, .seq #[.int 1 x11, .int 1 y11] n11, s11⟩) (l12 : K.lookup t12 = some ⟨.type "tuple", o12, .seq #[.int 3 x12, .int 1 y12] n12, s12⟩) (l13 : K.lookup t13 = some ⟨.type "tuple", o13, .seq #[.int 2 x13, .int 0 y13] n13, s13⟩) (l14 : K.lookup t14 = some ⟨.type "tuple", o14, .seq #[.int 4 x14, .int 0 y14] n14, s14⟩) (l15 : K.lookup t15 = some ⟨.type "tuple", o15, .seq #[.int 0 x15, .int 0 y15] n15, s15⟩) (l16 : K.lookup t16 = some ⟨.type "tuple", o16, .seq #[.int 0 x16, .int 1 y16] n16, s16⟩) (l17 : K.lookup t17 = some ⟨.type "tuple", o17, .seq #[.int 1 x17, .int 0 y17] n17, s17⟩) : Forms K mg := by
  refine ⟨fa, [V.ref t0, V.ref t1, V.ref t2, V.ref t3, V.ref t4, V.ref t5, V.ref t6, V.ref t7, V.ref t8, V.ref t9, V.ref t10, V.ref t11, V.ref t12, V.ref t13, V.ref t14, V.ref t15, V.ref t16, V.ref t17], PySem.W.mg_of X G a, ⟨_, _, _, l, rfl, rfl, (by show 18 ≤ sizeLine; decide), .cons rfl (.cons rfl (.cons rfl (.cons rfl (.cons rfl (.cons rfl (.cons rfl (.cons rfl (.cons rfl (.cons rfl (.cons rfl (.cons rfl (.cons rfl (.cons rfl (.cons rfl (.cons rfl (.cons rfl (.cons rfl (.nil))))))))))))))))))⟩, fun c n k hc => ?_⟩
  obtain ⟨j, hj, rfl⟩ : ∃ j : Nat, j < 18 ∧ c = (j : Int) := by
    refine Decidable.byContradiction fun z => ?_
    have ne : ∀ j : Nat, j < 18 → c ≠ (j : Int) := fun j hj e => z ⟨j, hj, e⟩
    unfold PySr60.shape at hc
    rw [if_neg (show c ≠ 0 from ne 0 (by decide)), if_neg (show c ≠ 1 from ne 1 (by decide)), if_neg (show c ≠ 2 from ne 2 (by decide)), if_neg (show c ≠ 3 from ne 3 (by decide)), if_neg (show c ≠ 4 from ne 4 (by decide)), if_neg (show c ≠ 5 from ne 5 (by decide)), if_neg (show c ≠ 6 from ne 6 (by decide)), if_neg (show c ≠ 7 from ne 7 (by decide)), if_neg (show c ≠ 8 from ne 8 (by decide)), if_neg (show c ≠ 9 from ne 9 (by decide)), if_neg (show c ≠ 10 from ne 10 (by decide)), if_neg (show c ≠ 11 from ne 11 (by decide)), if_neg (show c ≠ 12 from ne 12 (by decide)), if_neg (show c ≠ 13 from ne 13 (by decide)), if_neg (show c ≠ 14 from ne 14 (by decide)), if_neg (show c ≠ 15 from ne 15 (by decide)), if_neg (show c ≠ 16 from ne 16 (by decide)), if_neg (show c ≠ 17 from ne 17 (by decide))] at hc
    cases hc
  have two : ∀ {t : Addr} {o : Option Addr} {a b : Int} {x y : Tok} {n : Nat} {s : Array (Option Value)}, K.lookup t = some ⟨.type "tuple", o, .seq #[.int a x, .int b y] n, s⟩ → KTup K t [.int a, .int b] := fun l => ⟨_, _, _, l, rfl, rfl, (by show 2 ≤ sizeLine; decide), .cons ⟨_, rfl⟩ (.cons ⟨_, rfl⟩ .nil)⟩
  match j, hj with
  | 0, _ =>
    have e : (n, k) = (1, 0) := Option.some.inj (hc.symm.trans (show PySr60.shape ((0 : Nat) : Int) = some (1, 0) from rfl))
    obtain ⟨rfl, rfl⟩ := Prod.mk.inj e
    exact ⟨t0, at_of (j := 0) rfl rfl, two l0⟩
  | 1, _ =>
    have e : (n, k) = (3, 0) := Option.some.inj (hc.symm.trans (show PySr60.shape ((1 : Nat) : Int) = some (3, 0) from rfl))
    obtain ⟨rfl, rfl⟩ := Prod.mk.inj e
    exact ⟨t1, at_of (j := 1) rfl rfl, two l1⟩
  | 2, _ =>
    have e : (n, k) = (1, 0) := Option.some.inj (hc.symm.trans (show PySr60.shape ((2 : Nat) : Int) = some (1, 0) from rfl))
    obtain ⟨rfl, rfl⟩ := Prod.mk.inj e
    exact ⟨t2, at_of (j := 2) rfl rfl, two l2⟩
  | 3, _ =>
    have e : (n, k) = (1, 0) := Option.some.inj (hc.symm.trans (show PySr60.shape ((3 : Nat) : Int) = some (1, 0) from rfl))
    obtain ⟨rfl, rfl⟩ := Prod.mk.inj e
    exact ⟨t3, at_of (j := 3) rfl rfl, two l3⟩
  | 4, _ =>
    have e : (n, k) = (0, 0) := Option.some.inj (hc.symm.trans (show PySr60.shape ((4 : Nat) : Int) = some (0, 0) from rfl))
    obtain ⟨rfl, rfl⟩ := Prod.mk.inj e
    exact ⟨t4, at_of (j := 4) rfl rfl, two l4⟩
  | 5, _ =>
    have e : (n, k) = (1, 0) := Option.some.inj (hc.symm.trans (show PySr60.shape ((5 : Nat) : Int) = some (1, 0) from rfl))
    obtain ⟨rfl, rfl⟩ := Prod.mk.inj e
    exact ⟨t5, at_of (j := 5) rfl rfl, two l5⟩
  | 6, _ =>
    have e : (n, k) = (1, 0) := Option.some.inj (hc.symm.trans (show PySr60.shape ((6 : Nat) : Int) = some (1, 0) from rfl))
    obtain ⟨rfl, rfl⟩ := Prod.mk.inj e
    exact ⟨t6, at_of (j := 6) rfl rfl, two l6⟩
  | 7, _ =>
    have e : (n, k) = (0, 0) := Option.some.inj (hc.symm.trans (show PySr60.shape ((7 : Nat) : Int) = some (0, 0) from rfl))
    obtain ⟨rfl, rfl⟩ := Prod.mk.inj e
    exact ⟨t7, at_of (j := 7) rfl rfl, two l7⟩
  | 8, _ =>
    have e : (n, k) = (2, 0) := Option.some.inj (hc.symm.trans (show PySr60.shape ((8 : Nat) : Int) = some (2, 0) from rfl))
    obtain ⟨rfl, rfl⟩ := Prod.mk.inj e
    exact ⟨t8, at_of (j := 8) rfl rfl, two l8⟩
  | 9, _ =>
    have e : (n, k) = (1, 0) := Option.some.inj (hc.symm.trans (show PySr60.shape ((9 : Nat) : Int) = some (1, 0) from rfl))
    obtain ⟨rfl, rfl⟩ := Prod.mk.inj e
    exact ⟨t9, at_of (j := 9) rfl rfl, two l9⟩
  | 10, _ =>
    have e : (n, k) = (0, 2) := Option.some.inj (hc.symm.trans (show PySr60.shape ((10 : Nat) : Int) = some (0, 2) from rfl))
    obtain ⟨rfl, rfl⟩ := Prod.mk.inj e
    exact ⟨t10, at_of (j := 10) rfl rfl, two l10⟩
  | 11, _ =>
    have e : (n, k) = (1, 1) := Option.some.inj (hc.symm.trans (show PySr60.shape ((11 : Nat) : Int) = some (1, 1) from rfl))
    obtain ⟨rfl, rfl⟩ := Prod.mk.inj e
    exact ⟨t11, at_of (j := 11) rfl rfl, two l11⟩
  | 12, _ =>
    have e : (n, k) = (3, 1) := Option.some.inj (hc.symm.trans (show PySr60.shape ((12 : Nat) : Int) = some (3, 1) from rfl))
    obtain ⟨rfl, rfl⟩ := Prod.mk.inj e
    exact ⟨t12, at_of (j := 12) rfl rfl, two l12⟩
  | 13, _ =>
    have e : (n, k) = (2, 0) := Option.some.inj (hc.symm.trans (show PySr60.shape ((13 : Nat) : Int) = some (2, 0) from rfl))
    obtain ⟨rfl, rfl⟩ := Prod.mk.inj e
    exact ⟨t13, at_of (j := 13) rfl rfl, two l13⟩
  | 14, _ =>
    have e : (n, k) = (4, 0) := Option.some.inj (hc.symm.trans (show PySr60.shape ((14 : Nat) : Int) = some (4, 0) from rfl))
    obtain ⟨rfl, rfl⟩ := Prod.mk.inj e
    exact ⟨t14, at_of (j := 14) rfl rfl, two l14⟩
  | 15, _ =>
    have e : (n, k) = (0, 0) := Option.some.inj (hc.symm.trans (show PySr60.shape ((15 : Nat) : Int) = some (0, 0) from rfl))
    obtain ⟨rfl, rfl⟩ := Prod.mk.inj e
    exact ⟨t15, at_of (j := 15) rfl rfl, two l15⟩
  | 16, _ =>
    have e : (n, k) = (0, 1) := Option.some.inj (hc.symm.trans (show PySr60.shape ((16 : Nat) : Int) = some (0, 1) from rfl))
    obtain ⟨rfl, rfl⟩ := Prod.mk.inj e
    exact ⟨t16, at_of (j := 16) rfl rfl, two l16⟩
  | 17, _ =>
    have e : (n, k) = (1, 0) := Option.some.inj (hc.symm.trans (show PySr60.shape ((17 : Nat) : Int) = some (1, 0) from rfl))
    obtain ⟨rfl, rfl⟩ := Prod.mk.inj e
    exact ⟨t17, at_of (j := 17) rfl rfl, two l17⟩
  | j + 18, h => exact absurd h (by omega)
theorem calls_mk {ca f0 f1 f2 f3 f4 f5 f6 f7 f8 f9 f10 f11 f12 f13 f14 f15 f16 f17 : Addr} {n : Nat} {h0 h1 h2 h3 h4 h5 h6 h7 h8 h9 h10 h11 h12 h13 h14 h15 h16 h17 : Int} {x0 x1 x2 x3 x4 x5 x6 x7 x8 x9 x10 x11 x12 x13 x14 x15 x16 x17 : Tok} (X : K.In h) (G : h.Ns mainGlobals mg) (a : PySem.W.nsIn K mainGlobals "CALLS" = some (some (.ref ca)))
    (l : K.lookup ca = some ⟨.type "dict", none, .dict #[⟨h0, .int 0 x0, .ref f0⟩, ⟨h1, .int 1 x1, .ref f1⟩, ⟨h2, .int 2 x2, .ref f2⟩, ⟨h3, .int 3 x3, .ref f3⟩, ⟨h4, .int 4 x4, .ref f4⟩, ⟨h5, .int 5 x5, .ref f5⟩, ⟨h6, .int 6 x6, .ref f6⟩, ⟨h7, .int 7 x7, .ref f7⟩, ⟨h8, .int 8 x8, .ref f8⟩, ⟨h9, .int 9 x9, .ref f9⟩, ⟨h10, .int 10 x10, .ref f10⟩, ⟨h11, .int 11 x11, .ref f11⟩, ⟨h12, .int 12 x12, .ref f12⟩, ⟨h13, .int 13 x13, .ref f13⟩, ⟨h14, .int 14 x14, .ref f14⟩, ⟨h15, .int 15 x15, .ref f15⟩, ⟨h16, .int 16 x16, .ref f16⟩, ⟨h17, .int 17 x17, .ref f17⟩] n, #[]⟩)
    (hh : [h0, h1, h2, h3, h4, h5, h6, h7, h8, h9, h10, h11, h12, h13, h14, h15, h16, h17] = [hashInt 0, hashInt 1, hashInt 2, hashInt 3, hashInt 4, hashInt 5, hashInt 6, hashInt 7, hashInt 8, hashInt 9, hashInt 10, hashInt 11, hashInt 12, hashInt 13, hashInt 14, hashInt 15, hashInt 16, hashInt 17])
    (a0 : PySem.W.nsIn K mainGlobals "begin" = some (some (.ref f0))) (a1 : PySem.W.nsIn K mainGlobals "line" = some (some (.ref f1))) (a2 : PySem.W.nsIn K mainGlobals "ring" = some (some (.ref f2))) (a3 : PySem.W.nsIn K mainGlobals "whole" = some (some (.ref f3))) (a4 : PySem.W.nsIn K mainGlobals "cube" = some (some (.ref f4))) (a5 : PySem.W.nsIn K mainGlobals "power" = some (some (.ref f5))) (a6 : PySem.W.nsIn K mainGlobals "degree" = some (some (.ref f6))) (a7 : PySem.W.nsIn K mainGlobals "even" = some (some (.ref f7))) (a8 : PySem.W.nsIn K mainGlobals "spreads" = some (some (.ref f8))) (a9 : PySem.W.nsIn K mainGlobals "least" = some (some (.ref f9))) (a10 : PySem.W.nsIn K mainGlobals "between" = some (some (.ref f10))) (a11 : PySem.W.nsIn K mainGlobals "staying" = some (some (.ref f11))) (a12 : PySem.W.nsIn K mainGlobals "bound" = some (some (.ref f12))) (a13 : PySem.W.nsIn K mainGlobals "led_from" = some (some (.ref f13))) (a14 : PySem.W.nsIn K mainGlobals "uneven" = some (some (.ref f14))) (a15 : PySem.W.nsIn K mainGlobals "thinnest" = some (some (.ref f15))) (a16 : PySem.W.nsIn K mainGlobals "leaving" = some (some (.ref f16))) (a17 : PySem.W.nsIn K mainGlobals "row" = some (some (.ref f17))) : Calls K mg := by
  simp only [List.cons.injEq, and_true] at hh
  obtain ⟨rfl, rfl, rfl, rfl, rfl, rfl, rfl, rfl, rfl, rfl, rfl, rfl, rfl, rfl, rfl, rfl, rfl, rfl⟩ := hh
  refine ⟨ca, PySem.W.mg_of X G a, fun j x hm => ?_⟩
  have all : ∀ e ∈ (#[⟨hashInt 0, .int 0 x0, .ref f0⟩, ⟨hashInt 1, .int 1 x1, .ref f1⟩, ⟨hashInt 2, .int 2 x2, .ref f2⟩, ⟨hashInt 3, .int 3 x3, .ref f3⟩, ⟨hashInt 4, .int 4 x4, .ref f4⟩, ⟨hashInt 5, .int 5 x5, .ref f5⟩, ⟨hashInt 6, .int 6 x6, .ref f6⟩, ⟨hashInt 7, .int 7 x7, .ref f7⟩, ⟨hashInt 8, .int 8 x8, .ref f8⟩, ⟨hashInt 9, .int 9 x9, .ref f9⟩, ⟨hashInt 10, .int 10 x10, .ref f10⟩, ⟨hashInt 11, .int 11 x11, .ref f11⟩, ⟨hashInt 12, .int 12 x12, .ref f12⟩, ⟨hashInt 13, .int 13 x13, .ref f13⟩, ⟨hashInt 14, .int 14 x14, .ref f14⟩, ⟨hashInt 15, .int 15 x15, .ref f15⟩, ⟨hashInt 16, .int 16 x16, .ref f16⟩, ⟨hashInt 17, .int 17 x17, .ref f17⟩] : Array DictEntry).toList, ∃ i t, e.key = .int i t ∧ e.hash = hashInt i := by
    intro e he
    simp only [List.mem_cons, List.not_mem_nil, or_false] at he
    rcases he with rfl | rfl | rfl | rfl | rfl | rfl | rfl | rfl | rfl | rfl | rfl | rfl | rfl | rfl | rfl | rfl | rfl | rfl <;> exact ⟨_, _, rfl, rfl⟩
  have one : ∀ {k : Int} {f : Addr}, findBy Value.isInt (#[⟨hashInt 0, .int 0 x0, .ref f0⟩, ⟨hashInt 1, .int 1 x1, .ref f1⟩, ⟨hashInt 2, .int 2 x2, .ref f2⟩, ⟨hashInt 3, .int 3 x3, .ref f3⟩, ⟨hashInt 4, .int 4 x4, .ref f4⟩, ⟨hashInt 5, .int 5 x5, .ref f5⟩, ⟨hashInt 6, .int 6 x6, .ref f6⟩, ⟨hashInt 7, .int 7 x7, .ref f7⟩, ⟨hashInt 8, .int 8 x8, .ref f8⟩, ⟨hashInt 9, .int 9 x9, .ref f9⟩, ⟨hashInt 10, .int 10 x10, .ref f10⟩, ⟨hashInt 11, .int 11 x11, .ref f11⟩, ⟨hashInt 12, .int 12 x12, .ref f12⟩, ⟨hashInt 13, .int 13 x13, .ref f13⟩, ⟨hashInt 14, .int 14 x14, .ref f14⟩, ⟨hashInt 15, .int 15 x15, .ref f15⟩, ⟨hashInt 16, .int 16 x16, .ref f16⟩, ⟨hashInt 17, .int 17 x17, .ref f17⟩] : Array DictEntry) k = some (.ref f) → KInt K ca k (.ref f) := fun q => ⟨_, _, _, l, all, q, rfl⟩
  simp only [callTab, List.mem_cons, List.not_mem_nil, or_false, Prod.mk.injEq] at hm
  rcases hm with ⟨rfl, rfl⟩ | ⟨rfl, rfl⟩ | ⟨rfl, rfl⟩ | ⟨rfl, rfl⟩ | ⟨rfl, rfl⟩ | ⟨rfl, rfl⟩ | ⟨rfl, rfl⟩ | ⟨rfl, rfl⟩ | ⟨rfl, rfl⟩ | ⟨rfl, rfl⟩ | ⟨rfl, rfl⟩ | ⟨rfl, rfl⟩ | ⟨rfl, rfl⟩ | ⟨rfl, rfl⟩ | ⟨rfl, rfl⟩ | ⟨rfl, rfl⟩ | ⟨rfl, rfl⟩ | ⟨rfl, rfl⟩
  · exact ⟨f0, one (by rfl), PySem.W.mg_of X G a0⟩
  · exact ⟨f1, one (by rfl), PySem.W.mg_of X G a1⟩
  · exact ⟨f2, one (by rfl), PySem.W.mg_of X G a2⟩
  · exact ⟨f3, one (by rfl), PySem.W.mg_of X G a3⟩
  · exact ⟨f4, one (by rfl), PySem.W.mg_of X G a4⟩
  · exact ⟨f5, one (by rfl), PySem.W.mg_of X G a5⟩
  · exact ⟨f6, one (by rfl), PySem.W.mg_of X G a6⟩
  · exact ⟨f7, one (by rfl), PySem.W.mg_of X G a7⟩
  · exact ⟨f8, one (by rfl), PySem.W.mg_of X G a8⟩
  · exact ⟨f9, one (by rfl), PySem.W.mg_of X G a9⟩
  · exact ⟨f10, one (by rfl), PySem.W.mg_of X G a10⟩
  · exact ⟨f11, one (by rfl), PySem.W.mg_of X G a11⟩
  · exact ⟨f12, one (by rfl), PySem.W.mg_of X G a12⟩
  · exact ⟨f13, one (by rfl), PySem.W.mg_of X G a13⟩
  · exact ⟨f14, one (by rfl), PySem.W.mg_of X G a14⟩
  · exact ⟨f15, one (by rfl), PySem.W.mg_of X G a15⟩
  · exact ⟨f16, one (by rfl), PySem.W.mg_of X G a16⟩
  · exact ⟨f17, one (by rfl), PySem.W.mg_of X G a17⟩
end
end Sw
namespace Sw
open PySem PySem.Spec PyProof.Rows L2
theorem end_mk {P : Program} {w : World} {K : PySem.W.Frag} {h : Heap} {mg : Str → Option Value} {fa C R f : Addr} {oc kV dc pm cd ct : Value} {od an : Option Addr} {sl : Array (Option Value)} (X : K.In h) (G : h.Ns mainGlobals mg) (hfa : mg "answers" = some (.ref fa)) (T : Top K mg C R) (a : PySem.W.nsIn K mainGlobals "answers" = some (some (.ref f)))
    (l : K.lookup f = some ⟨oc, od, .func (PySem.W.fnOf "answers" "answers" (defArgs (top 65)) (defBody (top 65)) (defScope (top 65)) .none kV dc pm an cd ct), sl⟩) (c : PySem.W.codeIn K cd "answers" = true) (k : PySem.W.keepIn K (.ref f) = true) :
    ∃ fd : FuncData, (∀ (s : Shared) (us : List Value), us.length = (["calls"] : List Str).length → BindsTo s fd ⟨us, []⟩ ((["calls"] : List Str).zip us)) ∧ ∀ base : Heap, K.In base → base.Ns mainGlobals mg → FnOk P w K mg base CX0 12 fa fd ["calls"] (spAns K) := by
  have e := hfa.symm.trans (PySem.W.mg_of X G a)
  cases e
  have F := fun_mk (st := top 65) l c k
  exact ⟨PySem.W.fnOf "answers" "answers" (defArgs (top 65)) (defBody (top 65)) (defScope (top 65)) .none kV dc pm an cd ct, fun s us hu => match us, hu with | [_], _ => .of_eq rfl, fun base _ _ => top_fn T F⟩
end Sw
open PySem PySem.W PyProof.Rows
set_option maxRecDepth 100000 in
set_option maxHeartbeats 40000000 in
theorem PySem.Challenge.cw_spreadwalks_s01_answers_holds : PySem.Challenge.rw_spreadwalks_s01_answers.Holds := by
  w_on; k_headS; (case hw => exact ⟨[.list [.int 4]], by decide +kernel, by decide +kernel⟩)
  k_fillS
  refine L2.walk_specK (r := PySem.Challenge.rw_spreadwalks_s01_answers) (k := 12) (CX := L2.CX0) (ps := ["calls"]) (sp := Sw.spAns) (by decide +kernel) rfl rfl ⟨rfl, by decide, by decide⟩ (fun w h Y => PySem.W.kIn_of Y) ?F ?S (fun _ _ _ _ z => z)
  case F =>
    intro w mg fa h Y KX G hmg
    have d1 : Sw.Df (PySem.Challenge.cw_spreadwalks_s01_answers_holds.heap_1 w.params) mg "zeros" 1 ["n"] := by
      refine' Sw.df_mk KX G ?a ?l ?c ?k (fun _ _ _ _ _ _ us hl => match us, hl with | [_], _ => rfl)
      (case a => k_is); (case l => k_is); (case c => k_is); (case k => k_is)
    have d2 : Sw.Df (PySem.Challenge.cw_spreadwalks_s01_answers_holds.heap_1 w.params) mg "identity" 2 ["n"] := by
      refine' Sw.df_mk KX G ?a ?l ?c ?k (fun _ _ _ _ _ _ us hl => match us, hl with | [_], _ => rfl)
      (case a => k_is); (case l => k_is); (case c => k_is); (case k => k_is)
    have d3 : Sw.Df (PySem.Challenge.cw_spreadwalks_s01_answers_holds.heap_1 w.params) mg "copied" 3 ["matrix"] := by
      refine' Sw.df_mk KX G ?a ?l ?c ?k (fun _ _ _ _ _ _ us hl => match us, hl with | [_], _ => rfl)
      (case a => k_is); (case l => k_is); (case c => k_is); (case k => k_is)
    have d4 : Sw.Df (PySem.Challenge.cw_spreadwalks_s01_answers_holds.heap_1 w.params) mg "column" 4 ["matrix", "place"] := by
      refine' Sw.df_mk KX G ?a ?l ?c ?k (fun _ _ _ _ _ _ us hl => match us, hl with | [_, _], _ => rfl)
      (case a => k_is); (case l => k_is); (case c => k_is); (case k => k_is)
    have d5 : Sw.Df (PySem.Challenge.cw_spreadwalks_s01_answers_holds.heap_1 w.params) mg "dot" 5 ["ones", "others"] := by
      refine' Sw.df_mk KX G ?a ?l ?c ?k (fun _ _ _ _ _ _ us hl => match us, hl with | [_, _], _ => rfl)
      (case a => k_is); (case l => k_is); (case c => k_is); (case k => k_is)
    have d6 : Sw.Df (PySem.Challenge.cw_spreadwalks_s01_answers_holds.heap_1 w.params) mg "product" 6 ["first", "second"] := by
      refine' Sw.df_mk KX G ?a ?l ?c ?k (fun _ _ _ _ _ _ us hl => match us, hl with | [_, _], _ => rfl)
      (case a => k_is); (case l => k_is); (case c => k_is); (case k => k_is)
    have d7 : Sw.Df (PySem.Challenge.cw_spreadwalks_s01_answers_holds.heap_1 w.params) mg "walks" 7 ["lines", "k"] := by
      refine' Sw.df_mk KX G ?a ?l ?c ?k (fun _ _ _ _ _ _ us hl => match us, hl with | [_, _], _ => rfl)
      (case a => k_is); (case l => k_is); (case c => k_is); (case k => k_is)
    have d8 : Sw.Df (PySem.Challenge.cw_spreadwalks_s01_answers_holds.heap_1 w.params) mg "behind_first" 8 ["matrix"] := by
      refine' Sw.df_mk KX G ?a ?l ?c ?k (fun _ _ _ _ _ _ us hl => match us, hl with | [_], _ => rfl)
      (case a => k_is); (case l => k_is); (case c => k_is); (case k => k_is)
    have d9 : Sw.Df (PySem.Challenge.cw_spreadwalks_s01_answers_holds.heap_1 w.params) mg "cleared_row" 9 ["row", "first", "divisor"] := by
      refine' Sw.df_mk KX G ?a ?l ?c ?k (fun _ _ _ _ _ _ us hl => match us, hl with | [_, _, _], _ => rfl)
      (case a => k_is); (case l => k_is); (case c => k_is); (case k => k_is)
    have d10 : Sw.Df (PySem.Challenge.cw_spreadwalks_s01_answers_holds.heap_1 w.params) mg "never_below_zero" 10 ["matrix"] := by
      refine' Sw.df_mk KX G ?a ?l ?c ?k (fun _ _ _ _ _ _ us hl => match us, hl with | [_], _ => rfl)
      (case a => k_is); (case l => k_is); (case c => k_is); (case k => k_is)
    have d11 : Sw.Df (PySem.Challenge.cw_spreadwalks_s01_answers_holds.heap_1 w.params) mg "raised" 11 ["base", "k"] := by
      refine' Sw.df_mk KX G ?a ?l ?c ?k (fun _ _ _ _ _ _ us hl => match us, hl with | [_, _], _ => rfl)
      (case a => k_is); (case l => k_is); (case c => k_is); (case k => k_is)
    have d12 : Sw.Df (PySem.Challenge.cw_spreadwalks_s01_answers_holds.heap_1 w.params) mg "common_degree" 12 ["lines"] := by
      refine' Sw.df_mk KX G ?a ?l ?c ?k (fun _ _ _ _ _ _ us hl => match us, hl with | [_], _ => rfl)
      (case a => k_is); (case l => k_is); (case c => k_is); (case k => k_is)
    have d13 : Sw.Df (PySem.Challenge.cw_spreadwalks_s01_answers_holds.heap_1 w.params) mg "spread_matrix" 13 ["lines", "p", "q"] := by
      refine' Sw.df_mk KX G ?a ?l ?c ?k (fun _ _ _ _ _ _ us hl => match us, hl with | [_, _, _], _ => rfl)
      (case a => k_is); (case l => k_is); (case c => k_is); (case k => k_is)
    have d14 : Sw.Df (PySem.Challenge.cw_spreadwalks_s01_answers_holds.heap_1 w.params) mg "spreads_by" 14 ["lines", "p", "q"] := by
      refine' Sw.df_mk KX G ?a ?l ?c ?k (fun _ _ _ _ _ _ us hl => match us, hl with | [_, _, _], _ => rfl)
      (case a => k_is); (case l => k_is); (case c => k_is); (case k => k_is)
    have d15 : Sw.Df (PySem.Challenge.cw_spreadwalks_s01_answers_holds.heap_1 w.params) mg "least_share" 15 ["lines", "q"] := by
      refine' Sw.df_mk KX G ?a ?l ?c ?k (fun _ _ _ _ _ _ us hl => match us, hl with | [_, _], _ => rfl)
      (case a => k_is); (case l => k_is); (case c => k_is); (case k => k_is)
    have d16 : Sw.Df (PySem.Challenge.cw_spreadwalks_s01_answers_holds.heap_1 w.params) mg "lines_between" 16 ["lines", "ones", "others"] := by
      refine' Sw.df_mk KX G ?a ?l ?c ?k (fun _ _ _ _ _ _ us hl => match us, hl with | [_, _, _], _ => rfl)
      (case a => k_is); (case l => k_is); (case c => k_is); (case k => k_is)
    have d17 : Sw.Df (PySem.Challenge.cw_spreadwalks_s01_answers_holds.heap_1 w.params) mg "others_than" 17 ["lines", "places"] := by
      refine' Sw.df_mk KX G ?a ?l ?c ?k (fun _ _ _ _ _ _ us hl => match us, hl with | [_, _], _ => rfl)
      (case a => k_is); (case l => k_is); (case c => k_is); (case k => k_is)
    have d18 : Sw.Df (PySem.Challenge.cw_spreadwalks_s01_answers_holds.heap_1 w.params) mg "staying_walks" 18 ["lines", "places", "k"] := by
      refine' Sw.df_mk KX G ?a ?l ?c ?k (fun _ _ _ _ _ _ us hl => match us, hl with | [_, _, _], _ => rfl)
      (case a => k_is); (case l => k_is); (case c => k_is); (case k => k_is)
    have d19 : Sw.Df (PySem.Challenge.cw_spreadwalks_s01_answers_holds.heap_1 w.params) mg "sets_of_places" 19 ["n"] := by
      refine' Sw.df_mk KX G ?a ?l ?c ?k (fun _ _ _ _ _ _ us hl => match us, hl with | [_], _ => rfl)
      (case a => k_is); (case l => k_is); (case c => k_is); (case k => k_is)
    have d38 : Sw.Df (PySem.Challenge.cw_spreadwalks_s01_answers_holds.heap_1 w.params) mg "is_place" 38 ["graph", "u"] := by
      refine' Sw.df_mk KX G ?a ?l ?c ?k (fun _ _ _ _ _ _ us hl => match us, hl with | [_, _], _ => rfl)
      (case a => k_is); (case l => k_is); (case c => k_is); (case k => k_is)
    have d39 : Sw.Df (PySem.Challenge.cw_spreadwalks_s01_answers_holds.heap_1 w.params) mg "are_places" 39 ["graph", "places"] := by
      refine' Sw.df_mk KX G ?a ?l ?c ?k (fun _ _ _ _ _ _ us hl => match us, hl with | [_, _], _ => rfl)
      (case a => k_is); (case l => k_is); (case c => k_is); (case k => k_is)
    have d40 : Sw.Df (PySem.Challenge.cw_spreadwalks_s01_answers_holds.heap_1 w.params) mg "too_many_from_some" 40 ["lines"] := by
      refine' Sw.df_mk KX G ?a ?l ?c ?k (fun _ _ _ _ _ _ us hl => match us, hl with | [_], _ => rfl)
      (case a => k_is); (case l => k_is); (case c => k_is); (case k => k_is)
    have d41 : Sw.Df (PySem.Challenge.cw_spreadwalks_s01_answers_holds.heap_1 w.params) mg "set_lines" 41 ["lines", "u", "v", "c"] := by
      refine' Sw.df_mk KX G ?a ?l ?c ?k (fun _ _ _ _ _ _ us hl => match us, hl with | [_, _, _, _], _ => rfl)
      (case a => k_is); (case l => k_is); (case c => k_is); (case k => k_is)
    have d42 : Sw.Df (PySem.Challenge.cw_spreadwalks_s01_answers_holds.heap_1 w.params) mg "are_shares" 42 ["p", "q"] := by
      refine' Sw.df_mk KX G ?a ?l ?c ?k (fun _ _ _ _ _ _ us hl => match us, hl with | [_, _], _ => rfl)
      (case a => k_is); (case l => k_is); (case c => k_is); (case k => k_is)
    have d43 : Sw.Df (PySem.Challenge.cw_spreadwalks_s01_answers_holds.heap_1 w.params) mg "are_steps" 43 ["k"] := by
      refine' Sw.df_mk KX G ?a ?l ?c ?k (fun _ _ _ _ _ _ us hl => match us, hl with | [_], _ => rfl)
      (case a => k_is); (case l => k_is); (case c => k_is); (case k => k_is)
    have d44 : Sw.Df (PySem.Challenge.cw_spreadwalks_s01_answers_holds.heap_1 w.params) mg "begin" 44 ["graph", "given"] := by
      refine' Sw.df_mk KX G ?a ?l ?c ?k (fun _ _ _ _ _ _ us hl => match us, hl with | [_, _], _ => rfl)
      (case a => k_is); (case l => k_is); (case c => k_is); (case k => k_is)
    have d45 : Sw.Df (PySem.Challenge.cw_spreadwalks_s01_answers_holds.heap_1 w.params) mg "line" 45 ["graph", "given"] := by
      refine' Sw.df_mk KX G ?a ?l ?c ?k (fun _ _ _ _ _ _ us hl => match us, hl with | [_, _], _ => rfl)
      (case a => k_is); (case l => k_is); (case c => k_is); (case k => k_is)
    have d46 : Sw.Df (PySem.Challenge.cw_spreadwalks_s01_answers_holds.heap_1 w.params) mg "ring" 46 ["graph", "given"] := by
      refine' Sw.df_mk KX G ?a ?l ?c ?k (fun _ _ _ _ _ _ us hl => match us, hl with | [_, _], _ => rfl)
      (case a => k_is); (case l => k_is); (case c => k_is); (case k => k_is)
    have d47 : Sw.Df (PySem.Challenge.cw_spreadwalks_s01_answers_holds.heap_1 w.params) mg "whole" 47 ["graph", "given"] := by
      refine' Sw.df_mk KX G ?a ?l ?c ?k (fun _ _ _ _ _ _ us hl => match us, hl with | [_, _], _ => rfl)
      (case a => k_is); (case l => k_is); (case c => k_is); (case k => k_is)
    have d48 : Sw.Df (PySem.Challenge.cw_spreadwalks_s01_answers_holds.heap_1 w.params) mg "cube" 48 ["graph", "given"] := by
      refine' Sw.df_mk KX G ?a ?l ?c ?k (fun _ _ _ _ _ _ us hl => match us, hl with | [_, _], _ => rfl)
      (case a => k_is); (case l => k_is); (case c => k_is); (case k => k_is)
    have d49 : Sw.Df (PySem.Challenge.cw_spreadwalks_s01_answers_holds.heap_1 w.params) mg "power" 49 ["graph", "given"] := by
      refine' Sw.df_mk KX G ?a ?l ?c ?k (fun _ _ _ _ _ _ us hl => match us, hl with | [_, _], _ => rfl)
      (case a => k_is); (case l => k_is); (case c => k_is); (case k => k_is)
    have d50 : Sw.Df (PySem.Challenge.cw_spreadwalks_s01_answers_holds.heap_1 w.params) mg "degree" 50 ["graph", "given"] := by
      refine' Sw.df_mk KX G ?a ?l ?c ?k (fun _ _ _ _ _ _ us hl => match us, hl with | [_, _], _ => rfl)
      (case a => k_is); (case l => k_is); (case c => k_is); (case k => k_is)
    have d51 : Sw.Df (PySem.Challenge.cw_spreadwalks_s01_answers_holds.heap_1 w.params) mg "even" 51 ["graph", "given"] := by
      refine' Sw.df_mk KX G ?a ?l ?c ?k (fun _ _ _ _ _ _ us hl => match us, hl with | [_, _], _ => rfl)
      (case a => k_is); (case l => k_is); (case c => k_is); (case k => k_is)
    have d52 : Sw.Df (PySem.Challenge.cw_spreadwalks_s01_answers_holds.heap_1 w.params) mg "spreads" 52 ["graph", "given"] := by
      refine' Sw.df_mk KX G ?a ?l ?c ?k (fun _ _ _ _ _ _ us hl => match us, hl with | [_, _], _ => rfl)
      (case a => k_is); (case l => k_is); (case c => k_is); (case k => k_is)
    have d53 : Sw.Df (PySem.Challenge.cw_spreadwalks_s01_answers_holds.heap_1 w.params) mg "least" 53 ["graph", "given"] := by
      refine' Sw.df_mk KX G ?a ?l ?c ?k (fun _ _ _ _ _ _ us hl => match us, hl with | [_, _], _ => rfl)
      (case a => k_is); (case l => k_is); (case c => k_is); (case k => k_is)
    have d54 : Sw.Df (PySem.Challenge.cw_spreadwalks_s01_answers_holds.heap_1 w.params) mg "between" 54 ["graph", "given"] := by
      refine' Sw.df_mk KX G ?a ?l ?c ?k (fun _ _ _ _ _ _ us hl => match us, hl with | [_, _], _ => rfl)
      (case a => k_is); (case l => k_is); (case c => k_is); (case k => k_is)
    have d55 : Sw.Df (PySem.Challenge.cw_spreadwalks_s01_answers_holds.heap_1 w.params) mg "staying" 55 ["graph", "given"] := by
      refine' Sw.df_mk KX G ?a ?l ?c ?k (fun _ _ _ _ _ _ us hl => match us, hl with | [_, _], _ => rfl)
      (case a => k_is); (case l => k_is); (case c => k_is); (case k => k_is)
    have d56 : Sw.Df (PySem.Challenge.cw_spreadwalks_s01_answers_holds.heap_1 w.params) mg "bound" 56 ["graph", "given"] := by
      refine' Sw.df_mk KX G ?a ?l ?c ?k (fun _ _ _ _ _ _ us hl => match us, hl with | [_, _], _ => rfl)
      (case a => k_is); (case l => k_is); (case c => k_is); (case k => k_is)
    have d57 : Sw.Df (PySem.Challenge.cw_spreadwalks_s01_answers_holds.heap_1 w.params) mg "led_from" 57 ["graph", "given"] := by
      refine' Sw.df_mk KX G ?a ?l ?c ?k (fun _ _ _ _ _ _ us hl => match us, hl with | [_, _], _ => rfl)
      (case a => k_is); (case l => k_is); (case c => k_is); (case k => k_is)
    have d58 : Sw.Df (PySem.Challenge.cw_spreadwalks_s01_answers_holds.heap_1 w.params) mg "uneven" 58 ["graph", "given"] := by
      refine' Sw.df_mk KX G ?a ?l ?c ?k (fun _ _ _ _ _ _ us hl => match us, hl with | [_, _], _ => rfl)
      (case a => k_is); (case l => k_is); (case c => k_is); (case k => k_is)
    have d59 : Sw.Df (PySem.Challenge.cw_spreadwalks_s01_answers_holds.heap_1 w.params) mg "count_leaving" 59 ["graph", "places"] := by
      refine' Sw.df_mk KX G ?a ?l ?c ?k (fun _ _ _ _ _ _ us hl => match us, hl with | [_, _], _ => rfl)
      (case a => k_is); (case l => k_is); (case c => k_is); (case k => k_is)
    have d60 : Sw.Df (PySem.Challenge.cw_spreadwalks_s01_answers_holds.heap_1 w.params) mg "thinnest" 60 ["graph", "given"] := by
      refine' Sw.df_mk KX G ?a ?l ?c ?k (fun _ _ _ _ _ _ us hl => match us, hl with | [_, _], _ => rfl)
      (case a => k_is); (case l => k_is); (case c => k_is); (case k => k_is)
    have d61 : Sw.Df (PySem.Challenge.cw_spreadwalks_s01_answers_holds.heap_1 w.params) mg "leaving" 61 ["graph", "given"] := by
      refine' Sw.df_mk KX G ?a ?l ?c ?k (fun _ _ _ _ _ _ us hl => match us, hl with | [_, _], _ => rfl)
      (case a => k_is); (case l => k_is); (case c => k_is); (case k => k_is)
    have d62 : Sw.Df (PySem.Challenge.cw_spreadwalks_s01_answers_holds.heap_1 w.params) mg "row" 62 ["graph", "given"] := by
      refine' Sw.df_mk KX G ?a ?l ?c ?k (fun _ _ _ _ _ _ us hl => match us, hl with | [_, _], _ => rfl)
      (case a => k_is); (case l => k_is); (case c => k_is); (case k => k_is)
    have d64 : Sw.Df (PySem.Challenge.cw_spreadwalks_s01_answers_holds.heap_1 w.params) mg "answer" 64 ["graph", "call", "given"] := by
      refine' Sw.df_mk KX G ?a ?l ?c ?k (fun _ _ _ _ _ _ us hl => match us, hl with | [_, _, _], _ => rfl)
      (case a => k_is); (case l => k_is); (case c => k_is); (case k => k_is)
    have bi : Sw.Bi mg := by
      refine' ⟨PySem.W.mg_none_of KX G ?b0, PySem.W.mg_none_of KX G ?b1, PySem.W.mg_none_of KX G ?b2, PySem.W.mg_none_of KX G ?b3, PySem.W.mg_none_of KX G ?b4, PySem.W.mg_none_of KX G ?b5, PySem.W.mg_none_of KX G ?b6, PySem.W.mg_none_of KX G ?b7, PySem.W.mg_none_of KX G ?b8, PySem.W.mg_none_of KX G ?b9, PySem.W.mg_none_of KX G ?b10⟩
      (case b0 => k_is); (case b1 => k_is); (case b2 => k_is); (case b3 => k_is); (case b4 => k_is); (case b5 => k_is); (case b6 => k_is); (case b7 => k_is); (case b8 => k_is); (case b9 => k_is); (case b10 => k_is)
    have cst : Sw.Csts mg := by
      refine' ⟨Sw.cst_mk KX G ?c0, Sw.cst_mk KX G ?c1, Sw.cst_mk KX G ?c2, Sw.cst_mk KX G ?c3, Sw.cst_mk KX G ?c4, Sw.cst_mk KX G ?c5, Sw.cst_mk KX G ?c6, Sw.cst_mk KX G ?c7, Sw.cst_mk KX G ?c8, Sw.cst_mk KX G ?c9, Sw.cst_mk KX G ?c10, Sw.cst_mk KX G ?c11, Sw.cst_mk KX G ?c12, Sw.cst_mk KX G ?c13⟩
      (case c0 => k_is); (case c1 => k_is); (case c2 => k_is); (case c3 => k_is); (case c4 => k_is); (case c5 => k_is); (case c6 => k_is); (case c7 => k_is); (case c8 => k_is); (case c9 => k_is); (case c10 => k_is); (case c11 => k_is); (case c12 => k_is); (case c13 => k_is)
    have fo : Sw.Forms (PySem.Challenge.cw_spreadwalks_s01_answers_holds.heap_1 w.params) mg := by
      refine' Sw.forms_mk KX G ?a ?l ?l0 ?l1 ?l2 ?l3 ?l4 ?l5 ?l6 ?l7 ?l8 ?l9 ?l10 ?l11 ?l12 ?l13 ?l14 ?l15 ?l16 ?l17
      (case a => k_is); (case l => k_is); (case l0 => k_is); (case l1 => k_is); (case l2 => k_is); (case l3 => k_is); (case l4 => k_is); (case l5 => k_is); (case l6 => k_is); (case l7 => k_is); (case l8 => k_is); (case l9 => k_is); (case l10 => k_is); (case l11 => k_is); (case l12 => k_is); (case l13 => k_is); (case l14 => k_is); (case l15 => k_is); (case l16 => k_is); (case l17 => k_is)
    have cs : Sw.Calls (PySem.Challenge.cw_spreadwalks_s01_answers_holds.heap_1 w.params) mg := by
      refine' Sw.calls_mk KX G ?a ?l ?hh ?a0 ?a1 ?a2 ?a3 ?a4 ?a5 ?a6 ?a7 ?a8 ?a9 ?a10 ?a11 ?a12 ?a13 ?a14 ?a15 ?a16 ?a17
      (case a => k_is); (case l => k_is); (case hh => decide +kernel); (case a0 => k_is); (case a1 => k_is); (case a2 => k_is); (case a3 => k_is); (case a4 => k_is); (case a5 => k_is); (case a6 => k_is); (case a7 => k_is); (case a8 => k_is); (case a9 => k_is); (case a10 => k_is); (case a11 => k_is); (case a12 => k_is); (case a13 => k_is); (case a14 => k_is); (case a15 => k_is); (case a16 => k_is); (case a17 => k_is)
    refine' Sw.end_mk KX G hmg (C := ?C) (R := ?R) ⟨bi, cst, ⟨⟨?pg, ?hd, ?po, ?sa⟩, ?nL⟩, ⟨⟨?pg2, ?hd2, ?po2, ?sa2⟩, ?nC, ?nA⟩, fo, cs, PySem.W.mg_of KX G ?aG, PySem.W.mg_of KX G ?aR,
      Sw.di_mk ?i1 ?i2 ?i3 ?i4 ?i5 ?i6 ?i7 (fun _ _ _ _ _ _ us hl => match us, hl with | [_], _ => rfl),
      Sw.di_mk ?j1 ?j2 ?j3 ?j4 ?j5 ?j6 ?j7 (fun _ _ _ _ _ _ us hl => match us, hl with | [_, _], _ => rfl),
      Sw.dm_mk ?e1 ?e2 ?e3 ?e4 ?e5 (fun _ _ _ _ _ _ us hl => match us, hl with | [_], _ => rfl),
      Sw.dm_mk ?n1 ?n2 ?n3 ?n4 ?n5 (fun _ _ _ _ _ _ us hl => match us, hl with | [_], _ => rfl),
      Sw.dm_mk ?s1 ?s2 ?s3 ?s4 ?s5 (fun _ _ _ _ _ _ us hl => match us, hl with | [_, _], _ => rfl),
      Sw.dm_mk ?g1 ?g2 ?g3 ?g4 ?g5 (fun _ _ _ _ _ _ us hl => match us, hl with | [_, _], _ => rfl),
      d1, d2, d3, d4, d5, d6, d7, d8, d9, d10, d11, d12, d13, d14, d15, d16, d17, d18, d19, d38, d39, d40, d41, d42, d43, d44, d45, d46, d47, d48, d49, d50, d51, d52, d53, d54, d55, d56, d57, d58, d59, d60, d61, d62, d64⟩ ?ax ?lx ?cx ?kx
    (case aG => k_is)
    (case aR => k_is)
    (case pg => k_is)
    (case hd => k_is)
    (case po => k_is)
    (case sa => k_is)
    (case nL => unfold L2.NoAttr; k_is)
    (case pg2 => k_is)
    (case hd2 => k_is)
    (case po2 => k_is)
    (case sa2 => k_is)
    (case nC => unfold L2.NoAttr; k_is)
    (case nA => unfold L2.NoAttr; k_is)
    (case i1 => k_is)
    (case i2 => k_is)
    (case i3 => k_is)
    (case i4 => k_is)
    (case i5 => k_is)
    (case i6 => k_is)
    (case i7 => k_is)
    (case j1 => k_is)
    (case j2 => k_is)
    (case j3 => k_is)
    (case j4 => k_is)
    (case j5 => k_is)
    (case j6 => k_is)
    (case j7 => k_is)
    (case e1 => k_is)
    (case e2 => k_is)
    (case e3 => k_is)
    (case e4 => k_is)
    (case e5 => k_is)
    (case n1 => k_is)
    (case n2 => k_is)
    (case n3 => k_is)
    (case n4 => k_is)
    (case n5 => k_is)
    (case s1 => k_is)
    (case s2 => k_is)
    (case s3 => k_is)
    (case s4 => k_is)
    (case s5 => k_is)
    (case g1 => k_is)
    (case g2 => k_is)
    (case g3 => k_is)
    (case g4 => k_is)
    (case g5 => k_is)
    (case ax => k_is)
    (case lx => k_is)
    (case cx => k_is)
    (case kx => k_is)
  case S =>
    intro K H xs a hO hwi hask hx
    cases hx with
    | cons h1 h2 =>
      cases h2
      cases h1 with
      | lst hs ha =>
        have e := L2.ints_dw a.1 _ ha
        subst e
        exact ⟨_, a.1, rfl, hs, hask, fun H' p hp => .lst (L2.SqL.of hp) (L2.dw_ints _)⟩
#print axioms PySem.Challenge.cw_spreadwalks_s01_answers_holds
