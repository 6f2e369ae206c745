import PyProof.Rows.All
import Wide.All
import OpenK.AllK
import Wide.FinOn
import HandS.ForMost
import HandS.ForExc
import HandS.Wide
import HandS.IsInst
import HandS.ExcIs
import HandS.More
import HandS.DictComp
import HandS.SortInts
import HandS.Style
import HandS.Defaults
import HandS.Deep
import HandS.TryOnly
import KE.DataMinMax
import KE.SortData
import HandS.Iter
import PySem.Challenge.RW_gromatic_k51_whole_fewest_corners
set_option Elab.async false
set_option linter.all false
set_option maxRecDepth 100000
set_option maxHeartbeats 8000000
namespace M
open PySem L2

/-! ### heaps: what is owned may change -/
abbrev AS := List Addr
def Fr (T : AS) (H H' : Hp) : Prop := ∀ a o, H a = some o → a ∉ T → H' a = some o
theorem Fr.refl {T : AS} (H : Hp) : Fr T H H := fun _ _ e _ => e
theorem Fr.trans {T : AS} {H H1 H2 : Hp} (a : Fr T H H1) (b : Fr T H1 H2) : Fr T H H2 := fun p o e n => b p o (a p o e n) n
theorem Fr.same {T : AS} {H H' : Hp} (s : Same H H') : Fr T H H' := fun p o e _ => s p o e
theorem Fr.sub {T T' : AS} {H H' : Hp} (h : ∀ a ∈ T, a ∈ T') (f : Fr T H H') : Fr T' H H' := fun p o e n => f p o e fun m => n (h p m)
theorem Fr.toSame {H H' : Hp} (f : Fr [] H H') : Same H H' := fun p o e => f p o e (by simp)
def Dom (S : AS) (H : Hp) : Prop := ∀ a ∈ S, H a ≠ none
theorem Dom.same {S : AS} {H H' : Hp} (d : Dom S H) (s : Same H H') : Dom S H' := fun a m e => by
  cases q : H a with
  | none => exact d a m q
  | some o => rw [s a o q] at e; cases e
theorem Dom.nil {H : Hp} : Dom [] H := fun a m => by simp at m
theorem Dom.not_mem {S : AS} {H : Hp} {p : Addr} (d : Dom S H) (h : H p = none) : p ∉ S := fun m => d p m h
theorem Dom.cons {S : AS} {H : Hp} {p : Addr} {o : HO} (d : Dom S H) (h : H p = some o) : Dom (p :: S) H := fun a m => by
  rcases List.mem_cons.mp m with rfl | m
  · rw [h]; intro z; cases z
  · exact d a m
theorem same_new {H : Hp} {p : Addr} {o : HO} (h : H p = none) : Same H (upd H p o) := fun b x e => by
  rw [upd_ne (ne_of_none e h)]
  exact e
theorem fr_upd {T : AS} {H : Hp} {p : Addr} {o : HO} (h : p ∈ T) : Fr T H (upd H p o) := fun b x e n => by
  rw [upd_ne (fun z => n (by rw [z]; exact h))]
  exact e
theorem Dom.upd {S : AS} {H : Hp} {p : Addr} {o : HO} (d : Dom S H) : Dom S (upd H p o) := fun a m => by
  by_cases e : a = p
  · subst e; rw [upd_same]; intro z; cases z
  · rw [upd_ne e]; exact d a m

/-! ### pairs of lists -/
abbrev All2 {α β : Type} := @Paired α β
theorem All2.imp {α β : Type} {F G : α → β → Prop} (h : ∀ a b, F a b → G a b) : ∀ {xs : List α} {ys : List β}, All2 F xs ys → All2 G xs ys
  | _, _, .nil => .nil
  | _, _, .cons a r => .cons (h _ _ a) (All2.imp h r)
theorem All2.len {α β : Type} {F : α → β → Prop} : ∀ {xs : List α} {ys : List β}, All2 F xs ys → xs.length = ys.length
  | _, _, .nil => rfl
  | _, _, .cons _ r => by simp [All2.len r]
theorem All2.get {α β : Type} {F : α → β → Prop} : ∀ {xs : List α} {ys : List β} (i : Nat) {y : β}, All2 F xs ys → ys[i]? = some y → ∃ x, xs[i]? = some x ∧ F x y
  | _, _, i, y, .nil, e => by simp at e
  | _, _, 0, y, .cons a _, e => by simp at e; subst e; exact ⟨_, rfl, a⟩
  | _, _, i + 1, y, .cons _ r, e => by
    obtain ⟨x, h1, h2⟩ := All2.get i (y := y) r (by simpa using e)
    exact ⟨x, by simpa using h1, h2⟩
theorem All2.getL {α β : Type} {F : α → β → Prop} : ∀ {xs : List α} {ys : List β} (i : Nat) {x : α}, All2 F xs ys → xs[i]? = some x → ∃ y, ys[i]? = some y ∧ F x y
  | _, _, i, y, .nil, e => by simp at e
  | _, _, 0, y, .cons a _, e => by simp at e; subst e; exact ⟨_, rfl, a⟩
  | _, _, i + 1, y, .cons _ r, e => by
    obtain ⟨x, h1, h2⟩ := All2.getL i (x := y) r (by simpa using e)
    exact ⟨x, by simpa using h1, h2⟩
theorem All2.snoc {α β : Type} {F : α → β → Prop} {x : α} {y : β} : ∀ {xs : List α} {ys : List β}, All2 F xs ys → F x y → All2 F (xs ++ [x]) (ys ++ [y])
  | _, _, .nil, h => .cons h .nil
  | _, _, .cons a r, h => .cons a (All2.snoc r h)
theorem All2.app {α β : Type} {F : α → β → Prop} : ∀ {xs xs' : List α} {ys ys' : List β}, All2 F xs ys → All2 F xs' ys' → All2 F (xs ++ xs') (ys ++ ys')
  | _, _, _, _, .nil, h => h
  | _, _, _, _, .cons a r, h => .cons a (All2.app r h)
theorem All2.drop {α β : Type} {F : α → β → Prop} : ∀ (n : Nat) {xs : List α} {ys : List β}, All2 F xs ys → All2 F (xs.drop n) (ys.drop n)
  | 0, _, _, h => h
  | _ + 1, _, _, .nil => .nil
  | n + 1, _, _, .cons _ r => All2.drop n r
theorem All2.take {α β : Type} {F : α → β → Prop} : ∀ (n : Nat) {xs : List α} {ys : List β}, All2 F xs ys → All2 F (xs.take n) (ys.take n)
  | 0, _, _, _ => .nil
  | _ + 1, _, _, .nil => .nil
  | n + 1, _, _, .cons a r => .cons a (All2.take n r)
theorem All2.set {α β : Type} {F : α → β → Prop} {x : α} {y : β} (h : F x y) : ∀ (n : Nat) {xs : List α} {ys : List β}, All2 F xs ys → All2 F (xs.set n x) (ys.set n y)
  | _, _, _, .nil => .nil
  | 0, _, _, .cons _ r => .cons h r
  | n + 1, _, _, .cons a r => .cons a (All2.set h n r)
theorem All2.at {α β : Type} {F : α → β → Prop} {xs : List α} {ys : List β} {i : Int} {y : β} (h : All2 F xs ys) (e : atI ys i = some y) : ∃ x, atI xs i = some x ∧ F x y := by
  unfold atI at e ⊢
  rw [h.len]
  cases q : ixN ys.length i with
  | none => rw [q] at e; cases e
  | some j =>
    rw [q] at e
    exact h.get j e

/-! ### codes: what a value stands for -/
def nT (K : PySem.W.Frag) (S : AS) (H : Hp) (a : Addr) (xs : List V) : Prop := (Rd H a (.tup xs) ∧ a ∉ S) ∨ SqT K (fun _ => none) a xs
def nL (K : PySem.W.Frag) (S : AS) (H : Hp) (a : Addr) (xs : List V) : Prop := H a = some (.lst xs) ∧ a ∉ S
theorem not_rd {a : Addr} {u : HO} (h : Rd (fun _ => none) a u) : False := by
  rcases h with h | ⟨_, h⟩ <;> cases h
theorem Rd.some {H : Hp} {a : Addr} {u : HO} (h : Rd H a u) : H a ≠ none := by
  rcases h with h | ⟨_, h⟩ <;> rw [h] <;> intro z <;> cases z
theorem Rd.fr {T : AS} {H H' : Hp} {a : Addr} {u : HO} (h : Rd H a u) (f : Fr T H H') (n : a ∉ T) : Rd H' a u := by
  rcases h with h | ⟨o, h⟩
  · exact .inl (f _ _ h n)
  · exact .inr ⟨o, f _ _ h n⟩
theorem nT.sq {K : PySem.W.Frag} {S : AS} {H : Hp} {a : Addr} {xs : List V} (h : nT K S H a xs) : SqT K H a xs := by
  rcases h with h | h | h
  · exact .inl h.1
  · exact (not_rd h).elim
  · exact .inr h
theorem nL.sq {K : PySem.W.Frag} {S : AS} {H : Hp} {a : Addr} {xs : List V} (h : nL K S H a xs) : SqL K H a xs := .inl (.inl h.1)
theorem nT.mono {K : PySem.W.Frag} {S : AS} {H H' : Hp} {a : Addr} {xs : List V} (f : Fr S H H') (h : nT K S H a xs) : nT K S H' a xs := by
  rcases h with h | h
  · exact .inl ⟨Rd.fr h.1 f h.2, h.2⟩
  · exact .inr h
theorem nL.mono {K : PySem.W.Frag} {S : AS} {H H' : Hp} {a : Addr} {xs : List V} (f : Fr S H H') (h : nL K S H a xs) : nL K S H' a xs := ⟨f _ _ h.1 h.2, h.2⟩
theorem not_cons {S : AS} {H : Hp} {p a : Addr} (hp : H p = none) (ha : H a ≠ none) (n : a ∉ S) : a ∉ p :: S := fun m => by
  rcases List.mem_cons.mp m with rfl | m
  · exact ha hp
  · exact n m
theorem nT.ext {K : PySem.W.Frag} {S : AS} {H : Hp} {a p : Addr} {xs : List V} (hp : H p = none) (h : nT K S H a xs) : nT K (p :: S) H a xs := by
  rcases h with h | h
  · exact .inl ⟨h.1, not_cons hp (Rd.some h.1) h.2⟩
  · exact .inr h
theorem nL.ext {K : PySem.W.Frag} {S : AS} {H : Hp} {a p : Addr} {xs : List V} (hp : H p = none) (h : nL K S H a xs) : nL K (p :: S) H a xs := ⟨h.1, not_cons hp (by rw [h.1]; intro z; cases z) h.2⟩
theorem nT.sub {K : PySem.W.Frag} {S S' : AS} {H : Hp} {a : Addr} {xs : List V} (hs : ∀ a ∈ S', a ∈ S) (h : nT K S H a xs) : nT K S' H a xs := by
  rcases h with h | h
  · exact .inl ⟨h.1, fun m => h.2 (hs _ m)⟩
  · exact .inr h
theorem nL.sub {K : PySem.W.Frag} {S S' : AS} {H : Hp} {a : Addr} {xs : List V} (hs : ∀ a ∈ S', a ∈ S) (h : nL K S H a xs) : nL K S' H a xs := ⟨h.1, fun m => h.2 (hs _ m)⟩

structure Ty (K : PySem.W.Frag) (α : Type) where
  rp : AS → Hp → V → α → Prop
  mono : ∀ {S H H' v x}, Fr S H H' → rp S H v x → rp S H' v x
  ext : ∀ {S H p v x}, H p = none → rp S H v x → rp (p :: S) H v x
  sub : ∀ {S S' H v x}, (∀ a ∈ S', a ∈ S) → rp S H v x → rp S' H v x

section
variable {K : PySem.W.Frag} {α β γ δ ε : Type}
def tInt : Ty K Int := ⟨fun _ _ v i => v = .int i, fun _ h => h, fun _ h => h, fun _ h => h⟩
def tBool : Ty K Bool := ⟨fun _ _ v i => v = .bl i, fun _ h => h, fun _ h => h, fun _ h => h⟩
def tStr : Ty K Str := ⟨fun _ _ v i => v = .str i ∧ PyData.strOk i = true, fun _ h => h, fun _ h => h, fun _ h => h⟩
def tNone : Ty K Unit := ⟨fun _ _ v _ => v = .non, fun _ h => h, fun _ h => h, fun _ h => h⟩
def tOpt (c : Ty K α) : Ty K (Option α) where
  rp S H v
    | none => v = .non
    | some x => v ≠ .non ∧ c.rp S H v x
  mono {S H H' v x} f h := by cases x with | none => exact h | some x => exact ⟨h.1, c.mono f h.2⟩
  ext {S H p v x} f h := by cases x with | none => exact h | some x => exact ⟨h.1, c.ext f h.2⟩
  sub {S S' H v x} f h := by cases x with | none => exact h | some x => exact ⟨h.1, c.sub f h.2⟩
def tT2 (c : Ty K α) (d : Ty K β) : Ty K (α × β) where
  rp S H v x := ∃ a u w, v = .ref a ∧ nT K S H a [u, w] ∧ c.rp S H u x.1 ∧ d.rp S H w x.2
  mono f := fun ⟨a, u, w, e, h, h1, h2⟩ => ⟨a, u, w, e, h.mono f, c.mono f h1, d.mono f h2⟩
  ext f := fun ⟨a, u, w, e, h, h1, h2⟩ => ⟨a, u, w, e, h.ext f, c.ext f h1, d.ext f h2⟩
  sub f := fun ⟨a, u, w, e, h, h1, h2⟩ => ⟨a, u, w, e, h.sub f, c.sub f h1, d.sub f h2⟩
def tT3 (c : Ty K α) (d : Ty K β) (g : Ty K γ) : Ty K (α × β × γ) where
  rp S H v x := ∃ a u w z, v = .ref a ∧ nT K S H a [u, w, z] ∧ c.rp S H u x.1 ∧ d.rp S H w x.2.1 ∧ g.rp S H z x.2.2
  mono f := fun ⟨a, u, w, z, e, h, h1, h2, h3⟩ => ⟨a, u, w, z, e, h.mono f, c.mono f h1, d.mono f h2, g.mono f h3⟩
  ext f := fun ⟨a, u, w, z, e, h, h1, h2, h3⟩ => ⟨a, u, w, z, e, h.ext f, c.ext f h1, d.ext f h2, g.ext f h3⟩
  sub f := fun ⟨a, u, w, z, e, h, h1, h2, h3⟩ => ⟨a, u, w, z, e, h.sub f, c.sub f h1, d.sub f h2, g.sub f h3⟩
/-- a tuple of any length; a list -/
def tTs (c : Ty K α) : Ty K (List α) where
  rp S H v xs := ∃ a vs, v = .ref a ∧ nT K S H a vs ∧ All2 (c.rp S H) vs xs
  mono f := fun ⟨a, vs, e, h, h1⟩ => ⟨a, vs, e, h.mono f, h1.imp fun _ _ => c.mono f⟩
  ext f := fun ⟨a, vs, e, h, h1⟩ => ⟨a, vs, e, h.ext f, h1.imp fun _ _ => c.ext f⟩
  sub f := fun ⟨a, vs, e, h, h1⟩ => ⟨a, vs, e, h.sub f, h1.imp fun _ _ => c.sub f⟩
def tL (c : Ty K α) : Ty K (List α) where
  rp S H v xs := ∃ a vs, v = .ref a ∧ nL K S H a vs ∧ All2 (c.rp S H) vs xs
  mono f := fun ⟨a, vs, e, h, h1⟩ => ⟨a, vs, e, h.mono f, h1.imp fun _ _ => c.mono f⟩
  ext f := fun ⟨a, vs, e, h, h1⟩ => ⟨a, vs, e, h.ext f, h1.imp fun _ _ => c.ext f⟩
  sub f := fun ⟨a, vs, e, h, h1⟩ => ⟨a, vs, e, h.sub f, h1.imp fun _ _ => c.sub f⟩
/-- a ratio: a tuple of two numbers in lowest terms -/
def tRat : Ty K Rat where
  rp S H v q := ∃ a, v = .ref a ∧ nT K S H a [.int q.num, .int (q.den : Int)]
  mono f := fun ⟨a, e, h⟩ => ⟨a, e, h.mono f⟩
  ext f := fun ⟨a, e, h⟩ => ⟨a, e, h.ext f⟩
  sub f := fun ⟨a, e, h⟩ => ⟨a, e, h.sub f⟩
abbrev tSpot : Ty K (Rat × Rat) := tT2 tRat tRat
/-- a list that is owned: at p, and p is of S -/
def Own (c : Ty K α) (S : AS) (H : Hp) (p : Addr) (xs : List α) : Prop := ∃ vs, H p = some (.lst vs) ∧ All2 (c.rp S H) vs xs
/-- a new list -/
def nwL (c : Ty K α) (S : AS) (H0 H : Hp) (v : V) (xs : List α) : Prop := ∃ p, v = .ref p ∧ H0 p = none ∧ Own c (p :: S) H p xs
theorem nwL.rp {c : Ty K α} {S : AS} {H0 H : Hp} {v : V} {xs : List α} (h : nwL c S H0 H v xs) (d : Dom S H0) : (tL c).rp S H v xs := by
  obtain ⟨p, e, hp, vs, hv, ha⟩ := h
  exact ⟨p, vs, e, ⟨hv, d.not_mem hp⟩, ha.imp fun _ _ => c.sub fun _ m => List.mem_cons_of_mem _ m⟩

/-! ### what an expression tells -/
structure Rl (α : Type) where
  r : Hp → Hp → V → α → Prop
  back : ∀ {T H0 H1 H2 v x}, Fr T H0 H1 → Dom T H1 → r H1 H2 v x → r H0 H2 v x
def of (c : Ty K α) (S : AS) : Rl α := ⟨fun _ H v x => c.rp S H v x, fun _ _ h => h⟩
theorem fr_back {T : AS} {H0 H1 : Hp} {p : Addr} (f : Fr T H0 H1) (d : Dom T H1) (n : H1 p = none) : H0 p = none := by
  cases q : H0 p with
  | none => rfl
  | some o =>
    rw [f p o q (d.not_mem n)] at n
    cases n
def nw (c : Ty K α) (S : AS) : Rl (List α) := ⟨nwL c S, fun f d ⟨p, e, n, h⟩ => ⟨p, e, fr_back f d n, h⟩⟩
theorem Rl.same (R : Rl α) {H0 H1 H2 : Hp} {v : V} {x : α} (s : Same H0 H1) (h : R.r H1 H2 v x) : R.r H0 H2 v x := R.back (T := []) (Fr.same s) Dom.nil h
/-- S: what is owned; T: what of it may change while the expression is read (the bag) -/
def Ev (S T : AS) (te : TE) (σ : St) (H : Hp) (R : Rl α) (r : Option α) : Prop :=
  ∀ x, r = some x → ∀ H1, Fr T H H1 → Dom S H1 → ∀ Q : VK, (∀ v H2, Same H1 H2 → R.r H1 H2 v x → Q v H2) → te σ H1 Q
def EvB (S T : AS) (tt : TT) (σ : St) (H : Hp) (r : Option Bool) : Prop :=
  ∀ b, r = some b → ∀ H1, Fr T H H1 → Dom S H1 → ∀ Q : Bool → Hp → Prop, (∀ H2, Same H1 H2 → Q b H2) → tt σ H1 Q
abbrev bd (r : Option α) (k : α → Option β) : Option β := Option.bind r k
theorem bd_some {r : Option α} {k : α → Option β} {y : β} (h : bd r k = some y) : ∃ x, r = some x ∧ k x = some y := by
  cases r with
  | none => cases h
  | some x => exact ⟨x, rfl, h⟩
abbrev Sub (T S : AS) : Prop := ∀ a ∈ T, a ∈ S
variable {S T : AS} {σ : St} {H : Hp} {ta tb te : TE} {tt tu : TT} {a : Ty K α} {b : Ty K β} {c : Ty K γ}
theorem ev_var (ts : Sub T S) {i : Nat} {v : V} {x : α} (h : a.rp S H v x) (e : σ[i]? = some (some v)) : Ev S T (tVar i) σ H (of a S) (some x) := by
  intro y ey H1 f d Q q
  cases ey
  exact ⟨v, e, q v H1 (Same.refl _) (a.mono (f.sub ts) h)⟩
theorem ev_c {v : V} {x : α} (h : ∀ H, a.rp S H v x) : Ev S T (tC v) σ H (of a S) (some x) := by
  intro y ey H1 f d Q q
  cases ey
  exact q v H1 (Same.refl _) (h H1)
theorem ev_int {i : Int} : Ev S T (tC (.int i)) σ H (of (K := K) tInt S) (some i) := ev_c fun _ => rfl
theorem ev_bool {i : Bool} : Ev S T (tC (.bl i)) σ H (of (K := K) tBool S) (some i) := ev_c fun _ => rfl
theorem ev_str {i : Str} (h : PyData.strOk i = true := by decide +kernel) : Ev S T (tC (.str i)) σ H (of (K := K) tStr S) (some i) := ev_c fun _ => ⟨rfl, h⟩
theorem ev_none : Ev S T (tC .non) σ H (of (K := K) tNone S) (some ()) := ev_c fun _ => rfl
/-- another code for the same value -/
theorem ev_as {R : Rl α} {R' : Rl β} {r : Option α} {g : α → Option β} (h : Ev S T te σ H R r) (k : ∀ x y, g x = some y → ∀ H1 H2 v, Dom S H1 → R.r H1 H2 v x → R'.r H1 H2 v y) : Ev S T te σ H R' (bd r g) := by
  intro y ey H1 f d Q q
  obtain ⟨x, ex, ey⟩ := bd_some ey
  exact h x ex H1 f d Q fun v H2 s hv => q v H2 s (k x y ey H1 H2 v d hv)
theorem ev_new {r : Option (List α)} (h : Ev S T te σ H (nw a S) r) : Ev S T te σ H (of (tL a) S) r := by
  intro x ex H1 f d Q q
  exact h x ex H1 f d Q fun v H2 s hv => q v H2 s (nwL.rp hv d)
def OpD (a : Ty K α) (b : Ty K β) (S : AS) (R : Rl γ) (r : R2) (f : α → β → Option γ) : Prop :=
  ∀ x y z, f x y = some z → ∀ H1 v w, Dom S H1 → a.rp S H1 v x → b.rp S H1 w y → ∀ Q : VK, (∀ u H2, Same H1 H2 → R.r H1 H2 u z → Q u H2) → r v w H1 Q
theorem ev_op {R : Rl γ} {r : R2} {f : α → β → Option γ} {ra : Option α} {rb : Option β} (h : OpD a b S R r f) (ha : Ev S T ta σ H (of a S) ra) (hb : Ev S T tb σ H (of b S) rb) :
    Ev S T (tOp r ta tb) σ H R (bd ra fun x => bd rb fun y => f x y) := by
  intro z e H1 f1 d Q q
  obtain ⟨x, ex, e⟩ := bd_some e
  obtain ⟨y, ey, e⟩ := bd_some e
  refine ha x ex H1 f1 d _ fun v H2 s2 hv => hb y ey H2 (f1.trans (Fr.same s2)) (d.same s2) _ fun w H3 s3 hw => h x y z e H3 v w ((d.same s2).same s3) (a.mono (Fr.same s3) hv) hw Q fun u H4 s4 hu => q u H4 (s2.trans (s3.trans s4)) (R.same (s2.trans s3) hu)
/-- ints -/
theorem od_I0 {g : Int → Int → V} {k : Int → Int → γ} (h : ∀ i j H, c.rp S H (g i j) (k i j)) : OpD (K := K) tInt tInt S (of c S) (rI0 g) (fun i j => some (k i j)) := by
  intro x y z e H1 v w d hv hw Q q
  cases e
  exact ⟨x, y, hv, hw, q _ H1 (Same.refl _) (h x y H1)⟩
theorem od_I {C : Int → Int → Prop} {p : Int → Int → Bool} {g : Int → Int → V} {k : Int → Int → γ} (hp : ∀ i j, p i j = true → C i j) (h : ∀ i j H, c.rp S H (g i j) (k i j)) : OpD (K := K) tInt tInt S (of c S) (rI C g) (fun i j => if p i j then some (k i j) else none) := by
  intro x y z e H1 v w d hv hw Q q
  dsimp only at e
  split at e
  · rename_i hc
    cases e
    exact ⟨x, y, hv, hw, hp _ _ hc, q _ H1 (Same.refl _) (h x y H1)⟩
  · cases e
def mulP (i j : Int) : Bool := decide (i.natAbs.log2 + j.natAbs.log2 < 1000000)
def mul? (i j : Int) : Option Int := if mulP i j then some (i * j) else none
theorem od_add : OpD (K := K) tInt tInt S (of (K := K) tInt S) (rI0 fun i j => .int (i + j)) (fun i j => some (i + j)) := od_I0 fun _ _ _ => rfl
theorem od_sub : OpD (K := K) tInt tInt S (of (K := K) tInt S) (rI0 fun i j => .int (i - j)) (fun i j => some (i - j)) := od_I0 fun _ _ _ => rfl
theorem od_mul : OpD (K := K) tInt tInt S (of (K := K) tInt S) (rI CMulW fun i j => .int (i * j)) mul? := od_I (fun i j h => show i.natAbs.log2 + j.natAbs.log2 < 1000000 from of_decide_eq_true h) fun _ _ _ => rfl
theorem od_lt : OpD (K := K) tInt tInt S (of (K := K) tBool S) (rI0 fun i j => .bl (decide (i < j))) (fun i j => some (decide (i < j))) := od_I0 fun _ _ _ => rfl
theorem od_le : OpD (K := K) tInt tInt S (of (K := K) tBool S) (rI0 fun i j => .bl (decide (i ≤ j))) (fun i j => some (decide (i ≤ j))) := od_I0 fun _ _ _ => rfl
theorem od_gt : OpD (K := K) tInt tInt S (of (K := K) tBool S) (rI0 fun i j => .bl (decide (j < i))) (fun i j => some (decide (j < i))) := od_I0 fun _ _ _ => rfl
theorem od_ge : OpD (K := K) tInt tInt S (of (K := K) tBool S) (rI0 fun i j => .bl (decide (j ≤ i))) (fun i j => some (decide (j ≤ i))) := od_I0 fun _ _ _ => rfl
theorem od_eqI : OpD (K := K) tInt tInt S (of (K := K) tBool S) rEq (fun i j => some (decide (i = j))) := by
  intro x y z e H1 v w d hv hw Q q
  cases e; cases hv; cases hw
  refine ⟨rfl, ?_⟩
  rw [show decide (V.int x = V.int y) = decide (x = y) by simp]
  exact q _ H1 (Same.refl _) rfl
theorem od_neI : OpD (K := K) tInt tInt S (of (K := K) tBool S) rNe (fun i j => some (!decide (i = j))) := by
  intro x y z e H1 v w d hv hw Q q
  cases e; cases hv; cases hw
  refine ⟨rfl, ?_⟩
  rw [show decide (V.int x = V.int y) = decide (x = y) by simp]
  exact q _ H1 (Same.refl _) rfl
theorem od_eqS : OpD (K := K) tStr tStr S (of (K := K) tBool S) rEq (fun i j => some (decide (i = j))) := by
  intro x y z e H1 v w d hv hw Q q
  obtain ⟨rfl, _⟩ := hv; obtain ⟨rfl, _⟩ := hw; cases e
  refine ⟨rfl, ?_⟩
  rw [show decide (V.str x = V.str y) = decide (x = y) by simp]
  exact q _ H1 (Same.refl _) rfl
theorem od_neS : OpD (K := K) tStr tStr S (of (K := K) tBool S) rNe (fun i j => some (!decide (i = j))) := by
  intro x y z e H1 v w d hv hw Q q
  obtain ⟨rfl, _⟩ := hv; obtain ⟨rfl, _⟩ := hw; cases e
  refine ⟨rfl, ?_⟩
  rw [show decide (V.str x = V.str y) = decide (x = y) by simp]
  exact q _ H1 (Same.refl _) rfl
/-- an item of a list, of a tuple -/
theorem od_ixL : OpD (tL a) (K := K) tInt S (of a S) (rIxL K) (fun xs i => atI xs i) := by
  intro x y z e H1 v w d hv hw Q q
  obtain ⟨p, vs, rfl, hp, ha⟩ := hv
  cases hw
  obtain ⟨u, hu, hz⟩ := ha.at e
  exact ⟨p, vs, y, u, rfl, rfl, hp.sq, hu, q u H1 (Same.refl _) hz⟩
theorem od_ixTs : OpD (tTs a) (K := K) tInt S (of a S) (rIxT K) (fun xs i => atI xs i) := by
  intro x y z e H1 v w d hv hw Q q
  obtain ⟨p, vs, rfl, hp, ha⟩ := hv
  cases hw
  obtain ⟨u, hu, hz⟩ := ha.at e
  exact ⟨p, vs, y, u, rfl, rfl, hp.sq, hu, q u H1 (Same.refl _) hz⟩
/-- an item of a pair of alike things -/
def at2 (x : α × α) (i : Int) : Option α := atI [x.1, x.2] i
theorem od_ix2 : OpD (tT2 a a) (K := K) tInt S (of a S) (rIxT K) at2 := by
  intro x y z e H1 v w d hv hw Q q
  obtain ⟨p, u1, u2, rfl, hp, h1, h2⟩ := hv
  cases hw
  obtain ⟨u, hu, hz⟩ := All2.at (F := a.rp S H1) (.cons h1 (.cons h2 .nil)) e
  exact ⟨p, _, y, u, rfl, rfl, hp.sq, hu, q u H1 (Same.refl _) hz⟩
/-- items 0, 1 of tuples by their written places -/
theorem ev_ixT {R : Rl γ} {i : Int} {ra : Option α} {g : α → γ} (ha : Ev S T ta σ H (of a S) ra) (h : ∀ x H v, a.rp S H v x → ∃ p vs u, v = .ref p ∧ SqT K H p vs ∧ atI vs i = some u ∧ R.r H H u (g x)) :
    Ev S T (tOp (rIxT K) ta (tC (.int i))) σ H R (bd ra fun x => some (g x)) := by
  intro z e H1 f1 d Q q
  obtain ⟨x, ex, e⟩ := bd_some e
  cases e
  refine ha x ex H1 f1 d _ fun v H2 s2 hv => ?_
  obtain ⟨p, vs, u, rfl, hp, hu, hz⟩ := h x H2 v hv
  exact ⟨p, vs, i, u, rfl, rfl, hp, hu, q u H2 s2 (R.same s2 hz)⟩
theorem ev_ix20 {ra : Option (α × β)} (ha : Ev S T ta σ H (of (tT2 a b) S) ra) : Ev S T (tOp (rIxT K) ta (tC (.int 0))) σ H (of a S) (bd ra fun x => some x.1) :=
  ev_ixT ha fun x H v ⟨p, u, w, e, h, h1, h2⟩ => ⟨p, _, u, e, h.sq, rfl, h1⟩
theorem ev_ix21 {ra : Option (α × β)} (ha : Ev S T ta σ H (of (tT2 a b) S) ra) : Ev S T (tOp (rIxT K) ta (tC (.int 1))) σ H (of b S) (bd ra fun x => some x.2) :=
  ev_ixT ha fun x H v ⟨p, u, w, e, h, h1, h2⟩ => ⟨p, _, w, e, h.sq, rfl, h2⟩
theorem ev_ixR0 {ra : Option Rat} (ha : Ev S T ta σ H (of (K := K) tRat S) ra) : Ev S T (tOp (rIxT K) ta (tC (.int 0))) σ H (of (K := K) tInt S) (bd ra fun x => some x.num) :=
  ev_ixT ha fun x H v ⟨p, e, h⟩ => ⟨p, _, _, e, h.sq, rfl, rfl⟩
theorem ev_ixR1 {ra : Option Rat} (ha : Ev S T ta σ H (of (K := K) tRat S) ra) : Ev S T (tOp (rIxT K) ta (tC (.int 1))) σ H (of (K := K) tInt S) (bd ra fun x => some (x.den : Int)) :=
  ev_ixT ha fun x H v ⟨p, e, h⟩ => ⟨p, _, _, e, h.sq, rfl, rfl⟩
/-! tests -/
theorem eb_test {r : Option Bool} (h : Ev S T te σ H (of (K := K) tBool S) r) : EvB S T (tTest te) σ H r := fun x ex H1 f d Q q => h x ex H1 f d _ fun v H2 s hv => ⟨x, hv, q H2 s⟩
theorem eb_B {r : Option Bool} (h : Ev S T te σ H (of (K := K) tBool S) r) : EvB S T (tB te) σ H r := fun x ex H1 f d Q q => h x ex H1 f d _ fun v H2 s hv => ⟨x, hv, q H2 s⟩
theorem eb_not {r : Option Bool} (h : EvB S T tt σ H r) : EvB S T (tNot tt) σ H (bd r fun x => some (!x)) := by
  intro z e H1 f1 d Q q
  obtain ⟨x, ex, e⟩ := bd_some e
  cases e
  exact h x ex H1 f1 d _ fun H2 s => q H2 s
theorem eb_and {r u : Option Bool} (h : EvB S T tt σ H r) (h' : EvB S T tu σ H u) : EvB S T (tAnd tt tu) σ H (bd r fun x => if x then u else some false) := by
  intro z e H1 f1 d Q q
  obtain ⟨x, ex, e⟩ := bd_some e
  refine h x ex H1 f1 d _ fun H2 s => ?_
  cases x with
  | true => exact (if_pos rfl).symm ▸ h' z e H2 (f1.trans (Fr.same s)) (d.same s) Q fun H3 s3 => q H3 (s.trans s3)
  | false => cases e; exact q H2 s
theorem eb_or {r u : Option Bool} (h : EvB S T tt σ H r) (h' : EvB S T tu σ H u) : EvB S T (tOr tt tu) σ H (bd r fun x => if x then some true else u) := by
  intro z e H1 f1 d Q q
  obtain ⟨x, ex, e⟩ := bd_some e
  refine h x ex H1 f1 d _ fun H2 s => ?_
  cases x with
  | false => exact h' z e H2 (f1.trans (Fr.same s)) (d.same s) Q fun H3 s3 => q H3 (s.trans s3)
  | true => cases e; exact q H2 s
theorem ev_if {R : Rl γ} {r : Option Bool} {ra rb : Option γ} (h : EvB S T tt σ H r) (ha : Ev S T ta σ H R ra) (hb : Ev S T tb σ H R rb) : Ev S T (tIf tt ta tb) σ H R (bd r fun x => if x then ra else rb) := by
  intro z e H1 f1 d Q q
  obtain ⟨x, ex, e⟩ := bd_some e
  refine h x ex H1 f1 d _ fun H2 s => ?_
  cases x with
  | true => exact ha z e H2 (f1.trans (Fr.same s)) (d.same s) Q fun v H3 s3 hv => q v H3 (s.trans s3) (R.same s hv)
  | false => exact hb z e H2 (f1.trans (Fr.same s)) (d.same s) Q fun v H3 s3 hv => q v H3 (s.trans s3) (R.same s hv)
theorem ev_and {r u : Option Bool} (h : Ev S T ta σ H (of (K := K) tBool S) r) (h' : Ev S T tb σ H (of (K := K) tBool S) u) : Ev S T (tAndV ta tb) σ H (of (K := K) tBool S) (bd r fun x => if x then u else some false) := by
  intro z e H1 f1 d Q q
  obtain ⟨x, ex, e⟩ := bd_some e
  refine h x ex H1 f1 d _ fun v H2 s hv => ⟨x, hv, ?_⟩
  cases x with
  | true => exact h' z e H2 (f1.trans (Fr.same s)) (d.same s) Q fun v H3 s3 hv => q v H3 (s.trans s3) hv
  | false => cases e; exact q _ H2 s rfl
theorem ev_or {r u : Option Bool} (h : Ev S T ta σ H (of (K := K) tBool S) r) (h' : Ev S T tb σ H (of (K := K) tBool S) u) : Ev S T (tOrV ta tb) σ H (of (K := K) tBool S) (bd r fun x => if x then some true else u) := by
  intro z e H1 f1 d Q q
  obtain ⟨x, ex, e⟩ := bd_some e
  refine h x ex H1 f1 d _ fun v H2 s hv => ⟨x, hv, ?_⟩
  cases x with
  | false => exact h' z e H2 (f1.trans (Fr.same s)) (d.same s) Q fun v H3 s3 hv => q v H3 (s.trans s3) hv
  | true => cases e; exact q _ H2 s rfl
theorem ev_not {r : Option Bool} (h : Ev S T ta σ H (of (K := K) tBool S) r) : Ev S T (tNotV ta) σ H (of (K := K) tBool S) (bd r fun x => some (!x)) := by
  intro z e H1 f1 d Q q
  obtain ⟨x, ex, e⟩ := bd_some e
  cases e
  exact h x ex H1 f1 d _ fun v H2 s hv => ⟨x, hv, q _ H2 s rfl⟩

/-! ### arguments and calls -/
structure TyA (K : PySem.W.Frag) (α : Type) where
  rp : AS → Hp → List V → α → Prop
  mono : ∀ {S H H' v x}, Fr S H H' → rp S H v x → rp S H' v x
def aNil : TyA K Unit := ⟨fun _ _ vs _ => vs = [], fun _ h => h⟩
def aCons (c : Ty K α) (t : TyA K β) : TyA K (α × β) := ⟨fun S H vs x => ∃ v r, vs = v :: r ∧ c.rp S H v x.1 ∧ t.rp S H r x.2, fun f ⟨v, r, e, h, h'⟩ => ⟨v, r, e, c.mono f h, t.mono f h'⟩⟩
def EvA (S T : AS) (ta : TA) (σ : St) (H : Hp) (t : TyA K α) (r : Option α) : Prop :=
  ∀ x, r = some x → ∀ H1, Fr T H H1 → Dom S H1 → ∀ Q : List V → Hp → Prop, (∀ vs H2, Same H1 H2 → t.rp S H2 vs x → Q vs H2) → ta σ H1 Q
theorem ea_nil : EvA S T tNil σ H (K := K) aNil (some ()) := fun _ e H1 f d Q q => q [] H1 (Same.refl _) rfl
theorem ea_cons {tr : TA} {t : TyA K β} {ra : Option α} {rr : Option β} (h : Ev S T ta σ H (of a S) ra) (hr : EvA S T tr σ H t rr) : EvA S T (tCons ta tr) σ H (aCons a t) (bd ra fun x => bd rr fun y => some (x, y)) := by
  intro z e H1 f1 d Q q
  obtain ⟨x, ex, e⟩ := bd_some e
  obtain ⟨y, ey, e⟩ := bd_some e
  cases e
  exact h x ex H1 f1 d _ fun v H2 s2 hv => hr y ey H2 (f1.trans (Fr.same s2)) (d.same s2) _ fun vs H3 s3 hw => q _ H3 (s2.trans s3) ⟨v, vs, rfl, a.mono (Fr.same s3) hv, hw⟩
/-- the promise of a def that changes nothing -/
def spF (t : TyA K α) (R : AS → Rl γ) (f : α → Option γ) : Sp := fun vs H Q _ => ∃ S x z, Dom S H ∧ t.rp S H vs x ∧ f x = some z ∧ ∀ u H', Same H H' → (R S).r H H' u z → Q u H'
theorem ev_call {ta : TA} {t : TyA K α} {R : AS → Rl γ} {f : α → Option γ} {r : Option α} {E : XK} (h : EvA S T ta σ H t r) : Ev S T (tCall (spF t R f) [] E ta) σ H (R S) (bd r f) := by
  intro z e H1 f1 d Q q
  obtain ⟨x, ex, e⟩ := bd_some e
  refine h x ex H1 f1 d _ fun vs H2 s2 hv => ⟨S, x, z, d.same s2, ?_, e, fun u H' s hu => q u H' (s2.trans s) ((R S).same s2 hu)⟩
  rw [List.append_nil]
  exact hv
/-! displays -/
theorem ev_tup2 {ra : Option α} {rb : Option β} (ha : Ev S T ta σ H (of a S) ra) (hb : Ev S T tb σ H (of b S) rb) : Ev S T (tTup (tCons ta (tCons tb tNil))) σ H (of (tT2 a b) S) (bd ra fun x => bd rb fun y => some (x, y)) := by
  intro z e H1 f1 d Q q
  obtain ⟨x, ex, e⟩ := bd_some e
  obtain ⟨y, ey, e⟩ := bd_some e
  cases e
  refine ha x ex H1 f1 d _ fun v H2 s2 hv => hb y ey H2 (f1.trans (Fr.same s2)) (d.same s2) _ fun w H3 s3 hw => ⟨(by show 2 ≤ sizeLine; decide), fun p hp => ?_⟩
  have s4 := same_new (o := .tup [v, w]) hp
  exact q _ _ (s2.trans (s3.trans s4)) ⟨p, v, w, rfl, .inl ⟨.inl upd_same, ((d.same s2).same s3).not_mem hp⟩, a.mono (Fr.same (s3.trans s4)) hv, b.mono (Fr.same s4) hw⟩
end
end M

namespace M
open PySem L2
section
variable {K : PySem.W.Frag} {α β γ δ ε ρ : Type} {S T : AS} {σ : St} {H : Hp} {ta tb te : TE} {tt tu : TT} {a : Ty K α} {b : Ty K β} {c : Ty K γ} {D : Ends} {u t1 t2 : TS}
theorem if_t {A B : Option α} {y : α} (h : (if true = true then A else B) = some y) : A = some y := h
theorem if_f {A B : Option α} {y : α} (h : (if false = true then A else B) = some y) : B = some y := h
theorem q_asg {R : Rl α} {r : Option α} {x : α} {i : Nat} (d : Dom S H) (h : Ev S T te σ H R r) (e : r = some x) (k : ∀ v H1, Same H H1 → R.r H H1 v x → u D (σ.set i (some v)) H1) : tSeq (tAsg te (gName i)) u D σ H := h x e H (Fr.refl _) d _ k
theorem l_asg {R : Rl α} {r : Option α} {x : α} {i : Nat} (d : Dom S H) (h : Ev S T te σ H R r) (e : r = some x) (k : ∀ v H1, Same H H1 → R.r H H1 v x → D.nx (σ.set i (some v)) H1) : tAsg te (gName i) D σ H := h x e H (Fr.refl _) d _ k
theorem q_ret {R : Rl α} {r : Option α} {x : α} (d : Dom S H) (h : Ev S T te σ H R r) (e : r = some x) (k : ∀ v H1, Same H H1 → R.r H H1 v x → D.rt v H1) : tRet te D σ H := h x e H (Fr.refl _) d _ k
theorem l_if {r : Option Bool} {b : Bool} (d : Dom S H) (h : EvB S T tt σ H r) (e : r = some b) (k1 : b = true → ∀ H1, Same H H1 → t1 D σ H1) (k2 : b = false → ∀ H1, Same H H1 → t2 D σ H1) : tIfS tt t1 t2 D σ H := h b e H (Fr.refl _) d _ fun H1 s => by
  cases b with
  | true => exact k1 rfl H1 s
  | false => exact k2 rfl H1 s
theorem q_if {r : Option Bool} {b : Bool} (d : Dom S H) (h : EvB S T tt σ H r) (e : r = some b) (k1 : b = true → ∀ H1, Same H H1 → t1 { D with nx := u D } σ H1) (k2 : b = false → ∀ H1, Same H H1 → t2 { D with nx := u D } σ H1) : tSeq (tIfS tt t1 t2) u D σ H := l_if (D := { D with nx := u D }) d h e k1 k2
theorem q_next {u : TS} {D : Ends} {σ : St} {H : Hp} (h : u D σ H) : tNext { D with nx := u D } σ H := h
theorem l_next (h : D.nx σ H) : tNext D σ H := h
theorem seq_by {t u : TS} (Pv : St → Hp → Prop) (h2 : ∀ σ H, Pv σ H → u D σ H) (h1 : (∀ σ H, Pv σ H → u D σ H) → t { D with nx := u D } σ H) : tSeq t u D σ H := h1 h2
/-- two names at once: a, b = e, f -/
theorem q_par {i j : Nat} {ra : Option α} {rb : Option β} {x : α} {y : β} (d : Dom S H) (ha : Ev S T ta σ H (of a S) ra) (ea : ra = some x) (hb : Ev S T tb σ H (of b S) rb) (eb : rb = some y) (k : ∀ v w H1, Same H H1 → a.rp S H1 v x → b.rp S H1 w y → u D ((σ.set i (some v)).set j (some w)) H1) :
    tSeq (tPar i j (tCons ta (tCons tb tNil))) u D σ H := ha x ea H (Fr.refl _) d _ fun v H1 s1 hv => hb y eb H1 (Fr.same s1) (d.same s1) _ fun w H2 s2 hw => ⟨v, w, rfl, k v w H2 (s1.trans s2) (a.mono (Fr.same s2) hv) hw⟩

theorem q_par2 {i j : Nat} {ra : Option α} {rb : Option β} {x : α} {y : β} (d : Dom S H) (ha : Ev S T ta σ H (of a S) ra) (ea : ra = some x) (hb : Ev S T tb σ H (of b S) rb) (eb : rb = some y) (k : ∀ v w H1, Same H H1 → a.rp S H1 v x → b.rp S H1 w y → u D ((σ.set i (some v)).set j (some w)) H1) :
    tSeq (tAsg (tTup (tCons ta (tCons tb tNil))) (gTup K 2 (gCons (gName i) (gCons (gName j) gNil)))) u D σ H := ha x ea H (Fr.refl _) d _ fun v H1 s1 hv => hb y eb H1 (Fr.same s1) (d.same s1) _ fun w H2 s2 hw => ⟨(by show 2 ≤ sizeLine; decide), fun p hp =>
  ⟨p, _, rfl, .inl (.inl upd_same), rfl, v, _, rfl, w, _, rfl, rfl, k v w _ ((s1.trans s2).trans (same_new hp)) (a.mono (Fr.same (s2.trans (same_new hp))) hv) (b.mono (Fr.same (same_new hp)) hw)⟩⟩
/-! ### loops -/
/-- one turn's end: go on, or tell y -/
inductive Ct (ρ σ : Type) where
  | go (s : σ) | ret (y : ρ) | brk (s : σ)
def loopC (f : δ → α → Option (Ct ρ δ)) : List α → δ → Option (Ct ρ δ)
  | [], s => some (.go s)
  | x :: xs, s => (f s x).bind fun r => match r with | .go s' => loopC f xs s' | .ret y => some (.ret y) | .brk s' => some (.go s')
def rngL (lo : Int) (n : Nat) : List Int := (List.range n).map fun (i : Nat) => lo + (i : Int)
def rngP (i : Int) : Bool := Nat.ble i.natAbs 4611686018427387903
theorem rngP_le {i : Int} (h : rngP i = true) : -(2 ^ 62) ≤ i ∧ i < 2 ^ 62 := by
  have h2 : i.natAbs ≤ 4611686018427387903 := Nat.le_of_ble_eq_true h
  omega
def rng1? (n : Int) : Option (List Int) := if rngP n then some (rngL 0 n.toNat) else none
def rng2? (lo n : Int) : Option (List Int) := if rngP lo && rngP n then some (rngL lo (n - lo).toNat) else none
/-- what is walked: xs, by their values at the heap H0, while nothing of it changes -/
structure Wk (J : It) (a : Ty K α) (S : AS) (H0 : Hp) (xs : List α) : Prop where
  go : ∀ H' i, Fr S H0 H' → i < xs.length → J.go i H'
  yl : ∀ H' i v H'', Fr S H0 H' → J.yld i H' v H'' → ∀ y, xs[i]? = some y → H'' = H' ∧ a.rp S H0 v y
  st : ∀ H' i, Fr S H0 H' → xs.length ≤ i → J.stop i H'
def Sr (S T : AS) (wi : TI) (σ : St) (H : Hp) (a : Ty K α) (r : Option (List α)) : Prop :=
  ∀ xs, r = some xs → ∀ H1, Fr T H H1 → Dom S H1 → ∀ R : It → Hp → Prop, (∀ J H2, Same H1 H2 → Wk J a S H2 xs → R J H2) → wi σ H1 R
theorem wk_list {p : Addr} {vs : List V} {xs : List α} {S : AS} {H : Hp} (hp : nL K S H p vs) (ha : All2 (a.rp S H) vs xs) : Wk (Itl K p) a S H xs where
  go H' i f hi := by
    obtain ⟨v, hv, _⟩ := ha.get i (List.getElem?_eq_getElem hi)
    exact ⟨vs, v, (hp.mono f).sq, hv⟩
  yl H' i v H'' f h y hy := by
    obtain ⟨w, hw, hr⟩ := ha.get i hy
    obtain ⟨e, hx⟩ := h
    have := hx vs (hp.mono f).sq
    rw [hw] at this
    cases this
    exact ⟨e, hr⟩
  st H' i f hi := ⟨vs, (hp.mono f).sq, by rw [ha.len]; exact hi⟩
theorem wk_tup {p : Addr} {vs : List V} {xs : List α} {S : AS} {H : Hp} (hp : nT K S H p vs) (ha : All2 (a.rp S H) vs xs) : Wk (Itt K p) a S H xs where
  go H' i f hi := by
    obtain ⟨v, hv, _⟩ := ha.get i (List.getElem?_eq_getElem hi)
    exact ⟨vs, v, (hp.mono f).sq, hv⟩
  yl H' i v H'' f h y hy := by
    obtain ⟨w, hw, hr⟩ := ha.get i hy
    obtain ⟨e, hx⟩ := h
    have := hx vs (hp.mono f).sq
    rw [hw] at this
    cases this
    exact ⟨e, hr⟩
  st H' i f hi := ⟨vs, (hp.mono f).sq, by rw [ha.len]; exact hi⟩
theorem wk_rng {lo : Int} {n : Nat} {S : AS} {H : Hp} : Wk (Itr lo n) (tInt (K := K)) S H (rngL lo n) where
  go H' i f hi := by
    show i < n
    simpa [rngL] using hi
  yl H' i v H'' f h y hy := by
    obtain ⟨e, hx⟩ := h
    refine ⟨e, ?_⟩
    unfold rngL at hy
    rw [List.getElem?_map] at hy
    cases q : (List.range n)[i]? with
    | none => rw [q] at hy; cases hy
    | some k =>
      rw [q] at hy
      cases hy
      have : k = i := by
        have := (List.getElem?_eq_some_iff.mp q).2
        simp at this
        omega
      subst this
      exact hx
  st H' i f hi := by
    show n ≤ i
    simpa [rngL] using hi
theorem sr_list {tl : TE} {r : Option (List α)} (h : Ev S T tl σ H (of (tL a) S) r) : Sr S T (iList K tl) σ H a r := fun xs e H1 f d R q =>
  h xs e H1 f d _ fun v H2 s ⟨p, vs, ev, hp, ha⟩ => ⟨p, ev, ⟨vs, hp.sq⟩, q _ H2 s (wk_list hp ha)⟩
theorem sr_tup {tl : TE} {r : Option (List α)} (h : Ev S T tl σ H (of (tTs a) S) r) : Sr S T (iTup K tl) σ H a r := fun xs e H1 f d R q =>
  h xs e H1 f d _ fun v H2 s ⟨p, vs, ev, hp, ha⟩ => ⟨p, ev, ⟨vs, hp.sq⟩, q _ H2 s (wk_tup hp ha)⟩
theorem sr_t2 {tl : TE} {r : Option (α × α)} (h : Ev S T tl σ H (of (tT2 a a) S) r) : Sr S T (iTup K tl) σ H a (bd r fun x => some [x.1, x.2]) := fun xs e H1 f d R q => by
  obtain ⟨x, ex, e⟩ := bd_some e
  cases e
  exact h x ex H1 f d _ fun v H2 s ⟨p, u, w, ev, hp, h1, h2⟩ => ⟨p, ev, ⟨_, hp.sq⟩, q _ H2 s (wk_tup hp (.cons h1 (.cons h2 .nil)))⟩
theorem sr_r1 {te : TE} {r : Option Int} (h : Ev S T te σ H (of (K := K) tInt S) r) : Sr S T (iRng1 (tCons te tNil)) σ H (tInt (K := K)) (bd r rng1?) := fun xs e H1 f d R q => by
  obtain ⟨n, en, e⟩ := bd_some e
  unfold rng1? at e
  split at e
  · rename_i hn
    cases e
    have hb := rngP_le hn
    refine h n en H1 f d _ fun v H2 s hv => ?_
    cases hv
    exact ⟨n, rfl, hb.1, hb.2, q _ H2 s wk_rng⟩
  · cases e
theorem sr_r2 {te tg : TE} {r r' : Option Int} (h : Ev S T te σ H (of (K := K) tInt S) r) (h' : Ev S T tg σ H (of (K := K) tInt S) r') : Sr S T (iRng2 (tCons te (tCons tg tNil))) σ H (tInt (K := K)) (bd r fun x => bd r' fun y => rng2? x y) := fun xs e H1 f d R q => by
  obtain ⟨lo, el, e⟩ := bd_some e
  obtain ⟨n, en, e⟩ := bd_some e
  unfold rng2? at e
  split at e
  · rename_i hn
    cases e
    rw [Bool.and_eq_true] at hn
    have hb := rngP_le hn.1
    have hc := rngP_le hn.2
    refine h lo el H1 f d _ fun v H2 s hv => h' n en H2 (f.trans (Fr.same s)) (d.same s) _ fun v' H3 s3 hv' => ?_
    cases hv
    cases hv'
    exact ⟨lo, n, rfl, ⟨hb.1, hb.2, hc.1, hc.2⟩, q _ H3 (s.trans s3) wk_rng⟩
  · cases e
/-- a walk; I: what is known of the state at each turn -/
theorem for_s {wi : TI} {j : Nat} {tb : TS} {r : Option (List α)} {xs : List α} {s0 : δ} {f : δ → α → Option (Ct ρ δ)} {res : Ct ρ δ} (d : Dom S H) (h : Sr S T wi σ H a r) (e : r = some xs) (hf : loopC f xs s0 = some res)
    (I : δ → St → Hp → Prop) (h0 : ∀ H1, Same H H1 → I s0 σ H1)
    (step : (∀ s σ' H', res = .go s → I s σ' H' → D.nx σ' H') → ∀ (s : δ) (x : α) (cr : Ct ρ δ) (v : V) (σ' : St) (H' : Hp), I s σ' H' → a.rp S H' v x → x ∈ xs → f s x = some cr → (∀ y, cr = .ret y → res = .ret y) → (∀ s', cr = .brk s' → res = .go s') →
      tb { D with nx := fun σ2 H2 => ∃ s', cr = .go s' ∧ Fr S H' H2 ∧ I s' σ2 H2, ct := fun σ2 H2 => ∃ s', cr = .go s' ∧ Fr S H' H2 ∧ I s' σ2 H2, bk := D.nx } (σ'.set j (some v)) H')
    (done : ∀ s σ' H', res = .go s → I s σ' H' → D.nx σ' H') : tFor wi (gName j) tb D σ H := by
  refine h xs e H (Fr.refl _) d _ fun J H1 s1 wk => ?_
  refine ⟨fun i m σ' H' => m = xs.length - i ∧ i ≤ xs.length ∧ Fr S H1 H' ∧ ∃ s, I s σ' H' ∧ loopC f (xs.drop i) s = some res, ⟨_, rfl, Nat.zero_le _, Fr.refl _, s0, h0 H1 s1, hf⟩, ?_⟩
  rintro i m σ' H' ⟨rfl, hi, fr, s, hI, hl⟩
  by_cases c : i < xs.length
  · right
    rw [List.drop_eq_getElem_cons c] at hl
    simp only [loopC] at hl
    cases q : f s xs[i] with
    | none => rw [q] at hl; cases hl
    | some cr =>
      rw [q] at hl
      refine ⟨wk.go H' i fr c, fun σ2 H2 => ∃ s', cr = .go s' ∧ Fr S H' H2 ∧ I s' σ2 H2, ?_, ?_⟩
      · rintro σ2 H2 ⟨s', rfl, f2, hI'⟩
        exact ⟨xs.length - (i + 1), by omega, rfl, by omega, fr.trans f2, s', hI', hl⟩
      · intro v H2 hy
        obtain ⟨rfl, hv⟩ := wk.yl H' i v H2 fr hy _ (List.getElem?_eq_getElem c)
        exact step done s xs[i] cr v σ' _ hI (a.mono fr hv) (List.getElem_mem c) q (fun y ey => by subst ey; cases hl; rfl) (fun s' ey => by subst ey; cases hl; rfl)
  · left
    refine ⟨wk.st H' i fr (by omega), ?_⟩
    rw [List.drop_eq_nil_of_le (by omega)] at hl
    cases hl
    exact done s σ' H' rfl hI
theorem q_for_s {wi : TI} {j : Nat} {tb : TS} {r : Option (List α)} {xs : List α} {s0 : δ} {f : δ → α → Option (Ct ρ δ)} {res : Ct ρ δ} (d : Dom S H) (h : Sr S T wi σ H a r) (e : r = some xs) (hf : loopC f xs s0 = some res)
    (I : δ → St → Hp → Prop) (h0 : ∀ H1, Same H H1 → I s0 σ H1)
    (step : (∀ s σ' H', res = .go s → I s σ' H' → u D σ' H') → ∀ (s : δ) (x : α) (cr : Ct ρ δ) (v : V) (σ' : St) (H' : Hp), I s σ' H' → a.rp S H' v x → x ∈ xs → f s x = some cr → (∀ y, cr = .ret y → res = .ret y) → (∀ s', cr = .brk s' → res = .go s') →
      tb { D with nx := fun σ2 H2 => ∃ s', cr = .go s' ∧ Fr S H' H2 ∧ I s' σ2 H2, ct := fun σ2 H2 => ∃ s', cr = .go s' ∧ Fr S H' H2 ∧ I s' σ2 H2, bk := u D } (σ'.set j (some v)) H')
    (done : ∀ s σ' H', res = .go s → I s σ' H' → u D σ' H') : tSeq (tFor wi (gName j) tb) u D σ H := for_s (D := { D with nx := u D }) d h e hf I h0 step done
/-! slices of lists -/
def cutD (xs : List α) (lo hi : Option Int) : List α := (xs.drop (HT.sIx xs.length 0 lo)).take (HT.sIx xs.length xs.length hi - HT.sIx xs.length 0 lo)
theorem All2.cut {F : V → α → Prop} {vs : List V} {xs : List α} (h : All2 F vs xs) (lo hi : Option Int) : All2 F (cutV vs lo hi) (cutD xs lo hi) := by
  unfold cutV cutD
  rw [h.len]
  exact (h.drop _).take _
def EvO (S T : AS) (to : TO) (σ : St) (H : Hp) (r : Option (Option Int)) : Prop :=
  ∀ x, r = some x → ∀ H1, Fr T H H1 → Dom S H1 → ∀ Q : Option Int → Hp → Prop, (∀ H2, Same H1 H2 → Q x H2) → to σ H1 Q
theorem eo_none : EvO S T tNoPart σ H (some none) := fun x e H1 f d Q q => by cases e; exact q H1 (Same.refl _)
theorem eo_some {r : Option Int} (h : Ev S T te σ H (of (K := K) tInt S) r) : EvO S T (tPart te) σ H (bd r fun i => some (some i)) := fun x e H1 f d Q q => by
  obtain ⟨i, ei, e⟩ := bd_some e
  cases e
  exact h i ei H1 f d _ fun v H2 s hv => ⟨i, hv, q H2 s⟩
theorem ev_slL {tl th : TO} {ra : Option (List α)} {rl rh : Option (Option Int)} (ha : Ev S T ta σ H (of (tL a) S) ra) (hl : EvO S T tl σ H rl) (hh : EvO S T th σ H rh) :
    Ev S T (tSl (rSlL K) ta tl th) σ H (nw a S) (bd ra fun xs => bd rl fun l => bd rh fun h => some (cutD xs l h)) := by
  intro z e H1 f1 d Q q
  obtain ⟨xs, ex, e⟩ := bd_some e
  obtain ⟨l, el, e⟩ := bd_some e
  obtain ⟨h, eh, e⟩ := bd_some e
  cases e
  refine ha xs ex H1 f1 d _ fun v H2 s2 hv => hl l el H2 (f1.trans (Fr.same s2)) (d.same s2) _ fun H3 s3 => hh h eh H3 (f1.trans (Fr.same (s2.trans s3))) (d.same (s2.trans s3)) _ fun H4 s4 => ?_
  obtain ⟨p, vs, rfl, hp, hvs⟩ := (tL a).mono (Fr.same (s3.trans s4)) hv
  refine ⟨p, vs, rfl, hp.sq, fun p' hp' => q _ _ ((s2.trans (s3.trans s4)).trans (same_new hp')) ⟨p', rfl, (s2.trans (s3.trans s4)).free hp', _, upd_same, ?_⟩⟩
  exact (hvs.cut l h).imp fun _ _ hh => a.mono (Fr.same (same_new hp')) (a.ext hp' hh)
end
end M

namespace M
open PySem L2
section
variable {K : PySem.W.Frag} {α β γ δ ε ρ : Type} {S T : AS} {σ : St} {H : Hp} {ta tb te : TE} {tt tu : TT} {a : Ty K α} {b : Ty K β} {c : Ty K γ} {D : Ends} {u t1 t2 : TS}
/-! ### ratios -/
/-- a pair of numbers as a ratio -/
def p2r (x : Int × Int) : Option Rat := if (mkRat x.1 x.2.toNat).num = x.1 ∧ ((mkRat x.1 x.2.toNat).den : Int) = x.2 then some (mkRat x.1 x.2.toNat) else none
theorem p2r_rat (q : Rat) : p2r (q.num, (q.den : Int)) = some q := by
  unfold p2r
  simp only [Int.toNat_natCast, Rat.mkRat_self, and_self, if_true]
theorem ev_p2r {r : Option (Int × Int)} (h : Ev S T te σ H (of (K := K) (tT2 tInt tInt) S) r) : Ev S T te σ H (of (K := K) tRat S) (bd r p2r) := ev_as h fun x y e H1 H2 v d ⟨p, u, w, ev, hp, h1, h2⟩ => by
  unfold p2r at e
  split at e
  · rename_i hc
    cases e
    refine ⟨p, ev, ?_⟩
    rw [hc.1, hc.2, ← h1, ← h2]
    exact hp
  · cases e
/-- a ratio as a pair of numbers -/
theorem ev_r2p {r : Option Rat} (h : Ev S T te σ H (of (K := K) tRat S) r) : Ev S T te σ H (of (K := K) (tT2 tInt tInt) S) (bd r fun q => some (q.num, (q.den : Int))) := ev_as h fun x y e H1 H2 v d ⟨p, ev, hp⟩ => by
  cases e
  exact ⟨p, _, _, ev, hp, rfl, rfl⟩
/-! ints -/
theorem ev_neg {r : Option Int} (h : Ev S T te σ H (of (K := K) tInt S) r) : Ev S T (tUn (rU fun i => .int (-i)) te) σ H (of (K := K) tInt S) (bd r fun x => some (-x)) := by
  intro z e H1 f1 d Q q
  obtain ⟨x, ex, e⟩ := bd_some e
  cases e
  exact h x ex H1 f1 d _ fun v H2 s hv => ⟨x, hv, q _ H2 s rfl⟩
theorem ev_abs {r : Option Int} (h : Ev S T te σ H (of (K := K) tInt S) r) : Ev S T (tCB (fun xs H Q => ∃ i, xs = [.int i] ∧ Q (.int (if i < 0 then -i else i)) H) (tCons te tNil)) σ H (of (K := K) tInt S) (bd r fun x => some ((x.natAbs : Nat) : Int)) := by
  intro z e H1 f1 d Q q
  obtain ⟨x, ex, e⟩ := bd_some e
  cases e
  refine h x ex H1 f1 d _ fun v H2 s hv => ?_
  cases hv
  exact ⟨x, rfl, q _ H2 s (by show V.int _ = V.int _; congr 1; split <;> omega)⟩
def fdivP (j : Int) : Bool := decide (j ≠ 0 ∧ j.natAbs.log2 < 9000)
def fdiv? (i j : Int) : Option Int := if fdivP j then some (i.fdiv j) else none
/-! len -/
theorem ev_lenL {r : Option (List α)} (h : Ev S T te σ H (of (tL a) S) r) : Ev S T (tCB (fun xs H Q => ∃ p ys, xs = [.ref p] ∧ (SqL K H p ys ∨ SqT K H p ys) ∧ Q (.int ys.length) H) (tCons te tNil)) σ H (of (K := K) tInt S) (bd r fun x => some (x.length : Int)) := by
  intro z e H1 f1 d Q q
  obtain ⟨x, ex, e⟩ := bd_some e
  cases e
  refine h x ex H1 f1 d _ fun v H2 s hv => ?_
  obtain ⟨p, vs, rfl, hp, ha⟩ := hv
  exact ⟨p, vs, rfl, .inl hp.sq, q _ H2 s (by show V.int _ = V.int _; rw [ha.len])⟩
theorem ev_lenTs {r : Option (List α)} (h : Ev S T te σ H (of (tTs a) S) r) : Ev S T (tCB (fun xs H Q => ∃ p ys, xs = [.ref p] ∧ (SqL K H p ys ∨ SqT K H p ys) ∧ Q (.int ys.length) H) (tCons te tNil)) σ H (of (K := K) tInt S) (bd r fun x => some (x.length : Int)) := by
  intro z e H1 f1 d Q q
  obtain ⟨x, ex, e⟩ := bd_some e
  cases e
  refine h x ex H1 f1 d _ fun v H2 s hv => ?_
  obtain ⟨p, vs, rfl, hp, ha⟩ := hv
  exact ⟨p, vs, rfl, .inr hp.sq, q _ H2 s (by show V.int _ = V.int _; rw [ha.len])⟩
/-! == of things by what they stand for -/
structure TyD (a : Ty K α) where
  dt : α → PyData
  dep : Nat
  dp : ∀ {S H v x}, a.rp S H v x → Dp K H v (dt x)
  shp : ∀ {S H v x}, a.rp S H v x → PyData.canLay0 (dt x) = true
  hd : ∀ x, PyData.depth (dt x) ≤ dep
  eqv : ∀ x y, PyData.eqv (dt x) (dt y) = true ↔ x = y
def dInt : TyD (K := K) tInt := ⟨.int, 0, fun h => by cases h; exact .int _, fun _ => rfl, fun _ => Nat.le_refl _, fun x y => by simp [PyData.eqv]⟩
def dBool : TyD (K := K) tBool := ⟨.bool, 0, fun h => by cases h; exact .bl _, fun _ => rfl, fun _ => Nat.le_refl _, fun x y => by simp [PyData.eqv]⟩
def dStr : TyD (K := K) tStr := ⟨.str, 0, fun h => by rw [h.1]; exact .str _, fun h => h.2, fun _ => Nat.le_refl _, fun x y => by simp [PyData.eqv]⟩
def dNone : TyD (K := K) tNone := ⟨fun _ => .none, 0, fun h => by cases h; exact .non, fun _ => rfl, fun _ => Nat.le_refl _, fun x y => by simp [PyData.eqv]⟩
theorem dpAll {a : Ty K α} (d : TyD a) {S : AS} {H : Hp} : ∀ {vs : List V} {xs : List α}, All2 (a.rp S H) vs xs → DpAll K H vs (xs.map d.dt)
  | _, _, .nil => .nil
  | _, _, .cons h r => .cons (d.dp h) (dpAll d r)
theorem shpAll {a : Ty K α} (d : TyD a) {S : AS} {H : Hp} : ∀ {vs : List V} {xs : List α}, All2 (a.rp S H) vs xs → PyData.canLayAll0 (xs.map d.dt) = true
  | _, _, .nil => rfl
  | _, x :: r, .cons h q => by
    show (PyData.canLay0 (d.dt x) && PyData.canLayAll0 (r.map d.dt)) = true
    rw [d.shp h, shpAll d q]
    rfl
theorem depAll {a : Ty K α} (d : TyD a) : ∀ xs : List α, PyData.depthAll (xs.map d.dt) ≤ d.dep
  | [] => Nat.zero_le _
  | x :: r => by
    show max (PyData.depth (d.dt x)) (PyData.depthAll (r.map d.dt)) ≤ d.dep
    exact Nat.max_le.mpr ⟨d.hd x, depAll d r⟩
theorem eqvAll {a : Ty K α} (d : TyD a) : ∀ xs ys : List α, PyData.eqvAll (xs.map d.dt) (ys.map d.dt) = true ↔ xs = ys
  | [], [] => by simp [PyData.eqvAll]
  | x :: r, [] => by simp [PyData.eqvAll]
  | [], y :: r => by simp [PyData.eqvAll]
  | x :: r, y :: q => by
    show (PyData.eqv (d.dt x) (d.dt y) && PyData.eqvAll (r.map d.dt) (q.map d.dt)) = true ↔ _
    rw [Bool.and_eq_true, d.eqv, eqvAll d r q]
    simp
def dL {a : Ty K α} (d : TyD a) : TyD (tL a) := ⟨fun xs => .list (xs.map d.dt), d.dep + 1, fun ⟨p, vs, e, hp, h⟩ => by subst e; exact .lst hp.sq (dpAll d h), fun ⟨p, vs, e, hp, h⟩ => shpAll d h, fun x => Nat.succ_le_succ (depAll d x), fun x y => eqvAll d x y⟩
def dTs {a : Ty K α} (d : TyD a) : TyD (tTs a) := ⟨fun xs => .tuple (xs.map d.dt), d.dep + 1, fun ⟨p, vs, e, hp, h⟩ => by subst e; exact .tup hp.sq (dpAll d h), fun ⟨p, vs, e, hp, h⟩ => shpAll d h, fun x => Nat.succ_le_succ (depAll d x), fun x y => eqvAll d x y⟩
def dT2 {a : Ty K α} {b : Ty K β} (d : TyD a) (e : TyD b) : TyD (tT2 a b) := ⟨fun x => .tuple [d.dt x.1, e.dt x.2], max d.dep e.dep + 1, fun ⟨p, u, w, z, hp, h1, h2⟩ => by subst z; exact .tup hp.sq (.cons (d.dp h1) (.cons (e.dp h2) .nil)),
  fun {S H v x} ⟨p, u, w, z, hp, h1, h2⟩ => by
    show (PyData.canLay0 (d.dt x.1) && (PyData.canLay0 (e.dt x.2) && true)) = true
    rw [d.shp h1, e.shp h2]
    rfl,
  fun x => by
    show max (PyData.depth (d.dt x.1)) (max (PyData.depth (e.dt x.2)) 0) + 1 ≤ _
    have h1 := d.hd x.1
    have h2 := e.hd x.2
    omega,
  fun x y => by
    show (PyData.eqv (d.dt x.1) (d.dt y.1) && (PyData.eqv (e.dt x.2) (e.dt y.2) && true)) = true ↔ _
    rw [Bool.and_true, Bool.and_eq_true, d.eqv, e.eqv]
    exact ⟨fun h => Prod.ext h.1 h.2, fun h => by subst h; exact ⟨rfl, rfl⟩⟩⟩
def dRat : TyD (K := K) tRat := ⟨fun q => .tuple [.int q.num, .int (q.den : Int)], 1, fun ⟨p, z, hp⟩ => by subst z; exact .tup hp.sq (.cons (.int _) (.cons (.int _) .nil)),
  fun _ => rfl, fun x => by show max 0 (max 0 0) + 1 ≤ 1; decide,
  fun x y => by
    show ((x.num == y.num) && (((x.den : Int) == (y.den : Int)) && true)) = true ↔ _
    rw [Bool.and_true, Bool.and_eq_true, beq_iff_eq, beq_iff_eq]
    exact ⟨fun h => Rat.ext h.1 (by omega), fun h => by subst h; exact ⟨rfl, rfl⟩⟩⟩
abbrev dSpot : TyD (K := K) tSpot := dT2 dRat dRat
theorem TyD.shaped {a : Ty K α} (d : TyD a) (h : d.dep ≤ 64) {S : AS} {H : Hp} {v : V} {x : α} (r : a.rp S H v x) : SeqAt.shaped (d.dt x) = true := by
  unfold SeqAt.shaped
  rw [d.shp r, Bool.true_and]
  exact decide_eq_true (Nat.le_trans (d.hd x) h)
theorem TyD.dec {a : Ty K α} [DecidableEq α] (d : TyD a) (x y : α) : PyData.eqv (d.dt x) (d.dt y) = decide (x = y) := by
  by_cases h : x = y
  · rw [(d.eqv x y).mpr h, decide_eq_true h]
  · rw [decide_eq_false h]
    cases q : PyData.eqv (d.dt x) (d.dt y) with
    | false => rfl
    | true => exact absurd ((d.eqv x y).mp q) h
theorem od_eqD {a : Ty K α} [DecidableEq α] (d : TyD a) (hd : d.dep ≤ 64) : OpD a a S (of (K := K) tBool S) (rEqD K) (fun x y => some (decide (x = y))) := by
  intro x y z e H1 v w dm hv hw Q q
  cases e
  refine ⟨_, _, d.dp hv, d.dp hw, d.shaped hd hv, d.shaped hd hw, ?_⟩
  rw [d.dec]
  exact q _ H1 (Same.refl _) rfl
theorem od_neD {a : Ty K α} [DecidableEq α] (d : TyD a) (hd : d.dep ≤ 64) : OpD a a S (of (K := K) tBool S) (rNeD K) (fun x y => some (!decide (x = y))) := by
  intro x y z e H1 v w dm hv hw Q q
  cases e
  refine ⟨_, _, d.dp hv, d.dp hw, d.shaped hd hv, d.shaped hd hw, ?_⟩
  rw [d.dec]
  exact q _ H1 (Same.refl _) rfl
end
end M

namespace G
open PySem L2
theorem gcd_fmod (a b : Int) : Int.gcd b (a.fmod b) = Int.gcd a b := by
  rw [Int.fmod_def, Int.sub_eq_add_neg, ← Int.mul_neg]
  rw [Int.gcd_add_mul_left_right]
  exact Int.gcd_comm b a
theorem fmod_abs_lt (a : Int) {b : Int} (h : b ≠ 0) : (a.fmod b).natAbs < b.natAbs := by
  rcases Int.lt_or_gt_of_ne h with h | h
  · have e : a.fmod b = -((-a).fmod (-b)) := by
      rw [Int.neg_fmod_neg]; omega
    have h1 := Int.fmod_nonneg_of_pos (-a) (show 0 < -b by omega)
    have h2 := Int.fmod_lt_of_pos (-a) (show 0 < -b by omega)
    omega
  · have h1 := Int.fmod_nonneg_of_pos a h
    have h2 := Int.fmod_lt_of_pos a h
    omega
theorem abs_if (x : Int) : (if x < 0 then -x else x) = ((x.natAbs : Nat) : Int) := by split <;> omega
def cOf (o u : Int) : Int := if u < 0 then -((Int.gcd o u : Nat) : Int) else ((Int.gcd o u : Nat) : Int)
def rN (o u : Int) : Int := o.fdiv (cOf o u)
def rD (o u : Int) : Int := u.fdiv (cOf o u)
def CDivZ (_ j : Int) : Prop := j ≠ 0 ∧ j.natAbs.log2 < 9000
theorem op_fdivZ {X : Cx} : OpR X (binaryOp .FloorDiv) (rI CDivZ fun i j => .int (i.fdiv j)) := opI fun _ _ _ _ _ _ _ hc q => PyProof.Rows.floordiv_int hc.1 q (.inl (PyProof.noPylong_of_log2 hc.2))
theorem cOf_ok {o u : Int} (h : u ≠ 0) (hb : u.natAbs < 2 ^ 9000) (x : Int) : CDivZ x (cOf o u) := by
  have g : 0 < Int.gcd o u := Int.gcd_pos_of_ne_zero_right o h
  have l : Int.gcd o u ≤ u.natAbs := Nat.le_of_dvd (by omega) (Int.gcd_dvd_natAbs_right o u)
  have n : (cOf o u).natAbs = Int.gcd o u := by
    unfold cOf
    split <;> omega
  refine ⟨fun z => ?_, ?_⟩
  · rw [z] at n
    simp at n
    omega
  · rw [n]
    exact PySem.Flt.log2_lt_of (by decide) (Nat.lt_of_le_of_lt l hb)
theorem pow9000 {n : Nat} (h : n < 2 ^ 200) : n < 2 ^ 9000 := Nat.lt_of_lt_of_le h (Nat.pow_le_pow_right (by decide) (by decide))
theorem small_le {n : Nat} (h : n ≤ 1000) : n ≤ sizeLine := Nat.le_of_lt (small1000 h)
theorem two {a b : V} : [a, b].length ≤ sizeLine := by
  show 2 ≤ sizeLine
  decide
theorem cOf_dl (o u : Int) : cOf o u ∣ o := by
  unfold cOf
  split
  · exact Int.neg_dvd.mpr (Int.gcd_dvd_left o u)
  · exact Int.gcd_dvd_left o u
theorem cOf_dr (o u : Int) : cOf o u ∣ u := by
  unfold cOf
  split
  · exact Int.neg_dvd.mpr (Int.gcd_dvd_right o u)
  · exact Int.gcd_dvd_right o u
theorem cOf_ne {o u : Int} (h : u ≠ 0) : cOf o u ≠ 0 := by
  have g : 0 < Int.gcd o u := Int.gcd_pos_of_ne_zero_right o h
  unfold cOf
  split <;> omega
theorem rN_eq (o u : Int) : cOf o u * rN o u = o := Int.mul_fdiv_cancel' (cOf_dl o u)
theorem rD_eq (o u : Int) : cOf o u * rD o u = u := Int.mul_fdiv_cancel' (cOf_dr o u)
theorem rD_pos {o u : Int} (h : u ≠ 0) : 0 < rD o u := by
  have e := rD_eq o u
  have g : 0 < Int.gcd o u := Int.gcd_pos_of_ne_zero_right o h
  unfold cOf at e
  generalize rD o u = d at e
  split at e
  · rename_i hu
    rcases (show 0 < d ∨ d ≤ 0 by omega) with hd | hd
    · exact hd
    · have z : 0 ≤ -((Int.gcd o u : Nat) : Int) * d := Int.mul_nonneg_of_nonpos_of_nonpos (by omega) hd
      omega
  · rcases (show 0 < d ∨ d ≤ 0 by omega) with hd | hd
    · exact hd
    · have z : ((Int.gcd o u : Nat) : Int) * d ≤ 0 := Int.mul_nonpos_of_nonneg_of_nonpos (by omega) hd
      omega
theorem le_of_mul_eq {c k o : Int} (hc : c ≠ 0) (e : c * k = o) : k.natAbs ≤ o.natAbs := by
  rw [← e, Int.natAbs_mul]
  exact Nat.le_mul_of_pos_left _ (by omega)
theorem rN_le {o u : Int} (h : u ≠ 0) : (rN o u).natAbs ≤ o.natAbs := le_of_mul_eq (cOf_ne h) (rN_eq o u)
theorem rD_le {o u : Int} (h : u ≠ 0) : (rD o u).natAbs ≤ u.natAbs := le_of_mul_eq (cOf_ne h) (rD_eq o u)
theorem rDiv {o u : Int} (h : 0 < u) : (rN o u).fdiv (rD o u) = o.fdiv u := by
  have c0 : 0 < cOf o u := by
    have g : 0 < Int.gcd o u := Int.gcd_pos_of_ne_zero_right o (by omega)
    unfold cOf
    split <;> omega
  have e := Int.mul_fdiv_mul_of_pos (rN o u) (rD o u) c0
  rw [rN_eq, rD_eq] at e
  exact e.symm
structure Bag (H : Hp) (b c : Addr) : Prop where
  ne : b ≠ c
  at_ : ∃ (ns : List Int) (sl sd : Int × Int), H b = some (.lst [.ref c, .int sl.1, .int sl.2, .int sd.1, .int sd.2]) ∧ H c = some (.lst (ns.map V.int)) ∧ ns.length ≤ 63 ∧ 0 ≤ sl.1 ∧ 0 ≤ sl.2 ∧ 0 ≤ sd.1 ∧ sd.1 < 2147483629
/-- all but what stands at b and c stands -/
def Kept (b c : Addr) (H H' : Hp) : Prop := ∀ p o, H p = some o → p ≠ b → p ≠ c → H' p = some o
theorem Kept.refl {b c : Addr} {H : Hp} : Kept b c H H := fun _ _ e _ _ => e
theorem Kept.trans {b c : Addr} {H H' H'' : Hp} (h : Kept b c H H') (h' : Kept b c H' H'') : Kept b c H H'' := fun p o e n m => h' p o (h p o e n m) n m
theorem kept_same {b c : Addr} {H H' : Hp} (h : Same H H') : Kept b c H H' := fun p o e _ _ => h p o e
theorem same_upd {H : Hp} {p : Addr} {o : HO} (h : H p = none) : Same H (upd H p o) := fun b x e => by
  rw [upd_ne (ne_of_none e h)]
  exact e
theorem Kept.upd {b c p : Addr} {H H' : Hp} {o : HO} (h : Kept b c H H') (hp : H' p = none) : Kept b c H (upd H' p o) := h.trans (kept_same (same_upd hp))
theorem Bag.same {H H' : Hp} {b c : Addr} (h : Bag H b c) (s : Same H H') : Bag H' b c := by
  obtain ⟨ne, ns, sl, sd, h1, h2, r⟩ := h
  exact ⟨ne, ns, sl, sd, s _ _ h1, s _ _ h2, r⟩
theorem Bag.upd {b c p : Addr} {H : Hp} {o : HO} (h : Bag H b c) (hp : H p = none) : Bag (upd H p o) b c := h.same (same_upd hp)
theorem Bag.off {H : Hp} {b c p : Addr} (h : Bag H b c) (hp : H p = none) : p ≠ b ∧ p ≠ c := by
  obtain ⟨_, ns, sl, sd, h1, h2, _⟩ := h
  exact ⟨(ne_of_none h1 hp).symm, (ne_of_none h2 hp).symm⟩
/-- a thing that is no list of the bag's -/
theorem Bag.tup {H : Hp} {b c p : Addr} {xs : List V} (h : Bag H b c) (hp : H p = some (.tup xs)) : p ≠ b ∧ p ≠ c := by
  obtain ⟨_, ns, sl, sd, h1, h2, _⟩ := h
  exact ⟨ne_of hp h1 (by intro z; cases z), ne_of hp h2 (by intro z; cases z)⟩
theorem seq_by {t u : TS} {D : Ends} {σ : St} {H : Hp} (Pv : St → Hp → Prop) (h2 : ∀ σ H, Pv σ H → u D σ H) (h1 : (∀ σ H, Pv σ H → u D σ H) → t { D with nx := u D } σ H) : tSeq t u D σ H := h1 h2
theorem seq_c {u : TS} {i : Nat} {v : V} {D : Ends} {σ : St} {H : Hp} (h : u D (σ.set i (some v)) H) : tSeq (tAsg (tC v) (gName i)) u D σ H := h
theorem seq_asg {te : TE} {u : TS} {i : Nat} {D : Ends} {σ : St} {H : Hp} (h : te σ H fun x H1 => u D (σ.set i (some x)) H1) : tSeq (tAsg te (gName i)) u D σ H := h
theorem seq_sub {te ta ti : TE} {r : TSet} {u : TS} {D : Ends} {σ : St} {H : Hp} (h : te σ H fun x H1 => gSub ta ti r x σ H1 fun σ' H' => u D σ' H') : tSeq (tAsg te (gSub ta ti r)) u D σ H := h
theorem seq_drop {te : TE} {u : TS} {D : Ends} {σ : St} {H : Hp} (h : te σ H fun _ H1 => u D σ H1) : tSeq (tDrop te) u D σ H := h
theorem next_u {u : TS} {D : Ends} {σ : St} {H : Hp} (h : u D σ H) : tNext { D with nx := u D } σ H := h
theorem nx_u {u : TS} {D : Ends} {rt : VK} {bk ct : St → Hp → Prop} {σ : St} {H : Hp} (h : u D σ H) : Ends.nx { nx := u D, rt := rt, bk := bk, ct := ct } σ H := h
theorem yes_ {σ : St} {H : Hp} {A B : Hp → Prop} (h : A H) : tYes σ H (fun b H3 => if b = true then A H3 else B H3) := by
  show if true = true then A H else B H
  exact iteT h
theorem int_at {ns : List Int} {i : Int} (h0 : 0 ≤ i) (h : i < (ns.length : Int)) : ∃ v : Int, atI (ns.map V.int) i = some (.int v) := by
  have ek : i = ((i.toNat : Nat) : Int) := by omega
  have hk : i.toNat < ns.length := by omega
  rw [ek]
  exact ⟨ns[i.toNat], atI_nat (by rw [List.getElem?_map, List.getElem?_eq_getElem hk] <;> rfl)⟩
theorem ix_at {n : Nat} {i : Int} (h0 : 0 ≤ i) (h : i < (n : Int)) : ixN n i = some i.toNat := by
  unfold ixN
  rw [if_pos h0, if_pos h]
theorem set_ints (ns : List Int) (j : Nat) (v : Int) : (ns.map V.int).set j (.int v) = (ns.set j v).map V.int := by
  rw [List.map_set]
theorem at_mem {xs : List V} {r : Int} (h0 : 0 ≤ r) (h : r < (xs.length : Int)) : ∃ v, v ∈ xs ∧ atI xs r = some v := by
  have hk : r.toNat < xs.length := by omega
  have e := atI_nat (xs := xs) (j := r.toNat) (List.getElem?_eq_getElem hk)
  rw [show ((r.toNat : Nat) : Int) = r by omega] at e
  exact ⟨_, List.getElem_mem hk, e⟩
theorem cut_ints (ns : List Int) (lo hi : Option Int) : ∃ ms : List Int, cutV (ns.map V.int) lo hi = ms.map V.int ∧ ms.length ≤ ns.length := by
  refine ⟨(ns.drop (HT.sIx (ns.map V.int).length 0 lo)).take (HT.sIx (ns.map V.int).length (ns.map V.int).length hi - HT.sIx (ns.map V.int).length 0 lo), ?_, ?_⟩
  · unfold cutV
    rw [List.map_take, List.map_drop]
  · rw [List.length_take, List.length_drop]
    omega
theorem ne_true {u : Int} (z : (!decide (V.int u = V.int 0)) = true) : u ≠ 0 := fun e => by
  subst e
  exact absurd z (by decide)
theorem ne_false {u : Int} (z : ¬ (!decide (V.int u = V.int 0)) = true) : u = 0 := by
  by_cases e : u = 0
  · exact e
  · exact absurd (show (!decide (V.int u = V.int 0)) = true by rw [decide_eq_false (fun q => e (V.int.inj q))]; rfl) z
def leS (a b : Str) : Prop := a.cps.toList ≤ b.cps.toList
theorem leS_trans {a b c : Str} (h : leS a b) (h' : leS b c) : leS a c := List.le_trans h h'
theorem leS_anti {a b : Str} (h : leS a b) (h' : leS b a) : a = b := by
  have e : a.cps.toList = b.cps.toList := List.le_antisymm h h'
  cases a
  cases b
  exact congrArg Str.mk (Array.toList_inj.mp e)
theorem ris_all : ∀ (l : List Str) (p : Str), PyProof.Rows.risingS p l = true → (∀ x ∈ l, leS p x) ∧ l.Pairwise leS
  | [], _, _ => ⟨(fun _ h => nomatch h), .nil⟩
  | x :: r, p, h => by
    unfold PyProof.Rows.risingS at h
    rw [Bool.and_eq_true, Bool.not_eq_true'] at h
    rw [PyProof.Rows.ltCps_eq] at h
    have hx : leS p x := of_decide_eq_false h.1
    obtain ⟨i1, i2⟩ := ris_all r x h.2
    refine ⟨fun y hy => ?_, List.pairwise_cons.mpr ⟨i1, i2⟩⟩
    rcases List.mem_cons.mp hy with rfl | hy
    · exact hx
    · exact leS_trans hx (i1 y hy)
theorem srt_pw : ∀ {l : List Str}, PyProof.Rows.sortedS l = true → l.Pairwise leS
  | [], _ => .nil
  | x :: r, h => List.pairwise_cons.mpr (ris_all r x h)
theorem srt_same {a b : List Str} (hp : a.Perm b) (ha : PyProof.Rows.sortedS a = true) (hb : PyProof.Rows.sortedS b = true) : a = b :=
  hp.eq_of_pairwise (fun _ _ _ _ h1 h2 => leS_anti h1 h2) (srt_pw ha) (srt_pw hb)
theorem srtI_same {a b : List Int} (hp : a.Perm b) (ha : a.Pairwise (· ≤ ·)) (hb : b.Pairwise (· ≤ ·)) : a = b :=
  hp.eq_of_pairwise (fun _ _ _ _ h1 h2 => Int.le_antisymm h1 h2) ha hb
theorem lay_all : ∀ {ds : List PyData}, (∀ d ∈ ds, d.canLay0 = true) → PyData.canLayAll0 ds = true
  | [], _ => rfl
  | d :: r, h => by
    unfold PyData.canLayAll0
    rw [h d List.mem_cons_self, lay_all fun x hx => h x (List.mem_cons_of_mem _ hx)]
    rfl
theorem depth_all : ∀ {ds : List PyData} {n : Nat}, (∀ d ∈ ds, d.depth ≤ n) → PyData.depthAll ds ≤ n
  | [], _, _ => Nat.zero_le _
  | d :: r, n, h => by
    unfold PyData.depthAll
    exact Nat.max_le.mpr ⟨h d List.mem_cons_self, depth_all fun x hx => h x (List.mem_cons_of_mem _ hx)⟩

/-! ### ratios of the program are Lean's -/
theorem gcd_rND {o u : Int} (h : u ≠ 0) : Int.gcd (rN o u) (rD o u) = 1 := by
  have g : 0 < Int.gcd o u := Int.gcd_pos_of_ne_zero_right o h
  have e : Int.gcd o u = (cOf o u).natAbs * Int.gcd (rN o u) (rD o u) := by
    rw [← Int.gcd_mul_left, rN_eq, rD_eq]
  have n : (cOf o u).natAbs = Int.gcd o u := by
    unfold cOf
    split <;> omega
  rw [n] at e
  exact (Nat.eq_of_mul_eq_mul_left g (by rw [Nat.mul_one]; exact e)).symm
theorem rat_rND {o u : Int} (h : u ≠ 0) : (Rat.divInt o u).num = rN o u ∧ ((Rat.divInt o u).den : Int) = rD o u := by
  have p := rD_pos (o := o) h
  have c : Nat.Coprime (rN o u).natAbs (rD o u).toNat := by
    have := gcd_rND (o := o) h
    unfold Int.gcd at this
    rw [show (rD o u).natAbs = (rD o u).toNat by omega] at this
    exact this
  have e : Rat.divInt o u = ⟨rN o u, (rD o u).toNat, by omega, c⟩ := by
    rw [Rat.mk_eq_divInt, Int.toNat_of_nonneg (by omega)]
    have e2 := @Rat.divInt_mul_left (rN o u) (rD o u) (cOf o u) (cOf_ne h)
    rw [rN_eq, rD_eq] at e2
    exact e2
  rw [e]
  exact ⟨rfl, by show (((rD o u).toNat : Nat) : Int) = _; omega⟩
end G


namespace M
open PySem L2
section
variable {K : PySem.W.Frag} {α β γ δ ε ρ : Type} {S T : AS} {σ : St} {H : Hp} {ta tb te : TE} {tt tu : TT} {a : Ty K α} {b : Ty K β} {c : Ty K γ} {D : Ends} {u t1 t2 : TS}
theorem if_and {g : Bool} {A : Option α} {y : α} (h : (if g then A else none) = some y) : g = true ∧ A = some y := by
  cases g with
  | true => exact ⟨rfl, h⟩
  | false => cases h
theorem sub_cons {p : Addr} {S S' : AS} (h : Sub S S') : Sub S (p :: S') := fun a m => List.mem_cons_of_mem _ (h a m)
theorem cons_sub {p : Addr} {S S' : AS} (h : p ∈ S') (h' : Sub S S') : Sub (p :: S) S' := fun a m => by
  rcases List.mem_cons.mp m with rfl | m
  · exact h
  · exact h' a m
theorem nwL.sub {c : Ty K α} {S S' T : AS} {H0 H H1 : Hp} {v : V} {xs : List α} (h : nwL c S H H1 v xs) (hs : Sub S' S) (f : Fr T H0 H) (d : Dom T H) : nwL c S' H0 H1 v xs := by
  obtain ⟨p, e, n, vs, hv, ha⟩ := h
  exact ⟨p, e, fr_back f d n, vs, hv, ha.imp fun _ _ => c.sub fun a m => by
    rcases List.mem_cons.mp m with rfl | m
    · exact List.mem_cons_self ..
    · exact List.mem_cons_of_mem _ (hs a m)⟩
theorem Own.same {c : Ty K α} {S : AS} {H H' : Hp} {p : Addr} {xs : List α} (h : Own c S H p xs) (s : Same H H') : Own c S H' p xs := by
  obtain ⟨vs, hv, ha⟩ := h
  exact ⟨vs, s _ _ hv, ha.imp fun _ _ => c.mono (Fr.same s)⟩
theorem Own.fr {c : Ty K α} {S T : AS} {H H' : Hp} {p : Addr} {xs : List α} (h : Own c S H p xs) (f : Fr T H H') (ts : Sub T S) (n : p ∉ T) : Own c S H' p xs := by
  obtain ⟨vs, hv, ha⟩ := h
  exact ⟨vs, f _ _ hv n, ha.imp fun _ _ => c.mono (f.sub ts)⟩
theorem Own.ext {c : Ty K α} {S : AS} {H : Hp} {p q : Addr} {xs : List α} (h : Own c S H p xs) (n : H q = none) : Own c (q :: S) H p xs := by
  obtain ⟨vs, hv, ha⟩ := h
  exact ⟨vs, hv, ha.imp fun _ _ => c.ext n⟩
theorem Own.ne {c : Ty K α} {S : AS} {H : Hp} {p q : Addr} {xs : List α} (h : Own c S H p xs) (n : H q = none) : p ≠ q := by
  obtain ⟨vs, hv, ha⟩ := h
  exact ne_of_none hv n
theorem Own.sub {c : Ty K α} {S S' : AS} {H : Hp} {p : Addr} {xs : List α} (h : Own c S H p xs) (hs : Sub S' S) : Own c S' H p xs := by
  obtain ⟨vs, hv, ha⟩ := h
  exact ⟨vs, hv, ha.imp fun _ _ => c.sub hs⟩
/-! items put behind an owned list -/
def app? (xs : List α) (x : α) : Option (List α) := if xs.length < 100000 then some (xs ++ [x]) else none
/-- all but p stands, and what p held is H1 p -/
structure Mut1 (p : Addr) (H H' : Hp) : Prop where
  k : ∀ a o, H a = some o → a ≠ p → H' a = some o
  p' : H' p ≠ none
theorem l_app {p : Addr} {xs ys : List α} {i : Nat} {r : Option α} {x : α} (d : Dom S H) (o : Own a S H p xs) (im : p ∈ S) (nt : p ∉ T) (ts : Sub T S) (hi : σ[i]? = some (some (.ref p))) (h : Ev S T te σ H (of a S) r) (e : r = some x) (f : app? xs x = some ys)
    (k : ∀ H1, Mut1 p H H1 → Fr S H H1 → Own a S H1 p ys → D.nx σ H1) : tDrop (tBM K "list" rAppend (tVar i) (tCons te tNil)) D σ H := by
  obtain ⟨vs, hv, ha⟩ := o
  unfold app? at f
  split at f
  · rename_i hl
    cases f
    refine ⟨_, hi, Or.inl ⟨rfl, vs, .inl (.inl hv)⟩, h x e H (Fr.refl _) d _ fun v H1 s1 hx => ?_⟩
    refine ⟨p, vs, v, rfl, rfl, s1 _ _ hv, Nat.lt_of_lt_of_le (by rw [ha.len]; exact hl) (by decide), ?_⟩
    have f1 : Fr S H1 (upd H1 p (.lst (vs ++ [v]))) := fr_upd im
    refine k _ ⟨fun b ob e n => by rw [upd_ne n]; exact s1 _ _ e, by rw [upd_same]; intro z; cases z⟩ ((Fr.same s1).trans f1) ⟨vs ++ [v], upd_same, ?_⟩
    exact ((ha.imp fun _ _ h => a.mono (Fr.same s1) h).snoc hx).imp fun _ _ h => a.mono f1 h
  · cases f
theorem q_app {p : Addr} {xs ys : List α} {i : Nat} {r : Option α} {x : α} (d : Dom S H) (o : Own a S H p xs) (im : p ∈ S) (nt : p ∉ T) (ts : Sub T S) (hi : σ[i]? = some (some (.ref p))) (h : Ev S T te σ H (of a S) r) (e : r = some x) (f : app? xs x = some ys)
    (k : ∀ H1, Mut1 p H H1 → Fr S H H1 → Own a S H1 p ys → u D σ H1) : tSeq (tDrop (tBM K "list" rAppend (tVar i) (tCons te tNil))) u D σ H := l_app (D := { D with nx := u D }) d o im nt ts hi h e f k
theorem Fr.mut {p : Addr} {H0 H H' : Hp} (f : Fr T H0 H) (d : Dom T H) (n : H0 p = none) (m : Mut1 p H H') : Fr T H0 H' := fun b o e nb => m.k b o (f b o e nb) (ne_of_none e n)
theorem Mut1.fr {p : Addr} {H H' : Hp} (m : Mut1 p H H') (h : p ∈ S) : Fr S H H' := fun b o e nb => m.k b o e fun z => nb (by rw [z]; exact h)
theorem Fr.mutN {p : Addr} {H0 H H' : Hp} (f : Fr T H0 H) (n : H0 p = none) (m : Mut1 p H H') : Fr T H0 H' := fun b o e nb => m.k b o (f b o e nb) (ne_of_none e n)
theorem Dom.sub {S' : AS} (d : Dom S H) (h : Sub S' S) : Dom S' H := fun a m => d a (h a m)
theorem Dom.fx {p : Addr} {H H' : Hp} (d : Dom S H) (f : Fr S H H') (m : Mut1 p H H') : Dom S H' := fun b mb e => by
  by_cases q : b = p
  · subst q; exact m.p' e
  · cases z : H b with
    | none => exact d b mb z
    | some o => rw [m.k b o z q] at e; cases e
theorem Own.mut {c : Ty K α} {S : AS} {H H' : Hp} {p q : Addr} {xs : List α} (h : Own c S H p xs) (f : Fr S H H') (m : Mut1 q H H') (n : p ≠ q) : Own c S H' p xs := by
  obtain ⟨vs, hv, ha⟩ := h
  exact ⟨vs, m.k _ _ hv n, ha.imp fun _ _ => c.mono f⟩
theorem seq_last {t : TS} (Pv : St → Hp → Prop) (h2 : ∀ σ H, Pv σ H → D.nx σ H) (h1 : (∀ σ H, Pv σ H → D.nx σ H) → t D σ H) : t D σ H := h1 h2
/-! lists made -/
theorem ev_lst0 : Ev S T (tLst tNil) σ H (nw a S) (some []) := fun x e H1 f d Q q => by
  cases e
  exact ⟨Nat.zero_le _, fun p hp => q _ _ (same_new hp) ⟨p, rfl, hp, [], upd_same, .nil⟩⟩
theorem ev_list {r : Option (List α)} (h : Ev S T te σ H (of (tL a) S) r) : Ev S T (tCB (fun xs H Q => ∃ p ys, xs = [.ref p] ∧ (SqL K H p ys ∨ SqT K H p ys) ∧ ∀ l, H l = none → Q (.ref l) (upd H l (.lst ys))) (tCons te tNil)) σ H (nw a S) r := fun x e H1 f d Q q => by
  refine h x e H1 f d _ fun v H2 s2 hv => ?_
  obtain ⟨p, vs, rfl, hp, ha⟩ := hv
  exact ⟨p, vs, rfl, .inl hp.sq, fun l hl => q _ _ (s2.trans (same_new hl)) ⟨l, rfl, s2.free hl, vs, upd_same, ha.imp fun _ _ h => a.mono (Fr.same (same_new hl)) (a.ext hl h)⟩⟩
def EvE (S T : AS) (ta : TA) (σ : St) (H : Hp) (a : Ty K α) (n : Nat) (r : Option (List α)) : Prop :=
  ∀ x, r = some x → ∀ H1, Fr T H H1 → Dom S H1 → ∀ Q : List V → Hp → Prop, (∀ vs H2, vs.length = n → Same H1 H2 → All2 (a.rp S H2) vs x → Q vs H2) → ta σ H1 Q
theorem el_nil : EvE S T tNil σ H a 0 (some []) := fun _ e H1 f d Q q => by cases e; exact q [] H1 rfl (Same.refl _) .nil
theorem el_cons {tr : TA} {n : Nat} {ra : Option α} {rr : Option (List α)} (h : Ev S T ta σ H (of a S) ra) (hr : EvE S T tr σ H a n rr) : EvE S T (tCons ta tr) σ H a (n + 1) (bd ra fun x => bd rr fun y => some (x :: y)) := by
  intro z e H1 f1 d Q q
  obtain ⟨x, ex, e⟩ := bd_some e
  obtain ⟨y, ey, e⟩ := bd_some e
  cases e
  exact h x ex H1 f1 d _ fun v H2 s2 hv => hr y ey H2 (f1.trans (Fr.same s2)) (d.same s2) _ fun vs H3 hl s3 hw => q _ H3 (by simp [hl]) (s2.trans s3) (.cons (a.mono (Fr.same s3) hv) hw)
theorem ev_lst {tr : TA} {n : Nat} {rr : Option (List α)} (h : EvE S T tr σ H a n rr) (hn : n ≤ sizeLine) : Ev S T (tLst tr) σ H (nw a S) rr := fun x e H1 f d Q q =>
  h x e H1 f d _ fun vs H2 hl s2 ha => ⟨by rw [hl]; exact hn, fun p hp => q _ _ (s2.trans (same_new hp)) ⟨p, rfl, s2.free hp, vs, upd_same, ha.imp fun _ _ h => a.mono (Fr.same (same_new hp)) (a.ext hp h)⟩⟩
theorem All2.bools {S : AS} {H : Hp} : ∀ {vs : List V} {xs : List Bool}, All2 ((tBool (K := K)).rp S H) vs xs → vs = xs.map V.bl
  | _, _, .nil => rfl
  | _, _, .cons h r => by rw [List.map_cons, ← All2.bools r, show _ = _ from h]
theorem ev_all {r : Option (List Bool)} (h : Ev S T te σ H (of (K := K) (tL tBool) S) r) : Ev S T (tCB (rAll K) (tCons te tNil)) σ H (of (K := K) tBool S) (bd r fun x => some (x.all id)) := by
  intro z e H1 f1 d Q q
  obtain ⟨x, ex, e⟩ := bd_some e
  cases e
  refine h x ex H1 f1 d _ fun v H2 s hv => ?_
  obtain ⟨p, vs, rfl, hp, ha⟩ := hv
  refine ⟨p, x, rfl, ?_, q _ H2 s rfl⟩
  rw [← ha.bools]
  exact hp.sq
theorem ev_intB {r : Option Bool} (h : Ev S T te σ H (of (K := K) tBool S) r) : Ev S T (tCB (fun xs H Q => (∃ i, xs = [.int i] ∧ Q (.int i) H) ∨ ∃ k, xs = [.bl k] ∧ Q (.int (if k then 1 else 0)) H) (tCons te tNil)) σ H (of (K := K) tInt S) (bd r fun x => some (if x then 1 else 0 : Int)) := by
  intro z e H1 f1 d Q q
  obtain ⟨x, ex, e⟩ := bd_some e
  cases e
  refine h x ex H1 f1 d _ fun v H2 s hv => ?_
  cases hv
  exact .inr ⟨x, rfl, q _ H2 s rfl⟩
/-! comprehensions over a list -/
def mapO (f : α → Option β) : List α → Option (List β)
  | [] => some []
  | x :: xs => bd (f x) fun y => bd (mapO f xs) fun ys => some (y :: ys)
theorem mapO_get {f : α → Option β} : ∀ {xs : List α} {ys : List β} {i : Nat} {x : α}, mapO f xs = some ys → xs[i]? = some x → ∃ y, f x = some y ∧ ys[i]? = some y
  | [], _, i, x, _, e => by simp at e
  | z :: xs, ys, i, x, h, e => by
    obtain ⟨y, hy, h⟩ := bd_some h
    obtain ⟨r, hr, h⟩ := bd_some h
    cases h
    cases i with
    | zero => simp at e; subst e; exact ⟨y, hy, rfl⟩
    | succ i =>
      obtain ⟨w, h1, h2⟩ := mapO_get (i := i) hr (by simpa using e)
      exact ⟨w, h1, by simpa using h2⟩
theorem mapO_len {f : α → Option β} : ∀ {xs : List α} {ys : List β}, mapO f xs = some ys → ys.length = xs.length
  | [], _, h => by cases h; rfl
  | z :: xs, ys, h => by
    obtain ⟨y, hy, h⟩ := bd_some h
    obtain ⟨r, hr, h⟩ := bd_some h
    cases h
    simp [mapO_len hr]
def filO (f : α → Option (Option β)) : List α → Option (List β)
  | [] => some []
  | x :: xs => bd (f x) fun o => bd (filO f xs) fun ys => match o with | some y => some (y :: ys) | none => some ys
theorem filO_map {f : α → Option β} : ∀ xs : List α, filO (fun x => bd (f x) fun y => some (some y)) xs = mapO f xs
  | [] => rfl
  | x :: r => by
    simp only [filO, mapO, bd, filO_map r]
    cases f x <;> rfl
def mapL? (f : α → Option β) (xs : List α) : Option (List β) := if xs.length < 100000 then mapO f xs else none
/-- [te for x in wi] -/
theorem lc_core2 {wi : TI} {j : Nat} {ws : List Nat} {r : Option (List α)} {f : α → Option (Option β)} (h : Sr S T wi σ H a r) (hw : ∀ x, wipe ((wipe σ ws).set j (some x)) ws = wipe σ ws)
    (he : ∀ (x : α) (v : V) (H2 H' : Hp) (p : Addr) (o : Option β), Fr T H H2 → H2 p = none → Same H2 H' → a.rp (p :: S) H' v x → Dom (p :: S) H' → f x = some o → ∀ (Q1 : V → Hp → Prop) (Q0 : Hp → Prop), (∀ y w H3, o = some y → Same H' H3 → b.rp (p :: S) H3 w y → Q1 w H3) → (∀ H3, o = none → Same H' H3 → Q0 H3) →
      tt ((wipe σ ws).set j (some v)) H' fun k H3 => if k = true then te ((wipe σ ws).set j (some v)) H3 Q1 else Q0 H3) :
    Ev S T (tLc wi (gName j) tt te ws) σ H (nw b S) (bd r fun xs => if xs.length < 100000 then filO f xs else none) := by
  intro z e H1 f1 d Q q
  obtain ⟨xs, ex, e⟩ := bd_some e
  split at e
  rotate_left
  · cases e
  rename_i hlen
  refine h xs ex H1 f1 d _ fun J H2 s2 wk => fun Dl hD => ?_
  have d2 := d.same s2
  have sD : Same H2 (upd H2 Dl (.lst [])) := same_new hD
  refine ⟨fun i m H' => m = xs.length - i ∧ i ≤ xs.length ∧ ∃ acc pre, H' Dl = some (.lst acc) ∧ Same H2 H' ∧ acc.length ≤ i ∧ All2 (b.rp (Dl :: S) H') acc pre ∧ ∃ suf, filO f (xs.drop i) = some suf ∧ z = pre ++ suf, ⟨_, rfl, Nat.zero_le _, [], [], upd_same, sD, Nat.zero_le _, .nil, z, e, rfl⟩, ?_⟩
  rintro i m H' ⟨rfl, hi, acc, pre, h1, h2, h3, h4, suf, h5, h6⟩
  by_cases c : i < xs.length
  · right
    rw [List.drop_eq_getElem_cons c] at h5
    obtain ⟨o, ho, h5⟩ := bd_some h5
    obtain ⟨suf', hs', h5⟩ := bd_some h5
    refine ⟨wk.go H' i (Fr.same h2) c, fun H3 => ∃ acc pre, H3 Dl = some (.lst acc) ∧ Same H2 H3 ∧ acc.length ≤ i + 1 ∧ All2 (b.rp (Dl :: S) H3) acc pre ∧ ∃ suf, filO f (xs.drop (i + 1)) = some suf ∧ z = pre ++ suf, ?_, ?_⟩
    · rintro H3 ⟨acc, pre, g1, g2, g3, g4, suf, g5, g6⟩
      exact ⟨xs.length - (i + 1), by omega, rfl, by omega, acc, pre, g1, g2, g3, g4, suf, g5, g6⟩
    · intro v H3 hy
      obtain ⟨rfl, hv⟩ := wk.yl H' i v H3 (Fr.same h2) hy _ (List.getElem?_eq_getElem c)
      refine ⟨hw v, ?_⟩
      refine he xs[i] v H2 _ Dl o (f1.trans (Fr.same s2)) hD h2 (a.mono (Fr.same h2) (a.ext hD hv)) ((d2.same h2).cons h1) ho _ _ (fun y w H4 eo s4 hw4 => ?_) (fun H4 eo s4 => ?_)
      · subst eo
        cases h5
        refine ⟨acc, s4 _ _ h1, Nat.lt_of_lt_of_le (by omega : acc.length < 100000) (by decide), acc ++ [w], pre ++ [y], upd_same, fun p ob eb => ?_, by simp; omega, ?_, suf', hs', by rw [h6]; simp⟩
        · rw [upd_ne (ne_of_none eb hD)]
          exact s4 _ _ (h2 _ _ eb)
        · have fD : Fr (Dl :: S) H4 (upd H4 Dl (.lst (acc ++ [w]))) := fr_upd (List.mem_cons_self ..)
          exact ((h4.imp fun _ _ h => b.mono (Fr.same s4) h).snoc hw4).imp fun _ _ h => b.mono fD h
      · subst eo
        cases h5
        exact ⟨acc, pre, s4 _ _ h1, fun p ob eb => s4 _ _ (h2 _ _ eb), by omega, h4.imp fun _ _ h => b.mono (Fr.same s4) h, _, hs', h6⟩
  · left
    rw [List.drop_eq_nil_of_le (by omega)] at h5
    cases h5
    rw [List.append_nil] at h6
    subst h6
    exact ⟨wk.st H' i (Fr.same h2) (by omega), q _ _ (s2.trans h2) ⟨Dl, rfl, s2.free hD, acc, h1, h4⟩⟩
theorem ev_lc {wi : TI} {j : Nat} {ws : List Nat} {r : Option (List α)} {f : α → Option β} (h : Sr S T wi σ H a r) (hw : ∀ x, wipe ((wipe σ ws).set j (some x)) ws = wipe σ ws)
    (he : ∀ (x : α) (v : V) (H2 H' : Hp) (p : Addr), Fr T H H2 → H2 p = none → Same H2 H' → a.rp (p :: S) H' v x → Ev (p :: S) [] te ((wipe σ ws).set j (some v)) H' (of b (p :: S)) (f x)) :
    Ev S T (tLc wi (gName j) tYes te ws) σ H (nw b S) (bd r fun xs => mapL? f xs) := by
  have k := lc_core2 (tt := tYes) (te := te) (b := b) (f := fun x => bd (f x) fun y => some (some y)) h hw fun x v H2 H' p o g1 g2 g3 g4 g5 g6 Q1 Q0 g7 g8 => by
    obtain ⟨y, hy, g6⟩ := bd_some g6
    cases g6
    refine G.yes_ ?_
    exact he x v H2 H' p g1 g2 g3 g4 y hy H' (Fr.refl _) g5 _ fun w H3 s3 hw3 => g7 y w H3 rfl s3 hw3
  intro z e
  refine k z ?_
  obtain ⟨xs, ex, e⟩ := bd_some e
  rw [ex]
  unfold mapL? at e
  show (if xs.length < 100000 then filO _ xs else none) = some z
  split at e
  · rename_i hl
    rw [if_pos hl, filO_map]
    exact e
  · cases e
/-- with a test -/
def filL? (g : α → Option Bool) (f : α → Option β) (xs : List α) : Option (List β) := if xs.length < 100000 then filO (fun x => bd (g x) fun k => if k then bd (f x) fun y => some (some y) else some none) xs else none
theorem ev_lcF {wi : TI} {j : Nat} {ws : List Nat} {r : Option (List α)} {g : α → Option Bool} {f : α → Option β} (h : Sr S T wi σ H a r) (hw : ∀ x, wipe ((wipe σ ws).set j (some x)) ws = wipe σ ws)
    (ht : ∀ (x : α) (v : V) (H2 H' : Hp) (p : Addr), Fr T H H2 → H2 p = none → Same H2 H' → a.rp (p :: S) H' v x → EvB (p :: S) [] tt ((wipe σ ws).set j (some v)) H' (g x))
    (he : ∀ (x : α) (v : V) (H2 H' : Hp) (p : Addr), Fr T H H2 → H2 p = none → Same H2 H' → a.rp (p :: S) H' v x → Ev (p :: S) [] te ((wipe σ ws).set j (some v)) H' (of b (p :: S)) (f x)) :
    Ev S T (tLc wi (gName j) tt te ws) σ H (nw b S) (bd r fun xs => filL? g f xs) :=
  lc_core2 (tt := tt) (te := te) (b := b) (f := fun x => bd (g x) fun k => if k then bd (f x) fun y => some (some y) else some none) h hw fun x v H2 H' p o g1 g2 g3 g4 g5 g6 Q1 Q0 g7 g8 => by
    obtain ⟨k, hk, g6⟩ := bd_some g6
    refine ht x v H2 H' p g1 g2 g3 g4 k hk H' (Fr.refl _) g5 _ fun H3 s3 => ?_
    cases k with
    | true =>
      obtain ⟨y, hy, g6⟩ := bd_some (if_t g6)
      cases g6
      show if true = true then _ else _
      rw [if_pos rfl]
      exact he x v H2 H' p g1 g2 g3 g4 y hy H3 (Fr.same s3) (g5.same s3) _ fun w H4 s4 hw4 => g7 y w H4 rfl (s3.trans s4) hw4
    | false =>
      cases (if_f g6)
      show if false = true then _ else _
      rw [if_neg (by decide)]
      exact g8 H3 rfl s3
end
end M

namespace M
open PySem L2 G
abbrev Wp (α : Type) := (α → Prop) → Prop
def lf {α : Type} (r : Option α) : Wp α := fun P => ∃ x, r = some x ∧ P x
def opW {α β γ : Type} (f : α → β → Option γ) (wa : Wp α) (wb : Wp β) : Wp γ := fun P => wa fun x => wb fun y => lf (f x y) P
def unW {α γ : Type} (g : α → Option γ) (wa : Wp α) : Wp γ := fun P => wa fun x => lf (g x) P
def tup2W {α β : Type} (wa : Wp α) (wb : Wp β) : Wp (α × β) := fun P => wa fun x => wb fun y => P (x, y)
def consW {α : Type} (wa : Wp α) (wb : Wp (List α)) : Wp (List α) := fun P => wa fun x => wb fun y => P (x :: y)
def andW (r v : Wp Bool) : Wp Bool := fun P => r fun x => if x then v P else P false
def orW (r v : Wp Bool) : Wp Bool := fun P => r fun x => if x then P true else v P
def callBW {α γ : Type} (m : α → Wp γ) (w : Wp α) : Wp γ := fun P => w fun a => m a P
theorem lf_some {α : Type} {x : α} {P : α → Prop} : lf (some x) P ↔ P x := ⟨fun ⟨y, e, h⟩ => by cases e; exact h, fun h => ⟨x, rfl, h⟩⟩
theorem _root_.G.Bag.dom {H : Hp} {b c : Addr} (h : Bag H b c) : Dom [b, c] H := fun a m e => by
  obtain ⟨_, ns, sl, sd, h1, h2, _⟩ := h
  simp only [List.mem_cons, List.not_mem_nil, or_false] at m
  rcases m with rfl | rfl
  · rw [h1] at e; cases e
  · rw [h2] at e; cases e
theorem dom_fr {S : AS} {H H' : Hp} {b c : Addr} (d : Dom S H) (f : Fr [b, c] H H') (h : Bag H' b c) : Dom S H' := fun a m e => by
  by_cases q : a ∈ [b, c]
  · exact h.dom a q e
  · cases z : H a with
    | none => exact d a m z
    | some o => rw [f a o z q] at e; cases e
section
variable {K : PySem.W.Frag} {α β γ δ ε ρ : Type} {S T : AS} {σ : St} {H : Hp} {ta tb te : TE} {tt tu : TT} {a : Ty K α} {b' : Ty K β} {c' : Ty K γ} {D : Ends} {u t1 t2 : TS} {b c : Addr}
def EvW (b c : Addr) (S : AS) (te : TE) (σ : St) (H : Hp) (R : Rl α) (w : Wp α) : Prop :=
  Sub [b, c] S → ∀ P, w P → ∀ H1, Fr [b, c] H H1 → Dom S H1 → Bag H1 b c → ∀ Q : VK, (∀ v H2 x, P x → Fr [b, c] H1 H2 → Dom S H2 → Bag H2 b c → R.r H1 H2 v x → Q v H2) → te σ H1 Q
def BvW (b c : Addr) (S : AS) (tt : TT) (σ : St) (H : Hp) (w : Wp Bool) : Prop :=
  Sub [b, c] S → ∀ P, w P → ∀ H1, Fr [b, c] H H1 → Dom S H1 → Bag H1 b c → ∀ Q : Bool → Hp → Prop, (∀ H2 x, P x → Fr [b, c] H1 H2 → Dom S H2 → Bag H2 b c → Q x H2) → tt σ H1 Q
theorem ew_pure {R : Rl α} {r : Option α} (h : Ev S [b, c] te σ H R r) : EvW b c S te σ H R (lf r) := fun ts P ⟨x, e, hP⟩ H1 f d hB Q q =>
  h x e H1 f d Q fun v H2 s hv => q v H2 x hP (Fr.same s) (d.same s) (hB.same s) hv
theorem ew_new {w : Wp (List α)} (h : EvW b c S te σ H (nw a S) w) : EvW b c S te σ H (of (tL a) S) w := fun ts P hP H1 f d hB Q q =>
  h ts P hP H1 f d hB Q fun v H2 x hx f2 d2 hB2 hv => q v H2 x hx f2 d2 hB2 (nwL.rp hv d)
theorem ew_op {R : Rl γ} {r : R2} {f : α → β → Option γ} {wa : Wp α} {wb : Wp β} (h : OpD a b' S R r f) (ha : EvW b c S ta σ H (of a S) wa) (hb : EvW b c S tb σ H (of b' S) wb) :
    EvW b c S (tOp r ta tb) σ H R (opW f wa wb) := fun ts P hP H1 f1 d hB Q q =>
  ha ts _ hP H1 f1 d hB _ fun v H2 x hx f2 d2 hB2 hv => hb ts _ hx H2 (f1.trans f2) d2 hB2 _ fun w H3 y ⟨z, e, hz⟩ f3 d3 hB3 hw => h x y z e H3 v w d3 (a.mono (f3.sub ts) hv) hw Q fun u H4 s4 hu => q u H4 z hz ((f2.trans f3).trans (Fr.same s4)) (d3.same s4) (hB3.same s4) (R.back (f2.trans f3) hB3.dom hu)
theorem ew_ixT {R : Rl γ} {i : Int} {wa : Wp α} {g : α → γ} (ha : EvW b c S ta σ H (of a S) wa) (h : ∀ x H v, a.rp S H v x → ∃ p vs u, v = .ref p ∧ SqT K H p vs ∧ atI vs i = some u ∧ R.r H H u (g x)) :
    EvW b c S (tOp (rIxT K) ta (tC (.int i))) σ H R (unW (fun x => some (g x)) wa) := fun ts P hP H1 f1 d hB Q q => by
  refine ha ts _ hP H1 f1 d hB _ fun v H2 x ⟨z, e, hz⟩ f2 d2 hB2 hv => ?_
  cases e
  obtain ⟨p, vs, u, rfl, hp, hu, hr⟩ := h x H2 v hv
  exact ⟨p, vs, i, u, rfl, rfl, hp, hu, q u H2 _ hz f2 d2 hB2 (R.back f2 hB2.dom hr)⟩
theorem ew_ix20 {ra : Wp (α × β)} (ha : EvW b c S ta σ H (of (tT2 a b') S) ra) : EvW b c S (tOp (rIxT K) ta (tC (.int 0))) σ H (of a S) (unW (fun x => some x.1) ra) :=
  ew_ixT ha fun x H v ⟨p, u, w, e, h, h1, h2⟩ => ⟨p, _, u, e, h.sq, rfl, h1⟩
theorem ew_ix21 {ra : Wp (α × β)} (ha : EvW b c S ta σ H (of (tT2 a b') S) ra) : EvW b c S (tOp (rIxT K) ta (tC (.int 1))) σ H (of b' S) (unW (fun x => some x.2) ra) :=
  ew_ixT ha fun x H v ⟨p, u, w, e, h, h1, h2⟩ => ⟨p, _, w, e, h.sq, rfl, h2⟩
theorem ew_tup2 {wa : Wp α} {wb : Wp β} (ha : EvW b c S ta σ H (of a S) wa) (hb : EvW b c S tb σ H (of b' S) wb) : EvW b c S (tTup (tCons ta (tCons tb tNil))) σ H (of (tT2 a b') S) (tup2W wa wb) := fun ts P hP H1 f1 d hB Q q => by
  refine ha ts _ hP H1 f1 d hB _ fun v H2 x hx f2 d2 hB2 hv => hb ts _ hx H2 (f1.trans f2) d2 hB2 _ fun w H3 y hy f3 d3 hB3 hw => ⟨(by show 2 ≤ sizeLine; decide), fun p hp => ?_⟩
  have s4 := same_new (o := .tup [v, w]) hp
  exact q _ _ (x, y) hy ((f2.trans f3).trans (Fr.same s4)) (d3.same s4) (hB3.same s4) ⟨p, v, w, rfl, .inl ⟨.inl upd_same, d3.not_mem hp⟩, a.mono (Fr.same s4) (a.mono (f3.sub ts) hv), b'.mono (Fr.same s4) hw⟩
/-! tests -/
theorem bw_pure {r : Option Bool} (h : EvB S [b, c] tt σ H r) : BvW b c S tt σ H (lf r) := fun ts P ⟨x, e, hP⟩ H1 f d hB Q q => h x e H1 f d Q fun H2 s => q H2 x hP (Fr.same s) (d.same s) (hB.same s)
theorem bw_test {w : Wp Bool} (h : EvW b c S te σ H (of (K := K) tBool S) w) : BvW b c S (tTest te) σ H w := fun ts P hP H1 f d hB Q q => h ts P hP H1 f d hB _ fun v H2 x hx f2 d2 hB2 hv => ⟨x, hv, q H2 x hx f2 d2 hB2⟩
theorem bw_B {w : Wp Bool} (h : EvW b c S te σ H (of (K := K) tBool S) w) : BvW b c S (tB te) σ H w := fun ts P hP H1 f d hB Q q => h ts P hP H1 f d hB _ fun v H2 x hx f2 d2 hB2 hv => ⟨x, hv, q H2 x hx f2 d2 hB2⟩
theorem bw_and {r v : Wp Bool} (h : BvW b c S tt σ H r) (h' : BvW b c S tu σ H v) : BvW b c S (tAnd tt tu) σ H (andW r v) := fun ts P hP H1 f1 d hB Q q => by
  refine h ts _ hP H1 f1 d hB _ fun H2 x hx f2 d2 hB2 => ?_
  cases x with
  | true => exact h' ts P hx H2 (f1.trans f2) d2 hB2 Q fun H3 y hy f3 d3 hB3 => q H3 y hy (f2.trans f3) d3 hB3
  | false => exact q H2 false hx f2 d2 hB2
theorem bw_or {r v : Wp Bool} (h : BvW b c S tt σ H r) (h' : BvW b c S tu σ H v) : BvW b c S (tOr tt tu) σ H (orW r v) := fun ts P hP H1 f1 d hB Q q => by
  refine h ts _ hP H1 f1 d hB _ fun H2 x hx f2 d2 hB2 => ?_
  cases x with
  | false => exact h' ts P hx H2 (f1.trans f2) d2 hB2 Q fun H3 y hy f3 d3 hB3 => q H3 y hy (f2.trans f3) d3 hB3
  | true => exact q H2 true hx f2 d2 hB2
theorem ew_and {r v : Wp Bool} (h : EvW b c S ta σ H (of (K := K) tBool S) r) (h' : EvW b c S tb σ H (of (K := K) tBool S) v) : EvW b c S (tAndV ta tb) σ H (of (K := K) tBool S) (andW r v) := fun ts P hP H1 f1 d hB Q q => by
  refine h ts _ hP H1 f1 d hB _ fun v H2 x hx f2 d2 hB2 hv => ⟨x, hv, ?_⟩
  cases x with
  | true => exact h' ts P hx H2 (f1.trans f2) d2 hB2 Q fun v H3 y hy f3 d3 hB3 hv => q v H3 y hy (f2.trans f3) d3 hB3 hv
  | false => exact q _ H2 false hx f2 d2 hB2 rfl
theorem ew_or {r v : Wp Bool} (h : EvW b c S ta σ H (of (K := K) tBool S) r) (h' : EvW b c S tb σ H (of (K := K) tBool S) v) : EvW b c S (tOrV ta tb) σ H (of (K := K) tBool S) (orW r v) := fun ts P hP H1 f1 d hB Q q => by
  refine h ts _ hP H1 f1 d hB _ fun v H2 x hx f2 d2 hB2 hv => ⟨x, hv, ?_⟩
  cases x with
  | false => exact h' ts P hx H2 (f1.trans f2) d2 hB2 Q fun v H3 y hy f3 d3 hB3 hv => q v H3 y hy (f2.trans f3) d3 hB3 hv
  | true => exact q _ H2 true hx f2 d2 hB2 rfl
/-! arguments, calls -/
def EvWA (b c : Addr) (S : AS) (ta : TA) (σ : St) (H : Hp) (t : TyA K α) (w : Wp α) : Prop :=
  Sub [b, c] S → ∀ P, w P → ∀ H1, Fr [b, c] H H1 → Dom S H1 → Bag H1 b c → ∀ Q : List V → Hp → Prop, (∀ vs H2 x, P x → Fr [b, c] H1 H2 → Dom S H2 → Bag H2 b c → t.rp S H2 vs x → Q vs H2) → ta σ H1 Q
theorem wa_nil : EvWA b c S tNil σ H (K := K) aNil (lf (some ())) := fun ts P ⟨x, e, hP⟩ H1 f d hB Q q => q [] H1 x hP (Fr.refl _) d hB rfl
theorem wa_cons {tr : TA} {t : TyA K β} {wa : Wp α} {wr : Wp β} (h : EvW b c S ta σ H (of a S) wa) (hr : EvWA b c S tr σ H t wr) : EvWA b c S (tCons ta tr) σ H (aCons a t) (tup2W wa wr) := fun ts P hP H1 f1 d hB Q q =>
  h ts _ hP H1 f1 d hB _ fun v H2 x hx f2 d2 hB2 hv => hr ts _ hx H2 (f1.trans f2) d2 hB2 _ fun vs H3 y hy f3 d3 hB3 hw => q _ H3 (x, y) hy (f2.trans f3) d3 hB3 ⟨v, vs, rfl, a.mono (f3.sub ts) hv, hw⟩
theorem ew_call {ta : TA} {t : TyA K α} {R : AS → Rl γ} {f : α → Option γ} {w : Wp α} {E : XK} (h : EvWA b c S ta σ H t w) : EvW b c S (tCall (spF t R f) [] E ta) σ H (R S) (unW f w) := fun ts P hP H1 f1 d hB Q q => by
  refine h ts _ hP H1 f1 d hB _ fun vs H2 x ⟨z, e, hz⟩ f2 d2 hB2 hv => ⟨S, x, z, d2, ?_, e, fun u H' s hu => q u H' z hz (f2.trans (Fr.same s)) (d2.same s) (hB2.same s) ((R S).back f2 hB2.dom hu)⟩
  rw [List.append_nil]
  exact hv
/-- the promise of a def that draws from the bag -/
def spB (t : TyA K α) (R : AS → Rl γ) (m : α → Wp γ) : Sp := fun vs H Q _ => ∃ S b c r x P, vs = .ref b :: r ∧ Dom S H ∧ Sub [b, c] S ∧ Bag H b c ∧ t.rp S H r x ∧ m x P ∧ ∀ u H' z, P z → Fr [b, c] H H' → Bag H' b c → (R S).r H H' u z → Q u H'
theorem ew_callB {ta : TA} {t : TyA K α} {R : AS → Rl γ} {m : α → Wp γ} {w : Wp α} {E : XK} {i : Nat} (hi : σ[i]? = some (some (.ref b))) (h : EvWA b c S ta σ H t w) :
    EvW b c S (tCall (spB t R m) [] E (tCons (tVar i) ta)) σ H (R S) (callBW m w) := fun ts P hP H1 f1 d hB Q q => by
  refine ⟨_, hi, h ts _ hP H1 f1 d hB _ fun vs H2 x hx f2 d2 hB2 hv => ⟨S, b, c, vs, x, P, by rw [List.append_nil], d2, ts, hB2, hv, hx, fun u H' z hz f3 hB3 hu => q u H' z hz (f2.trans f3) (dom_fr d2 f3 hB3) hB3 ((R S).back f2 hB2.dom hu)⟩⟩
/-! lists made -/
def EvWE (b c : Addr) (S : AS) (ta : TA) (σ : St) (H : Hp) (a : Ty K α) (n : Nat) (w : Wp (List α)) : Prop :=
  Sub [b, c] S → ∀ P, w P → ∀ H1, Fr [b, c] H H1 → Dom S H1 → Bag H1 b c → ∀ Q : List V → Hp → Prop, (∀ vs H2 x, P x → vs.length = n → Fr [b, c] H1 H2 → Dom S H2 → Bag H2 b c → All2 (a.rp S H2) vs x → Q vs H2) → ta σ H1 Q
theorem wl_nil : EvWE b c S tNil σ H a 0 (lf (some [])) := fun ts P ⟨x, e, hP⟩ H1 f d hB Q q => by cases e; exact q [] H1 [] hP rfl (Fr.refl _) d hB .nil
theorem wl_cons {tr : TA} {n : Nat} {wa : Wp α} {wr : Wp (List α)} (h : EvW b c S ta σ H (of a S) wa) (hr : EvWE b c S tr σ H a n wr) : EvWE b c S (tCons ta tr) σ H a (n + 1) (consW wa wr) := fun ts P hP H1 f1 d hB Q q =>
  h ts _ hP H1 f1 d hB _ fun v H2 x hx f2 d2 hB2 hv => hr ts _ hx H2 (f1.trans f2) d2 hB2 _ fun vs H3 y hy hl f3 d3 hB3 hw => q _ H3 (x :: y) hy (by simp [hl]) (f2.trans f3) d3 hB3 (.cons (a.mono (f3.sub ts) hv) hw)
theorem ew_lst {tr : TA} {n : Nat} {wr : Wp (List α)} (h : EvWE b c S tr σ H a n wr) (hn : n ≤ sizeLine) : EvW b c S (tLst tr) σ H (nw a S) wr := fun ts P hP H1 f d hB Q q =>
  h ts P hP H1 f d hB _ fun vs H2 x hx hl f2 d2 hB2 ha => ⟨by rw [hl]; exact hn, fun p hp => q _ _ x hx (f2.trans (Fr.same (same_new hp))) (d2.same (same_new hp)) (hB2.same (same_new hp)) ⟨p, rfl, fr_back f2 hB2.dom hp, vs, upd_same, ha.imp fun _ _ h => a.mono (Fr.same (same_new hp)) (a.ext hp h)⟩⟩
/-! statements -/
theorem lw_asg {R : Rl α} {w : Wp α} {P : α → Prop} {i : Nat} (d : Dom S H) (hB : Bag H b c) (ts : Sub [b, c] S) (h : EvW b c S te σ H R w) (e : w P) (k : ∀ v H1 x, P x → Fr [b, c] H H1 → Dom S H1 → Bag H1 b c → R.r H H1 v x → D.nx (σ.set i (some v)) H1) : tAsg te (gName i) D σ H := h ts P e H (Fr.refl _) d hB _ k
theorem qw_asg {R : Rl α} {w : Wp α} {P : α → Prop} {i : Nat} (d : Dom S H) (hB : Bag H b c) (ts : Sub [b, c] S) (h : EvW b c S te σ H R w) (e : w P) (k : ∀ v H1 x, P x → Fr [b, c] H H1 → Dom S H1 → Bag H1 b c → R.r H H1 v x → u D (σ.set i (some v)) H1) : tSeq (tAsg te (gName i)) u D σ H := h ts P e H (Fr.refl _) d hB _ k
theorem qw_ret {R : Rl α} {w : Wp α} {P : α → Prop} (d : Dom S H) (hB : Bag H b c) (ts : Sub [b, c] S) (h : EvW b c S te σ H R w) (e : w P) (k : ∀ v H1 x, P x → Fr [b, c] H H1 → Dom S H1 → Bag H1 b c → R.r H H1 v x → D.rt v H1) : tRet te D σ H := h ts P e H (Fr.refl _) d hB _ k
theorem lw_if {w : Wp Bool} {P : Bool → Prop} (d : Dom S H) (hB : Bag H b c) (ts : Sub [b, c] S) (h : BvW b c S tt σ H w) (e : w P) (k1 : ∀ H1, P true → Fr [b, c] H H1 → Dom S H1 → Bag H1 b c → t1 D σ H1) (k2 : ∀ H1, P false → Fr [b, c] H H1 → Dom S H1 → Bag H1 b c → t2 D σ H1) : tIfS tt t1 t2 D σ H := h ts P e H (Fr.refl _) d hB _ fun H1 x hx f d hB => by
  cases x with
  | true => exact k1 H1 hx f d hB
  | false => exact k2 H1 hx f d hB
theorem qw_if {w : Wp Bool} {P : Bool → Prop} (d : Dom S H) (hB : Bag H b c) (ts : Sub [b, c] S) (h : BvW b c S tt σ H w) (e : w P) (k1 : ∀ H1, P true → Fr [b, c] H H1 → Dom S H1 → Bag H1 b c → t1 { D with nx := u D } σ H1) (k2 : ∀ H1, P false → Fr [b, c] H H1 → Dom S H1 → Bag H1 b c → t2 { D with nx := u D } σ H1) : tSeq (tIfS tt t1 t2) u D σ H := lw_if (D := { D with nx := u D }) d hB ts h e k1 k2
theorem ifp_t {A B : Prop} (h : if true = true then A else B) : A := h
theorem ifp_f {A B : Prop} (h : if false = true then A else B) : B := h
theorem ifp_and {g : Bool} {A : Prop} (h : if g then A else False) : g = true ∧ A := by
  cases g with
  | true => exact ⟨rfl, h⟩
  | false => exact h.elim
/-! loops -/
def loopW (f : δ → α → Wp (Ct ρ δ)) : List α → δ → Wp (Ct ρ δ)
  | [], s, P => P (.go s)
  | x :: xs, s, P => f s x fun r => match r with | .go s' => loopW f xs s' P | .ret y => P (.ret y) | .brk s' => P (.go s')
def SrW (b c : Addr) (S : AS) (wi : TI) (σ : St) (H : Hp) (a : Ty K α) (w : Wp (List α)) : Prop :=
  Sub [b, c] S → ∀ P, w P → ∀ H1, Fr [b, c] H H1 → Dom S H1 → Bag H1 b c → ∀ R : It → Hp → Prop, (∀ J H2 xs, P xs → Fr [b, c] H1 H2 → Dom S H2 → Bag H2 b c → Wk J a S H2 xs → R J H2) → wi σ H1 R
theorem srw_pure {wi : TI} {r : Option (List α)} (h : Sr S [b, c] wi σ H a r) : SrW b c S wi σ H a (lf r) := fun ts P ⟨xs, e, hP⟩ H1 f d hB R q => h xs e H1 f d R fun J H2 s wk => q J H2 xs hP (Fr.same s) (d.same s) (hB.same s) wk
theorem srw_r1 {te : TE} {w : Wp Int} (h : EvW b c S te σ H (of (K := K) tInt S) w) : SrW b c S (iRng1 (tCons te tNil)) σ H (tInt (K := K)) (unW rng1? w) := fun ts P hP H1 f d hB R q => by
  refine h ts _ hP H1 f d hB _ fun v H2 n ⟨xs, e, hx⟩ f2 d2 hB2 hv => ?_
  unfold rng1? at e
  split at e
  · rename_i hn
    cases e
    have hb := rngP_le hn
    cases hv
    exact ⟨n, rfl, hb.1, hb.2, q _ H2 _ hx f2 d2 hB2 wk_rng⟩
  · cases e
theorem lw_for_s {wi : TI} {j : Nat} {tb : TS} {w : Wp (List α)} {s0 : δ} {f : δ → α → Wp (Ct ρ δ)} {P : Ct ρ δ → Prop} (d : Dom S H) (hB : Bag H b c) (ts : Sub [b, c] S) (h : SrW b c S wi σ H a w) (hf : w fun xs => loopW f xs s0 P)
    (I : δ → St → Hp → Prop) (h0 : ∀ H1, Fr [b, c] H H1 → Dom S H1 → Bag H1 b c → I s0 σ H1)
    (step : (∀ s σ' H', P (.go s) → I s σ' H' → D.nx σ' H') → ∀ (s : δ) (x : α) (C : Ct ρ δ → Prop) (v : V) (σ' : St) (H' : Hp), I s σ' H' → a.rp S H' v x → f s x C → (∀ y, C (.ret y) → P (.ret y)) → (∀ s', C (.brk s') → P (.go s')) →
      tb { D with nx := fun σ2 H2 => ∃ s', C (.go s') ∧ Fr S H' H2 ∧ I s' σ2 H2, ct := fun σ2 H2 => ∃ s', C (.go s') ∧ Fr S H' H2 ∧ I s' σ2 H2, bk := D.nx } (σ'.set j (some v)) H')
    (done : ∀ s σ' H', P (.go s) → I s σ' H' → D.nx σ' H') : tFor wi (gName j) tb D σ H := by
  refine h ts _ hf H (Fr.refl _) d hB _ fun J H1 xs hl0 f1 d1 hB1 wk => ?_
  refine ⟨fun i m σ' H' => m = xs.length - i ∧ i ≤ xs.length ∧ Fr S H1 H' ∧ ∃ s, I s σ' H' ∧ loopW f (xs.drop i) s P, ⟨_, rfl, Nat.zero_le _, Fr.refl _, s0, h0 H1 f1 d1 hB1, hl0⟩, ?_⟩
  rintro i m σ' H' ⟨rfl, hi, fr, s, hI, hl⟩
  by_cases c : i < xs.length
  · right
    rw [List.drop_eq_getElem_cons c] at hl
    simp only [loopW] at hl
    refine ⟨wk.go H' i fr c, fun σ2 H2 => ∃ s', loopW f (xs.drop (i + 1)) s' P ∧ Fr S H' H2 ∧ I s' σ2 H2, ?_, ?_⟩
    · rintro σ2 H2 ⟨s', hl', f2, hI'⟩
      exact ⟨xs.length - (i + 1), by omega, rfl, by omega, fr.trans f2, s', hI', hl'⟩
    · intro v H2 hy
      obtain ⟨rfl, hv⟩ := wk.yl H' i v H2 fr hy _ (List.getElem?_eq_getElem c)
      exact step done s xs[i] _ v σ' _ hI (a.mono fr hv) hl (fun y ey => ey) (fun s' ey => ey)
  · left
    refine ⟨wk.st H' i fr (by omega), ?_⟩
    rw [List.drop_eq_nil_of_le (by omega)] at hl
    exact done s σ' H' hl hI
theorem qw_for_s {wi : TI} {j : Nat} {tb : TS} {w : Wp (List α)} {s0 : δ} {f : δ → α → Wp (Ct ρ δ)} {P : Ct ρ δ → Prop} (d : Dom S H) (hB : Bag H b c) (ts : Sub [b, c] S) (h : SrW b c S wi σ H a w) (hf : w fun xs => loopW f xs s0 P)
    (I : δ → St → Hp → Prop) (h0 : ∀ H1, Fr [b, c] H H1 → Dom S H1 → Bag H1 b c → I s0 σ H1)
    (step : (∀ s σ' H', P (.go s) → I s σ' H' → u D σ' H') → ∀ (s : δ) (x : α) (C : Ct ρ δ → Prop) (v : V) (σ' : St) (H' : Hp), I s σ' H' → a.rp S H' v x → f s x C → (∀ y, C (.ret y) → P (.ret y)) → (∀ s', C (.brk s') → P (.go s')) →
      tb { D with nx := fun σ2 H2 => ∃ s', C (.go s') ∧ Fr S H' H2 ∧ I s' σ2 H2, ct := fun σ2 H2 => ∃ s', C (.go s') ∧ Fr S H' H2 ∧ I s' σ2 H2, bk := u D } (σ'.set j (some v)) H')
    (done : ∀ s σ' H', P (.go s) → I s σ' H' → u D σ' H') : tSeq (tFor wi (gName j) tb) u D σ H := lw_for_s (D := { D with nx := u D }) d hB ts h hf I h0 step done
theorem _root_.G.Bag.mut {p : Addr} {H H' : Hp} (h : Bag H b c) (m : Mut1 p H H') (n : p ∉ [b, c]) : Bag H' b c := by
  obtain ⟨ne, ns, sl, sd, h1, h2, r⟩ := h
  simp only [List.mem_cons, List.not_mem_nil, or_false, not_or] at n
  exact ⟨ne, ns, sl, sd, m.k _ _ h1 (Ne.symm n.1), m.k _ _ h2 (Ne.symm n.2), r⟩
def jn (f : (δ → Prop) → Prop) (k : δ → Prop) : Prop := f k
theorem jn_open {f : (δ → Prop) → Prop} {k : δ → Prop} (h : jn f k) : ∃ K_ : δ → Prop, (∀ j, K_ j → k j) ∧ f K_ := ⟨k, fun _ h => h, h⟩
/-! owned lists read -/
theorem ev_ownIx {p : Addr} {xs : List α} {i : Nat} {r : Option Int} (o : Own a S H p xs) (nt : p ∉ T) (ts : Sub T S) (hi : σ[i]? = some (some (.ref p))) (h : Ev S T te σ H (of (K := K) tInt S) r) : Ev S T (tOp (rIxL K) (tVar i) te) σ H (of a S) (bd r fun y => atI xs y) := by
  intro z e H1 f1 d Q q
  obtain ⟨y, ey, e⟩ := bd_some e
  refine ⟨_, hi, h y ey H1 f1 d _ fun v H2 s2 hv => ?_⟩
  cases hv
  obtain ⟨vs, hvs, ha⟩ := (o.fr f1 ts nt).same s2
  obtain ⟨w, hw, hz⟩ := ha.at e
  exact ⟨p, vs, y, w, rfl, rfl, .inl (.inl hvs), hw, q _ _ s2 hz⟩
theorem ev_ownLen {p : Addr} {xs : List α} {i : Nat} (o : Own a S H p xs) (nt : p ∉ T) (ts : Sub T S) (hi : σ[i]? = some (some (.ref p))) : Ev S T (tCB (fun xs H Q => ∃ p ys, xs = [.ref p] ∧ (SqL K H p ys ∨ SqT K H p ys) ∧ Q (.int ys.length) H) (tCons (tVar i) tNil)) σ H (of (K := K) tInt S) (some (xs.length : Int)) := by
  intro z e H1 f1 d Q q
  cases e
  obtain ⟨vs, hvs, ha⟩ := o.fr f1 ts nt
  exact ⟨_, hi, p, vs, rfl, .inl (.inl (.inl hvs)), q _ _ (Same.refl _) (by show V.int _ = V.int _; rw [ha.len])⟩
theorem ev_ownNe [DecidableEq α] (dt : TyD a) (hd : (dL dt).dep ≤ 64) {p : Addr} {xs : List α} {i : Nat} {r : Option (List α)} (o : Own a S H p xs) (nt : p ∉ T) (ts : Sub T S) (hi : σ[i]? = some (some (.ref p))) (h : Ev S T te σ H (of (tL a) S) r) : Ev S T (tOp (rNeD K) (tVar i) te) σ H (of (K := K) tBool S) (bd r fun y => some (!decide (xs = y))) := by
  intro z e H1 f1 d Q q
  obtain ⟨y, ey, e⟩ := bd_some e
  cases e
  refine ⟨_, hi, h y ey H1 f1 d _ fun v H2 s2 hv => ?_⟩
  obtain ⟨vs, hvs, ha⟩ := (o.fr f1 ts nt).same s2
  have rp0 : (tL a).rp [] H2 (.ref p) xs := ⟨p, vs, rfl, ⟨hvs, by simp⟩, ha.imp fun _ _ => a.sub fun _ m => by simp at m⟩
  refine ⟨_, _, (dL dt).dp rp0, (dL dt).dp hv, (dL dt).shaped hd rp0, (dL dt).shaped hd hv, ?_⟩
  rw [(dL dt).dec]
  exact q _ _ s2 rfl
end
end M

namespace M
open PySem L2 G
section
variable {K : PySem.W.Frag} {α β γ δ ε ρ : Type} {S T : AS} {σ : St} {H : Hp} {ta tb te tc td : TE} {tt tu : TT} {a : Ty K α} {b' : Ty K β} {c' : Ty K γ} {d' : Ty K δ} {D : Ends} {u t1 t2 : TS} {b c : Addr}
/-! ### None or a thing -/
def optM (o : Option α) (A : β) (B : α → β) : β := match o with | none => A | some x => B x
theorem opt_cases {o : Option α} {A : Option β} {B : α → Option β} {y : β} (h : optM o A B = some y) : (o = none ∧ A = some y) ∨ ∃ x, o = some x ∧ B x = some y := by
  cases o with
  | none => exact .inl ⟨rfl, h⟩
  | some x => exact .inr ⟨x, rfl, h⟩
theorem optp_cases {o : Option α} {A : Prop} {B : α → Prop} (h : optM o A B) : (o = none ∧ A) ∨ ∃ x, o = some x ∧ B x := by
  cases o with
  | none => exact .inl ⟨rfl, h⟩
  | some x => exact .inr ⟨x, rfl, h⟩
/-- a code whose things are never None -/
class NN (a : Ty K α) : Prop where
  h : ∀ {S H v x}, a.rp S H v x → v ≠ .non
instance : NN (K := K) tInt := ⟨fun h => by rw [show _ = _ from h]; intro z; cases z⟩
instance : NN (K := K) tBool := ⟨fun h => by rw [show _ = _ from h]; intro z; cases z⟩
instance : NN (K := K) tStr := ⟨fun h => by rw [h.1]; intro z; cases z⟩
instance : NN (K := K) tRat := ⟨fun ⟨p, e, _⟩ => by rw [e]; intro z; cases z⟩
instance : NN (tT2 a b') := ⟨fun ⟨p, u, w, e, _⟩ => by rw [e]; intro z; cases z⟩
instance : NN (tL a) := ⟨fun ⟨p, u, e, _⟩ => by rw [e]; intro z; cases z⟩
instance : NN (tTs a) := ⟨fun ⟨p, u, e, _⟩ => by rw [e]; intro z; cases z⟩
theorem ev_oN {r : Option Unit} (h : Ev S T te σ H (of (K := K) tNone S) r) : Ev S T te σ H (of (tOpt a) S) (bd r fun _ => some none) := ev_as h fun x y e H1 H2 v d hv => by
  cases e
  exact hv
theorem ev_oS [NN a] {r : Option α} (h : Ev S T te σ H (of a S) r) : Ev S T te σ H (of (tOpt a) S) (bd r fun x => some (some x)) := ev_as h fun x y e H1 H2 v d hv => by
  cases e
  exact ⟨NN.h hv, hv⟩
theorem eb_isN (ts : Sub T S) {i : Nat} {v : V} {x : Option α} (h : (tOpt a).rp S H v x) (e : σ[i]? = some (some v)) : EvB S T (tTest (tOp (fun x y H Q => y = .non ∧ Q (.bl (decide (x = .non))) H) (tVar i) (tC .non))) σ H (some x.isNone) := by
  intro z ez H1 f d Q q
  cases ez
  refine ⟨v, e, rfl, _, rfl, ?_⟩
  cases x with
  | none => rw [show v = .non from h]; exact q H1 (Same.refl _)
  | some y => rw [decide_eq_false h.1]; exact q H1 (Same.refl _)
theorem eb_notN (ts : Sub T S) {i : Nat} {v : V} {x : Option α} (h : (tOpt a).rp S H v x) (e : σ[i]? = some (some v)) : EvB S T (tTest (tOp (fun x y H Q => y = .non ∧ Q (.bl (!decide (x = .non))) H) (tVar i) (tC .non))) σ H (some x.isSome) := by
  intro z ez H1 f d Q q
  cases ez
  refine ⟨v, e, rfl, _, rfl, ?_⟩
  cases x with
  | none => rw [show v = .non from h]; exact q H1 (Same.refl _)
  | some y => rw [decide_eq_false h.1]; exact q H1 (Same.refl _)
theorem opt_is {v : V} {x : Option α} {y : α} (h : (tOpt a).rp S H v x) (e : x = some y) : a.rp S H v y := by
  subst e
  exact h.2
theorem opt_back [NN a] {v : V} {x : Option α} {y : α} (h : a.rp S H v y) (e : x = some y) : (tOpt a).rp S H v x := by
  subst e
  exact ⟨NN.h h, h⟩
/-! ### tuples of four -/
def tT4 (c1 : Ty K α) (c2 : Ty K β) (c3 : Ty K γ) (c4 : Ty K δ) : Ty K (α × β × γ × δ) where
  rp S H v x := ∃ a u1 u2 u3 u4, v = .ref a ∧ nT K S H a [u1, u2, u3, u4] ∧ c1.rp S H u1 x.1 ∧ c2.rp S H u2 x.2.1 ∧ c3.rp S H u3 x.2.2.1 ∧ c4.rp S H u4 x.2.2.2
  mono f := fun ⟨a, u1, u2, u3, u4, e, h, h1, h2, h3, h4⟩ => ⟨a, u1, u2, u3, u4, e, h.mono f, c1.mono f h1, c2.mono f h2, c3.mono f h3, c4.mono f h4⟩
  ext f := fun ⟨a, u1, u2, u3, u4, e, h, h1, h2, h3, h4⟩ => ⟨a, u1, u2, u3, u4, e, h.ext f, c1.ext f h1, c2.ext f h2, c3.ext f h3, c4.ext f h4⟩
  sub f := fun ⟨a, u1, u2, u3, u4, e, h, h1, h2, h3, h4⟩ => ⟨a, u1, u2, u3, u4, e, h.sub f, c1.sub f h1, c2.sub f h2, c3.sub f h3, c4.sub f h4⟩
theorem ev_tup4 {ra : Option α} {rb : Option β} {rc : Option γ} {rd : Option δ} (ha : Ev S T ta σ H (of a S) ra) (hb : Ev S T tb σ H (of b' S) rb) (hc : Ev S T tc σ H (of c' S) rc) (hd : Ev S T td σ H (of d' S) rd) :
    Ev S T (tTup (tCons ta (tCons tb (tCons tc (tCons td tNil))))) σ H (of (tT4 a b' c' d') S) (bd ra fun x => bd rb fun y => bd rc fun z => bd rd fun w => some (x, y, z, w)) := by
  intro z e H1 f1 d Q q
  obtain ⟨x, ex, e⟩ := bd_some e
  obtain ⟨y, ey, e⟩ := bd_some e
  obtain ⟨z3, ez, e⟩ := bd_some e
  obtain ⟨w4, ew, e⟩ := bd_some e
  cases e
  refine ha x ex H1 f1 d _ fun v1 H2 s2 h1 => hb y ey H2 (f1.trans (Fr.same s2)) (d.same s2) _ fun v2 H3 s3 h2 => hc z3 ez H3 (f1.trans (Fr.same (s2.trans s3))) (d.same (s2.trans s3)) _ fun v3 H4 s4 h3 => hd w4 ew H4 (f1.trans (Fr.same ((s2.trans s3).trans s4))) (d.same ((s2.trans s3).trans s4)) _ fun v4 H5 s5 h4 => ⟨(by show 4 ≤ sizeLine; decide), fun p hp => ?_⟩
  have sn := same_new (o := .tup [v1, v2, v3, v4]) hp
  have dd := d.same (((s2.trans s3).trans s4).trans s5)
  exact q _ _ ((((s2.trans s3).trans s4).trans s5).trans sn) ⟨p, v1, v2, v3, v4, rfl, .inl ⟨.inl upd_same, dd.not_mem hp⟩, a.mono (Fr.same (((s3.trans s4).trans s5).trans sn)) h1, b'.mono (Fr.same ((s4.trans s5).trans sn)) h2, c'.mono (Fr.same (s5.trans sn)) h3, d'.mono (Fr.same sn) h4⟩
/-! a, b = e -/
theorem q_unp2 {i j : Nat} {r : Option (α × β)} {x : α × β} (d : Dom S H) (h : Ev S T te σ H (of (tT2 a b') S) r) (e : r = some x) (k : ∀ v w H1, Same H H1 → a.rp S H1 v x.1 → b'.rp S H1 w x.2 → u D ((σ.set i (some v)).set j (some w)) H1) :
    tSeq (tAsg te (gTup K 2 (gCons (gName i) (gCons (gName j) gNil)))) u D σ H := h x e H (Fr.refl _) d _ fun v H1 s1 ⟨p, u1, u2, ev, hp, h1, h2⟩ => ⟨p, _, ev, hp.sq, rfl, u1, _, rfl, u2, _, rfl, rfl, k u1 u2 H1 s1 h1 h2⟩
theorem q_unp4 {i j l m : Nat} {r : Option (α × β × γ × δ)} {x : α × β × γ × δ} (d : Dom S H) (h : Ev S T te σ H (of (tT4 a b' c' d') S) r) (e : r = some x) (k : ∀ v1 v2 v3 v4 H1, Same H H1 → a.rp S H1 v1 x.1 → b'.rp S H1 v2 x.2.1 → c'.rp S H1 v3 x.2.2.1 → d'.rp S H1 v4 x.2.2.2 → u D ((((σ.set i (some v1)).set j (some v2)).set l (some v3)).set m (some v4)) H1) :
    tSeq (tAsg te (gTup K 4 (gCons (gName i) (gCons (gName j) (gCons (gName l) (gCons (gName m) gNil)))))) u D σ H := h x e H (Fr.refl _) d _ fun v H1 s1 ⟨p, u1, u2, u3, u4, ev, hp, h1, h2, h3, h4⟩ => ⟨p, _, ev, hp.sq, rfl, u1, _, rfl, u2, _, rfl, u3, _, rfl, u4, _, rfl, rfl, k u1 u2 u3 u4 H1 s1 h1 h2 h3 h4⟩
theorem ev_revL {r : Option (List α)} (h : Ev S T te σ H (of (tL a) S) r) : Ev S T (tRevL K te) σ H (nw a S) (bd r fun x => some x.reverse) := by
  intro z e H1 f1 d Q q
  obtain ⟨x, ex, e⟩ := bd_some e
  cases e
  refine h x ex H1 f1 d _ fun v H2 s2 hv => ?_
  obtain ⟨p, vs, rfl, hp, ha⟩ := hv
  have hr : ∀ {vs : List V} {xs : List α}, All2 (a.rp S H2) vs xs → All2 (a.rp S H2) vs.reverse xs.reverse := fun {vs xs} h => by
    induction h with
    | nil => exact .nil
    | cons h _ ih => rw [List.reverse_cons, List.reverse_cons]; exact ih.snoc h
  exact ⟨p, vs, rfl, hp.sq, fun l hl => q _ _ (s2.trans (same_new hl)) ⟨l, rfl, s2.free hl, _, upd_same, (hr ha).imp fun _ _ h => a.mono (Fr.same (same_new hl)) (a.ext hl h)⟩⟩
end
end M

namespace M
open PySem L2 G
section
variable {K : PySem.W.Frag} {α β γ δ ε ρ : Type} {S T : AS} {σ : St} {H : Hp} {ta tb te tc td : TE} {tt tu : TT} {a : Ty K α} {b' : Ty K β} {c' : Ty K γ} {d' : Ty K δ} {D : Ends} {u t1 t2 : TS} {b c : Addr}
def rLenQ (K : PySem.W.Frag) : List V → Hp → VK → Prop := fun xs H Q => ∃ p ys, xs = [.ref p] ∧ (SqL K H p ys ∨ SqT K H p ys) ∧ Q (.int ys.length) H
/-! ### lists put together -/
def cat? (xs ys : List α) : Option (List α) := if xs.length + ys.length ≤ 100000 then some (xs ++ ys) else none
theorem od_cat : OpD (tL a) (tL a) S (nw a S) rCat cat? := by
  intro x y z e H1 v w d hv hw Q q
  unfold cat? at e
  split at e
  · rename_i hl
    cases e
    obtain ⟨p, vs, rfl, hp, ha⟩ := hv
    obtain ⟨p', ws, rfl, hp', hb⟩ := hw
    refine ⟨p, p', vs, ws, rfl, rfl, hp.1, hp'.1, Nat.le_trans (by rw [ha.len, hb.len]; exact hl) (by decide), fun l hl => q _ _ (same_new hl) ⟨l, rfl, hl, _, upd_same, (ha.app hb).imp fun _ _ h => a.mono (Fr.same (same_new hl)) (a.ext hl h)⟩⟩
  · cases e
theorem ev_catO {p : Addr} {ys : List α} {i : Nat} {ra : Option (List α)} (o : Own a S H p ys) (nt : p ∉ T) (ts : Sub T S) (hi : σ[i]? = some (some (.ref p))) (ha : Ev S T ta σ H (of (tL a) S) ra) : Ev S T (tOp rCat ta (tVar i)) σ H (nw a S) (bd ra fun x => cat? x ys) := by
  intro z e H1 f1 d Q q
  obtain ⟨x, ex, e⟩ := bd_some e
  unfold cat? at e
  split at e
  · rename_i hl
    cases e
    refine ha x ex H1 f1 d _ fun v H2 s2 hv => ⟨_, hi, ?_⟩
    obtain ⟨ws, hw, hb⟩ := (o.fr f1 ts nt).same s2
    obtain ⟨p', vs, rfl, hp, hvs⟩ := hv
    exact ⟨p', p, vs, ws, rfl, rfl, hp.1, hw, Nat.le_trans (by rw [hvs.len, hb.len]; exact hl) (by decide), fun l hl => q _ _ (s2.trans (same_new hl)) ⟨l, rfl, s2.free hl, _, upd_same, (hvs.app hb).imp fun _ _ h => a.mono (Fr.same (same_new hl)) (a.ext hl h)⟩⟩
  · cases e
theorem Fr.transx {S S' : AS} {H0 H1 H2 : Hp} (f : Fr S H0 H1) (g : Fr S' H1 H2) (h : ∀ a ∈ S', a ∉ S → H0 a = none) : Fr S H0 H2 := fun a o e n => g a o (f a o e n) fun m => by rw [h a m n] at e; cases e
theorem fresh_cons {S S' : AS} {H0 : Hp} {p : Addr} (h : ∀ a ∈ S', a ∉ S → H0 a = none) (n : H0 p = none) : ∀ a ∈ p :: S', a ∉ S → H0 a = none := fun a m k => by
  rcases List.mem_cons.mp m with rfl | m
  · exact n
  · exact h a m k
def rep? (xs : List α) (k : Int) : Option (List α) := if 0 ≤ k ∧ k ≤ 1000 ∧ xs.length ≤ 100 then some (List.replicate k.toNat xs).flatten else none
theorem All2.rep {F : V → α → Prop} {vs : List V} {xs : List α} (h : All2 F vs xs) : ∀ n : Nat, All2 F (List.replicate n vs).flatten (List.replicate n xs).flatten
  | 0 => .nil
  | n + 1 => by
    rw [List.replicate_succ, List.replicate_succ, List.flatten_cons, List.flatten_cons]
    exact h.app (All2.rep h n)
theorem od_rep : OpD (tL a) (K := K) tInt S (nw a S) rRep rep? := by
  intro x y z e H1 v w d hv hw Q q
  unfold rep? at e
  split at e
  · rename_i hl
    cases e
    obtain ⟨p, vs, rfl, hp, ha⟩ := hv
    cases hw
    refine ⟨p, y, vs, rfl, rfl, hp.1, by omega, by omega, ?_, fun l hl => q _ _ (same_new hl) ⟨l, rfl, hl, _, upd_same, (ha.rep _).imp fun _ _ h => a.mono (Fr.same (same_new hl)) (a.ext hl h)⟩⟩
    refine Nat.le_trans (Nat.mul_le_mul (show vs.length ≤ 100 by rw [ha.len]; omega) (show y.toNat ≤ 1000 by omega)) (by decide)
  · cases e
/-! ### the least of several -/
theorem All2.ints {S : AS} {H : Hp} : ∀ {vs : List V} {xs : List Int}, All2 ((tInt (K := K)).rp S H) vs xs → vs = xs.map V.int
  | _, _, .nil => rfl
  | _, _, .cons h r => by rw [List.map_cons, ← All2.ints r, show _ = _ from h]
theorem ev_min {r : Option (List Int)} (h : Ev S T te σ H (of (K := K) (tL tInt) S) r) : Ev S T (tCB (rMin K) (tCons te tNil)) σ H (of (K := K) tInt S) (bd r fun x => x.min?) := by
  intro z e H1 f1 d Q q
  obtain ⟨x, ex, e⟩ := bd_some e
  have hm := List.min?_eq_some_iff.mp e
  refine h x ex H1 f1 d _ fun v H2 s hv => ?_
  obtain ⟨p, vs, rfl, hp, ha⟩ := hv
  refine ⟨p, x, rfl, by rw [← ha.ints]; exact hp.sq, List.length_pos_of_mem hm.1, fun m h1 h2 => ?_⟩
  have : m = z := Int.le_antisymm (h2 z hm.1) (hm.2 m h1)
  rw [this]
  exact q _ H2 s rfl
/-! ### in -/
theorem inV_int (i : Int) : ∀ xs : List Int, inV (.int i) (xs.map V.int) = decide (i ∈ xs)
  | [] => by simp [inV]
  | x :: r => by
    have ih := inV_int i r
    unfold inV at ih ⊢
    rw [List.map_cons, List.any_cons, ih]
    have : eqV (.int x) (.int i) = decide (x = i) := by
      simp [eqV]
      rfl
    rw [this]
    by_cases c : x = i
    · subst c; simp
    · have : ¬ i = x := fun z => c z.symm
      simp [c, this]
theorem flat_ints : ∀ xs : List Int, (xs.map V.int).all flatV = true
  | [] => rfl
  | x :: r => by rw [List.map_cons, List.all_cons, flat_ints r]; rfl
theorem od_inI {neg : Bool} : OpD (K := K) tInt (tL tInt) S (of (K := K) tBool S) (rIn K neg) (fun x xs => some (if neg then !decide (x ∈ xs) else decide (x ∈ xs))) := by
  intro x y z e H1 v w d hv hw Q q
  cases e
  obtain ⟨p, vs, rfl, hp, ha⟩ := hw
  cases hv
  refine ⟨p, vs, rfl, .inl hp.sq, rfl, by rw [ha.ints]; exact flat_ints y, ?_⟩
  rw [ha.ints, inV_int]
  exact q _ H1 (Same.refl _) rfl
theorem od_inIT {neg : Bool} : OpD (K := K) tInt (tTs tInt) S (of (K := K) tBool S) (rIn K neg) (fun x xs => some (if neg then !decide (x ∈ xs) else decide (x ∈ xs))) := by
  intro x y z e H1 v w d hv hw Q q
  cases e
  obtain ⟨p, vs, rfl, hp, ha⟩ := hw
  cases hv
  refine ⟨p, vs, rfl, .inr hp.sq, rfl, by rw [ha.ints]; exact flat_ints y, ?_⟩
  rw [ha.ints, inV_int]
  exact q _ H1 (Same.refl _) rfl
/-! ### a list or a tuple -/
def tSq (a : Ty K α) : Ty K (List α) where
  rp S H v xs := (tL a).rp S H v xs ∨ (tTs a).rp S H v xs
  mono f := fun h => h.elim (fun h => .inl ((tL a).mono f h)) (fun h => .inr ((tTs a).mono f h))
  ext f := fun h => h.elim (fun h => .inl ((tL a).ext f h)) (fun h => .inr ((tTs a).ext f h))
  sub f := fun h => h.elim (fun h => .inl ((tL a).sub f h)) (fun h => .inr ((tTs a).sub f h))
theorem ev_L2Sq {r : Option (List α)} (h : Ev S T te σ H (of (tL a) S) r) : Ev S T te σ H (of (tSq a) S) r := fun x e H1 f d Q q => h x e H1 f d Q fun v H2 s hv => q v H2 s (.inl hv)
theorem ev_T2Sq {r : Option (List α)} (h : Ev S T te σ H (of (tTs a) S) r) : Ev S T te σ H (of (tSq a) S) r := fun x e H1 f d Q q => h x e H1 f d Q fun v H2 s hv => q v H2 s (.inr hv)
theorem od_inISq {neg : Bool} : OpD (K := K) tInt (tSq tInt) S (of (K := K) tBool S) (rIn K neg) (fun x xs => some (if neg then !decide (x ∈ xs) else decide (x ∈ xs))) := by
  intro x y z e H1 v w d hv hw Q q
  rcases hw with hw | hw
  · exact od_inI x y z e H1 v w d hv hw Q q
  · exact od_inIT x y z e H1 v w d hv hw Q q
theorem ev_listSq {r : Option (List α)} (h : Ev S T te σ H (of (tSq a) S) r) : Ev S T (tCB (fun xs H Q => ∃ p ys, xs = [.ref p] ∧ (SqL K H p ys ∨ SqT K H p ys) ∧ ∀ l, H l = none → Q (.ref l) (upd H l (.lst ys))) (tCons te tNil)) σ H (nw a S) r := fun x e H1 f d Q q => by
  refine h x e H1 f d _ fun v H2 s2 hv => ?_
  rcases hv with ⟨p, vs, rfl, hp, ha⟩ | ⟨p, vs, rfl, hp, ha⟩
  · exact ⟨p, vs, rfl, .inl hp.sq, fun l hl => q _ _ (s2.trans (same_new hl)) ⟨l, rfl, s2.free hl, vs, upd_same, ha.imp fun _ _ h => a.mono (Fr.same (same_new hl)) (a.ext hl h)⟩⟩
  · exact ⟨p, vs, rfl, .inr hp.sq, fun l hl => q _ _ (s2.trans (same_new hl)) ⟨l, rfl, s2.free hl, vs, upd_same, ha.imp fun _ _ h => a.mono (Fr.same (same_new hl)) (a.ext hl h)⟩⟩
/-! ### tuple(xs) -/
theorem ev_tupleL {r : Option (List α)} (h : Ev S T te σ H (of (tL a) S) r) : Ev S T (tCB (fun xs H Q => ∃ p ys, xs = [.ref p] ∧ ((SqL K H p ys ∧ ∀ l, H l = none → Q (.ref l) (upd H l (.tup ys))) ∨ (SqT K H p ys ∧ Q (.ref p) H))) (tCons te tNil)) σ H (of (tTs a) S) r := fun x e H1 f d Q q => by
  refine h x e H1 f d _ fun v H2 s2 hv => ?_
  obtain ⟨p, vs, rfl, hp, ha⟩ := hv
  exact ⟨p, vs, rfl, .inl ⟨hp.sq, fun l hl => q _ _ (s2.trans (same_new hl)) ⟨l, vs, rfl, .inl ⟨.inl upd_same, (d.same s2).not_mem hl⟩, ha.imp fun _ _ h => a.mono (Fr.same (same_new hl)) h⟩⟩⟩
/-! ### xs[i] = e of an owned list -/
def set? (xs : List α) (i : Int) (x : α) : Option (List α) := (ixN xs.length i).bind fun j => some (xs.set j x)
theorem l_set {p : Addr} {xs ys : List α} {i : Nat} {r : Option α} {ri : Option Int} {x : α} {k : Int} (d : Dom S H) (o : Own a S H p xs) (im : p ∈ S) (nt : p ∉ T) (ts : Sub T S) (hi : σ[i]? = some (some (.ref p))) (h : Ev S T te σ H (of a S) r) (e : r = some x) (hk : Ev S T td σ H (of (K := K) tInt S) ri) (ek : ri = some k) (f : set? xs k x = some ys)
    (q : ∀ H1, Mut1 p H H1 → Fr S H H1 → Own a S H1 p ys → D.nx σ H1) : tAsg te (gSub (tVar i) td rSetL) D σ H := by
  obtain ⟨vs, hv, ha⟩ := o
  obtain ⟨j, ej, f⟩ := bd_some f
  cases f
  refine h x e H (Fr.refl _) d _ fun v H1 s1 hx => ⟨_, hi, hk k ek H1 (Fr.same s1) (d.same s1) _ fun w H2 s2 hw => ?_⟩
  cases hw
  refine ⟨p, vs, k, j, rfl, rfl, s2 _ _ (s1 _ _ hv), by rw [ha.len]; exact ej, ?_⟩
  have f1 : Fr S H2 (upd H2 p (.lst (vs.set j v))) := fr_upd im
  refine q _ ⟨fun b ob e n => by rw [upd_ne n]; exact s2 _ _ (s1 _ _ e), by rw [upd_same]; intro z; cases z⟩ ((Fr.same (s1.trans s2)).trans f1) ⟨_, upd_same, ?_⟩
  exact (All2.set (a.mono (Fr.same s2) hx) j (ha.imp fun _ _ h => a.mono (Fr.same (s1.trans s2)) h)).imp fun _ _ h => a.mono f1 h
theorem q_set {p : Addr} {xs ys : List α} {i : Nat} {r : Option α} {ri : Option Int} {x : α} {k : Int} (d : Dom S H) (o : Own a S H p xs) (im : p ∈ S) (nt : p ∉ T) (ts : Sub T S) (hi : σ[i]? = some (some (.ref p))) (h : Ev S T te σ H (of a S) r) (e : r = some x) (hk : Ev S T td σ H (of (K := K) tInt S) ri) (ek : ri = some k) (f : set? xs k x = some ys)
    (q : ∀ H1, Mut1 p H H1 → Fr S H H1 → Own a S H1 p ys → u D σ H1) : tSeq (tAsg te (gSub (tVar i) td rSetL)) u D σ H := l_set (D := { D with nx := u D }) d o im nt ts hi h e hk ek f q
/-! ### range(a, b, -1) -/
def dnL (i : Int) (n : Nat) : List Int := (List.range n).map fun (k : Nat) => i - (k : Int)
def rng3? (i j : Int) : Option (List Int) := if rngP i && rngP j then some (dnL i (i - j).toNat) else none
theorem wk_dn {i : Int} {n : Nat} : Wk (Itc i (-1) n) (tInt (K := K)) S H (dnL i n) where
  go H' k f hi := by
    show k < n
    simpa [dnL] using hi
  yl H' k v H'' f h y hy := by
    obtain ⟨e, hx⟩ := h
    refine ⟨e, ?_⟩
    unfold dnL at hy
    rw [List.getElem?_map] at hy
    cases q : (List.range n)[k]? with
    | none => rw [q] at hy; cases hy
    | some m =>
      rw [q] at hy
      cases hy
      have : m = k := by
        have := (List.getElem?_eq_some_iff.mp q).2
        simp at this
        omega
      subst this
      rw [hx]
      show V.int (i + ((m : Nat) : Int) * -1) = V.int (i - (m : Int))
      congr 1
      omega
  st H' k f hi := by
    show n ≤ k
    simpa [dnL] using hi
theorem sr_r3 {te tg : TE} {r r' : Option Int} (h : Ev S T te σ H (of (K := K) tInt S) r) (h' : Ev S T tg σ H (of (K := K) tInt S) r') : Sr S T (iRng3 (tCons te (tCons tg (tCons (tUn (rU fun i => .int (-i)) (tC (.int 1))) tNil)))) σ H (tInt (K := K)) (bd r fun x => bd r' fun y => rng3? x y) := fun xs e H1 f d R q => by
  obtain ⟨lo, el, e⟩ := bd_some e
  obtain ⟨n, en, e⟩ := bd_some e
  unfold rng3? at e
  split at e
  · rename_i hn
    cases e
    rw [Bool.and_eq_true] at hn
    have hb := rngP_le hn.1
    have hc := rngP_le hn.2
    refine h lo el H1 f d _ fun v H2 s hv => h' n en H2 (f.trans (Fr.same s)) (d.same s) _ fun v' H3 s3 hv' => ?_
    cases hv
    cases hv'
    exact ⟨1, rfl, lo, n, -1, _, rfl, RgC.neg hb.1 hb.2 hc.1 hc.2, q _ H3 (s.trans s3) wk_dn⟩
  · cases e
end
end M

namespace M
open PySem L2 G
section
variable {K : PySem.W.Frag} {α β γ δ ε ρ : Type} {S T : AS} {σ : St} {H : Hp} {ta tb te tc td : TE} {tt tu : TT} {a : Ty K α} {b' : Ty K β} {D : Ends} {u t1 t2 : TS} {b c : Addr}
/-! ### comprehensions that draw -/
def filW (f : α → Wp (Option β)) : List α → Wp (List β)
  | [], P => P []
  | x :: xs, P => f x fun o => filW f xs fun ys => P (o.toList ++ ys)
def lcW (w : Wp (List α)) (f : α → Wp (Option β)) : Wp (List β) := fun P => w fun xs => if xs.length < 100000 then filW f xs P else False
theorem ew_lcCore {wi : TI} {j : Nat} {ws : List Nat} {w : Wp (List α)} {f : α → Wp (Option β)} (h : SrW b c S wi σ H a w) (hw : ∀ x, wipe ((wipe σ ws).set j (some x)) ws = wipe σ ws)
    (he : ∀ (x : α) (v : V) (H2 H' : Hp) (p : Addr) (Po : Option β → Prop), Sub [b, c] S → Fr [b, c] H H2 → H2 p = none → Fr [b, c] H2 H' → a.rp (p :: S) H' v x → Dom (p :: S) H' → Bag H' b c → f x Po → ∀ (Q1 : V → Hp → Prop) (Q0 : Hp → Prop),
      (∀ y w H3, Po (some y) → Fr [b, c] H' H3 → Dom (p :: S) H3 → Bag H3 b c → b'.rp (p :: S) H3 w y → Q1 w H3) → (∀ H3, Po none → Fr [b, c] H' H3 → Dom (p :: S) H3 → Bag H3 b c → Q0 H3) →
      tt ((wipe σ ws).set j (some v)) H' fun k H3 => if k = true then te ((wipe σ ws).set j (some v)) H3 Q1 else Q0 H3) :
    EvW b c S (tLc wi (gName j) tt te ws) σ H (nw b' S) (lcW w f) := fun ts P hP H1 f1 d hB Q q => by
  refine h ts _ hP H1 f1 d hB _ fun J H2 xs hx f2 d2 hB2 wk => fun Dl hD => ?_
  split at hx
  rotate_left
  · exact hx.elim
  rename_i hlen
  have nD : Dl ∉ [b, c] := hB2.dom.not_mem hD
  have sD : Same H2 (upd H2 Dl (.lst [])) := same_new hD
  refine ⟨fun i m H' => m = xs.length - i ∧ i ≤ xs.length ∧ ∃ acc pre, H' Dl = some (.lst acc) ∧ Fr [b, c] H2 H' ∧ Dom (Dl :: S) H' ∧ Bag H' b c ∧ acc.length ≤ i ∧ All2 (b'.rp (Dl :: S) H') acc pre ∧ filW f (xs.drop i) fun suf => P (pre ++ suf),
    ⟨_, rfl, Nat.zero_le _, [], [], upd_same, Fr.same sD, (d2.same sD).cons upd_same, hB2.same sD, Nat.zero_le _, .nil, hx⟩, ?_⟩
  rintro i m H' ⟨rfl, hi, acc, pre, h1, h2, h3, h4, h5, h6, h7⟩
  have g2 : Fr S H2 H' := h2.sub ts
  by_cases cc : i < xs.length
  · right
    rw [List.drop_eq_getElem_cons cc] at h7
    simp only [filW] at h7
    refine ⟨wk.go H' i g2 cc, fun H3 => ∃ acc pre, H3 Dl = some (.lst acc) ∧ Fr [b, c] H2 H3 ∧ Dom (Dl :: S) H3 ∧ Bag H3 b c ∧ acc.length ≤ i + 1 ∧ All2 (b'.rp (Dl :: S) H3) acc pre ∧ filW f (xs.drop (i + 1)) fun suf => P (pre ++ suf), ?_, ?_⟩
    · rintro H3 ⟨acc, pre, k⟩
      exact ⟨xs.length - (i + 1), by omega, rfl, by omega, acc, pre, k⟩
    · intro v H3 hy
      obtain ⟨rfl, hv⟩ := wk.yl H' i v H3 g2 hy _ (List.getElem?_eq_getElem cc)
      refine ⟨hw v, ?_⟩
      refine he xs[i] v H2 _ Dl _ ts (f1.trans f2) hD h2 (a.mono (h2.sub (sub_cons ts)) (a.ext hD hv)) h3 h4 h7 _ _ (fun y w H4 hPo f4 d4 hB4 hw4 => ?_) (fun H4 hPo f4 d4 hB4 => ?_)
      · have fD : Fr (Dl :: S) H4 (upd H4 Dl (.lst (acc ++ [w]))) := fr_upd (List.mem_cons_self ..)
        refine ⟨acc, f4 _ _ h1 nD, Nat.lt_of_lt_of_le (by omega : acc.length < 100000) (by decide), acc ++ [w], pre ++ [y], upd_same, fun p ob eb nb => ?_, d4.upd, ?_, by simp; omega, ?_, ?_⟩
        · rw [upd_ne (ne_of_none eb hD)]
          exact f4 _ _ (h2 _ _ eb nb) nb
        · obtain ⟨ne, ns, sl, sd, e1, e2, r⟩ := hB4
          simp only [List.mem_cons, List.not_mem_nil, or_false, not_or] at nD
          exact ⟨ne, ns, sl, sd, by rw [upd_ne (Ne.symm nD.1)]; exact e1, by rw [upd_ne (Ne.symm nD.2)]; exact e2, r⟩
        · exact ((h6.imp fun _ _ h => b'.mono (f4.sub (sub_cons ts)) h).snoc hw4).imp fun _ _ h => b'.mono fD h
        · simpa using hPo
      · refine ⟨acc, pre, f4 _ _ h1 nD, h2.trans f4, d4, hB4, by omega, h6.imp fun _ _ h => b'.mono (f4.sub (sub_cons ts)) h, ?_⟩
        simpa using hPo
  · left
    rw [List.drop_eq_nil_of_le (by omega)] at h7
    refine ⟨wk.st H' i g2 (by omega), q _ _ pre (by simpa [filW] using h7) (f2.trans h2) (h3.sub (sub_cons fun a m => m)) h4 ⟨Dl, rfl, fr_back f2 hB2.dom hD, acc, h1, h6⟩⟩
theorem ew_lc {wi : TI} {j : Nat} {ws : List Nat} {w : Wp (List α)} {f : α → Wp β} (h : SrW b c S wi σ H a w) (hw : ∀ x, wipe ((wipe σ ws).set j (some x)) ws = wipe σ ws)
    (he : ∀ (x : α) (v : V) (H2 H' : Hp) (p : Addr), Sub [b, c] S → Fr [b, c] H H2 → H2 p = none → Fr [b, c] H2 H' → a.rp (p :: S) H' v x → EvW b c (p :: S) te ((wipe σ ws).set j (some v)) H' (of b' (p :: S)) (f x)) :
    EvW b c S (tLc wi (gName j) tYes te ws) σ H (nw b' S) (lcW w fun x Po => f x fun y => Po (some y)) :=
  ew_lcCore h hw fun x v H2 H' p Po ts g1 g2 g3 g4 g5 g6 g7 Q1 Q0 q1 q0 => by
    refine G.yes_ ?_
    exact he x v H2 H' p ts g1 g2 g3 g4 (sub_cons ts) _ g7 H' (Fr.refl _) g5 g6 _ fun w H3 y hy f3 d3 hB3 hw3 => q1 y w H3 hy f3 d3 hB3 hw3
theorem ew_lcF {wi : TI} {j : Nat} {ws : List Nat} {w : Wp (List α)} {t : α → Wp Bool} {f : α → Wp β} (h : SrW b c S wi σ H a w) (hw : ∀ x, wipe ((wipe σ ws).set j (some x)) ws = wipe σ ws)
    (ht : ∀ (x : α) (v : V) (H2 H' : Hp) (p : Addr), Sub [b, c] S → Fr [b, c] H H2 → H2 p = none → Fr [b, c] H2 H' → a.rp (p :: S) H' v x → BvW b c (p :: S) tt ((wipe σ ws).set j (some v)) H' (t x))
    (he : ∀ (x : α) (v : V) (H2 H' : Hp) (p : Addr), Sub [b, c] S → Fr [b, c] H H2 → H2 p = none → Fr [b, c] H2 H' → a.rp (p :: S) H' v x → EvW b c (p :: S) te ((wipe σ ws).set j (some v)) H' (of b' (p :: S)) (f x)) :
    EvW b c S (tLc wi (gName j) tt te ws) σ H (nw b' S) (lcW w fun x Po => t x fun k => if k then f x fun y => Po (some y) else Po none) :=
  ew_lcCore h hw fun x v H2 H' p Po ts g1 g2 g3 g4 g5 g6 g7 Q1 Q0 q1 q0 => by
    refine ht x v H2 H' p ts g1 g2 g3 g4 (sub_cons ts) _ g7 H' (Fr.refl _) g5 g6 _ fun H3 k hk f3 d3 hB3 => ?_
    cases k with
    | true =>
      have hk := ifp_t hk
      show if true = true then _ else _
      rw [if_pos rfl]
      refine he x v H2 H' p ts g1 g2 g3 g4 (sub_cons ts) _ hk H3 f3 d3 hB3 _ fun w H4 y hy f4 d4 hB4 hw4 => q1 y w H4 hy (f3.trans f4) d4 hB4 hw4
    | false =>
      have hk := ifp_f hk
      show if false = true then _ else _
      rw [if_neg (by decide)]
      exact q0 H3 hk f3 d3 hB3
end
end M

namespace M
open PySem L2 G
/-! ### a def with one keyword-only parameter that has a default -/
structure AtK (K : PySem.W.Frag) (mg : Str → Option Value) (name : String) (st : Stmt) (ps : List Str) (n : Nat) (kw : Str) (dv : V) (f : Addr) (fd : FuncData) : Prop where
  F : Fun K (Str.ofString name) (Str.ofString name) st f fd
  m : mg (Str.ofString name) = some (.ref f)
  kb : KBn K fd ps n [kw] (fun us ws => us ++ ws) (fun vs zs => vs ++ zs)
  b0 : ∃ ds, Vals [dv] ds ∧ Binds K fd ps ds
theorem kb_of {K : PySem.W.Frag} {x : Str} {st : Stmt} {f : Addr} {fd : FuncData} {ps : List Str} {n : Nat} {kw : Str} (F : Fun K x x st f fd)
    (h : ∀ (kV doc pm : Value) (an : Option Addr) (cdv ct : Value) (us ws : List Value), us.length = n → ws.length = 1 → bindArgs (PySem.W.fnOf x x (defArgs st) (defBody st) (defScope st) .none kV doc pm an cdv ct) ⟨us, [kw].zip ws⟩ = pure (ps.zip (us ++ ws))) :
    KBn K fd ps n [kw] (fun us ws => us ++ ws) (fun vs zs => vs ++ zs) := by
  obtain ⟨oc, od, kV, doc, pm, an, cdv, ct, osl, rfl, lk, hcd⟩ := F.ex
  exact ⟨fun s us ws X h1 h2 => .of_eq (h kV doc pm an cdv ct us ws h1 h2), fun r1 r2 => r1.append r2⟩
section
variable {K : PySem.W.Frag} {α β γ δ ε ρ : Type} {S T : AS} {σ : St} {H : Hp} {t1 t2 t3 t4 t5 : TE} {a1 : Ty K α} {a2 : Ty K β} {a3 : Ty K γ} {R : AS → Rl ρ} {E : XK}
theorem ev_callK {f : α × β × γ × Unit → Option ρ} {r1 : Option α} {r2 : Option β} {r3 : Option γ} (h1 : Ev S T t1 σ H (of a1 S) r1) (h2 : Ev S T t2 σ H (of a2 S) r2) (h3 : Ev S T t3 σ H (of a3 S) r3) :
    Ev S T (tCallN 2 1 (spF (aCons a1 (aCons a2 (aCons a3 aNil))) R f) (fun vs zs => vs ++ zs) E (tCons t1 (tCons t2 tNil)) (tCons t3 tNil)) σ H (R S) (bd r1 fun x => bd r2 fun y => bd r3 fun z => f (x, y, z, ())) := by
  intro o e H1 f1 d Q q
  obtain ⟨x, ex, e⟩ := bd_some e
  obtain ⟨y, ey, e⟩ := bd_some e
  obtain ⟨z, ez, e⟩ := bd_some e
  refine h1 x ex H1 f1 d _ fun v1 H2 s2 g1 => h2 y ey H2 (f1.trans (Fr.same s2)) (d.same s2) _ fun v2 H3 s3 g2 => h3 z ez H3 (f1.trans (Fr.same (s2.trans s3))) (d.same (s2.trans s3)) _ fun v3 H4 s4 g3 => ⟨rfl, rfl, S, (x, y, z, ()), o, d.same ((s2.trans s3).trans s4), ⟨v1, _, rfl, a1.mono (Fr.same (s3.trans s4)) g1, v2, _, rfl, a2.mono (Fr.same s4) g2, v3, _, rfl, g3, rfl⟩, e, fun u H' s hu => q u H' (((s2.trans s3).trans s4).trans s) ((R S).same ((s2.trans s3).trans s4) hu)⟩
theorem ev_callD {f : α × β × γ × Unit → Option ρ} {r1 : Option α} {r2 : Option β} {dv : V} {z : γ} (hz : ∀ S H, a3.rp S H dv z) (h1 : Ev S T t1 σ H (of a1 S) r1) (h2 : Ev S T t2 σ H (of a2 S) r2) :
    Ev S T (tCall (spF (aCons a1 (aCons a2 (aCons a3 aNil))) R f) [dv] E (tCons t1 (tCons t2 tNil))) σ H (R S) (bd r1 fun x => bd r2 fun y => f (x, y, z, ())) := by
  intro o e H1 f1 d Q q
  obtain ⟨x, ex, e⟩ := bd_some e
  obtain ⟨y, ey, e⟩ := bd_some e
  refine h1 x ex H1 f1 d _ fun v1 H2 s2 g1 => h2 y ey H2 (f1.trans (Fr.same s2)) (d.same s2) _ fun v2 H3 s3 g2 => ⟨S, (x, y, z, ()), o, d.same (s2.trans s3), ⟨v1, _, rfl, a1.mono (Fr.same s3) g1, v2, _, rfl, g2, dv, _, rfl, hz S H3, rfl⟩, e, fun u H' s hu => q u H' ((s2.trans s3).trans s) ((R S).same (s2.trans s3) hu)⟩
end
end M

namespace M
open PySem L2 G
section
variable {K : PySem.W.Frag} {α β γ δ ε ρ : Type} {S T : AS} {σ : St} {H : Hp} {ta tb te tc : TE} {tt tu : TT} {a : Ty K α} {b' : Ty K β} {c' : Ty K γ} {D : Ends} {u t1 t2 : TS} {b c : Addr}
/-! ### while -/
def whileC (t : δ → Option Bool) (f : δ → Option (Ct ρ δ)) : Nat → δ → Option (Ct ρ δ)
  | 0, _ => none
  | n + 1, s => (t s).bind fun k => if k then (f s).bind fun r => match r with | .go s' => whileC t f n s' | .ret y => some (.ret y) | .brk s' => some (.go s') else some (.go s)
theorem while_s {tb : TS} {n : Nat} {s0 : δ} {t : δ → Option Bool} {f : δ → Option (Ct ρ δ)} {res : Ct ρ δ} (hf : whileC t f n s0 = some res)
    (I : δ → St → Hp → Prop) (h0 : I s0 σ H)
    (test : ∀ s σ' H', I s σ' H' → ∃ S', Dom S' H' ∧ EvB S' T tt σ' H' (t s))
    (step : (∀ s σ' H' H1, res = .go s → I s σ' H' → Same H' H1 → D.nx σ' H1) → ∀ (s : δ) (cr : Ct ρ δ) (σ' : St) (H' H1 : Hp), I s σ' H' → Same H' H1 → f s = some cr → (∀ y, cr = .ret y → res = .ret y) → (∀ s', cr = .brk s' → res = .go s') →
      tb { D with nx := fun σ2 H2 => ∃ s', cr = .go s' ∧ Fr S H1 H2 ∧ I s' σ2 H2, ct := fun σ2 H2 => ∃ s', cr = .go s' ∧ Fr S H1 H2 ∧ I s' σ2 H2, bk := D.nx } σ' H1)
    (done : ∀ s σ' H' H1, res = .go s → I s σ' H' → Same H' H1 → D.nx σ' H1) : tWhile tt tb D σ H := by
  refine ⟨fun m σ' H' => ∃ s, I s σ' H' ∧ whileC t f m s = some res, ⟨n, s0, h0, hf⟩, ?_⟩
  rintro m σ' H' ⟨s, hI, hw⟩
  cases m with
  | zero => cases hw
  | succ m =>
    simp only [whileC] at hw
    cases q : t s with
    | none => rw [q] at hw; cases hw
    | some k =>
      rw [q] at hw
      obtain ⟨S', dm, hev⟩ := test s σ' H' hI
      refine hev k q H' (Fr.refl _) dm _ fun H1 s1 => ?_
      cases k with
      | false =>
        cases hw
        rw [if_neg (by decide)]
        exact done s σ' H' H1 rfl hI s1
      | true =>
        rw [if_pos rfl]
        simp only [Option.bind_some, if_true] at hw
        cases q2 : f s with
        | none => rw [q2] at hw; cases hw
        | some cr =>
          rw [q2] at hw
          refine ⟨fun σ2 H2 => ∃ s', cr = .go s' ∧ Fr S H1 H2 ∧ I s' σ2 H2, ?_, ?_⟩
          · rintro σ2 H2 ⟨s', rfl, f2, hI'⟩
            exact ⟨m, Nat.lt_succ_self _, s', hI', hw⟩
          · exact step done s cr σ' H' H1 hI s1 q2 (fun y ey => by subst ey; cases hw; rfl) (fun s' ey => by subst ey; cases hw; rfl)
theorem q_while_s {tb : TS} {n : Nat} {s0 : δ} {t : δ → Option Bool} {f : δ → Option (Ct ρ δ)} {res : Ct ρ δ} (hf : whileC t f n s0 = some res)
    (I : δ → St → Hp → Prop) (h0 : I s0 σ H)
    (test : ∀ s σ' H', I s σ' H' → ∃ S', Dom S' H' ∧ EvB S' T tt σ' H' (t s))
    (step : (∀ s σ' H' H1, res = .go s → I s σ' H' → Same H' H1 → u D σ' H1) → ∀ (s : δ) (cr : Ct ρ δ) (σ' : St) (H' H1 : Hp), I s σ' H' → Same H' H1 → f s = some cr → (∀ y, cr = .ret y → res = .ret y) → (∀ s', cr = .brk s' → res = .go s') →
      tb { D with nx := fun σ2 H2 => ∃ s', cr = .go s' ∧ Fr S H1 H2 ∧ I s' σ2 H2, ct := fun σ2 H2 => ∃ s', cr = .go s' ∧ Fr S H1 H2 ∧ I s' σ2 H2, bk := u D } σ' H1)
    (done : ∀ s σ' H' H1, res = .go s → I s σ' H' → Same H' H1 → u D σ' H1) : tSeq (tWhile tt tb) u D σ H := while_s (D := { D with nx := u D }) (S := S) (T := T) hf I h0 test step done
theorem whileC_go {t : δ → Option Bool} {f : δ → Option (Ct ρ δ)} {n : Nat} {s s' : δ} (h : t s = some true) (h' : f s = some (.go s')) : whileC t f (n + 1) s = whileC t f n s' := by simp [whileC, h, h']
theorem whileC_stop {t : δ → Option Bool} {f : δ → Option (Ct ρ δ)} {n : Nat} {s : δ} (h : t s = some false) : whileC t f (n + 1) s = some (.go s) := by simp [whileC, h]
/-! ### chains of comparisons -/
theorem ev_chain {r r' : R2} {f g : α → α → Bool} {ra rb rc : Option α} (h : OpD a a S (of (K := K) tBool S) r (fun x y => some (f x y))) (h' : OpD a a S (of (K := K) tBool S) r' (fun x y => some (g x y)))
    (ha : Ev S T ta σ H (of a S) ra) (hb : Ev S T tb σ H (of a S) rb) (hc : Ev S T tc σ H (of a S) rc) :
    Ev S T (tChain r r' ta tb tc) σ H (of (K := K) tBool S) (bd ra fun x => bd rb fun y => if f x y then bd rc fun z => some (g y z) else some false) := by
  intro z e H1 f1 d Q q
  obtain ⟨x, ex, e⟩ := bd_some e
  obtain ⟨y, ey, e⟩ := bd_some e
  refine ha x ex H1 f1 d _ fun v H2 s2 hv => hb y ey H2 (f1.trans (Fr.same s2)) (d.same s2) _ fun w H3 s3 hw => ?_
  have d3 := (d.same s2).same s3
  refine h x y _ rfl H3 v w d3 (a.mono (Fr.same s3) hv) hw _ fun k H4 s4 hk => ⟨_, hk, ?_⟩
  by_cases c1 : f x y = true
  · rw [if_pos c1] at e
    rw [if_pos c1]
    obtain ⟨z', ez, e⟩ := bd_some e
    cases e
    refine hc z' ez H4 (f1.trans (Fr.same ((s2.trans s3).trans s4))) (d3.same s4) _ fun w' H5 s5 hw' => ?_
    refine h' y z' _ rfl H5 w w' ((d3.same s4).same s5) (a.mono (Fr.same (s4.trans s5)) hw) hw' Q fun u' H6 s6 hu => q u' H6 (((s2.trans s3).trans (s4.trans s5)).trans s6) hu
  · rw [if_neg c1] at e
    rw [if_neg c1]
    cases e
    exact q _ H4 ((s2.trans s3).trans s4) rfl
/-! ### x in l by data -/
def memD [DecidableEq α] (x : α) (xs : List α) : Bool := decide (x ∈ xs)
theorem _root_.L2.Room.units65 {k : Nat} {A : Around} (r : Room k A) : A.units + 65 < cLine := by have := r.un; omega
theorem any_eqv {a : Ty K α} [DecidableEq α] (d : TyD a) (x : α) : ∀ xs : List α, ((xs.map d.dt).any fun z => PyData.eqv z (d.dt x)) = memD x xs
  | [] => by simp [memD]
  | y :: ys => by
    rw [List.map_cons, List.any_cons, d.dec, any_eqv d x ys]
    unfold memD
    by_cases h : y = x
    · subst h; simp
    · by_cases h2 : x ∈ ys
      · simp [h2]
      · simp [h, h2, Ne.symm h]
theorem od_inD [DecidableEq α] (d : TyD a) (hd : d.dep ≤ 63) : OpD a (tL a) S (of (K := K) tBool S) (rInD K) (fun x xs => some (memD x xs)) := by
  intro x xs z e H1 v w dm hv hw Q q
  cases e
  have h2 := (dL d).dp hw
  refine ⟨d.dt x, xs.map d.dt, d.dp hv, h2, d.shaped (by omega) hv, (dL d).shaped (by show d.dep + 1 ≤ 64; omega) hw, ?_⟩
  rw [any_eqv]
  exact q _ H1 (Same.refl _) rfl
theorem od_notInD [DecidableEq α] (d : TyD a) (hd : d.dep ≤ 63) : OpD a (tL a) S (of (K := K) tBool S) (rNotInD K) (fun x xs => some (!memD x xs)) := by
  intro x xs z e H1 v w dm hv hw Q q
  cases e
  have h2 := (dL d).dp hw
  refine ⟨d.dt x, xs.map d.dt, d.dp hv, h2, d.shaped (by omega) hv, (dL d).shaped (by show d.dep + 1 ≤ 64; omega) hw, ?_⟩
  rw [any_eqv]
  exact q _ H1 (Same.refl _) rfl
/-! ### powers of constants -/
theorem ev_powC {i j : Int} (hc : 0 ≤ j ∧ j ≤ 1000000 ∧ i.natAbs < 2 ^ 64) : Ev S T (tOp (rI (fun i j => 0 ≤ j ∧ j ≤ 1000000 ∧ i.natAbs < 2 ^ 64) fun i j => .int (i ^ j.toNat)) (tC (.int i)) (tC (.int j))) σ H (of (K := K) tInt S) (some (i ^ j.toNat)) := by
  intro y ey H1 f d Q q
  cases ey
  exact ⟨i, j, rfl, rfl, hc, q _ H1 (Same.refl _) rfl⟩
/-! ### None or not, of any expression -/
theorem eb_isNe {r : Option (Option α)} (h : Ev S T te σ H (of (tOpt a) S) r) : EvB S T (tTest (tOp (fun x y H Q => y = .non ∧ Q (.bl (decide (x = .non))) H) te (tC .non))) σ H (bd r fun x => some x.isNone) := by
  intro z ez H1 f d Q q
  obtain ⟨x, ex, ez⟩ := bd_some ez
  cases ez
  refine h x ex H1 f d _ fun v H2 s hv => ⟨rfl, _, rfl, ?_⟩
  cases x with
  | none => rw [show v = .non from hv]; exact q H2 s
  | some y => rw [decide_eq_false hv.1]; exact q H2 s
theorem eb_notNe {r : Option (Option α)} (h : Ev S T te σ H (of (tOpt a) S) r) : EvB S T (tTest (tOp (fun x y H Q => y = .non ∧ Q (.bl (!decide (x = .non))) H) te (tC .non))) σ H (bd r fun x => some x.isSome) := by
  intro z ez H1 f d Q q
  obtain ⟨x, ex, ez⟩ := bd_some ez
  cases ez
  refine h x ex H1 f d _ fun v H2 s hv => ⟨rfl, _, rfl, ?_⟩
  cases x with
  | none => rw [show v = .non from hv]; exact q H2 s
  | some y => rw [decide_eq_false hv.1]; exact q H2 s
/-! ### max of two -/
theorem ev_max2 {ra rb : Option Int} (ha : Ev S T ta σ H (of (K := K) tInt S) ra) (hb : Ev S T tb σ H (of (K := K) tInt S) rb) :
    Ev S T (tCB (fun xs H Q => ∃ i j, xs = [.int i, .int j] ∧ Q (.int (if j > i then j else i)) H) (tCons ta (tCons tb tNil))) σ H (of (K := K) tInt S) (bd ra fun x => bd rb fun y => some (max x y)) := by
  intro z e H1 f1 d Q q
  obtain ⟨x, ex, e⟩ := bd_some e
  obtain ⟨y, ey, e⟩ := bd_some e
  cases e
  refine ha x ex H1 f1 d _ fun v H2 s2 hv => hb y ey H2 (f1.trans (Fr.same s2)) (d.same s2) _ fun w H3 s3 hw => ?_
  cases hv
  cases hw
  refine ⟨x, y, rfl, q _ H3 (s2.trans s3) ?_⟩
  show V.int _ = V.int _
  congr 1
  omega
/-! ### calls with keywords -/
def EvAn (S T : AS) (ta : TA) (σ : St) (H : Hp) (n : Nat) (t : TyA K α) (r : Option α) : Prop :=
  ∀ x, r = some x → ∀ H1, Fr T H H1 → Dom S H1 → ∀ Q : List V → Hp → Prop, (∀ vs H2, vs.length = n → Same H1 H2 → t.rp S H2 vs x → Q vs H2) → ta σ H1 Q
theorem en_nil : EvAn S T tNil σ H 0 (K := K) aNil (some ()) := fun _ e H1 f d Q q => q [] H1 rfl (Same.refl _) rfl
theorem en_cons {n : Nat} {tr : TA} {t : TyA K β} {ra : Option α} {rr : Option β} (h : Ev S T ta σ H (of a S) ra) (hr : EvAn S T tr σ H n t rr) : EvAn S T (tCons ta tr) σ H (n + 1) (aCons a t) (bd ra fun x => bd rr fun y => some (x, y)) := by
  intro z e H1 f1 d Q q
  obtain ⟨x, ex, e⟩ := bd_some e
  obtain ⟨y, ey, e⟩ := bd_some e
  cases e
  exact h x ex H1 f1 d _ fun v H2 s2 hv => hr y ey H2 (f1.trans (Fr.same s2)) (d.same s2) _ fun vs H3 l s3 hvs => q (v :: vs) H3 (by simp [l]) (s2.trans s3) ⟨v, vs, rfl, a.mono (Fr.same s3) hv, hvs⟩
/-- first t, then tk: together they are the arguments -/
def EvA2 (S T : AS) (ta tk : TA) (σ : St) (H : Hp) (n m : Nat) (t : TyA K α) (r : Option α) : Prop :=
  ∀ x, r = some x → ∀ H1, Fr T H H1 → Dom S H1 → ∀ Q : List V → List V → Hp → Prop, (∀ vs zs H2, vs.length = n → zs.length = m → Same H1 H2 → t.rp S H2 (vs ++ zs) x → Q vs zs H2) → ta σ H1 fun vs H2 => tk σ H2 fun zs H3 => Q vs zs H3
theorem e2_nil {tk : TA} {m : Nat} {t : TyA K α} {r : Option α} (h : EvAn S T tk σ H m t r) : EvA2 S T tNil tk σ H 0 m t r := fun x e H1 f d Q q => h x e H1 f d _ fun vs H2 l s hv => q [] vs H2 rfl l s hv
theorem e2_cons {n m : Nat} {tr tk : TA} {t : TyA K β} {ra : Option α} {rr : Option β} (h : Ev S T ta σ H (of a S) ra) (hr : EvA2 S T tr tk σ H n m t rr) : EvA2 S T (tCons ta tr) tk σ H (n + 1) m (aCons a t) (bd ra fun x => bd rr fun y => some (x, y)) := by
  intro z e H1 f1 d Q q
  obtain ⟨x, ex, e⟩ := bd_some e
  obtain ⟨y, ey, e⟩ := bd_some e
  cases e
  exact h x ex H1 f1 d _ fun v H2 s2 hv => hr y ey H2 (f1.trans (Fr.same s2)) (d.same s2) _ fun vs zs H3 l l' s3 hvs => q (v :: vs) zs H3 (by simp [l]) l' (s2.trans s3) ⟨v, vs ++ zs, rfl, a.mono (Fr.same s3) hv, hvs⟩
theorem ev_callN {n m : Nat} {ta tk : TA} {t : TyA K α} {R : AS → Rl γ} {f : α → Option γ} {r : Option α} {E : XK} (h : EvA2 S T ta tk σ H n m t r) : Ev S T (tCallN n m (spF t R f) (fun vs zs => vs ++ zs) E ta tk) σ H (R S) (bd r f) := by
  intro z e H1 f1 d Q q
  obtain ⟨x, ex, e⟩ := bd_some e
  exact h x ex H1 f1 d _ fun vs zs H2 l l' s2 hv => ⟨l, l', S, x, z, d.same s2, hv, e, fun u H' s hu => q u H' (s2.trans s) ((R S).same s2 hu)⟩
/-- .. with a default behind -/
def EvAd (S T : AS) (ta : TA) (σ : St) (H : Hp) (ds : List V) (t : TyA K α) (r : Option α) : Prop :=
  ∀ x, r = some x → ∀ H1, Fr T H H1 → Dom S H1 → ∀ Q : List V → Hp → Prop, (∀ vs H2, Same H1 H2 → t.rp S H2 (vs ++ ds) x → Q vs H2) → ta σ H1 Q
theorem edd_nil {dv : V} {z : α} (hz : ∀ S H, a.rp S H dv z) : EvAd S T tNil σ H [dv] (aCons a aNil) (some (z, ())) := fun _ e H1 f d Q q => by cases e; exact q [] H1 (Same.refl _) ⟨dv, [], rfl, hz S H1, rfl⟩
theorem edd_cons {ds : List V} {tr : TA} {t : TyA K β} {ra : Option α} {rr : Option β} (h : Ev S T ta σ H (of a S) ra) (hr : EvAd S T tr σ H ds t rr) : EvAd S T (tCons ta tr) σ H ds (aCons a t) (bd ra fun x => bd rr fun y => some (x, y)) := by
  intro z e H1 f1 d Q q
  obtain ⟨x, ex, e⟩ := bd_some e
  obtain ⟨y, ey, e⟩ := bd_some e
  cases e
  exact h x ex H1 f1 d _ fun v H2 s2 hv => hr y ey H2 (f1.trans (Fr.same s2)) (d.same s2) _ fun vs H3 s3 hvs => q (v :: vs) H3 (s2.trans s3) ⟨v, vs ++ ds, rfl, a.mono (Fr.same s3) hv, hvs⟩
theorem ev_callDn {ds : List V} {ta : TA} {t : TyA K α} {R : AS → Rl γ} {f : α → Option γ} {r : Option α} {E : XK} (h : EvAd S T ta σ H ds t r) : Ev S T (tCall (spF t R f) ds E ta) σ H (R S) (bd r f) := by
  intro z e H1 f1 d Q q
  obtain ⟨x, ex, e⟩ := bd_some e
  exact h x ex H1 f1 d _ fun vs H2 s2 hv => ⟨S, x, z, d.same s2, hv, e, fun u H' s hu => q u H' (s2.trans s) ((R S).same s2 hu)⟩
/-! .. while drawing -/
def EvWAn (b c : Addr) (S : AS) (ta : TA) (σ : St) (H : Hp) (n : Nat) (t : TyA K α) (w : Wp α) : Prop :=
  Sub [b, c] S → ∀ P, w P → ∀ H1, Fr [b, c] H H1 → Dom S H1 → Bag H1 b c → ∀ Q : List V → Hp → Prop, (∀ vs H2 x, vs.length = n → P x → Fr [b, c] H1 H2 → Dom S H2 → Bag H2 b c → t.rp S H2 vs x → Q vs H2) → ta σ H1 Q
theorem wn_nil : EvWAn b c S tNil σ H 0 (K := K) aNil (lf (some ())) := fun ts P ⟨x, e, hP⟩ H1 f d hB Q q => by cases e; exact q [] H1 () rfl hP (Fr.refl _) d hB rfl
theorem wn_cons {n : Nat} {tr : TA} {t : TyA K β} {wa : Wp α} {wr : Wp β} (h : EvW b c S ta σ H (of a S) wa) (hr : EvWAn b c S tr σ H n t wr) : EvWAn b c S (tCons ta tr) σ H (n + 1) (aCons a t) (tup2W wa wr) := fun ts P hP H1 f1 d hB Q q =>
  h ts _ hP H1 f1 d hB _ fun v H2 x hx f2 d2 hB2 hv => hr ts _ hx H2 (f1.trans f2) d2 hB2 _ fun vs H3 y l hy f3 d3 hB3 hvs => q (v :: vs) H3 (x, y) (by simp [l]) hy (f2.trans f3) d3 hB3 ⟨v, vs, rfl, a.mono (f3.sub ts) hv, hvs⟩
def EvWA2 (b c : Addr) (S : AS) (ta tk : TA) (σ : St) (H : Hp) (n m : Nat) (t : TyA K α) (w : Wp α) : Prop :=
  Sub [b, c] S → ∀ P, w P → ∀ H1, Fr [b, c] H H1 → Dom S H1 → Bag H1 b c → ∀ Q : List V → List V → Hp → Prop, (∀ vs zs H2 x, vs.length = n → zs.length = m → P x → Fr [b, c] H1 H2 → Dom S H2 → Bag H2 b c → t.rp S H2 (vs ++ zs) x → Q vs zs H2) → ta σ H1 fun vs H2 => tk σ H2 fun zs H3 => Q vs zs H3
theorem w2_nil {tk : TA} {m : Nat} {t : TyA K α} {w : Wp α} (h : EvWAn b c S tk σ H m t w) : EvWA2 b c S tNil tk σ H 0 m t w := fun ts P hP H1 f d hB Q q => h ts P hP H1 f d hB _ fun vs H2 x l hx f2 d2 hB2 hv => q [] vs H2 x rfl l hx f2 d2 hB2 hv
theorem w2_cons {n m : Nat} {tr tk : TA} {t : TyA K β} {wa : Wp α} {wr : Wp β} (h : EvW b c S ta σ H (of a S) wa) (hr : EvWA2 b c S tr tk σ H n m t wr) : EvWA2 b c S (tCons ta tr) tk σ H (n + 1) m (aCons a t) (tup2W wa wr) := fun ts P hP H1 f1 d hB Q q =>
  h ts _ hP H1 f1 d hB _ fun v H2 x hx f2 d2 hB2 hv => hr ts _ hx H2 (f1.trans f2) d2 hB2 _ fun vs zs H3 y l l' hy f3 d3 hB3 hvs => q (v :: vs) zs H3 (x, y) (by simp [l]) l' hy (f2.trans f3) d3 hB3 ⟨v, vs ++ zs, rfl, a.mono (f3.sub ts) hv, hvs⟩
theorem ew_callN {n m : Nat} {ta tk : TA} {t : TyA K α} {R : AS → Rl γ} {f : α → Option γ} {w : Wp α} {E : XK} (h : EvWA2 b c S ta tk σ H n m t w) : EvW b c S (tCallN n m (spF t R f) (fun vs zs => vs ++ zs) E ta tk) σ H (R S) (unW f w) := fun ts P hP H1 f1 d hB Q q =>
  h ts _ hP H1 f1 d hB _ fun vs zs H2 x l l' ⟨z, e, hz⟩ f2 d2 hB2 hv => ⟨l, l', S, x, z, d2, hv, e, fun u H' s hu => q u H' z hz (f2.trans (Fr.same s)) (d2.same s) (hB2.same s) ((R S).back f2 hB2.dom hu)⟩
/-! ### any; truth of a list -/
theorem ev_any {r : Option (List Bool)} (h : Ev S T te σ H (of (K := K) (tL tBool) S) r) : Ev S T (tCB (rAny K) (tCons te tNil)) σ H (of (K := K) tBool S) (bd r fun x => some (x.any id)) := by
  intro z e H1 f1 d Q q
  obtain ⟨x, ex, e⟩ := bd_some e
  cases e
  refine h x ex H1 f1 d _ fun v H2 s hv => ?_
  obtain ⟨p, vs, rfl, hp, ha⟩ := hv
  refine ⟨p, x, rfl, ?_, q _ H2 s rfl⟩
  rw [← ha.bools]
  exact hp.sq
theorem All2.empty {F : V → α → Prop} {vs : List V} {xs : List α} (h : All2 F vs xs) : vs.isEmpty = xs.isEmpty := by cases h <;> rfl
theorem eb_truL {r : Option (List α)} (h : Ev S T te σ H (of (tL a) S) r) : EvB S T (fun σ H Q => te σ H fun x H' => ∃ k, TruV K x H' k ∧ Q k H') σ H (bd r fun x => some (!x.isEmpty)) := by
  intro z ez H1 f d Q q
  obtain ⟨x, ex, ez⟩ := bd_some ez
  cases ez
  refine h x ex H1 f d _ fun v H2 s ⟨p, vs, ev, hp, ha⟩ => ⟨_, ?_, q H2 s⟩
  subst ev
  exact .inl ⟨vs, hp.sq, by rw [ha.empty]⟩
/-! ### an owned list that is owned no more -/
theorem sub_keep {p : Addr} {S S' : AS} (h : Sub S S') : Sub (p :: S) (p :: S') := fun a m => by
  rcases List.mem_cons.mp m with rfl | m
  · exact List.mem_cons_self ..
  · exact List.mem_cons_of_mem _ (h a m)
theorem nmc {p q : Addr} {S : AS} (h : p ≠ q) (n : p ∉ S) : p ∉ q :: S := fun m => by
  rcases List.mem_cons.mp m with e | m
  · exact h e
  · exact n m
theorem Own.frz {p : Addr} {xs : List α} {S' : AS} (o : Own a S H p xs) (hs : Sub S' S) (n : p ∉ S') : (tL a).rp S' H (.ref p) xs := by
  obtain ⟨vs, hv, ha⟩ := o
  exact ⟨p, vs, rfl, ⟨hv, n⟩, ha.imp fun _ _ => a.sub hs⟩
/-! ### walks that unpack pairs -/
theorem for_s2 {wi : TI} {j j2 : Nat} {tb : TS} {r : Option (List (α × β))} {xs : List (α × β)} {s0 : δ} {f : δ → α × β → Option (Ct ρ δ)} {res : Ct ρ δ} (d : Dom S H) (h : Sr S T wi σ H (tT2 a b') r) (e : r = some xs) (hf : loopC f xs s0 = some res)
    (I : δ → St → Hp → Prop) (h0 : ∀ H1, Same H H1 → I s0 σ H1)
    (step : (∀ s σ' H', res = .go s → I s σ' H' → D.nx σ' H') → ∀ (s : δ) (x : α × β) (cr : Ct ρ δ) (v w : V) (σ' : St) (H' : Hp), I s σ' H' → a.rp S H' v x.1 → b'.rp S H' w x.2 → x ∈ xs → f s x = some cr → (∀ y, cr = .ret y → res = .ret y) → (∀ s', cr = .brk s' → res = .go s') →
      tb { D with nx := fun σ2 H2 => ∃ s', cr = .go s' ∧ Fr S H' H2 ∧ I s' σ2 H2, ct := fun σ2 H2 => ∃ s', cr = .go s' ∧ Fr S H' H2 ∧ I s' σ2 H2, bk := D.nx } ((σ'.set j (some v)).set j2 (some w)) H')
    (done : ∀ s σ' H', res = .go s → I s σ' H' → D.nx σ' H') : tFor wi (gTup K 2 (gCons (gName j) (gCons (gName j2) gNil))) tb D σ H := by
  refine h xs e H (Fr.refl _) d _ fun J H1 s1 wk => ?_
  refine ⟨fun i m σ' H' => m = xs.length - i ∧ i ≤ xs.length ∧ Fr S H1 H' ∧ ∃ s, I s σ' H' ∧ loopC f (xs.drop i) s = some res, ⟨_, rfl, Nat.zero_le _, Fr.refl _, s0, h0 H1 s1, hf⟩, ?_⟩
  rintro i m σ' H' ⟨rfl, hi, fr, s, hI, hl⟩
  by_cases c : i < xs.length
  · right
    rw [List.drop_eq_getElem_cons c] at hl
    simp only [loopC] at hl
    cases q : f s xs[i] with
    | none => rw [q] at hl; cases hl
    | some cr =>
      rw [q] at hl
      refine ⟨wk.go H' i fr c, fun σ2 H2 => ∃ s', cr = .go s' ∧ Fr S H' H2 ∧ I s' σ2 H2, ?_, ?_⟩
      · rintro σ2 H2 ⟨s', rfl, f2, hI'⟩
        exact ⟨xs.length - (i + 1), by omega, rfl, by omega, fr.trans f2, s', hI', hl⟩
      · intro v H2 hy
        obtain ⟨rfl, hv⟩ := wk.yl H' i v H2 fr hy _ (List.getElem?_eq_getElem c)
        obtain ⟨p, v1, v2, rfl, hp, h1, h2⟩ := (tT2 a b').mono fr hv
        exact ⟨p, _, rfl, hp.sq, rfl, v1, _, rfl, v2, _, rfl, rfl, step done s xs[i] cr v1 v2 σ' _ hI h1 h2 (List.getElem_mem c) q (fun y ey => by subst ey; cases hl; rfl) (fun s' ey => by subst ey; cases hl; rfl)⟩
  · left
    refine ⟨wk.st H' i fr (by omega), ?_⟩
    rw [List.drop_eq_nil_of_le (by omega)] at hl
    cases hl
    exact done s σ' H' rfl hI
theorem q_for_s2 {wi : TI} {j j2 : Nat} {tb : TS} {r : Option (List (α × β))} {xs : List (α × β)} {s0 : δ} {f : δ → α × β → Option (Ct ρ δ)} {res : Ct ρ δ} (d : Dom S H) (h : Sr S T wi σ H (tT2 a b') r) (e : r = some xs) (hf : loopC f xs s0 = some res)
    (I : δ → St → Hp → Prop) (h0 : ∀ H1, Same H H1 → I s0 σ H1)
    (step : (∀ s σ' H', res = .go s → I s σ' H' → u D σ' H') → ∀ (s : δ) (x : α × β) (cr : Ct ρ δ) (v w : V) (σ' : St) (H' : Hp), I s σ' H' → a.rp S H' v x.1 → b'.rp S H' w x.2 → x ∈ xs → f s x = some cr → (∀ y, cr = .ret y → res = .ret y) → (∀ s', cr = .brk s' → res = .go s') →
      tb { D with nx := fun σ2 H2 => ∃ s', cr = .go s' ∧ Fr S H' H2 ∧ I s' σ2 H2, ct := fun σ2 H2 => ∃ s', cr = .go s' ∧ Fr S H' H2 ∧ I s' σ2 H2, bk := u D } ((σ'.set j (some v)).set j2 (some w)) H')
    (done : ∀ s σ' H', res = .go s → I s σ' H' → u D σ' H') : tSeq (tFor wi (gTup K 2 (gCons (gName j) (gCons (gName j2) gNil))) tb) u D σ H := for_s2 (D := { D with nx := u D }) d h e hf I h0 step done
end
end M

namespace M
open PySem L2 G
section
variable {K : PySem.W.Frag} {α β γ δ ε ρ : Type} {S T : AS} {σ : St} {H : Hp} {ta tb te tc : TE} {tt tu : TT} {a : Ty K α} {b' : Ty K β} {c' : Ty K γ} {D : Ends} {u t1 t2 : TS} {b c : Addr}
/-! ### isinstance, by the code -/
theorem tyTm {H : Hp} {a : Addr} {xs : List V} (h : SqT K H a xs) : TyX K H (.ref a) (.type "tuple") := by
  rcases h with (h | ⟨o, h⟩) | ⟨o, _, _, h, hc, _⟩
  · exact .base (.tup h)
  · exact .fTuple h
  · exact .kTuple h hc
theorem tyLm {H : Hp} {a : Addr} {xs : List V} (h : SqL K H a xs) : TyX K H (.ref a) (.type "list") := by
  rcases h with (h | ⟨o, h⟩) | ⟨o, _, _, h, hc, _⟩
  · exact .base (.lst h)
  · exact .base (.frz h)
  · exact .kList h hc
class IsTy (a : Ty K α) (t : outParam String) : Prop where
  h : ∀ {S H v x}, a.rp S H v x → TyX K H v (.type t)
instance : IsTy (K := K) tInt "int" := ⟨fun h => by rw [show _ = _ from h]; exact .base (.int _)⟩
instance : IsTy (K := K) tBool "bool" := ⟨fun h => by rw [show _ = _ from h]; exact .base (.bl _)⟩
instance : IsTy (K := K) tStr "str" := ⟨fun h => by rw [h.1]; exact .base (.str _)⟩
instance : IsTy (K := K) tRat "tuple" := ⟨fun ⟨p, e, h⟩ => by rw [e]; exact tyTm h.sq⟩
instance : IsTy (tT2 a b') "tuple" := ⟨fun ⟨p, _, _, e, h, _⟩ => by rw [e]; exact tyTm h.sq⟩
instance : IsTy (tTs a) "tuple" := ⟨fun ⟨p, _, e, h, _⟩ => by rw [e]; exact tyTm h.sq⟩
instance : IsTy (tL a) "list" := ⟨fun ⟨p, _, e, h, _⟩ => by rw [e]; exact tyLm h.sq⟩
theorem ev_isi {r : Option α} {t n : String} {k : Bool} [hi : IsTy a t] (h : Ev S T te σ H (of a S) r) (hk : kitB t n = some k) :
    Ev S T (tCB (rIsi K) (tCons te (tCons (tC (.ty n)) tNil))) σ H (of (K := K) tBool S) (bd r fun _ => some k) := by
  intro z e H1 f1 d Q q
  obtain ⟨x, ex, e⟩ := bd_some e
  cases e
  exact h x ex H1 f1 d _ fun v H2 s hv => ⟨v, _, _, _, k, rfl, .ty _, hi.h hv, kit_ty hk, q _ H2 s rfl⟩
theorem ev_lenR {r : Option Rat} (h : Ev S T te σ H (of (K := K) tRat S) r) : Ev S T (tCB (fun xs H Q => ∃ p ys, xs = [.ref p] ∧ (SqL K H p ys ∨ SqT K H p ys) ∧ Q (.int ys.length) H) (tCons te tNil)) σ H (of (K := K) tInt S) (bd r fun _ => some (2 : Int)) := by
  intro z e H1 f1 d Q q
  obtain ⟨x, ex, e⟩ := bd_some e
  cases e
  exact h x ex H1 f1 d _ fun v H2 s ⟨p, ev, hp⟩ => by subst ev; exact ⟨p, _, rfl, .inr hp.sq, q _ H2 s rfl⟩
/-! ### pairs as tuples of any length -/
theorem ev_t2Sq {r : Option (α × α)} (h : Ev S T te σ H (of (tT2 a a) S) r) : Ev S T te σ H (of (tSq a) S) (bd r fun x => some [x.1, x.2]) := ev_as h fun x y e H1 H2 v d ⟨p, u, w, ev, hp, h1, h2⟩ => by
  cases e
  exact .inr ⟨p, _, ev, hp, .cons h1 (.cons h2 .nil)⟩
theorem sr_t4 {tl : TE} {r : Option (α × α × α × α)} (h : Ev S T tl σ H (of (tT4 a a a a) S) r) : Sr S T (iTup K tl) σ H a (bd r fun x => some [x.1, x.2.1, x.2.2.1, x.2.2.2]) := fun xs e H1 f d R q => by
  obtain ⟨x, ex, e⟩ := bd_some e
  cases e
  exact h x ex H1 f d _ fun v H2 s ⟨p, u1, u2, u3, u4, ev, hp, h1, h2, h3, h4⟩ => ⟨p, ev, ⟨_, hp.sq⟩, q _ H2 s (wk_tup hp (.cons h1 (.cons h2 (.cons h3 (.cons h4 .nil)))))⟩
/-! ### targets that take lists and tuples -/
def gOr (g g' : TG) : TG := fun v σ H Q => g v σ H Q ∨ g' v σ H Q
theorem pg_or {X : Cx} {e : Expr} {g g' : TG} (h : PG X e g) (h' : PG X e g') : PG X e (gOr g g') := ⟨fun pins s σ H v u Q I r hw => by
  rcases hw with hw | hw
  · exact h.run pins s σ H v u Q I r hw
  · exact h'.run pins s σ H v u Q I r hw⟩
def two? : List α → Option (α × α)
  | [x, y] => some (x, y)
  | _ => none
theorem two_some {xs : List α} {p : α × α} (h : two? xs = some p) : xs = [p.1, p.2] := by
  match xs, h with
  | [x, y], h => cases h; rfl
theorem for_s2q {wi : TI} {j j2 : Nat} {tb : TS} {r : Option (List (List α))} {xs : List (List α)} {ps : List (α × α)} {s0 : δ} {f : δ → α × α → Option (Ct ρ δ)} {res : Ct ρ δ} (d : Dom S H) (h : Sr S T wi σ H (tSq a) r) (e : r = some xs) (e2 : mapO two? xs = some ps) (hf : loopC f ps s0 = some res)
    (I : δ → St → Hp → Prop) (h0 : ∀ H1, Same H H1 → I s0 σ H1)
    (step : (∀ s σ' H', res = .go s → I s σ' H' → D.nx σ' H') → ∀ (s : δ) (x : α × α) (cr : Ct ρ δ) (v w : V) (σ' : St) (H' : Hp), I s σ' H' → a.rp S H' v x.1 → a.rp S H' w x.2 → x ∈ ps → f s x = some cr → (∀ y, cr = .ret y → res = .ret y) → (∀ s', cr = .brk s' → res = .go s') →
      tb { D with nx := fun σ2 H2 => ∃ s', cr = .go s' ∧ Fr S H' H2 ∧ I s' σ2 H2, ct := fun σ2 H2 => ∃ s', cr = .go s' ∧ Fr S H' H2 ∧ I s' σ2 H2, bk := D.nx } ((σ'.set j (some v)).set j2 (some w)) H')
    (done : ∀ s σ' H', res = .go s → I s σ' H' → D.nx σ' H') : tFor wi (gOr (gTup K 2 (gCons (gName j) (gCons (gName j2) gNil))) (gLst K 2 (gCons (gName j) (gCons (gName j2) gNil)))) tb D σ H := by
  refine h xs e H (Fr.refl _) d _ fun J H1 s1 wk => ?_
  have ln := mapO_len e2
  refine ⟨fun i m σ' H' => m = ps.length - i ∧ i ≤ ps.length ∧ Fr S H1 H' ∧ ∃ s, I s σ' H' ∧ loopC f (ps.drop i) s = some res, ⟨_, rfl, Nat.zero_le _, Fr.refl _, s0, h0 H1 s1, hf⟩, ?_⟩
  rintro i m σ' H' ⟨rfl, hi, fr, s, hI, hl⟩
  by_cases c : i < ps.length
  · right
    rw [List.drop_eq_getElem_cons c] at hl
    simp only [loopC] at hl
    cases q : f s ps[i] with
    | none => rw [q] at hl; cases hl
    | some cr =>
      rw [q] at hl
      refine ⟨wk.go H' i fr (by omega), fun σ2 H2 => ∃ s', cr = .go s' ∧ Fr S H' H2 ∧ I s' σ2 H2, ?_, ?_⟩
      · rintro σ2 H2 ⟨s', rfl, f2, hI'⟩
        exact ⟨ps.length - (i + 1), by omega, rfl, by omega, fr.trans f2, s', hI', hl⟩
      · intro v H2 hy
        have hx : i < xs.length := by omega
        obtain ⟨rfl, hv⟩ := wk.yl H' i v H2 fr hy _ (List.getElem?_eq_getElem hx)
        obtain ⟨p, ep, ep2⟩ := mapO_get e2 (List.getElem?_eq_getElem hx)
        have : p = ps[i] := by rw [List.getElem?_eq_getElem c] at ep2; exact (Option.some.inj ep2).symm
        subst this
        have hv := (tSq a).mono fr hv
        rw [two_some ep] at hv
        rcases hv with ⟨p, vs, ev, hp, ha⟩ | ⟨p, vs, ev, hp, ha⟩
        · subst ev
          cases ha with
          | cons g1 ha => cases ha with
            | cons g2 ha => cases ha with
              | nil =>
                right
                refine ⟨p, _, rfl, hp.sq, rfl, _, _, rfl, _, _, rfl, rfl, ?_⟩
                exact step done s ps[i] cr _ _ σ' _ hI g1 g2 (List.getElem_mem c) q (fun y ey => by subst ey; cases hl; rfl) (fun s' ey => by subst ey; cases hl; rfl)
        · subst ev
          cases ha with
          | cons g1 ha => cases ha with
            | cons g2 ha => cases ha with
              | nil =>
                left
                refine ⟨p, _, rfl, hp.sq, rfl, _, _, rfl, _, _, rfl, rfl, ?_⟩
                exact step done s ps[i] cr _ _ σ' _ hI g1 g2 (List.getElem_mem c) q (fun y ey => by subst ey; cases hl; rfl) (fun s' ey => by subst ey; cases hl; rfl)
  · left
    refine ⟨wk.st H' i fr (by omega), ?_⟩
    rw [List.drop_eq_nil_of_le (by omega)] at hl
    cases hl
    exact done s σ' H' rfl hI
theorem q_for_s2q {wi : TI} {j j2 : Nat} {tb : TS} {r : Option (List (List α))} {xs : List (List α)} {ps : List (α × α)} {s0 : δ} {f : δ → α × α → Option (Ct ρ δ)} {res : Ct ρ δ} (d : Dom S H) (h : Sr S T wi σ H (tSq a) r) (e : r = some xs) (e2 : mapO two? xs = some ps) (hf : loopC f ps s0 = some res)
    (I : δ → St → Hp → Prop) (h0 : ∀ H1, Same H H1 → I s0 σ H1)
    (step : (∀ s σ' H', res = .go s → I s σ' H' → u D σ' H') → ∀ (s : δ) (x : α × α) (cr : Ct ρ δ) (v w : V) (σ' : St) (H' : Hp), I s σ' H' → a.rp S H' v x.1 → a.rp S H' w x.2 → x ∈ ps → f s x = some cr → (∀ y, cr = .ret y → res = .ret y) → (∀ s', cr = .brk s' → res = .go s') →
      tb { D with nx := fun σ2 H2 => ∃ s', cr = .go s' ∧ Fr S H' H2 ∧ I s' σ2 H2, ct := fun σ2 H2 => ∃ s', cr = .go s' ∧ Fr S H' H2 ∧ I s' σ2 H2, bk := u D } ((σ'.set j (some v)).set j2 (some w)) H')
    (done : ∀ s σ' H', res = .go s → I s σ' H' → u D σ' H') : tSeq (tFor wi (gOr (gTup K 2 (gCons (gName j) (gCons (gName j2) gNil))) (gLst K 2 (gCons (gName j) (gCons (gName j2) gNil)))) tb) u D σ H := for_s2q (D := { D with nx := u D }) d h e e2 hf I h0 step done
/-! ### slices, two names at once, while drawing -/
def EvWO (b c : Addr) (S : AS) (to : TO) (σ : St) (H : Hp) (w : Wp (Option Int)) : Prop :=
  Sub [b, c] S → ∀ P, w P → ∀ H1, Fr [b, c] H H1 → Dom S H1 → Bag H1 b c → ∀ Q : Option Int → Hp → Prop, (∀ H2 x, P x → Fr [b, c] H1 H2 → Dom S H2 → Bag H2 b c → Q x H2) → to σ H1 Q
theorem wo_pure {to : TO} {r : Option (Option Int)} (h : EvO S [b, c] to σ H r) : EvWO b c S to σ H (lf r) := fun ts P ⟨x, e, hP⟩ H1 f d hB Q q => h x e H1 f d Q fun H2 s => q H2 x hP (Fr.same s) (d.same s) (hB.same s)
theorem wo_some {w : Wp Int} (h : EvW b c S te σ H (of (K := K) tInt S) w) : EvWO b c S (tPart te) σ H (unW (fun i => some (some i)) w) := fun ts P hP H1 f d hB Q q =>
  h ts _ hP H1 f d hB _ fun v H2 i ⟨z, e, hz⟩ f2 d2 hB2 hv => ⟨i, hv, q H2 _ (by cases e; exact hz) f2 d2 hB2⟩
def slW (wa : Wp (List α)) (wl wh : Wp (Option Int)) : Wp (List α) := fun P => wa fun xs => wl fun l => wh fun h => P (cutD xs l h)
theorem ew_slL {tl th : TO} {wa : Wp (List α)} {wl wh : Wp (Option Int)} (ha : EvW b c S ta σ H (of (tL a) S) wa) (hl : EvWO b c S tl σ H wl) (hh : EvWO b c S th σ H wh) :
    EvW b c S (tSl (rSlL K) ta tl th) σ H (nw a S) (slW wa wl wh) := fun ts P hP H1 f1 d hB Q q => by
  refine ha ts _ hP H1 f1 d hB _ fun v H2 xs hx f2 d2 hB2 hv => hl ts _ hx H2 (f1.trans f2) d2 hB2 _ fun H3 l hl' f3 d3 hB3 => hh ts _ hl' H3 ((f1.trans f2).trans f3) d3 hB3 _ fun H4 h hh' f4 d4 hB4 => ?_
  obtain ⟨p, vs, rfl, hp, hvs⟩ := (tL a).mono ((f3.trans f4).sub ts) hv
  refine ⟨p, vs, rfl, hp.sq, fun p' hp' => q _ _ _ hh' (((f2.trans f3).trans f4).trans (Fr.same (same_new hp'))) (d4.same (same_new hp')) (hB4.same (same_new hp')) ⟨p', rfl, fr_back ((f2.trans f3).trans f4) hB4.dom hp', _, upd_same, ?_⟩⟩
  exact (hvs.cut l h).imp fun _ _ hh => a.mono (Fr.same (same_new hp')) (a.ext hp' hh)
theorem qw_par {i j : Nat} {wa : Wp α} {wb : Wp β} {P : α → β → Prop} (d : Dom S H) (hB : Bag H b c) (ts : Sub [b, c] S) (ha : EvW b c S ta σ H (of a S) wa) (hb : EvW b c S tb σ H (of b' S) wb) (e : wa fun x => wb fun y => P x y)
    (k : ∀ v w H1 x y, P x y → Fr [b, c] H H1 → Dom S H1 → Bag H1 b c → a.rp S H1 v x → b'.rp S H1 w y → u D ((σ.set i (some v)).set j (some w)) H1) :
    tSeq (tPar i j (tCons ta (tCons tb tNil))) u D σ H := ha ts _ e H (Fr.refl _) d hB _ fun v H1 x hx f1 d1 hB1 hv => hb ts _ hx H1 f1 d1 hB1 _ fun w H2 y hy f2 d2 hB2 hw => ⟨v, w, rfl, k v w H2 x y hy (f1.trans f2) d2 hB2 (a.mono (f2.sub ts) hv) hw⟩
theorem qw_par2 {i j : Nat} {wa : Wp α} {wb : Wp β} {P : α → β → Prop} (d : Dom S H) (hB : Bag H b c) (ts : Sub [b, c] S) (ha : EvW b c S ta σ H (of a S) wa) (hb : EvW b c S tb σ H (of b' S) wb) (e : wa fun x => wb fun y => P x y)
    (k : ∀ v w H1 x y, P x y → Fr [b, c] H H1 → Dom S H1 → Bag H1 b c → a.rp S H1 v x → b'.rp S H1 w y → u D ((σ.set i (some v)).set j (some w)) H1) :
    tSeq (tAsg (tTup (tCons ta (tCons tb tNil))) (gTup K 2 (gCons (gName i) (gCons (gName j) gNil)))) u D σ H := ha ts _ e H (Fr.refl _) d hB _ fun v H1 x hx f1 d1 hB1 hv => hb ts _ hx H1 f1 d1 hB1 _ fun w H2 y hy f2 d2 hB2 hw => ⟨(by show 2 ≤ sizeLine; decide), fun p hp =>
  ⟨p, _, rfl, .inl (.inl upd_same), rfl, v, _, rfl, w, _, rfl, rfl, k v w _ x y hy ((f1.trans f2).trans (Fr.same (same_new hp))) (d2.same (same_new hp)) (hB2.same (same_new hp)) (a.mono (Fr.same (same_new hp)) (a.mono (f2.sub ts) hv)) (b'.mono (Fr.same (same_new hp)) hw)⟩⟩
end
end M

namespace M
open PySem L2 G
theorem mapO_all {α β : Type} {f : α → Option β} {g : α → β} : ∀ {xs : List α}, (∀ x ∈ xs, f x = some (g x)) → mapO f xs = some (xs.map g)
  | [], _ => rfl
  | x :: r, h => by
    simp only [mapO, bd, h x (List.mem_cons_self ..), Option.bind_some, mapO_all (fun y hy => h y (List.mem_cons_of_mem _ hy)), List.map_cons]
theorem cut_mem {α : Type} {xs : List α} {lo hi : Option Int} {x : α} (h : x ∈ cutD xs lo hi) : x ∈ xs := by
  unfold cutD at h
  exact List.mem_of_mem_drop (List.mem_of_mem_take h)
theorem cut_len {α : Type} (xs : List α) (lo hi : Option Int) : (cutD xs lo hi).length ≤ xs.length := by
  unfold cutD
  rw [List.length_take, List.length_drop]
  omega
theorem at_in {α : Type} {xs : List α} {i : Int} (h0 : 0 ≤ i) (h : i < xs.length) : ∃ x, atI xs i = some x ∧ x ∈ xs := by
  have hk : i.toNat < xs.length := by omega
  have e := atI_nat (xs := xs) (j := i.toNat) (List.getElem?_eq_getElem hk)
  rw [show ((i.toNat : Nat) : Int) = i by omega] at e
  exact ⟨_, e, List.getElem_mem hk⟩
theorem rngP_of {n : Int} (h : -1000000 ≤ n ∧ n ≤ 1000000) : rngP n = true := by
  unfold rngP
  exact Nat.ble_eq_true_of_le (by omega)
theorem rng2_eq {a b : Int} (ha : -1000000 ≤ a ∧ a ≤ 1000000) (hb : -1000000 ≤ b ∧ b ≤ 1000000) : rng2? a b = some (rngL a (b - a).toNat) := by
  unfold rng2?
  rw [rngP_of ha, rngP_of hb]
  rfl
theorem rng1_eq {b : Int} (hb : -1000000 ≤ b ∧ b ≤ 1000000) : rng1? b = some (rngL 0 b.toNat) := by
  unfold rng1?
  rw [rngP_of hb]
  rfl
theorem rngL_succ (a : Int) (m : Nat) : rngL a (m + 1) = a :: rngL (a + 1) m := by
  unfold rngL
  rw [List.range_succ_eq_map, List.map_cons, List.map_map]
  congr 1
  · simp
  · apply List.map_congr_left
    intro k _
    simp only [Function.comp_apply]
    omega
theorem app_eq {α : Type} {xs : List α} (x : α) (h : xs.length < 100000) : app? xs x = some (xs ++ [x]) := by
  unfold app?
  rw [if_pos h]
theorem rng_len (lo : Int) (n : Nat) : (rngL lo n).length = n := by simp [rngL]
theorem rng_mem {lo x : Int} {n : Nat} (h : x ∈ rngL lo n) : lo ≤ x ∧ x < lo + n := by
  unfold rngL at h
  obtain ⟨i, hi, rfl⟩ := List.mem_map.mp h
  have := List.mem_range.mp hi
  omega
theorem mapL_eq {α β : Type} {f : α → Option β} {g : α → β} {xs : List α} (hl : xs.length ≤ 1000) (h : ∀ x ∈ xs, f x = some (g x)) : mapL? f xs = some (xs.map g) := by
  have h2 : xs.length < 100000 := Nat.lt_of_le_of_lt hl (by decide)
  have e : mapL? f xs = mapO f xs := if_pos h2
  rw [e]
  exact mapO_all h
theorem atI_toNat {α : Type} {xs : List α} {j : Int} (h0 : 0 ≤ j) (h : j < xs.length) : atI xs j = xs[j.toNat]? := by
  have hk : j.toNat < xs.length := by omega
  have e := atI_nat (xs := xs) (j := j.toNat) (List.getElem?_eq_getElem hk)
  rw [show ((j.toNat : Nat) : Int) = j by omega] at e
  rw [e, List.getElem?_eq_getElem hk]
theorem cut_nat {α : Type} {xs : List α} {a b : Nat} (ha : a ≤ b) (hb : b ≤ xs.length) : cutD xs (some (a : Int)) (some (b : Int)) = (xs.drop a).take (b - a) := by
  unfold cutD
  rw [HT.sIx_nat, HT.sIx_nat, show min a xs.length = a by omega, show min b xs.length = b by omega]
theorem cut_from {α : Type} {xs : List α} {a : Nat} (ha : a ≤ xs.length) : cutD xs (some (a : Int)) none = xs.drop a := by
  unfold cutD
  rw [HT.sIx_nat, show min a xs.length = a by omega]
  rw [show HT.sIx xs.length xs.length none = xs.length from rfl]
  exact List.take_of_length_le (by rw [List.length_drop]; omega)
theorem loopW_ix {α δ ρ : Type} {f : δ → α → Wp (Ct ρ δ)} {P : Ct ρ δ → Prop} (J : Nat → δ → Prop) : ∀ (xs : List α) (i : Nat) (s : δ), J i s →
    (∀ (k : Nat) (s : δ) (x : α) (C : Ct ρ δ → Prop), i ≤ k → k < i + xs.length → J k s → x ∈ xs → (∀ s', J (k + 1) s' → C (.go s')) → f s x C) → (∀ s, J (i + xs.length) s → P (.go s)) → loopW f xs s P
  | [], i, s, h, _, e => e s h
  | x :: r, i, s, h, st, e => by
    unfold loopW
    refine st i s x _ (Nat.le_refl _) (by simp) h (List.mem_cons_self ..) fun s' h' => ?_
    show loopW f r s' P
    refine loopW_ix J r (i + 1) s' h' (fun k s x C h1 h2 hJ hx hC => st k s x C (by omega) (by simp at h2 ⊢; omega) hJ (List.mem_cons_of_mem _ hx) hC) fun s hs => e s ?_
    rw [List.length_cons, show i + (r.length + 1) = i + 1 + r.length by omega]
    exact hs
theorem loopW_all {α δ ρ : Type} {f : δ → α → Wp (Ct ρ δ)} {P : Ct ρ δ → Prop} (J : δ → Prop) (xs : List α) (s : δ) (h : J s) (st : ∀ (s : δ) (x : α) (C : Ct ρ δ → Prop), J s → x ∈ xs → (∀ s', J s' → C (.go s')) → f s x C) (e : ∀ s, J s → P (.go s)) : loopW f xs s P :=
  loopW_ix (fun _ => J) xs 0 s h (fun _ s x C _ _ hJ hx hC => st s x C hJ hx hC) (fun s hs => e s hs)
theorem last_at {α : Type} {xs : List α} (h : xs ≠ []) : ∃ x, atI xs (-1) = some x ∧ x ∈ xs := by
  have l := List.length_pos_iff.mpr h
  have hk : xs.length - 1 < xs.length := by omega
  refine ⟨xs[xs.length - 1], ?_, List.getElem_mem hk⟩
  unfold atI ixN
  rw [if_neg (by decide), if_pos (by omega), Option.bind_some, show ((-1 : Int) + (xs.length : Int)).toNat = xs.length - 1 by omega]
  exact List.getElem?_eq_getElem hk
theorem jn_of {δ : Type} {f : (δ → Prop) → Prop} {k : δ → Prop} (Gd : δ → Prop) (h1 : ∀ K : δ → Prop, (∀ j, Gd j → K j) → f K) (h2 : ∀ j, Gd j → k j) : jn f k := h1 k h2
theorem filW_all {α β : Type} {f : α → Wp (Option β)} {p : β → Prop} : ∀ {xs : List α} {P : List β → Prop}, (∀ x ∈ xs, ∀ Po : Option β → Prop, (∀ y, p y → Po (some y)) → Po none → f x Po) → (∀ ys, ys.length ≤ xs.length → (∀ y ∈ ys, p y) → P ys) → filW f xs P
  | [], P, _, h => h [] (by simp) (fun y hy => by simp at hy)
  | x :: r, P, hf, h => by
    unfold filW
    refine hf x (List.mem_cons_self ..) _ (fun y hy => ?_) ?_
    · refine filW_all (fun z hz => hf z (List.mem_cons_of_mem _ hz)) fun ys hl hp => h _ (by simp; omega) fun z hz => ?_
      simp at hz
      rcases hz with rfl | hz
      · exact hy
      · exact hp z hz
    · refine filW_all (fun z hz => hf z (List.mem_cons_of_mem _ hz)) fun ys hl hp => h _ (by simp; omega) fun z hz => hp z (by simpa using hz)
theorem loopW_rng {δ ρ : Type} {f : δ → Int → Wp (Ct ρ δ)} {P : Ct ρ δ → Prop} (J : Nat → δ → Prop) : ∀ (n : Nat) {a : Nat} (s : δ), J a s → (∀ (k : Nat) (s : δ) (C : Ct ρ δ → Prop), a ≤ k → k < a + n → J k s → (∀ s', J (k + 1) s' → C (.go s')) → f s (k : Int) C) → (∀ s, J (a + n) s → P (.go s)) → loopW f (rngL (a : Int) n) s P
  | 0, a, s, h, _, e => e s h
  | n + 1, a, s, h, st, e => by
    rw [rngL_succ]
    unfold loopW
    refine st a s _ (Nat.le_refl _) (by omega) h fun s' h' => ?_
    show loopW f (rngL ((a : Int) + 1) n) s' P
    have := loopW_rng (f := f) (P := P) J n (a := a + 1) s' h' (fun k s C h1 h2 hJ hC => st k s C (by omega) (by omega) hJ hC) (fun s hs => e s (by rw [show a + (n + 1) = a + 1 + n by omega]; exact hs))
    simpa using this
theorem loopC_chk {α : Type} {f : Unit → α → Option (Ct Bool Unit)} {g : α → Bool} : ∀ (xs : List α), (∀ x ∈ xs, f () x = some (if g x then .ret false else .go ())) → loopC f xs () = some (if xs.any g then .ret false else .go ())
  | [], _ => rfl
  | x :: r, h => by
    have hx := h x (List.mem_cons_self ..)
    have hr := loopC_chk r fun y hy => h y (List.mem_cons_of_mem _ hy)
    unfold loopC
    rw [hx, Option.bind_some]
    by_cases c : g x = true
    · simp [c]
    · simp only [c, Bool.false_eq_true, if_false, List.any_cons, Bool.false_or]
      exact hr
theorem loopC_app {α β ρ : Type} {f : List β → α → Option (Ct ρ (List β))} {g : α → List β} {M c : Nat} : ∀ (xs : List α) (s : List β), (∀ x ∈ xs, (g x).length ≤ c ∧ ∀ s, s.length + c ≤ M → f s x = some (.go (s ++ g x))) → s.length + xs.length * c ≤ M → loopC f xs s = some (.go (s ++ xs.flatMap g))
  | [], s, _, _ => by simp [loopC]
  | x :: r, s, h, hb => by
    have hx := h x (List.mem_cons_self ..)
    have e : (x :: r).length * c = c + r.length * c := by rw [List.length_cons, Nat.succ_mul, Nat.add_comm]
    rw [e] at hb
    unfold loopC
    rw [hx.2 s (by omega), Option.bind_some]
    refine (loopC_app r (s ++ g x) (fun y hy => h y (List.mem_cons_of_mem _ hy)) ?_).trans ?_
    · rw [List.length_append]
      have := hx.1
      omega
    · simp
theorem filO_gen {α : Type} {g : α → Option Bool} {p : α → Bool} : ∀ (xs : List α), (∀ x ∈ xs, g x = some (p x)) → filO (fun x => bd (g x) fun k => if k then bd (some x) fun y => some (some y) else some none) xs = some (xs.filter p)
  | [], _ => rfl
  | x :: r, h => by
    have hr := filO_gen r fun y hy => h y (List.mem_cons_of_mem _ hy)
    simp only [filO, h x (List.mem_cons_self ..), bd, Option.bind_some] at hr ⊢
    by_cases c : p x = true
    · simp [c, hr]
    · simp [c, hr]
theorem fil_gen {α : Type} {g : α → Option Bool} {p : α → Bool} {xs : List α} (hl : xs.length ≤ 1000) (h : ∀ x ∈ xs, g x = some (p x)) : filL? g (fun x => some x) xs = some (xs.filter p) := by
  unfold filL?
  rw [if_pos (by omega)]
  exact filO_gen xs h
theorem at_get {α : Type} {xs : List α} {j : Int} (d : α) (h0 : 0 ≤ j) (h : j < xs.length) : atI xs j = some (xs.getD j.toNat d) := by
  rw [atI_toNat h0 h, List.getD_eq_getElem?_getD, List.getElem?_eq_getElem (by omega)]
  rfl
theorem at_lastD {α : Type} {xs : List α} (d : α) (h : xs ≠ []) : atI xs (-1) = some (xs.getD (xs.length - 1) d) := by
  have hl := List.length_pos_iff.mpr h
  unfold atI ixN
  rw [if_neg (by decide), if_pos (by omega), Option.bind_some, show ((-1 : Int) + (xs.length : Int)).toNat = xs.length - 1 by omega, List.getD_eq_getElem?_getD, List.getElem?_eq_getElem (by omega)]
  rfl
theorem rng_memI {lo x : Int} {n : Nat} (h : lo ≤ x ∧ x < lo + n) : x ∈ rngL lo n := by
  unfold rngL
  rw [List.mem_map]
  exact ⟨(x - lo).toNat, by simp; omega, by omega⟩
theorem memD_iff {α : Type} [DecidableEq α] {x : α} {xs : List α} : memD x xs = true ↔ x ∈ xs := by simp [memD]
theorem flatMap_len {α β : Type} {g : α → List β} {c : Nat} : ∀ xs : List α, (∀ x ∈ xs, (g x).length ≤ c) → (xs.flatMap g).length ≤ xs.length * c
  | [], _ => by simp
  | x :: r, h => by
    have := flatMap_len r fun y hy => h y (List.mem_cons_of_mem _ hy)
    have := h x (List.mem_cons_self ..)
    rw [List.flatMap_cons, List.length_append, List.length_cons, Nat.succ_mul]
    omega
theorem whileC_meas {δ ρ : Type} {t : δ → Option Bool} {f : δ → Option (Ct ρ δ)} (J : δ → Prop) (μ : δ → Nat) (h : ∀ s, J s → t s = some false ∨ (t s = some true ∧ ∃ s', f s = some (.go s') ∧ J s' ∧ μ s' < μ s)) : ∀ (n : Nat) (s : δ), J s → μ s < n → ∃ s', whileC t f n s = some (.go s') ∧ J s' ∧ t s' = some false
  | 0, s, _, hm => by omega
  | n + 1, s, hJ, hm => by
    rcases h s hJ with h1 | ⟨h1, s', h2, h3, h4⟩
    · exact ⟨s, whileC_stop h1, hJ, h1⟩
    · obtain ⟨z, e1, e2, e3⟩ := whileC_meas J μ h n s' h3 (by omega)
      exact ⟨z, by rw [whileC_go h1 h2, e1], e2, e3⟩
theorem min_mem {xs : List Int} (h : xs ≠ []) : ∃ m, xs.min? = some m ∧ m ∈ xs := by
  cases e : xs.min? with
  | none => exact absurd (List.min?_eq_none_iff.mp e) h
  | some m => exact ⟨m, rfl, List.min?_mem e⟩
theorem cat_eq {α : Type} {xs ys : List α} (h : xs.length + ys.length ≤ 1000) : cat? xs ys = some (xs ++ ys) := by
  unfold cat?
  rw [if_pos (by omega)]
end M

namespace M
open PySem L2 G
section
variable {K : PySem.W.Frag} {α β γ δ ε ρ : Type} {S T : AS} {σ : St} {H : Hp} {ta tb te tc : TE} {tt tu : TT} {a : Ty K α} {b' : Ty K β} {c' : Ty K γ} {D : Ends} {u t1 t2 : TS} {b c : Addr}
theorem kitAny2 {t n1 n2 : String} {k1 k2 : Bool} (h1 : kitB t n1 = some k1) (h2 : kitB t n2 = some k2) : PySem.W.kitAny K (.type t) [.type n1, .type n2] = some (k1 || k2) := by
  cases k1 with
  | true => exact kitAny_cons (b := true) (kit_ty h1) (fun z => nomatch z) (fun _ => rfl)
  | false =>
    refine kitAny_cons (b := false) (kit_ty h1) (fun _ => ?_) (fun z => nomatch z)
    cases k2 with
    | true => exact kitAny_cons (b := true) (kit_ty h2) (fun z => nomatch z) (fun _ => rfl)
    | false => exact kitAny_cons (b := false) (kit_ty h2) (fun _ => rfl) (fun z => nomatch z)
theorem ev_isi2 {r : Option α} {t n1 n2 : String} {k1 k2 : Bool} [hi : IsTy a t] (h : Ev S T te σ H (of a S) r) (h1 : kitB t n1 = some k1) (h2 : kitB t n2 = some k2) :
    Ev S T (tCB (rIsiT K) (tCons te (tCons (tTup (tCons (tC (.ty n1)) (tCons (tC (.ty n2)) tNil))) tNil))) σ H (of (K := K) tBool S) (bd r fun _ => some (k1 || k2)) := by
  intro z e H1 f1 d Q q
  obtain ⟨x, ex, e⟩ := bd_some e
  cases e
  exact h x ex H1 f1 d _ fun v H2 s hv => ⟨(by show 2 ≤ sizeLine; decide), fun p hp => ⟨v, p, _, _, _, _, rfl, upd_same, .cons (.ty _) (.cons (.ty _) .nil), hi.h (a.mono (Fr.same (same_new hp)) hv), kitAny2 h1 h2, q _ _ (s.trans (same_new hp)) rfl⟩⟩
theorem ev_isNv [NN a] {r : Option α} (h : Ev S T te σ H (of a S) r) : Ev S T (tOp (fun x y H Q => y = .non ∧ Q (.bl (decide (x = .non))) H) te (tC .non)) σ H (of (K := K) tBool S) (bd r fun _ => some false) := by
  intro z e H1 f1 d Q q
  obtain ⟨x, ex, e⟩ := bd_some e
  cases e
  exact h x ex H1 f1 d _ fun v H2 s hv => ⟨rfl, q _ H2 s (by show V.bl _ = V.bl false; rw [decide_eq_false (NN.h hv)])⟩
theorem ev_slO {p : Addr} {xs : List α} {i : Nat} {tl th : TO} {rl rh : Option (Option Int)} (o : Own a S H p xs) (nt : p ∉ T) (ts : Sub T S) (hi : σ[i]? = some (some (.ref p))) (hl : EvO S T tl σ H rl) (hh : EvO S T th σ H rh) :
    Ev S T (tSl (rSlL K) (tVar i) tl th) σ H (nw a S) (bd rl fun l => bd rh fun h => some (cutD xs l h)) := by
  intro z e H1 f1 d Q q
  obtain ⟨l, el, e⟩ := bd_some e
  obtain ⟨h, eh, e⟩ := bd_some e
  cases e
  refine ⟨_, hi, hl l el H1 f1 d _ fun H2 s2 => hh h eh H2 (f1.trans (Fr.same s2)) (d.same s2) _ fun H3 s3 => ?_⟩
  obtain ⟨vs, hv, ha⟩ := ((o.fr f1 ts nt).same s2).same s3
  refine ⟨p, vs, rfl, .inl (.inl hv), fun p' hp' => q _ _ ((s2.trans s3).trans (same_new hp')) ⟨p', rfl, (s2.trans s3).free hp', _, upd_same, ?_⟩⟩
  exact (ha.cut l h).imp fun _ _ hh => a.mono (Fr.same (same_new hp')) (a.ext hp' hh)
theorem lw_set {p : Addr} {xs : List α} {i : Nat} {w : Wp α} {td : TE} {ri : Option Int} {R : List α → Prop} (d : Dom S H) (hB : Bag H b c) (ts : Sub [b, c] S) (o : Own a S H p xs) (im : p ∈ S) (nt : p ∉ [b, c]) (hi : σ[i]? = some (some (.ref p))) (h : EvW b c S te σ H (of a S) w) (hk : Ev S [b, c] td σ H (of (K := K) tInt S) ri)
    (e : w fun x => lf ri fun k => lf (set? xs k x) R)
    (q : ∀ ys H1 H2, R ys → Fr [b, c] H H1 → Dom S H1 → Bag H1 b c → Mut1 p H1 H2 → Fr S H1 H2 → Own a S H2 p ys → D.nx σ H2) : tAsg te (gSub (tVar i) td rSetL) D σ H := by
  refine h ts _ e H (Fr.refl _) d hB _ fun v H1 x ⟨k, ek, ys, ey, hR⟩ f1 d1 hB1 hx => ⟨_, hi, hk k ek H1 f1 d1 _ fun w H2 s2 hw => ?_⟩
  cases hw
  obtain ⟨vs, hv, ha⟩ := o.fr f1 ts nt
  obtain ⟨j, ej, ey⟩ := bd_some ey
  cases ey
  refine ⟨p, vs, k, j, rfl, rfl, s2 _ _ hv, by rw [ha.len]; exact ej, ?_⟩
  have g1 : Fr S H2 (upd H2 p (.lst (vs.set j v))) := fr_upd im
  refine q _ H1 _ hR f1 d1 hB1 ⟨fun b ob e n => by rw [upd_ne n]; exact s2 _ _ e, by rw [upd_same]; intro z; cases z⟩ ((Fr.same s2).trans g1) ⟨_, upd_same, ?_⟩
  exact (All2.set (a.mono (Fr.same s2) hx) j (ha.imp fun _ _ h => a.mono (Fr.same s2) h)).imp fun _ _ h => a.mono g1 h
theorem qw_set {p : Addr} {xs : List α} {i : Nat} {w : Wp α} {td : TE} {ri : Option Int} {R : List α → Prop} (d : Dom S H) (hB : Bag H b c) (ts : Sub [b, c] S) (o : Own a S H p xs) (im : p ∈ S) (nt : p ∉ [b, c]) (hi : σ[i]? = some (some (.ref p))) (h : EvW b c S te σ H (of a S) w) (hk : Ev S [b, c] td σ H (of (K := K) tInt S) ri)
    (e : w fun x => lf ri fun k => lf (set? xs k x) R)
    (q : ∀ ys H1 H2, R ys → Fr [b, c] H H1 → Dom S H1 → Bag H1 b c → Mut1 p H1 H2 → Fr S H1 H2 → Own a S H2 p ys → u D σ H2) : tSeq (tAsg te (gSub (tVar i) td rSetL)) u D σ H := lw_set (D := { D with nx := u D }) d hB ts o im nt hi h hk e q
end
end M

namespace M
open PySem L2 G
open PyProof.Rows (itemOrd)
open PySem.W (dataLt alike alikeAll AlikeAll minD min_list_data alike_unique)
/-! ### min of a list of data -/
theorem fold_mem {α : Type} (f : α → α → Bool) : ∀ (xs : List α) (x : α), xs.foldl (fun a y => if f y a then y else a) x ∈ x :: xs
  | [], x => by simp
  | y :: r, x => by
    rw [List.foldl_cons]
    have := fold_mem f r (if f y x then y else x)
    rcases List.mem_cons.mp this with e | m
    · rw [e]
      split <;> simp
    · exact List.mem_cons_of_mem _ (List.mem_cons_of_mem _ m)
def rMinA (K : PySem.W.Frag) : List V → Hp → VK → Prop := fun vs H Q => ∃ (a : Addr) (xs : List V) (d : PyData) (ds : List PyData), vs = [.ref a] ∧ SqL K H a xs ∧ DpAll K H xs (d :: ds) ∧ AlikeAll (d :: ds) ∧ PyData.depthAll (d :: ds) ≤ 60 ∧
  ∀ (i : Nat) (v : V), xs[i]? = some v → (d :: ds)[i]? = some (minD d ds) → Q v H
theorem cr_minA {X : Cx} (hc : X.calm = true) (hu : X.A.units + 65 < cLine) : CallR X (.builtin "min") (rMinA X.K) := by
  intro pins s σ H vs us Q I r h
  obtain ⟨a, xs, d, ds, rfl, hs, hd, hal, hdp, q⟩ := h
  obtain ⟨its, rv, hl, _⟩ := I.list hs
  rw [Vals.ref1 r]
  obtain ⟨as, hr⟩ := Dp.readsAll I (d :: ds) xs its hd rv
  refine min_list_data (I.ok.hd hc) hl.isList (by simpa using hr) hal (by omega) fun i v h' tk bs hv hr' hk => ?_
  have hv' : its[i]? = some v := by simpa using hv
  have hlen := rv.length
  have hi : i < its.length := (List.getElem?_eq_some_iff.mp hv').1
  obtain ⟨x, hx⟩ : ∃ x, xs[i]? = some x := ⟨_, List.getElem?_eq_getElem (by omega)⟩
  have rx : RelV x v := by
    obtain ⟨u, hu', ru⟩ := Vals.get rv hx
    rw [hv'] at hu'
    cases hu'
    exact ru
  obtain ⟨cs, rc, hin, _, _⟩ := PySem.W.readsAll_at hr i v hv'
  have e : (d :: ds).getD i .none = minD d ds := by
    have r1 := PySem.W.reads_keeps hk rc
    refine alike_unique _ _ v _ _ ?_ r1 hr'
    refine hal.1 _ ?_ _ ?_
    · rw [List.getD_eq_getElem?_getD, List.getElem?_eq_getElem hin]
      exact List.getElem_mem _
    · exact fold_mem _ _ _
  refine ⟨x, H, I.kept hk, rx, q i x hx ?_⟩
  rw [← e, List.getD_eq_getElem?_getD, List.getElem?_eq_getElem hin]
  rfl
/-- codes whose things can be ordered -/
structure TyLt {K : PySem.W.Frag} {α : Type} {a : Ty K α} (d : TyD a) (lt : α → α → Bool) : Prop where
  al : ∀ x y, alike (d.dt x) (d.dt y) = true
  nn : ∀ x, d.dt x ≠ .none
  lt : ∀ x y, dataLt (d.dt x) (d.dt y) = lt x y
def minBy? {α : Type} (lt : α → α → Bool) : List α → Option α
  | [] => none
  | x :: xs => some (xs.foldl (fun a y => if lt y a then y else a) x)
theorem minD_map {K : PySem.W.Frag} {α : Type} {a : Ty K α} {d : TyD a} {lt : α → α → Bool} (h : TyLt d lt) : ∀ (xs : List α) (x : α), minD (d.dt x) (xs.map d.dt) = d.dt (xs.foldl (fun a y => if lt y a then y else a) x)
  | [], x => rfl
  | y :: r, x => by
    have ih := minD_map h r (if lt y x then y else x)
    unfold minD at ih ⊢
    rw [List.map_cons, List.foldl_cons, List.foldl_cons, h.lt, ← ih]
    congr 1
    split <;> rfl
theorem ev_minBy {K : PySem.W.Frag} {α : Type} {S T : AS} {σ : St} {H : Hp} {te : TE} {a : Ty K α} [DecidableEq α] {d : TyD a} {lt : α → α → Bool} {r : Option (List α)} (hd : d.dep ≤ 60) (hl : TyLt d lt) (h : Ev S T te σ H (of (tL a) S) r) :
    Ev S T (tCB (rMinA K) (tCons te tNil)) σ H (of a S) (bd r fun x => minBy? lt x) := by
  intro z e H1 f1 dm Q q
  obtain ⟨x, ex, e⟩ := bd_some e
  refine h x ex H1 f1 dm _ fun v H2 s ⟨p, vs, ev, hp, ha⟩ => ?_
  subst ev
  cases x with
  | nil => cases e
  | cons y ys =>
    cases e
    have da := dpAll d ha
    rw [List.map_cons] at da
    refine ⟨p, vs, d.dt y, ys.map d.dt, rfl, hp.sq, da, ⟨fun u hu w hw => ?_, fun u hu => ?_⟩, ?_, fun i w hw he => ?_⟩
    · rw [← List.map_cons] at hu hw
      obtain ⟨u', _, rfl⟩ := List.mem_map.mp hu
      obtain ⟨w', _, rfl⟩ := List.mem_map.mp hw
      exact hl.al _ _
    · rw [← List.map_cons] at hu
      obtain ⟨u', _, rfl⟩ := List.mem_map.mp hu
      exact hl.nn _
    · rw [← List.map_cons]
      exact Nat.le_trans (depAll d (y :: ys)) hd
    · rw [← List.map_cons, List.getElem?_map, minD_map hl] at he
      obtain ⟨c, hc, rc⟩ := ha.getL i hw
      rw [hc] at he
      have ec : c = ys.foldl (fun a y => if lt y a then y else a) y := by
        have := Option.some.inj he
        have e2 := d.dec c (ys.foldl (fun a y => if lt y a then y else a) y)
        rw [this, d.dec] at e2
        simpa using e2.symm
      subst ec
      exact q w H2 s rc
/-! lists of ints, as Python orders them -/
def lexI : List Int → List Int → Bool
  | [], [] => false
  | [], _ :: _ => true
  | _ :: _, [] => false
  | x :: xs, y :: ys => if x = y then lexI xs ys else decide (x < y)
theorem lexI_toks : ∀ xs ys : List Int, PyProof.Rows.lexLt itemOrd (PySem.W.keyToksAll (xs.map .int)) (PySem.W.keyToksAll (ys.map .int)) = lexI xs ys
  | [], [] => by rfl
  | [], y :: ys => by rfl
  | x :: xs, [] => by rfl
  | x :: xs, y :: ys => by
    rw [List.map_cons, List.map_cons]
    have al : alike (.int x) (.int y) = true := rfl
    unfold lexI
    by_cases c : x = y
    · rw [if_pos c, PySem.W.dataLt_all_yes al (by simp [PyData.eqv, c])]
      exact lexI_toks xs ys
    · rw [if_neg c, PySem.W.dataLt_all_no al (by simp [PyData.eqv, c]), PySem.W.dataLt_int]
theorem alike_ints' : ∀ xs ys : List Int, alikeAll (xs.map .int) (ys.map .int) = true
  | [], ys => by simp [alikeAll]
  | x :: xs, [] => by simp [alikeAll]
  | x :: xs, y :: ys => by simp [alikeAll, alike, alike_ints' xs ys]
theorem lt_LI {K : PySem.W.Frag} : TyLt (K := K) (dL dInt) lexI := ⟨fun x y => by show alike (.list _) (.list _) = true; rw [alike]; exact alike_ints' x y, fun x z => (by cases z), fun x y => by show dataLt (.list _) (.list _) = _; rw [PySem.W.dataLt_list]; exact lexI_toks x y⟩
/-! one taken out of a list -/
def popAt? {α : Type} (xs : List α) (i : Int) : Option (α × List α) := if 0 ≤ i then (xs[i.toNat]?).map fun y => (y, xs.eraseIdx i.toNat) else none
theorem All2.erase {α β : Type} {F : α → β → Prop} : ∀ (n : Nat) {xs : List α} {ys : List β}, All2 F xs ys → All2 F (xs.eraseIdx n) (ys.eraseIdx n)
  | _, _, _, .nil => .nil
  | 0, _, _, .cons _ r => r
  | n + 1, _, _, .cons a r => .cons a (All2.erase n r)
end M

namespace M
open PySem L2 G
open PyProof.Rows (itemOrd)
open PySem.W (dataLt alike alikeAll AllAlike Sortable dataLe sorted_data EachIs)
/-! ### sorted of a list of data -/
def rSortA (K : PySem.W.Frag) : List V → Hp → VK → Prop := fun vs H Q => ∃ (a : Addr) (bs : List (V × PyData)), vs = [.ref a] ∧ SqL K H a (bs.map (·.1)) ∧ (∀ b ∈ bs, Dp K H b.1 b.2) ∧ AllAlike (bs.map (·.2)) ∧ Sortable (bs.map (·.2)) ∧ (∀ b ∈ bs, b.2.depth ≤ 60) ∧
  ∀ p, H p = none → Q (.ref p) (upd H p (.lst ((bs.mergeSort (dataLe false (·.2))).map (·.1))))
theorem each_vals {X : Cx} {pins : List (Addr × Obj)} {σ : St} {H : Hp} {s : Shared} (I : Inv X pins σ H s) : ∀ {bs : List (V × PyData)} {its : List Value}, Vals (bs.map (·.1)) its → (∀ b ∈ bs, Dp X.K H b.1 b.2) →
    EachIs (fun v (b : V × PyData) => RelV b.1 v) its bs ∧ EachIs (fun v (b : V × PyData) => ∃ as, Reads s.heap v b.2 as) its bs
  | [], _, .nil, _ => ⟨.nil, .nil⟩
  | b :: r, _, .cons h t, hd => by
    obtain ⟨e1, e2⟩ := each_vals I t fun x hx => hd x (List.mem_cons_of_mem _ hx)
    exact ⟨.cons h e1, .cons (Dp.reads I b.2 b.1 _ (hd b (List.mem_cons_self ..)) h) e2⟩
theorem vals_each : ∀ {out : List Value} {bs : List (V × PyData)}, EachIs (fun v (b : V × PyData) => RelV b.1 v) out bs → Vals (bs.map (·.1)) out
  | _, _, .nil => .nil
  | _, _, .cons h t => .cons h (vals_each t)
theorem cr_sortA {X : Cx} (hu : X.A.units + 65 < cLine) : CallR X (.builtin "sorted") (rSortA X.K) := by
  intro pins s σ H vs us Q I r h
  obtain ⟨a, bs, rfl, hs, hd, hal, hk, hdp, q⟩ := h
  obtain ⟨its, rv, hl, hz⟩ := I.list hs
  rw [Vals.ref1 r]
  obtain ⟨e1, e2⟩ := each_vals I rv hd
  have hz' : bs.length ≤ sizeLine := by simpa using hz
  refine sorted_data (bs := bs) (enc := (·.2)) hl.isList e1 e2 hal hk hz' (fun b hb => by have := hdp b hb; omega) fun out ho he => ?_
  obtain ⟨ep, he'⟩ := PyProof.Rows.sortedAll_at s.heap its out.toArray
  have hlen : ((bs.mergeSort (dataLe false (·.2))).map (·.1)).length ≤ sizeLine := by rw [List.length_map, List.length_mergeSort]; exact hz'
  exact ⟨.ref _, upd H (s.heap.objs.size + 1) (.lst ((bs.mergeSort (dataLe false (·.2))).map (·.1))), I.laid (t' := s.toks) (fun _ _ => PyProof.Rows.sortedAll_old) (Nat.le_succ _) ⟨hlen, out, ep, vals_each he, by simpa using he'⟩, rfl, q _ (I.hok.fresh (Nat.le_succ _))⟩
def sortBy {α : Type} (lt : α → α → Bool) (xs : List α) : List α := xs.mergeSort fun x y => !lt y x
theorem dataLe_not {β : Type} (k : β → PyData) (x y : β) : dataLe false k x y = !dataLt (k y) (k x) := by
  first | rfl | (unfold dataLe dataLt; rfl)
/-- codes of which all are tuples with an item, or none is -/
def Srt {K : PySem.W.Frag} {α : Type} {a : Ty K α} (d : TyD a) : Prop := (∀ x, ∃ y r, d.dt x = .tuple (y :: r)) ∨ ∀ x ys, d.dt x ≠ .tuple ys
theorem ev_sortBy {K : PySem.W.Frag} {α : Type} {S T : AS} {σ : St} {H : Hp} {te : TE} {a : Ty K α} {d : TyD a} {lt : α → α → Bool} {r : Option (List α)} (hd : d.dep ≤ 60) (hl : TyLt d lt) (hs : Srt d) (h : Ev S T te σ H (of (tL a) S) r) :
    Ev S T (tCB (rSortA K) (tCons te tNil)) σ H (nw a S) (bd r fun x => some (sortBy lt x)) := by
  intro z e H1 f1 dm Q q
  obtain ⟨xs, ex, e⟩ := bd_some e
  cases e
  refine h xs ex H1 f1 dm _ fun v H2 s ⟨p, vs, ev, hp, ha⟩ => ?_
  subst ev
  have len := ha.len
  have m1 : ((vs.zip xs).map fun t : V × α => (t.1, d.dt t.2)).map (·.1) = vs := by
    rw [List.map_map]
    exact List.map_fst_zip (by omega)
  have m2 : (vs.zip xs).map Prod.snd = xs := List.map_snd_zip (by omega)
  have hz : ∀ t ∈ vs.zip xs, a.rp S H2 t.1 t.2 := fun t ht => by
    obtain ⟨i, hi, rfl⟩ := List.mem_iff_getElem.mp ht
    rw [List.length_zip] at hi
    rw [List.getElem_zip]
    obtain ⟨w, hw, hr⟩ := ha.get i (List.getElem?_eq_getElem (show i < xs.length by omega))
    rw [List.getElem?_eq_getElem (by omega)] at hw
    cases hw
    exact hr
  refine ⟨p, (vs.zip xs).map fun t => (t.1, d.dt t.2), rfl, by rw [m1]; exact hp.sq, fun b hb => ?_, ?_, ?_, fun b hb => ?_, fun p' hp' => ?_⟩
  · obtain ⟨t, ht, rfl⟩ := List.mem_map.mp hb
    exact d.dp (hz t ht)
  · intro u hu w hw
    rw [List.map_map] at hu hw
    obtain ⟨t, _, rfl⟩ := List.mem_map.mp hu
    obtain ⟨t', _, rfl⟩ := List.mem_map.mp hw
    exact hl.al _ _
  · rcases hs with hs | hs
    · left
      intro u hu
      rw [List.map_map] at hu
      obtain ⟨t, _, rfl⟩ := List.mem_map.mp hu
      exact hs _
    · right
      intro u hu
      rw [List.map_map] at hu
      obtain ⟨t, _, rfl⟩ := List.mem_map.mp hu
      exact ⟨hl.nn _, hs _⟩
  · obtain ⟨t, _, rfl⟩ := List.mem_map.mp hb
    exact Nat.le_trans (d.hd _) hd
  · have k1 := List.map_mergeSort (r := fun t t' : V × α => !lt t'.2 t.2) (s := dataLe false (fun b : V × PyData => b.2)) (f := fun t : V × α => (t.1, d.dt t.2)) (l := vs.zip xs) (fun t _ t' _ => by rw [dataLe_not, hl.lt])
    have k2 := List.map_mergeSort (r := fun t t' : V × α => !lt t'.2 t.2) (s := fun x y => !lt y x) (f := Prod.snd) (l := vs.zip xs) (fun t _ t' _ => rfl)
    rw [m2] at k2
    rw [← k1, List.map_map]
    have s4 := same_new (o := .lst (((vs.zip xs).mergeSort fun t t' : V × α => !lt t'.2 t.2).map fun t => t.1)) hp'
    refine q _ _ (s.trans s4) ⟨p', rfl, s.free hp', _, upd_same, ?_⟩
    unfold sortBy
    rw [← k2]
    have al : ∀ ts : List (V × α), (∀ t ∈ ts, a.rp S H2 t.1 t.2) → All2 (a.rp (p' :: S) (upd H2 p' (.lst (((vs.zip xs).mergeSort fun t t' : V × α => !lt t'.2 t.2).map fun t => t.1)))) (ts.map fun t => t.1) (ts.map Prod.snd) := by
      intro ts
      induction ts with
      | nil => exact fun _ => .nil
      | cons t r ih => exact fun ht => .cons (a.mono (Fr.same s4) (a.ext hp' (ht t (List.mem_cons_self ..)))) (ih fun x hx => ht x (List.mem_cons_of_mem _ hx))
    exact al _ fun t ht => hz t (List.mem_mergeSort.mp ht)
/-! pairs of a number and a list of numbers; texts -/
def ltPL (x y : Int × List Int) : Bool := if x.1 = y.1 then lexI x.2 y.2 else decide (x.1 < y.1)
theorem lt_PL {K : PySem.W.Frag} : TyLt (K := K) (dT2 dInt (dL dInt)) ltPL := by
  have al1 : ∀ n m : Int, alike (.int n) (.int m) = true := fun _ _ => rfl
  have al2 : ∀ x y : List Int, alike (.list (x.map .int)) (.list (y.map .int)) = true := fun x y => by rw [alike]; exact alike_ints' x y
  refine ⟨fun x y => ?_, fun x z => (by cases z), fun x y => ?_⟩
  · show alike (.tuple [.int x.1, .list (x.2.map .int)]) (.tuple [.int y.1, .list (y.2.map .int)]) = true
    rw [alike, alikeAll, alikeAll, al1, al2, alikeAll]
    rfl
  · show dataLt (.tuple [.int x.1, .list (x.2.map .int)]) (.tuple [.int y.1, .list (y.2.map .int)]) = ltPL x y
    rw [PySem.W.dataLt_tuple]
    unfold ltPL
    by_cases c : x.1 = y.1
    · rw [if_pos c, PySem.W.dataLt_all_yes (al1 _ _) (by simp [PyData.eqv, c])]
      have e2 : PyData.eqv (.list (x.2.map .int)) (.list (y.2.map .int)) = decide (x.2 = y.2) := (dL (K := K) dInt).dec x.2 y.2
      by_cases c2 : x.2 = y.2
      · rw [PySem.W.dataLt_all_yes (al2 _ _) (by rw [e2]; exact decide_eq_true c2), c2]
        have irr : ∀ l : List Int, lexI l l = false := fun l => by induction l with | nil => rfl | cons a r ih => simp [lexI, ih]
        rw [irr]
        rfl
      · rw [PySem.W.dataLt_all_no (al2 _ _) (by rw [e2]; exact decide_eq_false c2), PySem.W.dataLt_list]
        exact lexI_toks _ _
    · rw [if_neg c, PySem.W.dataLt_all_no (al1 _ _) (by simp [PyData.eqv, c]), PySem.W.dataLt_int]
theorem srt_PL {K : PySem.W.Frag} : Srt (K := K) (dT2 dInt (dL dInt)) := .inl fun x => ⟨_, _, rfl⟩
def ltS (x y : Str) : Bool := decide (x.cps.toList < y.cps.toList)
theorem lt_S {K : PySem.W.Frag} : TyLt (K := K) dStr ltS := ⟨fun x y => rfl, fun x z => (by cases z), fun x y => PySem.W.dataLt_str x y⟩
theorem srt_S {K : PySem.W.Frag} : Srt (K := K) dStr := .inr fun x ys z => (by cases z)
def ltI (x y : Int) : Bool := decide (x < y)
theorem lt_I {K : PySem.W.Frag} : TyLt (K := K) dInt ltI := ⟨fun x y => rfl, fun x z => (by cases z), fun x y => PySem.W.dataLt_int x y⟩
theorem srt_I {K : PySem.W.Frag} : Srt (K := K) dInt := .inr fun x ys z => (by cases z)
end M

namespace M
open PySem L2 G
section
variable {K : PySem.W.Frag} {α β γ δ ε ρ : Type} {S T : AS} {σ : St} {H : Hp} {ta tb te : TE} {tt tu : TT} {a : Ty K α} {b : Ty K β} {c : Ty K γ}
/-! ### a list of two things of two kinds -/
def tL2 (c : Ty K α) (d : Ty K β) : Ty K (α × β) where
  rp S H v x := ∃ a u w, v = .ref a ∧ nL K S H a [u, w] ∧ c.rp S H u x.1 ∧ d.rp S H w x.2
  mono f := fun ⟨a, u, w, e, h, h1, h2⟩ => ⟨a, u, w, e, h.mono f, c.mono f h1, d.mono f h2⟩
  ext f := fun ⟨a, u, w, e, h, h1, h2⟩ => ⟨a, u, w, e, h.ext f, c.ext f h1, d.ext f h2⟩
  sub f := fun ⟨a, u, w, e, h, h1, h2⟩ => ⟨a, u, w, e, h.sub f, c.sub f h1, d.sub f h2⟩
theorem ev_lst2 {ra : Option α} {rb : Option β} (ha : Ev S T ta σ H (of a S) ra) (hb : Ev S T tb σ H (of b S) rb) : Ev S T (tLst (tCons ta (tCons tb tNil))) σ H (of (tL2 a b) S) (bd ra fun x => bd rb fun y => some (x, y)) := by
  intro z e H1 f1 d Q q
  obtain ⟨x, ex, e⟩ := bd_some e
  obtain ⟨y, ey, e⟩ := bd_some e
  cases e
  refine ha x ex H1 f1 d _ fun v H2 s2 hv => hb y ey H2 (f1.trans (Fr.same s2)) (d.same s2) _ fun w H3 s3 hw => ⟨(by show 2 ≤ sizeLine; decide), fun p hp => ?_⟩
  have s4 := same_new (o := .lst [v, w]) hp
  exact q _ _ (s2.trans (s3.trans s4)) ⟨p, v, w, rfl, ⟨upd_same, ((d.same s2).same s3).not_mem hp⟩, a.mono (Fr.same (s3.trans s4)) hv, b.mono (Fr.same s4) hw⟩
theorem ev_ixL_ {R : Rl γ} {i : Int} {ra : Option α} {g : α → γ} (ha : Ev S T ta σ H (of a S) ra) (h : ∀ x H v, a.rp S H v x → ∃ p vs u, v = .ref p ∧ SqL K H p vs ∧ atI vs i = some u ∧ R.r H H u (g x)) :
    Ev S T (tOp (rIxL K) ta (tC (.int i))) σ H R (bd ra fun x => some (g x)) := by
  intro z e H1 f1 d Q q
  obtain ⟨x, ex, e⟩ := bd_some e
  cases e
  refine ha x ex H1 f1 d _ fun v H2 s2 hv => ?_
  obtain ⟨p, vs, u, rfl, hp, hu, hz⟩ := h x H2 v hv
  exact ⟨p, vs, i, u, rfl, rfl, hp, hu, q u H2 s2 (R.same s2 hz)⟩
theorem ev_ixL20 {ra : Option (α × β)} (ha : Ev S T ta σ H (of (tL2 a b) S) ra) : Ev S T (tOp (rIxL K) ta (tC (.int 0))) σ H (of a S) (bd ra fun x => some x.1) :=
  ev_ixL_ ha fun x H v ⟨p, u, w, e, h, h1, h2⟩ => ⟨p, _, u, e, h.sq, rfl, h1⟩
theorem ev_ixL21 {ra : Option (α × β)} (ha : Ev S T ta σ H (of (tL2 a b) S) ra) : Ev S T (tOp (rIxL K) ta (tC (.int 1))) σ H (of b S) (bd ra fun x => some x.2) :=
  ev_ixL_ ha fun x H v ⟨p, u, w, e, h, h1, h2⟩ => ⟨p, _, w, e, h.sq, rfl, h2⟩
def dL2 {a : Ty K α} {b : Ty K β} (d : TyD a) (e : TyD b) : TyD (tL2 a b) := ⟨fun x => .list [d.dt x.1, e.dt x.2], max d.dep e.dep + 1, fun ⟨p, u, w, z, hp, h1, h2⟩ => by subst z; exact .lst hp.sq (.cons (d.dp h1) (.cons (e.dp h2) .nil)),
  fun {S H v x} ⟨p, u, w, z, hp, h1, h2⟩ => by
    show (PyData.canLay0 (d.dt x.1) && (PyData.canLay0 (e.dt x.2) && true)) = true
    rw [d.shp h1, e.shp h2]
    rfl,
  fun x => by
    show max (PyData.depth (d.dt x.1)) (max (PyData.depth (e.dt x.2)) 0) + 1 ≤ _
    have h1 := d.hd x.1
    have h2 := e.hd x.2
    omega,
  fun x y => by
    show (PyData.eqv (d.dt x.1) (d.dt y.1) && (PyData.eqv (e.dt x.2) (e.dt y.2) && true)) = true ↔ _
    rw [Bool.and_true, Bool.and_eq_true, d.eqv, e.eqv]
    exact ⟨fun h => Prod.ext h.1 h.2, fun h => by subst h; exact ⟨rfl, rfl⟩⟩⟩
/-! ### // and % -/
theorem od_fdiv : OpD (K := K) tInt tInt S (of (K := K) tInt S) (rI CDivZ fun i j => .int (i.fdiv j)) fdiv? := od_I (p := fun _ j => fdivP j) (fun i j h => show j ≠ 0 ∧ j.natAbs.log2 < 9000 from of_decide_eq_true h) fun _ _ _ => rfl
def fmod? (i j : Int) : Option Int := if decide (j ≠ 0) then some (i.fmod j) else none
theorem od_fmod : OpD (K := K) tInt tInt S (of (K := K) tInt S) (rI (fun _ j => j ≠ 0) fun i j => .int (i.fmod j)) fmod? := od_I (p := fun _ j => decide (j ≠ 0)) (fun i j h => of_decide_eq_true h) fun _ _ _ => rfl
/-! ### is not True -/
theorem od_isB : OpD (K := K) tBool tBool S (of (K := K) tBool S) rIsB (fun i j => some (decide (i = j))) := by
  intro x y z e H1 v w d hv hw Q q
  cases e; cases hv; cases hw
  exact ⟨x, y, rfl, rfl, q _ H1 (Same.refl _) rfl⟩
theorem od_notB : OpD (K := K) tBool tBool S (of (K := K) tBool S) rNotB (fun i j => some (!decide (i = j))) := by
  intro x y z e H1 v w d hv hw Q q
  cases e; cases hv; cases hw
  exact ⟨x, y, rfl, rfl, q _ H1 (Same.refl _) rfl⟩
/-! ### a test over fewer owned lists -/
theorem eb_shr {S' : AS} {r : Option Bool} (hs : Sub S' S) (h : EvB S' T tt σ H r) : EvB S T tt σ H r := fun x ex H1 f d Q q => h x ex H1 f (d.sub hs) Q q
/-! ### [te for x, y in zip(xs, ys)] -/
theorem ev_lcZ {tl tm : TE} {j j2 : Nat} {ws : List Nat} {r : Option (List α)} {r' : Option (List β)} {f : α × β → Option γ} (h : Ev S T tl σ H (of (tL a) S) r) (h' : Ev S T tm σ H (of (tL b) S) r') (hw : ∀ x y, wipe (((wipe σ ws).set j (some x)).set j2 (some y)) ws = wipe σ ws)
    (he : ∀ (x : α × β) (v w : V) (H2 H' : Hp) (p : Addr), Fr T H H2 → H2 p = none → Same H2 H' → a.rp (p :: S) H' v x.1 → b.rp (p :: S) H' w x.2 → Ev (p :: S) [] te (((wipe σ ws).set j (some v)).set j2 (some w)) H' (of c (p :: S)) (f x)) :
    Ev S T (tLc (iZip K (tCons tl (tCons tm tNil))) (gTup K 2 (gCons (gName j) (gCons (gName j2) gNil))) tYes te ws) σ H (nw c S) (bd r fun xs => bd r' fun ys => mapL? f (xs.zip ys)) := by
  intro z e H1 f1 d Q q
  obtain ⟨xs, ex, e⟩ := bd_some e
  obtain ⟨ys, ey, e⟩ := bd_some e
  unfold mapL? at e
  split at e
  rotate_left
  · cases e
  rename_i hlen
  refine h xs ex H1 f1 d _ fun v H2 s2 ⟨p, vs, ev, hp, ha⟩ => h' ys ey H2 (f1.trans (Fr.same s2)) (d.same s2) _ fun v' H3 s3 ⟨p', vs', ev', hp', ha'⟩ => ?_
  subst ev
  subst ev'
  have hp := hp.mono (Fr.same s3)
  have ha := ha.imp fun _ _ => a.mono (Fr.same s3)
  have la := ha.len
  have la' := ha'.len
  refine ⟨p, p', vs, vs', rfl, hp.sq, hp'.sq, fun Dl hD => ?_⟩
  have d3 := (d.same s2).same s3
  have sD : Same H3 (upd H3 Dl (.lst [])) := same_new hD
  refine ⟨fun i m H' => m = (xs.zip ys).length - i ∧ i ≤ (xs.zip ys).length ∧ ∃ acc pre, H' Dl = some (.lst acc) ∧ Same H3 H' ∧ acc.length ≤ i ∧ All2 (c.rp (Dl :: S) H') acc pre ∧ ∃ suf, mapO f ((xs.zip ys).drop i) = some suf ∧ z = pre ++ suf, ⟨_, rfl, Nat.zero_le _, [], [], upd_same, sD, Nat.zero_le _, .nil, z, e, rfl⟩, ?_⟩
  rintro i m H' ⟨rfl, hi, acc, pre, h1, h2, h3, h4, suf, h5, h6⟩
  by_cases k : i < (xs.zip ys).length
  · right
    have k' := k
    rw [List.length_zip] at k'
    rw [List.drop_eq_getElem_cons k] at h5
    obtain ⟨o, ho, h5⟩ := bd_some h5
    obtain ⟨suf', hs', h5⟩ := bd_some h5
    cases h5
    obtain ⟨u, hu, ru⟩ := ha.get i (List.getElem?_eq_getElem (show i < xs.length by omega))
    obtain ⟨u', hu', ru'⟩ := ha'.get i (List.getElem?_eq_getElem (show i < ys.length by omega))
    have q1 : SqL K H' p vs := (hp.mono (Fr.same h2)).sq
    have q2 : SqL K H' p' vs' := (hp'.mono (Fr.same h2)).sq
    refine ⟨⟨vs, vs', u, u', q1, q2, hu, hu'⟩, fun H4 => ∃ acc pre, H4 Dl = some (.lst acc) ∧ Same H3 H4 ∧ acc.length ≤ i + 1 ∧ All2 (c.rp (Dl :: S) H4) acc pre ∧ ∃ suf, mapO f ((xs.zip ys).drop (i + 1)) = some suf ∧ z = pre ++ suf, ?_, ?_⟩
    · rintro H4 ⟨acc, pre, g1, g2, g3, g4, suf, g5, g6⟩
      exact ⟨(xs.zip ys).length - (i + 1), by omega, rfl, by omega, acc, pre, g1, g2, g3, g4, suf, g5, g6⟩
    · intro v H4 hy
      obtain ⟨T', x', y', rfl, hT, rfl, e1, e2⟩ := hy
      have := e1 vs q1
      rw [hu] at this
      cases this
      have := e2 vs' q2
      rw [hu'] at this
      cases this
      have sT : Same H' (upd H' T' (.tup [u, u'])) := same_new hT
      refine ⟨T', [u, u'], rfl, .inl (.inl upd_same), rfl, u, _, rfl, u', _, rfl, rfl, hw _ _, G.yes_ ?_⟩
      have hs4 := h2.trans sT
      have gz : (xs.zip ys)[i] = (xs[i]'(by omega), ys[i]'(by omega)) := by rw [List.getElem_zip]
      refine he (xs.zip ys)[i] u u' H3 _ Dl (f1.trans (Fr.same (s2.trans s3))) hD hs4 (by rw [gz]; exact a.mono (Fr.same hs4) (a.ext hD ru)) (by rw [gz]; exact b.mono (Fr.same hs4) (b.ext hD ru')) o ho _ (Fr.refl _) ((d3.same hs4).cons (sT _ _ h1)) _ fun w H5 s5 hw5 => ?_
      have s6 := sT.trans s5
      refine ⟨acc, s6 _ _ h1, Nat.lt_of_lt_of_le (by omega : acc.length < 100000) (by decide), acc ++ [w], pre ++ [o], upd_same, fun p ob eb => ?_, by simp; omega, ?_, suf', hs', by rw [h6]; simp⟩
      · rw [upd_ne (ne_of_none eb hD)]
        exact s6 _ _ (h2 _ _ eb)
      · have fD : Fr (Dl :: S) H5 (upd H5 Dl (.lst (acc ++ [w]))) := fr_upd (List.mem_cons_self ..)
        exact ((h4.imp fun _ _ h => c.mono (Fr.same s6) h).snoc hw5).imp fun _ _ h => c.mono fD h
  · left
    rw [List.drop_eq_nil_of_le (by omega)] at h5
    cases h5
    rw [List.append_nil] at h6
    subst h6
    refine ⟨⟨vs, vs', (hp.mono (Fr.same h2)).sq, (hp'.mono (Fr.same h2)).sq, ?_⟩, q _ _ ((s2.trans s3).trans h2) ⟨Dl, rfl, (s2.trans s3).free hD, acc, h1, h4⟩⟩
    rw [List.length_zip] at k
    omega
end
end M

namespace G
open PySem L2 M

def top (i : Nat) : Stmt := PySem.Challenge.pw_gromatic_k51_whole_fewest_corners.main.body.getD i (.Pass ⟨0, 0, 0, 0⟩)
abbrev s_greatest_common : Stmt := top 4
abbrev n_greatest_common : List Str := ["one", "other"]
abbrev p_greatest_common : List Str := ["one", "other"]
theorem sc_greatest_common : FnScope n_greatest_common p_greatest_common (defScope s_greatest_common) := ⟨rfl, rfl, rfl, by decide +kernel, rfl, by decide +kernel, by decide +kernel⟩
abbrev s_ratio : Stmt := top 5
abbrev n_ratio : List Str := ["over", "under", "common"]
abbrev p_ratio : List Str := ["over", "under"]
theorem sc_ratio : FnScope n_ratio p_ratio (defScope s_ratio) := ⟨rfl, rfl, rfl, by decide +kernel, rfl, by decide +kernel, by decide +kernel⟩
abbrev s_plus : Stmt := top 6
abbrev n_plus : List Str := ["one", "other"]
abbrev p_plus : List Str := ["one", "other"]
theorem sc_plus : FnScope n_plus p_plus (defScope s_plus) := ⟨rfl, rfl, rfl, by decide +kernel, rfl, by decide +kernel, by decide +kernel⟩
abbrev s_minus : Stmt := top 7
abbrev n_minus : List Str := ["one", "other"]
abbrev p_minus : List Str := ["one", "other"]
theorem sc_minus : FnScope n_minus p_minus (defScope s_minus) := ⟨rfl, rfl, rfl, by decide +kernel, rfl, by decide +kernel, by decide +kernel⟩
abbrev s_times : Stmt := top 8
abbrev n_times : List Str := ["one", "other"]
abbrev p_times : List Str := ["one", "other"]
theorem sc_times : FnScope n_times p_times (defScope s_times) := ⟨rfl, rfl, rfl, by decide +kernel, rfl, by decide +kernel, by decide +kernel⟩
abbrev s_divided : Stmt := top 9
abbrev n_divided : List Str := ["one", "other"]
abbrev p_divided : List Str := ["one", "other"]
theorem sc_divided : FnScope n_divided p_divided (defScope s_divided) := ⟨rfl, rfl, rfl, by decide +kernel, rfl, by decide +kernel, by decide +kernel⟩
abbrev s_order : Stmt := top 10
abbrev n_order : List Str := ["one", "other", "gap"]
abbrev p_order : List Str := ["one", "other"]
theorem sc_order : FnScope n_order p_order (defScope s_order) := ⟨rfl, rfl, rfl, by decide +kernel, rfl, by decide +kernel, by decide +kernel⟩
abbrev s_size : Stmt := top 11
abbrev n_size : List Str := ["one"]
abbrev p_size : List Str := ["one"]
theorem sc_size : FnScope n_size p_size (defScope s_size) := ⟨rfl, rfl, rfl, by decide +kernel, rfl, by decide +kernel, by decide +kernel⟩
abbrev s_lesser : Stmt := top 12
abbrev n_lesser : List Str := ["one", "other"]
abbrev p_lesser : List Str := ["one", "other"]
theorem sc_lesser : FnScope n_lesser p_lesser (defScope s_lesser) := ⟨rfl, rfl, rfl, by decide +kernel, rfl, by decide +kernel, by decide +kernel⟩
abbrev s_greater : Stmt := top 13
abbrev n_greater : List Str := ["one", "other"]
abbrev p_greater : List Str := ["one", "other"]
theorem sc_greater : FnScope n_greater p_greater (defScope s_greater) := ⟨rfl, rfl, rfl, by decide +kernel, rfl, by decide +kernel, by decide +kernel⟩
abbrev s_longer_way : Stmt := top 15
abbrev n_longer_way : List Str := ["start", "end", "across", "up"]
abbrev p_longer_way : List Str := ["start", "end"]
theorem sc_longer_way : FnScope n_longer_way p_longer_way (defScope s_longer_way) := ⟨rfl, rfl, rfl, by decide +kernel, rfl, by decide +kernel, by decide +kernel⟩
abbrev s_slope_of : Stmt := top 16
abbrev n_slope_of : List Str := ["start", "end", "way"]
abbrev p_slope_of : List Str := ["start", "end", "way"]
theorem sc_slope_of : FnScope n_slope_of p_slope_of (defScope s_slope_of) := ⟨rfl, rfl, rfl, by decide +kernel, rfl, by decide +kernel, by decide +kernel⟩
abbrev s_aside : Stmt := top 17
abbrev n_aside : List Str := ["start", "slope", "way", "spot", "at"]
abbrev p_aside : List Str := ["start", "slope", "way", "spot"]
theorem sc_aside : FnScope n_aside p_aside (defScope s_aside) := ⟨rfl, rfl, rfl, by decide +kernel, rfl, by decide +kernel, by decide +kernel⟩
abbrev s_may_pass : Stmt := top 18
abbrev n_may_pass : List Str := ["row", "first", "last", "tolerance", "start", "end", "way", "low", "high", "slope", "spot"]
abbrev p_may_pass : List Str := ["row", "first", "last", "tolerance"]
theorem sc_may_pass : FnScope n_may_pass p_may_pass (defScope s_may_pass) := ⟨rfl, rfl, rfl, by decide +kernel, rfl, by decide +kernel, by decide +kernel⟩
abbrev s_ends_from : Stmt := top 19
abbrev n_ends_from : List Str := ["row", "first", "tolerance", "held", "told", "last"]
abbrev p_ends_from : List Str := ["row", "first", "tolerance", "held"]
theorem sc_ends_from : FnScope n_ends_from p_ends_from (defScope s_ends_from) := ⟨rfl, rfl, rfl, by decide +kernel, rfl, by decide +kernel, by decide +kernel⟩
abbrev s_ends_of : Stmt := top 20
abbrev n_ends_of : List Str := ["row", "tolerance", "held", "first"]
abbrev p_ends_of : List Str := ["row", "tolerance", "held"]
theorem sc_ends_of : FnScope n_ends_of p_ends_of (defScope s_ends_of) := ⟨rfl, rfl, rfl, by decide +kernel, rfl, by decide +kernel, by decide +kernel⟩
abbrev s_counts_of : Stmt := top 21
abbrev n_counts_of : List Str := ["ends", "counts", "first", "last"]
abbrev p_counts_of : List Str := ["ends"]
theorem sc_counts_of : FnScope n_counts_of p_counts_of (defScope s_counts_of) := ⟨rfl, rfl, rfl, by decide +kernel, rfl, by decide +kernel, by decide +kernel⟩
abbrev s_leads_through : Stmt := top 24
abbrev n_leads_through : List Str := ["row", "told", "at"]
abbrev p_leads_through : List Str := ["row", "told"]
theorem sc_leads_through : FnScope n_leads_through p_leads_through (defScope s_leads_through) := ⟨rfl, rfl, rfl, by decide +kernel, rfl, by decide +kernel, by decide +kernel⟩
abbrev s_falls : Stmt := top 25
abbrev n_falls : List Str := ["ends", "numbers", "first", "last"]
abbrev p_falls : List Str := ["ends", "numbers", "first", "last"]
theorem sc_falls : FnScope n_falls p_falls (defScope s_falls) := ⟨rfl, rfl, rfl, by decide +kernel, rfl, by decide +kernel, by decide +kernel⟩
abbrev s_law_open : Stmt := top 28
abbrev n_law_open : List Str := ["_law_script"]
abbrev p_law_open : List Str := ["_law_script"]
theorem sc_law_open : FnScope n_law_open p_law_open (defScope s_law_open) := ⟨rfl, rfl, rfl, by decide +kernel, rfl, by decide +kernel, by decide +kernel⟩
abbrev s_law_pull : Stmt := top 29
abbrev n_law_pull : List Str := ["_law_draw", "_law_top", "_law_cell", "_law_got"]
abbrev p_law_pull : List Str := ["_law_draw", "_law_top"]
theorem sc_law_pull : FnScope n_law_pull p_law_pull (defScope s_law_pull) := ⟨rfl, rfl, rfl, by decide +kernel, rfl, by decide +kernel, by decide +kernel⟩
abbrev s_law_any : Stmt := top 30
abbrev n_law_any : List Str := ["_law_draw", "_law_some"]
abbrev p_law_any : List Str := ["_law_draw", "_law_some"]
theorem sc_law_any : FnScope n_law_any p_law_any (defScope s_law_any) := ⟨rfl, rfl, rfl, by decide +kernel, rfl, by decide +kernel, by decide +kernel⟩
abbrev s_law_like : Stmt := top 31
abbrev n_law_like : List Str := ["_law_found", "_law_due", "_law_name", "_law_a", "_law_b"]
abbrev p_law_like : List Str := ["_law_found", "_law_due"]
theorem sc_law_like : FnScope n_law_like p_law_like (defScope s_law_like) := ⟨rfl, rfl, rfl, by decide +kernel, rfl, by decide +kernel, by decide +kernel⟩
abbrev s_law_low : Stmt := top 32
abbrev n_law_low : List Str := ["_law_over", "_law_under", "_law_one", "_law_two"]
abbrev p_law_low : List Str := ["_law_over", "_law_under"]
theorem sc_law_low : FnScope n_law_low p_law_low (defScope s_law_low) := ⟨rfl, rfl, rfl, by decide +kernel, rfl, by decide +kernel, by decide +kernel⟩
abbrev s_law_add : Stmt := top 33
abbrev n_law_add : List Str := ["_law_a", "_law_b"]
abbrev p_law_add : List Str := ["_law_a", "_law_b"]
theorem sc_law_add : FnScope n_law_add p_law_add (defScope s_law_add) := ⟨rfl, rfl, rfl, by decide +kernel, rfl, by decide +kernel, by decide +kernel⟩
abbrev s_law_sub : Stmt := top 34
abbrev n_law_sub : List Str := ["_law_a", "_law_b"]
abbrev p_law_sub : List Str := ["_law_a", "_law_b"]
theorem sc_law_sub : FnScope n_law_sub p_law_sub (defScope s_law_sub) := ⟨rfl, rfl, rfl, by decide +kernel, rfl, by decide +kernel, by decide +kernel⟩
abbrev s_law_mul : Stmt := top 35
abbrev n_law_mul : List Str := ["_law_a", "_law_b"]
abbrev p_law_mul : List Str := ["_law_a", "_law_b"]
theorem sc_law_mul : FnScope n_law_mul p_law_mul (defScope s_law_mul) := ⟨rfl, rfl, rfl, by decide +kernel, rfl, by decide +kernel, by decide +kernel⟩
abbrev s_law_less : Stmt := top 36
abbrev n_law_less : List Str := ["_law_a", "_law_b"]
abbrev p_law_less : List Str := ["_law_a", "_law_b"]
theorem sc_law_less : FnScope n_law_less p_law_less (defScope s_law_less) := ⟨rfl, rfl, rfl, by decide +kernel, rfl, by decide +kernel, by decide +kernel⟩
abbrev s_law_abs : Stmt := top 37
abbrev n_law_abs : List Str := ["_law_a"]
abbrev p_law_abs : List Str := ["_law_a"]
theorem sc_law_abs : FnScope n_law_abs p_law_abs (defScope s_law_abs) := ⟨rfl, rfl, rfl, by decide +kernel, rfl, by decide +kernel, by decide +kernel⟩
abbrev s_law_passes : Stmt := top 38
abbrev n_law_passes : List Str := ["_law_row", "_law_first", "_law_last", "_law_off_by", "_law_one", "_law_two", "_law_gaps", "_law_long", "_law_u", "_law_v", "_law_wide", "_law_tall", "_law_spot", "_law_far", "_law_line", "_law_part", "_law_at"]
abbrev p_law_passes : List Str := ["_law_row", "_law_first", "_law_last", "_law_off_by"]
theorem sc_law_passes : FnScope n_law_passes p_law_passes (defScope s_law_passes) := ⟨rfl, rfl, rfl, by decide +kernel, rfl, by decide +kernel, by decide +kernel⟩
abbrev s_law_free : Stmt := top 39
abbrev n_law_free : List Str := ["_law_row", "_law_first", "_law_last", "_law_off_by", "_law_pins", "_law_at"]
abbrev p_law_free : List Str := ["_law_row", "_law_first", "_law_last", "_law_off_by", "_law_pins"]
theorem sc_law_free : FnScope n_law_free p_law_free (defScope s_law_free) := ⟨rfl, rfl, rfl, by decide +kernel, rfl, by decide +kernel, by decide +kernel⟩
abbrev s_law_fewest : Stmt := top 40
abbrev n_law_fewest : List Str := ["_law_row", "_law_off_by", "_law_pins", "_law_most", "_law_numbers", "_law_back", "_law_first", "_law_good", "_law_found", "_law_at", "_law_k"]
abbrev p_law_fewest : List Str := ["_law_row", "_law_off_by", "_law_pins"]
theorem sc_law_fewest : FnScope n_law_fewest p_law_fewest (defScope s_law_fewest) := ⟨rfl, rfl, rfl, by decide +kernel, rfl, by decide +kernel, by decide +kernel⟩
abbrev s_law_spots : Stmt := top 41
abbrev n_law_spots : List Str := ["_law_draw", "_law_many", "_law_x", "_law_y", "_law_right", "_law_high", "_law_under", "_law_found", "_law_k"]
abbrev p_law_spots : List Str := ["_law_draw", "_law_many"]
theorem sc_law_spots : FnScope n_law_spots p_law_spots (defScope s_law_spots) := ⟨rfl, rfl, rfl, by decide +kernel, rfl, by decide +kernel, by decide +kernel⟩
abbrev s_law_held : Stmt := top 42
abbrev n_law_held : List Str := ["_law_draw", "_law_many", "_law_at"]
abbrev p_law_held : List Str := ["_law_draw", "_law_many"]
theorem sc_law_held : FnScope n_law_held p_law_held (defScope s_law_held) := ⟨rfl, rfl, rfl, by decide +kernel, rfl, by decide +kernel, by decide +kernel⟩
abbrev s_law_lists : Stmt := top 43
abbrev n_law_lists : List Str := ["_law_row", "_law_off_by", "_law_pins", "_law_last", "_law_found", "_law_powers", "_law_number", "_law_mine", "_law_k"]
abbrev p_law_lists : List Str := ["_law_row", "_law_off_by", "_law_pins"]
theorem sc_law_lists : FnScope n_law_lists p_law_lists (defScope s_law_lists) := ⟨rfl, rfl, rfl, by decide +kernel, rfl, by decide +kernel, by decide +kernel⟩
abbrev s_law : Stmt := top 44
abbrev n_law : List Str := ["_law_script", "_law_draw", "_law_turn", "_law_row", "_law_pins", "_law_off_by", "_law_handed", "_law_told", "_law_numbers", "_law_back", "_law_plain", "_law_at"]
abbrev p_law : List Str := ["_law_script"]
theorem sc_law : FnScope n_law p_law (defScope s_law) := ⟨rfl, rfl, rfl, by decide +kernel, rfl, by decide +kernel, by decide +kernel⟩
abbrev s_pieces_left : Stmt := top 22
abbrev n_pieces_left : List Str := ["row", "tolerance", "held"]
abbrev p_pieces_left : List Str := ["row", "tolerance", "held"]
theorem sc_pieces_left : FnScope n_pieces_left p_pieces_left (defScope s_pieces_left) := ⟨rfl, rfl, rfl, by decide +kernel, rfl, by decide +kernel, by decide +kernel⟩
abbrev s_kept : Stmt := top 23
abbrev n_kept : List Str := ["row", "tolerance", "held", "ends", "counts", "told", "here", "last"]
abbrev p_kept : List Str := ["row", "tolerance", "held"]
theorem sc_kept : FnScope n_kept p_kept (defScope s_kept) := ⟨rfl, rfl, rfl, by decide +kernel, rfl, by decide +kernel, by decide +kernel⟩
abbrev s_kept_holds : Stmt := top 26
abbrev n_kept_holds : List Str := ["row", "tolerance", "told", "numbers", "held", "ends", "first", "last", "at"]
abbrev p_kept_holds : List Str := ["row", "tolerance", "told", "numbers", "held"]
theorem sc_kept_holds : FnScope n_kept_holds p_kept_holds (defScope s_kept_holds) := ⟨rfl, rfl, rfl, by decide +kernel, rfl, by decide +kernel, by decide +kernel⟩
structure Bt (mg : Str → Option Value) : Prop where
  len_ : mg "len" = none
  list_ : mg "list" = none
  abs_ : mg "abs" = none
  isinstance_ : mg "isinstance" = none
  int_ : mg "int" = none
  bool_ : mg "bool" = none
  str_ : mg "str" = none
  dict_ : mg "dict" = none
  tuple_ : mg "tuple" = none
  all_ : mg "all" = none
  range_ : mg "range" = none
  sorted_ : mg "sorted" = none
  min_ : mg "min" = none
  any_ : mg "any" = none
  max_ : mg "max" = none
  zip_ : mg "zip" = none
structure At (K : PySem.W.Frag) (mg : Str → Option Value) (name : String) (st : Stmt) (ps : List Str) (f : Addr) (fd : FuncData) : Prop where
  F : Fun K (Str.ofString name) (Str.ofString name) st f fd
  b : Binds K fd ps []
  m : mg (Str.ofString name) = some (.ref f)
structure AtM (K : PySem.W.Frag) (C : Addr) (name qual : String) (st : Stmt) (ps : List Str) (f : Addr) (fd : FuncData) : Prop where
  F : Fun K (Str.ofString name) (Str.ofString qual) st f fd
  b : Binds K fd ps []
  me : Meth K C (Str.ofString name) f
structure NoR (K : PySem.W.Frag) (mg : Str → Option Value) (C : Addr) : Prop where
  g : mg "NoRatio" = some (.ref C)
  x : PySem.W.excIn K C [.type "ZeroDivisionError", .type "ArithmeticError", .type "Exception", .type "BaseException", .type "object"] "ZeroDivisionError.__new__" = true
  k : PySem.W.keepIn K (.ref C) = true
  b : PySem.W.subIn K (.ref C) (.type "BaseException") = some true
  t : PySem.W.typeIn K (.ref C) = some (.type "type")
  te : PySem.W.exmOne K (.ref C) (.ref C) = some true
structure Env (K : PySem.W.Frag) (mg : Str → Option Value) where
  f_greatest_common : Addr
  d_greatest_common : FuncData
  f_ratio : Addr
  d_ratio : FuncData
  f_plus : Addr
  d_plus : FuncData
  f_minus : Addr
  d_minus : FuncData
  f_times : Addr
  d_times : FuncData
  f_divided : Addr
  d_divided : FuncData
  f_order : Addr
  d_order : FuncData
  f_size : Addr
  d_size : FuncData
  f_lesser : Addr
  d_lesser : FuncData
  f_greater : Addr
  d_greater : FuncData
  f_longer_way : Addr
  d_longer_way : FuncData
  f_slope_of : Addr
  d_slope_of : FuncData
  f_aside : Addr
  d_aside : FuncData
  f_may_pass : Addr
  d_may_pass : FuncData
  f_ends_from : Addr
  d_ends_from : FuncData
  f_ends_of : Addr
  d_ends_of : FuncData
  f_counts_of : Addr
  d_counts_of : FuncData
  f_leads_through : Addr
  d_leads_through : FuncData
  f_falls : Addr
  d_falls : FuncData
  f_law_open : Addr
  d_law_open : FuncData
  f_law_pull : Addr
  d_law_pull : FuncData
  f_law_any : Addr
  d_law_any : FuncData
  f_law_like : Addr
  d_law_like : FuncData
  f_law_low : Addr
  d_law_low : FuncData
  f_law_add : Addr
  d_law_add : FuncData
  f_law_sub : Addr
  d_law_sub : FuncData
  f_law_mul : Addr
  d_law_mul : FuncData
  f_law_less : Addr
  d_law_less : FuncData
  f_law_abs : Addr
  d_law_abs : FuncData
  f_law_passes : Addr
  d_law_passes : FuncData
  f_law_free : Addr
  d_law_free : FuncData
  f_law_fewest : Addr
  d_law_fewest : FuncData
  f_law_spots : Addr
  d_law_spots : FuncData
  f_law_held : Addr
  d_law_held : FuncData
  f_law_lists : Addr
  d_law_lists : FuncData
  f_law : Addr
  d_law : FuncData
  C_NoRatio : Addr
  a_NOUGHT : Addr
  f_pieces_left : Addr
  a_E_pieces_left : Addr
  f_kept : Addr
  a_E_kept : Addr
  f_kept_holds : Addr
  a_E_kept_holds : Addr
  A_greatest_common : At K mg "greatest_common" s_greatest_common p_greatest_common f_greatest_common d_greatest_common
  A_ratio : At K mg "ratio" s_ratio p_ratio f_ratio d_ratio
  A_plus : At K mg "plus" s_plus p_plus f_plus d_plus
  A_minus : At K mg "minus" s_minus p_minus f_minus d_minus
  A_times : At K mg "times" s_times p_times f_times d_times
  A_divided : At K mg "divided" s_divided p_divided f_divided d_divided
  A_order : At K mg "order" s_order p_order f_order d_order
  A_size : At K mg "size" s_size p_size f_size d_size
  A_lesser : At K mg "lesser" s_lesser p_lesser f_lesser d_lesser
  A_greater : At K mg "greater" s_greater p_greater f_greater d_greater
  A_longer_way : At K mg "longer_way" s_longer_way p_longer_way f_longer_way d_longer_way
  A_slope_of : At K mg "slope_of" s_slope_of p_slope_of f_slope_of d_slope_of
  A_aside : At K mg "aside" s_aside p_aside f_aside d_aside
  A_may_pass : At K mg "may_pass" s_may_pass p_may_pass f_may_pass d_may_pass
  A_ends_from : At K mg "ends_from" s_ends_from p_ends_from f_ends_from d_ends_from
  A_ends_of : At K mg "ends_of" s_ends_of p_ends_of f_ends_of d_ends_of
  A_counts_of : At K mg "counts_of" s_counts_of p_counts_of f_counts_of d_counts_of
  A_leads_through : At K mg "leads_through" s_leads_through p_leads_through f_leads_through d_leads_through
  A_falls : At K mg "falls" s_falls p_falls f_falls d_falls
  A_law_open : At K mg "_law_open" s_law_open p_law_open f_law_open d_law_open
  A_law_pull : At K mg "_law_pull" s_law_pull p_law_pull f_law_pull d_law_pull
  A_law_any : At K mg "_law_any" s_law_any p_law_any f_law_any d_law_any
  A_law_like : At K mg "_law_like" s_law_like p_law_like f_law_like d_law_like
  A_law_low : At K mg "_law_low" s_law_low p_law_low f_law_low d_law_low
  A_law_add : At K mg "_law_add" s_law_add p_law_add f_law_add d_law_add
  A_law_sub : At K mg "_law_sub" s_law_sub p_law_sub f_law_sub d_law_sub
  A_law_mul : At K mg "_law_mul" s_law_mul p_law_mul f_law_mul d_law_mul
  A_law_less : At K mg "_law_less" s_law_less p_law_less f_law_less d_law_less
  A_law_abs : At K mg "_law_abs" s_law_abs p_law_abs f_law_abs d_law_abs
  A_law_passes : At K mg "_law_passes" s_law_passes p_law_passes f_law_passes d_law_passes
  A_law_free : At K mg "_law_free" s_law_free p_law_free f_law_free d_law_free
  A_law_fewest : At K mg "_law_fewest" s_law_fewest p_law_fewest f_law_fewest d_law_fewest
  A_law_spots : At K mg "_law_spots" s_law_spots p_law_spots f_law_spots d_law_spots
  A_law_held : At K mg "_law_held" s_law_held p_law_held f_law_held d_law_held
  A_law_lists : At K mg "_law_lists" s_law_lists p_law_lists f_law_lists d_law_lists
  A_law : At K mg "law" s_law p_law f_law d_law
  B : Bt mg
  d_pieces_left : FuncData
  A_pieces_left : M.AtK K mg "pieces_left" s_pieces_left p_pieces_left 2 "held" (.ref a_E_pieces_left) f_pieces_left d_pieces_left
  q_E_pieces_left : SqT K (fun _ => none) a_E_pieces_left []
  d_kept : FuncData
  A_kept : M.AtK K mg "kept" s_kept p_kept 2 "held" (.ref a_E_kept) f_kept d_kept
  q_E_kept : SqT K (fun _ => none) a_E_kept []
  d_kept_holds : FuncData
  A_kept_holds : M.AtK K mg "kept_holds" s_kept_holds p_kept_holds 4 "held" (.ref a_E_kept_holds) f_kept_holds d_kept_holds
  q_E_kept_holds : SqT K (fun _ => none) a_E_kept_holds []
  X_NoRatio : NoR K mg C_NoRatio
  c_NOUGHT : mg "NOUGHT" = some (.ref a_NOUGHT)
  q_NOUGHT : ∀ H, SqT K H a_NOUGHT [.int 0, .int 1]
section
variable {P : Program} {w : World} {K : PySem.W.Frag} {mg : Str → Option Value} {base : Heap}

/-! ### the greatest common number -/
def spGcd : Sp := fun vs H Q _ => ∃ a b : Int, vs = [.int a, .int b] ∧ Q (.int ((Int.gcd a b : Nat) : Int)) H
theorem ok_greatest_common (ev : Env K mg) : FnOk P w K mg base CX0 1 ev.f_greatest_common ev.d_greatest_common p_greatest_common spGcd := by
  refine ev.A_greatest_common.F.ok sc_greatest_common (fun vs H Q E h => ?_) (fun cdv A outer s H vs Q E hr h => ?_)
  · obtain ⟨a, b, rfl, _⟩ := h
    rfl
  obtain ⟨a, b, rfl, q⟩ := h
  refine ⟨_, (pss_cons (ps_while PassesOwn.never (pt_cmpR op_ne (pv 1) pe_int (nomark _))
    (pss_one (ps_par (i := 0) (j := 1) (by rfl) sc_greatest_common.nd rfl rfl (by decide) rfl rfl (pa_cons (pv 1) (pa_cons (pe_op op_modN (pv 0) (pv 1)) pa_nil)) (by rfl))))
    (pss_one (ps_ret (pe_callB call_abs (by rfl) ev.B.abs_ (by decide +kernel) (pa_cons (pv 0) pa_nil))))), ?_⟩
  refine ⟨fun m σ H' => H' = H ∧ ∃ x y : Int, σ = [some (.int x), some (.int y)] ∧ m = y.natAbs ∧ Int.gcd x y = Int.gcd a b, ⟨_, rfl, a, b, rfl, rfl, rfl⟩, ?_⟩
  rintro m σ H' ⟨rfl, x, y, rfl, rfl, e⟩
  refine ⟨_, rfl, rfl, _, rfl, ?_⟩
  refine ite2 (fun c => ?_) (fun c => ?_)
  · have hy : y ≠ 0 := ne_true c
    refine ⟨fun σ' H2 => H2 = H' ∧ σ' = [some (.int y), some (.int (x.fmod y))], ?_, ?_⟩
    · rintro σ' H2 ⟨rfl, rfl⟩
      exact ⟨_, fmod_abs_lt x hy, rfl, y, _, rfl, rfl, (gcd_fmod x y).trans e⟩
    · exact ⟨_, rfl, _, rfl, _, rfl, _, _, rfl, rfl, hy, _, _, rfl, rfl, rfl⟩
  · have hy : y = 0 := ne_false c
    subst hy
    refine ⟨_, rfl, _, rfl, ?_⟩
    rw [Int.gcd_zero_right] at e
    rw [abs_if, e]
    exact q

/-! ### ratio -/
def spRatio (C : Addr) : Sp := fun vs H Q E => ∃ o u : Int, vs = [.int o, .int u] ∧ u.natAbs < 2 ^ 9000 ∧ (u = 0 → E (.ref C) none H) ∧ (u ≠ 0 → ∀ p, H p = none → Q (.ref p) (upd H p (.tup [.int (rN o u), .int (rD o u)])))
theorem ok_ratio (ev : Env K mg) : FnOk P w K mg base (L2.CX P w) 2 ev.f_ratio ev.d_ratio p_ratio (spRatio ev.C_NoRatio) := by
  refine ev.A_ratio.F.okX sc_ratio (fun vs H Q E h => ?_) (fun cdv A outer s H vs Q E hr h => ?_)
  · obtain ⟨o, u, rfl, _⟩ := h
    rfl
  obtain ⟨o, u, rfl, hb, q0, q1⟩ := h
  refine ⟨_, (pss_cons (ps_if (pt_cmpR op_eq (pv 1) pe_int (nomark _))
    (pss_one (ps_raise rfl (takes_of rfl rfl rfl rfl) (pmk_own PySem.F.excBase_ZeroDivisionError ev.X_NoRatio.x ev.X_NoRatio.g ev.X_NoRatio.k (raises_own ev.X_NoRatio.b ev.X_NoRatio.t) (by exact rfl)))) pss_nil) (PSs.nox (pss_cons (ps_set (i := 2) sc_ratio.nd rfl (Or.inl rfl) (pe_call (ok_greatest_common ev) (hr.mono (by decide)) (by rfl) ev.A_greatest_common.m ev.A_greatest_common.F.kp ev.A_greatest_common.b .nil pass0 (pa_cons (pv 0) (pa_cons (pv 1) pa_nil))))
    (pss_cons (ps_if (pt_cmpR op_lt (pv 1) pe_int (nomark _))
    (pss_one (ps_set (i := 2) sc_ratio.nd rfl (Or.inl rfl) (pe_un un_neg (pv 2)))) pss_nil)
    (pss_one (ps_ret (pe_tup (pa_cons (pe_op op_fdivZ (pv 0) (pv 2)) (pa_cons (pe_op op_fdivZ (pv 1) (pv 2)) pa_nil))))))))), ?_⟩
  refine ⟨_, rfl, rfl, _, rfl, ?_⟩
  refine ite2 (fun c => ?_) (fun c => ?_)
  · exact q0 (V.int.inj (of_decide_eq_true c))
  have hu0 : u ≠ 0 := fun z => c (decide_eq_true (congrArg V.int z))
  refine next_u ?_
  refine seq_asg ⟨_, rfl, _, rfl, o, u, rfl, ?_⟩
  refine seq_by (fun σ H' => H' = H ∧ σ = [some (.int o), some (.int u), some (.int (cOf o u))]) ?_ (fun k => ?_)
  rotate_left
  · refine ⟨_, rfl, _, _, rfl, rfl, _, rfl, ?_⟩
    refine ite2 (fun z => ?_) (fun z => ?_)
    · have z' : u < 0 := of_decide_eq_true z
      refine ⟨_, rfl, _, rfl, k _ _ ⟨rfl, ?_⟩⟩
      unfold cOf
      rw [if_pos z']
      all_goals rfl
    · have z' : ¬ u < 0 := fun e => z (decide_eq_true e)
      refine k _ _ ⟨rfl, ?_⟩
      unfold cOf
      rw [if_neg z']
      all_goals rfl
  rintro σ H' ⟨rfl, rfl⟩
  exact ⟨_, rfl, _, rfl, _, _, rfl, rfl, cOf_ok hu0 hb _, _, rfl, _, rfl, _, _, rfl, rfl, cOf_ok hu0 hb _, (by show 2 ≤ sizeLine; decide), fun p hp => q1 hu0 p hp⟩

/-! ### ratios, mirrored -/
def ratioP (u : Int) : Prop := u ≠ 0 ∧ u.natAbs < 2 ^ 9000
instance : DecidablePred ratioP := fun u => inferInstanceAs (Decidable (_ ∧ _))
def ratio? (o u : Int) : Option Rat := if ratioP u then some (Rat.divInt o u) else none
theorem ev_ratio {S T : AS} {σ : St} {H : Hp} {C : Addr} {E : St → XK} {ta : TA} {r : Option (Int × Int × Unit)} (h : EvA S T ta σ H (K := K) (aCons tInt (aCons tInt aNil)) r) :
    Ev S T (tCallS (spRatio C) E ta) σ H (of (K := K) tRat S) (bd r fun a => ratio? a.1 a.2.1) := by
  intro z e H1 f1 d Q q
  obtain ⟨x, ex, e⟩ := bd_some e
  unfold ratio? at e
  split at e
  · rename_i hc
    cases e
    refine h x ex H1 f1 d _ fun vs H2 s2 hv => ?_
    obtain ⟨v, _, rfl, h1, w, _, rfl, h2, rfl⟩ := hv
    cases h1
    cases h2
    refine ⟨x.1, x.2.1, rfl, hc.2, fun z => absurd z hc.1, fun _ p hp => q _ _ (s2.trans (same_new hp)) ⟨p, rfl, .inl ⟨.inl ?_, (d.same s2).not_mem hp⟩⟩⟩
    rw [upd_same, (rat_rND hc.1).1, (rat_rND hc.1).2]
  · cases e

end
end G

namespace G
open PySem L2 M
section
variable {P : Program} {w : World} {K : PySem.W.Frag} {mg : Str → Option Value} {base : Heap}

def m_plus (d_one : Rat) (d_other : Rat) : Option Rat :=
  (bd (bd (bd (bd (bd (some d_one) fun x => some x.num) fun x => bd (bd (some d_other) fun x => some (x.den : Int)) fun y => mul? x y) fun x => bd (bd (bd (some d_other) fun x => some x.num) fun x => bd (bd (some d_one) fun x => some (x.den : Int)) fun y => mul? x y) fun y => some (x + y)) fun x => bd (bd (bd (bd (some d_one) fun x => some (x.den : Int)) fun x => bd (bd (some d_other) fun x => some (x.den : Int)) fun y => mul? x y) fun x => bd (some ()) fun y => some (x, y)) fun y => some (x, y)) fun a => ratio? a.1 a.2.1)
abbrev sp_plus (K : PySem.W.Frag) : Sp := spF (K := K) (aCons tRat (aCons tRat aNil)) (fun S => of (K := K) tRat S) (fun a => m_plus a.1 a.2.1)
theorem ok_plus (ev : Env K mg) : FnOk P w K mg base CX0 3 ev.f_plus ev.d_plus p_plus (sp_plus K) := by
  refine ev.A_plus.F.ok sc_plus (fun vs H Q E h => ?_) (fun cdv A outer s H0 vs Q E hr h => ?_)
  · obtain ⟨S, ⟨d_one, d_other, _⟩, y, _, ⟨v_one, _, rfl, h_one, v_other, _, rfl, h_other, rfl⟩, _⟩ := h
    rfl
  obtain ⟨S, ⟨d_one, d_other, _⟩, y, dm, ⟨v_one, _, rfl, h_one, v_other, _, rfl, h_other, rfl⟩, hm, q⟩ := h
  have ts : Sub [] S := fun a m => by simp at m
  have fr0 := Fr.refl (T := []) H0
  have sub0 : Sub S S := fun a m => m
  refine ⟨_, (pss_one (ps_ret (pe_callS (ok_ratio ev) (hr.mono (by decide)) (by rfl) ev.A_ratio.m ev.A_ratio.F.kp ev.A_ratio.b (fun σ => passAt takes0 σ) (pa_cons (pe_op op_add (pe_op op_mulW (pe_ix ix_tup (pv 0) pe_int (fun _ _ => rfl)) (pe_ix ix_tup (pv 1) pe_int (fun _ _ => rfl))) (pe_op op_mulW (pe_ix ix_tup (pv 1) pe_int (fun _ _ => rfl)) (pe_ix ix_tup (pv 0) pe_int (fun _ _ => rfl)))) (pa_cons (pe_op op_mulW (pe_ix ix_tup (pv 0) pe_int (fun _ _ => rfl)) (pe_ix ix_tup (pv 1) pe_int (fun _ _ => rfl))) pa_nil))))), ?_⟩
  dsimp only [m_plus] at hm
  have er := hm
  exact q_ret (T := []) dm (ev_ratio (ea_cons (ev_op (od_add (K := K)) (ev_op (od_mul (K := K)) (ev_ixR0 (ev_var ts h_one rfl)) (ev_ixR1 (ev_var ts h_other rfl))) (ev_op (od_mul (K := K)) (ev_ixR0 (ev_var ts h_other rfl)) (ev_ixR1 (ev_var ts h_one rfl)))) (ea_cons (ev_op (od_mul (K := K)) (ev_ixR1 (ev_var ts h_one rfl)) (ev_ixR1 (ev_var ts h_other rfl))) ea_nil))) er (fun v H1 s1 hv => q v H1 (fr0.trans (Fr.same s1)).toSame ((tRat : Ty K Rat).sub (S := S) (H := H1) sub0 hv))
def m_minus (d_one : Rat) (d_other : Rat) : Option Rat :=
  (bd (bd (bd (bd (bd (some d_one) fun x => some x.num) fun x => bd (bd (some d_other) fun x => some (x.den : Int)) fun y => mul? x y) fun x => bd (bd (bd (some d_other) fun x => some x.num) fun x => bd (bd (some d_one) fun x => some (x.den : Int)) fun y => mul? x y) fun y => some (x - y)) fun x => bd (bd (bd (bd (some d_one) fun x => some (x.den : Int)) fun x => bd (bd (some d_other) fun x => some (x.den : Int)) fun y => mul? x y) fun x => bd (some ()) fun y => some (x, y)) fun y => some (x, y)) fun a => ratio? a.1 a.2.1)
abbrev sp_minus (K : PySem.W.Frag) : Sp := spF (K := K) (aCons tRat (aCons tRat aNil)) (fun S => of (K := K) tRat S) (fun a => m_minus a.1 a.2.1)
theorem ok_minus (ev : Env K mg) : FnOk P w K mg base CX0 3 ev.f_minus ev.d_minus p_minus (sp_minus K) := by
  refine ev.A_minus.F.ok sc_minus (fun vs H Q E h => ?_) (fun cdv A outer s H0 vs Q E hr h => ?_)
  · obtain ⟨S, ⟨d_one, d_other, _⟩, y, _, ⟨v_one, _, rfl, h_one, v_other, _, rfl, h_other, rfl⟩, _⟩ := h
    rfl
  obtain ⟨S, ⟨d_one, d_other, _⟩, y, dm, ⟨v_one, _, rfl, h_one, v_other, _, rfl, h_other, rfl⟩, hm, q⟩ := h
  have ts : Sub [] S := fun a m => by simp at m
  have fr0 := Fr.refl (T := []) H0
  have sub0 : Sub S S := fun a m => m
  refine ⟨_, (pss_one (ps_ret (pe_callS (ok_ratio ev) (hr.mono (by decide)) (by rfl) ev.A_ratio.m ev.A_ratio.F.kp ev.A_ratio.b (fun σ => passAt takes0 σ) (pa_cons (pe_op op_sub (pe_op op_mulW (pe_ix ix_tup (pv 0) pe_int (fun _ _ => rfl)) (pe_ix ix_tup (pv 1) pe_int (fun _ _ => rfl))) (pe_op op_mulW (pe_ix ix_tup (pv 1) pe_int (fun _ _ => rfl)) (pe_ix ix_tup (pv 0) pe_int (fun _ _ => rfl)))) (pa_cons (pe_op op_mulW (pe_ix ix_tup (pv 0) pe_int (fun _ _ => rfl)) (pe_ix ix_tup (pv 1) pe_int (fun _ _ => rfl))) pa_nil))))), ?_⟩
  dsimp only [m_minus] at hm
  have er := hm
  exact q_ret (T := []) dm (ev_ratio (ea_cons (ev_op (od_sub (K := K)) (ev_op (od_mul (K := K)) (ev_ixR0 (ev_var ts h_one rfl)) (ev_ixR1 (ev_var ts h_other rfl))) (ev_op (od_mul (K := K)) (ev_ixR0 (ev_var ts h_other rfl)) (ev_ixR1 (ev_var ts h_one rfl)))) (ea_cons (ev_op (od_mul (K := K)) (ev_ixR1 (ev_var ts h_one rfl)) (ev_ixR1 (ev_var ts h_other rfl))) ea_nil))) er (fun v H1 s1 hv => q v H1 (fr0.trans (Fr.same s1)).toSame ((tRat : Ty K Rat).sub (S := S) (H := H1) sub0 hv))
def m_times (d_one : Rat) (d_other : Rat) : Option Rat :=
  (bd (bd (bd (bd (some d_one) fun x => some x.num) fun x => bd (bd (some d_other) fun x => some x.num) fun y => mul? x y) fun x => bd (bd (bd (bd (some d_one) fun x => some (x.den : Int)) fun x => bd (bd (some d_other) fun x => some (x.den : Int)) fun y => mul? x y) fun x => bd (some ()) fun y => some (x, y)) fun y => some (x, y)) fun a => ratio? a.1 a.2.1)
abbrev sp_times (K : PySem.W.Frag) : Sp := spF (K := K) (aCons tRat (aCons tRat aNil)) (fun S => of (K := K) tRat S) (fun a => m_times a.1 a.2.1)
theorem ok_times (ev : Env K mg) : FnOk P w K mg base CX0 3 ev.f_times ev.d_times p_times (sp_times K) := by
  refine ev.A_times.F.ok sc_times (fun vs H Q E h => ?_) (fun cdv A outer s H0 vs Q E hr h => ?_)
  · obtain ⟨S, ⟨d_one, d_other, _⟩, y, _, ⟨v_one, _, rfl, h_one, v_other, _, rfl, h_other, rfl⟩, _⟩ := h
    rfl
  obtain ⟨S, ⟨d_one, d_other, _⟩, y, dm, ⟨v_one, _, rfl, h_one, v_other, _, rfl, h_other, rfl⟩, hm, q⟩ := h
  have ts : Sub [] S := fun a m => by simp at m
  have fr0 := Fr.refl (T := []) H0
  have sub0 : Sub S S := fun a m => m
  refine ⟨_, (pss_one (ps_ret (pe_callS (ok_ratio ev) (hr.mono (by decide)) (by rfl) ev.A_ratio.m ev.A_ratio.F.kp ev.A_ratio.b (fun σ => passAt takes0 σ) (pa_cons (pe_op op_mulW (pe_ix ix_tup (pv 0) pe_int (fun _ _ => rfl)) (pe_ix ix_tup (pv 1) pe_int (fun _ _ => rfl))) (pa_cons (pe_op op_mulW (pe_ix ix_tup (pv 0) pe_int (fun _ _ => rfl)) (pe_ix ix_tup (pv 1) pe_int (fun _ _ => rfl))) pa_nil))))), ?_⟩
  dsimp only [m_times] at hm
  have er := hm
  exact q_ret (T := []) dm (ev_ratio (ea_cons (ev_op (od_mul (K := K)) (ev_ixR0 (ev_var ts h_one rfl)) (ev_ixR0 (ev_var ts h_other rfl))) (ea_cons (ev_op (od_mul (K := K)) (ev_ixR1 (ev_var ts h_one rfl)) (ev_ixR1 (ev_var ts h_other rfl))) ea_nil))) er (fun v H1 s1 hv => q v H1 (fr0.trans (Fr.same s1)).toSame ((tRat : Ty K Rat).sub (S := S) (H := H1) sub0 hv))
def m_divided (d_one : Rat) (d_other : Rat) : Option Rat :=
  (bd (bd (bd (bd (some d_one) fun x => some x.num) fun x => bd (bd (some d_other) fun x => some (x.den : Int)) fun y => mul? x y) fun x => bd (bd (bd (bd (some d_one) fun x => some (x.den : Int)) fun x => bd (bd (some d_other) fun x => some x.num) fun y => mul? x y) fun x => bd (some ()) fun y => some (x, y)) fun y => some (x, y)) fun a => ratio? a.1 a.2.1)
abbrev sp_divided (K : PySem.W.Frag) : Sp := spF (K := K) (aCons tRat (aCons tRat aNil)) (fun S => of (K := K) tRat S) (fun a => m_divided a.1 a.2.1)
theorem ok_divided (ev : Env K mg) : FnOk P w K mg base CX0 3 ev.f_divided ev.d_divided p_divided (sp_divided K) := by
  refine ev.A_divided.F.ok sc_divided (fun vs H Q E h => ?_) (fun cdv A outer s H0 vs Q E hr h => ?_)
  · obtain ⟨S, ⟨d_one, d_other, _⟩, y, _, ⟨v_one, _, rfl, h_one, v_other, _, rfl, h_other, rfl⟩, _⟩ := h
    rfl
  obtain ⟨S, ⟨d_one, d_other, _⟩, y, dm, ⟨v_one, _, rfl, h_one, v_other, _, rfl, h_other, rfl⟩, hm, q⟩ := h
  have ts : Sub [] S := fun a m => by simp at m
  have fr0 := Fr.refl (T := []) H0
  have sub0 : Sub S S := fun a m => m
  refine ⟨_, (pss_one (ps_ret (pe_callS (ok_ratio ev) (hr.mono (by decide)) (by rfl) ev.A_ratio.m ev.A_ratio.F.kp ev.A_ratio.b (fun σ => passAt takes0 σ) (pa_cons (pe_op op_mulW (pe_ix ix_tup (pv 0) pe_int (fun _ _ => rfl)) (pe_ix ix_tup (pv 1) pe_int (fun _ _ => rfl))) (pa_cons (pe_op op_mulW (pe_ix ix_tup (pv 0) pe_int (fun _ _ => rfl)) (pe_ix ix_tup (pv 1) pe_int (fun _ _ => rfl))) pa_nil))))), ?_⟩
  dsimp only [m_divided] at hm
  have er := hm
  exact q_ret (T := []) dm (ev_ratio (ea_cons (ev_op (od_mul (K := K)) (ev_ixR0 (ev_var ts h_one rfl)) (ev_ixR1 (ev_var ts h_other rfl))) (ea_cons (ev_op (od_mul (K := K)) (ev_ixR1 (ev_var ts h_one rfl)) (ev_ixR0 (ev_var ts h_other rfl))) ea_nil))) er (fun v H1 s1 hv => q v H1 (fr0.trans (Fr.same s1)).toSame ((tRat : Ty K Rat).sub (S := S) (H := H1) sub0 hv))
def m_order (d_one : Rat) (d_other : Rat) : Option Int :=
  (bd (bd (bd (bd (some d_one) fun x => some x.num) fun x => bd (bd (some d_other) fun x => some (x.den : Int)) fun y => mul? x y) fun x => bd (bd (bd (some d_other) fun x => some x.num) fun x => bd (bd (some d_one) fun x => some (x.den : Int)) fun y => mul? x y) fun y => some (x - y)) fun gap_1 => (bd (bd (some gap_1) fun x => bd (some (0 : Int)) fun y => some (decide (x < y))) fun c2 => if c2 then (bd (some (1 : Int)) fun x => some (-x)) else (bd (bd (some gap_1) fun x => bd (some (0 : Int)) fun y => some (decide (y < x))) fun c3 => if c3 then (some (1 : Int)) else (some (0 : Int)))))
abbrev sp_order (K : PySem.W.Frag) : Sp := spF (K := K) (aCons tRat (aCons tRat aNil)) (fun S => of (K := K) tInt S) (fun a => m_order a.1 a.2.1)
theorem ok_order (ev : Env K mg) : FnOk P w K mg base CX0 1 ev.f_order ev.d_order p_order (sp_order K) := by
  refine ev.A_order.F.ok sc_order (fun vs H Q E h => ?_) (fun cdv A outer s H0 vs Q E hr h => ?_)
  · obtain ⟨S, ⟨d_one, d_other, _⟩, y, _, ⟨v_one, _, rfl, h_one, v_other, _, rfl, h_other, rfl⟩, _⟩ := h
    rfl
  obtain ⟨S, ⟨d_one, d_other, _⟩, y, dm, ⟨v_one, _, rfl, h_one, v_other, _, rfl, h_other, rfl⟩, hm, q⟩ := h
  have ts : Sub [] S := fun a m => by simp at m
  have fr0 := Fr.refl (T := []) H0
  have sub0 : Sub S S := fun a m => m
  refine ⟨_, (pss_cons (ps_set (i := 2) sc_order.nd rfl (Or.inl rfl) (pe_op op_sub (pe_op op_mulW (pe_ix ix_tup (pv 0) pe_int (fun _ _ => rfl)) (pe_ix ix_tup (pv 1) pe_int (fun _ _ => rfl))) (pe_op op_mulW (pe_ix ix_tup (pv 1) pe_int (fun _ _ => rfl)) (pe_ix ix_tup (pv 0) pe_int (fun _ _ => rfl)))))
    (pss_cons (ps_if (pt_cmpR op_lt (pv 2) pe_int (nomark _))
    (pss_one (ps_ret (pe_un un_neg pe_int))) pss_nil)
    (pss_cons (ps_if (pt_cmpR op_gt (pv 2) pe_int (nomark _))
    (pss_one (ps_ret pe_int)) pss_nil)
    (pss_one (ps_ret pe_int))))), ?_⟩
  dsimp only [m_order] at hm
  obtain ⟨gap_1, e1, hm⟩ := bd_some hm
  refine q_asg (T := []) dm (ev_op (od_sub (K := K)) (ev_op (od_mul (K := K)) (ev_ixR0 (ev_var ts h_one rfl)) (ev_ixR1 (ev_var ts h_other rfl))) (ev_op (od_mul (K := K)) (ev_ixR0 (ev_var ts h_other rfl)) (ev_ixR1 (ev_var ts h_one rfl)))) e1 (fun v_gap H1 s1 h_gap => ?_)
  have fr0 := fr0.trans (Fr.same s1)
  have dm := dm.same s1
  have h_one := (tRat : Ty K Rat).mono (S := S) (Fr.same s1) h_one
  have h_other := (tRat : Ty K Rat).mono (S := S) (Fr.same s1) h_other
  have h_gap : (tInt : Ty K Int).rp S H1 v_gap gap_1 := h_gap
  obtain ⟨c2, e2, hm⟩ := bd_some hm
  refine q_if (T := []) dm (eb_test (K := K) (ev_op (od_lt (K := K)) (ev_var ts h_gap rfl) (ev_int (K := K)))) e2 (fun hc H2 s2 => ?_) (fun hc H2 s2 => ?_)
  · skip
    subst hc
    have hm := if_t hm
    have fr0 := fr0.trans (Fr.same s2)
    have dm := dm.same s2
    have h_one := (tRat : Ty K Rat).mono (S := S) (Fr.same s2) h_one
    have h_other := (tRat : Ty K Rat).mono (S := S) (Fr.same s2) h_other
    have h_gap := (tInt : Ty K Int).mono (S := S) (Fr.same s2) h_gap
    have er := hm
    exact q_ret (T := []) dm (ev_neg (ev_int (K := K))) er (fun v H4 s4 hv => q v H4 (fr0.trans (Fr.same s4)).toSame ((tInt : Ty K Int).sub (S := S) (H := H4) sub0 hv))
  subst hc
  have hm := if_f hm
  have fr0 := fr0.trans (Fr.same s2)
  have dm := dm.same s2
  have h_one := (tRat : Ty K Rat).mono (S := S) (Fr.same s2) h_one
  have h_other := (tRat : Ty K Rat).mono (S := S) (Fr.same s2) h_other
  have h_gap := (tInt : Ty K Int).mono (S := S) (Fr.same s2) h_gap
  refine q_next ?_
  obtain ⟨c3, e3, hm⟩ := bd_some hm
  refine q_if (T := []) dm (eb_test (K := K) (ev_op (od_gt (K := K)) (ev_var ts h_gap rfl) (ev_int (K := K)))) e3 (fun hc H3 s3 => ?_) (fun hc H3 s3 => ?_)
  · skip
    subst hc
    have hm := if_t hm
    have fr0 := fr0.trans (Fr.same s3)
    have dm := dm.same s3
    have h_one := (tRat : Ty K Rat).mono (S := S) (Fr.same s3) h_one
    have h_other := (tRat : Ty K Rat).mono (S := S) (Fr.same s3) h_other
    have h_gap := (tInt : Ty K Int).mono (S := S) (Fr.same s3) h_gap
    have er := hm
    exact q_ret (T := []) dm (ev_int (K := K)) er (fun v H5 s5 hv => q v H5 (fr0.trans (Fr.same s5)).toSame ((tInt : Ty K Int).sub (S := S) (H := H5) sub0 hv))
  subst hc
  have hm := if_f hm
  have fr0 := fr0.trans (Fr.same s3)
  have dm := dm.same s3
  have h_one := (tRat : Ty K Rat).mono (S := S) (Fr.same s3) h_one
  have h_other := (tRat : Ty K Rat).mono (S := S) (Fr.same s3) h_other
  have h_gap := (tInt : Ty K Int).mono (S := S) (Fr.same s3) h_gap
  refine q_next ?_
  have er := hm
  exact q_ret (T := []) dm (ev_int (K := K)) er (fun v H6 s6 hv => q v H6 (fr0.trans (Fr.same s6)).toSame ((tInt : Ty K Int).sub (S := S) (H := H6) sub0 hv))
def m_size (d_one : Rat) : Option Rat :=
  (bd (bd (bd (bd (some d_one) fun x => some x.num) fun x => some ((x.natAbs : Nat) : Int)) fun x => bd (bd (some d_one) fun x => some (x.den : Int)) fun y => some (x, y)) p2r)
abbrev sp_size (K : PySem.W.Frag) : Sp := spF (K := K) (aCons tRat aNil) (fun S => of (K := K) tRat S) (fun a => m_size a.1)
theorem ok_size (ev : Env K mg) : FnOk P w K mg base CX0 1 ev.f_size ev.d_size p_size (sp_size K) := by
  refine ev.A_size.F.ok sc_size (fun vs H Q E h => ?_) (fun cdv A outer s H0 vs Q E hr h => ?_)
  · obtain ⟨S, ⟨d_one, _⟩, y, _, ⟨v_one, _, rfl, h_one, rfl⟩, _⟩ := h
    rfl
  obtain ⟨S, ⟨d_one, _⟩, y, dm, ⟨v_one, _, rfl, h_one, rfl⟩, hm, q⟩ := h
  have ts : Sub [] S := fun a m => by simp at m
  have fr0 := Fr.refl (T := []) H0
  have sub0 : Sub S S := fun a m => m
  refine ⟨_, (pss_one (ps_ret (pe_tup (pa_cons (pe_callB call_abs (by rfl) ev.B.abs_ (by decide +kernel) (pa_cons (pe_ix ix_tup (pv 0) pe_int (fun _ _ => rfl)) pa_nil)) (pa_cons (pe_ix ix_tup (pv 0) pe_int (fun _ _ => rfl)) pa_nil))))), ?_⟩
  dsimp only [m_size] at hm
  have er := hm
  exact q_ret (T := []) dm (ev_p2r (ev_tup2 (ev_abs (ev_ixR0 (ev_var ts h_one rfl))) (ev_ixR1 (ev_var ts h_one rfl)))) er (fun v H1 s1 hv => q v H1 (fr0.trans (Fr.same s1)).toSame ((tRat : Ty K Rat).sub (S := S) (H := H1) sub0 hv))
def m_lesser (d_one : Rat) (d_other : Rat) : Option Rat :=
  (bd (bd (bd (bd (some d_one) fun x => bd (bd (some d_other) fun x => bd (some ()) fun y => some (x, y)) fun y => some (x, y)) fun a => m_order a.1 a.2.1) fun x => bd (some (0 : Int)) fun y => some (decide (x < y))) fun x => if x then (some d_one) else (some d_other))
abbrev sp_lesser (K : PySem.W.Frag) : Sp := spF (K := K) (aCons tRat (aCons tRat aNil)) (fun S => of (K := K) tRat S) (fun a => m_lesser a.1 a.2.1)
theorem ok_lesser (ev : Env K mg) : FnOk P w K mg base CX0 2 ev.f_lesser ev.d_lesser p_lesser (sp_lesser K) := by
  refine ev.A_lesser.F.ok sc_lesser (fun vs H Q E h => ?_) (fun cdv A outer s H0 vs Q E hr h => ?_)
  · obtain ⟨S, ⟨d_one, d_other, _⟩, y, _, ⟨v_one, _, rfl, h_one, v_other, _, rfl, h_other, rfl⟩, _⟩ := h
    rfl
  obtain ⟨S, ⟨d_one, d_other, _⟩, y, dm, ⟨v_one, _, rfl, h_one, v_other, _, rfl, h_other, rfl⟩, hm, q⟩ := h
  have ts : Sub [] S := fun a m => by simp at m
  have fr0 := Fr.refl (T := []) H0
  have sub0 : Sub S S := fun a m => m
  refine ⟨_, (pss_one (ps_ret (pe_ifExp (pt_cmpR op_lt (pe_call (ok_order ev) (hr.mono (by decide)) (by rfl) ev.A_order.m ev.A_order.F.kp ev.A_order.b .nil pass0 (pa_cons (pv 0) (pa_cons (pv 1) pa_nil))) pe_int (nomark _)) (pv 0) (pv 1)))), ?_⟩
  dsimp only [m_lesser] at hm
  have er := hm
  exact q_ret (T := []) dm (ev_if (eb_test (K := K) (ev_op (od_lt (K := K)) (ev_call (ea_cons (ev_var ts h_one rfl) (ea_cons (ev_var ts h_other rfl) ea_nil))) (ev_int (K := K)))) (ev_var ts h_one rfl) (ev_var ts h_other rfl)) er (fun v H1 s1 hv => q v H1 (fr0.trans (Fr.same s1)).toSame ((tRat : Ty K Rat).sub (S := S) (H := H1) sub0 hv))
def m_greater (d_one : Rat) (d_other : Rat) : Option Rat :=
  (bd (bd (bd (bd (some d_one) fun x => bd (bd (some d_other) fun x => bd (some ()) fun y => some (x, y)) fun y => some (x, y)) fun a => m_order a.1 a.2.1) fun x => bd (some (0 : Int)) fun y => some (decide (y < x))) fun x => if x then (some d_one) else (some d_other))
abbrev sp_greater (K : PySem.W.Frag) : Sp := spF (K := K) (aCons tRat (aCons tRat aNil)) (fun S => of (K := K) tRat S) (fun a => m_greater a.1 a.2.1)
theorem ok_greater (ev : Env K mg) : FnOk P w K mg base CX0 2 ev.f_greater ev.d_greater p_greater (sp_greater K) := by
  refine ev.A_greater.F.ok sc_greater (fun vs H Q E h => ?_) (fun cdv A outer s H0 vs Q E hr h => ?_)
  · obtain ⟨S, ⟨d_one, d_other, _⟩, y, _, ⟨v_one, _, rfl, h_one, v_other, _, rfl, h_other, rfl⟩, _⟩ := h
    rfl
  obtain ⟨S, ⟨d_one, d_other, _⟩, y, dm, ⟨v_one, _, rfl, h_one, v_other, _, rfl, h_other, rfl⟩, hm, q⟩ := h
  have ts : Sub [] S := fun a m => by simp at m
  have fr0 := Fr.refl (T := []) H0
  have sub0 : Sub S S := fun a m => m
  refine ⟨_, (pss_one (ps_ret (pe_ifExp (pt_cmpR op_gt (pe_call (ok_order ev) (hr.mono (by decide)) (by rfl) ev.A_order.m ev.A_order.F.kp ev.A_order.b .nil pass0 (pa_cons (pv 0) (pa_cons (pv 1) pa_nil))) pe_int (nomark _)) (pv 0) (pv 1)))), ?_⟩
  dsimp only [m_greater] at hm
  have er := hm
  exact q_ret (T := []) dm (ev_if (eb_test (K := K) (ev_op (od_gt (K := K)) (ev_call (ea_cons (ev_var ts h_one rfl) (ea_cons (ev_var ts h_other rfl) ea_nil))) (ev_int (K := K)))) (ev_var ts h_one rfl) (ev_var ts h_other rfl)) er (fun v H1 s1 hv => q v H1 (fr0.trans (Fr.same s1)).toSame ((tRat : Ty K Rat).sub (S := S) (H := H1) sub0 hv))
def m_longer_way (d_start : (Rat × Rat)) (d_end : (Rat × Rat)) : Option Int :=
  (bd (bd (bd (bd (bd (bd (some d_end) fun x => some x.1) fun x => bd (bd (bd (some d_start) fun x => some x.1) fun x => bd (some ()) fun y => some (x, y)) fun y => some (x, y)) fun a => m_minus a.1 a.2.1) fun x => bd (some ()) fun y => some (x, y)) fun a => m_size a.1) fun across_1 => (bd (bd (bd (bd (bd (bd (some d_end) fun x => some x.2) fun x => bd (bd (bd (some d_start) fun x => some x.2) fun x => bd (some ()) fun y => some (x, y)) fun y => some (x, y)) fun a => m_minus a.1 a.2.1) fun x => bd (some ()) fun y => some (x, y)) fun a => m_size a.1) fun up_2 => (bd (bd (bd (bd (some across_1) fun x => bd (bd (some up_2) fun x => bd (some ()) fun y => some (x, y)) fun y => some (x, y)) fun a => m_order a.1 a.2.1) fun x => bd (some (0 : Int)) fun y => some (decide (x < y))) fun x => if x then (some (1 : Int)) else (some (0 : Int)))))
abbrev sp_longer_way (K : PySem.W.Frag) : Sp := spF (K := K) (aCons (tT2 tRat tRat) (aCons (tT2 tRat tRat) aNil)) (fun S => of (K := K) tInt S) (fun a => m_longer_way a.1 a.2.1)
theorem ok_longer_way (ev : Env K mg) : FnOk P w K mg base CX0 4 ev.f_longer_way ev.d_longer_way p_longer_way (sp_longer_way K) := by
  refine ev.A_longer_way.F.ok sc_longer_way (fun vs H Q E h => ?_) (fun cdv A outer s H0 vs Q E hr h => ?_)
  · obtain ⟨S, ⟨d_start, d_end, _⟩, y, _, ⟨v_start, _, rfl, h_start, v_end, _, rfl, h_end, rfl⟩, _⟩ := h
    rfl
  obtain ⟨S, ⟨d_start, d_end, _⟩, y, dm, ⟨v_start, _, rfl, h_start, v_end, _, rfl, h_end, rfl⟩, hm, q⟩ := h
  have ts : Sub [] S := fun a m => by simp at m
  have fr0 := Fr.refl (T := []) H0
  have sub0 : Sub S S := fun a m => m
  refine ⟨_, (pss_cons (ps_set (i := 2) sc_longer_way.nd rfl (Or.inl rfl) (pe_call (ok_size ev) (hr.mono (by decide)) (by rfl) ev.A_size.m ev.A_size.F.kp ev.A_size.b .nil pass0 (pa_cons (pe_call (ok_minus ev) (hr.mono (by decide)) (by rfl) ev.A_minus.m ev.A_minus.F.kp ev.A_minus.b .nil pass0 (pa_cons (pe_ix ix_tup (pv 1) pe_int (fun _ _ => rfl)) (pa_cons (pe_ix ix_tup (pv 0) pe_int (fun _ _ => rfl)) pa_nil))) pa_nil)))
    (pss_cons (ps_set (i := 3) sc_longer_way.nd rfl (Or.inl rfl) (pe_call (ok_size ev) (hr.mono (by decide)) (by rfl) ev.A_size.m ev.A_size.F.kp ev.A_size.b .nil pass0 (pa_cons (pe_call (ok_minus ev) (hr.mono (by decide)) (by rfl) ev.A_minus.m ev.A_minus.F.kp ev.A_minus.b .nil pass0 (pa_cons (pe_ix ix_tup (pv 1) pe_int (fun _ _ => rfl)) (pa_cons (pe_ix ix_tup (pv 0) pe_int (fun _ _ => rfl)) pa_nil))) pa_nil)))
    (pss_one (ps_ret (pe_ifExp (pt_cmpR op_lt (pe_call (ok_order ev) (hr.mono (by decide)) (by rfl) ev.A_order.m ev.A_order.F.kp ev.A_order.b .nil pass0 (pa_cons (pv 2) (pa_cons (pv 3) pa_nil))) pe_int (nomark _)) pe_int pe_int))))), ?_⟩
  dsimp only [m_longer_way] at hm
  obtain ⟨across_1, e1, hm⟩ := bd_some hm
  refine q_asg (T := []) dm (ev_call (ea_cons (ev_call (ea_cons (ev_ix20 (ev_var ts h_end rfl)) (ea_cons (ev_ix20 (ev_var ts h_start rfl)) ea_nil))) ea_nil)) e1 (fun v_across H1 s1 h_across => ?_)
  have fr0 := fr0.trans (Fr.same s1)
  have dm := dm.same s1
  have h_start := ((tT2 tRat tRat) : Ty K (Rat × Rat)).mono (S := S) (Fr.same s1) h_start
  have h_end := ((tT2 tRat tRat) : Ty K (Rat × Rat)).mono (S := S) (Fr.same s1) h_end
  have h_across : (tRat : Ty K Rat).rp S H1 v_across across_1 := h_across
  obtain ⟨up_2, e2, hm⟩ := bd_some hm
  refine q_asg (T := []) dm (ev_call (ea_cons (ev_call (ea_cons (ev_ix21 (ev_var ts h_end rfl)) (ea_cons (ev_ix21 (ev_var ts h_start rfl)) ea_nil))) ea_nil)) e2 (fun v_up H2 s2 h_up => ?_)
  have fr0 := fr0.trans (Fr.same s2)
  have dm := dm.same s2
  have h_start := ((tT2 tRat tRat) : Ty K (Rat × Rat)).mono (S := S) (Fr.same s2) h_start
  have h_end := ((tT2 tRat tRat) : Ty K (Rat × Rat)).mono (S := S) (Fr.same s2) h_end
  have h_across := (tRat : Ty K Rat).mono (S := S) (Fr.same s2) h_across
  have h_up : (tRat : Ty K Rat).rp S H2 v_up up_2 := h_up
  have er := hm
  exact q_ret (T := []) dm (ev_if (eb_test (K := K) (ev_op (od_lt (K := K)) (ev_call (ea_cons (ev_var ts h_across rfl) (ea_cons (ev_var ts h_up rfl) ea_nil))) (ev_int (K := K)))) (ev_int (K := K)) (ev_int (K := K))) er (fun v H3 s3 hv => q v H3 (fr0.trans (Fr.same s3)).toSame ((tInt : Ty K Int).sub (S := S) (H := H3) sub0 hv))
def m_slope_of (d_start : (Rat × Rat)) (d_end : (Rat × Rat)) (d_way : Int) : Option Rat :=
  (bd (bd (some d_start) fun x => bd (some d_end) fun y => some (decide (x = y))) fun c1 => if c1 then (some (0 : Rat)) else (bd (bd (bd (bd (bd (some d_end) fun x => bd (bd (some (1 : Int)) fun x => bd (some d_way) fun y => some (x - y)) fun y => at2 x y) fun x => bd (bd (bd (some d_start) fun x => bd (bd (some (1 : Int)) fun x => bd (some d_way) fun y => some (x - y)) fun y => at2 x y) fun x => bd (some ()) fun y => some (x, y)) fun y => some (x, y)) fun a => m_minus a.1 a.2.1) fun x => bd (bd (bd (bd (bd (some d_end) fun x => bd (some d_way) fun y => at2 x y) fun x => bd (bd (bd (some d_start) fun x => bd (some d_way) fun y => at2 x y) fun x => bd (some ()) fun y => some (x, y)) fun y => some (x, y)) fun a => m_minus a.1 a.2.1) fun x => bd (some ()) fun y => some (x, y)) fun y => some (x, y)) fun a => m_divided a.1 a.2.1))
abbrev sp_slope_of (K : PySem.W.Frag) : Sp := spF (K := K) (aCons (tT2 tRat tRat) (aCons (tT2 tRat tRat) (aCons tInt aNil))) (fun S => of (K := K) tRat S) (fun a => m_slope_of a.1 a.2.1 a.2.2.1)
theorem ok_slope_of (ev : Env K mg) : FnOk P w K mg base CX0 4 ev.f_slope_of ev.d_slope_of p_slope_of (sp_slope_of K) := by
  refine ev.A_slope_of.F.ok sc_slope_of (fun vs H Q E h => ?_) (fun cdv A outer s H0 vs Q E hr h => ?_)
  · obtain ⟨S, ⟨d_start, d_end, d_way, _⟩, y, _, ⟨v_start, _, rfl, h_start, v_end, _, rfl, h_end, v_way, _, rfl, h_way, rfl⟩, _⟩ := h
    rfl
  obtain ⟨S, ⟨d_start, d_end, d_way, _⟩, y, dm, ⟨v_start, _, rfl, h_start, v_end, _, rfl, h_end, v_way, _, rfl, h_way, rfl⟩, hm, q⟩ := h
  have ts : Sub [] S := fun a m => by simp at m
  have fr0 := Fr.refl (T := []) H0
  have sub0 : Sub S S := fun a m => m
  refine ⟨_, (pss_cons (ps_if (pt_cmpR (op_eqD hr.units) (pv 0) (pv 1) (nomark _))
    (pss_one (ps_ret (pe_glob (v := .ref ev.a_NOUGHT) (by rfl) ev.c_NOUGHT rfl))) pss_nil)
    (pss_one (ps_ret (pe_call (ok_divided ev) (hr.mono (by decide)) (by rfl) ev.A_divided.m ev.A_divided.F.kp ev.A_divided.b .nil pass0 (pa_cons (pe_call (ok_minus ev) (hr.mono (by decide)) (by rfl) ev.A_minus.m ev.A_minus.F.kp ev.A_minus.b .nil pass0 (pa_cons (pe_ix ix_tup (pv 1) (pe_op op_sub pe_int (pv 2)) (fun _ _ => rfl)) (pa_cons (pe_ix ix_tup (pv 0) (pe_op op_sub pe_int (pv 2)) (fun _ _ => rfl)) pa_nil))) (pa_cons (pe_call (ok_minus ev) (hr.mono (by decide)) (by rfl) ev.A_minus.m ev.A_minus.F.kp ev.A_minus.b .nil pass0 (pa_cons (pe_ix ix_tup (pv 1) (pv 2) (fun _ _ => rfl)) (pa_cons (pe_ix ix_tup (pv 0) (pv 2) (fun _ _ => rfl)) pa_nil))) pa_nil)))))), ?_⟩
  dsimp only [m_slope_of] at hm
  obtain ⟨c1, e1, hm⟩ := bd_some hm
  refine q_if (T := []) dm (eb_test (K := K) (ev_op (od_eqD (K := K) (dT2 dRat dRat) (Nat.le_of_ble_eq_true rfl)) (ev_var ts h_start rfl) (ev_var ts h_end rfl))) e1 (fun hc H1 s1 => ?_) (fun hc H1 s1 => ?_)
  · skip
    subst hc
    have hm := if_t hm
    have fr0 := fr0.trans (Fr.same s1)
    have dm := dm.same s1
    have h_start := ((tT2 tRat tRat) : Ty K (Rat × Rat)).mono (S := S) (Fr.same s1) h_start
    have h_end := ((tT2 tRat tRat) : Ty K (Rat × Rat)).mono (S := S) (Fr.same s1) h_end
    have h_way := (tInt : Ty K Int).mono (S := S) (Fr.same s1) h_way
    have er := hm
    exact q_ret (T := []) dm (ev_c (a := tRat) fun H => ⟨_, rfl, .inr (ev.q_NOUGHT _)⟩) er (fun v H2 s2 hv => q v H2 (fr0.trans (Fr.same s2)).toSame ((tRat : Ty K Rat).sub (S := S) (H := H2) sub0 hv))
  subst hc
  have hm := if_f hm
  have fr0 := fr0.trans (Fr.same s1)
  have dm := dm.same s1
  have h_start := ((tT2 tRat tRat) : Ty K (Rat × Rat)).mono (S := S) (Fr.same s1) h_start
  have h_end := ((tT2 tRat tRat) : Ty K (Rat × Rat)).mono (S := S) (Fr.same s1) h_end
  have h_way := (tInt : Ty K Int).mono (S := S) (Fr.same s1) h_way
  refine q_next ?_
  have er := hm
  exact q_ret (T := []) dm (ev_call (ea_cons (ev_call (ea_cons (ev_op od_ix2 (ev_var ts h_end rfl) (ev_op (od_sub (K := K)) (ev_int (K := K)) (ev_var ts h_way rfl))) (ea_cons (ev_op od_ix2 (ev_var ts h_start rfl) (ev_op (od_sub (K := K)) (ev_int (K := K)) (ev_var ts h_way rfl))) ea_nil))) (ea_cons (ev_call (ea_cons (ev_op od_ix2 (ev_var ts h_end rfl) (ev_var ts h_way rfl)) (ea_cons (ev_op od_ix2 (ev_var ts h_start rfl) (ev_var ts h_way rfl)) ea_nil))) ea_nil))) er (fun v H3 s3 hv => q v H3 (fr0.trans (Fr.same s3)).toSame ((tRat : Ty K Rat).sub (S := S) (H := H3) sub0 hv))
def m_aside (d_start : (Rat × Rat)) (d_slope : Rat) (d_way : Int) (d_spot : (Rat × Rat)) : Option Rat :=
  (bd (bd (bd (bd (some d_start) fun x => bd (bd (some (1 : Int)) fun x => bd (some d_way) fun y => some (x - y)) fun y => at2 x y) fun x => bd (bd (bd (bd (some d_slope) fun x => bd (bd (bd (bd (bd (some d_spot) fun x => bd (some d_way) fun y => at2 x y) fun x => bd (bd (bd (some d_start) fun x => bd (some d_way) fun y => at2 x y) fun x => bd (some ()) fun y => some (x, y)) fun y => some (x, y)) fun a => m_minus a.1 a.2.1) fun x => bd (some ()) fun y => some (x, y)) fun y => some (x, y)) fun a => m_times a.1 a.2.1) fun x => bd (some ()) fun y => some (x, y)) fun y => some (x, y)) fun a => m_plus a.1 a.2.1) fun at_1 => (bd (bd (bd (bd (bd (some d_spot) fun x => bd (bd (some (1 : Int)) fun x => bd (some d_way) fun y => some (x - y)) fun y => at2 x y) fun x => bd (bd (some at_1) fun x => bd (some ()) fun y => some (x, y)) fun y => some (x, y)) fun a => m_minus a.1 a.2.1) fun x => bd (some ()) fun y => some (x, y)) fun a => m_size a.1))
abbrev sp_aside (K : PySem.W.Frag) : Sp := spF (K := K) (aCons (tT2 tRat tRat) (aCons tRat (aCons tInt (aCons (tT2 tRat tRat) aNil)))) (fun S => of (K := K) tRat S) (fun a => m_aside a.1 a.2.1 a.2.2.1 a.2.2.2.1)
theorem ok_aside (ev : Env K mg) : FnOk P w K mg base CX0 4 ev.f_aside ev.d_aside p_aside (sp_aside K) := by
  refine ev.A_aside.F.ok sc_aside (fun vs H Q E h => ?_) (fun cdv A outer s H0 vs Q E hr h => ?_)
  · obtain ⟨S, ⟨d_start, d_slope, d_way, d_spot, _⟩, y, _, ⟨v_start, _, rfl, h_start, v_slope, _, rfl, h_slope, v_way, _, rfl, h_way, v_spot, _, rfl, h_spot, rfl⟩, _⟩ := h
    rfl
  obtain ⟨S, ⟨d_start, d_slope, d_way, d_spot, _⟩, y, dm, ⟨v_start, _, rfl, h_start, v_slope, _, rfl, h_slope, v_way, _, rfl, h_way, v_spot, _, rfl, h_spot, rfl⟩, hm, q⟩ := h
  have ts : Sub [] S := fun a m => by simp at m
  have fr0 := Fr.refl (T := []) H0
  have sub0 : Sub S S := fun a m => m
  refine ⟨_, (pss_cons (ps_set (i := 4) sc_aside.nd rfl (Or.inl rfl) (pe_call (ok_plus ev) (hr.mono (by decide)) (by rfl) ev.A_plus.m ev.A_plus.F.kp ev.A_plus.b .nil pass0 (pa_cons (pe_ix ix_tup (pv 0) (pe_op op_sub pe_int (pv 2)) (fun _ _ => rfl)) (pa_cons (pe_call (ok_times ev) (hr.mono (by decide)) (by rfl) ev.A_times.m ev.A_times.F.kp ev.A_times.b .nil pass0 (pa_cons (pv 1) (pa_cons (pe_call (ok_minus ev) (hr.mono (by decide)) (by rfl) ev.A_minus.m ev.A_minus.F.kp ev.A_minus.b .nil pass0 (pa_cons (pe_ix ix_tup (pv 3) (pv 2) (fun _ _ => rfl)) (pa_cons (pe_ix ix_tup (pv 0) (pv 2) (fun _ _ => rfl)) pa_nil))) pa_nil))) pa_nil))))
    (pss_one (ps_ret (pe_call (ok_size ev) (hr.mono (by decide)) (by rfl) ev.A_size.m ev.A_size.F.kp ev.A_size.b .nil pass0 (pa_cons (pe_call (ok_minus ev) (hr.mono (by decide)) (by rfl) ev.A_minus.m ev.A_minus.F.kp ev.A_minus.b .nil pass0 (pa_cons (pe_ix ix_tup (pv 3) (pe_op op_sub pe_int (pv 2)) (fun _ _ => rfl)) (pa_cons (pv 4) pa_nil))) pa_nil))))), ?_⟩
  dsimp only [m_aside] at hm
  obtain ⟨at_1, e1, hm⟩ := bd_some hm
  refine q_asg (T := []) dm (ev_call (ea_cons (ev_op od_ix2 (ev_var ts h_start rfl) (ev_op (od_sub (K := K)) (ev_int (K := K)) (ev_var ts h_way rfl))) (ea_cons (ev_call (ea_cons (ev_var ts h_slope rfl) (ea_cons (ev_call (ea_cons (ev_op od_ix2 (ev_var ts h_spot rfl) (ev_var ts h_way rfl)) (ea_cons (ev_op od_ix2 (ev_var ts h_start rfl) (ev_var ts h_way rfl)) ea_nil))) ea_nil))) ea_nil))) e1 (fun v_at H1 s1 h_at => ?_)
  have fr0 := fr0.trans (Fr.same s1)
  have dm := dm.same s1
  have h_start := ((tT2 tRat tRat) : Ty K (Rat × Rat)).mono (S := S) (Fr.same s1) h_start
  have h_slope := (tRat : Ty K Rat).mono (S := S) (Fr.same s1) h_slope
  have h_way := (tInt : Ty K Int).mono (S := S) (Fr.same s1) h_way
  have h_spot := ((tT2 tRat tRat) : Ty K (Rat × Rat)).mono (S := S) (Fr.same s1) h_spot
  have h_at : (tRat : Ty K Rat).rp S H1 v_at at_1 := h_at
  have er := hm
  exact q_ret (T := []) dm (ev_call (ea_cons (ev_call (ea_cons (ev_op od_ix2 (ev_var ts h_spot rfl) (ev_op (od_sub (K := K)) (ev_int (K := K)) (ev_var ts h_way rfl))) (ea_cons (ev_var ts h_at rfl) ea_nil))) ea_nil)) er (fun v H2 s2 hv => q v H2 (fr0.trans (Fr.same s2)).toSame ((tRat : Ty K Rat).sub (S := S) (H := H2) sub0 hv))
def m_may_pass (d_row : (List (Rat × Rat))) (d_first : Int) (d_last : Int) (d_tolerance : Int) : Option Bool :=
  (bd (bd (some d_row) fun x => bd (some d_first) fun y => atI x y) fun start_1 => (bd (bd (some d_row) fun x => bd (some d_last) fun y => atI x y) fun end_2 => (bd (bd (bd (some start_1) fun x => bd (bd (some end_2) fun x => bd (some ()) fun y => some (x, y)) fun y => some (x, y)) fun a => m_longer_way a.1 a.2.1) fun way_3 => (bd (bd (bd (bd (some start_1) fun x => bd (some way_3) fun y => at2 x y) fun x => bd (bd (bd (some end_2) fun x => bd (some way_3) fun y => at2 x y) fun x => bd (some ()) fun y => some (x, y)) fun y => some (x, y)) fun a => m_lesser a.1 a.2.1) fun low_4 => (bd (bd (bd (bd (some start_1) fun x => bd (some way_3) fun y => at2 x y) fun x => bd (bd (bd (some end_2) fun x => bd (some way_3) fun y => at2 x y) fun x => bd (some ()) fun y => some (x, y)) fun y => some (x, y)) fun a => m_greater a.1 a.2.1) fun high_5 => (bd (bd (bd (some start_1) fun x => bd (bd (some end_2) fun x => bd (bd (some way_3) fun x => bd (some ()) fun y => some (x, y)) fun y => some (x, y)) fun y => some (x, y)) fun a => m_slope_of a.1 a.2.1 a.2.2.1) fun slope_6 => (bd (bd (some d_row) fun xs => bd (bd (bd (some d_first) fun x => bd (some (1 : Int)) fun y => some (x + y)) fun i => some (some i)) fun l => bd (bd (some d_last) fun i => some (some i)) fun h => some (cutD xs l h)) fun xs10 => bd (loopC (ρ := Bool) (fun s_7 spot_7 => (bd (bd (bd (bd (bd (bd (some spot_7) fun x => bd (some way_3) fun y => at2 x y) fun x => bd (bd (some low_4) fun x => bd (some ()) fun y => some (x, y)) fun y => some (x, y)) fun a => m_order a.1 a.2.1) fun x => bd (some (0 : Int)) fun y => some (decide (x < y))) fun x => if x then some true else (bd (bd (bd (bd (some spot_7) fun x => bd (some way_3) fun y => at2 x y) fun x => bd (bd (some high_5) fun x => bd (some ()) fun y => some (x, y)) fun y => some (x, y)) fun a => m_order a.1 a.2.1) fun x => bd (some (0 : Int)) fun y => some (decide (y < x)))) fun c8 => if c8 then (bd (some false) fun y => some (Ct.ret y)) else (bd (bd (bd (bd (bd (bd (some start_1) fun x => bd (bd (some slope_6) fun x => bd (bd (some way_3) fun x => bd (bd (some spot_7) fun x => bd (some ()) fun y => some (x, y)) fun y => some (x, y)) fun y => some (x, y)) fun y => some (x, y)) fun a => m_aside a.1 a.2.1 a.2.2.1 a.2.2.2.1) fun x => bd (bd (bd (bd (some d_tolerance) fun x => bd (some (1 : Int)) fun y => some (x, y)) p2r) fun x => bd (some ()) fun y => some (x, y)) fun y => some (x, y)) fun a => m_order a.1 a.2.1) fun x => bd (some (0 : Int)) fun y => some (decide (y < x))) fun c9 => if c9 then (bd (some false) fun y => some (Ct.ret y)) else some (Ct.go ())))) xs10 ()) fun r_7 => match r_7 with | .ret y => some y | .go t_7 => (some true) | .brk _ => none)))))))
abbrev sp_may_pass (K : PySem.W.Frag) : Sp := spF (K := K) (aCons (tL (tT2 tRat tRat)) (aCons tInt (aCons tInt (aCons tInt aNil)))) (fun S => of (K := K) tBool S) (fun a => m_may_pass a.1 a.2.1 a.2.2.1 a.2.2.2.1)
theorem ok_may_pass (ev : Env K mg) : FnOk P w K mg base CX0 5 ev.f_may_pass ev.d_may_pass p_may_pass (sp_may_pass K) := by
  refine ev.A_may_pass.F.ok sc_may_pass (fun vs H Q E h => ?_) (fun cdv A outer s H0 vs Q E hr h => ?_)
  · obtain ⟨S, ⟨d_row, d_first, d_last, d_tolerance, _⟩, y, _, ⟨v_row, _, rfl, h_row, v_first, _, rfl, h_first, v_last, _, rfl, h_last, v_tolerance, _, rfl, h_tolerance, rfl⟩, _⟩ := h
    rfl
  obtain ⟨S, ⟨d_row, d_first, d_last, d_tolerance, _⟩, y, dm, ⟨v_row, _, rfl, h_row, v_first, _, rfl, h_first, v_last, _, rfl, h_last, v_tolerance, _, rfl, h_tolerance, rfl⟩, hm, q⟩ := h
  have ts : Sub [] S := fun a m => by simp at m
  have fr0 := Fr.refl (T := []) H0
  have sub0 : Sub S S := fun a m => m
  refine ⟨_, (pss_cons (ps_par (i := 4) (j := 5) (by rfl) sc_may_pass.nd rfl rfl (by decide) rfl rfl (pa_cons (pe_ix ix_list (pv 0) (pv 1) (fun _ _ => rfl)) (pa_cons (pe_ix ix_list (pv 0) (pv 2) (fun _ _ => rfl)) pa_nil)) (by rfl))
    (pss_cons (ps_set (i := 6) sc_may_pass.nd rfl (Or.inl rfl) (pe_call (ok_longer_way ev) (hr.mono (by decide)) (by rfl) ev.A_longer_way.m ev.A_longer_way.F.kp ev.A_longer_way.b .nil pass0 (pa_cons (pv 4) (pa_cons (pv 5) pa_nil))))
    (pss_cons (ps_par (i := 7) (j := 8) (by rfl) sc_may_pass.nd rfl rfl (by decide) rfl rfl (pa_cons (pe_call (ok_lesser ev) (hr.mono (by decide)) (by rfl) ev.A_lesser.m ev.A_lesser.F.kp ev.A_lesser.b .nil pass0 (pa_cons (pe_ix ix_tup (pv 4) (pv 6) (fun _ _ => rfl)) (pa_cons (pe_ix ix_tup (pv 5) (pv 6) (fun _ _ => rfl)) pa_nil))) (pa_cons (pe_call (ok_greater ev) (hr.mono (by decide)) (by rfl) ev.A_greater.m ev.A_greater.F.kp ev.A_greater.b .nil pass0 (pa_cons (pe_ix ix_tup (pv 4) (pv 6) (fun _ _ => rfl)) (pa_cons (pe_ix ix_tup (pv 5) (pv 6) (fun _ _ => rfl)) pa_nil))) pa_nil)) (by rfl))
    (pss_cons (ps_set (i := 9) sc_may_pass.nd rfl (Or.inl rfl) (pe_call (ok_slope_of ev) (hr.mono (by decide)) (by rfl) ev.A_slope_of.m ev.A_slope_of.F.kp ev.A_slope_of.b .nil pass0 (pa_cons (pv 4) (pa_cons (pv 5) (pa_cons (pv 6) pa_nil)))))
    (pss_cons (ps_for PassesOwn.never rfl (pi_list (pe_slice sl_list (pv 0) (po_some (pe_op op_add (pv 1) pe_int)) (po_some (pv 2)))) (pg_name (i := 10) sc_may_pass.nd rfl (Or.inl rfl))
    (pss_cons (ps_if (PW.pt (pw_or (pt_cmpR op_lt (pe_call (ok_order ev) (hr.mono (by decide)) (by rfl) ev.A_order.m ev.A_order.F.kp ev.A_order.b .nil pass0 (pa_cons (pe_ix ix_tup (pv 10) (pv 6) (fun _ _ => rfl)) (pa_cons (pv 7) pa_nil))) pe_int (nomark _)) (pw_or1 (pt_cmpR op_gt (pe_call (ok_order ev) (hr.mono (by decide)) (by rfl) ev.A_order.m ev.A_order.F.kp ev.A_order.b .nil pass0 (pa_cons (pe_ix ix_tup (pv 10) (pv 6) (fun _ _ => rfl)) (pa_cons (pv 8) pa_nil))) pe_int (nomark _)))))
    (pss_one (ps_ret pe_bl)) pss_nil)
    (pss_one (ps_if (pt_cmpR op_gt (pe_call (ok_order ev) (hr.mono (by decide)) (by rfl) ev.A_order.m ev.A_order.F.kp ev.A_order.b .nil pass0 (pa_cons (pe_call (ok_aside ev) (hr.mono (by decide)) (by rfl) ev.A_aside.m ev.A_aside.F.kp ev.A_aside.b .nil pass0 (pa_cons (pv 4) (pa_cons (pv 9) (pa_cons (pv 6) (pa_cons (pv 10) pa_nil))))) (pa_cons (pe_tup (pa_cons (pv 3) (pa_cons pe_int pa_nil))) pa_nil))) pe_int (nomark _))
    (pss_one (ps_ret pe_bl)) pss_nil))))
    (pss_one (ps_ret pe_bl))))))), ?_⟩
  dsimp only [m_may_pass] at hm
  obtain ⟨start_1, ea2, hm⟩ := bd_some hm
  obtain ⟨end_2, eb2, hm⟩ := bd_some hm
  refine q_par (T := []) dm (ev_op od_ixL (ev_var ts h_row rfl) (ev_var ts h_first rfl)) ea2 (ev_op od_ixL (ev_var ts h_row rfl) (ev_var ts h_last rfl)) eb2 (fun v_start v_end H2 s2 h_start h_end => ?_)
  have fr0 := fr0.trans (Fr.same s2)
  have dm := dm.same s2
  have h_row := ((tL (tT2 tRat tRat)) : Ty K (List (Rat × Rat))).mono (S := S) (Fr.same s2) h_row
  have h_first := (tInt : Ty K Int).mono (S := S) (Fr.same s2) h_first
  have h_last := (tInt : Ty K Int).mono (S := S) (Fr.same s2) h_last
  have h_tolerance := (tInt : Ty K Int).mono (S := S) (Fr.same s2) h_tolerance
  obtain ⟨way_3, e3, hm⟩ := bd_some hm
  refine q_asg (T := []) dm (ev_call (ea_cons (ev_var ts h_start rfl) (ea_cons (ev_var ts h_end rfl) ea_nil))) e3 (fun v_way H3 s3 h_way => ?_)
  have fr0 := fr0.trans (Fr.same s3)
  have dm := dm.same s3
  have h_row := ((tL (tT2 tRat tRat)) : Ty K (List (Rat × Rat))).mono (S := S) (Fr.same s3) h_row
  have h_first := (tInt : Ty K Int).mono (S := S) (Fr.same s3) h_first
  have h_last := (tInt : Ty K Int).mono (S := S) (Fr.same s3) h_last
  have h_tolerance := (tInt : Ty K Int).mono (S := S) (Fr.same s3) h_tolerance
  have h_start := ((tT2 tRat tRat) : Ty K (Rat × Rat)).mono (S := S) (Fr.same s3) h_start
  have h_end := ((tT2 tRat tRat) : Ty K (Rat × Rat)).mono (S := S) (Fr.same s3) h_end
  have h_way : (tInt : Ty K Int).rp S H3 v_way way_3 := h_way
  obtain ⟨low_4, ea5, hm⟩ := bd_some hm
  obtain ⟨high_5, eb5, hm⟩ := bd_some hm
  refine q_par (T := []) dm (ev_call (ea_cons (ev_op od_ix2 (ev_var ts h_start rfl) (ev_var ts h_way rfl)) (ea_cons (ev_op od_ix2 (ev_var ts h_end rfl) (ev_var ts h_way rfl)) ea_nil))) ea5 (ev_call (ea_cons (ev_op od_ix2 (ev_var ts h_start rfl) (ev_var ts h_way rfl)) (ea_cons (ev_op od_ix2 (ev_var ts h_end rfl) (ev_var ts h_way rfl)) ea_nil))) eb5 (fun v_low v_high H5 s5 h_low h_high => ?_)
  have fr0 := fr0.trans (Fr.same s5)
  have dm := dm.same s5
  have h_row := ((tL (tT2 tRat tRat)) : Ty K (List (Rat × Rat))).mono (S := S) (Fr.same s5) h_row
  have h_first := (tInt : Ty K Int).mono (S := S) (Fr.same s5) h_first
  have h_last := (tInt : Ty K Int).mono (S := S) (Fr.same s5) h_last
  have h_tolerance := (tInt : Ty K Int).mono (S := S) (Fr.same s5) h_tolerance
  have h_start := ((tT2 tRat tRat) : Ty K (Rat × Rat)).mono (S := S) (Fr.same s5) h_start
  have h_end := ((tT2 tRat tRat) : Ty K (Rat × Rat)).mono (S := S) (Fr.same s5) h_end
  have h_way := (tInt : Ty K Int).mono (S := S) (Fr.same s5) h_way
  obtain ⟨slope_6, e6, hm⟩ := bd_some hm
  refine q_asg (T := []) dm (ev_call (ea_cons (ev_var ts h_start rfl) (ea_cons (ev_var ts h_end rfl) (ea_cons (ev_var ts h_way rfl) ea_nil)))) e6 (fun v_slope H6 s6 h_slope => ?_)
  have fr0 := fr0.trans (Fr.same s6)
  have dm := dm.same s6
  have h_row := ((tL (tT2 tRat tRat)) : Ty K (List (Rat × Rat))).mono (S := S) (Fr.same s6) h_row
  have h_first := (tInt : Ty K Int).mono (S := S) (Fr.same s6) h_first
  have h_last := (tInt : Ty K Int).mono (S := S) (Fr.same s6) h_last
  have h_tolerance := (tInt : Ty K Int).mono (S := S) (Fr.same s6) h_tolerance
  have h_start := ((tT2 tRat tRat) : Ty K (Rat × Rat)).mono (S := S) (Fr.same s6) h_start
  have h_end := ((tT2 tRat tRat) : Ty K (Rat × Rat)).mono (S := S) (Fr.same s6) h_end
  have h_way := (tInt : Ty K Int).mono (S := S) (Fr.same s6) h_way
  have h_low := (tRat : Ty K Rat).mono (S := S) (Fr.same s6) h_low
  have h_high := (tRat : Ty K Rat).mono (S := S) (Fr.same s6) h_high
  have h_slope : (tRat : Ty K Rat).rp S H6 v_slope slope_6 := h_slope
  obtain ⟨xs10, e_xs10, hm⟩ := bd_some hm
  obtain ⟨r_7, el7, hm7⟩ := bd_some hm
  refine q_for_s (T := []) dm (sr_list (ev_new (ev_slL (ev_var ts h_row rfl) (eo_some (ev_op (od_add (K := K)) (ev_var ts h_first rfl) (ev_int (K := K)))) (eo_some (ev_var ts h_last rfl))))) e_xs10 el7 (fun s_7 σ' H' => ∃ v_row : V, ∃ v_first : V, ∃ v_last : V, ∃ v_tolerance : V, ∃ v_start : V, ∃ v_end : V, ∃ v_way : V, ∃ v_low : V, ∃ v_high : V, ∃ v_slope : V, ∃ f_10 : Option V, σ' = [some v_row, some v_first, some v_last, some v_tolerance, some v_start, some v_end, some v_way, some v_low, some v_high, some v_slope, f_10] ∧ Fr [] H0 H' ∧ Dom S H' ∧ ((tL (tT2 tRat tRat)) : Ty K (List (Rat × Rat))).rp S H' v_row d_row ∧ (tInt : Ty K Int).rp S H' v_first d_first ∧ (tInt : Ty K Int).rp S H' v_last d_last ∧ (tInt : Ty K Int).rp S H' v_tolerance d_tolerance ∧ ((tT2 tRat tRat) : Ty K (Rat × Rat)).rp S H' v_start start_1 ∧ ((tT2 tRat tRat) : Ty K (Rat × Rat)).rp S H' v_end end_2 ∧ (tInt : Ty K Int).rp S H' v_way way_3 ∧ (tRat : Ty K Rat).rp S H' v_low low_4 ∧ (tRat : Ty K Rat).rp S H' v_high high_5 ∧ (tRat : Ty K Rat).rp S H' v_slope slope_6) (fun H7 s7 => ?_) (fun hd7 s_7 spot_7 cr7 v_spot σ' H' hI h_spot hx7 hm hret7 hbrk7 => ?_) (fun t_7 σ' H' er hI => ?_)
  · skip
    have fr0 := fr0.trans (Fr.same s7)
    have dm := dm.same s7
    have h_row := ((tL (tT2 tRat tRat)) : Ty K (List (Rat × Rat))).mono (S := S) (Fr.same s7) h_row
    have h_first := (tInt : Ty K Int).mono (S := S) (Fr.same s7) h_first
    have h_last := (tInt : Ty K Int).mono (S := S) (Fr.same s7) h_last
    have h_tolerance := (tInt : Ty K Int).mono (S := S) (Fr.same s7) h_tolerance
    have h_start := ((tT2 tRat tRat) : Ty K (Rat × Rat)).mono (S := S) (Fr.same s7) h_start
    have h_end := ((tT2 tRat tRat) : Ty K (Rat × Rat)).mono (S := S) (Fr.same s7) h_end
    have h_way := (tInt : Ty K Int).mono (S := S) (Fr.same s7) h_way
    have h_low := (tRat : Ty K Rat).mono (S := S) (Fr.same s7) h_low
    have h_high := (tRat : Ty K Rat).mono (S := S) (Fr.same s7) h_high
    have h_slope := (tRat : Ty K Rat).mono (S := S) (Fr.same s7) h_slope
    exact ⟨v_row, v_first, v_last, v_tolerance, v_start, v_end, v_way, v_low, v_high, v_slope, _, rfl, fr0, dm, h_row, h_first, h_last, h_tolerance, h_start, h_end, h_way, h_low, h_high, h_slope⟩
  · skip
    obtain ⟨v_row, v_first, v_last, v_tolerance, v_start, v_end, v_way, v_low, v_high, v_slope, f_10, rfl, fr0, dm, h_row, h_first, h_last, h_tolerance, h_start, h_end, h_way, h_low, h_high, h_slope⟩ := hI
    let HL := H'
    have freshl : ∀ a ∈ S, a ∉ S → H' a = none := fun a m n => absurd m n
    have frl : Fr S HL H' := Fr.refl (T := S) H'
    have tsl := ts
    have subl : Sub S S := fun a m => m
    have h_spot : ((tT2 tRat tRat) : Ty K (Rat × Rat)).rp S H' v_spot spot_7 := h_spot
    obtain ⟨c8, e8, hm⟩ := bd_some hm
    refine q_if (T := []) dm (eb_or (eb_test (K := K) (ev_op (od_lt (K := K)) (ev_call (ea_cons (ev_op od_ix2 (ev_var ts h_spot rfl) (ev_var ts h_way rfl)) (ea_cons (ev_var ts h_low rfl) ea_nil))) (ev_int (K := K)))) (eb_test (K := K) (ev_op (od_gt (K := K)) (ev_call (ea_cons (ev_op od_ix2 (ev_var ts h_spot rfl) (ev_var ts h_way rfl)) (ea_cons (ev_var ts h_high rfl) ea_nil))) (ev_int (K := K))))) e8 (fun hc H8 s8 => ?_) (fun hc H8 s8 => ?_)
    · skip
      subst hc
      have hm := if_t hm
      have fr0 := fr0.trans (Fr.same s8)
      have dm := dm.same s8
      have frl := frl.trans (Fr.same s8)
      have h_row := ((tL (tT2 tRat tRat)) : Ty K (List (Rat × Rat))).mono (S := S) (Fr.same s8) h_row
      have h_first := (tInt : Ty K Int).mono (S := S) (Fr.same s8) h_first
      have h_last := (tInt : Ty K Int).mono (S := S) (Fr.same s8) h_last
      have h_tolerance := (tInt : Ty K Int).mono (S := S) (Fr.same s8) h_tolerance
      have h_start := ((tT2 tRat tRat) : Ty K (Rat × Rat)).mono (S := S) (Fr.same s8) h_start
      have h_end := ((tT2 tRat tRat) : Ty K (Rat × Rat)).mono (S := S) (Fr.same s8) h_end
      have h_way := (tInt : Ty K Int).mono (S := S) (Fr.same s8) h_way
      have h_low := (tRat : Ty K Rat).mono (S := S) (Fr.same s8) h_low
      have h_high := (tRat : Ty K Rat).mono (S := S) (Fr.same s8) h_high
      have h_slope := (tRat : Ty K Rat).mono (S := S) (Fr.same s8) h_slope
      have h_spot := ((tT2 tRat tRat) : Ty K (Rat × Rat)).mono (S := S) (Fr.same s8) h_spot
      obtain ⟨z9, er, hm⟩ := bd_some hm
      cases hm
      have er7 := hret7 _ rfl
      subst er7
      cases hm7
      exact q_ret (T := []) dm (ev_bool (K := K)) er (fun v H11 s11 hv => q v H11 (fr0.trans (Fr.same s11)).toSame ((tBool : Ty K Bool).sub (S := S) (H := H11) sub0 hv))
    subst hc
    have hm := if_f hm
    have fr0 := fr0.trans (Fr.same s8)
    have dm := dm.same s8
    have frl := frl.trans (Fr.same s8)
    have h_row := ((tL (tT2 tRat tRat)) : Ty K (List (Rat × Rat))).mono (S := S) (Fr.same s8) h_row
    have h_first := (tInt : Ty K Int).mono (S := S) (Fr.same s8) h_first
    have h_last := (tInt : Ty K Int).mono (S := S) (Fr.same s8) h_last
    have h_tolerance := (tInt : Ty K Int).mono (S := S) (Fr.same s8) h_tolerance
    have h_start := ((tT2 tRat tRat) : Ty K (Rat × Rat)).mono (S := S) (Fr.same s8) h_start
    have h_end := ((tT2 tRat tRat) : Ty K (Rat × Rat)).mono (S := S) (Fr.same s8) h_end
    have h_way := (tInt : Ty K Int).mono (S := S) (Fr.same s8) h_way
    have h_low := (tRat : Ty K Rat).mono (S := S) (Fr.same s8) h_low
    have h_high := (tRat : Ty K Rat).mono (S := S) (Fr.same s8) h_high
    have h_slope := (tRat : Ty K Rat).mono (S := S) (Fr.same s8) h_slope
    have h_spot := ((tT2 tRat tRat) : Ty K (Rat × Rat)).mono (S := S) (Fr.same s8) h_spot
    refine q_next ?_
    obtain ⟨c9, e9, hm⟩ := bd_some hm
    refine l_if (T := []) dm (eb_test (K := K) (ev_op (od_gt (K := K)) (ev_call (ea_cons (ev_call (ea_cons (ev_var ts h_start rfl) (ea_cons (ev_var ts h_slope rfl) (ea_cons (ev_var ts h_way rfl) (ea_cons (ev_var ts h_spot rfl) ea_nil))))) (ea_cons (ev_p2r (ev_tup2 (ev_var ts h_tolerance rfl) (ev_int (K := K)))) ea_nil))) (ev_int (K := K)))) e9 (fun hc H9 s9 => ?_) (fun hc H9 s9 => ?_)
    · skip
      subst hc
      have hm := if_t hm
      have fr0 := fr0.trans (Fr.same s9)
      have dm := dm.same s9
      have frl := frl.trans (Fr.same s9)
      have h_row := ((tL (tT2 tRat tRat)) : Ty K (List (Rat × Rat))).mono (S := S) (Fr.same s9) h_row
      have h_first := (tInt : Ty K Int).mono (S := S) (Fr.same s9) h_first
      have h_last := (tInt : Ty K Int).mono (S := S) (Fr.same s9) h_last
      have h_tolerance := (tInt : Ty K Int).mono (S := S) (Fr.same s9) h_tolerance
      have h_start := ((tT2 tRat tRat) : Ty K (Rat × Rat)).mono (S := S) (Fr.same s9) h_start
      have h_end := ((tT2 tRat tRat) : Ty K (Rat × Rat)).mono (S := S) (Fr.same s9) h_end
      have h_way := (tInt : Ty K Int).mono (S := S) (Fr.same s9) h_way
      have h_low := (tRat : Ty K Rat).mono (S := S) (Fr.same s9) h_low
      have h_high := (tRat : Ty K Rat).mono (S := S) (Fr.same s9) h_high
      have h_slope := (tRat : Ty K Rat).mono (S := S) (Fr.same s9) h_slope
      have h_spot := ((tT2 tRat tRat) : Ty K (Rat × Rat)).mono (S := S) (Fr.same s9) h_spot
      obtain ⟨z9, er, hm⟩ := bd_some hm
      cases hm
      have er7 := hret7 _ rfl
      subst er7
      cases hm7
      exact q_ret (T := []) dm (ev_bool (K := K)) er (fun v H12 s12 hv => q v H12 (fr0.trans (Fr.same s12)).toSame ((tBool : Ty K Bool).sub (S := S) (H := H12) sub0 hv))
    subst hc
    have hm := if_f hm
    have fr0 := fr0.trans (Fr.same s9)
    have dm := dm.same s9
    have frl := frl.trans (Fr.same s9)
    have h_row := ((tL (tT2 tRat tRat)) : Ty K (List (Rat × Rat))).mono (S := S) (Fr.same s9) h_row
    have h_first := (tInt : Ty K Int).mono (S := S) (Fr.same s9) h_first
    have h_last := (tInt : Ty K Int).mono (S := S) (Fr.same s9) h_last
    have h_tolerance := (tInt : Ty K Int).mono (S := S) (Fr.same s9) h_tolerance
    have h_start := ((tT2 tRat tRat) : Ty K (Rat × Rat)).mono (S := S) (Fr.same s9) h_start
    have h_end := ((tT2 tRat tRat) : Ty K (Rat × Rat)).mono (S := S) (Fr.same s9) h_end
    have h_way := (tInt : Ty K Int).mono (S := S) (Fr.same s9) h_way
    have h_low := (tRat : Ty K Rat).mono (S := S) (Fr.same s9) h_low
    have h_high := (tRat : Ty K Rat).mono (S := S) (Fr.same s9) h_high
    have h_slope := (tRat : Ty K Rat).mono (S := S) (Fr.same s9) h_slope
    have h_spot := ((tT2 tRat tRat) : Ty K (Rat × Rat)).mono (S := S) (Fr.same s9) h_spot
    refine l_next ?_
    cases hm
    exact ⟨_, rfl, frl, ⟨v_row, v_first, v_last, v_tolerance, v_start, v_end, v_way, v_low, v_high, v_slope, _, rfl, fr0, dm, h_row, h_first, h_last, h_tolerance, h_start, h_end, h_way, h_low, h_high, h_slope⟩⟩
  subst er
  have hm := hm7
  obtain ⟨v_row, v_first, v_last, v_tolerance, v_start, v_end, v_way, v_low, v_high, v_slope, f_10, rfl, fr0, dm, h_row, h_first, h_last, h_tolerance, h_start, h_end, h_way, h_low, h_high, h_slope⟩ := hI
  have er := hm
  exact q_ret (T := []) dm (ev_bool (K := K)) er (fun v H13 s13 hv => q v H13 (fr0.trans (Fr.same s13)).toSame ((tBool : Ty K Bool).sub (S := S) (H := H13) sub0 hv))
def m_ends_from (d_row : (List (Rat × Rat))) (d_first : Int) (d_tolerance : Int) (d_held : (List Int)) : Option (List Int) :=
  (bd (some []) fun told_1 => (bd (bd (bd (some d_first) fun x => bd (some (1 : Int)) fun y => some (x + y)) fun x => bd (bd (some d_row) fun x => some (x.length : Int)) fun y => rng2? x y) fun xs8 => bd (loopC (ρ := (List Int)) (fun s_2 last_2 => (bd (bd (bd (some d_row) fun x => bd (bd (some d_first) fun x => bd (bd (some last_2) fun x => bd (bd (some d_tolerance) fun x => bd (some ()) fun y => some (x, y)) fun y => some (x, y)) fun y => some (x, y)) fun y => some (x, y)) fun a => m_may_pass a.1 a.2.1 a.2.2.1 a.2.2.2.1) fun c3 => (bd (if c3 then (bd (some last_2) fun a4 => (bd (app? s_2 a4) fun told_5 => some told_5)) else some s_2) fun j6 => (bd (bd (some last_2) fun x => bd (some d_held) fun y => some (decide (x ∈ y))) fun c7 => if c7 then some (Ct.brk j6) else some (Ct.go j6))))) xs8 told_1) fun r_2 => match r_2 with | .ret y => some y | .go t_2 => (some t_2) | .brk _ => none))
abbrev sp_ends_from (K : PySem.W.Frag) : Sp := spF (K := K) (aCons (tL (tT2 tRat tRat)) (aCons tInt (aCons tInt (aCons (tSq tInt) aNil)))) (fun S => nw (K := K) tInt S) (fun a => m_ends_from a.1 a.2.1 a.2.2.1 a.2.2.2.1)
theorem ok_ends_from (ev : Env K mg) : FnOk P w K mg base CX0 6 ev.f_ends_from ev.d_ends_from p_ends_from (sp_ends_from K) := by
  refine ev.A_ends_from.F.ok sc_ends_from (fun vs H Q E h => ?_) (fun cdv A outer s H0 vs Q E hr h => ?_)
  · obtain ⟨S, ⟨d_row, d_first, d_tolerance, d_held, _⟩, y, _, ⟨v_row, _, rfl, h_row, v_first, _, rfl, h_first, v_tolerance, _, rfl, h_tolerance, v_held, _, rfl, h_held, rfl⟩, _⟩ := h
    rfl
  obtain ⟨S, ⟨d_row, d_first, d_tolerance, d_held, _⟩, y, dm, ⟨v_row, _, rfl, h_row, v_first, _, rfl, h_first, v_tolerance, _, rfl, h_tolerance, v_held, _, rfl, h_held, rfl⟩, hm, q⟩ := h
  have ts : Sub [] S := fun a m => by simp at m
  have fr0 := Fr.refl (T := []) H0
  have sub0 : Sub S S := fun a m => m
  refine ⟨_, (pss_cons (ps_set (i := 4) sc_ends_from.nd rfl (Or.inl rfl) (pe_lst pa_nil))
    (pss_cons (ps_for PassesOwn.never rfl (pi_range2 rfl ev.B.range_ (pa_cons (pe_op op_add (pv 1) pe_int) (pa_cons (pe_callB call_len_seq (by rfl) ev.B.len_ PySem.boot_len (pa_cons (pv 0) pa_nil)) pa_nil))) (pg_name (i := 5) sc_ends_from.nd rfl (Or.inl rfl))
    (pss_cons (ps_if (pt_val (pe_call (ok_may_pass ev) (hr.mono (by decide)) (by rfl) ev.A_may_pass.m ev.A_may_pass.F.kp ev.A_may_pass.b .nil pass0 (pa_cons (pv 0) (pa_cons (pv 1) (pa_cons (pv 5) (pa_cons (pv 2) pa_nil))))))
    (pss_one (ps_expr (pe_bm PySem.F.plainAttrs_list PySem.F.slot_list_append PySem.F.type_list_append mt_append (pv 4) (pa_cons (pv 5) pa_nil)))) pss_nil)
    (pss_one (ps_if (pt_cmpR op_in_seq (pv 5) (pv 3) (by rfl))
    (pss_one ps_break) pss_nil))))
    (pss_one (ps_ret (pv 4))))), ?_⟩
  dsimp only [m_ends_from] at hm
  obtain ⟨told_1, e1, hm⟩ := bd_some hm
  refine q_asg (T := []) dm (ev_lst0 (a := (tInt : Ty K Int))) e1 (fun v_told H1 s1 hx => ?_)
  obtain ⟨p_told, rfl, np_told, o_told⟩ := hx
  have ns_told : p_told ∉ S := dm.not_mem np_told
  have nb_told : p_told ∉ S := fun m => ns_told (sub0 _ m)
  have n0_told := fr_back fr0 Dom.nil np_told
  have nt_told := (Dom.nil (H := H0)).not_mem n0_told
  have fr0 := fr0.trans (Fr.same s1)
  have h_row := ((tL (tT2 tRat tRat)) : Ty K (List (Rat × Rat))).mono (Fr.same s1) (((tL (tT2 tRat tRat)) : Ty K (List (Rat × Rat))).ext (S := S) np_told h_row)
  have h_first := (tInt : Ty K Int).mono (Fr.same s1) ((tInt : Ty K Int).ext (S := S) np_told h_first)
  have h_tolerance := (tInt : Ty K Int).mono (Fr.same s1) ((tInt : Ty K Int).ext (S := S) np_told h_tolerance)
  have h_held := ((tSq tInt) : Ty K (List Int)).mono (Fr.same s1) (((tSq tInt) : Ty K (List Int)).ext (S := S) np_told h_held)
  have dm := (dm.same s1).cons o_told.choose_spec.1
  have ts := sub_cons (p := p_told) ts
  have sub0 := sub_cons (p := p_told) sub0
  have im_told : p_told ∈ p_told :: S := List.mem_cons_self ..
  obtain ⟨xs8, e_xs8, hm⟩ := bd_some hm
  obtain ⟨r_2, el2, hm2⟩ := bd_some hm
  refine q_for_s (T := []) dm (sr_r2 (K := K) (ev_op (od_add (K := K)) (ev_var ts h_first rfl) (ev_int (K := K))) (ev_lenL (ev_var ts h_row rfl))) e_xs8 el2 (fun s_2 σ' H' => ∃ v_row : V, ∃ v_first : V, ∃ v_tolerance : V, ∃ v_held : V, ∃ f_5 : Option V, σ' = [some v_row, some v_first, some v_tolerance, some v_held, some (.ref p_told), f_5] ∧ Fr [] H0 H' ∧ Dom (p_told :: S) H' ∧ ((tL (tT2 tRat tRat)) : Ty K (List (Rat × Rat))).rp (p_told :: S) H' v_row d_row ∧ (tInt : Ty K Int).rp (p_told :: S) H' v_first d_first ∧ (tInt : Ty K Int).rp (p_told :: S) H' v_tolerance d_tolerance ∧ ((tSq tInt) : Ty K (List Int)).rp (p_told :: S) H' v_held d_held ∧ Own (tInt : Ty K Int) (p_told :: S) H' p_told s_2) (fun H2 s2 => ?_) (fun hd2 s_2 last_2 cr2 v_last σ' H' hI h_last hx2 hm hret2 hbrk2 => ?_) (fun t_2 σ' H' er hI => ?_)
  · skip
    have fr0 := fr0.trans (Fr.same s2)
    have dm := dm.same s2
    have h_row := ((tL (tT2 tRat tRat)) : Ty K (List (Rat × Rat))).mono (S := (p_told :: S)) (Fr.same s2) h_row
    have h_first := (tInt : Ty K Int).mono (S := (p_told :: S)) (Fr.same s2) h_first
    have h_tolerance := (tInt : Ty K Int).mono (S := (p_told :: S)) (Fr.same s2) h_tolerance
    have h_held := ((tSq tInt) : Ty K (List Int)).mono (S := (p_told :: S)) (Fr.same s2) h_held
    have o_told := o_told.same s2
    exact ⟨v_row, v_first, v_tolerance, v_held, _, rfl, fr0, dm, h_row, h_first, h_tolerance, h_held, o_told⟩
  · skip
    obtain ⟨v_row, v_first, v_tolerance, v_held, f_5, rfl, fr0, dm, h_row, h_first, h_tolerance, h_held, o_told⟩ := hI
    let HL := H'
    have freshl : ∀ a ∈ (p_told :: S), a ∉ (p_told :: S) → H' a = none := fun a m n => absurd m n
    have frl : Fr (p_told :: S) HL H' := Fr.refl (T := (p_told :: S)) H'
    have tsl := ts
    have subl : Sub (p_told :: S) (p_told :: S) := fun a m => m
    have iml_told := im_told
    have h_last : (tInt : Ty K Int).rp (p_told :: S) H' v_last last_2 := h_last
    obtain ⟨c3, e3, hm⟩ := bd_some hm
    obtain ⟨j6, ej3, hm⟩ := bd_some hm
    refine seq_by (fun σ' H' => Fr (p_told :: S) HL H' ∧ ∃ v_row : V, ∃ v_first : V, ∃ v_tolerance : V, ∃ v_held : V, ∃ v_last : V, σ' = [some v_row, some v_first, some v_tolerance, some v_held, some (.ref p_told), some v_last] ∧ Fr [] H0 H' ∧ Dom (p_told :: S) H' ∧ ((tL (tT2 tRat tRat)) : Ty K (List (Rat × Rat))).rp (p_told :: S) H' v_row d_row ∧ (tInt : Ty K Int).rp (p_told :: S) H' v_first d_first ∧ (tInt : Ty K Int).rp (p_told :: S) H' v_tolerance d_tolerance ∧ ((tSq tInt) : Ty K (List Int)).rp (p_told :: S) H' v_held d_held ∧ (tInt : Ty K Int).rp (p_told :: S) H' v_last last_2 ∧ Own (tInt : Ty K Int) (p_told :: S) H' p_told j6) (fun σ' H' hI => ?_) (fun rest => ?_)
    · skip
      obtain ⟨frl, v_row, v_first, v_tolerance, v_held, v_last, rfl, fr0, dm, h_row, h_first, h_tolerance, h_held, h_last, o_told⟩ := hI
      obtain ⟨c7, e7, hm⟩ := bd_some hm
      refine l_if (T := []) dm (eb_test (K := K) (ev_op (od_inISq (K := K) (neg := false)) (ev_var ts h_last rfl) (ev_var ts h_held rfl))) e7 (fun hc H7 s7 => ?_) (fun hc H7 s7 => ?_)
      · skip
        subst hc
        have hm := if_t hm
        have fr0 := fr0.trans (Fr.same s7)
        have dm := dm.same s7
        have frl := frl.trans (Fr.same s7)
        have h_row := ((tL (tT2 tRat tRat)) : Ty K (List (Rat × Rat))).mono (S := (p_told :: S)) (Fr.same s7) h_row
        have h_first := (tInt : Ty K Int).mono (S := (p_told :: S)) (Fr.same s7) h_first
        have h_tolerance := (tInt : Ty K Int).mono (S := (p_told :: S)) (Fr.same s7) h_tolerance
        have h_held := ((tSq tInt) : Ty K (List Int)).mono (S := (p_told :: S)) (Fr.same s7) h_held
        have h_last := (tInt : Ty K Int).mono (S := (p_told :: S)) (Fr.same s7) h_last
        have o_told := o_told.same s7
        cases hm
        exact hd2 _ _ _ (hbrk2 _ rfl) ⟨v_row, v_first, v_tolerance, v_held, _, rfl, fr0, dm, h_row, h_first, h_tolerance, h_held, o_told⟩
      subst hc
      have hm := if_f hm
      have fr0 := fr0.trans (Fr.same s7)
      have dm := dm.same s7
      have frl := frl.trans (Fr.same s7)
      have h_row := ((tL (tT2 tRat tRat)) : Ty K (List (Rat × Rat))).mono (S := (p_told :: S)) (Fr.same s7) h_row
      have h_first := (tInt : Ty K Int).mono (S := (p_told :: S)) (Fr.same s7) h_first
      have h_tolerance := (tInt : Ty K Int).mono (S := (p_told :: S)) (Fr.same s7) h_tolerance
      have h_held := ((tSq tInt) : Ty K (List Int)).mono (S := (p_told :: S)) (Fr.same s7) h_held
      have h_last := (tInt : Ty K Int).mono (S := (p_told :: S)) (Fr.same s7) h_last
      have o_told := o_told.same s7
      refine l_next ?_
      cases hm
      exact ⟨_, rfl, frl, ⟨v_row, v_first, v_tolerance, v_held, _, rfl, fr0, dm, h_row, h_first, h_tolerance, h_held, o_told⟩⟩
    have hm := ej3
    refine l_if (T := []) dm (eb_B (K := K) (ev_call (ea_cons (ev_var ts h_row rfl) (ea_cons (ev_var ts h_first rfl) (ea_cons (ev_var ts h_last rfl) (ea_cons (ev_var ts h_tolerance rfl) ea_nil)))))) e3 (fun hc H3 s3 => ?_) (fun hc H3 s3 => ?_)
    · skip
      subst hc
      have hm := if_t hm
      have fr0 := fr0.trans (Fr.same s3)
      have dm := dm.same s3
      have frl := frl.trans (Fr.same s3)
      have h_row := ((tL (tT2 tRat tRat)) : Ty K (List (Rat × Rat))).mono (S := (p_told :: S)) (Fr.same s3) h_row
      have h_first := (tInt : Ty K Int).mono (S := (p_told :: S)) (Fr.same s3) h_first
      have h_tolerance := (tInt : Ty K Int).mono (S := (p_told :: S)) (Fr.same s3) h_tolerance
      have h_held := ((tSq tInt) : Ty K (List Int)).mono (S := (p_told :: S)) (Fr.same s3) h_held
      have o_told := o_told.same s3
      have h_last := (tInt : Ty K Int).mono (S := (p_told :: S)) (Fr.same s3) h_last
      obtain ⟨a4, e4, hm⟩ := bd_some hm
      obtain ⟨told_5, f4, hm⟩ := bd_some hm
      refine l_app (T := []) dm o_told im_told nt_told ts rfl (ev_var ts h_last rfl) e4 f4 (fun H4 s4 frx4 o_told => ?_)
      have fr0 := fr0.mut Dom.nil n0_told s4
      have frl := frl.trans (s4.fr iml_told)
      have dm := dm.fx frx4 s4
      have h_row := ((tL (tT2 tRat tRat)) : Ty K (List (Rat × Rat))).mono (S := (p_told :: S)) frx4 h_row
      have h_first := (tInt : Ty K Int).mono (S := (p_told :: S)) frx4 h_first
      have h_tolerance := (tInt : Ty K Int).mono (S := (p_told :: S)) frx4 h_tolerance
      have h_held := ((tSq tInt) : Ty K (List Int)).mono (S := (p_told :: S)) frx4 h_held
      have h_last := (tInt : Ty K Int).mono (S := (p_told :: S)) frx4 h_last
      cases hm
      exact rest _ _ ⟨frl, v_row, v_first, v_tolerance, v_held, v_last, rfl, fr0, dm, h_row, h_first, h_tolerance, h_held, h_last, o_told⟩
    · skip
      subst hc
      have hm := if_f hm
      have fr0 := fr0.trans (Fr.same s3)
      have dm := dm.same s3
      have frl := frl.trans (Fr.same s3)
      have h_row := ((tL (tT2 tRat tRat)) : Ty K (List (Rat × Rat))).mono (S := (p_told :: S)) (Fr.same s3) h_row
      have h_first := (tInt : Ty K Int).mono (S := (p_told :: S)) (Fr.same s3) h_first
      have h_tolerance := (tInt : Ty K Int).mono (S := (p_told :: S)) (Fr.same s3) h_tolerance
      have h_held := ((tSq tInt) : Ty K (List Int)).mono (S := (p_told :: S)) (Fr.same s3) h_held
      have o_told := o_told.same s3
      have h_last := (tInt : Ty K Int).mono (S := (p_told :: S)) (Fr.same s3) h_last
      cases hm
      exact rest _ _ ⟨frl, v_row, v_first, v_tolerance, v_held, v_last, rfl, fr0, dm, h_row, h_first, h_tolerance, h_held, h_last, o_told⟩
  subst er
  have hm := hm2
  obtain ⟨v_row, v_first, v_tolerance, v_held, f_5, rfl, fr0, dm, h_row, h_first, h_tolerance, h_held, o_told⟩ := hI
  have er := hm
  cases er
  exact ⟨_, rfl, q _ _ fr0.toSame ⟨p_told, rfl, n0_told, o_told.sub (cons_sub im_told sub0)⟩⟩
def m_ends_of (d_row : (List (Rat × Rat))) (d_tolerance : Int) (d_held : (List Int)) : Option (List (List Int)) :=
  (bd (bd (bd (some d_row) fun x => some (x.length : Int)) rng1?) fun xs => mapL? (fun first_1 => (bd (bd (some d_row) fun x => bd (bd (some first_1) fun x => bd (bd (some d_tolerance) fun x => bd (bd (some d_held) fun x => bd (some ()) fun y => some (x, y)) fun y => some (x, y)) fun y => some (x, y)) fun y => some (x, y)) fun a => m_ends_from a.1 a.2.1 a.2.2.1 a.2.2.2.1)) xs)
abbrev sp_ends_of (K : PySem.W.Frag) : Sp := spF (K := K) (aCons (tL (tT2 tRat tRat)) (aCons tInt (aCons (tSq tInt) aNil))) (fun S => nw (K := K) (tL tInt) S) (fun a => m_ends_of a.1 a.2.1 a.2.2.1)
theorem ok_ends_of (ev : Env K mg) : FnOk P w K mg base CX0 7 ev.f_ends_of ev.d_ends_of p_ends_of (sp_ends_of K) := by
  refine ev.A_ends_of.F.ok sc_ends_of (fun vs H Q E h => ?_) (fun cdv A outer s H0 vs Q E hr h => ?_)
  · obtain ⟨S, ⟨d_row, d_tolerance, d_held, _⟩, y, _, ⟨v_row, _, rfl, h_row, v_tolerance, _, rfl, h_tolerance, v_held, _, rfl, h_held, rfl⟩, _⟩ := h
    rfl
  obtain ⟨S, ⟨d_row, d_tolerance, d_held, _⟩, y, dm, ⟨v_row, _, rfl, h_row, v_tolerance, _, rfl, h_tolerance, v_held, _, rfl, h_held, rfl⟩, hm, q⟩ := h
  have ts : Sub [] S := fun a m => by simp at m
  have fr0 := Fr.refl (T := []) H0
  have sub0 : Sub S S := fun a m => m
  refine ⟨_, (pss_one (ps_ret (pe_lc (own := [("first", 3)]) (g := gName 3) (tt := tYes) (by rfl) sc_ends_of.nd (pi_range1 rfl ev.B.range_ (pa_cons (pe_callB call_len_seq (by rfl) ev.B.len_ PySem.boot_len (pa_cons (pv 0) pa_nil)) pa_nil)) (blkOk_by (own := [("first", 3)]) (N := n_ends_of) (sc := defScope s_ends_of) (by decide +kernel)) (fun _ _ _ _ _ => pg_name (i := 3) sc_ends_of.nd rfl (Or.inl rfl)) (fun _ _ _ _ _ => pts_nil) (fun _ _ _ _ _ => (pe_call (ok_ends_from ev) (hr.mono (by decide)) (by rfl) ev.A_ends_from.m ev.A_ends_from.F.kp ev.A_ends_from.b .nil pass0 (pa_cons (pv 0) (pa_cons (pv 3) (pa_cons (pv 1) (pa_cons (pv 2) pa_nil))))))))), ?_⟩
  dsimp only [m_ends_of] at hm
  have er := hm
  exact q_ret (T := []) dm (ev_lc (sr_r1 (K := K) (ev_lenL (ev_var ts h_row rfl))) (fun v => by rfl) (fun first_1 v_first H2' H' p' fr' nD' sm' h_first => by have h_row := ((tL (tT2 tRat tRat)) : Ty K (List (Rat × Rat))).mono (Fr.same sm') (((tL (tT2 tRat tRat)) : Ty K (List (Rat × Rat))).ext (S := S) nD' (((tL (tT2 tRat tRat)) : Ty K (List (Rat × Rat))).mono (Fr.sub ts fr') h_row)); have h_tolerance := (tInt : Ty K Int).mono (Fr.same sm') ((tInt : Ty K Int).ext (S := S) nD' ((tInt : Ty K Int).mono (Fr.sub ts fr') h_tolerance)); have h_held := ((tSq tInt) : Ty K (List Int)).mono (Fr.same sm') (((tSq tInt) : Ty K (List Int)).ext (S := S) nD' (((tSq tInt) : Ty K (List Int)).mono (Fr.sub ts fr') h_held)); have ts0' := ts; have ts : Sub [] (p' :: S) := (fun a m => by simp at m);  exact (ev_new (ev_call (ea_cons (ev_var ts h_row rfl) (ea_cons (ev_var ts h_first rfl) (ea_cons (ev_var ts h_tolerance rfl) (ea_cons (ev_var ts h_held rfl) ea_nil)))))))) er (fun v H2 s2 hv => q v H2 (fr0.trans (Fr.same s2)).toSame (nwL.sub hv sub0 fr0 Dom.nil))
def m_counts_of (d_ends : (List (List Int))) : Option (List Int) :=
  (bd (bd (bd (some (0 : Int)) fun x => bd (some []) fun y => some (x :: y)) fun x => bd (bd (some d_ends) fun x => some (x.length : Int)) fun y => rep? x y) fun counts_1 => (bd (bd (bd (bd (some d_ends) fun x => some (x.length : Int)) fun x => bd (some (2 : Int)) fun y => some (x - y)) fun x => bd (bd (some (1 : Int)) fun x => some (-x)) fun y => rng3? x y) fun xs8 => bd (loopC (ρ := (List Int)) (fun s_2 first_2 => (bd (bd (some (1 : Int)) fun x => bd (bd (bd (bd (some d_ends) fun x => bd (some first_2) fun y => atI x y) fun xs => mapL? (fun last_4 => (bd (some last_4) fun y => atI s_2 y)) xs) fun x => x.min?) fun y => some (x + y)) fun a5 => (bd (some first_2) fun i6 => (bd (set? s_2 i6 a5) fun counts_7 => some (Ct.go counts_7))))) xs8 counts_1) fun r_2 => match r_2 with | .ret y => some y | .go t_2 => (some t_2) | .brk _ => none))
abbrev sp_counts_of (K : PySem.W.Frag) : Sp := spF (K := K) (aCons (tL (tL tInt)) aNil) (fun S => nw (K := K) tInt S) (fun a => m_counts_of a.1)
theorem ok_counts_of (ev : Env K mg) : FnOk P w K mg base CX0 1 ev.f_counts_of ev.d_counts_of p_counts_of (sp_counts_of K) := by
  refine ev.A_counts_of.F.ok sc_counts_of (fun vs H Q E h => ?_) (fun cdv A outer s H0 vs Q E hr h => ?_)
  · obtain ⟨S, ⟨d_ends, _⟩, y, _, ⟨v_ends, _, rfl, h_ends, rfl⟩, _⟩ := h
    rfl
  obtain ⟨S, ⟨d_ends, _⟩, y, dm, ⟨v_ends, _, rfl, h_ends, rfl⟩, hm, q⟩ := h
  have ts : Sub [] S := fun a m => by simp at m
  have fr0 := Fr.refl (T := []) H0
  have sub0 : Sub S S := fun a m => m
  refine ⟨_, (pss_cons (ps_set (i := 1) sc_counts_of.nd rfl (Or.inr rfl) (pe_op op_rep (pe_lst (pa_cons pe_int pa_nil)) (pe_callB call_len_seq (by rfl) ev.B.len_ PySem.boot_len (pa_cons (pv 0) pa_nil))))
    (pss_cons (ps_for PassesOwn.never rfl (pi_range3 rfl ev.B.range_ (pa_cons (pe_op op_sub (pe_callB call_len_seq (by rfl) ev.B.len_ PySem.boot_len (pa_cons (pv 0) pa_nil)) pe_int) (pa_cons (pe_un un_neg pe_int) (pa_cons (pe_un un_neg pe_int) pa_nil)))) (pg_name (i := 2) sc_counts_of.nd rfl (Or.inl rfl))
    (pss_one (ps_asg (pe_op op_add pe_int (pe_callB (cr_min rfl) (by rfl) ev.B.min_ (by decide +kernel) (pa_cons (pe_lc (own := [("last", 3)]) (g := gName 3) (tt := tYes) (by rfl) sc_counts_of.nd (pi_list (pe_ix ix_list (pv 0) (pv 2) (fun _ _ => rfl))) (blkOk_by (own := [("last", 3)]) (N := n_counts_of) (sc := defScope s_counts_of) (by decide +kernel)) (fun _ _ _ _ _ => pg_name (i := 3) sc_counts_of.nd rfl (Or.inl rfl)) (fun _ _ _ _ _ => pts_nil) (fun _ _ _ _ _ => (pe_ix (show IxR _ (rIxL K) from ix_list) (pv 1) (pv 3) (fun _ _ => rfl)))) pa_nil))) (pg_sub (pv 1) (pv 2) set_list))))
    (pss_one (ps_ret (pv 1))))), ?_⟩
  dsimp only [m_counts_of] at hm
  obtain ⟨counts_1, e1, hm⟩ := bd_some hm
  refine q_asg (T := []) dm (ev_op od_rep (ev_new (ev_lst (el_cons (ev_int (K := K)) el_nil) (by decide))) (ev_lenL (ev_var ts h_ends rfl))) e1 (fun v_counts H1 s1 hx => ?_)
  obtain ⟨p_counts, rfl, np_counts, o_counts⟩ := hx
  have ns_counts : p_counts ∉ S := dm.not_mem np_counts
  have nb_counts : p_counts ∉ S := fun m => ns_counts (sub0 _ m)
  have n0_counts := fr_back fr0 Dom.nil np_counts
  have nt_counts := (Dom.nil (H := H0)).not_mem n0_counts
  have fr0 := fr0.trans (Fr.same s1)
  have h_ends := ((tL (tL tInt)) : Ty K (List (List Int))).mono (Fr.same s1) (((tL (tL tInt)) : Ty K (List (List Int))).ext (S := S) np_counts h_ends)
  have dm := (dm.same s1).cons o_counts.choose_spec.1
  have ts := sub_cons (p := p_counts) ts
  have sub0 := sub_cons (p := p_counts) sub0
  have im_counts : p_counts ∈ p_counts :: S := List.mem_cons_self ..
  obtain ⟨xs8, e_xs8, hm⟩ := bd_some hm
  obtain ⟨r_2, el2, hm2⟩ := bd_some hm
  refine q_for_s (T := []) dm (sr_r3 (K := K) (ev_op (od_sub (K := K)) (ev_lenL (ev_var ts h_ends rfl)) (ev_int (K := K))) (ev_neg (ev_int (K := K)))) e_xs8 el2 (fun s_2 σ' H' => ∃ v_ends : V, ∃ f_2 : Option V, ∃ f_3 : Option V, σ' = [some v_ends, some (.ref p_counts), f_2, f_3] ∧ Fr [] H0 H' ∧ Dom (p_counts :: S) H' ∧ ((tL (tL tInt)) : Ty K (List (List Int))).rp (p_counts :: S) H' v_ends d_ends ∧ Own (tInt : Ty K Int) (p_counts :: S) H' p_counts s_2) (fun H2 s2 => ?_) (fun hd2 s_2 first_2 cr2 v_first σ' H' hI h_first hx2 hm hret2 hbrk2 => ?_) (fun t_2 σ' H' er hI => ?_)
  · skip
    have fr0 := fr0.trans (Fr.same s2)
    have dm := dm.same s2
    have h_ends := ((tL (tL tInt)) : Ty K (List (List Int))).mono (S := (p_counts :: S)) (Fr.same s2) h_ends
    have o_counts := o_counts.same s2
    exact ⟨v_ends, _, _, rfl, fr0, dm, h_ends, o_counts⟩
  · skip
    obtain ⟨v_ends, f_2, f_3, rfl, fr0, dm, h_ends, o_counts⟩ := hI
    let HL := H'
    have freshl : ∀ a ∈ (p_counts :: S), a ∉ (p_counts :: S) → H' a = none := fun a m n => absurd m n
    have frl : Fr (p_counts :: S) HL H' := Fr.refl (T := (p_counts :: S)) H'
    have tsl := ts
    have subl : Sub (p_counts :: S) (p_counts :: S) := fun a m => m
    have iml_counts := im_counts
    have h_first : (tInt : Ty K Int).rp (p_counts :: S) H' v_first first_2 := h_first
    obtain ⟨a5, e6, hm⟩ := bd_some hm
    obtain ⟨i6, i6, hm⟩ := bd_some hm
    obtain ⟨counts_7, f6, hm⟩ := bd_some hm
    refine l_set (T := []) dm o_counts im_counts nt_counts ts rfl (ev_op (od_add (K := K)) (ev_int (K := K)) (ev_min (ev_new (ev_lc (sr_list (ev_op od_ixL (ev_var ts h_ends rfl) (ev_var ts h_first rfl))) (fun v => by rfl) (fun last_4 v_last H2' H' p' fr' nD' sm' h_last => by have h_ends := ((tL (tL tInt)) : Ty K (List (List Int))).mono (Fr.same sm') (((tL (tL tInt)) : Ty K (List (List Int))).ext (S := (p_counts :: S)) nD' (((tL (tL tInt)) : Ty K (List (List Int))).mono (Fr.sub ts fr') h_ends)); have h_first := (tInt : Ty K Int).mono (Fr.same sm') ((tInt : Ty K Int).ext (S := (p_counts :: S)) nD' ((tInt : Ty K Int).mono (Fr.sub ts fr') h_first)); have ts0' := ts; have ts : Sub [] (p' :: (p_counts :: S)) := (fun a m => by simp at m);  have o_counts := ((o_counts.fr fr' ts0' nt_counts).ext nD').same sm'; have nt_counts : p_counts ∉ [] := (by simp); exact (ev_ownIx o_counts nt_counts ts rfl (ev_var ts h_last rfl))))))) e6 (ev_var ts h_first rfl) i6 f6 (fun H6 s6 frx6 o_counts => ?_)
    have fr0 := fr0.mut Dom.nil n0_counts s6
    have frl := frl.trans (s6.fr iml_counts)
    have dm := dm.fx frx6 s6
    have h_ends := ((tL (tL tInt)) : Ty K (List (List Int))).mono (S := (p_counts :: S)) frx6 h_ends
    have h_first := (tInt : Ty K Int).mono (S := (p_counts :: S)) frx6 h_first
    cases hm
    exact ⟨_, rfl, frl, ⟨v_ends, _, _, rfl, fr0, dm, h_ends, o_counts⟩⟩
  subst er
  have hm := hm2
  obtain ⟨v_ends, f_2, f_3, rfl, fr0, dm, h_ends, o_counts⟩ := hI
  have er := hm
  cases er
  exact ⟨_, rfl, q _ _ fr0.toSame ⟨p_counts, rfl, n0_counts, o_counts.sub (cons_sub im_counts sub0)⟩⟩
def m_pieces_left (d_row : (List (Rat × Rat))) (d_tolerance : Int) (d_held : (List Int)) : Option (List Int) :=
  (bd (bd (bd (bd (some d_row) fun x => bd (bd (some d_tolerance) fun x => bd (bd (some d_held) fun x => bd (some ()) fun y => some (x, y)) fun y => some (x, y)) fun y => some (x, y)) fun a => m_ends_of a.1 a.2.1 a.2.2.1) fun x => bd (some ()) fun y => some (x, y)) fun a => m_counts_of a.1)
abbrev sp_pieces_left (K : PySem.W.Frag) : Sp := spF (K := K) (aCons (tL (tT2 tRat tRat)) (aCons tInt (aCons (tSq tInt) aNil))) (fun S => nw (K := K) tInt S) (fun a => m_pieces_left a.1 a.2.1 a.2.2.1)
theorem ok_pieces_left (ev : Env K mg) : FnOk P w K mg base CX0 8 ev.f_pieces_left ev.d_pieces_left p_pieces_left (sp_pieces_left K) := by
  refine ev.A_pieces_left.F.ok sc_pieces_left (fun vs H Q E h => ?_) (fun cdv A outer s H0 vs Q E hr h => ?_)
  · obtain ⟨S, ⟨d_row, d_tolerance, d_held, _⟩, y, _, ⟨v_row, _, rfl, h_row, v_tolerance, _, rfl, h_tolerance, v_held, _, rfl, h_held, rfl⟩, _⟩ := h
    rfl
  obtain ⟨S, ⟨d_row, d_tolerance, d_held, _⟩, y, dm, ⟨v_row, _, rfl, h_row, v_tolerance, _, rfl, h_tolerance, v_held, _, rfl, h_held, rfl⟩, hm, q⟩ := h
  have ts : Sub [] S := fun a m => by simp at m
  have fr0 := Fr.refl (T := []) H0
  have sub0 : Sub S S := fun a m => m
  refine ⟨_, (pss_one (ps_ret (pe_call (ok_counts_of ev) (hr.mono (by decide)) (by rfl) ev.A_counts_of.m ev.A_counts_of.F.kp ev.A_counts_of.b .nil pass0 (pa_cons (pe_call (ok_ends_of ev) (hr.mono (by decide)) (by rfl) ev.A_ends_of.m ev.A_ends_of.F.kp ev.A_ends_of.b .nil pass0 (pa_cons (pv 0) (pa_cons (pv 1) (pa_cons (pv 2) pa_nil)))) pa_nil)))), ?_⟩
  dsimp only [m_pieces_left] at hm
  have er := hm
  exact q_ret (T := []) dm (ev_call (ea_cons (ev_new (ev_call (ea_cons (ev_var ts h_row rfl) (ea_cons (ev_var ts h_tolerance rfl) (ea_cons (ev_var ts h_held rfl) ea_nil))))) ea_nil)) er (fun v H1 s1 hv => q v H1 (fr0.trans (Fr.same s1)).toSame (nwL.sub hv sub0 fr0 Dom.nil))
def m_kept (d_row : (List (Rat × Rat))) (d_tolerance : Int) (d_held : (List Int)) : Option (List Int) :=
  (bd (bd (bd (some d_row) fun x => bd (bd (some d_tolerance) fun x => bd (bd (some d_held) fun x => bd (some ()) fun y => some (x, y)) fun y => some (x, y)) fun y => some (x, y)) fun a => m_ends_of a.1 a.2.1 a.2.2.1) fun ends_1 => (bd (bd (bd (some ends_1) fun x => bd (some ()) fun y => some (x, y)) fun a => m_counts_of a.1) fun counts_2 => (bd (bd (some (0 : Int)) fun x => bd (some []) fun y => some (x :: y)) fun told_3 => (bd (whileC (ρ := (List Int)) (fun s_4 => (bd (bd (bd (some (1 : Int)) fun x => some (-x)) fun y => atI s_4 y) fun x => bd (bd (bd (some d_row) fun x => some (x.length : Int)) fun x => bd (some (1 : Int)) fun y => some (x - y)) fun y => some (decide (x < y)))) (fun s_4 => (bd (bd (bd (some (1 : Int)) fun x => some (-x)) fun y => atI s_4 y) fun here_5 => (bd (bd (bd (bd (some ends_1) fun x => bd (some here_5) fun y => atI x y) fun xs => filL? (fun last_7 => (bd (bd (some counts_2) fun x => bd (some last_7) fun y => atI x y) fun x => bd (bd (bd (some counts_2) fun x => bd (some here_5) fun y => atI x y) fun x => bd (some (1 : Int)) fun y => some (x - y)) fun y => some (decide (x = y)))) (fun last_7 => (some last_7)) xs) fun x => x.min?) fun a8 => (bd (app? s_4 a8) fun told_9 => some (Ct.go told_9))))) 100000 told_3) fun r_4 => match r_4 with | .ret y => some y | .go t_4 => (some t_4) | .brk _ => none))))
abbrev sp_kept (K : PySem.W.Frag) : Sp := spF (K := K) (aCons (tL (tT2 tRat tRat)) (aCons tInt (aCons (tSq tInt) aNil))) (fun S => nw (K := K) tInt S) (fun a => m_kept a.1 a.2.1 a.2.2.1)
theorem ok_kept (ev : Env K mg) : FnOk P w K mg base CX0 8 ev.f_kept ev.d_kept p_kept (sp_kept K) := by
  refine ev.A_kept.F.ok sc_kept (fun vs H Q E h => ?_) (fun cdv A outer s H0 vs Q E hr h => ?_)
  · obtain ⟨S, ⟨d_row, d_tolerance, d_held, _⟩, y, _, ⟨v_row, _, rfl, h_row, v_tolerance, _, rfl, h_tolerance, v_held, _, rfl, h_held, rfl⟩, _⟩ := h
    rfl
  obtain ⟨S, ⟨d_row, d_tolerance, d_held, _⟩, y, dm, ⟨v_row, _, rfl, h_row, v_tolerance, _, rfl, h_tolerance, v_held, _, rfl, h_held, rfl⟩, hm, q⟩ := h
  have ts : Sub [] S := fun a m => by simp at m
  have fr0 := Fr.refl (T := []) H0
  have sub0 : Sub S S := fun a m => m
  refine ⟨_, (pss_cons (ps_set (i := 3) sc_kept.nd rfl (Or.inl rfl) (pe_call (ok_ends_of ev) (hr.mono (by decide)) (by rfl) ev.A_ends_of.m ev.A_ends_of.F.kp ev.A_ends_of.b .nil pass0 (pa_cons (pv 0) (pa_cons (pv 1) (pa_cons (pv 2) pa_nil)))))
    (pss_cons (ps_set (i := 4) sc_kept.nd rfl (Or.inr rfl) (pe_call (ok_counts_of ev) (hr.mono (by decide)) (by rfl) ev.A_counts_of.m ev.A_counts_of.F.kp ev.A_counts_of.b .nil pass0 (pa_cons (pv 3) pa_nil)))
    (pss_cons (ps_set (i := 5) sc_kept.nd rfl (Or.inl rfl) (pe_lst (pa_cons pe_int pa_nil)))
    (pss_cons (ps_while PassesOwn.never (pt_cmpR op_lt (pe_ix ix_list (pv 5) (pe_un un_neg pe_int) (fun _ _ => rfl)) (pe_op op_sub (pe_callB call_len_seq (by rfl) ev.B.len_ PySem.boot_len (pa_cons (pv 0) pa_nil)) pe_int) (nomark _))
    (pss_cons (ps_set (i := 6) sc_kept.nd rfl (Or.inr rfl) (pe_ix ix_list (pv 5) (pe_un un_neg pe_int) (fun _ _ => rfl)))
    (pss_one (ps_expr (pe_bm PySem.F.plainAttrs_list PySem.F.slot_list_append PySem.F.type_list_append mt_append (pv 5) (pa_cons (pe_callB (cr_min rfl) (by rfl) ev.B.min_ (by decide +kernel) (pa_cons (pe_lc (own := [("last", 7)]) (g := gName 7) (by rfl) sc_kept.nd (pi_list (pe_ix ix_list (pv 3) (pv 6) (fun _ _ => rfl))) (blkOk_by (own := [("last", 7)]) (N := n_kept) (sc := defScope s_kept) (by decide +kernel)) (fun _ _ _ _ _ => pg_name (i := 7) sc_kept.nd rfl (Or.inl rfl)) (fun _ _ _ _ _ => (pts_one (pt_cmpR op_eq (pe_ix (show IxR _ (rIxL K) from ix_list) (pv 4) (pv 7) (fun _ _ => rfl)) (pe_op op_sub (pe_ix (show IxR _ (rIxL K) from ix_list) (pv 4) (pv 6) (fun _ _ => rfl)) pe_int) (nomark _)))) (fun _ _ _ _ _ => (pv 7))) pa_nil)) pa_nil))))))
    (pss_one (ps_ret (pv 5))))))), ?_⟩
  dsimp only [m_kept] at hm
  obtain ⟨ends_1, e1, hm⟩ := bd_some hm
  refine q_asg (T := []) dm (ev_new (ev_call (ea_cons (ev_var ts h_row rfl) (ea_cons (ev_var ts h_tolerance rfl) (ea_cons (ev_var ts h_held rfl) ea_nil))))) e1 (fun v_ends H1 s1 h_ends => ?_)
  have fr0 := fr0.trans (Fr.same s1)
  have dm := dm.same s1
  have h_row := ((tL (tT2 tRat tRat)) : Ty K (List (Rat × Rat))).mono (S := S) (Fr.same s1) h_row
  have h_tolerance := (tInt : Ty K Int).mono (S := S) (Fr.same s1) h_tolerance
  have h_held := ((tSq tInt) : Ty K (List Int)).mono (S := S) (Fr.same s1) h_held
  have h_ends : ((tL (tL tInt)) : Ty K (List (List Int))).rp S H1 v_ends ends_1 := h_ends
  obtain ⟨counts_2, e2, hm⟩ := bd_some hm
  refine q_asg (T := []) dm (ev_new (ev_call (ea_cons (ev_var ts h_ends rfl) ea_nil))) e2 (fun v_counts H2 s2 h_counts => ?_)
  have fr0 := fr0.trans (Fr.same s2)
  have dm := dm.same s2
  have h_row := ((tL (tT2 tRat tRat)) : Ty K (List (Rat × Rat))).mono (S := S) (Fr.same s2) h_row
  have h_tolerance := (tInt : Ty K Int).mono (S := S) (Fr.same s2) h_tolerance
  have h_held := ((tSq tInt) : Ty K (List Int)).mono (S := S) (Fr.same s2) h_held
  have h_ends := ((tL (tL tInt)) : Ty K (List (List Int))).mono (S := S) (Fr.same s2) h_ends
  have h_counts : ((tL tInt) : Ty K (List Int)).rp S H2 v_counts counts_2 := h_counts
  obtain ⟨told_3, e3, hm⟩ := bd_some hm
  refine q_asg (T := []) dm (ev_lst (el_cons (ev_int (K := K)) el_nil) (by decide)) e3 (fun v_told H3 s3 hx => ?_)
  obtain ⟨p_told, rfl, np_told, o_told⟩ := hx
  have ns_told : p_told ∉ S := dm.not_mem np_told
  have nb_told : p_told ∉ S := fun m => ns_told (sub0 _ m)
  have n0_told := fr_back fr0 Dom.nil np_told
  have nt_told := (Dom.nil (H := H0)).not_mem n0_told
  have fr0 := fr0.trans (Fr.same s3)
  have h_row := ((tL (tT2 tRat tRat)) : Ty K (List (Rat × Rat))).mono (Fr.same s3) (((tL (tT2 tRat tRat)) : Ty K (List (Rat × Rat))).ext (S := S) np_told h_row)
  have h_tolerance := (tInt : Ty K Int).mono (Fr.same s3) ((tInt : Ty K Int).ext (S := S) np_told h_tolerance)
  have h_held := ((tSq tInt) : Ty K (List Int)).mono (Fr.same s3) (((tSq tInt) : Ty K (List Int)).ext (S := S) np_told h_held)
  have h_ends := ((tL (tL tInt)) : Ty K (List (List Int))).mono (Fr.same s3) (((tL (tL tInt)) : Ty K (List (List Int))).ext (S := S) np_told h_ends)
  have h_counts := ((tL tInt) : Ty K (List Int)).mono (Fr.same s3) (((tL tInt) : Ty K (List Int)).ext (S := S) np_told h_counts)
  have dm := (dm.same s3).cons o_told.choose_spec.1
  have ts := sub_cons (p := p_told) ts
  have sub0 := sub_cons (p := p_told) sub0
  have im_told : p_told ∈ p_told :: S := List.mem_cons_self ..
  obtain ⟨r_4, el4, hm4⟩ := bd_some hm
  refine q_while_s (S := (p_told :: S)) (T := []) el4 (fun s_4 σ' H' => ∃ v_row : V, ∃ v_tolerance : V, ∃ v_held : V, ∃ v_ends : V, ∃ v_counts : V, ∃ f_6 : Option V, ∃ f_7 : Option V, σ' = [some v_row, some v_tolerance, some v_held, some v_ends, some v_counts, some (.ref p_told), f_6, f_7] ∧ Fr [] H0 H' ∧ Dom (p_told :: S) H' ∧ ((tL (tT2 tRat tRat)) : Ty K (List (Rat × Rat))).rp (p_told :: S) H' v_row d_row ∧ (tInt : Ty K Int).rp (p_told :: S) H' v_tolerance d_tolerance ∧ ((tSq tInt) : Ty K (List Int)).rp (p_told :: S) H' v_held d_held ∧ ((tL (tL tInt)) : Ty K (List (List Int))).rp (p_told :: S) H' v_ends ends_1 ∧ ((tL tInt) : Ty K (List Int)).rp (p_told :: S) H' v_counts counts_2 ∧ Own (tInt : Ty K Int) (p_told :: S) H' p_told s_4) ?_ (fun s_4 σ' H' hI => ?_) (fun hd4 s_4 cr4 σ' Hw4 H' hI sw4 hm hret4 hbrk4 => ?_) (fun t_4 σ' Hw4 H' er hI sw4 => ?_)
  · skip
    exact ⟨v_row, v_tolerance, v_held, v_ends, v_counts, _, _, rfl, fr0, dm, h_row, h_tolerance, h_held, h_ends, h_counts, o_told⟩
  · skip
    obtain ⟨v_row, v_tolerance, v_held, v_ends, v_counts, f_6, f_7, rfl, fr0, dm, h_row, h_tolerance, h_held, h_ends, h_counts, o_told⟩ := hI
    exact ⟨_, dm, (eb_test (K := K) (ev_op (od_lt (K := K)) (ev_ownIx o_told nt_told ts rfl (ev_neg (ev_int (K := K)))) (ev_op (od_sub (K := K)) (ev_lenL (ev_var ts h_row rfl)) (ev_int (K := K)))))⟩
  · skip
    obtain ⟨v_row, v_tolerance, v_held, v_ends, v_counts, f_6, f_7, rfl, fr0, dm, h_row, h_tolerance, h_held, h_ends, h_counts, o_told⟩ := hI
    have fr0 := fr0.trans (Fr.same sw4)
    have dm := dm.same sw4
    have h_row := ((tL (tT2 tRat tRat)) : Ty K (List (Rat × Rat))).mono (S := (p_told :: S)) (Fr.same sw4) h_row
    have h_tolerance := (tInt : Ty K Int).mono (S := (p_told :: S)) (Fr.same sw4) h_tolerance
    have h_held := ((tSq tInt) : Ty K (List Int)).mono (S := (p_told :: S)) (Fr.same sw4) h_held
    have h_ends := ((tL (tL tInt)) : Ty K (List (List Int))).mono (S := (p_told :: S)) (Fr.same sw4) h_ends
    have h_counts := ((tL tInt) : Ty K (List Int)).mono (S := (p_told :: S)) (Fr.same sw4) h_counts
    have o_told := o_told.same sw4
    let HL := H'
    have freshl : ∀ a ∈ (p_told :: S), a ∉ (p_told :: S) → H' a = none := fun a m n => absurd m n
    have frl : Fr (p_told :: S) HL H' := Fr.refl (T := (p_told :: S)) H'
    have tsl := ts
    have subl : Sub (p_told :: S) (p_told :: S) := fun a m => m
    have iml_told := im_told
    obtain ⟨here_5, e5, hm⟩ := bd_some hm
    refine q_asg (T := []) dm (ev_ownIx o_told nt_told ts rfl (ev_neg (ev_int (K := K)))) e5 (fun v_here H5 s5 h_here => ?_)
    have fr0 := fr0.trans (Fr.same s5)
    have dm := dm.same s5
    have frl := frl.trans (Fr.same s5)
    have h_row := ((tL (tT2 tRat tRat)) : Ty K (List (Rat × Rat))).mono (S := (p_told :: S)) (Fr.same s5) h_row
    have h_tolerance := (tInt : Ty K Int).mono (S := (p_told :: S)) (Fr.same s5) h_tolerance
    have h_held := ((tSq tInt) : Ty K (List Int)).mono (S := (p_told :: S)) (Fr.same s5) h_held
    have h_ends := ((tL (tL tInt)) : Ty K (List (List Int))).mono (S := (p_told :: S)) (Fr.same s5) h_ends
    have h_counts := ((tL tInt) : Ty K (List Int)).mono (S := (p_told :: S)) (Fr.same s5) h_counts
    have o_told := o_told.same s5
    have h_here : (tInt : Ty K Int).rp (p_told :: S) H5 v_here here_5 := h_here
    obtain ⟨a8, e8, hm⟩ := bd_some hm
    obtain ⟨told_9, f8, hm⟩ := bd_some hm
    refine l_app (T := []) dm o_told im_told nt_told ts rfl (ev_min (ev_new (ev_lcF (sr_list (ev_op od_ixL (ev_var ts h_ends rfl) (ev_var ts h_here rfl))) (fun v => by rfl) (fun last_7 v_last H2' H' p' fr' nD' sm' h_last => by have h_row := ((tL (tT2 tRat tRat)) : Ty K (List (Rat × Rat))).mono (Fr.same sm') (((tL (tT2 tRat tRat)) : Ty K (List (Rat × Rat))).ext (S := (p_told :: S)) nD' (((tL (tT2 tRat tRat)) : Ty K (List (Rat × Rat))).mono (Fr.sub ts fr') h_row)); have h_tolerance := (tInt : Ty K Int).mono (Fr.same sm') ((tInt : Ty K Int).ext (S := (p_told :: S)) nD' ((tInt : Ty K Int).mono (Fr.sub ts fr') h_tolerance)); have h_held := ((tSq tInt) : Ty K (List Int)).mono (Fr.same sm') (((tSq tInt) : Ty K (List Int)).ext (S := (p_told :: S)) nD' (((tSq tInt) : Ty K (List Int)).mono (Fr.sub ts fr') h_held)); have h_ends := ((tL (tL tInt)) : Ty K (List (List Int))).mono (Fr.same sm') (((tL (tL tInt)) : Ty K (List (List Int))).ext (S := (p_told :: S)) nD' (((tL (tL tInt)) : Ty K (List (List Int))).mono (Fr.sub ts fr') h_ends)); have h_counts := ((tL tInt) : Ty K (List Int)).mono (Fr.same sm') (((tL tInt) : Ty K (List Int)).ext (S := (p_told :: S)) nD' (((tL tInt) : Ty K (List Int)).mono (Fr.sub ts fr') h_counts)); have h_here := (tInt : Ty K Int).mono (Fr.same sm') ((tInt : Ty K Int).ext (S := (p_told :: S)) nD' ((tInt : Ty K Int).mono (Fr.sub ts fr') h_here)); have ts0' := ts; have ts : Sub [] (p' :: (p_told :: S)) := (fun a m => by simp at m);  have o_told := ((o_told.fr fr' ts0' nt_told).ext nD').same sm'; have nt_told : p_told ∉ [] := (by simp); exact (eb_test (K := K) (ev_op (od_eqI (K := K)) (ev_op od_ixL (ev_var ts h_counts rfl) (ev_var ts h_last rfl)) (ev_op (od_sub (K := K)) (ev_op od_ixL (ev_var ts h_counts rfl) (ev_var ts h_here rfl)) (ev_int (K := K)))))) (fun last_7 v_last H2' H' p' fr' nD' sm' h_last => by have h_row := ((tL (tT2 tRat tRat)) : Ty K (List (Rat × Rat))).mono (Fr.same sm') (((tL (tT2 tRat tRat)) : Ty K (List (Rat × Rat))).ext (S := (p_told :: S)) nD' (((tL (tT2 tRat tRat)) : Ty K (List (Rat × Rat))).mono (Fr.sub ts fr') h_row)); have h_tolerance := (tInt : Ty K Int).mono (Fr.same sm') ((tInt : Ty K Int).ext (S := (p_told :: S)) nD' ((tInt : Ty K Int).mono (Fr.sub ts fr') h_tolerance)); have h_held := ((tSq tInt) : Ty K (List Int)).mono (Fr.same sm') (((tSq tInt) : Ty K (List Int)).ext (S := (p_told :: S)) nD' (((tSq tInt) : Ty K (List Int)).mono (Fr.sub ts fr') h_held)); have h_ends := ((tL (tL tInt)) : Ty K (List (List Int))).mono (Fr.same sm') (((tL (tL tInt)) : Ty K (List (List Int))).ext (S := (p_told :: S)) nD' (((tL (tL tInt)) : Ty K (List (List Int))).mono (Fr.sub ts fr') h_ends)); have h_counts := ((tL tInt) : Ty K (List Int)).mono (Fr.same sm') (((tL tInt) : Ty K (List Int)).ext (S := (p_told :: S)) nD' (((tL tInt) : Ty K (List Int)).mono (Fr.sub ts fr') h_counts)); have h_here := (tInt : Ty K Int).mono (Fr.same sm') ((tInt : Ty K Int).ext (S := (p_told :: S)) nD' ((tInt : Ty K Int).mono (Fr.sub ts fr') h_here)); have ts0' := ts; have ts : Sub [] (p' :: (p_told :: S)) := (fun a m => by simp at m);  have o_told := ((o_told.fr fr' ts0' nt_told).ext nD').same sm'; have nt_told : p_told ∉ [] := (by simp); exact (ev_var ts h_last rfl))))) e8 f8 (fun H8 s8 frx8 o_told => ?_)
    have fr0 := fr0.mut Dom.nil n0_told s8
    have frl := frl.trans (s8.fr iml_told)
    have dm := dm.fx frx8 s8
    have h_row := ((tL (tT2 tRat tRat)) : Ty K (List (Rat × Rat))).mono (S := (p_told :: S)) frx8 h_row
    have h_tolerance := (tInt : Ty K Int).mono (S := (p_told :: S)) frx8 h_tolerance
    have h_held := ((tSq tInt) : Ty K (List Int)).mono (S := (p_told :: S)) frx8 h_held
    have h_ends := ((tL (tL tInt)) : Ty K (List (List Int))).mono (S := (p_told :: S)) frx8 h_ends
    have h_counts := ((tL tInt) : Ty K (List Int)).mono (S := (p_told :: S)) frx8 h_counts
    have h_here := (tInt : Ty K Int).mono (S := (p_told :: S)) frx8 h_here
    cases hm
    exact ⟨_, rfl, frl, ⟨v_row, v_tolerance, v_held, v_ends, v_counts, _, _, rfl, fr0, dm, h_row, h_tolerance, h_held, h_ends, h_counts, o_told⟩⟩
  subst er
  have hm := hm4
  obtain ⟨v_row, v_tolerance, v_held, v_ends, v_counts, f_6, f_7, rfl, fr0, dm, h_row, h_tolerance, h_held, h_ends, h_counts, o_told⟩ := hI
  have fr0 := fr0.trans (Fr.same sw4)
  have dm := dm.same sw4
  have h_row := ((tL (tT2 tRat tRat)) : Ty K (List (Rat × Rat))).mono (S := (p_told :: S)) (Fr.same sw4) h_row
  have h_tolerance := (tInt : Ty K Int).mono (S := (p_told :: S)) (Fr.same sw4) h_tolerance
  have h_held := ((tSq tInt) : Ty K (List Int)).mono (S := (p_told :: S)) (Fr.same sw4) h_held
  have h_ends := ((tL (tL tInt)) : Ty K (List (List Int))).mono (S := (p_told :: S)) (Fr.same sw4) h_ends
  have h_counts := ((tL tInt) : Ty K (List Int)).mono (S := (p_told :: S)) (Fr.same sw4) h_counts
  have o_told := o_told.same sw4
  have er := hm
  cases er
  exact ⟨_, rfl, q _ _ fr0.toSame ⟨p_told, rfl, n0_told, o_told.sub (cons_sub im_told sub0)⟩⟩
def m_leads_through (d_row : (List (Rat × Rat))) (d_told : (List Int)) : Option Bool :=
  (bd (bd (bd (bd (some d_told) fun x => some (!x.isEmpty)) fun x => some (!x)) fun x => if x then some true else (bd (bd (bd (some d_told) fun x => bd (some (0 : Int)) fun y => atI x y) fun x => bd (some (0 : Int)) fun y => some (!decide (x = y))) fun x => if x then some true else (bd (bd (some d_told) fun x => bd (bd (some (1 : Int)) fun x => some (-x)) fun y => atI x y) fun x => bd (bd (bd (some d_row) fun x => some (x.length : Int)) fun x => bd (some (1 : Int)) fun y => some (x - y)) fun y => some (!decide (x = y))))) fun c1 => if c1 then (some false) else (bd (bd (bd (some (1 : Int)) fun x => bd (bd (some d_told) fun x => some (x.length : Int)) fun y => rng2? x y) fun xs => mapL? (fun at_2 => (bd (bd (some d_told) fun x => bd (bd (some at_2) fun x => bd (some (1 : Int)) fun y => some (x - y)) fun y => atI x y) fun x => bd (bd (some d_told) fun x => bd (some at_2) fun y => atI x y) fun y => some (decide (x < y)))) xs) fun x => some (x.all id)))
abbrev sp_leads_through (K : PySem.W.Frag) : Sp := spF (K := K) (aCons (tL (tT2 tRat tRat)) (aCons (tL tInt) aNil)) (fun S => of (K := K) tBool S) (fun a => m_leads_through a.1 a.2.1)
theorem ok_leads_through (ev : Env K mg) : FnOk P w K mg base CX0 1 ev.f_leads_through ev.d_leads_through p_leads_through (sp_leads_through K) := by
  refine ev.A_leads_through.F.ok sc_leads_through (fun vs H Q E h => ?_) (fun cdv A outer s H0 vs Q E hr h => ?_)
  · obtain ⟨S, ⟨d_row, d_told, _⟩, y, _, ⟨v_row, _, rfl, h_row, v_told, _, rfl, h_told, rfl⟩, _⟩ := h
    rfl
  obtain ⟨S, ⟨d_row, d_told, _⟩, y, dm, ⟨v_row, _, rfl, h_row, v_told, _, rfl, h_told, rfl⟩, hm, q⟩ := h
  have ts : Sub [] S := fun a m => by simp at m
  have fr0 := Fr.refl (T := []) H0
  have sub0 : Sub S S := fun a m => m
  refine ⟨_, (pss_cons (ps_if (PW.pt (pw_or (pt_not (pt_truth (pv 1) (by intro _; rfl))) (pw_or (pt_cmpR op_ne (pe_ix ix_list (pv 1) pe_int (fun _ _ => rfl)) pe_int (nomark _)) (pw_or1 (pt_cmpR op_ne (pe_ix ix_list (pv 1) (pe_un un_neg pe_int) (fun _ _ => rfl)) (pe_op op_sub (pe_callB call_len_seq (by rfl) ev.B.len_ PySem.boot_len (pa_cons (pv 0) pa_nil)) pe_int) (nomark _))))))
    (pss_one (ps_ret pe_bl)) pss_nil)
    (pss_one (ps_ret (pe_callB (cr_all rfl) (by rfl) ev.B.all_ (by decide +kernel) (pa_cons (pe_lc (own := [("at", 2)]) (g := gName 2) (tt := tYes) (by rfl) sc_leads_through.nd (pi_range2 rfl ev.B.range_ (pa_cons pe_int (pa_cons (pe_callB call_len_seq (by rfl) ev.B.len_ PySem.boot_len (pa_cons (pv 1) pa_nil)) pa_nil))) (blkOk_by (own := [("at", 2)]) (N := n_leads_through) (sc := defScope s_leads_through) (by decide +kernel)) (fun _ _ _ _ _ => pg_name (i := 2) sc_leads_through.nd rfl (Or.inl rfl)) (fun _ _ _ _ _ => pts_nil) (fun _ _ _ _ _ => (pe_cmpR op_lt (pe_ix (show IxR _ (rIxL K) from ix_list) (pv 1) (pe_op op_sub (pv 2) pe_int) (fun _ _ => rfl)) (pe_ix (show IxR _ (rIxL K) from ix_list) (pv 1) (pv 2) (fun _ _ => rfl)) (nomark _)))) pa_nil))))), ?_⟩
  dsimp only [m_leads_through] at hm
  obtain ⟨c1, e1, hm⟩ := bd_some hm
  refine q_if (T := []) dm (eb_or (eb_not (eb_truL (ev_var ts h_told rfl))) (eb_or (eb_test (K := K) (ev_op (od_neI (K := K)) (ev_op od_ixL (ev_var ts h_told rfl) (ev_int (K := K))) (ev_int (K := K)))) (eb_test (K := K) (ev_op (od_neI (K := K)) (ev_op od_ixL (ev_var ts h_told rfl) (ev_neg (ev_int (K := K)))) (ev_op (od_sub (K := K)) (ev_lenL (ev_var ts h_row rfl)) (ev_int (K := K))))))) e1 (fun hc H1 s1 => ?_) (fun hc H1 s1 => ?_)
  · skip
    subst hc
    have hm := if_t hm
    have fr0 := fr0.trans (Fr.same s1)
    have dm := dm.same s1
    have h_row := ((tL (tT2 tRat tRat)) : Ty K (List (Rat × Rat))).mono (S := S) (Fr.same s1) h_row
    have h_told := ((tL tInt) : Ty K (List Int)).mono (S := S) (Fr.same s1) h_told
    have er := hm
    exact q_ret (T := []) dm (ev_bool (K := K)) er (fun v H3 s3 hv => q v H3 (fr0.trans (Fr.same s3)).toSame ((tBool : Ty K Bool).sub (S := S) (H := H3) sub0 hv))
  subst hc
  have hm := if_f hm
  have fr0 := fr0.trans (Fr.same s1)
  have dm := dm.same s1
  have h_row := ((tL (tT2 tRat tRat)) : Ty K (List (Rat × Rat))).mono (S := S) (Fr.same s1) h_row
  have h_told := ((tL tInt) : Ty K (List Int)).mono (S := S) (Fr.same s1) h_told
  refine q_next ?_
  have er := hm
  exact q_ret (T := []) dm (ev_all (ev_new (ev_lc (sr_r2 (K := K) (ev_int (K := K)) (ev_lenL (ev_var ts h_told rfl))) (fun v => by rfl) (fun at_2 v_at H2' H' p' fr' nD' sm' h_at => by have h_row := ((tL (tT2 tRat tRat)) : Ty K (List (Rat × Rat))).mono (Fr.same sm') (((tL (tT2 tRat tRat)) : Ty K (List (Rat × Rat))).ext (S := S) nD' (((tL (tT2 tRat tRat)) : Ty K (List (Rat × Rat))).mono (Fr.sub ts fr') h_row)); have h_told := ((tL tInt) : Ty K (List Int)).mono (Fr.same sm') (((tL tInt) : Ty K (List Int)).ext (S := S) nD' (((tL tInt) : Ty K (List Int)).mono (Fr.sub ts fr') h_told)); have ts0' := ts; have ts : Sub [] (p' :: S) := (fun a m => by simp at m);  exact (ev_op (od_lt (K := K)) (ev_op od_ixL (ev_var ts h_told rfl) (ev_op (od_sub (K := K)) (ev_var ts h_at rfl) (ev_int (K := K)))) (ev_op od_ixL (ev_var ts h_told rfl) (ev_var ts h_at rfl))))))) er (fun v H4 s4 hv => q v H4 (fr0.trans (Fr.same s4)).toSame ((tBool : Ty K Bool).sub (S := S) (H := H4) sub0 hv))
def m_falls (d_ends : (List (List Int))) (d_numbers : (List Int)) (d_first : Int) (d_last : Int) : Option Bool :=
  (bd (bd (some d_last) fun x => bd (bd (some d_ends) fun x => bd (some d_first) fun y => atI x y) fun y => some (decide (x ∈ y))) fun x => if x then (bd (bd (bd (some d_numbers) fun x => bd (some d_first) fun y => atI x y) fun x => bd (bd (some d_numbers) fun x => bd (some d_last) fun y => atI x y) fun y => some (x - y)) fun x => bd (some (1 : Int)) fun y => some (decide (x = y))) else some false)
abbrev sp_falls (K : PySem.W.Frag) : Sp := spF (K := K) (aCons (tL (tL tInt)) (aCons (tL tInt) (aCons tInt (aCons tInt aNil)))) (fun S => of (K := K) tBool S) (fun a => m_falls a.1 a.2.1 a.2.2.1 a.2.2.2.1)
theorem ok_falls (ev : Env K mg) : FnOk P w K mg base CX0 1 ev.f_falls ev.d_falls p_falls (sp_falls K) := by
  refine ev.A_falls.F.ok sc_falls (fun vs H Q E h => ?_) (fun cdv A outer s H0 vs Q E hr h => ?_)
  · obtain ⟨S, ⟨d_ends, d_numbers, d_first, d_last, _⟩, y, _, ⟨v_ends, _, rfl, h_ends, v_numbers, _, rfl, h_numbers, v_first, _, rfl, h_first, v_last, _, rfl, h_last, rfl⟩, _⟩ := h
    rfl
  obtain ⟨S, ⟨d_ends, d_numbers, d_first, d_last, _⟩, y, dm, ⟨v_ends, _, rfl, h_ends, v_numbers, _, rfl, h_numbers, v_first, _, rfl, h_first, v_last, _, rfl, h_last, rfl⟩, hm, q⟩ := h
  have ts : Sub [] S := fun a m => by simp at m
  have fr0 := Fr.refl (T := []) H0
  have sub0 : Sub S S := fun a m => m
  refine ⟨_, (pss_one (ps_ret (pe_and (pe_cmpR op_in_seq (pv 3) (pe_ix ix_list (pv 0) (pv 2) (fun _ _ => rfl)) (by rfl)) (pe_one (pe_cmpR op_eq (pe_op op_sub (pe_ix ix_list (pv 1) (pv 2) (fun _ _ => rfl)) (pe_ix ix_list (pv 1) (pv 3) (fun _ _ => rfl))) pe_int (nomark _)))))), ?_⟩
  dsimp only [m_falls] at hm
  have er := hm
  exact q_ret (T := []) dm (ev_and (ev_op (od_inI (K := K) (neg := false)) (ev_var ts h_last rfl) (ev_op od_ixL (ev_var ts h_ends rfl) (ev_var ts h_first rfl))) (ev_op (od_eqI (K := K)) (ev_op (od_sub (K := K)) (ev_op od_ixL (ev_var ts h_numbers rfl) (ev_var ts h_first rfl)) (ev_op od_ixL (ev_var ts h_numbers rfl) (ev_var ts h_last rfl))) (ev_int (K := K)))) er (fun v H1 s1 hv => q v H1 (fr0.trans (Fr.same s1)).toSame ((tBool : Ty K Bool).sub (S := S) (H := H1) sub0 hv))
def m_kept_holds (d_row : (List (Rat × Rat))) (d_tolerance : Int) (d_told : (List Int)) (d_numbers : (List Int)) (d_held : (List Int)) : Option Bool :=
  (bd (bd (bd (bd (some d_numbers) fun x => some (x.length : Int)) fun x => bd (bd (some d_row) fun x => some (x.length : Int)) fun y => some (!decide (x = y))) fun x => if x then some true else (bd (bd (bd (some d_numbers) fun x => bd (bd (some (1 : Int)) fun x => some (-x)) fun y => atI x y) fun x => bd (some (0 : Int)) fun y => some (!decide (x = y))) fun x => if x then some true else (bd (bd (bd (some d_row) fun x => bd (bd (some d_told) fun x => bd (some ()) fun y => some (x, y)) fun y => some (x, y)) fun a => m_leads_through a.1 a.2.1) fun x => some (!x)))) fun c1 => if c1 then (some false) else (bd (bd (bd (some d_row) fun x => bd (bd (some d_tolerance) fun x => bd (bd (some d_held) fun x => bd (some ()) fun y => some (x, y)) fun y => some (x, y)) fun y => some (x, y)) fun a => m_ends_of a.1 a.2.1 a.2.2.1) fun ends_2 => (bd (bd (bd (some d_row) fun x => some (x.length : Int)) rng1?) fun xs7 => bd (loopC (ρ := Bool) (fun s_3 first_3 => (bd (bd (bd (bd (some ends_2) fun x => bd (some first_3) fun y => atI x y) fun xs => mapL? (fun last_4 => (bd (bd (bd (some d_numbers) fun x => bd (some first_3) fun y => atI x y) fun x => bd (bd (some d_numbers) fun x => bd (some last_4) fun y => atI x y) fun y => some (x - y)) fun x => bd (some (1 : Int)) fun y => some (decide (y < x)))) xs) fun x => some (x.any id)) fun c5 => if c5 then (bd (some false) fun y => some (Ct.ret y)) else some (Ct.go ()))) xs7 ()) fun r_3 => match r_3 with | .ret y => some y | .go t_3 => (bd (bd (bd (some (1 : Int)) fun x => bd (bd (some d_told) fun x => some (x.length : Int)) fun y => rng2? x y) fun xs => mapL? (fun at_6 => (bd (bd (some ends_2) fun x => bd (bd (some d_numbers) fun x => bd (bd (bd (some d_told) fun x => bd (bd (some at_6) fun x => bd (some (1 : Int)) fun y => some (x - y)) fun y => atI x y) fun x => bd (bd (bd (some d_told) fun x => bd (some at_6) fun y => atI x y) fun x => bd (some ()) fun y => some (x, y)) fun y => some (x, y)) fun y => some (x, y)) fun y => some (x, y)) fun a => m_falls a.1 a.2.1 a.2.2.1 a.2.2.2.1)) xs) fun x => some (x.all id)) | .brk _ => none)))
abbrev sp_kept_holds (K : PySem.W.Frag) : Sp := spF (K := K) (aCons (tL (tT2 tRat tRat)) (aCons tInt (aCons (tL tInt) (aCons (tL tInt) (aCons (tSq tInt) aNil))))) (fun S => of (K := K) tBool S) (fun a => m_kept_holds a.1 a.2.1 a.2.2.1 a.2.2.2.1 a.2.2.2.2.1)
theorem ok_kept_holds (ev : Env K mg) : FnOk P w K mg base CX0 8 ev.f_kept_holds ev.d_kept_holds p_kept_holds (sp_kept_holds K) := by
  refine ev.A_kept_holds.F.ok sc_kept_holds (fun vs H Q E h => ?_) (fun cdv A outer s H0 vs Q E hr h => ?_)
  · obtain ⟨S, ⟨d_row, d_tolerance, d_told, d_numbers, d_held, _⟩, y, _, ⟨v_row, _, rfl, h_row, v_tolerance, _, rfl, h_tolerance, v_told, _, rfl, h_told, v_numbers, _, rfl, h_numbers, v_held, _, rfl, h_held, rfl⟩, _⟩ := h
    rfl
  obtain ⟨S, ⟨d_row, d_tolerance, d_told, d_numbers, d_held, _⟩, y, dm, ⟨v_row, _, rfl, h_row, v_tolerance, _, rfl, h_tolerance, v_told, _, rfl, h_told, v_numbers, _, rfl, h_numbers, v_held, _, rfl, h_held, rfl⟩, hm, q⟩ := h
  have ts : Sub [] S := fun a m => by simp at m
  have fr0 := Fr.refl (T := []) H0
  have sub0 : Sub S S := fun a m => m
  refine ⟨_, (pss_cons (ps_if (PW.pt (pw_or (pt_cmpR op_ne (pe_callB call_len_seq (by rfl) ev.B.len_ PySem.boot_len (pa_cons (pv 3) pa_nil)) (pe_callB call_len_seq (by rfl) ev.B.len_ PySem.boot_len (pa_cons (pv 0) pa_nil)) (nomark _)) (pw_or (pt_cmpR op_ne (pe_ix ix_list (pv 3) (pe_un un_neg pe_int) (fun _ _ => rfl)) pe_int (nomark _)) (pw_or1 (pt_not (pt_val (pe_call (ok_leads_through ev) (hr.mono (by decide)) (by rfl) ev.A_leads_through.m ev.A_leads_through.F.kp ev.A_leads_through.b .nil pass0 (pa_cons (pv 0) (pa_cons (pv 2) pa_nil)))))))))
    (pss_one (ps_ret pe_bl)) pss_nil)
    (pss_cons (ps_set (i := 5) sc_kept_holds.nd rfl (Or.inr rfl) (pe_call (ok_ends_of ev) (hr.mono (by decide)) (by rfl) ev.A_ends_of.m ev.A_ends_of.F.kp ev.A_ends_of.b .nil pass0 (pa_cons (pv 0) (pa_cons (pv 1) (pa_cons (pv 4) pa_nil)))))
    (pss_cons (ps_for PassesOwn.never rfl (pi_range1 rfl ev.B.range_ (pa_cons (pe_callB call_len_seq (by rfl) ev.B.len_ PySem.boot_len (pa_cons (pv 0) pa_nil)) pa_nil)) (pg_name (i := 6) sc_kept_holds.nd rfl (Or.inr rfl))
    (pss_one (ps_if (pt_val (pe_callB (cr_any rfl) (by rfl) ev.B.any_ (by decide +kernel) (pa_cons (pe_lc (own := [("last", 7)]) (g := gName 7) (tt := tYes) (by rfl) sc_kept_holds.nd (pi_list (pe_ix ix_list (pv 5) (pv 6) (fun _ _ => rfl))) (blkOk_by (own := [("last", 7)]) (N := n_kept_holds) (sc := defScope s_kept_holds) (by decide +kernel)) (fun _ _ _ _ _ => pg_name (i := 7) sc_kept_holds.nd rfl (Or.inl rfl)) (fun _ _ _ _ _ => pts_nil) (fun _ _ _ _ _ => (pe_cmpR op_gt (pe_op op_sub (pe_ix (show IxR _ (rIxL K) from ix_list) (pv 3) (pv 6) (fun _ _ => rfl)) (pe_ix (show IxR _ (rIxL K) from ix_list) (pv 3) (pv 7) (fun _ _ => rfl))) pe_int (nomark _)))) pa_nil)))
    (pss_one (ps_ret pe_bl)) pss_nil)))
    (pss_one (ps_ret (pe_callB (cr_all rfl) (by rfl) ev.B.all_ (by decide +kernel) (pa_cons (pe_lc (own := [("at", 8)]) (g := gName 8) (tt := tYes) (by rfl) sc_kept_holds.nd (pi_range2 rfl ev.B.range_ (pa_cons pe_int (pa_cons (pe_callB call_len_seq (by rfl) ev.B.len_ PySem.boot_len (pa_cons (pv 2) pa_nil)) pa_nil))) (blkOk_by (own := [("at", 8)]) (N := n_kept_holds) (sc := defScope s_kept_holds) (by decide +kernel)) (fun _ _ _ _ _ => pg_name (i := 8) sc_kept_holds.nd rfl (Or.inl rfl)) (fun _ _ _ _ _ => pts_nil) (fun _ _ _ _ _ => (pe_call (ok_falls ev) (hr.mono (by decide)) (by rfl) ev.A_falls.m ev.A_falls.F.kp ev.A_falls.b .nil pass0 (pa_cons (pv 5) (pa_cons (pv 3) (pa_cons (pe_ix (show IxR _ (rIxL K) from ix_list) (pv 2) (pe_op op_sub (pv 8) pe_int) (fun _ _ => rfl)) (pa_cons (pe_ix (show IxR _ (rIxL K) from ix_list) (pv 2) (pv 8) (fun _ _ => rfl)) pa_nil))))))) pa_nil))))))), ?_⟩
  dsimp only [m_kept_holds] at hm
  obtain ⟨c1, e1, hm⟩ := bd_some hm
  refine q_if (T := []) dm (eb_or (eb_test (K := K) (ev_op (od_neI (K := K)) (ev_lenL (ev_var ts h_numbers rfl)) (ev_lenL (ev_var ts h_row rfl)))) (eb_or (eb_test (K := K) (ev_op (od_neI (K := K)) (ev_op od_ixL (ev_var ts h_numbers rfl) (ev_neg (ev_int (K := K)))) (ev_int (K := K)))) (eb_not (eb_B (K := K) (ev_call (ea_cons (ev_var ts h_row rfl) (ea_cons (ev_var ts h_told rfl) ea_nil))))))) e1 (fun hc H1 s1 => ?_) (fun hc H1 s1 => ?_)
  · skip
    subst hc
    have hm := if_t hm
    have fr0 := fr0.trans (Fr.same s1)
    have dm := dm.same s1
    have h_row := ((tL (tT2 tRat tRat)) : Ty K (List (Rat × Rat))).mono (S := S) (Fr.same s1) h_row
    have h_tolerance := (tInt : Ty K Int).mono (S := S) (Fr.same s1) h_tolerance
    have h_told := ((tL tInt) : Ty K (List Int)).mono (S := S) (Fr.same s1) h_told
    have h_numbers := ((tL tInt) : Ty K (List Int)).mono (S := S) (Fr.same s1) h_numbers
    have h_held := ((tSq tInt) : Ty K (List Int)).mono (S := S) (Fr.same s1) h_held
    have er := hm
    exact q_ret (T := []) dm (ev_bool (K := K)) er (fun v H8 s8 hv => q v H8 (fr0.trans (Fr.same s8)).toSame ((tBool : Ty K Bool).sub (S := S) (H := H8) sub0 hv))
  subst hc
  have hm := if_f hm
  have fr0 := fr0.trans (Fr.same s1)
  have dm := dm.same s1
  have h_row := ((tL (tT2 tRat tRat)) : Ty K (List (Rat × Rat))).mono (S := S) (Fr.same s1) h_row
  have h_tolerance := (tInt : Ty K Int).mono (S := S) (Fr.same s1) h_tolerance
  have h_told := ((tL tInt) : Ty K (List Int)).mono (S := S) (Fr.same s1) h_told
  have h_numbers := ((tL tInt) : Ty K (List Int)).mono (S := S) (Fr.same s1) h_numbers
  have h_held := ((tSq tInt) : Ty K (List Int)).mono (S := S) (Fr.same s1) h_held
  refine q_next ?_
  obtain ⟨ends_2, e2, hm⟩ := bd_some hm
  refine q_asg (T := []) dm (ev_new (ev_call (ea_cons (ev_var ts h_row rfl) (ea_cons (ev_var ts h_tolerance rfl) (ea_cons (ev_var ts h_held rfl) ea_nil))))) e2 (fun v_ends H2 s2 h_ends => ?_)
  have fr0 := fr0.trans (Fr.same s2)
  have dm := dm.same s2
  have h_row := ((tL (tT2 tRat tRat)) : Ty K (List (Rat × Rat))).mono (S := S) (Fr.same s2) h_row
  have h_tolerance := (tInt : Ty K Int).mono (S := S) (Fr.same s2) h_tolerance
  have h_told := ((tL tInt) : Ty K (List Int)).mono (S := S) (Fr.same s2) h_told
  have h_numbers := ((tL tInt) : Ty K (List Int)).mono (S := S) (Fr.same s2) h_numbers
  have h_held := ((tSq tInt) : Ty K (List Int)).mono (S := S) (Fr.same s2) h_held
  have h_ends : ((tL (tL tInt)) : Ty K (List (List Int))).rp S H2 v_ends ends_2 := h_ends
  obtain ⟨xs7, e_xs7, hm⟩ := bd_some hm
  obtain ⟨r_3, el3, hm3⟩ := bd_some hm
  refine q_for_s (T := []) dm (sr_r1 (K := K) (ev_lenL (ev_var ts h_row rfl))) e_xs7 el3 (fun s_3 σ' H' => ∃ v_row : V, ∃ v_tolerance : V, ∃ v_told : V, ∃ v_numbers : V, ∃ v_held : V, ∃ v_ends : V, ∃ f_6 : Option V, ∃ f_7 : Option V, ∃ f_8 : Option V, σ' = [some v_row, some v_tolerance, some v_told, some v_numbers, some v_held, some v_ends, f_6, f_7, f_8] ∧ Fr [] H0 H' ∧ Dom S H' ∧ ((tL (tT2 tRat tRat)) : Ty K (List (Rat × Rat))).rp S H' v_row d_row ∧ (tInt : Ty K Int).rp S H' v_tolerance d_tolerance ∧ ((tL tInt) : Ty K (List Int)).rp S H' v_told d_told ∧ ((tL tInt) : Ty K (List Int)).rp S H' v_numbers d_numbers ∧ ((tSq tInt) : Ty K (List Int)).rp S H' v_held d_held ∧ ((tL (tL tInt)) : Ty K (List (List Int))).rp S H' v_ends ends_2) (fun H3 s3 => ?_) (fun hd3 s_3 first_3 cr3 v_first σ' H' hI h_first hx3 hm hret3 hbrk3 => ?_) (fun t_3 σ' H' er hI => ?_)
  · skip
    have fr0 := fr0.trans (Fr.same s3)
    have dm := dm.same s3
    have h_row := ((tL (tT2 tRat tRat)) : Ty K (List (Rat × Rat))).mono (S := S) (Fr.same s3) h_row
    have h_tolerance := (tInt : Ty K Int).mono (S := S) (Fr.same s3) h_tolerance
    have h_told := ((tL tInt) : Ty K (List Int)).mono (S := S) (Fr.same s3) h_told
    have h_numbers := ((tL tInt) : Ty K (List Int)).mono (S := S) (Fr.same s3) h_numbers
    have h_held := ((tSq tInt) : Ty K (List Int)).mono (S := S) (Fr.same s3) h_held
    have h_ends := ((tL (tL tInt)) : Ty K (List (List Int))).mono (S := S) (Fr.same s3) h_ends
    exact ⟨v_row, v_tolerance, v_told, v_numbers, v_held, v_ends, _, _, _, rfl, fr0, dm, h_row, h_tolerance, h_told, h_numbers, h_held, h_ends⟩
  · skip
    obtain ⟨v_row, v_tolerance, v_told, v_numbers, v_held, v_ends, f_6, f_7, f_8, rfl, fr0, dm, h_row, h_tolerance, h_told, h_numbers, h_held, h_ends⟩ := hI
    let HL := H'
    have freshl : ∀ a ∈ S, a ∉ S → H' a = none := fun a m n => absurd m n
    have frl : Fr S HL H' := Fr.refl (T := S) H'
    have tsl := ts
    have subl : Sub S S := fun a m => m
    have h_first : (tInt : Ty K Int).rp S H' v_first first_3 := h_first
    obtain ⟨c5, e5, hm⟩ := bd_some hm
    refine l_if (T := []) dm (eb_B (K := K) (ev_any (ev_new (ev_lc (sr_list (ev_op od_ixL (ev_var ts h_ends rfl) (ev_var ts h_first rfl))) (fun v => by rfl) (fun last_4 v_last H2' H' p' fr' nD' sm' h_last => by have h_row := ((tL (tT2 tRat tRat)) : Ty K (List (Rat × Rat))).mono (Fr.same sm') (((tL (tT2 tRat tRat)) : Ty K (List (Rat × Rat))).ext (S := S) nD' (((tL (tT2 tRat tRat)) : Ty K (List (Rat × Rat))).mono (Fr.sub ts fr') h_row)); have h_tolerance := (tInt : Ty K Int).mono (Fr.same sm') ((tInt : Ty K Int).ext (S := S) nD' ((tInt : Ty K Int).mono (Fr.sub ts fr') h_tolerance)); have h_told := ((tL tInt) : Ty K (List Int)).mono (Fr.same sm') (((tL tInt) : Ty K (List Int)).ext (S := S) nD' (((tL tInt) : Ty K (List Int)).mono (Fr.sub ts fr') h_told)); have h_numbers := ((tL tInt) : Ty K (List Int)).mono (Fr.same sm') (((tL tInt) : Ty K (List Int)).ext (S := S) nD' (((tL tInt) : Ty K (List Int)).mono (Fr.sub ts fr') h_numbers)); have h_held := ((tSq tInt) : Ty K (List Int)).mono (Fr.same sm') (((tSq tInt) : Ty K (List Int)).ext (S := S) nD' (((tSq tInt) : Ty K (List Int)).mono (Fr.sub ts fr') h_held)); have h_ends := ((tL (tL tInt)) : Ty K (List (List Int))).mono (Fr.same sm') (((tL (tL tInt)) : Ty K (List (List Int))).ext (S := S) nD' (((tL (tL tInt)) : Ty K (List (List Int))).mono (Fr.sub ts fr') h_ends)); have h_first := (tInt : Ty K Int).mono (Fr.same sm') ((tInt : Ty K Int).ext (S := S) nD' ((tInt : Ty K Int).mono (Fr.sub ts fr') h_first)); have ts0' := ts; have ts : Sub [] (p' :: S) := (fun a m => by simp at m);  exact (ev_op (od_gt (K := K)) (ev_op (od_sub (K := K)) (ev_op od_ixL (ev_var ts h_numbers rfl) (ev_var ts h_first rfl)) (ev_op od_ixL (ev_var ts h_numbers rfl) (ev_var ts h_last rfl))) (ev_int (K := K)))))))) e5 (fun hc H5 s5 => ?_) (fun hc H5 s5 => ?_)
    · skip
      subst hc
      have hm := if_t hm
      have fr0 := fr0.trans (Fr.same s5)
      have dm := dm.same s5
      have frl := frl.trans (Fr.same s5)
      have h_row := ((tL (tT2 tRat tRat)) : Ty K (List (Rat × Rat))).mono (S := S) (Fr.same s5) h_row
      have h_tolerance := (tInt : Ty K Int).mono (S := S) (Fr.same s5) h_tolerance
      have h_told := ((tL tInt) : Ty K (List Int)).mono (S := S) (Fr.same s5) h_told
      have h_numbers := ((tL tInt) : Ty K (List Int)).mono (S := S) (Fr.same s5) h_numbers
      have h_held := ((tSq tInt) : Ty K (List Int)).mono (S := S) (Fr.same s5) h_held
      have h_ends := ((tL (tL tInt)) : Ty K (List (List Int))).mono (S := S) (Fr.same s5) h_ends
      have h_first := (tInt : Ty K Int).mono (S := S) (Fr.same s5) h_first
      obtain ⟨z9, er, hm⟩ := bd_some hm
      cases hm
      have er3 := hret3 _ rfl
      subst er3
      cases hm3
      exact q_ret (T := []) dm (ev_bool (K := K)) er (fun v H9 s9 hv => q v H9 (fr0.trans (Fr.same s9)).toSame ((tBool : Ty K Bool).sub (S := S) (H := H9) sub0 hv))
    subst hc
    have hm := if_f hm
    have fr0 := fr0.trans (Fr.same s5)
    have dm := dm.same s5
    have frl := frl.trans (Fr.same s5)
    have h_row := ((tL (tT2 tRat tRat)) : Ty K (List (Rat × Rat))).mono (S := S) (Fr.same s5) h_row
    have h_tolerance := (tInt : Ty K Int).mono (S := S) (Fr.same s5) h_tolerance
    have h_told := ((tL tInt) : Ty K (List Int)).mono (S := S) (Fr.same s5) h_told
    have h_numbers := ((tL tInt) : Ty K (List Int)).mono (S := S) (Fr.same s5) h_numbers
    have h_held := ((tSq tInt) : Ty K (List Int)).mono (S := S) (Fr.same s5) h_held
    have h_ends := ((tL (tL tInt)) : Ty K (List (List Int))).mono (S := S) (Fr.same s5) h_ends
    have h_first := (tInt : Ty K Int).mono (S := S) (Fr.same s5) h_first
    refine l_next ?_
    cases hm
    exact ⟨_, rfl, frl, ⟨v_row, v_tolerance, v_told, v_numbers, v_held, v_ends, _, _, _, rfl, fr0, dm, h_row, h_tolerance, h_told, h_numbers, h_held, h_ends⟩⟩
  subst er
  have hm := hm3
  obtain ⟨v_row, v_tolerance, v_told, v_numbers, v_held, v_ends, f_6, f_7, f_8, rfl, fr0, dm, h_row, h_tolerance, h_told, h_numbers, h_held, h_ends⟩ := hI
  have er := hm
  exact q_ret (T := []) dm (ev_all (ev_new (ev_lc (sr_r2 (K := K) (ev_int (K := K)) (ev_lenL (ev_var ts h_told rfl))) (fun v => by rfl) (fun at_6 v_at H2' H' p' fr' nD' sm' h_at => by have h_row := ((tL (tT2 tRat tRat)) : Ty K (List (Rat × Rat))).mono (Fr.same sm') (((tL (tT2 tRat tRat)) : Ty K (List (Rat × Rat))).ext (S := S) nD' (((tL (tT2 tRat tRat)) : Ty K (List (Rat × Rat))).mono (Fr.sub ts fr') h_row)); have h_tolerance := (tInt : Ty K Int).mono (Fr.same sm') ((tInt : Ty K Int).ext (S := S) nD' ((tInt : Ty K Int).mono (Fr.sub ts fr') h_tolerance)); have h_told := ((tL tInt) : Ty K (List Int)).mono (Fr.same sm') (((tL tInt) : Ty K (List Int)).ext (S := S) nD' (((tL tInt) : Ty K (List Int)).mono (Fr.sub ts fr') h_told)); have h_numbers := ((tL tInt) : Ty K (List Int)).mono (Fr.same sm') (((tL tInt) : Ty K (List Int)).ext (S := S) nD' (((tL tInt) : Ty K (List Int)).mono (Fr.sub ts fr') h_numbers)); have h_held := ((tSq tInt) : Ty K (List Int)).mono (Fr.same sm') (((tSq tInt) : Ty K (List Int)).ext (S := S) nD' (((tSq tInt) : Ty K (List Int)).mono (Fr.sub ts fr') h_held)); have h_ends := ((tL (tL tInt)) : Ty K (List (List Int))).mono (Fr.same sm') (((tL (tL tInt)) : Ty K (List (List Int))).ext (S := S) nD' (((tL (tL tInt)) : Ty K (List (List Int))).mono (Fr.sub ts fr') h_ends)); have ts0' := ts; have ts : Sub [] (p' :: S) := (fun a m => by simp at m);  exact (ev_call (ea_cons (ev_var ts h_ends rfl) (ea_cons (ev_var ts h_numbers rfl) (ea_cons (ev_op od_ixL (ev_var ts h_told rfl) (ev_op (od_sub (K := K)) (ev_var ts h_at rfl) (ev_int (K := K)))) (ea_cons (ev_op od_ixL (ev_var ts h_told rfl) (ev_var ts h_at rfl)) ea_nil))))))))) er (fun v H10 s10 hv => q v H10 (fr0.trans (Fr.same s10)).toSame ((tBool : Ty K Bool).sub (S := S) (H := H10) sub0 hv))
end
end G

namespace G
open PySem L2 M
section
variable {P : Program} {w : World} {K : PySem.W.Frag} {mg : Str → Option Value} {base : Heap}

/-! ### the bag -/
def spBag (K : PySem.W.Frag) : Sp := fun vs H Q _ => ∃ (a : Addr) (ns : List Int), vs = [.ref a] ∧ SqL K H a (ns.map V.int) ∧ ns.length ≤ 63 ∧ ∀ b c H', Bag H' b c → H b = none → H c = none → Same H H' → Q (.ref b) H'
theorem ok_law_open (ev : Env K mg) : FnOk P w K mg base CX0 1 ev.f_law_open ev.d_law_open p_law_open (spBag K) := by
  refine ev.A_law_open.F.ok sc_law_open (fun vs H Q E h => ?_) (fun cdv A outer s H vs Q E hr h => ?_)
  · obtain ⟨a, ns, rfl, _⟩ := h
    rfl
  obtain ⟨a, ns, rfl, hS, hl, q⟩ := h
  refine ⟨_, (pss_one (ps_ret (pe_lst (pa_cons (pe_callTy call_list_of (by rfl) ev.B.list_ (by decide +kernel) (pa_cons (pe_slice sl_list (pv 0) po_none (po_some pe_int)) pa_nil)) (pa_cons pe_int (pa_cons pe_int (pa_cons pe_int (pa_cons pe_int pa_nil)))))))), ?_⟩
  obtain ⟨ms, em, lm⟩ := cut_ints ns none (some 63)
  refine ⟨_, rfl, _, rfl, a, _, rfl, hS, fun d nd => ?_⟩
  have s1 : Same H (upd H d (.lst (cutV (ns.map V.int) none (some 63)))) := same_upd nd
  refine ⟨d, _, rfl, .inl (SqL.of upd_same), fun c nc => ?_⟩
  have s2 := s1.trans (same_upd (o := .lst (cutV (ns.map V.int) none (some 63))) nc)
  refine ⟨(by show 5 ≤ sizeLine; decide), fun b nb => ?_⟩
  have ne : b ≠ c := fun z => by
    rw [z, upd_same] at nb
    cases nb
  refine q b c _ ⟨ne, ms, (0, 0), (811, 0), upd_same, ?_, by omega, by decide, by decide, by decide, by decide⟩ (s2.free nb) (s1.free nc) (s2.trans (same_upd nb))
  rw [upd_ne ne.symm, upd_same, em]

/-! ### a draw -/
def Els (b c : Addr) (H H' : Hp) : Prop := ∀ p, p ≠ b → p ≠ c → H' p = H p
theorem Els.trans {b c : Addr} {H H' H'' : Hp} (h : Els b c H H') (h' : Els b c H' H'') : Els b c H H'' := fun p n m => (h' p n m).trans (h p n m)
theorem Els.kept {b c : Addr} {H H' : Hp} (h : Els b c H H') : Kept b c H H' := fun p _ e n m => (h p n m).trans e
theorem Els.updb {b c : Addr} {H H' : Hp} {o : HO} (h : Els b c H H') : Els b c H (upd H' b o) := fun p n m => by rw [upd_ne n]; exact h p n m
theorem Els.tup {b c p : Addr} {H H' : Hp} {xs : List V} (h : Els b c H H') (hB : Bag H b c) (e : H p = some (.tup xs)) : H' p = some (.tup xs) := by
  obtain ⟨n1, n2⟩ := hB.tup e
  exact (h p n1 n2).trans e
def spDraw : Sp := fun vs H Q _ => ∃ (b c : Addr) (m : Int), vs = [.ref b, .int m] ∧ Bag H b c ∧ 0 < m ∧ m < 1073741824 ∧ ∀ (r : Int) (H' : Hp), 0 ≤ r → r < m → Bag H' b c → Els b c H H' → Q (.int r) H'
theorem ok_law_pull (ev : Env K mg) : FnOk P w K mg base CX0 1 ev.f_law_pull ev.d_law_pull p_law_pull spDraw := by
  refine ev.A_law_pull.F.ok sc_law_pull (fun vs H Q E h => ?_) (fun cdv A outer s H vs Q E hr h => ?_)
  · obtain ⟨b, c, m, rfl, _⟩ := h
    rfl
  obtain ⟨b, c, m, rfl, ⟨ne, ns, sl, sd, hb, hc, hn, h0, h1, h2, h3⟩, m0, m1, q⟩ := h
  refine ⟨_, (pss_cons (ps_asg (pe_op op_add (pe_ix ix_list (pv 0) pe_int (fun _ _ => rfl)) pe_int) (pg_sub (pv 0) pe_int set_list))
    (pss_cons (ps_if (PW.pt (pw_and (pt_cmpR op_lt (pe_ix ix_list (pv 0) pe_int (fun _ _ => rfl)) (pv 1) (nomark _)) (pw_and1 (pt_cmpR op_lt (pe_ix ix_list (pv 0) pe_int (fun _ _ => rfl)) (pe_callB call_len_seq (by rfl) ev.B.len_ PySem.boot_len (pa_cons (pe_ix ix_list (pv 0) pe_int (fun _ _ => rfl)) pa_nil)) (nomark _)))))
    (pss_cons (ps_set (i := 2) sc_law_pull.nd rfl (Or.inl rfl) (pe_ix ix_list (pe_ix ix_list (pv 0) pe_int (fun _ _ => rfl)) (pe_ix ix_list (pv 0) pe_int (fun _ _ => rfl)) (fun _ _ => rfl)))
    (pss_cons (ps_asg (pe_op op_add (pe_ix ix_list (pv 0) pe_int (fun _ _ => rfl)) pe_int) (pg_sub (pv 0) pe_int set_list))
    (pss_cons (ps_asg (pe_ifExp (pt_cmpR op_ge (pv 2) (pe_op op_pow pe_int pe_int) (nomark _)) (pv 2) pe_int) (pg_sub (pv 0) pe_int set_list))
    (pss_one (ps_asg (pe_op op_mod (pe_op op_add (pe_op op_add (pe_op op_mul (pe_ix ix_list (pv 0) pe_int (fun _ _ => rfl)) pe_int) (pe_op op_mul (pe_op op_mod (pv 2) pe_int) pe_int)) pe_int) pe_int) (pg_sub (pv 0) pe_int set_list)))))) pss_nil)
    (pss_cons (ps_if (pt_cmpR op_ge (pe_ix ix_list (pv 0) pe_int (fun _ _ => rfl)) (pv 1) (nomark _))
    (pss_cons (ps_set (i := 3) sc_law_pull.nd rfl (Or.inl rfl) (pe_op op_mod (pe_ix ix_list (pv 0) pe_int (fun _ _ => rfl)) (pv 1)))
    (pss_cons (ps_asg (pe_op op_fdiv (pe_ix ix_list (pv 0) pe_int (fun _ _ => rfl)) (pv 1)) (pg_sub (pv 0) pe_int set_list))
    (pss_one (ps_ret (pv 3))))) pss_nil)
    (pss_cons (ps_asg (pe_op op_mod (pe_op op_add (pe_op op_add (pe_op op_mul (pe_ix ix_list (pv 0) pe_int (fun _ _ => rfl)) pe_int) (pe_op op_mul (pe_ix ix_list (pv 0) pe_int (fun _ _ => rfl)) pe_int)) pe_int) pe_int) (pg_sub (pv 0) pe_int set_list))
    (pss_one (ps_ret (pe_op op_mod (pe_op op_add (pe_op op_fdiv (pe_op op_mul (pe_ix ix_list (pv 0) pe_int (fun _ _ => rfl)) (pe_ix ix_list (pv 0) pe_int (fun _ _ => rfl))) pe_int) (pe_op op_fdiv (pe_ix ix_list (pv 0) pe_int (fun _ _ => rfl)) pe_int)) (pv 1)))))))), ?_⟩
  have hlm : (ns.map V.int).length = ns.length := List.length_map _
  refine seq_sub ⟨_, rfl, b, _, _, _, rfl, rfl, SqL.of hb, atI_nat (j := 4) rfl, _, _, rfl, rfl, _, rfl, b, _, _, _, rfl, rfl, hb, rfl, ?_⟩
  have hc1 : upd H b (.lst [.ref c, .int sl.1, .int sl.2, .int sd.1, .int (sd.2 + 1)]) c = some (.lst (ns.map V.int)) := by rw [upd_ne ne.symm]; exact hc
  refine seq_by (fun σ H' => (∃ sl sd : Int × Int, H' b = some (.lst [.ref c, .int sl.1, .int sl.2, .int sd.1, .int sd.2]) ∧ H' c = some (.lst (ns.map V.int)) ∧ 0 ≤ sl.1 ∧ 0 ≤ sl.2 ∧ 0 ≤ sd.1 ∧ sd.1 < 2147483629 ∧ Els b c H H') ∧ ∃ x, σ = [some (.ref b), some (.int m), x, none]) ?_ (fun k => ?_)
  rotate_left
  · have e0 : Els b c H (upd H b (.lst [.ref c, .int sl.1, .int sl.2, .int sd.1, .int (sd.2 + 1)])) := fun p n1 n2 => upd_ne n1
    refine ⟨_, rfl, b, _, _, _, rfl, rfl, SqL.of upd_same, atI_nat (j := 2) rfl, _, rfl, _, _, rfl, rfl, _, rfl, ?_⟩
    refine ite2 (fun z => ?_) (fun z => ?_)
    rotate_left
    · exact k _ _ ⟨⟨sl, (sd.1, sd.2 + 1), upd_same, hc1, h0, h1, h2, h3, e0⟩, none, rfl⟩
    refine ⟨_, rfl, b, _, _, _, rfl, rfl, SqL.of upd_same, atI_nat (j := 1) rfl, _, rfl, b, _, _, _, rfl, rfl, SqL.of upd_same, atI_nat (j := 0) rfl, c, _, rfl, .inl (SqL.of hc1), _, _, rfl, rfl, _, rfl, ?_⟩
    refine ite2 (fun z => ?_) (fun z => ?_)
    rotate_left
    · exact k _ _ ⟨⟨sl, (sd.1, sd.2 + 1), upd_same, hc1, h0, h1, h2, h3, e0⟩, none, rfl⟩
    have z' : sl.1 < (((ns.map V.int).length : Nat) : Int) := of_decide_eq_true z
    obtain ⟨v, hv⟩ := int_at (ns := ns) (i := sl.1) h0 (by rw [← hlm]; exact z')
    refine seq_asg ⟨_, rfl, b, _, _, _, rfl, rfl, SqL.of upd_same, atI_nat (j := 0) rfl, _, rfl, b, _, _, _, rfl, rfl, SqL.of upd_same, atI_nat (j := 1) rfl, c, _, _, _, rfl, rfl, SqL.of hc1, hv, ?_⟩
    refine seq_sub ⟨_, rfl, b, _, _, _, rfl, rfl, SqL.of upd_same, atI_nat (j := 1) rfl, _, _, rfl, rfl, _, rfl, b, _, _, _, rfl, rfl, upd_same, rfl, ?_⟩
    refine seq_sub ?_
    refine ⟨_, rfl, _, _, rfl, rfl, ⟨by decide, by decide, by decide⟩, _, _, rfl, rfl, _, rfl, ?_⟩
    have hc2 : ∀ o o', upd (upd H b o) b o' c = some (.lst (ns.map V.int)) := fun o o' => by rw [upd_ne ne.symm, upd_ne ne.symm]; exact hc
    have hc3 : ∀ o o' o'', upd (upd (upd H b o) b o') b o'' c = some (.lst (ns.map V.int)) := fun o o' o'' => by rw [upd_ne ne.symm, upd_ne ne.symm, upd_ne ne.symm]; exact hc
    have hc4 : ∀ o o' o'' o3, upd (upd (upd (upd H b o) b o') b o'') b o3 c = some (.lst (ns.map V.int)) := fun o o' o'' o3 => by rw [upd_ne ne.symm, upd_ne ne.symm, upd_ne ne.symm, upd_ne ne.symm]; exact hc
    have e4 : ∀ o o' o'' o3, Els b c H (upd (upd (upd (upd H b o) b o') b o'') b o3) := fun o o' o'' o3 p n1 n2 => by rw [upd_ne n1, upd_ne n1, upd_ne n1, upd_ne n1]
    refine ite2 (fun z9 => ?_) (fun z9 => ?_)
    · have z9' : v ≥ (10 : Int) ^ (18 : Int).toNat := of_decide_eq_true z9
      have z0 : (0 : Int) ≤ (10 : Int) ^ (18 : Int).toNat := by decide
      refine ⟨_, rfl, _, rfl, b, _, _, _, rfl, rfl, upd_same, rfl, ?_⟩
      refine ⟨_, rfl, b, _, _, _, rfl, rfl, SqL.of upd_same, atI_nat (j := 3) rfl, _, _, rfl, rfl, .inr ⟨by decide, by decide⟩, _, rfl, _, _, rfl, rfl, (show (0 : Int) < 998244353 by decide), _, _, rfl, rfl, .inr ⟨by decide, by decide⟩, _, _, rfl, rfl, _, _, rfl, rfl, _, _, rfl, rfl, (show (0 : Int) < 2147483629 by decide), _, rfl, b, _, _, _, rfl, rfl, upd_same, rfl, ?_⟩
      exact k _ _ ⟨⟨(sl.1 + 1, v), ((sd.1 * 48271 + v % 998244353 * 8117 + 71) % 2147483629, sd.2 + 1), upd_same, hc4 _ _ _ _, by show 0 ≤ sl.1 + 1; omega, by show 0 ≤ v; omega, Int.emod_nonneg _ (by decide), Int.emod_lt_of_pos _ (by decide), e4 _ _ _ _⟩, _, rfl⟩
    · refine ⟨_, rfl, b, _, _, _, rfl, rfl, upd_same, rfl, ?_⟩
      refine ⟨_, rfl, b, _, _, _, rfl, rfl, SqL.of upd_same, atI_nat (j := 3) rfl, _, _, rfl, rfl, .inr ⟨by decide, by decide⟩, _, rfl, _, _, rfl, rfl, (show (0 : Int) < 998244353 by decide), _, _, rfl, rfl, .inr ⟨by decide, by decide⟩, _, _, rfl, rfl, _, _, rfl, rfl, _, _, rfl, rfl, (show (0 : Int) < 2147483629 by decide), _, rfl, b, _, _, _, rfl, rfl, upd_same, rfl, ?_⟩
      exact k _ _ ⟨⟨(sl.1 + 1, 0), ((sd.1 * 48271 + v % 998244353 * 8117 + 71) % 2147483629, sd.2 + 1), upd_same, hc4 _ _ _ _, by show 0 ≤ sl.1 + 1; omega, by show (0 : Int) ≤ 0; omega, Int.emod_nonneg _ (by decide), Int.emod_lt_of_pos _ (by decide), e4 _ _ _ _⟩, _, rfl⟩
  rintro σ H' ⟨⟨sl, sd, hb, hc, h0, h1, h2, h3, e1⟩, x, rfl⟩
  refine ⟨_, rfl, b, _, _, _, rfl, rfl, SqL.of hb, atI_nat (j := 2) rfl, _, rfl, _, _, rfl, rfl, _, rfl, ?_⟩
  refine ite2 (fun z => ?_) (fun z => ?_)
  · refine seq_asg ⟨_, rfl, b, _, _, _, rfl, rfl, SqL.of hb, atI_nat (j := 2) rfl, _, rfl, _, _, rfl, rfl, m0, ?_⟩
    refine seq_sub ⟨_, rfl, b, _, _, _, rfl, rfl, SqL.of hb, atI_nat (j := 2) rfl, _, rfl, _, _, rfl, rfl, ⟨m0, m1⟩, _, rfl, b, _, _, _, rfl, rfl, hb, rfl, ?_⟩
    refine ⟨_, rfl, ?_⟩
    exact q _ _ (Int.emod_nonneg _ (by omega)) (Int.emod_lt_of_pos _ m0) ⟨ne, ns, (sl.1, sl.2 / m), sd, upd_same, by rw [upd_ne ne.symm]; exact hc, hn, h0, Int.ediv_nonneg h1 (by omega), h2, h3⟩ e1.updb
  · refine next_u ?_
    refine seq_sub ⟨_, rfl, b, _, _, _, rfl, rfl, SqL.of hb, atI_nat (j := 3) rfl, _, _, rfl, rfl, .inr ⟨by decide, by decide⟩, _, rfl, b, _, _, _, rfl, rfl, SqL.of hb, atI_nat (j := 4) rfl, _, _, rfl, rfl, .inr ⟨by decide, by decide⟩, _, _, rfl, rfl, _, _, rfl, rfl, _, _, rfl, rfl, (show (0 : Int) < 2147483629 by decide), _, rfl, b, _, _, _, rfl, rfl, hb, rfl, ?_⟩
    generalize hbig : sd.1 * 69621 + sd.2 * 40692 + 1013904223 = big
    have g0 := Int.emod_nonneg big (show (2147483629 : Int) ≠ 0 by decide)
    have g1 := Int.emod_lt_of_pos big (show (0 : Int) < 2147483629 by decide)
    refine ⟨_, rfl, b, _, _, _, rfl, rfl, SqL.of upd_same, atI_nat (j := 3) rfl, _, rfl, b, _, _, _, rfl, rfl, SqL.of upd_same, atI_nat (j := 3) rfl, _, _, rfl, rfl, .inl ⟨by omega, by omega⟩, _, _, rfl, rfl, ⟨by decide, by decide⟩, _, rfl, b, _, _, _, rfl, rfl, SqL.of upd_same, atI_nat (j := 3) rfl, _, _, rfl, rfl, ⟨by decide, by decide⟩, _, _, rfl, rfl, _, rfl, _, _, rfl, rfl, m0, ?_⟩
    exact q _ _ (Int.emod_nonneg _ (by omega)) (Int.emod_lt_of_pos _ m0) ⟨ne, ns, sl, (big % 2147483629, sd.2), upd_same, by rw [upd_ne ne.symm]; exact hc, hn, h0, h1, g0, g1⟩ e1.updb

/-! ### one of several -/
def spAnyK (K : PySem.W.Frag) : Sp := fun vs H Q _ => ∃ (b c l : Addr) (xs : List V), vs = [.ref b, .ref l] ∧ Bag H b c ∧ nL K [b, c] H l xs ∧ xs ≠ [] ∧ xs.length ≤ 1000 ∧ ∀ (v : V) (H' : Hp), v ∈ xs → Bag H' b c → Els b c H H' → Q v H'
theorem ok_law_any (ev : Env K mg) : FnOk P w K mg base CX0 2 ev.f_law_any ev.d_law_any p_law_any (spAnyK K) := by
  refine ev.A_law_any.F.ok sc_law_any (fun vs H Q E h => ?_) (fun cdv A outer s H vs Q E hr h => ?_)
  · obtain ⟨b, c, l, xs, rfl, _⟩ := h
    rfl
  obtain ⟨b, c, l, xs, rfl, hB, hl, hx, h1000, q⟩ := h
  refine ⟨_, (pss_one (ps_ret (pe_ix ix_list (pv 1) (pe_call (ok_law_pull ev) (hr.mono (by decide)) (by rfl) ev.A_law_pull.m ev.A_law_pull.F.kp ev.A_law_pull.b .nil pass0 (pa_cons (pv 0) (pa_cons (pe_callB call_len_seq (by rfl) ev.B.len_ PySem.boot_len (pa_cons (pv 1) pa_nil)) pa_nil))) (fun _ _ => rfl)))), ?_⟩
  have l0 := List.length_pos_iff.mpr hx
  refine ⟨_, rfl, _, rfl, _, rfl, l, _, rfl, .inl hl.sq, b, c, _, rfl, hB, by omega, by omega, fun r H' r0 r1 hB' ex => ?_⟩
  have hl' := hl.mono (show Fr [b, c] H H' from fun p o e n => by
    simp only [List.mem_cons, List.not_mem_nil, or_false, not_or] at n
    exact (ex p n.1 n.2).trans e)
  obtain ⟨v, hv, e⟩ := at_mem (xs := xs) r0 r1
  exact ⟨l, _, _, _, rfl, rfl, hl'.sq, e, q _ _ hv hB' ex⟩

/-! ### the law's own ratio -/
def spRat : Sp := fun vs H Q _ => ∃ o u : Int, vs = [.int o, .int u] ∧ u.natAbs < 2 ^ 9000 ∧ u ≠ 0 ∧ ∀ p, H p = none → Q (.ref p) (upd H p (.tup [.int (rN o u), .int (rD o u)]))
theorem ok_law_low (ev : Env K mg) : FnOk P w K mg base CX0 1 ev.f_law_low ev.d_law_low p_law_low spRat := by
  refine ev.A_law_low.F.ok sc_law_low (fun vs H Q E h => ?_) (fun cdv A outer s H vs Q E hr h => ?_)
  · obtain ⟨o, u, rfl, _⟩ := h
    rfl
  obtain ⟨o, u, rfl, hb, hu0, q⟩ := h
  refine ⟨_, (pss_cons (ps_par (i := 2) (j := 3) (by rfl) sc_law_low.nd rfl rfl (by decide) rfl rfl (pa_cons (pe_callB call_abs (by rfl) ev.B.abs_ (by decide +kernel) (pa_cons (pv 0) pa_nil)) (pa_cons (pe_callB call_abs (by rfl) ev.B.abs_ (by decide +kernel) (pa_cons (pv 1) pa_nil)) pa_nil)) (by rfl))
    (pss_cons (ps_while PassesOwn.never (pt_cmpR op_gt (pv 3) pe_int (nomark _))
    (pss_one (ps_par (i := 2) (j := 3) (by rfl) sc_law_low.nd rfl rfl (by decide) rfl rfl (pa_cons (pv 3) (pa_cons (pe_op op_modN (pv 2) (pv 3)) pa_nil)) (by rfl))))
    (pss_cons (ps_if (pt_cmpR op_lt (pv 1) pe_int (nomark _))
    (pss_one (ps_set (i := 2) sc_law_low.nd rfl (Or.inl rfl) (pe_op op_sub pe_int (pv 2)))) pss_nil)
    (pss_one (ps_ret (pe_tup (pa_cons (pe_op op_fdivZ (pv 0) (pv 2)) (pa_cons (pe_op op_fdivZ (pv 1) (pv 2)) pa_nil)))))))), ?_⟩
  refine ⟨_, rfl, _, rfl, _, rfl, _, rfl, _, _, rfl, ?_⟩
  rw [abs_if, abs_if]
  refine ⟨fun m σ H' => H' = H ∧ ∃ x y : Int, σ = [some (.int o), some (.int u), some (.int x), some (.int y)] ∧ 0 ≤ x ∧ 0 ≤ y ∧ m = y.natAbs ∧ Int.gcd x y = Int.gcd o u, ⟨_, rfl, o.natAbs, u.natAbs, rfl, by omega, by omega, rfl, ?_⟩, ?_⟩
  · unfold Int.gcd
    rw [Int.natAbs_natCast, Int.natAbs_natCast]
  rintro m σ H' ⟨rfl, x, y, rfl, x0, y0, rfl, e⟩
  refine ⟨_, rfl, _, _, rfl, rfl, _, rfl, ?_⟩
  refine ite2 (fun c => ?_) (fun c => ?_)
  · have hy : 0 < y := of_decide_eq_true c
    refine ⟨fun σ' H2 => H2 = H' ∧ σ' = [some (.int o), some (.int u), some (.int y), some (.int (x.fmod y))], ?_, ?_⟩
    · rintro σ' H2 ⟨rfl, rfl⟩
      exact ⟨_, fmod_abs_lt x (by omega), rfl, y, _, rfl, y0, Int.fmod_nonneg_of_pos x hy, rfl, (gcd_fmod x y).trans e⟩
    · exact ⟨_, rfl, _, rfl, _, rfl, _, _, rfl, rfl, (by show y ≠ 0; omega), _, _, rfl, rfl, rfl⟩
  · have hy : y = 0 := by
      have : ¬ 0 < y := fun z => c (decide_eq_true z)
      omega
    subst hy
    rw [Int.gcd_zero_right] at e
    have ex : x = ((Int.gcd o u : Nat) : Int) := by omega
    subst ex
    refine nx_u ?_
    refine seq_by (fun σ H2 => H2 = H' ∧ ∃ y, σ = [some (.int o), some (.int u), some (.int (cOf o u)), y]) ?_ (fun k => ?_)
    rotate_left
    · refine ⟨_, rfl, _, _, rfl, rfl, _, rfl, ?_⟩
      refine ite2 (fun z => ?_) (fun z => ?_)
      · have z' : u < 0 := of_decide_eq_true z
        refine ⟨_, rfl, _, _, rfl, rfl, k _ _ ⟨rfl, some (.int 0), ?_⟩⟩
        unfold cOf
        rw [if_pos z', ← Int.zero_sub]
        all_goals rfl
      · have z' : ¬ u < 0 := fun e => z (decide_eq_true e)
        refine k _ _ ⟨rfl, some (.int 0), ?_⟩
        unfold cOf
        rw [if_neg z']
        all_goals rfl
    rintro σ H' ⟨rfl, y, rfl⟩
    exact ⟨_, rfl, _, rfl, _, _, rfl, rfl, cOf_ok hu0 hb _, _, rfl, _, rfl, _, _, rfl, rfl, cOf_ok hu0 hb _, (by show 2 ≤ sizeLine; decide), fun p hp => q p hp⟩

theorem ev_law_low {S T : AS} {σ : St} {H : Hp} {E : XK} {ta : TA} {r : Option (Int × Int × Unit)} (h : EvA S T ta σ H (K := K) (aCons tInt (aCons tInt aNil)) r) :
    Ev S T (tCall spRat [] E ta) σ H (of (K := K) tRat S) (bd r fun a => ratio? a.1 a.2.1) := by
  intro z e H1 f1 d Q q
  obtain ⟨x, ex, e⟩ := bd_some e
  unfold ratio? at e
  split at e
  · rename_i hc
    cases e
    refine h x ex H1 f1 d _ fun vs H2 s2 hv => ?_
    obtain ⟨v, _, rfl, h1, w, _, rfl, h2, rfl⟩ := hv
    cases h1
    cases h2
    refine ⟨x.1, x.2.1, rfl, hc.2, hc.1, fun p hp => q _ _ (s2.trans (same_new hp)) ⟨p, rfl, .inl ⟨.inl ?_, (d.same s2).not_mem hp⟩⟩⟩
    rw [upd_same, (rat_rND hc.1).1, (rat_rND hc.1).2]
  · cases e
theorem ew_law_low {b c : Addr} {S : AS} {σ : St} {H : Hp} {E : XK} {ta : TA} {w : Wp (Int × Int × Unit)} (h : EvWA b c S ta σ H (K := K) (aCons tInt (aCons tInt aNil)) w) :
    EvW b c S (tCall spRat [] E ta) σ H (of (K := K) tRat S) (unW (fun a => ratio? a.1 a.2.1) w) := fun ts P hP H1 f d hB Q q => by
  refine h ts _ hP H1 f d hB _ fun vs H2 x ⟨z, e, hz⟩ f2 d2 hB2 hv => ?_
  dsimp only [ratio?] at e
  split at e
  · rename_i hc
    cases e
    obtain ⟨v, _, rfl, h1, w, _, rfl, h2, rfl⟩ := hv
    cases h1
    cases h2
    refine ⟨x.1, x.2.1, rfl, hc.2, hc.1, fun p hp => q _ _ _ hz (f2.trans (Fr.same (same_new hp))) (d2.same (same_new hp)) (hB2.same (same_new hp)) ⟨p, rfl, .inl ⟨.inl ?_, d2.not_mem hp⟩⟩⟩
    rw [upd_same, (rat_rND hc.1).1, (rat_rND hc.1).2]
  · cases e

/-! ### draws, mirrored -/
theorem els_fr {b c : Addr} {H H' : Hp} (ex : Els b c H H') : Fr [b, c] H H' := fun p o e n => by
  simp only [List.mem_cons, List.not_mem_nil, or_false, not_or] at n
  exact (ex p n.1 n.2).trans e
def drawW (n : Int) : Wp Int := fun P => 0 < n ∧ n < 1073741824 ∧ ∀ r, 0 ≤ r → r < n → P r
def sameW {α : Type} (p : α → Prop) (wa wb : Wp α) : Wp Bool := fun P => wa fun x => wb fun y => x = y ∧ p y ∧ P true
def noSz {α : Type} : α → Prop := fun _ => True
def szT2 {α β : Type} (p : α → Prop) (q : β → Prop) : α × β → Prop := fun x => p x.1 ∧ q x.2
def szT4 {α β γ δ : Type} (p : α → Prop) (q : β → Prop) (r : γ → Prop) (s : δ → Prop) : α × β × γ × δ → Prop := fun x => p x.1 ∧ q x.2.1 ∧ r x.2.2.1 ∧ s x.2.2.2
def szO {α : Type} (p : α → Prop) : Option α → Prop := fun o => ∀ x, o = some x → p x
def szL {α : Type} (p : α → Prop) : List α → Prop := fun xs => xs.length ≤ 1000 ∧ ∀ x ∈ xs, p x
def anyW {α : Type} (xs : List α) : Wp α := fun P => xs ≠ [] ∧ xs.length ≤ 1000 ∧ ∀ x ∈ xs, P x
section
variable {α : Type} {a : Ty K α} {b c : Addr} {S : AS} {σ : St} {H : Hp} {te : TE} {E : XK} {i : Nat}
theorem ew_draw {w : Wp Int} (hi : σ[i]? = some (some (.ref b))) (h : EvW b c S te σ H (of (K := K) tInt S) w) : EvW b c S (tCall spDraw [] E (tCons (tVar i) (tCons te tNil))) σ H (of (K := K) tInt S) (callBW drawW w) := fun ts P hP H1 f d hB Q q => by
  refine ⟨_, hi, h ts _ hP H1 f d hB _ fun v H2 n ⟨n0, n1, hn⟩ f2 d2 hB2 hv => ?_⟩
  cases hv
  exact ⟨b, c, n, rfl, hB2, n0, n1, fun r H' r0 r1 hB' ex => q _ H' r (hn r r0 r1) (f2.trans (els_fr ex)) (dom_fr d2 (els_fr ex) hB') hB' rfl⟩
theorem all2_mem {F : V → α → Prop} : ∀ {vs : List V} {xs : List α} {v : V}, All2 F vs xs → v ∈ vs → ∃ x ∈ xs, F v x
  | _, _, v, .nil, h => by simp at h
  | _, _, v, .cons h r, m => by
    rcases List.mem_cons.mp m with rfl | m
    · exact ⟨_, List.mem_cons_self .., h⟩
    · obtain ⟨x, hx, hv⟩ := all2_mem r m
      exact ⟨x, List.mem_cons_of_mem _ hx, hv⟩
theorem ew_any {w : Wp (List α)} (hi : σ[i]? = some (some (.ref b))) (h : EvW b c S te σ H (of (tL a) S) w) : EvW b c S (tCall (spAnyK K) [] E (tCons (tVar i) (tCons te tNil))) σ H (of a S) (callBW anyW w) := fun ts P hP H1 f d hB Q q => by
  refine ⟨_, hi, h ts _ hP H1 f d hB _ fun v H2 xs ⟨x0, x1, hx⟩ f2 d2 hB2 hv => ?_⟩
  obtain ⟨p, vs, rfl, hp, ha⟩ := hv
  refine ⟨b, c, p, vs, rfl, hB2, hp.sub ts, fun z => x0 (List.length_eq_zero_iff.mp (by rw [← ha.len, z]; rfl)), by rw [ha.len]; exact x1, fun v H' hv hB' ex => ?_⟩
  obtain ⟨x, mx, rx⟩ := all2_mem ha hv
  exact q _ H' x (hx x mx) (f2.trans (els_fr ex)) (dom_fr d2 (els_fr ex) hB') hB' (a.mono ((els_fr ex).sub ts) rx)
theorem ew_anyO {p : Addr} {xs : List α} {j : Nat} (hi : σ[i]? = some (some (.ref b))) (o : Own a S H p xs) (nt : p ∉ [b, c]) (hj : σ[j]? = some (some (.ref p))) : EvW b c S (tCall (spAnyK K) [] E (tCons (tVar i) (tCons (tVar j) tNil))) σ H (of a S) (anyW xs) := fun ts P ⟨x0, x1, hx⟩ H1 f d hB Q q => by
  obtain ⟨vs, hv, ha⟩ := o.fr f ts nt
  refine ⟨_, hi, _, hj, b, c, p, vs, rfl, hB, ⟨hv, nt⟩, fun z => x0 (List.length_eq_zero_iff.mp (by rw [← ha.len, z]; rfl)), by rw [ha.len]; exact x1, fun v H' hv hB' ex => ?_⟩
  obtain ⟨x, mx, rx⟩ := all2_mem ha hv
  exact q _ H' x (hx x mx) (els_fr ex) (dom_fr d (els_fr ex) hB') hB' (a.mono ((els_fr ex).sub ts) rx)
end

end
end G

namespace G
open PySem L2 M
section
variable {P : Program} {w : World} {K : PySem.W.Frag} {mg : Str → Option Value} {base : Heap}

def m_law_add (d_law_a : Rat) (d_law_b : Rat) : Option Rat :=
  (bd (bd (bd (bd (bd (some d_law_a) fun x => some x.num) fun x => bd (bd (some d_law_b) fun x => some (x.den : Int)) fun y => mul? x y) fun x => bd (bd (bd (some d_law_b) fun x => some x.num) fun x => bd (bd (some d_law_a) fun x => some (x.den : Int)) fun y => mul? x y) fun y => some (x + y)) fun x => bd (bd (bd (bd (some d_law_a) fun x => some (x.den : Int)) fun x => bd (bd (some d_law_b) fun x => some (x.den : Int)) fun y => mul? x y) fun x => bd (some ()) fun y => some (x, y)) fun y => some (x, y)) fun a => ratio? a.1 a.2.1)
abbrev sp_law_add (K : PySem.W.Frag) : Sp := spF (K := K) (aCons tRat (aCons tRat aNil)) (fun S => of (K := K) tRat S) (fun a => m_law_add a.1 a.2.1)
theorem ok_law_add (ev : Env K mg) : FnOk P w K mg base CX0 2 ev.f_law_add ev.d_law_add p_law_add (sp_law_add K) := by
  refine ev.A_law_add.F.ok sc_law_add (fun vs H Q E h => ?_) (fun cdv A outer s H0 vs Q E hr h => ?_)
  · obtain ⟨S, ⟨d_law_a, d_law_b, _⟩, y, _, ⟨v_law_a, _, rfl, h_law_a, v_law_b, _, rfl, h_law_b, rfl⟩, _⟩ := h
    rfl
  obtain ⟨S, ⟨d_law_a, d_law_b, _⟩, y, dm, ⟨v_law_a, _, rfl, h_law_a, v_law_b, _, rfl, h_law_b, rfl⟩, hm, q⟩ := h
  have ts : Sub [] S := fun a m => by simp at m
  have fr0 := Fr.refl (T := []) H0
  have sub0 : Sub S S := fun a m => m
  refine ⟨_, (pss_one (ps_ret (pe_call (ok_law_low ev) (hr.mono (by decide)) (by rfl) ev.A_law_low.m ev.A_law_low.F.kp ev.A_law_low.b .nil pass0 (pa_cons (pe_op op_add (pe_op op_mulW (pe_ix ix_tup (pv 0) pe_int (fun _ _ => rfl)) (pe_ix ix_tup (pv 1) pe_int (fun _ _ => rfl))) (pe_op op_mulW (pe_ix ix_tup (pv 1) pe_int (fun _ _ => rfl)) (pe_ix ix_tup (pv 0) pe_int (fun _ _ => rfl)))) (pa_cons (pe_op op_mulW (pe_ix ix_tup (pv 0) pe_int (fun _ _ => rfl)) (pe_ix ix_tup (pv 1) pe_int (fun _ _ => rfl))) pa_nil))))), ?_⟩
  dsimp only [m_law_add] at hm
  have er := hm
  exact q_ret (T := []) dm (ev_law_low (ea_cons (ev_op (od_add (K := K)) (ev_op (od_mul (K := K)) (ev_ixR0 (ev_var ts h_law_a rfl)) (ev_ixR1 (ev_var ts h_law_b rfl))) (ev_op (od_mul (K := K)) (ev_ixR0 (ev_var ts h_law_b rfl)) (ev_ixR1 (ev_var ts h_law_a rfl)))) (ea_cons (ev_op (od_mul (K := K)) (ev_ixR1 (ev_var ts h_law_a rfl)) (ev_ixR1 (ev_var ts h_law_b rfl))) ea_nil))) er (fun v H1 s1 hv => q v H1 (fr0.trans (Fr.same s1)).toSame ((tRat : Ty K Rat).sub (S := S) (H := H1) sub0 hv))
def m_law_sub (d_law_a : Rat) (d_law_b : Rat) : Option Rat :=
  (bd (bd (bd (bd (bd (some d_law_a) fun x => some x.num) fun x => bd (bd (some d_law_b) fun x => some (x.den : Int)) fun y => mul? x y) fun x => bd (bd (bd (some d_law_b) fun x => some x.num) fun x => bd (bd (some d_law_a) fun x => some (x.den : Int)) fun y => mul? x y) fun y => some (x - y)) fun x => bd (bd (bd (bd (some d_law_a) fun x => some (x.den : Int)) fun x => bd (bd (some d_law_b) fun x => some (x.den : Int)) fun y => mul? x y) fun x => bd (some ()) fun y => some (x, y)) fun y => some (x, y)) fun a => ratio? a.1 a.2.1)
abbrev sp_law_sub (K : PySem.W.Frag) : Sp := spF (K := K) (aCons tRat (aCons tRat aNil)) (fun S => of (K := K) tRat S) (fun a => m_law_sub a.1 a.2.1)
theorem ok_law_sub (ev : Env K mg) : FnOk P w K mg base CX0 2 ev.f_law_sub ev.d_law_sub p_law_sub (sp_law_sub K) := by
  refine ev.A_law_sub.F.ok sc_law_sub (fun vs H Q E h => ?_) (fun cdv A outer s H0 vs Q E hr h => ?_)
  · obtain ⟨S, ⟨d_law_a, d_law_b, _⟩, y, _, ⟨v_law_a, _, rfl, h_law_a, v_law_b, _, rfl, h_law_b, rfl⟩, _⟩ := h
    rfl
  obtain ⟨S, ⟨d_law_a, d_law_b, _⟩, y, dm, ⟨v_law_a, _, rfl, h_law_a, v_law_b, _, rfl, h_law_b, rfl⟩, hm, q⟩ := h
  have ts : Sub [] S := fun a m => by simp at m
  have fr0 := Fr.refl (T := []) H0
  have sub0 : Sub S S := fun a m => m
  refine ⟨_, (pss_one (ps_ret (pe_call (ok_law_low ev) (hr.mono (by decide)) (by rfl) ev.A_law_low.m ev.A_law_low.F.kp ev.A_law_low.b .nil pass0 (pa_cons (pe_op op_sub (pe_op op_mulW (pe_ix ix_tup (pv 0) pe_int (fun _ _ => rfl)) (pe_ix ix_tup (pv 1) pe_int (fun _ _ => rfl))) (pe_op op_mulW (pe_ix ix_tup (pv 1) pe_int (fun _ _ => rfl)) (pe_ix ix_tup (pv 0) pe_int (fun _ _ => rfl)))) (pa_cons (pe_op op_mulW (pe_ix ix_tup (pv 0) pe_int (fun _ _ => rfl)) (pe_ix ix_tup (pv 1) pe_int (fun _ _ => rfl))) pa_nil))))), ?_⟩
  dsimp only [m_law_sub] at hm
  have er := hm
  exact q_ret (T := []) dm (ev_law_low (ea_cons (ev_op (od_sub (K := K)) (ev_op (od_mul (K := K)) (ev_ixR0 (ev_var ts h_law_a rfl)) (ev_ixR1 (ev_var ts h_law_b rfl))) (ev_op (od_mul (K := K)) (ev_ixR0 (ev_var ts h_law_b rfl)) (ev_ixR1 (ev_var ts h_law_a rfl)))) (ea_cons (ev_op (od_mul (K := K)) (ev_ixR1 (ev_var ts h_law_a rfl)) (ev_ixR1 (ev_var ts h_law_b rfl))) ea_nil))) er (fun v H1 s1 hv => q v H1 (fr0.trans (Fr.same s1)).toSame ((tRat : Ty K Rat).sub (S := S) (H := H1) sub0 hv))
def m_law_mul (d_law_a : Rat) (d_law_b : Rat) : Option Rat :=
  (bd (bd (bd (bd (some d_law_a) fun x => some x.num) fun x => bd (bd (some d_law_b) fun x => some x.num) fun y => mul? x y) fun x => bd (bd (bd (bd (some d_law_a) fun x => some (x.den : Int)) fun x => bd (bd (some d_law_b) fun x => some (x.den : Int)) fun y => mul? x y) fun x => bd (some ()) fun y => some (x, y)) fun y => some (x, y)) fun a => ratio? a.1 a.2.1)
abbrev sp_law_mul (K : PySem.W.Frag) : Sp := spF (K := K) (aCons tRat (aCons tRat aNil)) (fun S => of (K := K) tRat S) (fun a => m_law_mul a.1 a.2.1)
theorem ok_law_mul (ev : Env K mg) : FnOk P w K mg base CX0 2 ev.f_law_mul ev.d_law_mul p_law_mul (sp_law_mul K) := by
  refine ev.A_law_mul.F.ok sc_law_mul (fun vs H Q E h => ?_) (fun cdv A outer s H0 vs Q E hr h => ?_)
  · obtain ⟨S, ⟨d_law_a, d_law_b, _⟩, y, _, ⟨v_law_a, _, rfl, h_law_a, v_law_b, _, rfl, h_law_b, rfl⟩, _⟩ := h
    rfl
  obtain ⟨S, ⟨d_law_a, d_law_b, _⟩, y, dm, ⟨v_law_a, _, rfl, h_law_a, v_law_b, _, rfl, h_law_b, rfl⟩, hm, q⟩ := h
  have ts : Sub [] S := fun a m => by simp at m
  have fr0 := Fr.refl (T := []) H0
  have sub0 : Sub S S := fun a m => m
  refine ⟨_, (pss_one (ps_ret (pe_call (ok_law_low ev) (hr.mono (by decide)) (by rfl) ev.A_law_low.m ev.A_law_low.F.kp ev.A_law_low.b .nil pass0 (pa_cons (pe_op op_mulW (pe_ix ix_tup (pv 0) pe_int (fun _ _ => rfl)) (pe_ix ix_tup (pv 1) pe_int (fun _ _ => rfl))) (pa_cons (pe_op op_mulW (pe_ix ix_tup (pv 0) pe_int (fun _ _ => rfl)) (pe_ix ix_tup (pv 1) pe_int (fun _ _ => rfl))) pa_nil))))), ?_⟩
  dsimp only [m_law_mul] at hm
  have er := hm
  exact q_ret (T := []) dm (ev_law_low (ea_cons (ev_op (od_mul (K := K)) (ev_ixR0 (ev_var ts h_law_a rfl)) (ev_ixR0 (ev_var ts h_law_b rfl))) (ea_cons (ev_op (od_mul (K := K)) (ev_ixR1 (ev_var ts h_law_a rfl)) (ev_ixR1 (ev_var ts h_law_b rfl))) ea_nil))) er (fun v H1 s1 hv => q v H1 (fr0.trans (Fr.same s1)).toSame ((tRat : Ty K Rat).sub (S := S) (H := H1) sub0 hv))
def m_law_less (d_law_a : Rat) (d_law_b : Rat) : Option Bool :=
  (bd (bd (bd (some d_law_a) fun x => some x.num) fun x => bd (bd (some d_law_b) fun x => some (x.den : Int)) fun y => mul? x y) fun x => bd (bd (bd (some d_law_b) fun x => some x.num) fun x => bd (bd (some d_law_a) fun x => some (x.den : Int)) fun y => mul? x y) fun y => some (decide (x < y)))
abbrev sp_law_less (K : PySem.W.Frag) : Sp := spF (K := K) (aCons tRat (aCons tRat aNil)) (fun S => of (K := K) tBool S) (fun a => m_law_less a.1 a.2.1)
theorem ok_law_less (ev : Env K mg) : FnOk P w K mg base CX0 1 ev.f_law_less ev.d_law_less p_law_less (sp_law_less K) := by
  refine ev.A_law_less.F.ok sc_law_less (fun vs H Q E h => ?_) (fun cdv A outer s H0 vs Q E hr h => ?_)
  · obtain ⟨S, ⟨d_law_a, d_law_b, _⟩, y, _, ⟨v_law_a, _, rfl, h_law_a, v_law_b, _, rfl, h_law_b, rfl⟩, _⟩ := h
    rfl
  obtain ⟨S, ⟨d_law_a, d_law_b, _⟩, y, dm, ⟨v_law_a, _, rfl, h_law_a, v_law_b, _, rfl, h_law_b, rfl⟩, hm, q⟩ := h
  have ts : Sub [] S := fun a m => by simp at m
  have fr0 := Fr.refl (T := []) H0
  have sub0 : Sub S S := fun a m => m
  refine ⟨_, (pss_one (ps_ret (pe_cmpR op_lt (pe_op op_mulW (pe_ix ix_tup (pv 0) pe_int (fun _ _ => rfl)) (pe_ix ix_tup (pv 1) pe_int (fun _ _ => rfl))) (pe_op op_mulW (pe_ix ix_tup (pv 1) pe_int (fun _ _ => rfl)) (pe_ix ix_tup (pv 0) pe_int (fun _ _ => rfl))) (nomark _)))), ?_⟩
  dsimp only [m_law_less] at hm
  have er := hm
  exact q_ret (T := []) dm (ev_op (od_lt (K := K)) (ev_op (od_mul (K := K)) (ev_ixR0 (ev_var ts h_law_a rfl)) (ev_ixR1 (ev_var ts h_law_b rfl))) (ev_op (od_mul (K := K)) (ev_ixR0 (ev_var ts h_law_b rfl)) (ev_ixR1 (ev_var ts h_law_a rfl)))) er (fun v H1 s1 hv => q v H1 (fr0.trans (Fr.same s1)).toSame ((tBool : Ty K Bool).sub (S := S) (H := H1) sub0 hv))
def m_law_abs (d_law_a : Rat) : Option Rat :=
  (bd (bd (bd (bd (some d_law_a) fun x => some x.num) fun x => some ((x.natAbs : Nat) : Int)) fun x => bd (bd (some d_law_a) fun x => some (x.den : Int)) fun y => some (x, y)) p2r)
abbrev sp_law_abs (K : PySem.W.Frag) : Sp := spF (K := K) (aCons tRat aNil) (fun S => of (K := K) tRat S) (fun a => m_law_abs a.1)
theorem ok_law_abs (ev : Env K mg) : FnOk P w K mg base CX0 1 ev.f_law_abs ev.d_law_abs p_law_abs (sp_law_abs K) := by
  refine ev.A_law_abs.F.ok sc_law_abs (fun vs H Q E h => ?_) (fun cdv A outer s H0 vs Q E hr h => ?_)
  · obtain ⟨S, ⟨d_law_a, _⟩, y, _, ⟨v_law_a, _, rfl, h_law_a, rfl⟩, _⟩ := h
    rfl
  obtain ⟨S, ⟨d_law_a, _⟩, y, dm, ⟨v_law_a, _, rfl, h_law_a, rfl⟩, hm, q⟩ := h
  have ts : Sub [] S := fun a m => by simp at m
  have fr0 := Fr.refl (T := []) H0
  have sub0 : Sub S S := fun a m => m
  refine ⟨_, (pss_one (ps_ret (pe_tup (pa_cons (pe_callB call_abs (by rfl) ev.B.abs_ (by decide +kernel) (pa_cons (pe_ix ix_tup (pv 0) pe_int (fun _ _ => rfl)) pa_nil)) (pa_cons (pe_ix ix_tup (pv 0) pe_int (fun _ _ => rfl)) pa_nil))))), ?_⟩
  dsimp only [m_law_abs] at hm
  have er := hm
  exact q_ret (T := []) dm (ev_p2r (ev_tup2 (ev_abs (ev_ixR0 (ev_var ts h_law_a rfl))) (ev_ixR1 (ev_var ts h_law_a rfl)))) er (fun v H1 s1 hv => q v H1 (fr0.trans (Fr.same s1)).toSame ((tRat : Ty K Rat).sub (S := S) (H := H1) sub0 hv))
def m_law_passes (d_law_row : (List (Rat × Rat))) (d_law_first : Int) (d_law_last : Int) (d_law_off_by : Int) : Option Bool :=
  (bd (bd (some d_law_row) fun x => bd (some d_law_first) fun y => atI x y) fun law_one_1 => (bd (bd (some d_law_row) fun x => bd (some d_law_last) fun y => atI x y) fun law_two_2 => (bd (bd (bd (some (2 : Int)) rng1?) fun xs => mapL? (fun law_at_3 => (bd (bd (bd (bd (bd (some law_two_2) fun x => bd (some law_at_3) fun y => at2 x y) fun x => bd (bd (bd (some law_one_1) fun x => bd (some law_at_3) fun y => at2 x y) fun x => bd (some ()) fun y => some (x, y)) fun y => some (x, y)) fun a => m_law_sub a.1 a.2.1) fun x => bd (some ()) fun y => some (x, y)) fun a => m_law_abs a.1)) xs) fun law_gaps_4 => (bd (bd (bd (bd (bd (some law_gaps_4) fun x => bd (some (0 : Int)) fun y => atI x y) fun x => bd (bd (bd (some law_gaps_4) fun x => bd (some (1 : Int)) fun y => atI x y) fun x => bd (some ()) fun y => some (x, y)) fun y => some (x, y)) fun a => m_law_less a.1 a.2.1) fun x => some (if x then 1 else 0 : Int)) fun law_long_5 => (bd (bd (some law_one_1) fun x => bd (some law_long_5) fun y => at2 x y) fun law_u_6 => (bd (bd (some law_one_1) fun x => bd (bd (some (1 : Int)) fun x => bd (some law_long_5) fun y => some (x - y)) fun y => at2 x y) fun law_v_7 => (bd (bd (bd (bd (some law_two_2) fun x => bd (some law_long_5) fun y => at2 x y) fun x => bd (bd (some law_u_6) fun x => bd (some ()) fun y => some (x, y)) fun y => some (x, y)) fun a => m_law_sub a.1 a.2.1) fun law_wide_8 => (bd (bd (bd (bd (some law_two_2) fun x => bd (bd (some (1 : Int)) fun x => bd (some law_long_5) fun y => some (x - y)) fun y => at2 x y) fun x => bd (bd (some law_v_7) fun x => bd (some ()) fun y => some (x, y)) fun y => some (x, y)) fun a => m_law_sub a.1 a.2.1) fun law_tall_9 => (bd (bd (some d_law_row) fun xs => bd (bd (bd (some d_law_first) fun x => bd (some (1 : Int)) fun y => some (x + y)) fun i => some (some i)) fun l => bd (bd (some d_law_last) fun i => some (some i)) fun h => some (cutD xs l h)) fun xs20 => bd (loopC (ρ := Bool) (fun s_10 law_spot_10 => (bd (bd (bd (bd (some law_spot_10) fun x => bd (some law_long_5) fun y => at2 x y) fun x => bd (bd (some law_u_6) fun x => bd (some ()) fun y => some (x, y)) fun y => some (x, y)) fun a => m_law_sub a.1 a.2.1) fun law_far_11 => (bd (bd (bd (some law_wide_8) fun x => some x.num) fun x => bd (some (0 : Int)) fun y => some (decide (x = y))) fun c12 => if c12 then (bd (bd (bd (some law_far_11) fun x => some x.num) fun x => bd (some (0 : Int)) fun y => some (!decide (x = y))) fun c13 => if c13 then (bd (some false) fun y => some (Ct.ret y)) else (bd (some law_v_7) fun law_line_14 => (bd (bd (bd (bd (bd (some d_law_off_by) fun x => bd (some (1 : Int)) fun y => some (x, y)) p2r) fun x => bd (bd (bd (bd (bd (bd (bd (some law_spot_10) fun x => bd (bd (some (1 : Int)) fun x => bd (some law_long_5) fun y => some (x - y)) fun y => at2 x y) fun x => bd (bd (some law_line_14) fun x => bd (some ()) fun y => some (x, y)) fun y => some (x, y)) fun a => m_law_sub a.1 a.2.1) fun x => bd (some ()) fun y => some (x, y)) fun a => m_law_abs a.1) fun x => bd (some ()) fun y => some (x, y)) fun y => some (x, y)) fun a => m_law_less a.1 a.2.1) fun c15 => if c15 then (bd (some false) fun y => some (Ct.ret y)) else some (Ct.go ())))) else (bd (bd (bd (bd (bd (some law_far_11) fun x => some x.num) fun x => bd (bd (some law_wide_8) fun x => some (x.den : Int)) fun y => mul? x y) fun x => bd (bd (bd (bd (some law_far_11) fun x => some (x.den : Int)) fun x => bd (bd (some law_wide_8) fun x => some x.num) fun y => mul? x y) fun x => bd (some ()) fun y => some (x, y)) fun y => some (x, y)) fun a => ratio? a.1 a.2.1) fun law_part_16 => (bd (bd (bd (bd (some law_part_16) fun x => some x.num) fun x => bd (some (0 : Int)) fun y => some (decide (x < y))) fun x => if x then some true else (bd (bd (some law_part_16) fun x => some x.num) fun x => bd (bd (some law_part_16) fun x => some (x.den : Int)) fun y => some (decide (y < x)))) fun c17 => if c17 then (bd (some false) fun y => some (Ct.ret y)) else (bd (bd (bd (some law_v_7) fun x => bd (bd (bd (bd (some law_tall_9) fun x => bd (bd (some law_part_16) fun x => bd (some ()) fun y => some (x, y)) fun y => some (x, y)) fun a => m_law_mul a.1 a.2.1) fun x => bd (some ()) fun y => some (x, y)) fun y => some (x, y)) fun a => m_law_add a.1 a.2.1) fun law_line_18 => (bd (bd (bd (bd (bd (some d_law_off_by) fun x => bd (some (1 : Int)) fun y => some (x, y)) p2r) fun x => bd (bd (bd (bd (bd (bd (bd (some law_spot_10) fun x => bd (bd (some (1 : Int)) fun x => bd (some law_long_5) fun y => some (x - y)) fun y => at2 x y) fun x => bd (bd (some law_line_18) fun x => bd (some ()) fun y => some (x, y)) fun y => some (x, y)) fun a => m_law_sub a.1 a.2.1) fun x => bd (some ()) fun y => some (x, y)) fun a => m_law_abs a.1) fun x => bd (some ()) fun y => some (x, y)) fun y => some (x, y)) fun a => m_law_less a.1 a.2.1) fun c19 => if c19 then (bd (some false) fun y => some (Ct.ret y)) else some (Ct.go ())))))))) xs20 ()) fun r_10 => match r_10 with | .ret y => some y | .go t_10 => (some true) | .brk _ => none)))))))))
abbrev sp_law_passes (K : PySem.W.Frag) : Sp := spF (K := K) (aCons (tL (tT2 tRat tRat)) (aCons tInt (aCons tInt (aCons tInt aNil)))) (fun S => of (K := K) tBool S) (fun a => m_law_passes a.1 a.2.1 a.2.2.1 a.2.2.2.1)
theorem ok_law_passes (ev : Env K mg) : FnOk P w K mg base CX0 3 ev.f_law_passes ev.d_law_passes p_law_passes (sp_law_passes K) := by
  refine ev.A_law_passes.F.ok sc_law_passes (fun vs H Q E h => ?_) (fun cdv A outer s H0 vs Q E hr h => ?_)
  · obtain ⟨S, ⟨d_law_row, d_law_first, d_law_last, d_law_off_by, _⟩, y, _, ⟨v_law_row, _, rfl, h_law_row, v_law_first, _, rfl, h_law_first, v_law_last, _, rfl, h_law_last, v_law_off_by, _, rfl, h_law_off_by, rfl⟩, _⟩ := h
    rfl
  obtain ⟨S, ⟨d_law_row, d_law_first, d_law_last, d_law_off_by, _⟩, y, dm, ⟨v_law_row, _, rfl, h_law_row, v_law_first, _, rfl, h_law_first, v_law_last, _, rfl, h_law_last, v_law_off_by, _, rfl, h_law_off_by, rfl⟩, hm, q⟩ := h
  have ts : Sub [] S := fun a m => by simp at m
  have fr0 := Fr.refl (T := []) H0
  have sub0 : Sub S S := fun a m => m
  refine ⟨_, (pss_cons (ps_asg (pe_tup (pa_cons (pe_ix ix_list (pv 0) (pv 1) (fun _ _ => rfl)) (pa_cons (pe_ix ix_list (pv 0) (pv 2) (fun _ _ => rfl)) pa_nil))) (pg_tup rfl (pgs_cons (pg_name (i := 4) sc_law_passes.nd rfl (Or.inr rfl)) (pgs_cons (pg_name (i := 5) sc_law_passes.nd rfl (Or.inr rfl)) pgs_nil))))
    (pss_cons (ps_setLc (i := 6) (own := [("_law_at", 16)]) (g := gName 16) (tt := tYes) (by rfl) sc_law_passes.nd rfl rfl (sw_true rfl rfl rfl (by decide +kernel)) (pi_range1 rfl ev.B.range_ (pa_cons pe_int pa_nil)) (blkOk_by (own := [("_law_at", 16)]) (N := n_law_passes) (sc := defScope s_law_passes) (by decide +kernel)) (fun _ _ _ _ _ => pg_name (i := 16) sc_law_passes.nd rfl (Or.inl rfl)) (fun _ _ _ _ _ => pts_nil) (fun _ _ _ _ _ => (pe_call (ok_law_abs ev) (hr.mono (by decide)) (by rfl) ev.A_law_abs.m ev.A_law_abs.F.kp ev.A_law_abs.b .nil pass0 (pa_cons (pe_call (ok_law_sub ev) (hr.mono (by decide)) (by rfl) ev.A_law_sub.m ev.A_law_sub.F.kp ev.A_law_sub.b .nil pass0 (pa_cons (pe_ix (show IxR _ (rIxT K) from ix_tup) (pv 5) (pv 16) (fun _ _ => rfl)) (pa_cons (pe_ix (show IxR _ (rIxT K) from ix_tup) (pv 4) (pv 16) (fun _ _ => rfl)) pa_nil))) pa_nil))))
    (pss_cons (ps_set (i := 7) sc_law_passes.nd rfl (Or.inl rfl) (pe_callTy call_int1 (by rfl) ev.B.int_ (by decide +kernel) (pa_cons (pe_call (ok_law_less ev) (hr.mono (by decide)) (by rfl) ev.A_law_less.m ev.A_law_less.F.kp ev.A_law_less.b .nil pass0 (pa_cons (pe_ix ix_list (pv 6) pe_int (fun _ _ => rfl)) (pa_cons (pe_ix ix_list (pv 6) pe_int (fun _ _ => rfl)) pa_nil))) pa_nil)))
    (pss_cons (ps_par (i := 8) (j := 9) (by rfl) sc_law_passes.nd rfl rfl (by decide) rfl rfl (pa_cons (pe_ix ix_tup (pv 4) (pv 7) (fun _ _ => rfl)) (pa_cons (pe_ix ix_tup (pv 4) (pe_op op_sub pe_int (pv 7)) (fun _ _ => rfl)) pa_nil)) (by rfl))
    (pss_cons (ps_par (i := 10) (j := 11) (by rfl) sc_law_passes.nd rfl rfl (by decide) rfl rfl (pa_cons (pe_call (ok_law_sub ev) (hr.mono (by decide)) (by rfl) ev.A_law_sub.m ev.A_law_sub.F.kp ev.A_law_sub.b .nil pass0 (pa_cons (pe_ix ix_tup (pv 5) (pv 7) (fun _ _ => rfl)) (pa_cons (pv 8) pa_nil))) (pa_cons (pe_call (ok_law_sub ev) (hr.mono (by decide)) (by rfl) ev.A_law_sub.m ev.A_law_sub.F.kp ev.A_law_sub.b .nil pass0 (pa_cons (pe_ix ix_tup (pv 5) (pe_op op_sub pe_int (pv 7)) (fun _ _ => rfl)) (pa_cons (pv 9) pa_nil))) pa_nil)) (by rfl))
    (pss_cons (ps_for PassesOwn.never rfl (pi_list (pe_slice sl_list (pv 0) (po_some (pe_op op_add (pv 1) pe_int)) (po_some (pv 2)))) (pg_name (i := 12) sc_law_passes.nd rfl (Or.inl rfl))
    (pss_cons (ps_set (i := 13) sc_law_passes.nd rfl (Or.inl rfl) (pe_call (ok_law_sub ev) (hr.mono (by decide)) (by rfl) ev.A_law_sub.m ev.A_law_sub.F.kp ev.A_law_sub.b .nil pass0 (pa_cons (pe_ix ix_tup (pv 12) (pv 7) (fun _ _ => rfl)) (pa_cons (pv 8) pa_nil))))
    (pss_cons (ps_if (pt_cmpR op_eq (pe_ix ix_tup (pv 10) pe_int (fun _ _ => rfl)) pe_int (nomark _))
    (pss_cons (ps_if (pt_cmpR op_ne (pe_ix ix_tup (pv 13) pe_int (fun _ _ => rfl)) pe_int (nomark _))
    (pss_one (ps_ret pe_bl)) pss_nil)
    (pss_one (ps_set (i := 14) sc_law_passes.nd rfl (Or.inl rfl) (pv 9)))) (pss_cons (ps_set (i := 15) sc_law_passes.nd rfl (Or.inl rfl) (pe_call (ok_law_low ev) (hr.mono (by decide)) (by rfl) ev.A_law_low.m ev.A_law_low.F.kp ev.A_law_low.b .nil pass0 (pa_cons (pe_op op_mulW (pe_ix ix_tup (pv 13) pe_int (fun _ _ => rfl)) (pe_ix ix_tup (pv 10) pe_int (fun _ _ => rfl))) (pa_cons (pe_op op_mulW (pe_ix ix_tup (pv 13) pe_int (fun _ _ => rfl)) (pe_ix ix_tup (pv 10) pe_int (fun _ _ => rfl))) pa_nil))))
    (pss_cons (ps_if (PW.pt (pw_or (pt_cmpR op_lt (pe_ix ix_tup (pv 15) pe_int (fun _ _ => rfl)) pe_int (nomark _)) (pw_or1 (pt_cmpR op_gt (pe_ix ix_tup (pv 15) pe_int (fun _ _ => rfl)) (pe_ix ix_tup (pv 15) pe_int (fun _ _ => rfl)) (nomark _)))))
    (pss_one (ps_ret pe_bl)) pss_nil)
    (pss_one (ps_set (i := 14) sc_law_passes.nd rfl (Or.inl rfl) (pe_call (ok_law_add ev) (hr.mono (by decide)) (by rfl) ev.A_law_add.m ev.A_law_add.F.kp ev.A_law_add.b .nil pass0 (pa_cons (pv 9) (pa_cons (pe_call (ok_law_mul ev) (hr.mono (by decide)) (by rfl) ev.A_law_mul.m ev.A_law_mul.F.kp ev.A_law_mul.b .nil pass0 (pa_cons (pv 11) (pa_cons (pv 15) pa_nil))) pa_nil))))))))
    (pss_one (ps_if (pt_val (pe_call (ok_law_less ev) (hr.mono (by decide)) (by rfl) ev.A_law_less.m ev.A_law_less.F.kp ev.A_law_less.b .nil pass0 (pa_cons (pe_tup (pa_cons (pv 3) (pa_cons pe_int pa_nil))) (pa_cons (pe_call (ok_law_abs ev) (hr.mono (by decide)) (by rfl) ev.A_law_abs.m ev.A_law_abs.F.kp ev.A_law_abs.b .nil pass0 (pa_cons (pe_call (ok_law_sub ev) (hr.mono (by decide)) (by rfl) ev.A_law_sub.m ev.A_law_sub.F.kp ev.A_law_sub.b .nil pass0 (pa_cons (pe_ix ix_tup (pv 12) (pe_op op_sub pe_int (pv 7)) (fun _ _ => rfl)) (pa_cons (pv 14) pa_nil))) pa_nil)) pa_nil))))
    (pss_one (ps_ret pe_bl)) pss_nil)))))
    (pss_one (ps_ret pe_bl)))))))), ?_⟩
  dsimp only [m_law_passes] at hm
  obtain ⟨law_one_1, ea2, hm⟩ := bd_some hm
  obtain ⟨law_two_2, eb2, hm⟩ := bd_some hm
  refine q_par2 (T := []) dm (ev_op od_ixL (ev_var ts h_law_row rfl) (ev_var ts h_law_first rfl)) ea2 (ev_op od_ixL (ev_var ts h_law_row rfl) (ev_var ts h_law_last rfl)) eb2 (fun v_law_one v_law_two H2 s2 h_law_one h_law_two => ?_)
  have fr0 := fr0.trans (Fr.same s2)
  have dm := dm.same s2
  have h_law_row := ((tL (tT2 tRat tRat)) : Ty K (List (Rat × Rat))).mono (S := S) (Fr.same s2) h_law_row
  have h_law_first := (tInt : Ty K Int).mono (S := S) (Fr.same s2) h_law_first
  have h_law_last := (tInt : Ty K Int).mono (S := S) (Fr.same s2) h_law_last
  have h_law_off_by := (tInt : Ty K Int).mono (S := S) (Fr.same s2) h_law_off_by
  obtain ⟨law_gaps_4, e4, hm⟩ := bd_some hm
  refine q_asg (T := []) dm (ev_new (ev_lc (sr_r1 (K := K) (ev_int (K := K))) (fun v => by rfl) (fun law_at_3 v_law_at H2' H' p' fr' nD' sm' h_law_at => by have h_law_row := ((tL (tT2 tRat tRat)) : Ty K (List (Rat × Rat))).mono (Fr.same sm') (((tL (tT2 tRat tRat)) : Ty K (List (Rat × Rat))).ext (S := S) nD' (((tL (tT2 tRat tRat)) : Ty K (List (Rat × Rat))).mono (Fr.sub ts fr') h_law_row)); have h_law_first := (tInt : Ty K Int).mono (Fr.same sm') ((tInt : Ty K Int).ext (S := S) nD' ((tInt : Ty K Int).mono (Fr.sub ts fr') h_law_first)); have h_law_last := (tInt : Ty K Int).mono (Fr.same sm') ((tInt : Ty K Int).ext (S := S) nD' ((tInt : Ty K Int).mono (Fr.sub ts fr') h_law_last)); have h_law_off_by := (tInt : Ty K Int).mono (Fr.same sm') ((tInt : Ty K Int).ext (S := S) nD' ((tInt : Ty K Int).mono (Fr.sub ts fr') h_law_off_by)); have h_law_one := ((tT2 tRat tRat) : Ty K (Rat × Rat)).mono (Fr.same sm') (((tT2 tRat tRat) : Ty K (Rat × Rat)).ext (S := S) nD' (((tT2 tRat tRat) : Ty K (Rat × Rat)).mono (Fr.sub ts fr') h_law_one)); have h_law_two := ((tT2 tRat tRat) : Ty K (Rat × Rat)).mono (Fr.same sm') (((tT2 tRat tRat) : Ty K (Rat × Rat)).ext (S := S) nD' (((tT2 tRat tRat) : Ty K (Rat × Rat)).mono (Fr.sub ts fr') h_law_two)); have ts0' := ts; have ts : Sub [] (p' :: S) := (fun a m => by simp at m);  exact (ev_call (ea_cons (ev_call (ea_cons (ev_op od_ix2 (ev_var ts h_law_two rfl) (ev_var ts h_law_at rfl)) (ea_cons (ev_op od_ix2 (ev_var ts h_law_one rfl) (ev_var ts h_law_at rfl)) ea_nil))) ea_nil))))) e4 (fun v_law_gaps H4 s4 h_law_gaps => ?_)
  have fr0 := fr0.trans (Fr.same s4)
  have dm := dm.same s4
  have h_law_row := ((tL (tT2 tRat tRat)) : Ty K (List (Rat × Rat))).mono (S := S) (Fr.same s4) h_law_row
  have h_law_first := (tInt : Ty K Int).mono (S := S) (Fr.same s4) h_law_first
  have h_law_last := (tInt : Ty K Int).mono (S := S) (Fr.same s4) h_law_last
  have h_law_off_by := (tInt : Ty K Int).mono (S := S) (Fr.same s4) h_law_off_by
  have h_law_one := ((tT2 tRat tRat) : Ty K (Rat × Rat)).mono (S := S) (Fr.same s4) h_law_one
  have h_law_two := ((tT2 tRat tRat) : Ty K (Rat × Rat)).mono (S := S) (Fr.same s4) h_law_two
  have h_law_gaps : ((tL tRat) : Ty K (List Rat)).rp S H4 v_law_gaps law_gaps_4 := h_law_gaps
  obtain ⟨law_long_5, e5, hm⟩ := bd_some hm
  refine q_asg (T := []) dm (ev_intB (ev_call (ea_cons (ev_op od_ixL (ev_var ts h_law_gaps rfl) (ev_int (K := K))) (ea_cons (ev_op od_ixL (ev_var ts h_law_gaps rfl) (ev_int (K := K))) ea_nil)))) e5 (fun v_law_long H5 s5 h_law_long => ?_)
  have fr0 := fr0.trans (Fr.same s5)
  have dm := dm.same s5
  have h_law_row := ((tL (tT2 tRat tRat)) : Ty K (List (Rat × Rat))).mono (S := S) (Fr.same s5) h_law_row
  have h_law_first := (tInt : Ty K Int).mono (S := S) (Fr.same s5) h_law_first
  have h_law_last := (tInt : Ty K Int).mono (S := S) (Fr.same s5) h_law_last
  have h_law_off_by := (tInt : Ty K Int).mono (S := S) (Fr.same s5) h_law_off_by
  have h_law_one := ((tT2 tRat tRat) : Ty K (Rat × Rat)).mono (S := S) (Fr.same s5) h_law_one
  have h_law_two := ((tT2 tRat tRat) : Ty K (Rat × Rat)).mono (S := S) (Fr.same s5) h_law_two
  have h_law_gaps := ((tL tRat) : Ty K (List Rat)).mono (S := S) (Fr.same s5) h_law_gaps
  have h_law_long : (tInt : Ty K Int).rp S H5 v_law_long law_long_5 := h_law_long
  obtain ⟨law_u_6, ea7, hm⟩ := bd_some hm
  obtain ⟨law_v_7, eb7, hm⟩ := bd_some hm
  refine q_par (T := []) dm (ev_op od_ix2 (ev_var ts h_law_one rfl) (ev_var ts h_law_long rfl)) ea7 (ev_op od_ix2 (ev_var ts h_law_one rfl) (ev_op (od_sub (K := K)) (ev_int (K := K)) (ev_var ts h_law_long rfl))) eb7 (fun v_law_u v_law_v H7 s7 h_law_u h_law_v => ?_)
  have fr0 := fr0.trans (Fr.same s7)
  have dm := dm.same s7
  have h_law_row := ((tL (tT2 tRat tRat)) : Ty K (List (Rat × Rat))).mono (S := S) (Fr.same s7) h_law_row
  have h_law_first := (tInt : Ty K Int).mono (S := S) (Fr.same s7) h_law_first
  have h_law_last := (tInt : Ty K Int).mono (S := S) (Fr.same s7) h_law_last
  have h_law_off_by := (tInt : Ty K Int).mono (S := S) (Fr.same s7) h_law_off_by
  have h_law_one := ((tT2 tRat tRat) : Ty K (Rat × Rat)).mono (S := S) (Fr.same s7) h_law_one
  have h_law_two := ((tT2 tRat tRat) : Ty K (Rat × Rat)).mono (S := S) (Fr.same s7) h_law_two
  have h_law_gaps := ((tL tRat) : Ty K (List Rat)).mono (S := S) (Fr.same s7) h_law_gaps
  have h_law_long := (tInt : Ty K Int).mono (S := S) (Fr.same s7) h_law_long
  obtain ⟨law_wide_8, ea9, hm⟩ := bd_some hm
  obtain ⟨law_tall_9, eb9, hm⟩ := bd_some hm
  refine q_par (T := []) dm (ev_call (ea_cons (ev_op od_ix2 (ev_var ts h_law_two rfl) (ev_var ts h_law_long rfl)) (ea_cons (ev_var ts h_law_u rfl) ea_nil))) ea9 (ev_call (ea_cons (ev_op od_ix2 (ev_var ts h_law_two rfl) (ev_op (od_sub (K := K)) (ev_int (K := K)) (ev_var ts h_law_long rfl))) (ea_cons (ev_var ts h_law_v rfl) ea_nil))) eb9 (fun v_law_wide v_law_tall H9 s9 h_law_wide h_law_tall => ?_)
  have fr0 := fr0.trans (Fr.same s9)
  have dm := dm.same s9
  have h_law_row := ((tL (tT2 tRat tRat)) : Ty K (List (Rat × Rat))).mono (S := S) (Fr.same s9) h_law_row
  have h_law_first := (tInt : Ty K Int).mono (S := S) (Fr.same s9) h_law_first
  have h_law_last := (tInt : Ty K Int).mono (S := S) (Fr.same s9) h_law_last
  have h_law_off_by := (tInt : Ty K Int).mono (S := S) (Fr.same s9) h_law_off_by
  have h_law_one := ((tT2 tRat tRat) : Ty K (Rat × Rat)).mono (S := S) (Fr.same s9) h_law_one
  have h_law_two := ((tT2 tRat tRat) : Ty K (Rat × Rat)).mono (S := S) (Fr.same s9) h_law_two
  have h_law_gaps := ((tL tRat) : Ty K (List Rat)).mono (S := S) (Fr.same s9) h_law_gaps
  have h_law_long := (tInt : Ty K Int).mono (S := S) (Fr.same s9) h_law_long
  have h_law_u := (tRat : Ty K Rat).mono (S := S) (Fr.same s9) h_law_u
  have h_law_v := (tRat : Ty K Rat).mono (S := S) (Fr.same s9) h_law_v
  obtain ⟨xs20, e_xs20, hm⟩ := bd_some hm
  obtain ⟨r_10, el10, hm10⟩ := bd_some hm
  refine q_for_s (T := []) dm (sr_list (ev_new (ev_slL (ev_var ts h_law_row rfl) (eo_some (ev_op (od_add (K := K)) (ev_var ts h_law_first rfl) (ev_int (K := K)))) (eo_some (ev_var ts h_law_last rfl))))) e_xs20 el10 (fun s_10 σ' H' => ∃ v_law_row : V, ∃ v_law_first : V, ∃ v_law_last : V, ∃ v_law_off_by : V, ∃ v_law_one : V, ∃ v_law_two : V, ∃ v_law_gaps : V, ∃ v_law_long : V, ∃ v_law_u : V, ∃ v_law_v : V, ∃ v_law_wide : V, ∃ v_law_tall : V, ∃ f_12 : Option V, ∃ f_13 : Option V, ∃ f_14 : Option V, ∃ f_15 : Option V, ∃ f_16 : Option V, σ' = [some v_law_row, some v_law_first, some v_law_last, some v_law_off_by, some v_law_one, some v_law_two, some v_law_gaps, some v_law_long, some v_law_u, some v_law_v, some v_law_wide, some v_law_tall, f_12, f_13, f_14, f_15, f_16] ∧ Fr [] H0 H' ∧ Dom S H' ∧ ((tL (tT2 tRat tRat)) : Ty K (List (Rat × Rat))).rp S H' v_law_row d_law_row ∧ (tInt : Ty K Int).rp S H' v_law_first d_law_first ∧ (tInt : Ty K Int).rp S H' v_law_last d_law_last ∧ (tInt : Ty K Int).rp S H' v_law_off_by d_law_off_by ∧ ((tT2 tRat tRat) : Ty K (Rat × Rat)).rp S H' v_law_one law_one_1 ∧ ((tT2 tRat tRat) : Ty K (Rat × Rat)).rp S H' v_law_two law_two_2 ∧ ((tL tRat) : Ty K (List Rat)).rp S H' v_law_gaps law_gaps_4 ∧ (tInt : Ty K Int).rp S H' v_law_long law_long_5 ∧ (tRat : Ty K Rat).rp S H' v_law_u law_u_6 ∧ (tRat : Ty K Rat).rp S H' v_law_v law_v_7 ∧ (tRat : Ty K Rat).rp S H' v_law_wide law_wide_8 ∧ (tRat : Ty K Rat).rp S H' v_law_tall law_tall_9) (fun H10 s10 => ?_) (fun hd10 s_10 law_spot_10 cr10 v_law_spot σ' H' hI h_law_spot hx10 hm hret10 hbrk10 => ?_) (fun t_10 σ' H' er hI => ?_)
  · skip
    have fr0 := fr0.trans (Fr.same s10)
    have dm := dm.same s10
    have h_law_row := ((tL (tT2 tRat tRat)) : Ty K (List (Rat × Rat))).mono (S := S) (Fr.same s10) h_law_row
    have h_law_first := (tInt : Ty K Int).mono (S := S) (Fr.same s10) h_law_first
    have h_law_last := (tInt : Ty K Int).mono (S := S) (Fr.same s10) h_law_last
    have h_law_off_by := (tInt : Ty K Int).mono (S := S) (Fr.same s10) h_law_off_by
    have h_law_one := ((tT2 tRat tRat) : Ty K (Rat × Rat)).mono (S := S) (Fr.same s10) h_law_one
    have h_law_two := ((tT2 tRat tRat) : Ty K (Rat × Rat)).mono (S := S) (Fr.same s10) h_law_two
    have h_law_gaps := ((tL tRat) : Ty K (List Rat)).mono (S := S) (Fr.same s10) h_law_gaps
    have h_law_long := (tInt : Ty K Int).mono (S := S) (Fr.same s10) h_law_long
    have h_law_u := (tRat : Ty K Rat).mono (S := S) (Fr.same s10) h_law_u
    have h_law_v := (tRat : Ty K Rat).mono (S := S) (Fr.same s10) h_law_v
    have h_law_wide := (tRat : Ty K Rat).mono (S := S) (Fr.same s10) h_law_wide
    have h_law_tall := (tRat : Ty K Rat).mono (S := S) (Fr.same s10) h_law_tall
    exact ⟨v_law_row, v_law_first, v_law_last, v_law_off_by, v_law_one, v_law_two, v_law_gaps, v_law_long, v_law_u, v_law_v, v_law_wide, v_law_tall, _, _, _, _, _, rfl, fr0, dm, h_law_row, h_law_first, h_law_last, h_law_off_by, h_law_one, h_law_two, h_law_gaps, h_law_long, h_law_u, h_law_v, h_law_wide, h_law_tall⟩
  · skip
    obtain ⟨v_law_row, v_law_first, v_law_last, v_law_off_by, v_law_one, v_law_two, v_law_gaps, v_law_long, v_law_u, v_law_v, v_law_wide, v_law_tall, f_12, f_13, f_14, f_15, f_16, rfl, fr0, dm, h_law_row, h_law_first, h_law_last, h_law_off_by, h_law_one, h_law_two, h_law_gaps, h_law_long, h_law_u, h_law_v, h_law_wide, h_law_tall⟩ := hI
    let HL := H'
    have freshl : ∀ a ∈ S, a ∉ S → H' a = none := fun a m n => absurd m n
    have frl : Fr S HL H' := Fr.refl (T := S) H'
    have tsl := ts
    have subl : Sub S S := fun a m => m
    have h_law_spot : ((tT2 tRat tRat) : Ty K (Rat × Rat)).rp S H' v_law_spot law_spot_10 := h_law_spot
    obtain ⟨law_far_11, e11, hm⟩ := bd_some hm
    refine q_asg (T := []) dm (ev_call (ea_cons (ev_op od_ix2 (ev_var ts h_law_spot rfl) (ev_var ts h_law_long rfl)) (ea_cons (ev_var ts h_law_u rfl) ea_nil))) e11 (fun v_law_far H11 s11 h_law_far => ?_)
    have fr0 := fr0.trans (Fr.same s11)
    have dm := dm.same s11
    have frl := frl.trans (Fr.same s11)
    have h_law_row := ((tL (tT2 tRat tRat)) : Ty K (List (Rat × Rat))).mono (S := S) (Fr.same s11) h_law_row
    have h_law_first := (tInt : Ty K Int).mono (S := S) (Fr.same s11) h_law_first
    have h_law_last := (tInt : Ty K Int).mono (S := S) (Fr.same s11) h_law_last
    have h_law_off_by := (tInt : Ty K Int).mono (S := S) (Fr.same s11) h_law_off_by
    have h_law_one := ((tT2 tRat tRat) : Ty K (Rat × Rat)).mono (S := S) (Fr.same s11) h_law_one
    have h_law_two := ((tT2 tRat tRat) : Ty K (Rat × Rat)).mono (S := S) (Fr.same s11) h_law_two
    have h_law_gaps := ((tL tRat) : Ty K (List Rat)).mono (S := S) (Fr.same s11) h_law_gaps
    have h_law_long := (tInt : Ty K Int).mono (S := S) (Fr.same s11) h_law_long
    have h_law_u := (tRat : Ty K Rat).mono (S := S) (Fr.same s11) h_law_u
    have h_law_v := (tRat : Ty K Rat).mono (S := S) (Fr.same s11) h_law_v
    have h_law_wide := (tRat : Ty K Rat).mono (S := S) (Fr.same s11) h_law_wide
    have h_law_tall := (tRat : Ty K Rat).mono (S := S) (Fr.same s11) h_law_tall
    have h_law_spot := ((tT2 tRat tRat) : Ty K (Rat × Rat)).mono (S := S) (Fr.same s11) h_law_spot
    have h_law_far : (tRat : Ty K Rat).rp S H11 v_law_far law_far_11 := h_law_far
    obtain ⟨c12, e12, hm⟩ := bd_some hm
    refine q_if (T := []) dm (eb_test (K := K) (ev_op (od_eqI (K := K)) (ev_ixR0 (ev_var ts h_law_wide rfl)) (ev_int (K := K)))) e12 (fun hc H12 s12 => ?_) (fun hc H12 s12 => ?_)
    · skip
      subst hc
      have hm := if_t hm
      have fr0 := fr0.trans (Fr.same s12)
      have dm := dm.same s12
      have frl := frl.trans (Fr.same s12)
      have h_law_row := ((tL (tT2 tRat tRat)) : Ty K (List (Rat × Rat))).mono (S := S) (Fr.same s12) h_law_row
      have h_law_first := (tInt : Ty K Int).mono (S := S) (Fr.same s12) h_law_first
      have h_law_last := (tInt : Ty K Int).mono (S := S) (Fr.same s12) h_law_last
      have h_law_off_by := (tInt : Ty K Int).mono (S := S) (Fr.same s12) h_law_off_by
      have h_law_one := ((tT2 tRat tRat) : Ty K (Rat × Rat)).mono (S := S) (Fr.same s12) h_law_one
      have h_law_two := ((tT2 tRat tRat) : Ty K (Rat × Rat)).mono (S := S) (Fr.same s12) h_law_two
      have h_law_gaps := ((tL tRat) : Ty K (List Rat)).mono (S := S) (Fr.same s12) h_law_gaps
      have h_law_long := (tInt : Ty K Int).mono (S := S) (Fr.same s12) h_law_long
      have h_law_u := (tRat : Ty K Rat).mono (S := S) (Fr.same s12) h_law_u
      have h_law_v := (tRat : Ty K Rat).mono (S := S) (Fr.same s12) h_law_v
      have h_law_wide := (tRat : Ty K Rat).mono (S := S) (Fr.same s12) h_law_wide
      have h_law_tall := (tRat : Ty K Rat).mono (S := S) (Fr.same s12) h_law_tall
      have h_law_spot := ((tT2 tRat tRat) : Ty K (Rat × Rat)).mono (S := S) (Fr.same s12) h_law_spot
      have h_law_far := (tRat : Ty K Rat).mono (S := S) (Fr.same s12) h_law_far
      obtain ⟨c13, e13, hm⟩ := bd_some hm
      refine q_if (T := []) dm (eb_test (K := K) (ev_op (od_neI (K := K)) (ev_ixR0 (ev_var ts h_law_far rfl)) (ev_int (K := K)))) e13 (fun hc H13 s13 => ?_) (fun hc H13 s13 => ?_)
      · skip
        subst hc
        have hm := if_t hm
        have fr0 := fr0.trans (Fr.same s13)
        have dm := dm.same s13
        have frl := frl.trans (Fr.same s13)
        have h_law_row := ((tL (tT2 tRat tRat)) : Ty K (List (Rat × Rat))).mono (S := S) (Fr.same s13) h_law_row
        have h_law_first := (tInt : Ty K Int).mono (S := S) (Fr.same s13) h_law_first
        have h_law_last := (tInt : Ty K Int).mono (S := S) (Fr.same s13) h_law_last
        have h_law_off_by := (tInt : Ty K Int).mono (S := S) (Fr.same s13) h_law_off_by
        have h_law_one := ((tT2 tRat tRat) : Ty K (Rat × Rat)).mono (S := S) (Fr.same s13) h_law_one
        have h_law_two := ((tT2 tRat tRat) : Ty K (Rat × Rat)).mono (S := S) (Fr.same s13) h_law_two
        have h_law_gaps := ((tL tRat) : Ty K (List Rat)).mono (S := S) (Fr.same s13) h_law_gaps
        have h_law_long := (tInt : Ty K Int).mono (S := S) (Fr.same s13) h_law_long
        have h_law_u := (tRat : Ty K Rat).mono (S := S) (Fr.same s13) h_law_u
        have h_law_v := (tRat : Ty K Rat).mono (S := S) (Fr.same s13) h_law_v
        have h_law_wide := (tRat : Ty K Rat).mono (S := S) (Fr.same s13) h_law_wide
        have h_law_tall := (tRat : Ty K Rat).mono (S := S) (Fr.same s13) h_law_tall
        have h_law_spot := ((tT2 tRat tRat) : Ty K (Rat × Rat)).mono (S := S) (Fr.same s13) h_law_spot
        have h_law_far := (tRat : Ty K Rat).mono (S := S) (Fr.same s13) h_law_far
        obtain ⟨z9, er, hm⟩ := bd_some hm
        cases hm
        have er10 := hret10 _ rfl
        subst er10
        cases hm10
        exact q_ret (T := []) dm (ev_bool (K := K)) er (fun v H21 s21 hv => q v H21 (fr0.trans (Fr.same s21)).toSame ((tBool : Ty K Bool).sub (S := S) (H := H21) sub0 hv))
      subst hc
      have hm := if_f hm
      have fr0 := fr0.trans (Fr.same s13)
      have dm := dm.same s13
      have frl := frl.trans (Fr.same s13)
      have h_law_row := ((tL (tT2 tRat tRat)) : Ty K (List (Rat × Rat))).mono (S := S) (Fr.same s13) h_law_row
      have h_law_first := (tInt : Ty K Int).mono (S := S) (Fr.same s13) h_law_first
      have h_law_last := (tInt : Ty K Int).mono (S := S) (Fr.same s13) h_law_last
      have h_law_off_by := (tInt : Ty K Int).mono (S := S) (Fr.same s13) h_law_off_by
      have h_law_one := ((tT2 tRat tRat) : Ty K (Rat × Rat)).mono (S := S) (Fr.same s13) h_law_one
      have h_law_two := ((tT2 tRat tRat) : Ty K (Rat × Rat)).mono (S := S) (Fr.same s13) h_law_two
      have h_law_gaps := ((tL tRat) : Ty K (List Rat)).mono (S := S) (Fr.same s13) h_law_gaps
      have h_law_long := (tInt : Ty K Int).mono (S := S) (Fr.same s13) h_law_long
      have h_law_u := (tRat : Ty K Rat).mono (S := S) (Fr.same s13) h_law_u
      have h_law_v := (tRat : Ty K Rat).mono (S := S) (Fr.same s13) h_law_v
      have h_law_wide := (tRat : Ty K Rat).mono (S := S) (Fr.same s13) h_law_wide
      have h_law_tall := (tRat : Ty K Rat).mono (S := S) (Fr.same s13) h_law_tall
      have h_law_spot := ((tT2 tRat tRat) : Ty K (Rat × Rat)).mono (S := S) (Fr.same s13) h_law_spot
      have h_law_far := (tRat : Ty K Rat).mono (S := S) (Fr.same s13) h_law_far
      refine q_next ?_
      obtain ⟨law_line_14, e14, hm⟩ := bd_some hm
      refine l_asg (T := []) dm (ev_var ts h_law_v rfl) e14 (fun v_law_line H14 s14 h_law_line => ?_)
      have fr0 := fr0.trans (Fr.same s14)
      have dm := dm.same s14
      have frl := frl.trans (Fr.same s14)
      have h_law_row := ((tL (tT2 tRat tRat)) : Ty K (List (Rat × Rat))).mono (S := S) (Fr.same s14) h_law_row
      have h_law_first := (tInt : Ty K Int).mono (S := S) (Fr.same s14) h_law_first
      have h_law_last := (tInt : Ty K Int).mono (S := S) (Fr.same s14) h_law_last
      have h_law_off_by := (tInt : Ty K Int).mono (S := S) (Fr.same s14) h_law_off_by
      have h_law_one := ((tT2 tRat tRat) : Ty K (Rat × Rat)).mono (S := S) (Fr.same s14) h_law_one
      have h_law_two := ((tT2 tRat tRat) : Ty K (Rat × Rat)).mono (S := S) (Fr.same s14) h_law_two
      have h_law_gaps := ((tL tRat) : Ty K (List Rat)).mono (S := S) (Fr.same s14) h_law_gaps
      have h_law_long := (tInt : Ty K Int).mono (S := S) (Fr.same s14) h_law_long
      have h_law_u := (tRat : Ty K Rat).mono (S := S) (Fr.same s14) h_law_u
      have h_law_v := (tRat : Ty K Rat).mono (S := S) (Fr.same s14) h_law_v
      have h_law_wide := (tRat : Ty K Rat).mono (S := S) (Fr.same s14) h_law_wide
      have h_law_tall := (tRat : Ty K Rat).mono (S := S) (Fr.same s14) h_law_tall
      have h_law_spot := ((tT2 tRat tRat) : Ty K (Rat × Rat)).mono (S := S) (Fr.same s14) h_law_spot
      have h_law_far := (tRat : Ty K Rat).mono (S := S) (Fr.same s14) h_law_far
      have h_law_line : (tRat : Ty K Rat).rp S H14 v_law_line law_line_14 := h_law_line
      try dsimp only
      obtain ⟨c15, e15, hm⟩ := bd_some hm
      refine l_if (T := []) dm (eb_B (K := K) (ev_call (ea_cons (ev_p2r (ev_tup2 (ev_var ts h_law_off_by rfl) (ev_int (K := K)))) (ea_cons (ev_call (ea_cons (ev_call (ea_cons (ev_op od_ix2 (ev_var ts h_law_spot rfl) (ev_op (od_sub (K := K)) (ev_int (K := K)) (ev_var ts h_law_long rfl))) (ea_cons (ev_var ts h_law_line rfl) ea_nil))) ea_nil)) ea_nil)))) e15 (fun hc H15 s15 => ?_) (fun hc H15 s15 => ?_)
      · skip
        subst hc
        have hm := if_t hm
        have fr0 := fr0.trans (Fr.same s15)
        have dm := dm.same s15
        have frl := frl.trans (Fr.same s15)
        have h_law_row := ((tL (tT2 tRat tRat)) : Ty K (List (Rat × Rat))).mono (S := S) (Fr.same s15) h_law_row
        have h_law_first := (tInt : Ty K Int).mono (S := S) (Fr.same s15) h_law_first
        have h_law_last := (tInt : Ty K Int).mono (S := S) (Fr.same s15) h_law_last
        have h_law_off_by := (tInt : Ty K Int).mono (S := S) (Fr.same s15) h_law_off_by
        have h_law_one := ((tT2 tRat tRat) : Ty K (Rat × Rat)).mono (S := S) (Fr.same s15) h_law_one
        have h_law_two := ((tT2 tRat tRat) : Ty K (Rat × Rat)).mono (S := S) (Fr.same s15) h_law_two
        have h_law_gaps := ((tL tRat) : Ty K (List Rat)).mono (S := S) (Fr.same s15) h_law_gaps
        have h_law_long := (tInt : Ty K Int).mono (S := S) (Fr.same s15) h_law_long
        have h_law_u := (tRat : Ty K Rat).mono (S := S) (Fr.same s15) h_law_u
        have h_law_v := (tRat : Ty K Rat).mono (S := S) (Fr.same s15) h_law_v
        have h_law_wide := (tRat : Ty K Rat).mono (S := S) (Fr.same s15) h_law_wide
        have h_law_tall := (tRat : Ty K Rat).mono (S := S) (Fr.same s15) h_law_tall
        have h_law_spot := ((tT2 tRat tRat) : Ty K (Rat × Rat)).mono (S := S) (Fr.same s15) h_law_spot
        have h_law_far := (tRat : Ty K Rat).mono (S := S) (Fr.same s15) h_law_far
        have h_law_line := (tRat : Ty K Rat).mono (S := S) (Fr.same s15) h_law_line
        obtain ⟨z9, er, hm⟩ := bd_some hm
        cases hm
        have er10 := hret10 _ rfl
        subst er10
        cases hm10
        exact q_ret (T := []) dm (ev_bool (K := K)) er (fun v H22 s22 hv => q v H22 (fr0.trans (Fr.same s22)).toSame ((tBool : Ty K Bool).sub (S := S) (H := H22) sub0 hv))
      subst hc
      have hm := if_f hm
      have fr0 := fr0.trans (Fr.same s15)
      have dm := dm.same s15
      have frl := frl.trans (Fr.same s15)
      have h_law_row := ((tL (tT2 tRat tRat)) : Ty K (List (Rat × Rat))).mono (S := S) (Fr.same s15) h_law_row
      have h_law_first := (tInt : Ty K Int).mono (S := S) (Fr.same s15) h_law_first
      have h_law_last := (tInt : Ty K Int).mono (S := S) (Fr.same s15) h_law_last
      have h_law_off_by := (tInt : Ty K Int).mono (S := S) (Fr.same s15) h_law_off_by
      have h_law_one := ((tT2 tRat tRat) : Ty K (Rat × Rat)).mono (S := S) (Fr.same s15) h_law_one
      have h_law_two := ((tT2 tRat tRat) : Ty K (Rat × Rat)).mono (S := S) (Fr.same s15) h_law_two
      have h_law_gaps := ((tL tRat) : Ty K (List Rat)).mono (S := S) (Fr.same s15) h_law_gaps
      have h_law_long := (tInt : Ty K Int).mono (S := S) (Fr.same s15) h_law_long
      have h_law_u := (tRat : Ty K Rat).mono (S := S) (Fr.same s15) h_law_u
      have h_law_v := (tRat : Ty K Rat).mono (S := S) (Fr.same s15) h_law_v
      have h_law_wide := (tRat : Ty K Rat).mono (S := S) (Fr.same s15) h_law_wide
      have h_law_tall := (tRat : Ty K Rat).mono (S := S) (Fr.same s15) h_law_tall
      have h_law_spot := ((tT2 tRat tRat) : Ty K (Rat × Rat)).mono (S := S) (Fr.same s15) h_law_spot
      have h_law_far := (tRat : Ty K Rat).mono (S := S) (Fr.same s15) h_law_far
      have h_law_line := (tRat : Ty K Rat).mono (S := S) (Fr.same s15) h_law_line
      refine l_next ?_
      cases hm
      exact ⟨_, rfl, frl, ⟨v_law_row, v_law_first, v_law_last, v_law_off_by, v_law_one, v_law_two, v_law_gaps, v_law_long, v_law_u, v_law_v, v_law_wide, v_law_tall, _, _, _, _, _, rfl, fr0, dm, h_law_row, h_law_first, h_law_last, h_law_off_by, h_law_one, h_law_two, h_law_gaps, h_law_long, h_law_u, h_law_v, h_law_wide, h_law_tall⟩⟩
    · skip
      subst hc
      have hm := if_f hm
      have fr0 := fr0.trans (Fr.same s12)
      have dm := dm.same s12
      have frl := frl.trans (Fr.same s12)
      have h_law_row := ((tL (tT2 tRat tRat)) : Ty K (List (Rat × Rat))).mono (S := S) (Fr.same s12) h_law_row
      have h_law_first := (tInt : Ty K Int).mono (S := S) (Fr.same s12) h_law_first
      have h_law_last := (tInt : Ty K Int).mono (S := S) (Fr.same s12) h_law_last
      have h_law_off_by := (tInt : Ty K Int).mono (S := S) (Fr.same s12) h_law_off_by
      have h_law_one := ((tT2 tRat tRat) : Ty K (Rat × Rat)).mono (S := S) (Fr.same s12) h_law_one
      have h_law_two := ((tT2 tRat tRat) : Ty K (Rat × Rat)).mono (S := S) (Fr.same s12) h_law_two
      have h_law_gaps := ((tL tRat) : Ty K (List Rat)).mono (S := S) (Fr.same s12) h_law_gaps
      have h_law_long := (tInt : Ty K Int).mono (S := S) (Fr.same s12) h_law_long
      have h_law_u := (tRat : Ty K Rat).mono (S := S) (Fr.same s12) h_law_u
      have h_law_v := (tRat : Ty K Rat).mono (S := S) (Fr.same s12) h_law_v
      have h_law_wide := (tRat : Ty K Rat).mono (S := S) (Fr.same s12) h_law_wide
      have h_law_tall := (tRat : Ty K Rat).mono (S := S) (Fr.same s12) h_law_tall
      have h_law_spot := ((tT2 tRat tRat) : Ty K (Rat × Rat)).mono (S := S) (Fr.same s12) h_law_spot
      have h_law_far := (tRat : Ty K Rat).mono (S := S) (Fr.same s12) h_law_far
      obtain ⟨law_part_16, e16, hm⟩ := bd_some hm
      refine q_asg (T := []) dm (ev_law_low (ea_cons (ev_op (od_mul (K := K)) (ev_ixR0 (ev_var ts h_law_far rfl)) (ev_ixR1 (ev_var ts h_law_wide rfl))) (ea_cons (ev_op (od_mul (K := K)) (ev_ixR1 (ev_var ts h_law_far rfl)) (ev_ixR0 (ev_var ts h_law_wide rfl))) ea_nil))) e16 (fun v_law_part H16 s16 h_law_part => ?_)
      have fr0 := fr0.trans (Fr.same s16)
      have dm := dm.same s16
      have frl := frl.trans (Fr.same s16)
      have h_law_row := ((tL (tT2 tRat tRat)) : Ty K (List (Rat × Rat))).mono (S := S) (Fr.same s16) h_law_row
      have h_law_first := (tInt : Ty K Int).mono (S := S) (Fr.same s16) h_law_first
      have h_law_last := (tInt : Ty K Int).mono (S := S) (Fr.same s16) h_law_last
      have h_law_off_by := (tInt : Ty K Int).mono (S := S) (Fr.same s16) h_law_off_by
      have h_law_one := ((tT2 tRat tRat) : Ty K (Rat × Rat)).mono (S := S) (Fr.same s16) h_law_one
      have h_law_two := ((tT2 tRat tRat) : Ty K (Rat × Rat)).mono (S := S) (Fr.same s16) h_law_two
      have h_law_gaps := ((tL tRat) : Ty K (List Rat)).mono (S := S) (Fr.same s16) h_law_gaps
      have h_law_long := (tInt : Ty K Int).mono (S := S) (Fr.same s16) h_law_long
      have h_law_u := (tRat : Ty K Rat).mono (S := S) (Fr.same s16) h_law_u
      have h_law_v := (tRat : Ty K Rat).mono (S := S) (Fr.same s16) h_law_v
      have h_law_wide := (tRat : Ty K Rat).mono (S := S) (Fr.same s16) h_law_wide
      have h_law_tall := (tRat : Ty K Rat).mono (S := S) (Fr.same s16) h_law_tall
      have h_law_spot := ((tT2 tRat tRat) : Ty K (Rat × Rat)).mono (S := S) (Fr.same s16) h_law_spot
      have h_law_far := (tRat : Ty K Rat).mono (S := S) (Fr.same s16) h_law_far
      have h_law_part : (tRat : Ty K Rat).rp S H16 v_law_part law_part_16 := h_law_part
      obtain ⟨c17, e17, hm⟩ := bd_some hm
      refine q_if (T := []) dm (eb_or (eb_test (K := K) (ev_op (od_lt (K := K)) (ev_ixR0 (ev_var ts h_law_part rfl)) (ev_int (K := K)))) (eb_test (K := K) (ev_op (od_gt (K := K)) (ev_ixR0 (ev_var ts h_law_part rfl)) (ev_ixR1 (ev_var ts h_law_part rfl))))) e17 (fun hc H17 s17 => ?_) (fun hc H17 s17 => ?_)
      · skip
        subst hc
        have hm := if_t hm
        have fr0 := fr0.trans (Fr.same s17)
        have dm := dm.same s17
        have frl := frl.trans (Fr.same s17)
        have h_law_row := ((tL (tT2 tRat tRat)) : Ty K (List (Rat × Rat))).mono (S := S) (Fr.same s17) h_law_row
        have h_law_first := (tInt : Ty K Int).mono (S := S) (Fr.same s17) h_law_first
        have h_law_last := (tInt : Ty K Int).mono (S := S) (Fr.same s17) h_law_last
        have h_law_off_by := (tInt : Ty K Int).mono (S := S) (Fr.same s17) h_law_off_by
        have h_law_one := ((tT2 tRat tRat) : Ty K (Rat × Rat)).mono (S := S) (Fr.same s17) h_law_one
        have h_law_two := ((tT2 tRat tRat) : Ty K (Rat × Rat)).mono (S := S) (Fr.same s17) h_law_two
        have h_law_gaps := ((tL tRat) : Ty K (List Rat)).mono (S := S) (Fr.same s17) h_law_gaps
        have h_law_long := (tInt : Ty K Int).mono (S := S) (Fr.same s17) h_law_long
        have h_law_u := (tRat : Ty K Rat).mono (S := S) (Fr.same s17) h_law_u
        have h_law_v := (tRat : Ty K Rat).mono (S := S) (Fr.same s17) h_law_v
        have h_law_wide := (tRat : Ty K Rat).mono (S := S) (Fr.same s17) h_law_wide
        have h_law_tall := (tRat : Ty K Rat).mono (S := S) (Fr.same s17) h_law_tall
        have h_law_spot := ((tT2 tRat tRat) : Ty K (Rat × Rat)).mono (S := S) (Fr.same s17) h_law_spot
        have h_law_far := (tRat : Ty K Rat).mono (S := S) (Fr.same s17) h_law_far
        have h_law_part := (tRat : Ty K Rat).mono (S := S) (Fr.same s17) h_law_part
        obtain ⟨z9, er, hm⟩ := bd_some hm
        cases hm
        have er10 := hret10 _ rfl
        subst er10
        cases hm10
        exact q_ret (T := []) dm (ev_bool (K := K)) er (fun v H23 s23 hv => q v H23 (fr0.trans (Fr.same s23)).toSame ((tBool : Ty K Bool).sub (S := S) (H := H23) sub0 hv))
      subst hc
      have hm := if_f hm
      have fr0 := fr0.trans (Fr.same s17)
      have dm := dm.same s17
      have frl := frl.trans (Fr.same s17)
      have h_law_row := ((tL (tT2 tRat tRat)) : Ty K (List (Rat × Rat))).mono (S := S) (Fr.same s17) h_law_row
      have h_law_first := (tInt : Ty K Int).mono (S := S) (Fr.same s17) h_law_first
      have h_law_last := (tInt : Ty K Int).mono (S := S) (Fr.same s17) h_law_last
      have h_law_off_by := (tInt : Ty K Int).mono (S := S) (Fr.same s17) h_law_off_by
      have h_law_one := ((tT2 tRat tRat) : Ty K (Rat × Rat)).mono (S := S) (Fr.same s17) h_law_one
      have h_law_two := ((tT2 tRat tRat) : Ty K (Rat × Rat)).mono (S := S) (Fr.same s17) h_law_two
      have h_law_gaps := ((tL tRat) : Ty K (List Rat)).mono (S := S) (Fr.same s17) h_law_gaps
      have h_law_long := (tInt : Ty K Int).mono (S := S) (Fr.same s17) h_law_long
      have h_law_u := (tRat : Ty K Rat).mono (S := S) (Fr.same s17) h_law_u
      have h_law_v := (tRat : Ty K Rat).mono (S := S) (Fr.same s17) h_law_v
      have h_law_wide := (tRat : Ty K Rat).mono (S := S) (Fr.same s17) h_law_wide
      have h_law_tall := (tRat : Ty K Rat).mono (S := S) (Fr.same s17) h_law_tall
      have h_law_spot := ((tT2 tRat tRat) : Ty K (Rat × Rat)).mono (S := S) (Fr.same s17) h_law_spot
      have h_law_far := (tRat : Ty K Rat).mono (S := S) (Fr.same s17) h_law_far
      have h_law_part := (tRat : Ty K Rat).mono (S := S) (Fr.same s17) h_law_part
      refine q_next ?_
      obtain ⟨law_line_18, e18, hm⟩ := bd_some hm
      refine l_asg (T := []) dm (ev_call (ea_cons (ev_var ts h_law_v rfl) (ea_cons (ev_call (ea_cons (ev_var ts h_law_tall rfl) (ea_cons (ev_var ts h_law_part rfl) ea_nil))) ea_nil))) e18 (fun v_law_line H18 s18 h_law_line => ?_)
      have fr0 := fr0.trans (Fr.same s18)
      have dm := dm.same s18
      have frl := frl.trans (Fr.same s18)
      have h_law_row := ((tL (tT2 tRat tRat)) : Ty K (List (Rat × Rat))).mono (S := S) (Fr.same s18) h_law_row
      have h_law_first := (tInt : Ty K Int).mono (S := S) (Fr.same s18) h_law_first
      have h_law_last := (tInt : Ty K Int).mono (S := S) (Fr.same s18) h_law_last
      have h_law_off_by := (tInt : Ty K Int).mono (S := S) (Fr.same s18) h_law_off_by
      have h_law_one := ((tT2 tRat tRat) : Ty K (Rat × Rat)).mono (S := S) (Fr.same s18) h_law_one
      have h_law_two := ((tT2 tRat tRat) : Ty K (Rat × Rat)).mono (S := S) (Fr.same s18) h_law_two
      have h_law_gaps := ((tL tRat) : Ty K (List Rat)).mono (S := S) (Fr.same s18) h_law_gaps
      have h_law_long := (tInt : Ty K Int).mono (S := S) (Fr.same s18) h_law_long
      have h_law_u := (tRat : Ty K Rat).mono (S := S) (Fr.same s18) h_law_u
      have h_law_v := (tRat : Ty K Rat).mono (S := S) (Fr.same s18) h_law_v
      have h_law_wide := (tRat : Ty K Rat).mono (S := S) (Fr.same s18) h_law_wide
      have h_law_tall := (tRat : Ty K Rat).mono (S := S) (Fr.same s18) h_law_tall
      have h_law_spot := ((tT2 tRat tRat) : Ty K (Rat × Rat)).mono (S := S) (Fr.same s18) h_law_spot
      have h_law_far := (tRat : Ty K Rat).mono (S := S) (Fr.same s18) h_law_far
      have h_law_part := (tRat : Ty K Rat).mono (S := S) (Fr.same s18) h_law_part
      have h_law_line : (tRat : Ty K Rat).rp S H18 v_law_line law_line_18 := h_law_line
      try dsimp only
      obtain ⟨c19, e19, hm⟩ := bd_some hm
      refine l_if (T := []) dm (eb_B (K := K) (ev_call (ea_cons (ev_p2r (ev_tup2 (ev_var ts h_law_off_by rfl) (ev_int (K := K)))) (ea_cons (ev_call (ea_cons (ev_call (ea_cons (ev_op od_ix2 (ev_var ts h_law_spot rfl) (ev_op (od_sub (K := K)) (ev_int (K := K)) (ev_var ts h_law_long rfl))) (ea_cons (ev_var ts h_law_line rfl) ea_nil))) ea_nil)) ea_nil)))) e19 (fun hc H19 s19 => ?_) (fun hc H19 s19 => ?_)
      · skip
        subst hc
        have hm := if_t hm
        have fr0 := fr0.trans (Fr.same s19)
        have dm := dm.same s19
        have frl := frl.trans (Fr.same s19)
        have h_law_row := ((tL (tT2 tRat tRat)) : Ty K (List (Rat × Rat))).mono (S := S) (Fr.same s19) h_law_row
        have h_law_first := (tInt : Ty K Int).mono (S := S) (Fr.same s19) h_law_first
        have h_law_last := (tInt : Ty K Int).mono (S := S) (Fr.same s19) h_law_last
        have h_law_off_by := (tInt : Ty K Int).mono (S := S) (Fr.same s19) h_law_off_by
        have h_law_one := ((tT2 tRat tRat) : Ty K (Rat × Rat)).mono (S := S) (Fr.same s19) h_law_one
        have h_law_two := ((tT2 tRat tRat) : Ty K (Rat × Rat)).mono (S := S) (Fr.same s19) h_law_two
        have h_law_gaps := ((tL tRat) : Ty K (List Rat)).mono (S := S) (Fr.same s19) h_law_gaps
        have h_law_long := (tInt : Ty K Int).mono (S := S) (Fr.same s19) h_law_long
        have h_law_u := (tRat : Ty K Rat).mono (S := S) (Fr.same s19) h_law_u
        have h_law_v := (tRat : Ty K Rat).mono (S := S) (Fr.same s19) h_law_v
        have h_law_wide := (tRat : Ty K Rat).mono (S := S) (Fr.same s19) h_law_wide
        have h_law_tall := (tRat : Ty K Rat).mono (S := S) (Fr.same s19) h_law_tall
        have h_law_spot := ((tT2 tRat tRat) : Ty K (Rat × Rat)).mono (S := S) (Fr.same s19) h_law_spot
        have h_law_far := (tRat : Ty K Rat).mono (S := S) (Fr.same s19) h_law_far
        have h_law_part := (tRat : Ty K Rat).mono (S := S) (Fr.same s19) h_law_part
        have h_law_line := (tRat : Ty K Rat).mono (S := S) (Fr.same s19) h_law_line
        obtain ⟨z9, er, hm⟩ := bd_some hm
        cases hm
        have er10 := hret10 _ rfl
        subst er10
        cases hm10
        exact q_ret (T := []) dm (ev_bool (K := K)) er (fun v H24 s24 hv => q v H24 (fr0.trans (Fr.same s24)).toSame ((tBool : Ty K Bool).sub (S := S) (H := H24) sub0 hv))
      subst hc
      have hm := if_f hm
      have fr0 := fr0.trans (Fr.same s19)
      have dm := dm.same s19
      have frl := frl.trans (Fr.same s19)
      have h_law_row := ((tL (tT2 tRat tRat)) : Ty K (List (Rat × Rat))).mono (S := S) (Fr.same s19) h_law_row
      have h_law_first := (tInt : Ty K Int).mono (S := S) (Fr.same s19) h_law_first
      have h_law_last := (tInt : Ty K Int).mono (S := S) (Fr.same s19) h_law_last
      have h_law_off_by := (tInt : Ty K Int).mono (S := S) (Fr.same s19) h_law_off_by
      have h_law_one := ((tT2 tRat tRat) : Ty K (Rat × Rat)).mono (S := S) (Fr.same s19) h_law_one
      have h_law_two := ((tT2 tRat tRat) : Ty K (Rat × Rat)).mono (S := S) (Fr.same s19) h_law_two
      have h_law_gaps := ((tL tRat) : Ty K (List Rat)).mono (S := S) (Fr.same s19) h_law_gaps
      have h_law_long := (tInt : Ty K Int).mono (S := S) (Fr.same s19) h_law_long
      have h_law_u := (tRat : Ty K Rat).mono (S := S) (Fr.same s19) h_law_u
      have h_law_v := (tRat : Ty K Rat).mono (S := S) (Fr.same s19) h_law_v
      have h_law_wide := (tRat : Ty K Rat).mono (S := S) (Fr.same s19) h_law_wide
      have h_law_tall := (tRat : Ty K Rat).mono (S := S) (Fr.same s19) h_law_tall
      have h_law_spot := ((tT2 tRat tRat) : Ty K (Rat × Rat)).mono (S := S) (Fr.same s19) h_law_spot
      have h_law_far := (tRat : Ty K Rat).mono (S := S) (Fr.same s19) h_law_far
      have h_law_part := (tRat : Ty K Rat).mono (S := S) (Fr.same s19) h_law_part
      have h_law_line := (tRat : Ty K Rat).mono (S := S) (Fr.same s19) h_law_line
      refine l_next ?_
      cases hm
      exact ⟨_, rfl, frl, ⟨v_law_row, v_law_first, v_law_last, v_law_off_by, v_law_one, v_law_two, v_law_gaps, v_law_long, v_law_u, v_law_v, v_law_wide, v_law_tall, _, _, _, _, _, rfl, fr0, dm, h_law_row, h_law_first, h_law_last, h_law_off_by, h_law_one, h_law_two, h_law_gaps, h_law_long, h_law_u, h_law_v, h_law_wide, h_law_tall⟩⟩
  subst er
  have hm := hm10
  obtain ⟨v_law_row, v_law_first, v_law_last, v_law_off_by, v_law_one, v_law_two, v_law_gaps, v_law_long, v_law_u, v_law_v, v_law_wide, v_law_tall, f_12, f_13, f_14, f_15, f_16, rfl, fr0, dm, h_law_row, h_law_first, h_law_last, h_law_off_by, h_law_one, h_law_two, h_law_gaps, h_law_long, h_law_u, h_law_v, h_law_wide, h_law_tall⟩ := hI
  have er := hm
  exact q_ret (T := []) dm (ev_bool (K := K)) er (fun v H25 s25 hv => q v H25 (fr0.trans (Fr.same s25)).toSame ((tBool : Ty K Bool).sub (S := S) (H := H25) sub0 hv))
def m_law_free (d_law_row : (List (Rat × Rat))) (d_law_first : Int) (d_law_last : Int) (d_law_off_by : Int) (d_law_pins : (List Int)) : Option Bool :=
  (bd (bd (bd (some d_law_pins) fun xs => mapL? (fun law_at_1 => (bd (some d_law_first) fun x => bd (some law_at_1) fun y => if decide (x < y) then bd (some d_law_last) fun z => some (decide (y < z)) else some false)) xs) fun x => some (x.any id)) fun c2 => if c2 then (some false) else (bd (bd (some d_law_row) fun x => bd (bd (some d_law_first) fun x => bd (bd (some d_law_last) fun x => bd (bd (some d_law_off_by) fun x => bd (some ()) fun y => some (x, y)) fun y => some (x, y)) fun y => some (x, y)) fun y => some (x, y)) fun a => m_law_passes a.1 a.2.1 a.2.2.1 a.2.2.2.1))
abbrev sp_law_free (K : PySem.W.Frag) : Sp := spF (K := K) (aCons (tL (tT2 tRat tRat)) (aCons tInt (aCons tInt (aCons tInt (aCons (tL tInt) aNil))))) (fun S => of (K := K) tBool S) (fun a => m_law_free a.1 a.2.1 a.2.2.1 a.2.2.2.1 a.2.2.2.2.1)
theorem ok_law_free (ev : Env K mg) : FnOk P w K mg base CX0 4 ev.f_law_free ev.d_law_free p_law_free (sp_law_free K) := by
  refine ev.A_law_free.F.ok sc_law_free (fun vs H Q E h => ?_) (fun cdv A outer s H0 vs Q E hr h => ?_)
  · obtain ⟨S, ⟨d_law_row, d_law_first, d_law_last, d_law_off_by, d_law_pins, _⟩, y, _, ⟨v_law_row, _, rfl, h_law_row, v_law_first, _, rfl, h_law_first, v_law_last, _, rfl, h_law_last, v_law_off_by, _, rfl, h_law_off_by, v_law_pins, _, rfl, h_law_pins, rfl⟩, _⟩ := h
    rfl
  obtain ⟨S, ⟨d_law_row, d_law_first, d_law_last, d_law_off_by, d_law_pins, _⟩, y, dm, ⟨v_law_row, _, rfl, h_law_row, v_law_first, _, rfl, h_law_first, v_law_last, _, rfl, h_law_last, v_law_off_by, _, rfl, h_law_off_by, v_law_pins, _, rfl, h_law_pins, rfl⟩, hm, q⟩ := h
  have ts : Sub [] S := fun a m => by simp at m
  have fr0 := Fr.refl (T := []) H0
  have sub0 : Sub S S := fun a m => m
  refine ⟨_, (pss_cons (ps_if (pt_val (pe_callB (cr_any rfl) (by rfl) ev.B.any_ (by decide +kernel) (pa_cons (pe_lc (own := [("_law_at", 5)]) (g := gName 5) (tt := tYes) (by rfl) sc_law_free.nd (pi_list (pv 4)) (blkOk_by (own := [("_law_at", 5)]) (N := n_law_free) (sc := defScope s_law_free) (by decide +kernel)) (fun _ _ _ _ _ => pg_name (i := 5) sc_law_free.nd rfl (Or.inl rfl)) (fun _ _ _ _ _ => pts_nil) (fun _ _ _ _ _ => (pe_chain op_lt op_lt (pv 1) (pv 5) (pv 2)))) pa_nil)))
    (pss_one (ps_ret pe_bl)) pss_nil)
    (pss_one (ps_ret (pe_call (ok_law_passes ev) (hr.mono (by decide)) (by rfl) ev.A_law_passes.m ev.A_law_passes.F.kp ev.A_law_passes.b .nil pass0 (pa_cons (pv 0) (pa_cons (pv 1) (pa_cons (pv 2) (pa_cons (pv 3) pa_nil)))))))), ?_⟩
  dsimp only [m_law_free] at hm
  obtain ⟨c2, e2, hm⟩ := bd_some hm
  refine q_if (T := []) dm (eb_B (K := K) (ev_any (ev_new (ev_lc (sr_list (ev_var ts h_law_pins rfl)) (fun v => by rfl) (fun law_at_1 v_law_at H2' H' p' fr' nD' sm' h_law_at => by have h_law_row := ((tL (tT2 tRat tRat)) : Ty K (List (Rat × Rat))).mono (Fr.same sm') (((tL (tT2 tRat tRat)) : Ty K (List (Rat × Rat))).ext (S := S) nD' (((tL (tT2 tRat tRat)) : Ty K (List (Rat × Rat))).mono (Fr.sub ts fr') h_law_row)); have h_law_first := (tInt : Ty K Int).mono (Fr.same sm') ((tInt : Ty K Int).ext (S := S) nD' ((tInt : Ty K Int).mono (Fr.sub ts fr') h_law_first)); have h_law_last := (tInt : Ty K Int).mono (Fr.same sm') ((tInt : Ty K Int).ext (S := S) nD' ((tInt : Ty K Int).mono (Fr.sub ts fr') h_law_last)); have h_law_off_by := (tInt : Ty K Int).mono (Fr.same sm') ((tInt : Ty K Int).ext (S := S) nD' ((tInt : Ty K Int).mono (Fr.sub ts fr') h_law_off_by)); have h_law_pins := ((tL tInt) : Ty K (List Int)).mono (Fr.same sm') (((tL tInt) : Ty K (List Int)).ext (S := S) nD' (((tL tInt) : Ty K (List Int)).mono (Fr.sub ts fr') h_law_pins)); have ts0' := ts; have ts : Sub [] (p' :: S) := (fun a m => by simp at m);  exact (ev_chain (od_lt (K := K)) (od_lt (K := K)) (ev_var ts h_law_first rfl) (ev_var ts h_law_at rfl) (ev_var ts h_law_last rfl))))))) e2 (fun hc H2 s2 => ?_) (fun hc H2 s2 => ?_)
  · skip
    subst hc
    have hm := if_t hm
    have fr0 := fr0.trans (Fr.same s2)
    have dm := dm.same s2
    have h_law_row := ((tL (tT2 tRat tRat)) : Ty K (List (Rat × Rat))).mono (S := S) (Fr.same s2) h_law_row
    have h_law_first := (tInt : Ty K Int).mono (S := S) (Fr.same s2) h_law_first
    have h_law_last := (tInt : Ty K Int).mono (S := S) (Fr.same s2) h_law_last
    have h_law_off_by := (tInt : Ty K Int).mono (S := S) (Fr.same s2) h_law_off_by
    have h_law_pins := ((tL tInt) : Ty K (List Int)).mono (S := S) (Fr.same s2) h_law_pins
    have er := hm
    exact q_ret (T := []) dm (ev_bool (K := K)) er (fun v H3 s3 hv => q v H3 (fr0.trans (Fr.same s3)).toSame ((tBool : Ty K Bool).sub (S := S) (H := H3) sub0 hv))
  subst hc
  have hm := if_f hm
  have fr0 := fr0.trans (Fr.same s2)
  have dm := dm.same s2
  have h_law_row := ((tL (tT2 tRat tRat)) : Ty K (List (Rat × Rat))).mono (S := S) (Fr.same s2) h_law_row
  have h_law_first := (tInt : Ty K Int).mono (S := S) (Fr.same s2) h_law_first
  have h_law_last := (tInt : Ty K Int).mono (S := S) (Fr.same s2) h_law_last
  have h_law_off_by := (tInt : Ty K Int).mono (S := S) (Fr.same s2) h_law_off_by
  have h_law_pins := ((tL tInt) : Ty K (List Int)).mono (S := S) (Fr.same s2) h_law_pins
  refine q_next ?_
  have er := hm
  exact q_ret (T := []) dm (ev_call (ea_cons (ev_var ts h_law_row rfl) (ea_cons (ev_var ts h_law_first rfl) (ea_cons (ev_var ts h_law_last rfl) (ea_cons (ev_var ts h_law_off_by rfl) ea_nil))))) er (fun v H4 s4 hv => q v H4 (fr0.trans (Fr.same s4)).toSame ((tBool : Ty K Bool).sub (S := S) (H := H4) sub0 hv))
def m_law_spots (d_law_many : Int) (P : (List (Rat × Rat)) → Prop) : Prop :=
  ((opW (fun x y => some (x - y)) (callBW drawW (lf (some (21 : Int)))) (lf (some (10 : Int)))) fun law_x_1 => (opW (fun x y => some (x - y)) (callBW drawW (lf (some (21 : Int)))) (lf (some (10 : Int)))) fun law_y_2 => ((opW (fun x y => some (x - y)) (callBW drawW (lf (some (5 : Int)))) (lf (some (1 : Int)))) fun law_right_3 => (opW (fun x y => some (x - y)) (callBW drawW (lf (some (5 : Int)))) (lf (some (2 : Int)))) fun law_high_4 => ((opW (fun x y => some (x + y)) (lf (some (1 : Int))) (callBW drawW (lf (some (3 : Int))))) fun law_under_5 => (lf (some []) fun law_found_6 => ((lf (bd (some d_law_many) rng1?)) fun xs12 => loopW (fun s_7 law_k_7 K7 => (lf (bd (bd (bd (some s_7.2.1) fun x => bd (bd (some law_under_5) fun x => bd (some ()) fun y => some (x, y)) fun y => some (x, y)) fun a => ratio? a.1 a.2.1) fun x => bd (bd (bd (some s_7.2.2) fun x => bd (bd (some law_under_5) fun x => bd (some ()) fun y => some (x, y)) fun y => some (x, y)) fun a => ratio? a.1 a.2.1) fun y => some (x, y)) fun a8 => (lf (app? s_7.1 a8) fun law_found_9 => ((opW (fun x y => some (x + y)) (lf (bd (some s_7.2.1) fun x => bd (bd (some law_right_3) fun x => bd (some (2 : Int)) fun y => mul? x y) fun y => some (x + y))) (callBW anyW (lf (bd (some (0 : Int)) fun x => bd (bd (some (0 : Int)) fun x => bd (bd (some (1 : Int)) fun x => bd (bd (bd (some (1 : Int)) fun x => some (-x)) fun x => bd (bd (some (4 : Int)) fun x => bd (bd (bd (some (5 : Int)) fun x => some (-x)) fun x => bd (some []) fun y => some (x :: y)) fun y => some (x :: y)) fun y => some (x :: y)) fun y => some (x :: y)) fun y => some (x :: y)) fun y => some (x :: y))))) fun law_x_10 => ((opW (fun x y => some (x + y)) (lf (bd (some s_7.2.2) fun x => bd (bd (some law_high_4) fun x => bd (some (2 : Int)) fun y => mul? x y) fun y => some (x + y))) (callBW anyW (lf (bd (some (0 : Int)) fun x => bd (bd (some (0 : Int)) fun x => bd (bd (some (1 : Int)) fun x => bd (bd (bd (some (1 : Int)) fun x => some (-x)) fun x => bd (bd (some (3 : Int)) fun x => bd (bd (bd (some (6 : Int)) fun x => some (-x)) fun x => bd (some []) fun y => some (x :: y)) fun y => some (x :: y)) fun y => some (x :: y)) fun y => some (x :: y)) fun y => some (x :: y)) fun y => some (x :: y))))) fun law_y_11 => K7 (Ct.go (law_found_9, law_x_10, law_y_11))))))) xs12 (law_found_6, law_x_1, law_y_2) fun r_7 => match r_7 with | .ret y => P y | .go t_7 => (lf (some t_7.1) P) | .brk _ => False)))))
abbrev sp_law_spots (K : PySem.W.Frag) : Sp := spB (K := K) (aCons tInt aNil) (fun S => nw (K := K) (tT2 tRat tRat) S) (fun a => m_law_spots a.1)
theorem ok_law_spots (ev : Env K mg) : FnOk P w K mg base CX0 3 ev.f_law_spots ev.d_law_spots p_law_spots (sp_law_spots K) := by
  refine ev.A_law_spots.F.ok sc_law_spots (fun vs H Q E h => ?_) (fun cdv A outer s H0 vs Q E hr h => ?_)
  · obtain ⟨S, b, c, r, ⟨d_law_many, _⟩, P, rfl, _, _, _, ⟨v_law_many, _, rfl, h_law_many, rfl⟩, _⟩ := h
    rfl
  obtain ⟨S, b, c, r, ⟨d_law_many, _⟩, P, rfl, dm, ts, hB, ⟨v_law_many, _, rfl, h_law_many, rfl⟩, hm, q⟩ := h
  have fr0 := Fr.refl (T := [b, c]) H0
  have sub0 : Sub S S := fun a m => m
  refine ⟨_, (pss_cons (ps_par (i := 2) (j := 3) (by rfl) sc_law_spots.nd rfl rfl (by decide) rfl rfl (pa_cons (pe_op op_sub (pe_call (ok_law_pull ev) (hr.mono (by decide)) (by rfl) ev.A_law_pull.m ev.A_law_pull.F.kp ev.A_law_pull.b .nil pass0 (pa_cons (pv 0) (pa_cons pe_int pa_nil))) pe_int) (pa_cons (pe_op op_sub (pe_call (ok_law_pull ev) (hr.mono (by decide)) (by rfl) ev.A_law_pull.m ev.A_law_pull.F.kp ev.A_law_pull.b .nil pass0 (pa_cons (pv 0) (pa_cons pe_int pa_nil))) pe_int) pa_nil)) (by rfl))
    (pss_cons (ps_par (i := 4) (j := 5) (by rfl) sc_law_spots.nd rfl rfl (by decide) rfl rfl (pa_cons (pe_op op_sub (pe_call (ok_law_pull ev) (hr.mono (by decide)) (by rfl) ev.A_law_pull.m ev.A_law_pull.F.kp ev.A_law_pull.b .nil pass0 (pa_cons (pv 0) (pa_cons pe_int pa_nil))) pe_int) (pa_cons (pe_op op_sub (pe_call (ok_law_pull ev) (hr.mono (by decide)) (by rfl) ev.A_law_pull.m ev.A_law_pull.F.kp ev.A_law_pull.b .nil pass0 (pa_cons (pv 0) (pa_cons pe_int pa_nil))) pe_int) pa_nil)) (by rfl))
    (pss_cons (ps_set (i := 6) sc_law_spots.nd rfl (Or.inl rfl) (pe_op op_add pe_int (pe_call (ok_law_pull ev) (hr.mono (by decide)) (by rfl) ev.A_law_pull.m ev.A_law_pull.F.kp ev.A_law_pull.b .nil pass0 (pa_cons (pv 0) (pa_cons pe_int pa_nil)))))
    (pss_cons (ps_set (i := 7) sc_law_spots.nd rfl (Or.inl rfl) (pe_lst pa_nil))
    (pss_cons (ps_for PassesOwn.never rfl (pi_range1 rfl ev.B.range_ (pa_cons (pv 1) pa_nil)) (pg_name (i := 8) sc_law_spots.nd rfl (Or.inl rfl))
    (pss_cons (ps_expr (pe_bm PySem.F.plainAttrs_list PySem.F.slot_list_append PySem.F.type_list_append mt_append (pv 7) (pa_cons (pe_tup (pa_cons (pe_call (ok_law_low ev) (hr.mono (by decide)) (by rfl) ev.A_law_low.m ev.A_law_low.F.kp ev.A_law_low.b .nil pass0 (pa_cons (pv 2) (pa_cons (pv 6) pa_nil))) (pa_cons (pe_call (ok_law_low ev) (hr.mono (by decide)) (by rfl) ev.A_law_low.m ev.A_law_low.F.kp ev.A_law_low.b .nil pass0 (pa_cons (pv 3) (pa_cons (pv 6) pa_nil))) pa_nil))) pa_nil)))
    (pss_cons (ps_set (i := 2) sc_law_spots.nd rfl (Or.inl rfl) (pe_op op_add (pe_op op_add (pv 2) (pe_op op_mulW (pv 4) pe_int)) (pe_call (ok_law_any ev) (hr.mono (by decide)) (by rfl) ev.A_law_any.m ev.A_law_any.F.kp ev.A_law_any.b .nil pass0 (pa_cons (pv 0) (pa_cons (pe_lst (pa_cons pe_int (pa_cons pe_int (pa_cons pe_int (pa_cons (pe_un un_neg pe_int) (pa_cons pe_int (pa_cons (pe_un un_neg pe_int) pa_nil))))))) pa_nil)))))
    (pss_one (ps_set (i := 3) sc_law_spots.nd rfl (Or.inl rfl) (pe_op op_add (pe_op op_add (pv 3) (pe_op op_mulW (pv 5) pe_int)) (pe_call (ok_law_any ev) (hr.mono (by decide)) (by rfl) ev.A_law_any.m ev.A_law_any.F.kp ev.A_law_any.b .nil pass0 (pa_cons (pv 0) (pa_cons (pe_lst (pa_cons pe_int (pa_cons pe_int (pa_cons pe_int (pa_cons (pe_un un_neg pe_int) (pa_cons pe_int (pa_cons (pe_un un_neg pe_int) pa_nil))))))) pa_nil)))))))))
    (pss_one (ps_ret (pv 7)))))))), ?_⟩
  dsimp only [m_law_spots] at hm
  refine qw_par dm hB ts (ew_op (od_sub (K := K)) (ew_draw (K := K) rfl (ew_pure (ev_int (K := K)))) (ew_pure (ev_int (K := K)))) (ew_op (od_sub (K := K)) (ew_draw (K := K) rfl (ew_pure (ev_int (K := K)))) (ew_pure (ev_int (K := K)))) hm (fun v_law_x v_law_y H2 law_x_1 law_y_2 hm fr2 dm2 hB2 h_law_x h_law_y => ?_)
  have fr0 := fr0.trans fr2
  have h_law_many := (tInt : Ty K Int).mono (S := S) (fr2.sub ts) h_law_many
  have dm := dm2
  have hB := hB2
  refine qw_par dm hB ts (ew_op (od_sub (K := K)) (ew_draw (K := K) rfl (ew_pure (ev_int (K := K)))) (ew_pure (ev_int (K := K)))) (ew_op (od_sub (K := K)) (ew_draw (K := K) rfl (ew_pure (ev_int (K := K)))) (ew_pure (ev_int (K := K)))) hm (fun v_law_right v_law_high H4 law_right_3 law_high_4 hm fr4 dm4 hB4 h_law_right h_law_high => ?_)
  have fr0 := fr0.trans fr4
  have h_law_many := (tInt : Ty K Int).mono (S := S) (fr4.sub ts) h_law_many
  have h_law_x := (tInt : Ty K Int).mono (S := S) (fr4.sub ts) h_law_x
  have h_law_y := (tInt : Ty K Int).mono (S := S) (fr4.sub ts) h_law_y
  have dm := dm4
  have hB := hB4
  refine qw_asg dm hB ts (ew_op (od_add (K := K)) (ew_pure (ev_int (K := K))) (ew_draw (K := K) rfl (ew_pure (ev_int (K := K))))) hm (fun v_law_under H5 law_under_5 hm fr5 dm5 hB5 h_law_under => ?_)
  have fr0 := fr0.trans fr5
  have h_law_many := (tInt : Ty K Int).mono (S := S) (fr5.sub ts) h_law_many
  have h_law_x := (tInt : Ty K Int).mono (S := S) (fr5.sub ts) h_law_x
  have h_law_y := (tInt : Ty K Int).mono (S := S) (fr5.sub ts) h_law_y
  have h_law_right := (tInt : Ty K Int).mono (S := S) (fr5.sub ts) h_law_right
  have h_law_high := (tInt : Ty K Int).mono (S := S) (fr5.sub ts) h_law_high
  have dm := dm5
  have hB := hB5
  have h_law_under : (tInt : Ty K Int).rp S H5 v_law_under law_under_5 := h_law_under
  obtain ⟨law_found_6, e6, hm⟩ := hm
  refine q_asg (T := [b, c]) dm (ev_lst0 (a := ((tT2 tRat tRat) : Ty K (Rat × Rat)))) e6 (fun v_law_found H6 s6 hx => ?_)
  obtain ⟨p_law_found, rfl, np_law_found, o_law_found⟩ := hx
  have ns_law_found : p_law_found ∉ S := dm.not_mem np_law_found
  have nb_law_found : p_law_found ∉ S := fun m => ns_law_found (sub0 _ m)
  have n0_law_found := fr_back fr0 hB.dom np_law_found
  have nt_law_found := hB.dom.not_mem np_law_found
  have fr0 := fr0.trans (Fr.same s6)
  have h_law_many := (tInt : Ty K Int).mono (Fr.same s6) ((tInt : Ty K Int).ext (S := S) np_law_found h_law_many)
  have h_law_x := (tInt : Ty K Int).mono (Fr.same s6) ((tInt : Ty K Int).ext (S := S) np_law_found h_law_x)
  have h_law_y := (tInt : Ty K Int).mono (Fr.same s6) ((tInt : Ty K Int).ext (S := S) np_law_found h_law_y)
  have h_law_right := (tInt : Ty K Int).mono (Fr.same s6) ((tInt : Ty K Int).ext (S := S) np_law_found h_law_right)
  have h_law_high := (tInt : Ty K Int).mono (Fr.same s6) ((tInt : Ty K Int).ext (S := S) np_law_found h_law_high)
  have h_law_under := (tInt : Ty K Int).mono (Fr.same s6) ((tInt : Ty K Int).ext (S := S) np_law_found h_law_under)
  have dm := (dm.same s6).cons o_law_found.choose_spec.1
  have ts := sub_cons (p := p_law_found) ts
  have sub0 := sub_cons (p := p_law_found) sub0
  have im_law_found : p_law_found ∈ p_law_found :: S := List.mem_cons_self ..
  have hB := hB.same s6
  refine qw_for_s dm hB ts (srw_pure (sr_r1 (K := K) (ev_var ts h_law_many rfl))) hm (fun s_7 σ' H' => ∃ v_law_many : V, ∃ v_law_right : V, ∃ v_law_high : V, ∃ v_law_under : V, ∃ v_law_x : V, ∃ v_law_y : V, ∃ f_8 : Option V, σ' = [some (.ref b), some v_law_many, some v_law_x, some v_law_y, some v_law_right, some v_law_high, some v_law_under, some (.ref p_law_found), f_8] ∧ Fr [b, c] H0 H' ∧ Dom (p_law_found :: S) H' ∧ Bag H' b c ∧ (tInt : Ty K Int).rp (p_law_found :: S) H' v_law_many d_law_many ∧ (tInt : Ty K Int).rp (p_law_found :: S) H' v_law_right law_right_3 ∧ (tInt : Ty K Int).rp (p_law_found :: S) H' v_law_high law_high_4 ∧ (tInt : Ty K Int).rp (p_law_found :: S) H' v_law_under law_under_5 ∧ Own ((tT2 tRat tRat) : Ty K (Rat × Rat)) (p_law_found :: S) H' p_law_found s_7.1 ∧ (tInt : Ty K Int).rp (p_law_found :: S) H' v_law_x s_7.2.1 ∧ (tInt : Ty K Int).rp (p_law_found :: S) H' v_law_y s_7.2.2) (fun H7 fr7 dm7 hB7 => ?_) (fun hd7 s_7 law_k_7 C7 v_law_k σ' H' hI h_law_k hm hret7 hbrk7 => ?_) (fun t_7 σ' H' hm hI => ?_)
  · skip
    have fr0 := fr0.trans fr7
    have h_law_many := (tInt : Ty K Int).mono (S := (p_law_found :: S)) (fr7.sub ts) h_law_many
    have h_law_right := (tInt : Ty K Int).mono (S := (p_law_found :: S)) (fr7.sub ts) h_law_right
    have h_law_high := (tInt : Ty K Int).mono (S := (p_law_found :: S)) (fr7.sub ts) h_law_high
    have h_law_under := (tInt : Ty K Int).mono (S := (p_law_found :: S)) (fr7.sub ts) h_law_under
    have o_law_found := o_law_found.fr fr7 ts nt_law_found
    have h_law_x := (tInt : Ty K Int).mono (S := (p_law_found :: S)) (fr7.sub ts) h_law_x
    have h_law_y := (tInt : Ty K Int).mono (S := (p_law_found :: S)) (fr7.sub ts) h_law_y
    have dm := dm7
    have hB := hB7
    exact ⟨v_law_many, v_law_right, v_law_high, v_law_under, v_law_x, v_law_y, _, rfl, fr0, dm, hB, h_law_many, h_law_right, h_law_high, h_law_under, o_law_found, h_law_x, h_law_y⟩
  · skip
    obtain ⟨v_law_many, v_law_right, v_law_high, v_law_under, v_law_x, v_law_y, f_8, rfl, fr0, dm, hB, h_law_many, h_law_right, h_law_high, h_law_under, o_law_found, h_law_x, h_law_y⟩ := hI
    let HL := H'
    have freshl : ∀ a ∈ (p_law_found :: S), a ∉ (p_law_found :: S) → H' a = none := fun a m n => absurd m n
    have frl : Fr (p_law_found :: S) HL H' := Fr.refl (T := (p_law_found :: S)) H'
    have tsl := ts
    have subl : Sub (p_law_found :: S) (p_law_found :: S) := fun a m => m
    have iml_law_found := im_law_found
    have h_law_k : (tInt : Ty K Int).rp (p_law_found :: S) H' v_law_k law_k_7 := h_law_k
    obtain ⟨a8, e8, hm⟩ := hm
    obtain ⟨law_found_9, f8, hm⟩ := hm
    refine q_app (T := [b, c]) dm o_law_found im_law_found nt_law_found ts rfl (ev_tup2 (ev_law_low (ea_cons (ev_var ts h_law_x rfl) (ea_cons (ev_var ts h_law_under rfl) ea_nil))) (ev_law_low (ea_cons (ev_var ts h_law_y rfl) (ea_cons (ev_var ts h_law_under rfl) ea_nil)))) e8 f8 (fun H8 s8 frx8 o_law_found => ?_)
    have fr0 := fr0.mut hB.dom n0_law_found s8
    have frl := frl.trans (s8.fr iml_law_found)
    have dm := dm.fx frx8 s8
    have h_law_many := (tInt : Ty K Int).mono (S := (p_law_found :: S)) frx8 h_law_many
    have h_law_right := (tInt : Ty K Int).mono (S := (p_law_found :: S)) frx8 h_law_right
    have h_law_high := (tInt : Ty K Int).mono (S := (p_law_found :: S)) frx8 h_law_high
    have h_law_under := (tInt : Ty K Int).mono (S := (p_law_found :: S)) frx8 h_law_under
    have h_law_x := (tInt : Ty K Int).mono (S := (p_law_found :: S)) frx8 h_law_x
    have h_law_y := (tInt : Ty K Int).mono (S := (p_law_found :: S)) frx8 h_law_y
    have h_law_k := (tInt : Ty K Int).mono (S := (p_law_found :: S)) frx8 h_law_k
    have hB := hB.mut s8 nt_law_found
    refine qw_asg dm hB ts (ew_op (od_add (K := K)) (ew_pure (ev_op (od_add (K := K)) (ev_var ts h_law_x rfl) (ev_op (od_mul (K := K)) (ev_var ts h_law_right rfl) (ev_int (K := K))))) (ew_any rfl (ew_pure (ev_new (ev_lst (el_cons (ev_int (K := K)) (el_cons (ev_int (K := K)) (el_cons (ev_int (K := K)) (el_cons (ev_neg (ev_int (K := K))) (el_cons (ev_int (K := K)) (el_cons (ev_neg (ev_int (K := K))) el_nil)))))) (by decide)))))) hm (fun v_law_x H10 law_x_10 hm fr10 dm10 hB10 h_law_x => ?_)
    have fr0 := fr0.trans fr10
    have frl := frl.trans (fr10.sub tsl)
    have h_law_many := (tInt : Ty K Int).mono (S := (p_law_found :: S)) (fr10.sub ts) h_law_many
    have h_law_right := (tInt : Ty K Int).mono (S := (p_law_found :: S)) (fr10.sub ts) h_law_right
    have h_law_high := (tInt : Ty K Int).mono (S := (p_law_found :: S)) (fr10.sub ts) h_law_high
    have h_law_under := (tInt : Ty K Int).mono (S := (p_law_found :: S)) (fr10.sub ts) h_law_under
    have o_law_found := o_law_found.fr fr10 ts nt_law_found
    have h_law_y := (tInt : Ty K Int).mono (S := (p_law_found :: S)) (fr10.sub ts) h_law_y
    have h_law_k := (tInt : Ty K Int).mono (S := (p_law_found :: S)) (fr10.sub ts) h_law_k
    have dm := dm10
    have hB := hB10
    have h_law_x : (tInt : Ty K Int).rp (p_law_found :: S) H10 v_law_x law_x_10 := h_law_x
    refine lw_asg dm hB ts (ew_op (od_add (K := K)) (ew_pure (ev_op (od_add (K := K)) (ev_var ts h_law_y rfl) (ev_op (od_mul (K := K)) (ev_var ts h_law_high rfl) (ev_int (K := K))))) (ew_any rfl (ew_pure (ev_new (ev_lst (el_cons (ev_int (K := K)) (el_cons (ev_int (K := K)) (el_cons (ev_int (K := K)) (el_cons (ev_neg (ev_int (K := K))) (el_cons (ev_int (K := K)) (el_cons (ev_neg (ev_int (K := K))) el_nil)))))) (by decide)))))) hm (fun v_law_y H11 law_y_11 hm fr11 dm11 hB11 h_law_y => ?_)
    have fr0 := fr0.trans fr11
    have frl := frl.trans (fr11.sub tsl)
    have h_law_many := (tInt : Ty K Int).mono (S := (p_law_found :: S)) (fr11.sub ts) h_law_many
    have h_law_right := (tInt : Ty K Int).mono (S := (p_law_found :: S)) (fr11.sub ts) h_law_right
    have h_law_high := (tInt : Ty K Int).mono (S := (p_law_found :: S)) (fr11.sub ts) h_law_high
    have h_law_under := (tInt : Ty K Int).mono (S := (p_law_found :: S)) (fr11.sub ts) h_law_under
    have o_law_found := o_law_found.fr fr11 ts nt_law_found
    have h_law_k := (tInt : Ty K Int).mono (S := (p_law_found :: S)) (fr11.sub ts) h_law_k
    have h_law_x := (tInt : Ty K Int).mono (S := (p_law_found :: S)) (fr11.sub ts) h_law_x
    have dm := dm11
    have hB := hB11
    have h_law_y : (tInt : Ty K Int).rp (p_law_found :: S) H11 v_law_y law_y_11 := h_law_y
    exact ⟨_, hm, frl, ⟨v_law_many, v_law_right, v_law_high, v_law_under, v_law_x, v_law_y, _, rfl, fr0, dm, hB, h_law_many, h_law_right, h_law_high, h_law_under, o_law_found, h_law_x, h_law_y⟩⟩
  obtain ⟨v_law_many, v_law_right, v_law_high, v_law_under, v_law_x, v_law_y, f_8, rfl, fr0, dm, hB, h_law_many, h_law_right, h_law_high, h_law_under, o_law_found, h_law_x, h_law_y⟩ := hI
  obtain ⟨z, er, hm⟩ := hm
  cases er
  exact ⟨_, rfl, q _ _ _ hm fr0 hB ⟨p_law_found, rfl, n0_law_found, o_law_found.sub (cons_sub im_law_found sub0)⟩⟩
def m_law_held (d_law_many : Int) (P : (List Int) → Prop) : Prop :=
  ((lcW (lf (bd (some d_law_many) rng1?)) fun law_at_1 Po => (opW (fun x y => some (decide (x = y))) (callBW drawW (lf (some (5 : Int)))) (lf (some (0 : Int)))) fun k => if k then (lf (some law_at_1)) fun y => Po (some y) else Po none) P)
abbrev sp_law_held (K : PySem.W.Frag) : Sp := spB (K := K) (aCons tInt aNil) (fun S => nw (K := K) tInt S) (fun a => m_law_held a.1)
theorem ok_law_held (ev : Env K mg) : FnOk P w K mg base CX0 2 ev.f_law_held ev.d_law_held p_law_held (sp_law_held K) := by
  refine ev.A_law_held.F.ok sc_law_held (fun vs H Q E h => ?_) (fun cdv A outer s H0 vs Q E hr h => ?_)
  · obtain ⟨S, b, c, r, ⟨d_law_many, _⟩, P, rfl, _, _, _, ⟨v_law_many, _, rfl, h_law_many, rfl⟩, _⟩ := h
    rfl
  obtain ⟨S, b, c, r, ⟨d_law_many, _⟩, P, rfl, dm, ts, hB, ⟨v_law_many, _, rfl, h_law_many, rfl⟩, hm, q⟩ := h
  have fr0 := Fr.refl (T := [b, c]) H0
  have sub0 : Sub S S := fun a m => m
  refine ⟨_, (pss_one (ps_ret (pe_lc (own := [("_law_at", 2)]) (g := gName 2) (by rfl) sc_law_held.nd (pi_range1 rfl ev.B.range_ (pa_cons (pv 1) pa_nil)) (blkOk_by (own := [("_law_at", 2)]) (N := n_law_held) (sc := defScope s_law_held) (by decide +kernel)) (fun _ _ _ _ _ => pg_name (i := 2) sc_law_held.nd rfl (Or.inl rfl)) (fun _ _ _ _ _ => (pts_one (pt_cmpR op_eq (pe_call (ok_law_pull ev) (hr.mono (by decide)) (by rfl) ev.A_law_pull.m ev.A_law_pull.F.kp ev.A_law_pull.b .nil pass0 (pa_cons (pv 0) (pa_cons pe_int pa_nil))) pe_int (nomark _)))) (fun _ _ _ _ _ => (pv 2))))), ?_⟩
  dsimp only [m_law_held] at hm
  exact qw_ret dm hB ts (ew_lcF (srw_pure (sr_r1 (K := K) (ev_var ts h_law_many rfl))) (fun v => by rfl) (fun law_at_1 v_law_at H2' H' p' ts' fr' nD' fr2' h_law_at => by have h_law_many := (tInt : Ty K Int).mono (fr2'.sub (sub_cons ts')) ((tInt : Ty K Int).ext (S := S) nD' ((tInt : Ty K Int).mono (fr'.sub ts') h_law_many)); have ts := sub_cons (p := p') ts'; exact (bw_test (K := K) (ew_op (od_eqI (K := K)) (ew_draw (K := K) rfl (ew_pure (ev_int (K := K)))) (ew_pure (ev_int (K := K)))))) (fun law_at_1 v_law_at H2' H' p' ts' fr' nD' fr2' h_law_at => by have h_law_many := (tInt : Ty K Int).mono (fr2'.sub (sub_cons ts')) ((tInt : Ty K Int).ext (S := S) nD' ((tInt : Ty K Int).mono (fr'.sub ts') h_law_many)); have ts := sub_cons (p := p') ts'; exact (ew_pure (ev_var ts h_law_at rfl)))) hm (fun v H2 z hm fr2 dm2 hB2 hv => q v H2 z hm (fr0.trans fr2) hB2 (nwL.sub hv sub0 fr0 hB.dom))
end
end G

namespace G
open PySem L2 M
section
variable {P : Program} {w : World} {K : PySem.W.Frag} {mg : Str → Option Value} {base : Heap}

def m_law_likeI (d_law_found : Int) (d_law_due : Int) : Option Bool :=
  (bd (bd (some d_law_due) fun _ => some false) fun c1 => if c1 then none else (bd (bd (bd (bd (some d_law_due) fun _ => some false) fun x => bd (bd (some d_law_found) fun _ => some false) fun y => some (!decide (x = y))) fun x => if x then some true else (bd (bd (some d_law_due) fun _ => some false) fun x => bd (bd (some d_law_found) fun _ => some false) fun y => some (!decide (x = y)))) fun c2 => if c2 then (some false) else (bd (bd (some d_law_due) fun _ => some (false || false)) fun c3 => if c3 then none else (bd (bd (bd (bd (some d_law_due) fun _ => some false) fun x => bd (bd (some d_law_found) fun _ => some false) fun y => some (!decide (x = y))) fun x => if x then some true else (bd (bd (some d_law_due) fun _ => some false) fun x => bd (bd (some d_law_found) fun _ => some false) fun y => some (!decide (x = y)))) fun c4 => if c4 then (some false) else (bd (bd (bd (some d_law_due) fun _ => some false) fun x => bd (bd (some d_law_found) fun _ => some false) fun y => some (decide (x = y))) fun x => if x then (bd (some d_law_found) fun x => bd (some d_law_due) fun y => some (decide (x = y))) else some false)))))
abbrev sp_law_likeI (K : PySem.W.Frag) : Sp := spF (K := K) (aCons tInt (aCons tInt aNil)) (fun S => of (K := K) tBool S) (fun a => m_law_likeI a.1 a.2.1)
theorem ok_law_likeI (ev : Env K mg) : FnOk P w K mg base CX0 1 ev.f_law_like ev.d_law_like p_law_like (sp_law_likeI K) := by
  refine ev.A_law_like.F.ok sc_law_like (fun vs H Q E h => ?_) (fun cdv A outer s H0 vs Q E hr h => ?_)
  · obtain ⟨S, ⟨d_law_found, d_law_due, _⟩, y, _, ⟨v_law_found, _, rfl, h_law_found, v_law_due, _, rfl, h_law_due, rfl⟩, _⟩ := h
    rfl
  obtain ⟨S, ⟨d_law_found, d_law_due, _⟩, y, dm, ⟨v_law_found, _, rfl, h_law_found, v_law_due, _, rfl, h_law_due, rfl⟩, hm, q⟩ := h
  have ts : Sub [] S := fun a m => by simp at m
  have fr0 := Fr.refl (T := []) H0
  have sub0 : Sub S S := fun a m => m
  refine ⟨_, (pss_cons (ps_if (pt_val (pe_callB call_isi (by rfl) ev.B.isinstance_ (by decide +kernel) (pa_cons (pv 1) (pa_cons (pe_bltn (v := .ty "dict") (by rfl) ev.B.dict_ (by decide +kernel) rfl) pa_nil))))
    pss_never pss_nil)
    (pss_cons (ps_if (PW.pt (pw_or (pt_cmpR (op_neD hr.units) (pe_callB call_isi (by rfl) ev.B.isinstance_ (by decide +kernel) (pa_cons (pv 1) (pa_cons (pe_bltn (v := .ty "tuple") (by rfl) ev.B.tuple_ (by decide +kernel) rfl) pa_nil))) (pe_callB call_isi (by rfl) ev.B.isinstance_ (by decide +kernel) (pa_cons (pv 0) (pa_cons (pe_bltn (v := .ty "tuple") (by rfl) ev.B.tuple_ (by decide +kernel) rfl) pa_nil))) (nomark _)) (pw_or1 (pt_cmpR (op_neD hr.units) (pe_callB call_isi (by rfl) ev.B.isinstance_ (by decide +kernel) (pa_cons (pv 1) (pa_cons (pe_bltn (v := .ty "list") (by rfl) ev.B.list_ (by decide +kernel) rfl) pa_nil))) (pe_callB call_isi (by rfl) ev.B.isinstance_ (by decide +kernel) (pa_cons (pv 0) (pa_cons (pe_bltn (v := .ty "list") (by rfl) ev.B.list_ (by decide +kernel) rfl) pa_nil))) (nomark _)))))
    (pss_one (ps_ret pe_bl)) pss_nil)
    (pss_cons (ps_if (pt_val (pe_callB call_isiT (by rfl) ev.B.isinstance_ (by decide +kernel) (pa_cons (pv 1) (pa_cons (pe_tup (pa_cons (pe_bltn (v := .ty "list") (by rfl) ev.B.list_ (by decide +kernel) rfl) (pa_cons (pe_bltn (v := .ty "tuple") (by rfl) ev.B.tuple_ (by decide +kernel) rfl) pa_nil))) pa_nil))))
    pss_never pss_nil)
    (pss_cons (ps_if (PW.pt (pw_or (pt_cmpR (op_neD hr.units) (pe_callB call_isi (by rfl) ev.B.isinstance_ (by decide +kernel) (pa_cons (pv 1) (pa_cons (pe_bltn (v := .ty "bool") (by rfl) ev.B.bool_ (by decide +kernel) rfl) pa_nil))) (pe_callB call_isi (by rfl) ev.B.isinstance_ (by decide +kernel) (pa_cons (pv 0) (pa_cons (pe_bltn (v := .ty "bool") (by rfl) ev.B.bool_ (by decide +kernel) rfl) pa_nil))) (nomark _)) (pw_or1 (pt_cmpR (op_neD hr.units) (pe_callB call_isi (by rfl) ev.B.isinstance_ (by decide +kernel) (pa_cons (pv 1) (pa_cons (pe_bltn (v := .ty "str") (by rfl) ev.B.str_ (by decide +kernel) rfl) pa_nil))) (pe_callB call_isi (by rfl) ev.B.isinstance_ (by decide +kernel) (pa_cons (pv 0) (pa_cons (pe_bltn (v := .ty "str") (by rfl) ev.B.str_ (by decide +kernel) rfl) pa_nil))) (nomark _)))))
    (pss_one (ps_ret pe_bl)) pss_nil)
    (pss_one (ps_ret (pe_and (pe_cmpR (op_eqD hr.units) (pe_cmpR op_isN (pv 1) pe_non (nomark _)) (pe_cmpR op_isN (pv 0) pe_non (nomark _)) (nomark _)) (pe_one (pe_cmpR op_eq (pv 0) (pv 1) (nomark _)))))))))), ?_⟩
  dsimp only [m_law_likeI] at hm
  obtain ⟨c1, e1, hm⟩ := bd_some hm
  refine q_if (T := []) dm (eb_B (K := K) (ev_isi (a := (tInt : Ty K Int)) (ev_var ts h_law_due rfl) (by decide +kernel))) e1 (fun hc H1 s1 => ?_) (fun hc H1 s1 => ?_)
  · skip
    subst hc
    have hm := if_t hm
    have fr0 := fr0.trans (Fr.same s1)
    have dm := dm.same s1
    have h_law_found := (tInt : Ty K Int).mono (S := S) (Fr.same s1) h_law_found
    have h_law_due := (tInt : Ty K Int).mono (S := S) (Fr.same s1) h_law_due
    cases hm
  subst hc
  have hm := if_f hm
  have fr0 := fr0.trans (Fr.same s1)
  have dm := dm.same s1
  have h_law_found := (tInt : Ty K Int).mono (S := S) (Fr.same s1) h_law_found
  have h_law_due := (tInt : Ty K Int).mono (S := S) (Fr.same s1) h_law_due
  refine q_next ?_
  obtain ⟨c2, e2, hm⟩ := bd_some hm
  refine q_if (T := []) dm (eb_or (eb_test (K := K) (ev_op (od_neD (K := K) dBool (Nat.le_of_ble_eq_true rfl)) (ev_isi (a := (tInt : Ty K Int)) (ev_var ts h_law_due rfl) (by decide +kernel)) (ev_isi (a := (tInt : Ty K Int)) (ev_var ts h_law_found rfl) (by decide +kernel)))) (eb_test (K := K) (ev_op (od_neD (K := K) dBool (Nat.le_of_ble_eq_true rfl)) (ev_isi (a := (tInt : Ty K Int)) (ev_var ts h_law_due rfl) (by decide +kernel)) (ev_isi (a := (tInt : Ty K Int)) (ev_var ts h_law_found rfl) (by decide +kernel))))) e2 (fun hc H2 s2 => ?_) (fun hc H2 s2 => ?_)
  · skip
    subst hc
    have hm := if_t hm
    have fr0 := fr0.trans (Fr.same s2)
    have dm := dm.same s2
    have h_law_found := (tInt : Ty K Int).mono (S := S) (Fr.same s2) h_law_found
    have h_law_due := (tInt : Ty K Int).mono (S := S) (Fr.same s2) h_law_due
    have er := hm
    exact q_ret (T := []) dm (ev_bool (K := K)) er (fun v H5 s5 hv => q v H5 (fr0.trans (Fr.same s5)).toSame ((tBool : Ty K Bool).sub (S := S) (H := H5) sub0 hv))
  subst hc
  have hm := if_f hm
  have fr0 := fr0.trans (Fr.same s2)
  have dm := dm.same s2
  have h_law_found := (tInt : Ty K Int).mono (S := S) (Fr.same s2) h_law_found
  have h_law_due := (tInt : Ty K Int).mono (S := S) (Fr.same s2) h_law_due
  refine q_next ?_
  obtain ⟨c3, e3, hm⟩ := bd_some hm
  refine q_if (T := []) dm (eb_B (K := K) (ev_isi2 (a := (tInt : Ty K Int)) (ev_var ts h_law_due rfl) (by decide +kernel) (by decide +kernel))) e3 (fun hc H3 s3 => ?_) (fun hc H3 s3 => ?_)
  · skip
    subst hc
    have hm := if_t hm
    have fr0 := fr0.trans (Fr.same s3)
    have dm := dm.same s3
    have h_law_found := (tInt : Ty K Int).mono (S := S) (Fr.same s3) h_law_found
    have h_law_due := (tInt : Ty K Int).mono (S := S) (Fr.same s3) h_law_due
    cases hm
  subst hc
  have hm := if_f hm
  have fr0 := fr0.trans (Fr.same s3)
  have dm := dm.same s3
  have h_law_found := (tInt : Ty K Int).mono (S := S) (Fr.same s3) h_law_found
  have h_law_due := (tInt : Ty K Int).mono (S := S) (Fr.same s3) h_law_due
  refine q_next ?_
  obtain ⟨c4, e4, hm⟩ := bd_some hm
  refine q_if (T := []) dm (eb_or (eb_test (K := K) (ev_op (od_neD (K := K) dBool (Nat.le_of_ble_eq_true rfl)) (ev_isi (a := (tInt : Ty K Int)) (ev_var ts h_law_due rfl) (by decide +kernel)) (ev_isi (a := (tInt : Ty K Int)) (ev_var ts h_law_found rfl) (by decide +kernel)))) (eb_test (K := K) (ev_op (od_neD (K := K) dBool (Nat.le_of_ble_eq_true rfl)) (ev_isi (a := (tInt : Ty K Int)) (ev_var ts h_law_due rfl) (by decide +kernel)) (ev_isi (a := (tInt : Ty K Int)) (ev_var ts h_law_found rfl) (by decide +kernel))))) e4 (fun hc H4 s4 => ?_) (fun hc H4 s4 => ?_)
  · skip
    subst hc
    have hm := if_t hm
    have fr0 := fr0.trans (Fr.same s4)
    have dm := dm.same s4
    have h_law_found := (tInt : Ty K Int).mono (S := S) (Fr.same s4) h_law_found
    have h_law_due := (tInt : Ty K Int).mono (S := S) (Fr.same s4) h_law_due
    have er := hm
    exact q_ret (T := []) dm (ev_bool (K := K)) er (fun v H6 s6 hv => q v H6 (fr0.trans (Fr.same s6)).toSame ((tBool : Ty K Bool).sub (S := S) (H := H6) sub0 hv))
  subst hc
  have hm := if_f hm
  have fr0 := fr0.trans (Fr.same s4)
  have dm := dm.same s4
  have h_law_found := (tInt : Ty K Int).mono (S := S) (Fr.same s4) h_law_found
  have h_law_due := (tInt : Ty K Int).mono (S := S) (Fr.same s4) h_law_due
  refine q_next ?_
  have er := hm
  exact q_ret (T := []) dm (ev_and (ev_op (od_eqD (K := K) dBool (Nat.le_of_ble_eq_true rfl)) (ev_isNv (a := (tInt : Ty K Int)) (ev_var ts h_law_due rfl)) (ev_isNv (a := (tInt : Ty K Int)) (ev_var ts h_law_found rfl))) (ev_op (od_eqI (K := K)) (ev_var ts h_law_found rfl) (ev_var ts h_law_due rfl))) er (fun v H7 s7 hv => q v H7 (fr0.trans (Fr.same s7)).toSame ((tBool : Ty K Bool).sub (S := S) (H := H7) sub0 hv))
def m_law_like (d_law_found : (List Int)) (d_law_due : (List Int)) : Option Bool :=
  (bd (bd (some d_law_due) fun _ => some false) fun c1 => if c1 then none else (bd (bd (bd (bd (some d_law_due) fun _ => some false) fun x => bd (bd (some d_law_found) fun _ => some false) fun y => some (!decide (x = y))) fun x => if x then some true else (bd (bd (some d_law_due) fun _ => some true) fun x => bd (bd (some d_law_found) fun _ => some true) fun y => some (!decide (x = y)))) fun c2 => if c2 then (some false) else (bd (bd (some d_law_due) fun _ => some (true || false)) fun c3 => if c3 then (bd (bd (bd (some d_law_found) fun x => some (x.length : Int)) fun x => bd (bd (some d_law_due) fun x => some (x.length : Int)) fun y => some (decide (x = y))) fun x => if x then (bd (bd (some d_law_found) fun xs => bd (some d_law_due) fun ys => mapL? (fun z_4 => (bd (bd (some z_4.1) fun x => bd (bd (some z_4.2) fun x => bd (some ()) fun y => some (x, y)) fun y => some (x, y)) fun a => m_law_likeI a.1 a.2.1)) (xs.zip ys)) fun x => some (x.all id)) else some false) else (bd (bd (bd (bd (some d_law_due) fun _ => some false) fun x => bd (bd (some d_law_found) fun _ => some false) fun y => some (!decide (x = y))) fun x => if x then some true else (bd (bd (some d_law_due) fun _ => some false) fun x => bd (bd (some d_law_found) fun _ => some false) fun y => some (!decide (x = y)))) fun c5 => if c5 then (some false) else (bd (bd (bd (some d_law_due) fun _ => some false) fun x => bd (bd (some d_law_found) fun _ => some false) fun y => some (decide (x = y))) fun x => if x then (bd (some d_law_found) fun x => bd (some d_law_due) fun y => some (decide (x = y))) else some false)))))
abbrev sp_law_like (K : PySem.W.Frag) : Sp := spF (K := K) (aCons (tL tInt) (aCons (tL tInt) aNil)) (fun S => of (K := K) tBool S) (fun a => m_law_like a.1 a.2.1)
theorem ok_law_like (ev : Env K mg) : FnOk P w K mg base CX0 2 ev.f_law_like ev.d_law_like p_law_like (sp_law_like K) := by
  refine ev.A_law_like.F.ok sc_law_like (fun vs H Q E h => ?_) (fun cdv A outer s H0 vs Q E hr h => ?_)
  · obtain ⟨S, ⟨d_law_found, d_law_due, _⟩, y, _, ⟨v_law_found, _, rfl, h_law_found, v_law_due, _, rfl, h_law_due, rfl⟩, _⟩ := h
    rfl
  obtain ⟨S, ⟨d_law_found, d_law_due, _⟩, y, dm, ⟨v_law_found, _, rfl, h_law_found, v_law_due, _, rfl, h_law_due, rfl⟩, hm, q⟩ := h
  have ts : Sub [] S := fun a m => by simp at m
  have fr0 := Fr.refl (T := []) H0
  have sub0 : Sub S S := fun a m => m
  refine ⟨_, (pss_cons (ps_if (pt_val (pe_callB call_isi (by rfl) ev.B.isinstance_ (by decide +kernel) (pa_cons (pv 1) (pa_cons (pe_bltn (v := .ty "dict") (by rfl) ev.B.dict_ (by decide +kernel) rfl) pa_nil))))
    pss_never pss_nil)
    (pss_cons (ps_if (PW.pt (pw_or (pt_cmpR (op_neD hr.units) (pe_callB call_isi (by rfl) ev.B.isinstance_ (by decide +kernel) (pa_cons (pv 1) (pa_cons (pe_bltn (v := .ty "tuple") (by rfl) ev.B.tuple_ (by decide +kernel) rfl) pa_nil))) (pe_callB call_isi (by rfl) ev.B.isinstance_ (by decide +kernel) (pa_cons (pv 0) (pa_cons (pe_bltn (v := .ty "tuple") (by rfl) ev.B.tuple_ (by decide +kernel) rfl) pa_nil))) (nomark _)) (pw_or1 (pt_cmpR (op_neD hr.units) (pe_callB call_isi (by rfl) ev.B.isinstance_ (by decide +kernel) (pa_cons (pv 1) (pa_cons (pe_bltn (v := .ty "list") (by rfl) ev.B.list_ (by decide +kernel) rfl) pa_nil))) (pe_callB call_isi (by rfl) ev.B.isinstance_ (by decide +kernel) (pa_cons (pv 0) (pa_cons (pe_bltn (v := .ty "list") (by rfl) ev.B.list_ (by decide +kernel) rfl) pa_nil))) (nomark _)))))
    (pss_one (ps_ret pe_bl)) pss_nil)
    (pss_cons (ps_if (pt_val (pe_callB call_isiT (by rfl) ev.B.isinstance_ (by decide +kernel) (pa_cons (pv 1) (pa_cons (pe_tup (pa_cons (pe_bltn (v := .ty "list") (by rfl) ev.B.list_ (by decide +kernel) rfl) (pa_cons (pe_bltn (v := .ty "tuple") (by rfl) ev.B.tuple_ (by decide +kernel) rfl) pa_nil))) pa_nil))))
    (pss_one (ps_ret (pe_and (pe_cmpR op_eq (pe_callB call_len_seq (by rfl) ev.B.len_ PySem.boot_len (pa_cons (pv 0) pa_nil)) (pe_callB call_len_seq (by rfl) ev.B.len_ PySem.boot_len (pa_cons (pv 1) pa_nil)) (nomark _)) (pe_one (pe_callB (cr_all rfl) (by rfl) ev.B.all_ (by decide +kernel) (pa_cons (pe_lc (own := [("_law_a", 3), ("_law_b", 4)]) (g := gTup K 2 (gCons (gName 3) (gCons (gName 4) gNil))) (tt := tYes) (by rfl) sc_law_like.nd (pi_zip rfl ev.B.zip_ (pa_cons (pv 0) (pa_cons (pv 1) pa_nil))) (blkOk_by (own := [("_law_a", 3), ("_law_b", 4)]) (N := n_law_like) (sc := defScope s_law_like) (by decide +kernel)) (fun _ _ _ _ _ => pg_tup rfl (pgs_cons (pg_name (i := 3) sc_law_like.nd rfl (Or.inl rfl)) (pgs_cons (pg_name (i := 4) sc_law_like.nd rfl (Or.inl rfl)) pgs_nil))) (fun _ _ _ _ _ => pts_nil) (fun _ _ _ _ _ => (pe_call (ok_law_likeI ev) (hr.mono (by decide)) (by rfl) ev.A_law_like.m ev.A_law_like.F.kp ev.A_law_like.b .nil pass0 (pa_cons (pv 3) (pa_cons (pv 4) pa_nil))))) pa_nil)))))) pss_nil)
    (pss_cons (ps_if (PW.pt (pw_or (pt_cmpR (op_neD hr.units) (pe_callB call_isi (by rfl) ev.B.isinstance_ (by decide +kernel) (pa_cons (pv 1) (pa_cons (pe_bltn (v := .ty "bool") (by rfl) ev.B.bool_ (by decide +kernel) rfl) pa_nil))) (pe_callB call_isi (by rfl) ev.B.isinstance_ (by decide +kernel) (pa_cons (pv 0) (pa_cons (pe_bltn (v := .ty "bool") (by rfl) ev.B.bool_ (by decide +kernel) rfl) pa_nil))) (nomark _)) (pw_or1 (pt_cmpR (op_neD hr.units) (pe_callB call_isi (by rfl) ev.B.isinstance_ (by decide +kernel) (pa_cons (pv 1) (pa_cons (pe_bltn (v := .ty "str") (by rfl) ev.B.str_ (by decide +kernel) rfl) pa_nil))) (pe_callB call_isi (by rfl) ev.B.isinstance_ (by decide +kernel) (pa_cons (pv 0) (pa_cons (pe_bltn (v := .ty "str") (by rfl) ev.B.str_ (by decide +kernel) rfl) pa_nil))) (nomark _)))))
    (pss_one (ps_ret pe_bl)) pss_nil)
    (pss_one (ps_ret (pe_and (pe_cmpR (op_eqD hr.units) (pe_cmpR op_isN (pv 1) pe_non (nomark _)) (pe_cmpR op_isN (pv 0) pe_non (nomark _)) (nomark _)) (pe_one (pe_cmpR (op_eqD hr.units) (pv 0) (pv 1) (nomark _)))))))))), ?_⟩
  dsimp only [m_law_like] at hm
  obtain ⟨c1, e1, hm⟩ := bd_some hm
  refine q_if (T := []) dm (eb_B (K := K) (ev_isi (a := ((tL tInt) : Ty K (List Int))) (ev_var ts h_law_due rfl) (by decide +kernel))) e1 (fun hc H1 s1 => ?_) (fun hc H1 s1 => ?_)
  · skip
    subst hc
    have hm := if_t hm
    have fr0 := fr0.trans (Fr.same s1)
    have dm := dm.same s1
    have h_law_found := ((tL tInt) : Ty K (List Int)).mono (S := S) (Fr.same s1) h_law_found
    have h_law_due := ((tL tInt) : Ty K (List Int)).mono (S := S) (Fr.same s1) h_law_due
    cases hm
  subst hc
  have hm := if_f hm
  have fr0 := fr0.trans (Fr.same s1)
  have dm := dm.same s1
  have h_law_found := ((tL tInt) : Ty K (List Int)).mono (S := S) (Fr.same s1) h_law_found
  have h_law_due := ((tL tInt) : Ty K (List Int)).mono (S := S) (Fr.same s1) h_law_due
  refine q_next ?_
  obtain ⟨c2, e2, hm⟩ := bd_some hm
  refine q_if (T := []) dm (eb_or (eb_test (K := K) (ev_op (od_neD (K := K) dBool (Nat.le_of_ble_eq_true rfl)) (ev_isi (a := ((tL tInt) : Ty K (List Int))) (ev_var ts h_law_due rfl) (by decide +kernel)) (ev_isi (a := ((tL tInt) : Ty K (List Int))) (ev_var ts h_law_found rfl) (by decide +kernel)))) (eb_test (K := K) (ev_op (od_neD (K := K) dBool (Nat.le_of_ble_eq_true rfl)) (ev_isi (a := ((tL tInt) : Ty K (List Int))) (ev_var ts h_law_due rfl) (by decide +kernel)) (ev_isi (a := ((tL tInt) : Ty K (List Int))) (ev_var ts h_law_found rfl) (by decide +kernel))))) e2 (fun hc H2 s2 => ?_) (fun hc H2 s2 => ?_)
  · skip
    subst hc
    have hm := if_t hm
    have fr0 := fr0.trans (Fr.same s2)
    have dm := dm.same s2
    have h_law_found := ((tL tInt) : Ty K (List Int)).mono (S := S) (Fr.same s2) h_law_found
    have h_law_due := ((tL tInt) : Ty K (List Int)).mono (S := S) (Fr.same s2) h_law_due
    have er := hm
    exact q_ret (T := []) dm (ev_bool (K := K)) er (fun v H6 s6 hv => q v H6 (fr0.trans (Fr.same s6)).toSame ((tBool : Ty K Bool).sub (S := S) (H := H6) sub0 hv))
  subst hc
  have hm := if_f hm
  have fr0 := fr0.trans (Fr.same s2)
  have dm := dm.same s2
  have h_law_found := ((tL tInt) : Ty K (List Int)).mono (S := S) (Fr.same s2) h_law_found
  have h_law_due := ((tL tInt) : Ty K (List Int)).mono (S := S) (Fr.same s2) h_law_due
  refine q_next ?_
  obtain ⟨c3, e3, hm⟩ := bd_some hm
  refine q_if (T := []) dm (eb_B (K := K) (ev_isi2 (a := ((tL tInt) : Ty K (List Int))) (ev_var ts h_law_due rfl) (by decide +kernel) (by decide +kernel))) e3 (fun hc H3 s3 => ?_) (fun hc H3 s3 => ?_)
  · skip
    subst hc
    have hm := if_t hm
    have fr0 := fr0.trans (Fr.same s3)
    have dm := dm.same s3
    have h_law_found := ((tL tInt) : Ty K (List Int)).mono (S := S) (Fr.same s3) h_law_found
    have h_law_due := ((tL tInt) : Ty K (List Int)).mono (S := S) (Fr.same s3) h_law_due
    have er := hm
    exact q_ret (T := []) dm (ev_and (ev_op (od_eqI (K := K)) (ev_lenL (ev_var ts h_law_found rfl)) (ev_lenL (ev_var ts h_law_due rfl))) (ev_all (ev_new (ev_lcZ (ev_var ts h_law_found rfl) (ev_var ts h_law_due rfl) (fun v w => by rfl) (fun z_4 v_law_a v_law_b H2' H' p' fr' nD' sm' h_law_a h_law_b => by have h_law_found := ((tL tInt) : Ty K (List Int)).mono (Fr.same sm') (((tL tInt) : Ty K (List Int)).ext (S := S) nD' (((tL tInt) : Ty K (List Int)).mono (Fr.sub ts fr') h_law_found)); have h_law_due := ((tL tInt) : Ty K (List Int)).mono (Fr.same sm') (((tL tInt) : Ty K (List Int)).ext (S := S) nD' (((tL tInt) : Ty K (List Int)).mono (Fr.sub ts fr') h_law_due)); have ts0' := ts; have ts : Sub [] (p' :: S) := (fun a m => by simp at m);  exact (ev_call (ea_cons (ev_var ts h_law_a rfl) (ea_cons (ev_var ts h_law_b rfl) ea_nil)))))))) er (fun v H7 s7 hv => q v H7 (fr0.trans (Fr.same s7)).toSame ((tBool : Ty K Bool).sub (S := S) (H := H7) sub0 hv))
  subst hc
  have hm := if_f hm
  have fr0 := fr0.trans (Fr.same s3)
  have dm := dm.same s3
  have h_law_found := ((tL tInt) : Ty K (List Int)).mono (S := S) (Fr.same s3) h_law_found
  have h_law_due := ((tL tInt) : Ty K (List Int)).mono (S := S) (Fr.same s3) h_law_due
  refine q_next ?_
  obtain ⟨c5, e5, hm⟩ := bd_some hm
  refine q_if (T := []) dm (eb_or (eb_test (K := K) (ev_op (od_neD (K := K) dBool (Nat.le_of_ble_eq_true rfl)) (ev_isi (a := ((tL tInt) : Ty K (List Int))) (ev_var ts h_law_due rfl) (by decide +kernel)) (ev_isi (a := ((tL tInt) : Ty K (List Int))) (ev_var ts h_law_found rfl) (by decide +kernel)))) (eb_test (K := K) (ev_op (od_neD (K := K) dBool (Nat.le_of_ble_eq_true rfl)) (ev_isi (a := ((tL tInt) : Ty K (List Int))) (ev_var ts h_law_due rfl) (by decide +kernel)) (ev_isi (a := ((tL tInt) : Ty K (List Int))) (ev_var ts h_law_found rfl) (by decide +kernel))))) e5 (fun hc H5 s5 => ?_) (fun hc H5 s5 => ?_)
  · skip
    subst hc
    have hm := if_t hm
    have fr0 := fr0.trans (Fr.same s5)
    have dm := dm.same s5
    have h_law_found := ((tL tInt) : Ty K (List Int)).mono (S := S) (Fr.same s5) h_law_found
    have h_law_due := ((tL tInt) : Ty K (List Int)).mono (S := S) (Fr.same s5) h_law_due
    have er := hm
    exact q_ret (T := []) dm (ev_bool (K := K)) er (fun v H8 s8 hv => q v H8 (fr0.trans (Fr.same s8)).toSame ((tBool : Ty K Bool).sub (S := S) (H := H8) sub0 hv))
  subst hc
  have hm := if_f hm
  have fr0 := fr0.trans (Fr.same s5)
  have dm := dm.same s5
  have h_law_found := ((tL tInt) : Ty K (List Int)).mono (S := S) (Fr.same s5) h_law_found
  have h_law_due := ((tL tInt) : Ty K (List Int)).mono (S := S) (Fr.same s5) h_law_due
  refine q_next ?_
  have er := hm
  exact q_ret (T := []) dm (ev_and (ev_op (od_eqD (K := K) dBool (Nat.le_of_ble_eq_true rfl)) (ev_isNv (a := ((tL tInt) : Ty K (List Int))) (ev_var ts h_law_due rfl)) (ev_isNv (a := ((tL tInt) : Ty K (List Int))) (ev_var ts h_law_found rfl))) (ev_op (od_eqD (K := K) (dL dInt) (Nat.le_of_ble_eq_true rfl)) (ev_var ts h_law_found rfl) (ev_var ts h_law_due rfl))) er (fun v H9 s9 hv => q v H9 (fr0.trans (Fr.same s9)).toSame ((tBool : Ty K Bool).sub (S := S) (H := H9) sub0 hv))
end
end G

namespace G
open PySem L2 M
section
variable {P : Program} {w : World} {K : PySem.W.Frag} {mg : Str → Option Value} {base : Heap}

def m_law_fewest (d_law_row : (List (Rat × Rat))) (d_law_off_by : Int) (d_law_pins : (List Int)) : Option ((List Int) × (List Int)) :=
  (bd (bd (bd (some d_law_row) fun x => some (x.length : Int)) fun x => bd (some (1 : Int)) fun y => some (x - y)) fun law_most_1 => (bd (bd (bd (some (0 : Int)) fun x => bd (some []) fun y => some (x :: y)) fun x => bd (bd (some d_law_row) fun x => some (x.length : Int)) fun y => rep? x y) fun law_numbers_2 => (bd (bd (some law_most_1) rng1?) fun xs18 => bd (loopC (ρ := ((List Int) × (List Int))) (fun s_3 law_back_3 => (bd (bd (bd (some law_most_1) fun x => bd (some (1 : Int)) fun y => some (x - y)) fun x => bd (some law_back_3) fun y => some (x - y)) fun law_first_4 => (bd (bd (bd (bd (some law_first_4) fun x => bd (some (1 : Int)) fun y => some (x + y)) fun x => bd (bd (some d_law_row) fun x => some (x.length : Int)) fun y => rng2? x y) fun xs => filL? (fun law_k_5 => (bd (bd (some d_law_row) fun x => bd (bd (some law_first_4) fun x => bd (bd (some law_k_5) fun x => bd (bd (some d_law_off_by) fun x => bd (bd (some d_law_pins) fun x => bd (some ()) fun y => some (x, y)) fun y => some (x, y)) fun y => some (x, y)) fun y => some (x, y)) fun y => some (x, y)) fun a => m_law_free a.1 a.2.1 a.2.2.1 a.2.2.2.1 a.2.2.2.2.1)) (fun law_k_5 => (bd (some law_k_5) fun y => atI s_3 y)) xs) fun law_good_6 => (bd (bd (some (1 : Int)) fun x => bd (bd (some law_good_6) fun x => x.min?) fun y => some (x + y)) fun a7 => (bd (some law_first_4) fun i8 => (bd (set? s_3 i8 a7) fun law_numbers_9 => some (Ct.go law_numbers_9))))))) xs18 law_numbers_2) fun r_3 => match r_3 with | .ret y => some y | .go t_3 => (bd (bd (some (0 : Int)) fun x => bd (some []) fun y => some (x :: y)) fun law_found_10 => (bd (whileC (ρ := ((List Int) × (List Int))) (fun s_11 => (bd (bd (bd (some (1 : Int)) fun x => some (-x)) fun y => atI s_11 y) fun x => bd (some law_most_1) fun y => some (decide (x < y)))) (fun s_11 => (bd (bd (bd (some (1 : Int)) fun x => some (-x)) fun y => atI s_11 y) fun law_at_12 => (bd (bd (bd (bd (some law_at_12) fun x => bd (some (1 : Int)) fun y => some (x + y)) fun x => bd (bd (some d_law_row) fun x => some (x.length : Int)) fun y => rng2? x y) fun xs => filL? (fun law_k_13 => (bd (bd (some law_k_13) fun y => atI t_3 y) fun x => bd (bd (bd (some law_at_12) fun y => atI t_3 y) fun x => bd (some (1 : Int)) fun y => some (x - y)) fun y => some (decide (x = y)))) (fun law_k_13 => (some law_k_13)) xs) fun law_good_14 => (bd (bd (bd (some law_good_14) fun xs => filL? (fun law_k_15 => (bd (bd (some d_law_row) fun x => bd (bd (some law_at_12) fun x => bd (bd (some law_k_15) fun x => bd (bd (some d_law_off_by) fun x => bd (bd (some d_law_pins) fun x => bd (some ()) fun y => some (x, y)) fun y => some (x, y)) fun y => some (x, y)) fun y => some (x, y)) fun y => some (x, y)) fun a => m_law_free a.1 a.2.1 a.2.2.1 a.2.2.2.1 a.2.2.2.2.1)) (fun law_k_15 => (some law_k_15)) xs) fun x => bd (some (0 : Int)) fun y => atI x y) fun a16 => (bd (app? s_11 a16) fun law_found_17 => some (Ct.go law_found_17)))))) 100000 law_found_10) fun r_11 => match r_11 with | .ret y => some y | .go t_11 => (bd (some t_11) fun x => bd (some t_3) fun y => some (x, y)) | .brk _ => none)) | .brk _ => none)))
abbrev sp_law_fewest (K : PySem.W.Frag) : Sp := spF (K := K) (aCons (tL (tT2 tRat tRat)) (aCons tInt (aCons (tL tInt) aNil))) (fun S => of (K := K) (tT2 (tL tInt) (tL tInt)) S) (fun a => m_law_fewest a.1 a.2.1 a.2.2.1)
theorem ok_law_fewest (ev : Env K mg) : FnOk P w K mg base CX0 5 ev.f_law_fewest ev.d_law_fewest p_law_fewest (sp_law_fewest K) := by
  refine ev.A_law_fewest.F.ok sc_law_fewest (fun vs H Q E h => ?_) (fun cdv A outer s H0 vs Q E hr h => ?_)
  · obtain ⟨S, ⟨d_law_row, d_law_off_by, d_law_pins, _⟩, y, _, ⟨v_law_row, _, rfl, h_law_row, v_law_off_by, _, rfl, h_law_off_by, v_law_pins, _, rfl, h_law_pins, rfl⟩, _⟩ := h
    rfl
  obtain ⟨S, ⟨d_law_row, d_law_off_by, d_law_pins, _⟩, y, dm, ⟨v_law_row, _, rfl, h_law_row, v_law_off_by, _, rfl, h_law_off_by, v_law_pins, _, rfl, h_law_pins, rfl⟩, hm, q⟩ := h
  have ts : Sub [] S := fun a m => by simp at m
  have fr0 := Fr.refl (T := []) H0
  have sub0 : Sub S S := fun a m => m
  refine ⟨_, (pss_cons (ps_set (i := 3) sc_law_fewest.nd rfl (Or.inl rfl) (pe_op op_sub (pe_callB call_len_seq (by rfl) ev.B.len_ PySem.boot_len (pa_cons (pv 0) pa_nil)) pe_int))
    (pss_cons (ps_set (i := 4) sc_law_fewest.nd rfl (Or.inr rfl) (pe_op op_rep (pe_lst (pa_cons pe_int pa_nil)) (pe_callB call_len_seq (by rfl) ev.B.len_ PySem.boot_len (pa_cons (pv 0) pa_nil))))
    (pss_cons (ps_for PassesOwn.never rfl (pi_range1 rfl ev.B.range_ (pa_cons (pv 3) pa_nil)) (pg_name (i := 5) sc_law_fewest.nd rfl (Or.inl rfl))
    (pss_cons (ps_set (i := 6) sc_law_fewest.nd rfl (Or.inr rfl) (pe_op op_sub (pe_op op_sub (pv 3) pe_int) (pv 5)))
    (pss_cons (ps_setLc (i := 7) (own := [("_law_k", 10)]) (g := gName 10) (by rfl) sc_law_fewest.nd rfl rfl (sw_true rfl rfl rfl (by decide +kernel)) (pi_range2 rfl ev.B.range_ (pa_cons (pe_op op_add (pv 6) pe_int) (pa_cons (pe_callB call_len_seq (by rfl) ev.B.len_ PySem.boot_len (pa_cons (pv 0) pa_nil)) pa_nil))) (blkOk_by (own := [("_law_k", 10)]) (N := n_law_fewest) (sc := defScope s_law_fewest) (by decide +kernel)) (fun _ _ _ _ _ => pg_name (i := 10) sc_law_fewest.nd rfl (Or.inl rfl)) (fun _ _ _ _ _ => (pts_one (pt_val (pe_call (ok_law_free ev) (hr.mono (by decide)) (by rfl) ev.A_law_free.m ev.A_law_free.F.kp ev.A_law_free.b .nil pass0 (pa_cons (pv 0) (pa_cons (pv 6) (pa_cons (pv 10) (pa_cons (pv 1) (pa_cons (pv 2) pa_nil))))))))) (fun _ _ _ _ _ => (pe_ix (show IxR _ (rIxL K) from ix_list) (pv 4) (pv 10) (fun _ _ => rfl))))
    (pss_one (ps_asg (pe_op op_add pe_int (pe_callB (cr_min rfl) (by rfl) ev.B.min_ (by decide +kernel) (pa_cons (pv 7) pa_nil))) (pg_sub (pv 4) (pv 6) set_list))))))
    (pss_cons (ps_set (i := 8) sc_law_fewest.nd rfl (Or.inl rfl) (pe_lst (pa_cons pe_int pa_nil)))
    (pss_cons (ps_while PassesOwn.never (pt_cmpR op_lt (pe_ix ix_list (pv 8) (pe_un un_neg pe_int) (fun _ _ => rfl)) (pv 3) (nomark _))
    (pss_cons (ps_set (i := 9) sc_law_fewest.nd rfl (Or.inr rfl) (pe_ix ix_list (pv 8) (pe_un un_neg pe_int) (fun _ _ => rfl)))
    (pss_cons (ps_setLc (i := 7) (own := [("_law_k", 10)]) (g := gName 10) (by rfl) sc_law_fewest.nd rfl rfl (sw_true rfl rfl rfl (by decide +kernel)) (pi_range2 rfl ev.B.range_ (pa_cons (pe_op op_add (pv 9) pe_int) (pa_cons (pe_callB call_len_seq (by rfl) ev.B.len_ PySem.boot_len (pa_cons (pv 0) pa_nil)) pa_nil))) (blkOk_by (own := [("_law_k", 10)]) (N := n_law_fewest) (sc := defScope s_law_fewest) (by decide +kernel)) (fun _ _ _ _ _ => pg_name (i := 10) sc_law_fewest.nd rfl (Or.inl rfl)) (fun _ _ _ _ _ => (pts_one (pt_cmpR op_eq (pe_ix (show IxR _ (rIxL K) from ix_list) (pv 4) (pv 10) (fun _ _ => rfl)) (pe_op op_sub (pe_ix (show IxR _ (rIxL K) from ix_list) (pv 4) (pv 9) (fun _ _ => rfl)) pe_int) (nomark _)))) (fun _ _ _ _ _ => (pv 10)))
    (pss_one (ps_expr (pe_bm PySem.F.plainAttrs_list PySem.F.slot_list_append PySem.F.type_list_append mt_append (pv 8) (pa_cons (pe_ix ix_list (pe_lc (own := [("_law_k", 10)]) (g := gName 10) (by rfl) sc_law_fewest.nd (pi_list (pv 7)) (blkOk_by (own := [("_law_k", 10)]) (N := n_law_fewest) (sc := defScope s_law_fewest) (by decide +kernel)) (fun _ _ _ _ _ => pg_name (i := 10) sc_law_fewest.nd rfl (Or.inl rfl)) (fun _ _ _ _ _ => (pts_one (pt_val (pe_call (ok_law_free ev) (hr.mono (by decide)) (by rfl) ev.A_law_free.m ev.A_law_free.F.kp ev.A_law_free.b .nil pass0 (pa_cons (pv 0) (pa_cons (pv 9) (pa_cons (pv 10) (pa_cons (pv 1) (pa_cons (pv 2) pa_nil))))))))) (fun _ _ _ _ _ => (pv 10))) pe_int (fun _ _ => rfl)) pa_nil)))))))
    (pss_one (ps_ret (pe_tup (pa_cons (pv 8) (pa_cons (pv 4) pa_nil)))))))))), ?_⟩
  dsimp only [m_law_fewest] at hm
  obtain ⟨law_most_1, e1, hm⟩ := bd_some hm
  refine q_asg (T := []) dm (ev_op (od_sub (K := K)) (ev_lenL (ev_var ts h_law_row rfl)) (ev_int (K := K))) e1 (fun v_law_most H1 s1 h_law_most => ?_)
  have fr0 := fr0.trans (Fr.same s1)
  have dm := dm.same s1
  have h_law_row := ((tL (tT2 tRat tRat)) : Ty K (List (Rat × Rat))).mono (S := S) (Fr.same s1) h_law_row
  have h_law_off_by := (tInt : Ty K Int).mono (S := S) (Fr.same s1) h_law_off_by
  have h_law_pins := ((tL tInt) : Ty K (List Int)).mono (S := S) (Fr.same s1) h_law_pins
  have h_law_most : (tInt : Ty K Int).rp S H1 v_law_most law_most_1 := h_law_most
  obtain ⟨law_numbers_2, e2, hm⟩ := bd_some hm
  refine q_asg (T := []) dm (ev_op od_rep (ev_new (ev_lst (el_cons (ev_int (K := K)) el_nil) (by decide))) (ev_lenL (ev_var ts h_law_row rfl))) e2 (fun v_law_numbers H2 s2 hx => ?_)
  obtain ⟨p_law_numbers, rfl, np_law_numbers, o_law_numbers⟩ := hx
  have ns_law_numbers : p_law_numbers ∉ S := dm.not_mem np_law_numbers
  have nb_law_numbers : p_law_numbers ∉ S := fun m => ns_law_numbers (sub0 _ m)
  have n0_law_numbers := fr_back fr0 Dom.nil np_law_numbers
  have nt_law_numbers := (Dom.nil (H := H0)).not_mem n0_law_numbers
  have fr0 := fr0.trans (Fr.same s2)
  have h_law_row := ((tL (tT2 tRat tRat)) : Ty K (List (Rat × Rat))).mono (Fr.same s2) (((tL (tT2 tRat tRat)) : Ty K (List (Rat × Rat))).ext (S := S) np_law_numbers h_law_row)
  have h_law_off_by := (tInt : Ty K Int).mono (Fr.same s2) ((tInt : Ty K Int).ext (S := S) np_law_numbers h_law_off_by)
  have h_law_pins := ((tL tInt) : Ty K (List Int)).mono (Fr.same s2) (((tL tInt) : Ty K (List Int)).ext (S := S) np_law_numbers h_law_pins)
  have h_law_most := (tInt : Ty K Int).mono (Fr.same s2) ((tInt : Ty K Int).ext (S := S) np_law_numbers h_law_most)
  have dm := (dm.same s2).cons o_law_numbers.choose_spec.1
  have ts := sub_cons (p := p_law_numbers) ts
  have sub0 := sub_cons (p := p_law_numbers) sub0
  have im_law_numbers : p_law_numbers ∈ p_law_numbers :: S := List.mem_cons_self ..
  obtain ⟨xs18, e_xs18, hm⟩ := bd_some hm
  obtain ⟨r_3, el3, hm3⟩ := bd_some hm
  refine q_for_s (T := []) dm (sr_r1 (K := K) (ev_var ts h_law_most rfl)) e_xs18 el3 (fun s_3 σ' H' => ∃ v_law_row : V, ∃ v_law_off_by : V, ∃ v_law_pins : V, ∃ v_law_most : V, ∃ f_5 : Option V, ∃ f_6 : Option V, ∃ f_7 : Option V, ∃ f_8 : Option V, ∃ f_9 : Option V, ∃ f_10 : Option V, σ' = [some v_law_row, some v_law_off_by, some v_law_pins, some v_law_most, some (.ref p_law_numbers), f_5, f_6, f_7, f_8, f_9, f_10] ∧ Fr [] H0 H' ∧ Dom (p_law_numbers :: S) H' ∧ ((tL (tT2 tRat tRat)) : Ty K (List (Rat × Rat))).rp (p_law_numbers :: S) H' v_law_row d_law_row ∧ (tInt : Ty K Int).rp (p_law_numbers :: S) H' v_law_off_by d_law_off_by ∧ ((tL tInt) : Ty K (List Int)).rp (p_law_numbers :: S) H' v_law_pins d_law_pins ∧ (tInt : Ty K Int).rp (p_law_numbers :: S) H' v_law_most law_most_1 ∧ Own (tInt : Ty K Int) (p_law_numbers :: S) H' p_law_numbers s_3) (fun H3 s3 => ?_) (fun hd3 s_3 law_back_3 cr3 v_law_back σ' H' hI h_law_back hx3 hm hret3 hbrk3 => ?_) (fun t_3 σ' H' er hI => ?_)
  · skip
    have fr0 := fr0.trans (Fr.same s3)
    have dm := dm.same s3
    have h_law_row := ((tL (tT2 tRat tRat)) : Ty K (List (Rat × Rat))).mono (S := (p_law_numbers :: S)) (Fr.same s3) h_law_row
    have h_law_off_by := (tInt : Ty K Int).mono (S := (p_law_numbers :: S)) (Fr.same s3) h_law_off_by
    have h_law_pins := ((tL tInt) : Ty K (List Int)).mono (S := (p_law_numbers :: S)) (Fr.same s3) h_law_pins
    have h_law_most := (tInt : Ty K Int).mono (S := (p_law_numbers :: S)) (Fr.same s3) h_law_most
    have o_law_numbers := o_law_numbers.same s3
    exact ⟨v_law_row, v_law_off_by, v_law_pins, v_law_most, _, _, _, _, _, _, rfl, fr0, dm, h_law_row, h_law_off_by, h_law_pins, h_law_most, o_law_numbers⟩
  · skip
    obtain ⟨v_law_row, v_law_off_by, v_law_pins, v_law_most, f_5, f_6, f_7, f_8, f_9, f_10, rfl, fr0, dm, h_law_row, h_law_off_by, h_law_pins, h_law_most, o_law_numbers⟩ := hI
    let HL := H'
    have freshl : ∀ a ∈ (p_law_numbers :: S), a ∉ (p_law_numbers :: S) → H' a = none := fun a m n => absurd m n
    have frl : Fr (p_law_numbers :: S) HL H' := Fr.refl (T := (p_law_numbers :: S)) H'
    have tsl := ts
    have subl : Sub (p_law_numbers :: S) (p_law_numbers :: S) := fun a m => m
    have iml_law_numbers := im_law_numbers
    have h_law_back : (tInt : Ty K Int).rp (p_law_numbers :: S) H' v_law_back law_back_3 := h_law_back
    obtain ⟨law_first_4, e4, hm⟩ := bd_some hm
    refine q_asg (T := []) dm (ev_op (od_sub (K := K)) (ev_op (od_sub (K := K)) (ev_var ts h_law_most rfl) (ev_int (K := K))) (ev_var ts h_law_back rfl)) e4 (fun v_law_first H4 s4 h_law_first => ?_)
    have fr0 := fr0.trans (Fr.same s4)
    have dm := dm.same s4
    have frl := frl.trans (Fr.same s4)
    have h_law_row := ((tL (tT2 tRat tRat)) : Ty K (List (Rat × Rat))).mono (S := (p_law_numbers :: S)) (Fr.same s4) h_law_row
    have h_law_off_by := (tInt : Ty K Int).mono (S := (p_law_numbers :: S)) (Fr.same s4) h_law_off_by
    have h_law_pins := ((tL tInt) : Ty K (List Int)).mono (S := (p_law_numbers :: S)) (Fr.same s4) h_law_pins
    have h_law_most := (tInt : Ty K Int).mono (S := (p_law_numbers :: S)) (Fr.same s4) h_law_most
    have o_law_numbers := o_law_numbers.same s4
    have h_law_back := (tInt : Ty K Int).mono (S := (p_law_numbers :: S)) (Fr.same s4) h_law_back
    have h_law_first : (tInt : Ty K Int).rp (p_law_numbers :: S) H4 v_law_first law_first_4 := h_law_first
    obtain ⟨law_good_6, e6, hm⟩ := bd_some hm
    refine q_asg (T := []) dm (ev_new (ev_lcF (sr_r2 (K := K) (ev_op (od_add (K := K)) (ev_var ts h_law_first rfl) (ev_int (K := K))) (ev_lenL (ev_var ts h_law_row rfl))) (fun v => by rfl) (fun law_k_5 v_law_k H2' H' p' fr' nD' sm' h_law_k => by have h_law_row := ((tL (tT2 tRat tRat)) : Ty K (List (Rat × Rat))).mono (Fr.same sm') (((tL (tT2 tRat tRat)) : Ty K (List (Rat × Rat))).ext (S := (p_law_numbers :: S)) nD' (((tL (tT2 tRat tRat)) : Ty K (List (Rat × Rat))).mono (Fr.sub ts fr') h_law_row)); have h_law_off_by := (tInt : Ty K Int).mono (Fr.same sm') ((tInt : Ty K Int).ext (S := (p_law_numbers :: S)) nD' ((tInt : Ty K Int).mono (Fr.sub ts fr') h_law_off_by)); have h_law_pins := ((tL tInt) : Ty K (List Int)).mono (Fr.same sm') (((tL tInt) : Ty K (List Int)).ext (S := (p_law_numbers :: S)) nD' (((tL tInt) : Ty K (List Int)).mono (Fr.sub ts fr') h_law_pins)); have h_law_most := (tInt : Ty K Int).mono (Fr.same sm') ((tInt : Ty K Int).ext (S := (p_law_numbers :: S)) nD' ((tInt : Ty K Int).mono (Fr.sub ts fr') h_law_most)); have h_law_back := (tInt : Ty K Int).mono (Fr.same sm') ((tInt : Ty K Int).ext (S := (p_law_numbers :: S)) nD' ((tInt : Ty K Int).mono (Fr.sub ts fr') h_law_back)); have h_law_first := (tInt : Ty K Int).mono (Fr.same sm') ((tInt : Ty K Int).ext (S := (p_law_numbers :: S)) nD' ((tInt : Ty K Int).mono (Fr.sub ts fr') h_law_first)); have ts0' := ts; have ts : Sub [] (p' :: (p_law_numbers :: S)) := (fun a m => by simp at m);  have o_law_numbers := ((o_law_numbers.fr fr' ts0' nt_law_numbers).ext nD').same sm'; have nt_law_numbers : p_law_numbers ∉ [] := (by simp); exact (eb_B (K := K) (ev_call (ea_cons (ev_var ts h_law_row rfl) (ea_cons (ev_var ts h_law_first rfl) (ea_cons (ev_var ts h_law_k rfl) (ea_cons (ev_var ts h_law_off_by rfl) (ea_cons (ev_var ts h_law_pins rfl) ea_nil)))))))) (fun law_k_5 v_law_k H2' H' p' fr' nD' sm' h_law_k => by have h_law_row := ((tL (tT2 tRat tRat)) : Ty K (List (Rat × Rat))).mono (Fr.same sm') (((tL (tT2 tRat tRat)) : Ty K (List (Rat × Rat))).ext (S := (p_law_numbers :: S)) nD' (((tL (tT2 tRat tRat)) : Ty K (List (Rat × Rat))).mono (Fr.sub ts fr') h_law_row)); have h_law_off_by := (tInt : Ty K Int).mono (Fr.same sm') ((tInt : Ty K Int).ext (S := (p_law_numbers :: S)) nD' ((tInt : Ty K Int).mono (Fr.sub ts fr') h_law_off_by)); have h_law_pins := ((tL tInt) : Ty K (List Int)).mono (Fr.same sm') (((tL tInt) : Ty K (List Int)).ext (S := (p_law_numbers :: S)) nD' (((tL tInt) : Ty K (List Int)).mono (Fr.sub ts fr') h_law_pins)); have h_law_most := (tInt : Ty K Int).mono (Fr.same sm') ((tInt : Ty K Int).ext (S := (p_law_numbers :: S)) nD' ((tInt : Ty K Int).mono (Fr.sub ts fr') h_law_most)); have h_law_back := (tInt : Ty K Int).mono (Fr.same sm') ((tInt : Ty K Int).ext (S := (p_law_numbers :: S)) nD' ((tInt : Ty K Int).mono (Fr.sub ts fr') h_law_back)); have h_law_first := (tInt : Ty K Int).mono (Fr.same sm') ((tInt : Ty K Int).ext (S := (p_law_numbers :: S)) nD' ((tInt : Ty K Int).mono (Fr.sub ts fr') h_law_first)); have ts0' := ts; have ts : Sub [] (p' :: (p_law_numbers :: S)) := (fun a m => by simp at m);  have o_law_numbers := ((o_law_numbers.fr fr' ts0' nt_law_numbers).ext nD').same sm'; have nt_law_numbers : p_law_numbers ∉ [] := (by simp); exact (ev_ownIx o_law_numbers nt_law_numbers ts rfl (ev_var ts h_law_k rfl))))) e6 (fun v_law_good H6 s6 h_law_good => ?_)
    have fr0 := fr0.trans (Fr.same s6)
    have dm := dm.same s6
    have frl := frl.trans (Fr.same s6)
    have h_law_row := ((tL (tT2 tRat tRat)) : Ty K (List (Rat × Rat))).mono (S := (p_law_numbers :: S)) (Fr.same s6) h_law_row
    have h_law_off_by := (tInt : Ty K Int).mono (S := (p_law_numbers :: S)) (Fr.same s6) h_law_off_by
    have h_law_pins := ((tL tInt) : Ty K (List Int)).mono (S := (p_law_numbers :: S)) (Fr.same s6) h_law_pins
    have h_law_most := (tInt : Ty K Int).mono (S := (p_law_numbers :: S)) (Fr.same s6) h_law_most
    have o_law_numbers := o_law_numbers.same s6
    have h_law_back := (tInt : Ty K Int).mono (S := (p_law_numbers :: S)) (Fr.same s6) h_law_back
    have h_law_first := (tInt : Ty K Int).mono (S := (p_law_numbers :: S)) (Fr.same s6) h_law_first
    have h_law_good : ((tL tInt) : Ty K (List Int)).rp (p_law_numbers :: S) H6 v_law_good law_good_6 := h_law_good
    obtain ⟨a7, e8, hm⟩ := bd_some hm
    obtain ⟨i8, i8, hm⟩ := bd_some hm
    obtain ⟨law_numbers_9, f8, hm⟩ := bd_some hm
    refine l_set (T := []) dm o_law_numbers im_law_numbers nt_law_numbers ts rfl (ev_op (od_add (K := K)) (ev_int (K := K)) (ev_min (ev_var ts h_law_good rfl))) e8 (ev_var ts h_law_first rfl) i8 f8 (fun H8 s8 frx8 o_law_numbers => ?_)
    have fr0 := fr0.mut Dom.nil n0_law_numbers s8
    have frl := frl.trans (s8.fr iml_law_numbers)
    have dm := dm.fx frx8 s8
    have h_law_row := ((tL (tT2 tRat tRat)) : Ty K (List (Rat × Rat))).mono (S := (p_law_numbers :: S)) frx8 h_law_row
    have h_law_off_by := (tInt : Ty K Int).mono (S := (p_law_numbers :: S)) frx8 h_law_off_by
    have h_law_pins := ((tL tInt) : Ty K (List Int)).mono (S := (p_law_numbers :: S)) frx8 h_law_pins
    have h_law_most := (tInt : Ty K Int).mono (S := (p_law_numbers :: S)) frx8 h_law_most
    have h_law_back := (tInt : Ty K Int).mono (S := (p_law_numbers :: S)) frx8 h_law_back
    have h_law_first := (tInt : Ty K Int).mono (S := (p_law_numbers :: S)) frx8 h_law_first
    have h_law_good := ((tL tInt) : Ty K (List Int)).mono (S := (p_law_numbers :: S)) frx8 h_law_good
    cases hm
    exact ⟨_, rfl, frl, ⟨v_law_row, v_law_off_by, v_law_pins, v_law_most, _, _, _, _, _, _, rfl, fr0, dm, h_law_row, h_law_off_by, h_law_pins, h_law_most, o_law_numbers⟩⟩
  subst er
  have hm := hm3
  obtain ⟨v_law_row, v_law_off_by, v_law_pins, v_law_most, f_5, f_6, f_7, f_8, f_9, f_10, rfl, fr0, dm, h_law_row, h_law_off_by, h_law_pins, h_law_most, o_law_numbers⟩ := hI
  obtain ⟨law_found_10, e10, hm⟩ := bd_some hm
  refine q_asg (T := []) dm (ev_lst (el_cons (ev_int (K := K)) el_nil) (by decide)) e10 (fun v_law_found H10 s10 hx => ?_)
  obtain ⟨p_law_found, rfl, np_law_found, o_law_found⟩ := hx
  have ns_law_found : p_law_found ∉ (p_law_numbers :: S) := dm.not_mem np_law_found
  have nb_law_found : p_law_found ∉ S := fun m => ns_law_found (sub0 _ m)
  have n0_law_found := fr_back fr0 Dom.nil np_law_found
  have nt_law_found := (Dom.nil (H := H0)).not_mem n0_law_found
  have fr0 := fr0.trans (Fr.same s10)
  have h_law_row := ((tL (tT2 tRat tRat)) : Ty K (List (Rat × Rat))).mono (Fr.same s10) (((tL (tT2 tRat tRat)) : Ty K (List (Rat × Rat))).ext (S := (p_law_numbers :: S)) np_law_found h_law_row)
  have h_law_off_by := (tInt : Ty K Int).mono (Fr.same s10) ((tInt : Ty K Int).ext (S := (p_law_numbers :: S)) np_law_found h_law_off_by)
  have h_law_pins := ((tL tInt) : Ty K (List Int)).mono (Fr.same s10) (((tL tInt) : Ty K (List Int)).ext (S := (p_law_numbers :: S)) np_law_found h_law_pins)
  have h_law_most := (tInt : Ty K Int).mono (Fr.same s10) ((tInt : Ty K Int).ext (S := (p_law_numbers :: S)) np_law_found h_law_most)
  have ne_law_numbers_law_found := o_law_numbers.ne np_law_found
  have o_law_numbers := (o_law_numbers.ext np_law_found).same s10
  have im_law_numbers := List.mem_cons_of_mem p_law_found im_law_numbers
  have dm := (dm.same s10).cons o_law_found.choose_spec.1
  have ts := sub_cons (p := p_law_found) ts
  have sub0 := sub_cons (p := p_law_found) sub0
  have im_law_found : p_law_found ∈ p_law_found :: (p_law_numbers :: S) := List.mem_cons_self ..
  have ne_law_found_law_numbers := Ne.symm ne_law_numbers_law_found
  obtain ⟨r_11, el11, hm11⟩ := bd_some hm
  refine q_while_s (S := (p_law_found :: (p_law_numbers :: S))) (T := []) el11 (fun s_11 σ' H' => ∃ v_law_row : V, ∃ v_law_off_by : V, ∃ v_law_pins : V, ∃ v_law_most : V, ∃ f_5 : Option V, ∃ f_6 : Option V, ∃ f_7 : Option V, ∃ f_9 : Option V, ∃ f_10 : Option V, σ' = [some v_law_row, some v_law_off_by, some v_law_pins, some v_law_most, some (.ref p_law_numbers), f_5, f_6, f_7, some (.ref p_law_found), f_9, f_10] ∧ Fr [] H0 H' ∧ Dom (p_law_found :: (p_law_numbers :: S)) H' ∧ ((tL (tT2 tRat tRat)) : Ty K (List (Rat × Rat))).rp (p_law_found :: (p_law_numbers :: S)) H' v_law_row d_law_row ∧ (tInt : Ty K Int).rp (p_law_found :: (p_law_numbers :: S)) H' v_law_off_by d_law_off_by ∧ ((tL tInt) : Ty K (List Int)).rp (p_law_found :: (p_law_numbers :: S)) H' v_law_pins d_law_pins ∧ (tInt : Ty K Int).rp (p_law_found :: (p_law_numbers :: S)) H' v_law_most law_most_1 ∧ Own (tInt : Ty K Int) (p_law_found :: (p_law_numbers :: S)) H' p_law_numbers t_3 ∧ Own (tInt : Ty K Int) (p_law_found :: (p_law_numbers :: S)) H' p_law_found s_11) ?_ (fun s_11 σ' H' hI => ?_) (fun hd11 s_11 cr11 σ' Hw11 H' hI sw11 hm hret11 hbrk11 => ?_) (fun t_11 σ' Hw11 H' er hI sw11 => ?_)
  · skip
    exact ⟨v_law_row, v_law_off_by, v_law_pins, v_law_most, _, _, _, _, _, rfl, fr0, dm, h_law_row, h_law_off_by, h_law_pins, h_law_most, o_law_numbers, o_law_found⟩
  · skip
    obtain ⟨v_law_row, v_law_off_by, v_law_pins, v_law_most, f_5, f_6, f_7, f_9, f_10, rfl, fr0, dm, h_law_row, h_law_off_by, h_law_pins, h_law_most, o_law_numbers, o_law_found⟩ := hI
    exact ⟨_, dm, (eb_test (K := K) (ev_op (od_lt (K := K)) (ev_ownIx o_law_found nt_law_found ts rfl (ev_neg (ev_int (K := K)))) (ev_var ts h_law_most rfl)))⟩
  · skip
    obtain ⟨v_law_row, v_law_off_by, v_law_pins, v_law_most, f_5, f_6, f_7, f_9, f_10, rfl, fr0, dm, h_law_row, h_law_off_by, h_law_pins, h_law_most, o_law_numbers, o_law_found⟩ := hI
    have fr0 := fr0.trans (Fr.same sw11)
    have dm := dm.same sw11
    have h_law_row := ((tL (tT2 tRat tRat)) : Ty K (List (Rat × Rat))).mono (S := (p_law_found :: (p_law_numbers :: S))) (Fr.same sw11) h_law_row
    have h_law_off_by := (tInt : Ty K Int).mono (S := (p_law_found :: (p_law_numbers :: S))) (Fr.same sw11) h_law_off_by
    have h_law_pins := ((tL tInt) : Ty K (List Int)).mono (S := (p_law_found :: (p_law_numbers :: S))) (Fr.same sw11) h_law_pins
    have h_law_most := (tInt : Ty K Int).mono (S := (p_law_found :: (p_law_numbers :: S))) (Fr.same sw11) h_law_most
    have o_law_numbers := o_law_numbers.same sw11
    have o_law_found := o_law_found.same sw11
    let HL := H'
    have freshl : ∀ a ∈ (p_law_found :: (p_law_numbers :: S)), a ∉ (p_law_found :: (p_law_numbers :: S)) → H' a = none := fun a m n => absurd m n
    have frl : Fr (p_law_found :: (p_law_numbers :: S)) HL H' := Fr.refl (T := (p_law_found :: (p_law_numbers :: S))) H'
    have tsl := ts
    have subl : Sub (p_law_found :: (p_law_numbers :: S)) (p_law_found :: (p_law_numbers :: S)) := fun a m => m
    have iml_law_numbers := im_law_numbers
    have iml_law_found := im_law_found
    obtain ⟨law_at_12, e12, hm⟩ := bd_some hm
    refine q_asg (T := []) dm (ev_ownIx o_law_found nt_law_found ts rfl (ev_neg (ev_int (K := K)))) e12 (fun v_law_at H12 s12 h_law_at => ?_)
    have fr0 := fr0.trans (Fr.same s12)
    have dm := dm.same s12
    have frl := frl.trans (Fr.same s12)
    have h_law_row := ((tL (tT2 tRat tRat)) : Ty K (List (Rat × Rat))).mono (S := (p_law_found :: (p_law_numbers :: S))) (Fr.same s12) h_law_row
    have h_law_off_by := (tInt : Ty K Int).mono (S := (p_law_found :: (p_law_numbers :: S))) (Fr.same s12) h_law_off_by
    have h_law_pins := ((tL tInt) : Ty K (List Int)).mono (S := (p_law_found :: (p_law_numbers :: S))) (Fr.same s12) h_law_pins
    have h_law_most := (tInt : Ty K Int).mono (S := (p_law_found :: (p_law_numbers :: S))) (Fr.same s12) h_law_most
    have o_law_numbers := o_law_numbers.same s12
    have o_law_found := o_law_found.same s12
    have h_law_at : (tInt : Ty K Int).rp (p_law_found :: (p_law_numbers :: S)) H12 v_law_at law_at_12 := h_law_at
    obtain ⟨law_good_14, e14, hm⟩ := bd_some hm
    refine q_asg (T := []) dm (ev_new (ev_lcF (sr_r2 (K := K) (ev_op (od_add (K := K)) (ev_var ts h_law_at rfl) (ev_int (K := K))) (ev_lenL (ev_var ts h_law_row rfl))) (fun v => by rfl) (fun law_k_13 v_law_k H2' H' p' fr' nD' sm' h_law_k => by have h_law_row := ((tL (tT2 tRat tRat)) : Ty K (List (Rat × Rat))).mono (Fr.same sm') (((tL (tT2 tRat tRat)) : Ty K (List (Rat × Rat))).ext (S := (p_law_found :: (p_law_numbers :: S))) nD' (((tL (tT2 tRat tRat)) : Ty K (List (Rat × Rat))).mono (Fr.sub ts fr') h_law_row)); have h_law_off_by := (tInt : Ty K Int).mono (Fr.same sm') ((tInt : Ty K Int).ext (S := (p_law_found :: (p_law_numbers :: S))) nD' ((tInt : Ty K Int).mono (Fr.sub ts fr') h_law_off_by)); have h_law_pins := ((tL tInt) : Ty K (List Int)).mono (Fr.same sm') (((tL tInt) : Ty K (List Int)).ext (S := (p_law_found :: (p_law_numbers :: S))) nD' (((tL tInt) : Ty K (List Int)).mono (Fr.sub ts fr') h_law_pins)); have h_law_most := (tInt : Ty K Int).mono (Fr.same sm') ((tInt : Ty K Int).ext (S := (p_law_found :: (p_law_numbers :: S))) nD' ((tInt : Ty K Int).mono (Fr.sub ts fr') h_law_most)); have h_law_at := (tInt : Ty K Int).mono (Fr.same sm') ((tInt : Ty K Int).ext (S := (p_law_found :: (p_law_numbers :: S))) nD' ((tInt : Ty K Int).mono (Fr.sub ts fr') h_law_at)); have ts0' := ts; have ts : Sub [] (p' :: (p_law_found :: (p_law_numbers :: S))) := (fun a m => by simp at m);  have o_law_numbers := ((o_law_numbers.fr fr' ts0' nt_law_numbers).ext nD').same sm'; have nt_law_numbers : p_law_numbers ∉ [] := (by simp); have o_law_found := ((o_law_found.fr fr' ts0' nt_law_found).ext nD').same sm'; have nt_law_found : p_law_found ∉ [] := (by simp); exact (eb_test (K := K) (ev_op (od_eqI (K := K)) (ev_ownIx o_law_numbers nt_law_numbers ts rfl (ev_var ts h_law_k rfl)) (ev_op (od_sub (K := K)) (ev_ownIx o_law_numbers nt_law_numbers ts rfl (ev_var ts h_law_at rfl)) (ev_int (K := K)))))) (fun law_k_13 v_law_k H2' H' p' fr' nD' sm' h_law_k => by have h_law_row := ((tL (tT2 tRat tRat)) : Ty K (List (Rat × Rat))).mono (Fr.same sm') (((tL (tT2 tRat tRat)) : Ty K (List (Rat × Rat))).ext (S := (p_law_found :: (p_law_numbers :: S))) nD' (((tL (tT2 tRat tRat)) : Ty K (List (Rat × Rat))).mono (Fr.sub ts fr') h_law_row)); have h_law_off_by := (tInt : Ty K Int).mono (Fr.same sm') ((tInt : Ty K Int).ext (S := (p_law_found :: (p_law_numbers :: S))) nD' ((tInt : Ty K Int).mono (Fr.sub ts fr') h_law_off_by)); have h_law_pins := ((tL tInt) : Ty K (List Int)).mono (Fr.same sm') (((tL tInt) : Ty K (List Int)).ext (S := (p_law_found :: (p_law_numbers :: S))) nD' (((tL tInt) : Ty K (List Int)).mono (Fr.sub ts fr') h_law_pins)); have h_law_most := (tInt : Ty K Int).mono (Fr.same sm') ((tInt : Ty K Int).ext (S := (p_law_found :: (p_law_numbers :: S))) nD' ((tInt : Ty K Int).mono (Fr.sub ts fr') h_law_most)); have h_law_at := (tInt : Ty K Int).mono (Fr.same sm') ((tInt : Ty K Int).ext (S := (p_law_found :: (p_law_numbers :: S))) nD' ((tInt : Ty K Int).mono (Fr.sub ts fr') h_law_at)); have ts0' := ts; have ts : Sub [] (p' :: (p_law_found :: (p_law_numbers :: S))) := (fun a m => by simp at m);  have o_law_numbers := ((o_law_numbers.fr fr' ts0' nt_law_numbers).ext nD').same sm'; have nt_law_numbers : p_law_numbers ∉ [] := (by simp); have o_law_found := ((o_law_found.fr fr' ts0' nt_law_found).ext nD').same sm'; have nt_law_found : p_law_found ∉ [] := (by simp); exact (ev_var ts h_law_k rfl)))) e14 (fun v_law_good H14 s14 h_law_good => ?_)
    have fr0 := fr0.trans (Fr.same s14)
    have dm := dm.same s14
    have frl := frl.trans (Fr.same s14)
    have h_law_row := ((tL (tT2 tRat tRat)) : Ty K (List (Rat × Rat))).mono (S := (p_law_found :: (p_law_numbers :: S))) (Fr.same s14) h_law_row
    have h_law_off_by := (tInt : Ty K Int).mono (S := (p_law_found :: (p_law_numbers :: S))) (Fr.same s14) h_law_off_by
    have h_law_pins := ((tL tInt) : Ty K (List Int)).mono (S := (p_law_found :: (p_law_numbers :: S))) (Fr.same s14) h_law_pins
    have h_law_most := (tInt : Ty K Int).mono (S := (p_law_found :: (p_law_numbers :: S))) (Fr.same s14) h_law_most
    have o_law_numbers := o_law_numbers.same s14
    have o_law_found := o_law_found.same s14
    have h_law_at := (tInt : Ty K Int).mono (S := (p_law_found :: (p_law_numbers :: S))) (Fr.same s14) h_law_at
    have h_law_good : ((tL tInt) : Ty K (List Int)).rp (p_law_found :: (p_law_numbers :: S)) H14 v_law_good law_good_14 := h_law_good
    obtain ⟨a16, e16, hm⟩ := bd_some hm
    obtain ⟨law_found_17, f16, hm⟩ := bd_some hm
    refine l_app (T := []) dm o_law_found im_law_found nt_law_found ts rfl (ev_op od_ixL (ev_new (ev_lcF (sr_list (ev_var ts h_law_good rfl)) (fun v => by rfl) (fun law_k_15 v_law_k H2' H' p' fr' nD' sm' h_law_k => by have h_law_row := ((tL (tT2 tRat tRat)) : Ty K (List (Rat × Rat))).mono (Fr.same sm') (((tL (tT2 tRat tRat)) : Ty K (List (Rat × Rat))).ext (S := (p_law_found :: (p_law_numbers :: S))) nD' (((tL (tT2 tRat tRat)) : Ty K (List (Rat × Rat))).mono (Fr.sub ts fr') h_law_row)); have h_law_off_by := (tInt : Ty K Int).mono (Fr.same sm') ((tInt : Ty K Int).ext (S := (p_law_found :: (p_law_numbers :: S))) nD' ((tInt : Ty K Int).mono (Fr.sub ts fr') h_law_off_by)); have h_law_pins := ((tL tInt) : Ty K (List Int)).mono (Fr.same sm') (((tL tInt) : Ty K (List Int)).ext (S := (p_law_found :: (p_law_numbers :: S))) nD' (((tL tInt) : Ty K (List Int)).mono (Fr.sub ts fr') h_law_pins)); have h_law_most := (tInt : Ty K Int).mono (Fr.same sm') ((tInt : Ty K Int).ext (S := (p_law_found :: (p_law_numbers :: S))) nD' ((tInt : Ty K Int).mono (Fr.sub ts fr') h_law_most)); have h_law_at := (tInt : Ty K Int).mono (Fr.same sm') ((tInt : Ty K Int).ext (S := (p_law_found :: (p_law_numbers :: S))) nD' ((tInt : Ty K Int).mono (Fr.sub ts fr') h_law_at)); have h_law_good := ((tL tInt) : Ty K (List Int)).mono (Fr.same sm') (((tL tInt) : Ty K (List Int)).ext (S := (p_law_found :: (p_law_numbers :: S))) nD' (((tL tInt) : Ty K (List Int)).mono (Fr.sub ts fr') h_law_good)); have ts0' := ts; have ts : Sub [] (p' :: (p_law_found :: (p_law_numbers :: S))) := (fun a m => by simp at m);  have o_law_numbers := ((o_law_numbers.fr fr' ts0' nt_law_numbers).ext nD').same sm'; have nt_law_numbers : p_law_numbers ∉ [] := (by simp); have o_law_found := ((o_law_found.fr fr' ts0' nt_law_found).ext nD').same sm'; have nt_law_found : p_law_found ∉ [] := (by simp); exact (eb_B (K := K) (ev_call (ea_cons (ev_var ts h_law_row rfl) (ea_cons (ev_var ts h_law_at rfl) (ea_cons (ev_var ts h_law_k rfl) (ea_cons (ev_var ts h_law_off_by rfl) (ea_cons (ev_var ts h_law_pins rfl) ea_nil)))))))) (fun law_k_15 v_law_k H2' H' p' fr' nD' sm' h_law_k => by have h_law_row := ((tL (tT2 tRat tRat)) : Ty K (List (Rat × Rat))).mono (Fr.same sm') (((tL (tT2 tRat tRat)) : Ty K (List (Rat × Rat))).ext (S := (p_law_found :: (p_law_numbers :: S))) nD' (((tL (tT2 tRat tRat)) : Ty K (List (Rat × Rat))).mono (Fr.sub ts fr') h_law_row)); have h_law_off_by := (tInt : Ty K Int).mono (Fr.same sm') ((tInt : Ty K Int).ext (S := (p_law_found :: (p_law_numbers :: S))) nD' ((tInt : Ty K Int).mono (Fr.sub ts fr') h_law_off_by)); have h_law_pins := ((tL tInt) : Ty K (List Int)).mono (Fr.same sm') (((tL tInt) : Ty K (List Int)).ext (S := (p_law_found :: (p_law_numbers :: S))) nD' (((tL tInt) : Ty K (List Int)).mono (Fr.sub ts fr') h_law_pins)); have h_law_most := (tInt : Ty K Int).mono (Fr.same sm') ((tInt : Ty K Int).ext (S := (p_law_found :: (p_law_numbers :: S))) nD' ((tInt : Ty K Int).mono (Fr.sub ts fr') h_law_most)); have h_law_at := (tInt : Ty K Int).mono (Fr.same sm') ((tInt : Ty K Int).ext (S := (p_law_found :: (p_law_numbers :: S))) nD' ((tInt : Ty K Int).mono (Fr.sub ts fr') h_law_at)); have h_law_good := ((tL tInt) : Ty K (List Int)).mono (Fr.same sm') (((tL tInt) : Ty K (List Int)).ext (S := (p_law_found :: (p_law_numbers :: S))) nD' (((tL tInt) : Ty K (List Int)).mono (Fr.sub ts fr') h_law_good)); have ts0' := ts; have ts : Sub [] (p' :: (p_law_found :: (p_law_numbers :: S))) := (fun a m => by simp at m);  have o_law_numbers := ((o_law_numbers.fr fr' ts0' nt_law_numbers).ext nD').same sm'; have nt_law_numbers : p_law_numbers ∉ [] := (by simp); have o_law_found := ((o_law_found.fr fr' ts0' nt_law_found).ext nD').same sm'; have nt_law_found : p_law_found ∉ [] := (by simp); exact (ev_var ts h_law_k rfl)))) (ev_int (K := K))) e16 f16 (fun H16 s16 frx16 o_law_found => ?_)
    have fr0 := fr0.mut Dom.nil n0_law_found s16
    have frl := frl.trans (s16.fr iml_law_found)
    have dm := dm.fx frx16 s16
    have h_law_row := ((tL (tT2 tRat tRat)) : Ty K (List (Rat × Rat))).mono (S := (p_law_found :: (p_law_numbers :: S))) frx16 h_law_row
    have h_law_off_by := (tInt : Ty K Int).mono (S := (p_law_found :: (p_law_numbers :: S))) frx16 h_law_off_by
    have h_law_pins := ((tL tInt) : Ty K (List Int)).mono (S := (p_law_found :: (p_law_numbers :: S))) frx16 h_law_pins
    have h_law_most := (tInt : Ty K Int).mono (S := (p_law_found :: (p_law_numbers :: S))) frx16 h_law_most
    have o_law_numbers := o_law_numbers.mut frx16 s16 ne_law_numbers_law_found
    have h_law_at := (tInt : Ty K Int).mono (S := (p_law_found :: (p_law_numbers :: S))) frx16 h_law_at
    have h_law_good := ((tL tInt) : Ty K (List Int)).mono (S := (p_law_found :: (p_law_numbers :: S))) frx16 h_law_good
    cases hm
    exact ⟨_, rfl, frl, ⟨v_law_row, v_law_off_by, v_law_pins, v_law_most, _, _, _, _, _, rfl, fr0, dm, h_law_row, h_law_off_by, h_law_pins, h_law_most, o_law_numbers, o_law_found⟩⟩
  subst er
  have hm := hm11
  obtain ⟨v_law_row, v_law_off_by, v_law_pins, v_law_most, f_5, f_6, f_7, f_9, f_10, rfl, fr0, dm, h_law_row, h_law_off_by, h_law_pins, h_law_most, o_law_numbers, o_law_found⟩ := hI
  have fr0 := fr0.trans (Fr.same sw11)
  have dm := dm.same sw11
  have h_law_row := ((tL (tT2 tRat tRat)) : Ty K (List (Rat × Rat))).mono (S := (p_law_found :: (p_law_numbers :: S))) (Fr.same sw11) h_law_row
  have h_law_off_by := (tInt : Ty K Int).mono (S := (p_law_found :: (p_law_numbers :: S))) (Fr.same sw11) h_law_off_by
  have h_law_pins := ((tL tInt) : Ty K (List Int)).mono (S := (p_law_found :: (p_law_numbers :: S))) (Fr.same sw11) h_law_pins
  have h_law_most := (tInt : Ty K Int).mono (S := (p_law_found :: (p_law_numbers :: S))) (Fr.same sw11) h_law_most
  have o_law_numbers := o_law_numbers.same sw11
  have o_law_found := o_law_found.same sw11
  have sbz : Sub (p_law_found :: S) (p_law_found :: (p_law_numbers :: S)) := (sub_keep (sub_cons (fun a m => m)))
  have nfz : p_law_numbers ∉ (p_law_found :: S) := by first | exact (nmc ne_law_numbers_law_found ns_law_numbers) | (have h := ns_law_numbers; simp only [List.mem_cons, not_or] at h ⊢; grind)
  have h_law_numbers := o_law_numbers.frz sbz nfz
  have dm := dm.sub sbz
  have h_law_row := ((tL (tT2 tRat tRat)) : Ty K (List (Rat × Rat))).sub sbz h_law_row
  have h_law_off_by := (tInt : Ty K Int).sub sbz h_law_off_by
  have h_law_pins := ((tL tInt) : Ty K (List Int)).sub sbz h_law_pins
  have h_law_most := (tInt : Ty K Int).sub sbz h_law_most
  have o_law_found := o_law_found.sub sbz
  have im_law_found : p_law_found ∈ (p_law_found :: S) := (List.mem_cons_self ..)
  have ts : Sub [] (p_law_found :: S) := fun a m => by have h1 := ts a m; have h2 : a ≠ p_law_numbers := (fun e => nt_law_numbers (e ▸ m)); simp only [List.mem_cons] at h1 ⊢; grind
  have sub0 : Sub S (p_law_found :: S) := fun a m => by have h1 := sub0 a m; have h2 : a ≠ p_law_numbers := (fun e => nb_law_numbers (e ▸ m)); simp only [List.mem_cons] at h1 ⊢; grind
  have sbz : Sub S (p_law_found :: S) := (sub_cons (fun a m => m))
  have nfz : p_law_found ∉ S := by first | exact ns_law_found | (have h := ns_law_found; simp only [List.mem_cons, not_or] at h ⊢; grind)
  have h_law_found := o_law_found.frz sbz nfz
  have dm := dm.sub sbz
  have h_law_row := ((tL (tT2 tRat tRat)) : Ty K (List (Rat × Rat))).sub sbz h_law_row
  have h_law_off_by := (tInt : Ty K Int).sub sbz h_law_off_by
  have h_law_pins := ((tL tInt) : Ty K (List Int)).sub sbz h_law_pins
  have h_law_most := (tInt : Ty K Int).sub sbz h_law_most
  have h_law_numbers := ((tL tInt) : Ty K (List Int)).sub sbz h_law_numbers
  have ts : Sub [] S := fun a m => by have h1 := ts a m; have h2 : a ≠ p_law_found := (fun e => nt_law_found (e ▸ m)); simp only [List.mem_cons] at h1 ⊢; grind
  have sub0 : Sub S S := fun a m => by have h1 := sub0 a m; have h2 : a ≠ p_law_found := (fun e => nb_law_found (e ▸ m)); simp only [List.mem_cons] at h1 ⊢; grind
  have er := hm
  exact q_ret (T := []) dm (ev_tup2 (ev_var ts h_law_found rfl) (ev_var ts h_law_numbers rfl)) er (fun v H19 s19 hv => q v H19 (fr0.trans (Fr.same s19)).toSame (((tT2 (tL tInt) (tL tInt)) : Ty K ((List Int) × (List Int))).sub (S := S) (H := H19) sub0 hv))
end
end G

namespace G
open PySem L2 M
section
variable {P : Program} {w : World} {K : PySem.W.Frag} {mg : Str → Option Value} {base : Heap}

def m_law_lists (d_law_row : (List (Rat × Rat))) (d_law_off_by : Int) (d_law_pins : (List Int)) : Option (List (Int × (List Int))) :=
  (bd (bd (bd (some d_law_row) fun x => some (x.length : Int)) fun x => bd (some (1 : Int)) fun y => some (x - y)) fun law_last_1 => (bd (some []) fun law_found_2 => (bd (bd (some (1 : Int)) fun x => bd (bd (some (2 : Int)) fun x => bd (bd (some (4 : Int)) fun x => bd (bd (some (8 : Int)) fun x => bd (bd (some (16 : Int)) fun x => bd (bd (some (32 : Int)) fun x => bd (bd (some (64 : Int)) fun x => bd (some []) fun y => some (x :: y)) fun y => some (x :: y)) fun y => some (x :: y)) fun y => some (x :: y)) fun y => some (x :: y)) fun y => some (x :: y)) fun y => some (x :: y)) fun law_powers_3 => (bd (bd (bd (some law_powers_3) fun x => bd (bd (some law_last_1) fun x => bd (some (1 : Int)) fun y => some (x - y)) fun y => atI x y) rng1?) fun xs12 => bd (loopC (ρ := (List (Int × (List Int)))) (fun s_4 law_number_4 => (bd (bd (bd (bd (some (0 : Int)) fun x => bd (some []) fun y => some (x :: y)) fun x => bd (bd (bd (some (1 : Int)) fun x => bd (some law_last_1) fun y => rng2? x y) fun xs => filL? (fun law_k_5 => (bd (bd (bd (some law_number_4) fun x => bd (bd (some law_powers_3) fun x => bd (bd (some law_k_5) fun x => bd (some (1 : Int)) fun y => some (x - y)) fun y => atI x y) fun y => fdiv? x y) fun x => bd (some (2 : Int)) fun y => fmod? x y) fun x => bd (some (1 : Int)) fun y => some (decide (x = y)))) (fun law_k_5 => (some law_k_5)) xs) fun y => cat? x y) fun x => bd (bd (some law_last_1) fun x => bd (some []) fun y => some (x :: y)) fun y => cat? x y) fun law_mine_6 => (bd (bd (bd (bd (bd (bd (some law_mine_6) fun x => some (x.length : Int)) fun x => bd (some (1 : Int)) fun y => some (x - y)) rng1?) fun xs => mapL? (fun law_k_7 => (bd (bd (some d_law_row) fun x => bd (bd (bd (some law_mine_6) fun x => bd (some law_k_7) fun y => atI x y) fun x => bd (bd (bd (some law_mine_6) fun x => bd (bd (some law_k_7) fun x => bd (some (1 : Int)) fun y => some (x + y)) fun y => atI x y) fun x => bd (bd (some d_law_off_by) fun x => bd (bd (some d_law_pins) fun x => bd (some ()) fun y => some (x, y)) fun y => some (x, y)) fun y => some (x, y)) fun y => some (x, y)) fun y => some (x, y)) fun a => m_law_free a.1 a.2.1 a.2.2.1 a.2.2.2.1 a.2.2.2.2.1)) xs) fun x => some (x.all id)) fun c8 => (bd (if c8 then (bd (bd (bd (some law_mine_6) fun x => some (x.length : Int)) fun x => bd (some law_mine_6) fun y => some (x, y)) fun a9 => (bd (app? s_4 a9) fun law_found_10 => some law_found_10)) else some s_4) fun j11 => some (Ct.go j11))))) xs12 law_found_2) fun r_4 => match r_4 with | .ret y => some y | .go t_4 => (bd (some t_4) fun x => some (sortBy ltPL x)) | .brk _ => none))))
abbrev sp_law_lists (K : PySem.W.Frag) : Sp := spF (K := K) (aCons (tL (tT2 tRat tRat)) (aCons tInt (aCons (tL tInt) aNil))) (fun S => nw (K := K) (tT2 tInt (tL tInt)) S) (fun a => m_law_lists a.1 a.2.1 a.2.2.1)
theorem ok_law_lists (ev : Env K mg) : FnOk P w K mg base CX0 5 ev.f_law_lists ev.d_law_lists p_law_lists (sp_law_lists K) := by
  refine ev.A_law_lists.F.ok sc_law_lists (fun vs H Q E h => ?_) (fun cdv A outer s H0 vs Q E hr h => ?_)
  · obtain ⟨S, ⟨d_law_row, d_law_off_by, d_law_pins, _⟩, y, _, ⟨v_law_row, _, rfl, h_law_row, v_law_off_by, _, rfl, h_law_off_by, v_law_pins, _, rfl, h_law_pins, rfl⟩, _⟩ := h
    rfl
  obtain ⟨S, ⟨d_law_row, d_law_off_by, d_law_pins, _⟩, y, dm, ⟨v_law_row, _, rfl, h_law_row, v_law_off_by, _, rfl, h_law_off_by, v_law_pins, _, rfl, h_law_pins, rfl⟩, hm, q⟩ := h
  have ts : Sub [] S := fun a m => by simp at m
  have fr0 := Fr.refl (T := []) H0
  have sub0 : Sub S S := fun a m => m
  refine ⟨_, (pss_cons (ps_set (i := 3) sc_law_lists.nd rfl (Or.inl rfl) (pe_op op_sub (pe_callB call_len_seq (by rfl) ev.B.len_ PySem.boot_len (pa_cons (pv 0) pa_nil)) pe_int))
    (pss_cons (ps_set (i := 4) sc_law_lists.nd rfl (Or.inl rfl) (pe_lst pa_nil))
    (pss_cons (ps_set (i := 5) sc_law_lists.nd rfl (Or.inr rfl) (pe_lst (pa_cons pe_int (pa_cons pe_int (pa_cons pe_int (pa_cons pe_int (pa_cons pe_int (pa_cons pe_int (pa_cons pe_int pa_nil)))))))))
    (pss_cons (ps_for PassesOwn.never rfl (pi_range1 rfl ev.B.range_ (pa_cons (pe_ix ix_list (pv 5) (pe_op op_sub (pv 3) pe_int) (fun _ _ => rfl)) pa_nil)) (pg_name (i := 6) sc_law_lists.nd rfl (Or.inr rfl))
    (pss_cons (ps_set (i := 7) sc_law_lists.nd rfl (Or.inr rfl) (pe_op op_cat (pe_op op_cat (pe_lst (pa_cons pe_int pa_nil)) (pe_lc (own := [("_law_k", 8)]) (g := gName 8) (by rfl) sc_law_lists.nd (pi_range2 rfl ev.B.range_ (pa_cons pe_int (pa_cons (pv 3) pa_nil))) (blkOk_by (own := [("_law_k", 8)]) (N := n_law_lists) (sc := defScope s_law_lists) (by decide +kernel)) (fun _ _ _ _ _ => pg_name (i := 8) sc_law_lists.nd rfl (Or.inl rfl)) (fun _ _ _ _ _ => (pts_one (pt_cmpR op_eq (pe_op op_modN (pe_op op_fdivZ (pv 6) (pe_ix (show IxR _ (rIxL K) from ix_list) (pv 5) (pe_op op_sub (pv 8) pe_int) (fun _ _ => rfl))) pe_int) pe_int (nomark _)))) (fun _ _ _ _ _ => (pv 8)))) (pe_lst (pa_cons (pv 3) pa_nil))))
    (pss_one (ps_if (pt_val (pe_callB (cr_all rfl) (by rfl) ev.B.all_ (by decide +kernel) (pa_cons (pe_lc (own := [("_law_k", 8)]) (g := gName 8) (tt := tYes) (by rfl) sc_law_lists.nd (pi_range1 rfl ev.B.range_ (pa_cons (pe_op op_sub (pe_callB call_len_seq (by rfl) ev.B.len_ PySem.boot_len (pa_cons (pv 7) pa_nil)) pe_int) pa_nil)) (blkOk_by (own := [("_law_k", 8)]) (N := n_law_lists) (sc := defScope s_law_lists) (by decide +kernel)) (fun _ _ _ _ _ => pg_name (i := 8) sc_law_lists.nd rfl (Or.inl rfl)) (fun _ _ _ _ _ => pts_nil) (fun _ _ _ _ _ => (pe_call (ok_law_free ev) (hr.mono (by decide)) (by rfl) ev.A_law_free.m ev.A_law_free.F.kp ev.A_law_free.b .nil pass0 (pa_cons (pv 0) (pa_cons (pe_ix (show IxR _ (rIxL K) from ix_list) (pv 7) (pv 8) (fun _ _ => rfl)) (pa_cons (pe_ix (show IxR _ (rIxL K) from ix_list) (pv 7) (pe_op op_add (pv 8) pe_int) (fun _ _ => rfl)) (pa_cons (pv 1) (pa_cons (pv 2) pa_nil)))))))) pa_nil)))
    (pss_one (ps_expr (pe_bm PySem.F.plainAttrs_list PySem.F.slot_list_append PySem.F.type_list_append mt_append (pv 4) (pa_cons (pe_tup (pa_cons (pe_callB call_len_seq (by rfl) ev.B.len_ PySem.boot_len (pa_cons (pv 7) pa_nil)) (pa_cons (pv 7) pa_nil))) pa_nil)))) pss_nil))))
    (pss_one (ps_ret (pe_callB (cr_sortA hr.units65) (by rfl) ev.B.sorted_ (by decide +kernel) (pa_cons (pv 4) pa_nil)))))))), ?_⟩
  dsimp only [m_law_lists] at hm
  obtain ⟨law_last_1, e1, hm⟩ := bd_some hm
  refine q_asg (T := []) dm (ev_op (od_sub (K := K)) (ev_lenL (ev_var ts h_law_row rfl)) (ev_int (K := K))) e1 (fun v_law_last H1 s1 h_law_last => ?_)
  have fr0 := fr0.trans (Fr.same s1)
  have dm := dm.same s1
  have h_law_row := ((tL (tT2 tRat tRat)) : Ty K (List (Rat × Rat))).mono (S := S) (Fr.same s1) h_law_row
  have h_law_off_by := (tInt : Ty K Int).mono (S := S) (Fr.same s1) h_law_off_by
  have h_law_pins := ((tL tInt) : Ty K (List Int)).mono (S := S) (Fr.same s1) h_law_pins
  have h_law_last : (tInt : Ty K Int).rp S H1 v_law_last law_last_1 := h_law_last
  obtain ⟨law_found_2, e2, hm⟩ := bd_some hm
  refine q_asg (T := []) dm (ev_lst0 (a := ((tT2 tInt (tL tInt)) : Ty K (Int × (List Int))))) e2 (fun v_law_found H2 s2 hx => ?_)
  obtain ⟨p_law_found, rfl, np_law_found, o_law_found⟩ := hx
  have ns_law_found : p_law_found ∉ S := dm.not_mem np_law_found
  have nb_law_found : p_law_found ∉ S := fun m => ns_law_found (sub0 _ m)
  have n0_law_found := fr_back fr0 Dom.nil np_law_found
  have nt_law_found := (Dom.nil (H := H0)).not_mem n0_law_found
  have fr0 := fr0.trans (Fr.same s2)
  have h_law_row := ((tL (tT2 tRat tRat)) : Ty K (List (Rat × Rat))).mono (Fr.same s2) (((tL (tT2 tRat tRat)) : Ty K (List (Rat × Rat))).ext (S := S) np_law_found h_law_row)
  have h_law_off_by := (tInt : Ty K Int).mono (Fr.same s2) ((tInt : Ty K Int).ext (S := S) np_law_found h_law_off_by)
  have h_law_pins := ((tL tInt) : Ty K (List Int)).mono (Fr.same s2) (((tL tInt) : Ty K (List Int)).ext (S := S) np_law_found h_law_pins)
  have h_law_last := (tInt : Ty K Int).mono (Fr.same s2) ((tInt : Ty K Int).ext (S := S) np_law_found h_law_last)
  have dm := (dm.same s2).cons o_law_found.choose_spec.1
  have ts := sub_cons (p := p_law_found) ts
  have sub0 := sub_cons (p := p_law_found) sub0
  have im_law_found : p_law_found ∈ p_law_found :: S := List.mem_cons_self ..
  obtain ⟨law_powers_3, e3, hm⟩ := bd_some hm
  refine q_asg (T := []) dm (ev_new (ev_lst (el_cons (ev_int (K := K)) (el_cons (ev_int (K := K)) (el_cons (ev_int (K := K)) (el_cons (ev_int (K := K)) (el_cons (ev_int (K := K)) (el_cons (ev_int (K := K)) (el_cons (ev_int (K := K)) el_nil))))))) (by decide))) e3 (fun v_law_powers H3 s3 h_law_powers => ?_)
  have fr0 := fr0.trans (Fr.same s3)
  have dm := dm.same s3
  have h_law_row := ((tL (tT2 tRat tRat)) : Ty K (List (Rat × Rat))).mono (S := (p_law_found :: S)) (Fr.same s3) h_law_row
  have h_law_off_by := (tInt : Ty K Int).mono (S := (p_law_found :: S)) (Fr.same s3) h_law_off_by
  have h_law_pins := ((tL tInt) : Ty K (List Int)).mono (S := (p_law_found :: S)) (Fr.same s3) h_law_pins
  have h_law_last := (tInt : Ty K Int).mono (S := (p_law_found :: S)) (Fr.same s3) h_law_last
  have o_law_found := o_law_found.same s3
  have h_law_powers : ((tL tInt) : Ty K (List Int)).rp (p_law_found :: S) H3 v_law_powers law_powers_3 := h_law_powers
  obtain ⟨xs12, e_xs12, hm⟩ := bd_some hm
  obtain ⟨r_4, el4, hm4⟩ := bd_some hm
  refine q_for_s (T := []) dm (sr_r1 (K := K) (ev_op od_ixL (ev_var ts h_law_powers rfl) (ev_op (od_sub (K := K)) (ev_var ts h_law_last rfl) (ev_int (K := K))))) e_xs12 el4 (fun s_4 σ' H' => ∃ v_law_row : V, ∃ v_law_off_by : V, ∃ v_law_pins : V, ∃ v_law_last : V, ∃ v_law_powers : V, ∃ f_6 : Option V, ∃ f_7 : Option V, ∃ f_8 : Option V, σ' = [some v_law_row, some v_law_off_by, some v_law_pins, some v_law_last, some (.ref p_law_found), some v_law_powers, f_6, f_7, f_8] ∧ Fr [] H0 H' ∧ Dom (p_law_found :: S) H' ∧ ((tL (tT2 tRat tRat)) : Ty K (List (Rat × Rat))).rp (p_law_found :: S) H' v_law_row d_law_row ∧ (tInt : Ty K Int).rp (p_law_found :: S) H' v_law_off_by d_law_off_by ∧ ((tL tInt) : Ty K (List Int)).rp (p_law_found :: S) H' v_law_pins d_law_pins ∧ (tInt : Ty K Int).rp (p_law_found :: S) H' v_law_last law_last_1 ∧ ((tL tInt) : Ty K (List Int)).rp (p_law_found :: S) H' v_law_powers law_powers_3 ∧ Own ((tT2 tInt (tL tInt)) : Ty K (Int × (List Int))) (p_law_found :: S) H' p_law_found s_4) (fun H4 s4 => ?_) (fun hd4 s_4 law_number_4 cr4 v_law_number σ' H' hI h_law_number hx4 hm hret4 hbrk4 => ?_) (fun t_4 σ' H' er hI => ?_)
  · skip
    have fr0 := fr0.trans (Fr.same s4)
    have dm := dm.same s4
    have h_law_row := ((tL (tT2 tRat tRat)) : Ty K (List (Rat × Rat))).mono (S := (p_law_found :: S)) (Fr.same s4) h_law_row
    have h_law_off_by := (tInt : Ty K Int).mono (S := (p_law_found :: S)) (Fr.same s4) h_law_off_by
    have h_law_pins := ((tL tInt) : Ty K (List Int)).mono (S := (p_law_found :: S)) (Fr.same s4) h_law_pins
    have h_law_last := (tInt : Ty K Int).mono (S := (p_law_found :: S)) (Fr.same s4) h_law_last
    have h_law_powers := ((tL tInt) : Ty K (List Int)).mono (S := (p_law_found :: S)) (Fr.same s4) h_law_powers
    have o_law_found := o_law_found.same s4
    exact ⟨v_law_row, v_law_off_by, v_law_pins, v_law_last, v_law_powers, _, _, _, rfl, fr0, dm, h_law_row, h_law_off_by, h_law_pins, h_law_last, h_law_powers, o_law_found⟩
  · skip
    obtain ⟨v_law_row, v_law_off_by, v_law_pins, v_law_last, v_law_powers, f_6, f_7, f_8, rfl, fr0, dm, h_law_row, h_law_off_by, h_law_pins, h_law_last, h_law_powers, o_law_found⟩ := hI
    let HL := H'
    have freshl : ∀ a ∈ (p_law_found :: S), a ∉ (p_law_found :: S) → H' a = none := fun a m n => absurd m n
    have frl : Fr (p_law_found :: S) HL H' := Fr.refl (T := (p_law_found :: S)) H'
    have tsl := ts
    have subl : Sub (p_law_found :: S) (p_law_found :: S) := fun a m => m
    have iml_law_found := im_law_found
    have h_law_number : (tInt : Ty K Int).rp (p_law_found :: S) H' v_law_number law_number_4 := h_law_number
    obtain ⟨law_mine_6, e6, hm⟩ := bd_some hm
    refine q_asg (T := []) dm (ev_new (ev_op od_cat (ev_new (ev_op od_cat (ev_new (ev_lst (el_cons (ev_int (K := K)) el_nil) (by decide))) (ev_new (ev_lcF (sr_r2 (K := K) (ev_int (K := K)) (ev_var ts h_law_last rfl)) (fun v => by rfl) (fun law_k_5 v_law_k H2' H' p' fr' nD' sm' h_law_k => by have h_law_row := ((tL (tT2 tRat tRat)) : Ty K (List (Rat × Rat))).mono (Fr.same sm') (((tL (tT2 tRat tRat)) : Ty K (List (Rat × Rat))).ext (S := (p_law_found :: S)) nD' (((tL (tT2 tRat tRat)) : Ty K (List (Rat × Rat))).mono (Fr.sub ts fr') h_law_row)); have h_law_off_by := (tInt : Ty K Int).mono (Fr.same sm') ((tInt : Ty K Int).ext (S := (p_law_found :: S)) nD' ((tInt : Ty K Int).mono (Fr.sub ts fr') h_law_off_by)); have h_law_pins := ((tL tInt) : Ty K (List Int)).mono (Fr.same sm') (((tL tInt) : Ty K (List Int)).ext (S := (p_law_found :: S)) nD' (((tL tInt) : Ty K (List Int)).mono (Fr.sub ts fr') h_law_pins)); have h_law_last := (tInt : Ty K Int).mono (Fr.same sm') ((tInt : Ty K Int).ext (S := (p_law_found :: S)) nD' ((tInt : Ty K Int).mono (Fr.sub ts fr') h_law_last)); have h_law_powers := ((tL tInt) : Ty K (List Int)).mono (Fr.same sm') (((tL tInt) : Ty K (List Int)).ext (S := (p_law_found :: S)) nD' (((tL tInt) : Ty K (List Int)).mono (Fr.sub ts fr') h_law_powers)); have h_law_number := (tInt : Ty K Int).mono (Fr.same sm') ((tInt : Ty K Int).ext (S := (p_law_found :: S)) nD' ((tInt : Ty K Int).mono (Fr.sub ts fr') h_law_number)); have ts0' := ts; have ts : Sub [] (p' :: (p_law_found :: S)) := (fun a m => by simp at m);  have o_law_found := ((o_law_found.fr fr' ts0' nt_law_found).ext nD').same sm'; have nt_law_found : p_law_found ∉ [] := (by simp); exact (eb_test (K := K) (ev_op (od_eqI (K := K)) (ev_op (od_fmod (K := K)) (ev_op (od_fdiv (K := K)) (ev_var ts h_law_number rfl) (ev_op od_ixL (ev_var ts h_law_powers rfl) (ev_op (od_sub (K := K)) (ev_var ts h_law_k rfl) (ev_int (K := K))))) (ev_int (K := K))) (ev_int (K := K))))) (fun law_k_5 v_law_k H2' H' p' fr' nD' sm' h_law_k => by have h_law_row := ((tL (tT2 tRat tRat)) : Ty K (List (Rat × Rat))).mono (Fr.same sm') (((tL (tT2 tRat tRat)) : Ty K (List (Rat × Rat))).ext (S := (p_law_found :: S)) nD' (((tL (tT2 tRat tRat)) : Ty K (List (Rat × Rat))).mono (Fr.sub ts fr') h_law_row)); have h_law_off_by := (tInt : Ty K Int).mono (Fr.same sm') ((tInt : Ty K Int).ext (S := (p_law_found :: S)) nD' ((tInt : Ty K Int).mono (Fr.sub ts fr') h_law_off_by)); have h_law_pins := ((tL tInt) : Ty K (List Int)).mono (Fr.same sm') (((tL tInt) : Ty K (List Int)).ext (S := (p_law_found :: S)) nD' (((tL tInt) : Ty K (List Int)).mono (Fr.sub ts fr') h_law_pins)); have h_law_last := (tInt : Ty K Int).mono (Fr.same sm') ((tInt : Ty K Int).ext (S := (p_law_found :: S)) nD' ((tInt : Ty K Int).mono (Fr.sub ts fr') h_law_last)); have h_law_powers := ((tL tInt) : Ty K (List Int)).mono (Fr.same sm') (((tL tInt) : Ty K (List Int)).ext (S := (p_law_found :: S)) nD' (((tL tInt) : Ty K (List Int)).mono (Fr.sub ts fr') h_law_powers)); have h_law_number := (tInt : Ty K Int).mono (Fr.same sm') ((tInt : Ty K Int).ext (S := (p_law_found :: S)) nD' ((tInt : Ty K Int).mono (Fr.sub ts fr') h_law_number)); have ts0' := ts; have ts : Sub [] (p' :: (p_law_found :: S)) := (fun a m => by simp at m);  have o_law_found := ((o_law_found.fr fr' ts0' nt_law_found).ext nD').same sm'; have nt_law_found : p_law_found ∉ [] := (by simp); exact (ev_var ts h_law_k rfl)))))) (ev_new (ev_lst (el_cons (ev_var ts h_law_last rfl) el_nil) (by decide))))) e6 (fun v_law_mine H6 s6 h_law_mine => ?_)
    have fr0 := fr0.trans (Fr.same s6)
    have dm := dm.same s6
    have frl := frl.trans (Fr.same s6)
    have h_law_row := ((tL (tT2 tRat tRat)) : Ty K (List (Rat × Rat))).mono (S := (p_law_found :: S)) (Fr.same s6) h_law_row
    have h_law_off_by := (tInt : Ty K Int).mono (S := (p_law_found :: S)) (Fr.same s6) h_law_off_by
    have h_law_pins := ((tL tInt) : Ty K (List Int)).mono (S := (p_law_found :: S)) (Fr.same s6) h_law_pins
    have h_law_last := (tInt : Ty K Int).mono (S := (p_law_found :: S)) (Fr.same s6) h_law_last
    have h_law_powers := ((tL tInt) : Ty K (List Int)).mono (S := (p_law_found :: S)) (Fr.same s6) h_law_powers
    have o_law_found := o_law_found.same s6
    have h_law_number := (tInt : Ty K Int).mono (S := (p_law_found :: S)) (Fr.same s6) h_law_number
    have h_law_mine : ((tL tInt) : Ty K (List Int)).rp (p_law_found :: S) H6 v_law_mine law_mine_6 := h_law_mine
    obtain ⟨c8, e8, hm⟩ := bd_some hm
    obtain ⟨j11, ej8, hm⟩ := bd_some hm
    refine seq_last (fun σ' H' => Fr (p_law_found :: S) HL H' ∧ ∃ v_law_row : V, ∃ v_law_off_by : V, ∃ v_law_pins : V, ∃ v_law_last : V, ∃ v_law_powers : V, ∃ v_law_number : V, ∃ v_law_mine : V, ∃ f_8 : Option V, σ' = [some v_law_row, some v_law_off_by, some v_law_pins, some v_law_last, some (.ref p_law_found), some v_law_powers, some v_law_number, some v_law_mine, f_8] ∧ Fr [] H0 H' ∧ Dom (p_law_found :: S) H' ∧ ((tL (tT2 tRat tRat)) : Ty K (List (Rat × Rat))).rp (p_law_found :: S) H' v_law_row d_law_row ∧ (tInt : Ty K Int).rp (p_law_found :: S) H' v_law_off_by d_law_off_by ∧ ((tL tInt) : Ty K (List Int)).rp (p_law_found :: S) H' v_law_pins d_law_pins ∧ (tInt : Ty K Int).rp (p_law_found :: S) H' v_law_last law_last_1 ∧ ((tL tInt) : Ty K (List Int)).rp (p_law_found :: S) H' v_law_powers law_powers_3 ∧ (tInt : Ty K Int).rp (p_law_found :: S) H' v_law_number law_number_4 ∧ ((tL tInt) : Ty K (List Int)).rp (p_law_found :: S) H' v_law_mine law_mine_6 ∧ Own ((tT2 tInt (tL tInt)) : Ty K (Int × (List Int))) (p_law_found :: S) H' p_law_found j11) (fun σ' H' hI => ?_) (fun rest => ?_)
    · skip
      obtain ⟨frl, v_law_row, v_law_off_by, v_law_pins, v_law_last, v_law_powers, v_law_number, v_law_mine, f_8, rfl, fr0, dm, h_law_row, h_law_off_by, h_law_pins, h_law_last, h_law_powers, h_law_number, h_law_mine, o_law_found⟩ := hI
      cases hm
      exact ⟨_, rfl, frl, ⟨v_law_row, v_law_off_by, v_law_pins, v_law_last, v_law_powers, _, _, _, rfl, fr0, dm, h_law_row, h_law_off_by, h_law_pins, h_law_last, h_law_powers, o_law_found⟩⟩
    have hm := ej8
    refine l_if (T := []) dm (eb_B (K := K) (ev_all (ev_new (ev_lc (sr_r1 (K := K) (ev_op (od_sub (K := K)) (ev_lenL (ev_var ts h_law_mine rfl)) (ev_int (K := K)))) (fun v => by rfl) (fun law_k_7 v_law_k H2' H' p' fr' nD' sm' h_law_k => by have h_law_row := ((tL (tT2 tRat tRat)) : Ty K (List (Rat × Rat))).mono (Fr.same sm') (((tL (tT2 tRat tRat)) : Ty K (List (Rat × Rat))).ext (S := (p_law_found :: S)) nD' (((tL (tT2 tRat tRat)) : Ty K (List (Rat × Rat))).mono (Fr.sub ts fr') h_law_row)); have h_law_off_by := (tInt : Ty K Int).mono (Fr.same sm') ((tInt : Ty K Int).ext (S := (p_law_found :: S)) nD' ((tInt : Ty K Int).mono (Fr.sub ts fr') h_law_off_by)); have h_law_pins := ((tL tInt) : Ty K (List Int)).mono (Fr.same sm') (((tL tInt) : Ty K (List Int)).ext (S := (p_law_found :: S)) nD' (((tL tInt) : Ty K (List Int)).mono (Fr.sub ts fr') h_law_pins)); have h_law_last := (tInt : Ty K Int).mono (Fr.same sm') ((tInt : Ty K Int).ext (S := (p_law_found :: S)) nD' ((tInt : Ty K Int).mono (Fr.sub ts fr') h_law_last)); have h_law_powers := ((tL tInt) : Ty K (List Int)).mono (Fr.same sm') (((tL tInt) : Ty K (List Int)).ext (S := (p_law_found :: S)) nD' (((tL tInt) : Ty K (List Int)).mono (Fr.sub ts fr') h_law_powers)); have h_law_number := (tInt : Ty K Int).mono (Fr.same sm') ((tInt : Ty K Int).ext (S := (p_law_found :: S)) nD' ((tInt : Ty K Int).mono (Fr.sub ts fr') h_law_number)); have h_law_mine := ((tL tInt) : Ty K (List Int)).mono (Fr.same sm') (((tL tInt) : Ty K (List Int)).ext (S := (p_law_found :: S)) nD' (((tL tInt) : Ty K (List Int)).mono (Fr.sub ts fr') h_law_mine)); have ts0' := ts; have ts : Sub [] (p' :: (p_law_found :: S)) := (fun a m => by simp at m);  have o_law_found := ((o_law_found.fr fr' ts0' nt_law_found).ext nD').same sm'; have nt_law_found : p_law_found ∉ [] := (by simp); exact (ev_call (ea_cons (ev_var ts h_law_row rfl) (ea_cons (ev_op od_ixL (ev_var ts h_law_mine rfl) (ev_var ts h_law_k rfl)) (ea_cons (ev_op od_ixL (ev_var ts h_law_mine rfl) (ev_op (od_add (K := K)) (ev_var ts h_law_k rfl) (ev_int (K := K)))) (ea_cons (ev_var ts h_law_off_by rfl) (ea_cons (ev_var ts h_law_pins rfl) ea_nil))))))))))) e8 (fun hc H8 s8 => ?_) (fun hc H8 s8 => ?_)
    · skip
      subst hc
      have hm := if_t hm
      have fr0 := fr0.trans (Fr.same s8)
      have dm := dm.same s8
      have frl := frl.trans (Fr.same s8)
      have h_law_row := ((tL (tT2 tRat tRat)) : Ty K (List (Rat × Rat))).mono (S := (p_law_found :: S)) (Fr.same s8) h_law_row
      have h_law_off_by := (tInt : Ty K Int).mono (S := (p_law_found :: S)) (Fr.same s8) h_law_off_by
      have h_law_pins := ((tL tInt) : Ty K (List Int)).mono (S := (p_law_found :: S)) (Fr.same s8) h_law_pins
      have h_law_last := (tInt : Ty K Int).mono (S := (p_law_found :: S)) (Fr.same s8) h_law_last
      have h_law_powers := ((tL tInt) : Ty K (List Int)).mono (S := (p_law_found :: S)) (Fr.same s8) h_law_powers
      have o_law_found := o_law_found.same s8
      have h_law_number := (tInt : Ty K Int).mono (S := (p_law_found :: S)) (Fr.same s8) h_law_number
      have h_law_mine := ((tL tInt) : Ty K (List Int)).mono (S := (p_law_found :: S)) (Fr.same s8) h_law_mine
      obtain ⟨a9, e9, hm⟩ := bd_some hm
      obtain ⟨law_found_10, f9, hm⟩ := bd_some hm
      refine l_app (T := []) dm o_law_found im_law_found nt_law_found ts rfl (ev_tup2 (ev_lenL (ev_var ts h_law_mine rfl)) (ev_var ts h_law_mine rfl)) e9 f9 (fun H9 s9 frx9 o_law_found => ?_)
      have fr0 := fr0.mut Dom.nil n0_law_found s9
      have frl := frl.trans (s9.fr iml_law_found)
      have dm := dm.fx frx9 s9
      have h_law_row := ((tL (tT2 tRat tRat)) : Ty K (List (Rat × Rat))).mono (S := (p_law_found :: S)) frx9 h_law_row
      have h_law_off_by := (tInt : Ty K Int).mono (S := (p_law_found :: S)) frx9 h_law_off_by
      have h_law_pins := ((tL tInt) : Ty K (List Int)).mono (S := (p_law_found :: S)) frx9 h_law_pins
      have h_law_last := (tInt : Ty K Int).mono (S := (p_law_found :: S)) frx9 h_law_last
      have h_law_powers := ((tL tInt) : Ty K (List Int)).mono (S := (p_law_found :: S)) frx9 h_law_powers
      have h_law_number := (tInt : Ty K Int).mono (S := (p_law_found :: S)) frx9 h_law_number
      have h_law_mine := ((tL tInt) : Ty K (List Int)).mono (S := (p_law_found :: S)) frx9 h_law_mine
      cases hm
      exact rest _ _ ⟨frl, v_law_row, v_law_off_by, v_law_pins, v_law_last, v_law_powers, v_law_number, v_law_mine, _, rfl, fr0, dm, h_law_row, h_law_off_by, h_law_pins, h_law_last, h_law_powers, h_law_number, h_law_mine, o_law_found⟩
    · skip
      subst hc
      have hm := if_f hm
      have fr0 := fr0.trans (Fr.same s8)
      have dm := dm.same s8
      have frl := frl.trans (Fr.same s8)
      have h_law_row := ((tL (tT2 tRat tRat)) : Ty K (List (Rat × Rat))).mono (S := (p_law_found :: S)) (Fr.same s8) h_law_row
      have h_law_off_by := (tInt : Ty K Int).mono (S := (p_law_found :: S)) (Fr.same s8) h_law_off_by
      have h_law_pins := ((tL tInt) : Ty K (List Int)).mono (S := (p_law_found :: S)) (Fr.same s8) h_law_pins
      have h_law_last := (tInt : Ty K Int).mono (S := (p_law_found :: S)) (Fr.same s8) h_law_last
      have h_law_powers := ((tL tInt) : Ty K (List Int)).mono (S := (p_law_found :: S)) (Fr.same s8) h_law_powers
      have o_law_found := o_law_found.same s8
      have h_law_number := (tInt : Ty K Int).mono (S := (p_law_found :: S)) (Fr.same s8) h_law_number
      have h_law_mine := ((tL tInt) : Ty K (List Int)).mono (S := (p_law_found :: S)) (Fr.same s8) h_law_mine
      cases hm
      exact rest _ _ ⟨frl, v_law_row, v_law_off_by, v_law_pins, v_law_last, v_law_powers, v_law_number, v_law_mine, _, rfl, fr0, dm, h_law_row, h_law_off_by, h_law_pins, h_law_last, h_law_powers, h_law_number, h_law_mine, o_law_found⟩
  subst er
  have hm := hm4
  obtain ⟨v_law_row, v_law_off_by, v_law_pins, v_law_last, v_law_powers, f_6, f_7, f_8, rfl, fr0, dm, h_law_row, h_law_off_by, h_law_pins, h_law_last, h_law_powers, o_law_found⟩ := hI
  have sbz : Sub S (p_law_found :: S) := (sub_cons (fun a m => m))
  have nfz : p_law_found ∉ S := by first | exact ns_law_found | (have h := ns_law_found; simp only [List.mem_cons, not_or] at h ⊢; grind)
  have h_law_found := o_law_found.frz sbz nfz
  have dm := dm.sub sbz
  have h_law_row := ((tL (tT2 tRat tRat)) : Ty K (List (Rat × Rat))).sub sbz h_law_row
  have h_law_off_by := (tInt : Ty K Int).sub sbz h_law_off_by
  have h_law_pins := ((tL tInt) : Ty K (List Int)).sub sbz h_law_pins
  have h_law_last := (tInt : Ty K Int).sub sbz h_law_last
  have h_law_powers := ((tL tInt) : Ty K (List Int)).sub sbz h_law_powers
  have ts : Sub [] S := fun a m => by have h1 := ts a m; have h2 : a ≠ p_law_found := (fun e => nt_law_found (e ▸ m)); simp only [List.mem_cons] at h1 ⊢; grind
  have sub0 : Sub S S := fun a m => by have h1 := sub0 a m; have h2 : a ≠ p_law_found := (fun e => nb_law_found (e ▸ m)); simp only [List.mem_cons] at h1 ⊢; grind
  have er := hm
  exact q_ret (T := []) dm (ev_sortBy (d := dT2 dInt (dL dInt)) (Nat.le_of_ble_eq_true rfl) lt_PL srt_PL (ev_var ts h_law_found rfl)) er (fun v H13 s13 hv => q v H13 (fr0.trans (Fr.same s13)).toSame (nwL.sub hv sub0 fr0 Dom.nil))
end
end G

namespace G
open PySem L2 M
section
variable {P : Program} {w : World} {K : PySem.W.Frag} {mg : Str → Option Value} {base : Heap}

def m_law (P : Bool → Prop) : Prop :=
  ((lf (bd (some (3 : Int)) rng1?)) fun xs20 => loopW (fun s_1 law_turn_1 K1 => ((callBW (fun a => m_law_spots a.1) (tup2W (opW (fun x y => some (x + y)) (lf (some (2 : Int))) (callBW drawW (lf (some (6 : Int))))) (lf (some ())))) fun law_row_2 => ((callBW (fun a => m_law_held a.1) (tup2W (lf (bd (some law_row_2) fun x => some (x.length : Int))) (lf (some ())))) fun law_pins_3 => ((callBW anyW (lf (bd (some (0 : Int)) fun x => bd (bd (some (1 : Int)) fun x => bd (bd (some (2 : Int)) fun x => bd (bd (some (3 : Int)) fun x => bd (bd (some (5 : Int)) fun x => bd (bd (some (9 : Int)) fun x => bd (some []) fun y => some (x :: y)) fun y => some (x :: y)) fun y => some (x :: y)) fun y => some (x :: y)) fun y => some (x :: y)) fun y => some (x :: y)))) fun law_off_by_4 => (lf (bd (some law_row_2) fun x => bd (some law_pins_3) fun y => some (x, y)) fun law_handed_5 => (lf (bd (bd (bd (some law_handed_5) fun x => some x.1) fun x => bd (bd (some law_off_by_4) fun x => bd (bd (bd (some law_handed_5) fun x => some x.2) fun x => bd (some ()) fun y => some (x, y)) fun y => some (x, y)) fun y => some (x, y)) fun a => m_kept a.1 a.2.1 a.2.2.1) fun law_told_6 => (lf (bd (bd (bd (bd (some law_told_6) fun x => bd (bd (bd (bd (bd (bd (some law_row_2) fun x => bd (bd (some law_off_by_4) fun x => bd (bd (some law_pins_3) fun x => bd (some ()) fun y => some (x, y)) fun y => some (x, y)) fun y => some (x, y)) fun a => m_law_lists a.1 a.2.1 a.2.2.1) fun x => bd (some (0 : Int)) fun y => atI x y) fun x => some x.2) fun x => bd (some ()) fun y => some (x, y)) fun y => some (x, y)) fun a => m_law_like a.1 a.2.1) fun x => some (!x)) fun x => if x then some true else (bd (some law_handed_5) fun x => bd (bd (some law_row_2) fun x => bd (some law_pins_3) fun y => some (x, y)) fun y => some (!decide (x = y)))) fun c7 => if c7 then (lf (some false) fun y => K1 (Ct.ret y)) else (lf (bd (bd (bd (some law_row_2) fun x => bd (bd (some law_off_by_4) fun x => bd (bd (some law_pins_3) fun x => bd (some ()) fun y => some (x, y)) fun y => some (x, y)) fun y => some (x, y)) fun a => m_law_fewest a.1 a.2.1 a.2.2.1) fun x => some x.2) fun law_numbers_8 => (lf (bd (bd (bd (bd (bd (bd (some law_handed_5) fun x => some x.1) fun x => bd (bd (some law_off_by_4) fun x => bd (bd (some law_pins_3) fun x => bd (some ()) fun y => some (x, y)) fun y => some (x, y)) fun y => some (x, y)) fun a => m_pieces_left a.1 a.2.1 a.2.2.1) fun x => bd (bd (some law_numbers_8) fun x => bd (some ()) fun y => some (x, y)) fun y => some (x, y)) fun a => m_law_like a.1 a.2.1) fun x => some (!x)) fun c9 => if c9 then (lf (some false) fun y => K1 (Ct.ret y)) else (lf (bd (bd (bd (some law_told_6) fun x => some (x.length : Int)) fun x => bd (bd (bd (some law_numbers_8) fun x => bd (some (0 : Int)) fun y => atI x y) fun x => bd (some (1 : Int)) fun y => some (x + y)) fun y => some (!decide (x = y))) fun x => if x then some true else (bd (bd (bd (some law_pins_3) fun xs => mapL? (fun law_at_10 => (bd (some law_at_10) fun x => bd (some law_told_6) fun y => some (decide (x ∈ y)))) xs) fun x => some (x.all id)) fun x => some (!x))) fun c11 => if c11 then (lf (some false) fun y => K1 (Ct.ret y)) else (lf (bd (bd (some law_pins_3) fun xs => mapL? (fun law_at_12 => (bd (bd (bd (some law_row_2) fun x => some (x.length : Int)) fun x => bd (some (1 : Int)) fun y => some (x - y)) fun x => bd (some law_at_12) fun y => some (x - y))) xs) fun x => some (sortBy ltI x)) fun law_back_13 => (lf (bd (bd (bd (bd (bd (some law_row_2) fun x => some x.reverse) fun x => bd (bd (some law_off_by_4) fun x => bd (bd (some law_back_13) fun x => bd (some ()) fun y => some (x, y)) fun y => some (x, y)) fun y => some (x, y)) fun a => m_kept a.1 a.2.1 a.2.2.1) fun x => some (x.length : Int)) fun x => bd (bd (some law_told_6) fun x => some (x.length : Int)) fun y => some (!decide (x = y))) fun c14 => if c14 then (lf (some false) fun y => K1 (Ct.ret y)) else (lf (bd (bd (bd (bd (some law_row_2) fun x => bd (bd (some law_off_by_4) fun x => bd (bd (some []) fun x => bd (some ()) fun y => some (x, y)) fun y => some (x, y)) fun y => some (x, y)) fun a => m_law_lists a.1 a.2.1 a.2.2.1) fun x => bd (some (0 : Int)) fun y => atI x y) fun x => some x.2) fun law_plain_15 => (lf (bd (bd (bd (bd (bd (bd (some law_row_2) fun x => bd (bd (some law_off_by_4) fun x => bd (some ([], ())) fun y => some (x, y)) fun y => some (x, y)) fun a => m_kept a.1 a.2.1 a.2.2.1) fun x => bd (bd (some law_plain_15) fun x => bd (some ()) fun y => some (x, y)) fun y => some (x, y)) fun a => m_law_like a.1 a.2.1) fun x => some (!x)) fun x => if x then some true else (bd (bd (bd (bd (bd (some law_row_2) fun x => bd (bd (some law_off_by_4) fun x => bd (bd (some []) fun x => bd (some ()) fun y => some (x, y)) fun y => some (x, y)) fun y => some (x, y)) fun a => m_kept a.1 a.2.1 a.2.2.1) fun x => bd (bd (some law_plain_15) fun x => bd (some ()) fun y => some (x, y)) fun y => some (x, y)) fun a => m_law_like a.1 a.2.1) fun x => some (!x))) fun c16 => if c16 then (lf (some false) fun y => K1 (Ct.ret y)) else (lf (some (1 : Int)) fun a17 => (lf (app? law_told_6 a17) fun law_told_18 => (lf (bd (bd (bd (some law_row_2) fun x => bd (bd (some law_off_by_4) fun x => bd (bd (bd (some law_told_18) fun xs => bd (some none) fun l => bd (bd (bd (some (1 : Int)) fun x => some (-x)) fun i => some (some i)) fun h => some (cutD xs l h)) fun x => bd (bd (some law_numbers_8) fun x => bd (bd (some law_pins_3) fun x => bd (some ()) fun y => some (x, y)) fun y => some (x, y)) fun y => some (x, y)) fun y => some (x, y)) fun y => some (x, y)) fun a => m_kept_holds a.1 a.2.1 a.2.2.1 a.2.2.2.1 a.2.2.2.2.1) fun x => bd (some true) fun y => some (!decide (x = y))) fun c19 => if c19 then (lf (some false) fun y => K1 (Ct.ret y)) else K1 (Ct.go ())))))))))))))))))) xs20 () fun r_1 => match r_1 with | .ret y => P y | .go t_1 => (lf (some true) P) | .brk _ => False)
end
end G

namespace G
open PySem L2 M
/-! ### ratios of bounded size -/
structure Bq (n : Nat) (q : Rat) : Prop where
  o : q.num.natAbs < 2 ^ n
  u : q.den < 2 ^ n
theorem pow_le {a b : Nat} (h : a ≤ b) : (2 : Nat) ^ a ≤ 2 ^ b := Nat.pow_le_pow_right (by decide) h
theorem Bq.le {a b : Nat} {q : Rat} (h : Bq a q) (l : a ≤ b) : Bq b q := ⟨Nat.lt_of_lt_of_le h.o (pow_le l), Nat.lt_of_lt_of_le h.u (pow_le l)⟩
theorem den_ne (q : Rat) : (q.den : Int) ≠ 0 := by have := q.den_nz; omega
theorem den_pos (q : Rat) : (0 : Int) < q.den := by have := q.den_nz; omega
theorem bq_divInt {n : Nat} {o u : Int} (h : u ≠ 0) (ho : o.natAbs < 2 ^ n) (hu : u.natAbs < 2 ^ n) : Bq n (Rat.divInt o u) := by
  have e := rat_rND (o := o) h
  refine ⟨?_, ?_⟩
  · rw [e.1]; exact Nat.lt_of_le_of_lt (rN_le h) ho
  · have := rD_le (o := o) h
    have := rD_pos (o := o) h
    omega
theorem nat_mul_lt {x y : Int} {n m : Nat} (hx : x.natAbs < 2 ^ n) (hy : y.natAbs < 2 ^ m) : (x * y).natAbs < 2 ^ (n + m) := wide_lt hx hy
theorem den_nat (q : Rat) : ((q.den : Int)).natAbs = q.den := by omega
theorem den_lt {n : Nat} {q : Rat} (h : Bq n q) : ((q.den : Int)).natAbs < 2 ^ n := by rw [den_nat]; exact h.u
theorem den_mul_ne (q r : Rat) : (q.den : Int) * (r.den : Int) ≠ 0 := Int.mul_ne_zero (den_ne q) (den_ne r)
theorem add_divInt (q r : Rat) : Rat.divInt (q.num * r.den + r.num * q.den) (q.den * r.den) = q + r := by
  have h := Rat.divInt_add_divInt q.num r.num (den_ne q) (den_ne r)
  rw [Rat.num_divInt_den, Rat.num_divInt_den] at h
  exact h.symm
theorem sub_divInt (q r : Rat) : Rat.divInt (q.num * r.den - r.num * q.den) (q.den * r.den) = q - r := by
  have h := add_divInt q (-r)
  rw [Rat.neg_num, Rat.neg_den] at h
  rw [Rat.sub_eq_add_neg, ← h]
  congr 1
  rw [Int.neg_mul, Int.sub_eq_add_neg]
theorem mul_divInt (q r : Rat) : Rat.divInt (q.num * r.num) (q.den * r.den) = q * r := by
  have h := Rat.divInt_mul_divInt q.num r.num (d₁ := q.den) (d₂ := r.den)
  rw [Rat.num_divInt_den, Rat.num_divInt_den] at h
  exact h.symm
theorem div_divInt (q r : Rat) : Rat.divInt (q.num * r.den) (q.den * r.num) = q / r := by
  rw [Rat.div_def, Rat.inv_def]
  have h := Rat.divInt_mul_divInt q.num (r.den : Int) (d₁ := q.den) (d₂ := r.num)
  rw [Rat.num_divInt_den] at h
  exact h.symm
theorem Bq.add {n m : Nat} {q r : Rat} (h : Bq n q) (h' : Bq m r) : Bq (n + m + 1) (q + r) := by
  rw [← add_divInt]
  have h1 := nat_mul_lt h.o (den_lt h')
  have h2 := nat_mul_lt h'.o (den_lt h)
  have h3 := nat_mul_lt (den_lt h) (den_lt h')
  rw [Nat.add_comm m n] at h2
  refine bq_divInt (den_mul_ne q r) ?_ ?_
  · rw [Nat.pow_succ]; omega
  · rw [Nat.pow_succ]; omega
theorem Bq.sub {n m : Nat} {q r : Rat} (h : Bq n q) (h' : Bq m r) : Bq (n + m + 1) (q - r) := by
  rw [← sub_divInt]
  have h1 := nat_mul_lt h.o (den_lt h')
  have h2 := nat_mul_lt h'.o (den_lt h)
  have h3 := nat_mul_lt (den_lt h) (den_lt h')
  rw [Nat.add_comm m n] at h2
  refine bq_divInt (den_mul_ne q r) ?_ ?_
  · rw [Nat.pow_succ]; omega
  · rw [Nat.pow_succ]; omega
theorem Bq.mul {n m : Nat} {q r : Rat} (h : Bq n q) (h' : Bq m r) : Bq (n + m) (q * r) := by
  rw [← mul_divInt]
  exact bq_divInt (den_mul_ne q r) (nat_mul_lt h.o h'.o) (nat_mul_lt (den_lt h) (den_lt h'))
theorem Bq.div {n m : Nat} {q r : Rat} (h : Bq n q) (h' : Bq m r) (hr : r ≠ 0) : Bq (n + m) (q / r) := by
  rw [← div_divInt]
  have hn : r.num ≠ 0 := by rw [Ne, Rat.num_eq_zero]; exact hr
  exact bq_divInt (Int.mul_ne_zero (den_ne q) hn) (nat_mul_lt h.o (den_lt h')) (nat_mul_lt (den_lt h) h'.o)
theorem mul?_eq {x y : Int} (hx : x.natAbs < 2 ^ 4000) (hy : y.natAbs < 2 ^ 4000) : mul? x y = some (x * y) := by
  unfold mul? mulP
  have := wide_mul hx hy (by decide) (by decide) (by decide)
  rw [if_pos]
  exact decide_eq_true this
theorem ratio?_eq {o u : Int} (h : u ≠ 0) (hu : u.natAbs < 2 ^ 9000) : ratio? o u = some (Rat.divInt o u) := by
  unfold ratio?
  rw [if_pos ⟨h, hu⟩]
theorem lt9 {x y : Int} (hx : x.natAbs < 2 ^ 4000) (hy : y.natAbs < 2 ^ 4000) : (x * y).natAbs < 2 ^ 9000 := Nat.lt_of_lt_of_le (nat_mul_lt hx hy) (pow_le (by decide))
abbrev Bo (q : Rat) := Bq 4000 q
theorem m_plus_eq {q r : Rat} (h : Bo q) (h' : Bo r) : m_plus q r = some (q + r) := by
  simp only [m_plus, bd, Option.bind_some, mul?_eq h.o (den_lt h'), mul?_eq h'.o (den_lt h), mul?_eq (den_lt h) (den_lt h')]
  rw [ratio?_eq (den_mul_ne q r) (lt9 (den_lt h) (den_lt h')), add_divInt]
theorem m_minus_eq {q r : Rat} (h : Bo q) (h' : Bo r) : m_minus q r = some (q - r) := by
  simp only [m_minus, bd, Option.bind_some, mul?_eq h.o (den_lt h'), mul?_eq h'.o (den_lt h), mul?_eq (den_lt h) (den_lt h')]
  rw [ratio?_eq (den_mul_ne q r) (lt9 (den_lt h) (den_lt h')), sub_divInt]
theorem m_times_eq {q r : Rat} (h : Bo q) (h' : Bo r) : m_times q r = some (q * r) := by
  simp only [m_times, bd, Option.bind_some, mul?_eq h.o h'.o, mul?_eq (den_lt h) (den_lt h')]
  rw [ratio?_eq (den_mul_ne q r) (lt9 (den_lt h) (den_lt h')), mul_divInt]
theorem m_divided_eq {q r : Rat} (h : Bo q) (h' : Bo r) (hr : r ≠ 0) : m_divided q r = some (q / r) := by
  have hn : r.num ≠ 0 := by rw [Ne, Rat.num_eq_zero]; exact hr
  simp only [m_divided, bd, Option.bind_some, mul?_eq h.o (den_lt h'), mul?_eq (den_lt h) h'.o]
  rw [ratio?_eq (Int.mul_ne_zero (den_ne q) hn) (lt9 (den_lt h) h'.o), div_divInt]
def ordI (q r : Rat) : Int := if q < r then -1 else if r < q then 1 else 0
theorem gap_lt (q r : Rat) : q.num * r.den - r.num * q.den < 0 ↔ q < r := by rw [Rat.lt_iff]; omega
theorem gap_gt (q r : Rat) : 0 < q.num * r.den - r.num * q.den ↔ r < q := by rw [Rat.lt_iff]; omega
theorem m_order_eq {q r : Rat} (h : Bo q) (h' : Bo r) : m_order q r = some (ordI q r) := by
  simp only [m_order, bd, Option.bind_some, mul?_eq h.o (den_lt h'), mul?_eq h'.o (den_lt h), gap_lt, gap_gt, ordI]
  by_cases c : q < r
  · simp [c]
  · by_cases c' : r < q <;> simp [c, c']
theorem ord_lt (q r : Rat) : ordI q r < 0 ↔ q < r := by
  unfold ordI
  by_cases c : q < r
  · simp [c]
  · by_cases c' : r < q <;> simp [c, c']
theorem ord_gt (q r : Rat) : 0 < ordI q r ↔ r < q := by
  unfold ordI
  by_cases c : q < r
  · have : ¬ r < q := by grind
    simp [c, this]
  · by_cases c' : r < q <;> simp [c, c']
def absR (q : Rat) : Rat := if q < 0 then -q else q
theorem Bq.neg {n : Nat} {q : Rat} (h : Bq n q) : Bq n (-q) := ⟨by rw [Rat.neg_num, Int.natAbs_neg]; exact h.o, by rw [Rat.neg_den]; exact h.u⟩
theorem Bq.abs {n : Nat} {q : Rat} (h : Bq n q) : Bq n (absR q) := by
  unfold absR
  split
  · exact h.neg
  · exact h
theorem abs_pair (q : Rat) : ((q.num.natAbs : Nat) : Int) = (absR q).num ∧ (q.den : Int) = ((absR q).den : Int) := by
  unfold absR
  split
  · rename_i h
    have : q.num < 0 := by rw [Rat.lt_iff] at h; simpa using h
    rw [Rat.neg_num, Rat.neg_den]
    omega
  · rename_i h
    have : ¬ q.num < 0 := by rw [Rat.lt_iff] at h; simpa using h
    omega
theorem m_size_eq (q : Rat) : m_size q = some (absR q) := by
  simp only [m_size, bd, Option.bind_some]
  rw [(abs_pair q).1, (abs_pair q).2, p2r_rat]
theorem p2r_abs (q : Rat) : p2r (((q.num.natAbs : Nat) : Int), (q.den : Int)) = some (absR q) := by
  rw [(abs_pair q).1, (abs_pair q).2, p2r_rat]
theorem m_lesser_eq {q r : Rat} (h : Bo q) (h' : Bo r) : m_lesser q r = some (if q < r then q else r) := by
  simp only [m_lesser, bd, Option.bind_some, m_order_eq h h', ord_lt]
  by_cases c : q < r <;> simp [c]
theorem m_greater_eq {q r : Rat} (h : Bo q) (h' : Bo r) : m_greater q r = some (if r < q then q else r) := by
  simp only [m_greater, bd, Option.bind_some, m_order_eq h h', ord_gt]
  by_cases c : r < q <;> simp [c]
theorem m_law_add_eq {q r : Rat} (h : Bo q) (h' : Bo r) : m_law_add q r = some (q + r) := m_plus_eq h h'
theorem m_law_sub_eq {q r : Rat} (h : Bo q) (h' : Bo r) : m_law_sub q r = some (q - r) := m_minus_eq h h'
theorem m_law_mul_eq {q r : Rat} (h : Bo q) (h' : Bo r) : m_law_mul q r = some (q * r) := m_times_eq h h'
theorem m_law_less_eq {q r : Rat} (h : Bo q) (h' : Bo r) : m_law_less q r = some (decide (q < r)) := by
  simp only [m_law_less, bd, Option.bind_some, mul?_eq h.o (den_lt h'), mul?_eq h'.o (den_lt h)]
  congr 1
  rw [Bool.eq_iff_iff]
  simp only [decide_eq_true_eq]
  rw [← gap_lt]
  omega
theorem m_law_abs_eq (q : Rat) : m_law_abs q = some (absR q) := m_size_eq q
end G

namespace G
open PySem L2 M
/-! ### spots -/
abbrev Spt := Rat × Rat
structure Bs (n : Nat) (s : Spt) : Prop where
  x : Bq n s.1
  y : Bq n s.2
def co (s : Spt) (k : Int) : Rat := if k = 0 then s.1 else s.2
def k01 (k : Int) : Prop := k = 0 ∨ k = 1
theorem at2_co {s : Spt} {k : Int} (h : k01 k) : at2 s k = some (co s k) := by
  rcases h with rfl | rfl <;> rfl
theorem k01.flip {k : Int} (h : k01 k) : k01 (1 - k) := by rcases h with rfl | rfl <;> simp [k01]
theorem Bs.co {n : Nat} {s : Spt} (h : Bs n s) (k : Int) : Bq n (co s k) := by
  unfold G.co
  split
  · exact h.x
  · exact h.y
def wayI (s e : Spt) : Int := if absR (e.1 - s.1) < absR (e.2 - s.2) then 1 else 0
theorem wayI_01 (s e : Spt) : k01 (wayI s e) := by unfold wayI; split <;> simp [k01]
theorem m_longer_way_eq {s e : Spt} (hs : Bs 250 s) (he : Bs 250 e) : m_longer_way s e = some (wayI s e) := by
  have h1 := ((he.x.sub hs.x).le (show _ ≤ 4000 by decide))
  have h2 := ((he.y.sub hs.y).le (show _ ≤ 4000 by decide))
  simp only [m_longer_way, bd, Option.bind_some, m_minus_eq (he.x.le (by decide)) (hs.x.le (by decide)), m_minus_eq (he.y.le (by decide)) (hs.y.le (by decide)), m_size_eq, m_order_eq h1.abs h2.abs, ord_lt, wayI]
  by_cases c : absR (e.1 - s.1) < absR (e.2 - s.2) <;> simp [c]
theorem absR_sub (a b : Rat) : absR (a - b) = absR (b - a) := by unfold absR; grind
/-- both differences are nought just where the longer one is -/
theorem way_zero {s e : Spt} : co e (wayI s e) - co s (wayI s e) = 0 ↔ s = e := by
  constructor
  · intro h
    unfold wayI at h
    split at h
    · rename_i c
      simp only [co, show (1 : Int) ≠ 0 by decide, if_false] at h
      rw [h] at c
      unfold absR at c
      grind
    · rename_i c
      simp only [co, if_true] at h
      rw [h] at c
      have h2 : e.2 - s.2 = 0 := by unfold absR at c; grind
      exact Prod.ext (by grind) (by grind)
  · intro h
    subst h
    grind
def slope (s e : Spt) (k : Int) : Rat := if s = e then 0 else (co e (1 - k) - co s (1 - k)) / (co e k - co s k)
theorem m_slope_eq {s e : Spt} (hs : Bs 250 s) (he : Bs 250 e) : m_slope_of s e (wayI s e) = some (slope s e (wayI s e)) := by
  have k := wayI_01 s e
  have hk := ((he.co (wayI s e)).sub (hs.co (wayI s e))).le (show _ ≤ 4000 by decide)
  have hj := ((he.co (1 - wayI s e)).sub (hs.co (1 - wayI s e))).le (show _ ≤ 4000 by decide)
  simp only [m_slope_of, bd, Option.bind_some, slope]
  by_cases c : s = e
  · simp [c]
  · simp only [c, decide_false, if_false, Bool.false_eq_true, at2_co k, at2_co k.flip, Option.bind_some, m_minus_eq ((he.co _).le (by decide)) ((hs.co _).le (by decide))]
    exact m_divided_eq hj hk fun z => c (way_zero.mp z)
theorem slope_b {s e : Spt} (hs : Bs 250 s) (he : Bs 250 e) : Bq 1002 (slope s e (wayI s e)) := by
  unfold slope
  split
  · exact ⟨by show 0 < _; exact Nat.two_pow_pos _, by show 1 < _; decide⟩
  · rename_i c
    exact ((he.co _).sub (hs.co _)).div ((he.co _).sub (hs.co _)) fun z => c (way_zero.mp z)
def asideR (s e z : Spt) : Rat := absR (co z (1 - wayI s e) - (co s (1 - wayI s e) + slope s e (wayI s e) * (co z (wayI s e) - co s (wayI s e))))
theorem m_aside_eq {s e z : Spt} (hs : Bs 250 s) (he : Bs 250 e) (hz : Bs 250 z) : m_aside s (slope s e (wayI s e)) (wayI s e) z = some (asideR s e z) ∧ Bq 2005 (asideR s e z) := by
  have k := wayI_01 s e
  have b1 := (hz.co (wayI s e)).sub (hs.co (wayI s e))
  have b2 := (slope_b hs he).mul b1
  have b3 := (hs.co (1 - wayI s e)).add b2
  have b4 := (hz.co (1 - wayI s e)).sub b3
  refine ⟨?_, b4.abs⟩
  simp only [m_aside, bd, Option.bind_some, at2_co k, at2_co k.flip, m_minus_eq ((hz.co (wayI s e)).le (by decide)) ((hs.co (wayI s e)).le (by decide)), m_times_eq ((slope_b hs he).le (by decide)) (b1.le (by decide)), m_plus_eq ((hs.co (1 - wayI s e)).le (by decide)) (b2.le (by decide)), m_minus_eq ((hz.co (1 - wayI s e)).le (by decide)) (b3.le (by decide)), m_size_eq, asideR]
/-- whether a spot is passed -/
def lowR (s e : Spt) : Rat := if co s (wayI s e) < co e (wayI s e) then co s (wayI s e) else co e (wayI s e)
def highR (s e : Spt) : Rat := if co e (wayI s e) < co s (wayI s e) then co s (wayI s e) else co e (wayI s e)
def passB (s e : Spt) (t : Int) (z : Spt) : Bool := !(decide (co z (wayI s e) < lowR s e)) && !(decide (highR s e < co z (wayI s e))) && !(decide ((t : Rat) < asideR s e z))
/-- the law's own -/
theorem num_zero (q : Rat) : q.num = 0 ↔ q = 0 := Rat.num_eq_zero
end G

namespace G
open PySem L2 M
theorem p2r_int (t : Int) : p2r (t, 1) = some (t : Rat) := by
  have h := p2r_rat (t : Rat)
  simpa using h
theorem bq_int {t : Int} {n : Nat} (hn : 0 < n) (h : t.natAbs < 2 ^ n) : Bq n (t : Rat) := ⟨by simpa using h, by
  show 1 < 2 ^ n
  exact Nat.one_lt_two_pow (by omega)⟩
theorem cut_mem {α : Type} {xs : List α} {lo hi : Option Int} {x : α} (h : x ∈ cutD xs lo hi) : x ∈ xs := by
  unfold cutD at h
  exact List.mem_of_mem_drop (List.mem_of_mem_take h)
theorem cut_len {α : Type} (xs : List α) (lo hi : Option Int) : (cutD xs lo hi).length ≤ xs.length := by
  unfold cutD
  rw [List.length_take, List.length_drop]
  omega
theorem at_in {α : Type} {xs : List α} {i : Int} (h0 : 0 ≤ i) (h : i < xs.length) : ∃ x, atI xs i = some x ∧ x ∈ xs := by
  have hk : i.toNat < xs.length := by omega
  have e := atI_nat (xs := xs) (j := i.toNat) (List.getElem?_eq_getElem hk)
  rw [show ((i.toNat : Nat) : Int) = i by omega] at e
  exact ⟨_, e, List.getElem_mem hk⟩
def okRow (row : List Spt) (t : Int) : Prop := (∀ z ∈ row, Bs 250 z) ∧ t.natAbs < 2 ^ 250
theorem may_pr {row : List Spt} {i j t : Int} {s e : Spt} (hr : ∀ z ∈ row, Bs 250 z) (es : atI row i = some s) (ms : s ∈ row) (ee : atI row j = some e) (me : e ∈ row) (ht : t.natAbs < 2 ^ 250) :
    m_may_pass row i j t = some ((cutD row (some (i + 1)) (some j)).all (passB s e t)) := by
  have hs := hr s ms
  have he := hr e me
  have k := wayI_01 s e
  have hc : ∀ z ∈ cutD row (some (i + 1)) (some j), Bs 250 z := fun z hz => hr z (cut_mem hz)
  have cs := (hs.co (wayI s e)).le (show 250 ≤ 4000 by decide)
  have ce := (he.co (wayI s e)).le (show 250 ≤ 4000 by decide)
  have bl : Bo (lowR s e) := by unfold lowR; split <;> assumption
  have bh : Bo (highR s e) := by unfold highR; split <;> assumption
  have bt := (bq_int (by decide) ht).le (show 250 ≤ 4000 by decide)
  simp only [m_may_pass, bd, Option.bind_some, es, ee, m_longer_way_eq hs he, at2_co k, m_lesser_eq cs ce, m_greater_eq cs ce, m_slope_eq hs he]
  generalize cutD row (some (i + 1)) (some j) = zs at hc
  rw [show (if co s (wayI s e) < co e (wayI s e) then co s (wayI s e) else co e (wayI s e)) = lowR s e from rfl, show (if co e (wayI s e) < co s (wayI s e) then co s (wayI s e) else co e (wayI s e)) = highR s e from rfl]
  induction zs with
  | nil => rfl
  | cons z r ih =>
    have hz := hc z (List.mem_cons_self ..)
    have cz := (hz.co (wayI s e)).le (show 250 ≤ 4000 by decide)
    have a1 := m_aside_eq hs he hz
    have ih := ih fun y hy => hc y (List.mem_cons_of_mem _ hy)
    simp only [loopC, m_order_eq cz bl, m_order_eq cz bh, ord_lt, ord_gt, a1.1, p2r_int, m_order_eq (a1.2.le (show _ ≤ 4000 by decide)) bt, Option.bind_some, List.all_cons, passB] at ih ⊢
    by_cases c1 : co z (wayI s e) < lowR s e
    · simp [c1]
    · by_cases c2 : highR s e < co z (wayI s e)
      · simp [c1, c2]
      · by_cases c3 : (t : Rat) < asideR s e z
        · simp [c1, c2, c3]
        · simp only [c1, c2, c3, decide_false, Bool.not_false, Bool.and_self, Bool.true_and, if_false, Bool.false_eq_true, Option.bind_some]
          exact ih

theorem num_neg' (q : Rat) : q.num < 0 ↔ q < 0 := by rw [Rat.lt_iff]; simp
theorem num_den (q : Rat) : (q.den : Int) < q.num ↔ 1 < q := by rw [Rat.lt_iff]; simp
theorem share_in {a b z : Rat} (h : b - a ≠ 0) : (¬ ((z - a) / (b - a) < 0) ∧ ¬ (1 < (z - a) / (b - a))) ↔ (¬ (z < if a < b then a else b) ∧ ¬ ((if b < a then a else b) < z)) := by
  have e : (z - a) / (b - a) * (b - a) = z - a := by grind
  generalize (z - a) / (b - a) = p at e
  have hz : z = a + p * (b - a) := by grind
  subst hz
  have mn : ∀ {m u v : Rat}, 0 ≤ m → u ≤ v → m * u ≤ m * v := fun {m u v} hm h => by
    have : 0 ≤ m * (v - u) := Rat.mul_nonneg hm (by grind)
    grind
  have mp : ∀ {m u v : Rat}, 0 < m → u < v → m * u < m * v := fun {m u v} hm h => by
    have : 0 < m * (v - u) := Rat.mul_pos hm (by grind)
    grind
  rcases (Rat.le_total : a ≤ b ∨ b ≤ a) with w | w
  · have d : 0 < b - a := by grind
    have q1 : (if a < b then a else b) = a := by grind
    have q2 : (if b < a then a else b) = b := by grind
    rw [q1, q2]
    constructor
    · rintro ⟨h1, h2⟩
      have := mn (Rat.le_of_lt d) (show 0 ≤ p by grind)
      have := mn (Rat.le_of_lt d) (show p ≤ 1 by grind)
      constructor <;> grind
    · rintro ⟨h1, h2⟩
      constructor
      · intro hp
        have := mp d hp
        grind
      · intro hp
        have := mp d hp
        grind
  · have d : 0 < a - b := by grind
    have q1 : (if a < b then a else b) = b := by grind
    have q2 : (if b < a then a else b) = a := by grind
    rw [q1, q2]
    constructor
    · rintro ⟨h1, h2⟩
      have := mn (Rat.le_of_lt d) (show 0 ≤ p by grind)
      have := mn (Rat.le_of_lt d) (show p ≤ 1 by grind)
      constructor <;> grind
    · rintro ⟨h1, h2⟩
      constructor
      · intro hp
        have := mp d hp
        grind
      · intro hp
        have := mp d hp
        grind
theorem passes_eq {row : List Spt} {i j t : Int} {s e : Spt} (hr : ∀ z ∈ row, Bs 250 z) (es : atI row i = some s) (ms : s ∈ row) (ee : atI row j = some e) (me : e ∈ row) (ht : t.natAbs < 2 ^ 250) :
    m_law_passes row i j t = some ((cutD row (some (i + 1)) (some j)).all (passB s e t)) := by
  have hs := hr s ms
  have he := hr e me
  have k := wayI_01 s e
  have kf := k.flip
  have hc : ∀ z ∈ cutD row (some (i + 1)) (some j), Bs 250 z := fun z hz => hr z (cut_mem hz)
  have bt := (bq_int (by decide) ht).le (show 250 ≤ 4000 by decide)
  have g0 := he.x.sub hs.x
  have g1 := he.y.sub hs.y
  have w0 : ∀ (A B : Rat), atI [A, B] 0 = some A := fun _ _ => rfl
  have w1 : ∀ (A B : Rat), atI [A, B] 1 = some B := fun _ _ => rfl
  have A0 : ∀ s : Spt, at2 s 0 = some s.1 := fun _ => rfl
  have A1 : ∀ s : Spt, at2 s 1 = some s.2 := fun _ => rfl
  have eg : (rng1? (2 : Int)).bind (fun xs => mapL? (fun law_at_3 => ((((at2 e law_at_3).bind fun x => ((at2 s law_at_3).bind fun x => some (x, ())).bind fun y => some (x, y)).bind fun a => m_law_sub a.1 a.2.1).bind fun x => some (x, ())).bind fun a => m_law_abs a.1) xs) = some [absR (e.1 - s.1), absR (e.2 - s.2)] := by
    rw [show rng1? (2 : Int) = some [0, 1] by decide, Option.bind_some]
    unfold mapL?
    rw [if_pos (by simp)]
    simp only [mapO, A0, A1, Option.bind_some, bd, m_law_sub_eq (he.x.le (show 250 ≤ 4000 by decide)) (hs.x.le (by decide)), m_law_sub_eq (he.y.le (show 250 ≤ 4000 by decide)) (hs.y.le (by decide)), m_law_abs_eq]
  have ew : (if decide (absR (e.1 - s.1) < absR (e.2 - s.2)) = true then (1 : Int) else 0) = wayI s e := by
    unfold wayI
    by_cases c : absR (e.1 - s.1) < absR (e.2 - s.2) <;> simp [c]
  have bu := hs.co (wayI s e)
  have bv := hs.co (1 - wayI s e)
  have wd := (he.co (wayI s e)).sub bu
  have tl := (he.co (1 - wayI s e)).sub bv
  simp only [m_law_passes, bd, Option.bind_some, es, ee, eg, w0, w1, m_law_less_eq (g0.abs.le (show _ ≤ 4000 by decide)) (g1.abs.le (show _ ≤ 4000 by decide)), ew, at2_co k, at2_co kf, m_law_sub_eq ((he.co (wayI s e)).le (show 250 ≤ 4000 by decide)) (bu.le (by decide)), m_law_sub_eq ((he.co (1 - wayI s e)).le (show 250 ≤ 4000 by decide)) (bv.le (by decide))]
  rw [loopC_chk (g := fun z => !passB s e t z) _ ?_]
  · rw [Option.bind_some]
    have : ((cutD row (some (i + 1)) (some j)).any fun z => !passB s e t z) = !((cutD row (some (i + 1)) (some j)).all (passB s e t)) := by
      rw [List.not_all_eq_any_not]
    rw [this]
    generalize (cutD row (some (i + 1)) (some j)).all (passB s e t) = b
    cases b <;> rfl
  · intro z hz
    have hz := hc z hz
    have cz := hz.co (wayI s e)
    have cf := hz.co (1 - wayI s e)
    have fr := cz.sub bu
    have lb : ∀ line : Rat, Bq 1800 line → m_law_sub (co z (1 - wayI s e)) line = some (co z (1 - wayI s e) - line) ∧ m_law_less (t : Rat) (absR (co z (1 - wayI s e) - line)) = some (decide ((t : Rat) < absR (co z (1 - wayI s e) - line))) := fun line hl =>
      ⟨m_law_sub_eq (cf.le (by decide)) (hl.le (by decide)), m_law_less_eq bt ((cf.sub hl).abs.le (by decide))⟩
    simp only [m_law_sub_eq (cz.le (show 250 ≤ 4000 by decide)) (bu.le (by decide)), Option.bind_some, num_zero, p2r_int, m_law_abs_eq]
    by_cases c : co e (wayI s e) - co s (wayI s e) = 0
    · have se := way_zero.mp c
      have l1 := lb (co s (1 - wayI s e)) (bv.le (by decide))
      simp only [c, decide_true, if_true, l1.1, Option.bind_some, l1.2]
      have cz2 : co e (wayI s e) = co s (wayI s e) := by grind
      have ea : asideR s e z = absR (co z (1 - wayI s e) - co s (1 - wayI s e)) := by
        unfold asideR slope
        rw [if_pos se]
        congr 1
        grind
      unfold passB
      rw [ea]
      have el : lowR s e = co s (wayI s e) := by unfold lowR; rw [cz2]; simp
      have eh : highR s e = co s (wayI s e) := by unfold highR; rw [cz2]; simp
      rw [el, eh]
      by_cases c2 : co z (wayI s e) - co s (wayI s e) = 0
      · have c3 : co z (wayI s e) = co s (wayI s e) := by grind
        have n1 : ¬ co s (wayI s e) < co s (wayI s e) := by grind
        have c4 : co s (wayI s e) - co s (wayI s e) = 0 := by grind
        simp only [c3, c4, decide_true, Bool.not_true, Bool.false_eq_true, if_false, n1, decide_false, Bool.not_false, Bool.true_and, Bool.not_not]
        generalize decide ((t : Rat) < absR (co z (1 - wayI s e) - co s (1 - wayI s e))) = b
        cases b <;> rfl
      · have : co z (wayI s e) < co s (wayI s e) ∨ co s (wayI s e) < co z (wayI s e) := by grind
        simp only [c2, decide_false, Bool.not_false, if_true]
        rcases this with w | w
        · simp [w]
        · simp [w]
    · have pb := fr.div wd c
      have mb := tl.mul pb
      have hn : (co e (wayI s e) - co s (wayI s e)).num ≠ 0 := by rw [Ne, Rat.num_eq_zero]; exact c
      have ep : ratio? ((co z (wayI s e) - co s (wayI s e)).num * ((co e (wayI s e) - co s (wayI s e)).den : Int)) (((co z (wayI s e) - co s (wayI s e)).den : Int) * (co e (wayI s e) - co s (wayI s e)).num) = some ((co z (wayI s e) - co s (wayI s e)) / (co e (wayI s e) - co s (wayI s e))) := by
        rw [ratio?_eq (Int.mul_ne_zero (den_ne _) hn) (lt9 (den_lt (fr.le (show _ ≤ 4000 by decide))) ((wd.le (show _ ≤ 4000 by decide)).o)), div_divInt]
      simp only [c, decide_false, Bool.false_eq_true, if_false, mul?_eq (fr.le (show _ ≤ 4000 by decide)).o (den_lt (wd.le (show _ ≤ 4000 by decide))), mul?_eq (den_lt (fr.le (show _ ≤ 4000 by decide))) (wd.le (show _ ≤ 4000 by decide)).o, Option.bind_some, ep, num_neg', num_den, m_law_mul_eq (tl.le (show _ ≤ 4000 by decide)) (pb.le (show _ ≤ 4000 by decide)), m_law_add_eq (bv.le (show _ ≤ 4000 by decide)) (mb.le (show _ ≤ 4000 by decide))]
      have l1 := lb _ ((bv.add mb).le (show _ ≤ 1800 by decide))
      simp only [l1.1, Option.bind_some, l1.2]
      have ne : ¬ s = e := fun z => c (way_zero.mpr z)
      have ea : asideR s e z = absR (co z (1 - wayI s e) - (co s (1 - wayI s e) + (co e (1 - wayI s e) - co s (1 - wayI s e)) * ((co z (wayI s e) - co s (wayI s e)) / (co e (wayI s e) - co s (wayI s e))))) := by
        unfold asideR slope
        rw [if_neg ne]
        congr 2
        grind
      have sh := share_in (z := co z (wayI s e)) c
      unfold passB
      rw [ea]
      rw [show (if co s (wayI s e) < co e (wayI s e) then co s (wayI s e) else co e (wayI s e)) = lowR s e from rfl, show (if co e (wayI s e) < co s (wayI s e) then co s (wayI s e) else co e (wayI s e)) = highR s e from rfl] at sh
      generalize absR (co z (1 - wayI s e) - (co s (1 - wayI s e) + (co e (1 - wayI s e) - co s (1 - wayI s e)) * ((co z (wayI s e) - co s (wayI s e)) / (co e (wayI s e) - co s (wayI s e))))) = X
      generalize (co z (wayI s e) - co s (wayI s e)) / (co e (wayI s e) - co s (wayI s e)) = p at sh
      by_cases c1 : p < 0
      · have : co z (wayI s e) < lowR s e ∨ highR s e < co z (wayI s e) := by
          by_cases a1 : co z (wayI s e) < lowR s e
          · exact .inl a1
          · by_cases a2 : highR s e < co z (wayI s e)
            · exact .inr a2
            · exact absurd c1 (sh.mpr ⟨a1, a2⟩).1
        rcases this with w | w
        · simp [c1, w]
        · simp [c1, w]
      · by_cases c2 : 1 < p
        · have : co z (wayI s e) < lowR s e ∨ highR s e < co z (wayI s e) := by
            by_cases a1 : co z (wayI s e) < lowR s e
            · exact .inl a1
            · by_cases a2 : highR s e < co z (wayI s e)
              · exact .inr a2
              · exact absurd c2 (sh.mpr ⟨a1, a2⟩).2
          rcases this with w | w
          · simp [c1, c2, w]
          · simp [c1, c2, w]
        · have := sh.mp ⟨c1, c2⟩
          simp only [c1, c2, this.1, this.2, decide_false, Bool.false_eq_true, if_false, Bool.not_false, Bool.true_and, Bool.not_not, Option.bind_some]
          by_cases c3 : (t : Rat) < X <;> simp [c3]
end G

namespace G
open PySem L2 M
theorem rngP_of {n : Int} (h : -1000000 ≤ n ∧ n ≤ 1000000) : rngP n = true := by
  unfold rngP
  exact Nat.ble_eq_true_of_le (by omega)
theorem rng2_eq {a b : Int} (ha : -1000000 ≤ a ∧ a ≤ 1000000) (hb : -1000000 ≤ b ∧ b ≤ 1000000) : rng2? a b = some (rngL a (b - a).toNat) := by
  unfold rng2?
  rw [rngP_of ha, rngP_of hb]
  rfl
theorem rng1_eq {b : Int} (hb : -1000000 ≤ b ∧ b ≤ 1000000) : rng1? b = some (rngL 0 b.toNat) := by
  unfold rng1?
  rw [rngP_of hb]
  rfl
theorem rngL_succ (a : Int) (m : Nat) : rngL a (m + 1) = a :: rngL (a + 1) m := by
  unfold rngL
  rw [List.range_succ_eq_map, List.map_cons, List.map_map]
  congr 1
  · simp
  · apply List.map_congr_left
    intro k _
    simp only [Function.comp_apply]
    omega
theorem app_eq {α : Type} {xs : List α} (x : α) (h : xs.length < 100000) : app? xs x = some (xs ++ [x]) := by
  unfold app?
  rw [if_pos h]
/-! ### where the pieces lead -/
section
variable {row : List Spt} {t : Int} (held : List Int)
/-- whether a piece may pass -/
def mp (row : List Spt) (t : Int) (i j : Int) : Bool := (m_may_pass row i j t).getD false
structure Rw (row : List Spt) (t : Int) : Prop where
  b : ∀ z ∈ row, Bs 250 z
  l : row.length ≤ 20
  t : t.natAbs < 2 ^ 250
theorem Rw.may (h : Rw row t) {i j : Int} (i0 : 0 ≤ i) (i1 : i < row.length) (j0 : 0 ≤ j) (j1 : j < row.length) : m_may_pass row i j t = some (mp row t i j) ∧ m_law_passes row i j t = some (mp row t i j) := by
  obtain ⟨s, es, ms⟩ := at_in i0 i1
  obtain ⟨e, ee, me⟩ := at_in j0 j1
  have e1 := may_pr h.b es ms ee me h.t
  have e2 := passes_eq h.b es ms ee me h.t
  unfold mp
  rw [e1]
  exact ⟨rfl, e2⟩
/-- the ends from a on, m of them -/
def sel (row : List Spt) (t : Int) (held : List Int) (i : Int) : Int → Nat → List Int
  | _, 0 => []
  | a, m + 1 => (if mp row t i a then [a] else []) ++ (if a ∈ held then [] else sel row t held i (a + 1) m)
theorem sel_mem {i j : Int} : ∀ {m : Nat} {a : Int}, j ∈ sel row t held i a m ↔ a ≤ j ∧ j < a + m ∧ mp row t i j = true ∧ ∀ h ∈ held, ¬ (a ≤ h ∧ h < j)
  | 0, a => by simp [sel]; omega
  | m + 1, a => by
    unfold sel
    rw [List.mem_append]
    by_cases ea : j = a
    · subst ea
      constructor
      · intro h
        refine ⟨by omega, by omega, ?_, fun h hh => by omega⟩
        rcases h with h | h
        · by_cases c : mp row t i j = true
          · exact c
          · simp [c] at h
        · by_cases c : j ∈ held
          · simp [c] at h
          · simp only [c, if_false] at h
            have := (sel_mem.mp h).1
            omega
      · intro ⟨_, _, h, _⟩
        left
        simp [h]
    · have n1 : j ∉ (if mp row t i a then [a] else []) := by
        split <;> simp [ea]
      by_cases c : a ∈ held
      · simp only [c, if_true, List.not_mem_nil, or_false]
        constructor
        · intro h; exact absurd h n1
        · intro ⟨h1, h2, h3, h4⟩
          exact absurd ⟨Int.le_refl _, by omega⟩ (h4 a c)
      · simp only [c, if_false]
        constructor
        · intro h
          rcases h with h | h
          · exact absurd h n1
          · obtain ⟨h1, h2, h3, h4⟩ := sel_mem.mp h
            refine ⟨by omega, by omega, h3, fun x hx ⟨hx1, hx2⟩ => ?_⟩
            by_cases e : x = a
            · subst e; exact c hx
            · exact h4 x hx ⟨by omega, hx2⟩
        · intro ⟨h1, h2, h3, h4⟩
          right
          exact sel_mem.mpr ⟨by omega, by omega, h3, fun x hx ⟨hx1, hx2⟩ => h4 x hx ⟨by omega, hx2⟩⟩
theorem ends_from_eq (hR : Rw row t) {i : Int} (i0 : 0 ≤ i) (i1 : i < row.length) : m_ends_from row i t held = some (sel row t held i (i + 1) ((row.length : Int) - (i + 1)).toNat) := by
  have hl := hR.l
  simp only [m_ends_from, bd, Option.bind_some, rng2_eq (a := i + 1) (b := (row.length : Int)) (by omega) (by omega)]
  have key : ∀ (m : Nat) (a : Int) (acc : List Int), i < a → a + m ≤ row.length → acc.length + m ≤ 1000 →
      loopC (ρ := List Int) (fun s x => (m_may_pass row i x t).bind fun c3 => ((if c3 = true then (app? s x).bind fun w => some w else some s)).bind fun j6 => if decide (x ∈ held) = true then some (Ct.brk j6) else some (Ct.go j6)) (rngL a m) acc = some (.go (acc ++ sel row t held i a m)) := by
    intro m
    induction m with
    | zero => intro a acc _ _ _; simp [rngL, loopC, sel]
    | succ m ih =>
      intro a acc h1 h2 h3
      rw [rngL_succ]
      simp only [loopC, (hR.may i0 i1 (j := a) (by omega) (by omega)).1, Option.bind_some, app_eq a (show acc.length < 100000 by omega)]
      by_cases c : mp row t i a = true
      · simp only [c, if_true, Option.bind_some]
        by_cases d : a ∈ held
        · simp [d, sel, c]
        · simp only [d, decide_false, Bool.false_eq_true, if_false, Option.bind_some]
          rw [ih (a + 1) (acc ++ [a]) (by omega) (by omega) (by simp; omega)]
          simp [sel, c, d]
      · simp only [c, Bool.false_eq_true, if_false, Option.bind_some]
        by_cases d : a ∈ held
        · simp [d, sel, c]
        · simp only [d, decide_false, Bool.false_eq_true, if_false, Option.bind_some]
          rw [ih (a + 1) acc (by omega) (by omega) (by omega)]
          simp [sel, c, d]
  rw [key _ (i + 1) [] (by omega) (by omega) (by simp; omega)]
  rfl
def endsL (row : List Spt) (t : Int) (held : List Int) : List (List Int) := (rngL 0 row.length).map fun i => sel row t held i (i + 1) ((row.length : Int) - (i + 1)).toNat
theorem rng_len (lo : Int) (n : Nat) : (rngL lo n).length = n := by simp [rngL]
theorem rng_mem {lo x : Int} {n : Nat} (h : x ∈ rngL lo n) : lo ≤ x ∧ x < lo + n := by
  unfold rngL at h
  obtain ⟨i, hi, rfl⟩ := List.mem_map.mp h
  have := List.mem_range.mp hi
  omega
theorem mapL_eq {α β : Type} {f : α → Option β} {g : α → β} {xs : List α} (hl : xs.length ≤ 1000) (h : ∀ x ∈ xs, f x = some (g x)) : mapL? f xs = some (xs.map g) := by
  have h2 : xs.length < 100000 := Nat.lt_of_le_of_lt hl (by decide)
  have e : mapL? f xs = mapO f xs := if_pos h2
  rw [e]
  exact mapO_all h
theorem ends_of_e (row : List Spt) (t : Int) (held : List Int) : m_ends_of row t held = (rng1? (row.length : Int)).bind (fun xs => mapL? (fun i => m_ends_from row i t held) xs) := by
  unfold m_ends_of
  simp only [bd, Option.bind_some]
theorem ends_of_e1 {row : List Spt} (hl : row.length ≤ 20) : rng1? (row.length : Int) = some (rngL 0 row.length) := by
  rw [rng1_eq (by omega), Int.toNat_natCast]
theorem ends_of_e2 (hR : Rw row t) : mapL? (fun i => m_ends_from row i t held) (rngL 0 row.length) = some (endsL row t held) := by
  have hl := hR.l
  unfold endsL
  refine mapL_eq ?_ fun i hi => ?_
  · rw [rng_len]
    omega
  · have := rng_mem hi
    exact ends_from_eq held hR (by omega) (by omega)
theorem ends_of_eq (hR : Rw row t) : m_ends_of row t held = some (endsL row t held) := by
  rw [ends_of_e, ends_of_e1 hR.l, Option.bind_some]
  exact ends_of_e2 held hR
end
/-! ### the least numbers -/
/-- ends as the table wants them: from each but the last one some lead on, all to later ones -/
structure EOk (ends : List (List Int)) : Prop where
  n : ends.length ≤ 100
  pos : 1 ≤ ends.length
  ne : ∀ (i : Nat) e, i + 1 < ends.length → ends[i]? = some e → e ≠ [] ∧ e.length ≤ 1000
  rg : ∀ (i : Nat) e j, ends[i]? = some e → j ∈ e → (i : Int) < j ∧ j < ends.length
/-- what is known of the table from i on -/
structure Cn (ends : List (List Int)) (cs : List Int) (i : Nat) : Prop where
  len : cs.length = ends.length
  last : ∀ k : Nat, k + 1 = ends.length → cs[k]? = some 0
  at_ : ∀ (k : Nat) e c, i ≤ k → k + 1 < ends.length → ends[k]? = some e → cs[k]? = some c → (∀ j ∈ e, ∃ d, cs[j.toNat]? = some d ∧ c ≤ 1 + d) ∧ ∃ j ∈ e, ∃ d, cs[j.toNat]? = some d ∧ c = 1 + d
theorem atI_toNat {α : Type} {xs : List α} {j : Int} (h0 : 0 ≤ j) (h : j < xs.length) : atI xs j = xs[j.toNat]? := by
  have hk : j.toNat < xs.length := by omega
  have e := atI_nat (xs := xs) (j := j.toNat) (List.getElem?_eq_getElem hk)
  rw [show ((j.toNat : Nat) : Int) = j by omega] at e
  rw [e, List.getElem?_eq_getElem hk]
theorem dnL_succ (m : Nat) : dnL (m : Int) (m + 1) = (m : Int) :: dnL ((m : Int) - 1) m := by
  unfold dnL
  rw [List.range_succ_eq_map, List.map_cons, List.map_map]
  refine List.cons_eq_cons.mpr ⟨by simp, List.map_congr_left fun k _ => ?_⟩
  simp only [Function.comp_apply]
  omega
theorem counts_step {ends : List (List Int)} (hE : EOk ends) {cs : List Int} {m : Nat} (h : Cn ends cs (m + 1)) (hm : m + 1 < ends.length) :
    ∃ cs', ((some (1 : Int)).bind fun x => (((atI ends (m : Int)).bind fun xs => mapL? (fun l => atI cs l) xs).bind fun x => x.min?).bind fun y => some (x + y)).bind (fun a4 => (some (m : Int)).bind fun i5 => (set? cs i5 a4).bind fun c6 => some (Ct.go (ρ := List Int) c6)) = some (Ct.go cs') ∧ Cn ends cs' m := by
  have l0 := h.len
  have hmE : m < ends.length := by omega
  obtain ⟨e, he⟩ : ∃ e, ends[m]? = some e := ⟨_, List.getElem?_eq_getElem hmE⟩
  have ha : atI ends (m : Int) = some e := by rw [atI_toNat (by omega) (by omega), Int.toNat_natCast, he]
  obtain ⟨hne, hl⟩ := hE.ne m e hm he
  have hg : ∀ j ∈ e, atI cs j = some (cs.getD j.toNat 0) ∧ cs[j.toNat]? = some (cs.getD j.toNat 0) := fun j hj => by
    have r := hE.rg m e j he hj
    have hk : j.toNat < cs.length := by omega
    rw [atI_toNat (by omega) (by omega), List.getD_eq_getElem?_getD, List.getElem?_eq_getElem hk]
    exact ⟨rfl, rfl⟩
  have hmap : mapL? (fun l => atI cs l) e = some (e.map fun j => cs.getD j.toNat 0) := mapL_eq hl fun j hj => (hg j hj).1
  obtain ⟨mn, hmn⟩ : ∃ mn, (e.map fun j => cs.getD j.toNat 0).min? = some mn := by
    cases q : (e.map fun j => cs.getD j.toNat 0).min? with
    | some mn => exact ⟨mn, rfl⟩
    | none =>
      rw [List.min?_eq_none_iff] at q
      exact absurd (List.map_eq_nil_iff.mp q) hne
  have hs := List.min?_eq_some_iff.mp hmn
  have hix : ixN cs.length (m : Int) = some m := by
    unfold ixN
    rw [if_pos (by omega), if_pos (by omega), Int.toNat_natCast]
  refine ⟨cs.set m (1 + mn), ?_, ?_, ?_, ?_⟩
  · simp only [Option.bind_some, ha, hmap, hmn, set?, hix]
  · rw [List.length_set, l0]
  · intro k hk
    rw [List.getElem?_set_ne (by omega)]
    exact h.last k hk
  · intro k e' c hk hk1 he' hc
    have far : ∀ j ∈ e', (cs.set m (1 + mn))[j.toNat]? = cs[j.toNat]? := fun j hj => by
      have r := hE.rg k e' j he' hj
      rw [List.getElem?_set_ne (by omega)]
    by_cases em : k = m
    · subst em
      rw [he] at he'
      cases he'
      rw [List.getElem?_set_self (by omega)] at hc
      cases hc
      constructor
      · intro j hj
        refine ⟨_, (far j hj).trans (hg j hj).2, ?_⟩
        have := hs.2 _ (List.mem_map.mpr ⟨j, hj, rfl⟩)
        omega
      · obtain ⟨j, hj, ej⟩ := List.mem_map.mp hs.1
        exact ⟨j, hj, _, (far j hj).trans (hg j hj).2, by rw [ej]⟩
    · rw [List.getElem?_set_ne (by omega)] at hc
      obtain ⟨h1, j, hj, d, hd, hcd⟩ := h.at_ k e' c (by omega) hk1 he' hc
      constructor
      · intro j hj
        obtain ⟨d, hd, hle⟩ := h1 j hj
        exact ⟨d, (far j hj).trans hd, hle⟩
      · exact ⟨j, hj, d, (far j hj).trans hd, hcd⟩
theorem counts_eq {ends : List (List Int)} (hE : EOk ends) : ∃ cs, m_counts_of ends = some cs ∧ Cn ends cs 0 := by
  have hn := hE.n
  have hp := hE.pos
  have e3 : rng3? ((ends.length : Int) - 2) (-1) = some (dnL ((ends.length : Int) - 2) (ends.length - 1)) := by
    unfold rng3?
    rw [rngP_of (by omega), rngP_of (by omega), Bool.and_self, if_pos rfl, show ((ends.length : Int) - 2 - -1).toNat = ends.length - 1 by omega]
  have er : rep? [(0 : Int)] (ends.length : Int) = some (List.replicate ends.length (0 : Int)) := by
    unfold rep?
    rw [if_pos ⟨by omega, by omega, by simp⟩, Int.toNat_natCast]
    congr 1
    generalize ends.length = n
    induction n with
    | zero => rfl
    | succ n ih => rw [List.replicate_succ, List.flatten_cons, ih, List.replicate_succ]; rfl
  have key : ∀ (m : Nat) (cs : List Int), m + 1 ≤ ends.length → Cn ends cs m → ∃ cs', loopC (ρ := List Int) (fun s x => ((some (1 : Int)).bind fun a => (((atI ends x).bind fun xs => mapL? (fun l => atI s l) xs).bind fun x => x.min?).bind fun y => some (a + y)).bind (fun a4 => (some x).bind fun i5 => (set? s i5 a4).bind fun c6 => some (Ct.go c6))) (dnL ((m : Int) - 1) m) cs = some (.go cs') ∧ Cn ends cs' 0 := by
    intro m
    induction m with
    | zero => intro cs _ h; exact ⟨cs, by simp [dnL, loopC], h⟩
    | succ m ih =>
      intro cs hm h
      obtain ⟨cs1, f1, h1⟩ := counts_step hE h (by omega)
      obtain ⟨cs2, f2, h2⟩ := ih cs1 (by omega) h1
      refine ⟨cs2, ?_, h2⟩
      rw [show ((m + 1 : Nat) : Int) - 1 = (m : Int) by omega, dnL_succ]
      simp only [loopC]
      rw [f1]
      exact f2
  have st : Cn ends (List.replicate ends.length (0 : Int)) (ends.length - 1) := by
    refine ⟨by simp, fun k hk => ?_, fun k e c h1 h2 => by omega⟩
    rw [List.getElem?_replicate]
    rw [if_pos (by omega)]
  obtain ⟨cs, f, h⟩ := key (ends.length - 1) _ (by omega) st
  refine ⟨cs, ?_, h⟩
  simp only [m_counts_of, bd, Option.bind_some, er, e3]
  rw [show ((ends.length - 1 : Nat) : Int) - 1 = (ends.length : Int) - 2 by omega] at f
  simp only [Option.bind_some] at f
  rw [f]
  rfl
end G

namespace G
open PySem L2 M
theorem cut_nat {α : Type} {xs : List α} {a b : Nat} (ha : a ≤ b) (hb : b ≤ xs.length) : cutD xs (some (a : Int)) (some (b : Int)) = (xs.drop a).take (b - a) := by
  unfold cutD
  rw [HT.sIx_nat, HT.sIx_nat, show min a xs.length = a by omega, show min b xs.length = b by omega]
theorem mp_next {row : List Spt} {t : Int} (hR : Rw row t) {i : Nat} (h : i + 1 < row.length) : mp row t i ((i : Int) + 1) = true := by
  obtain ⟨s, es, ms⟩ := at_in (xs := row) (i := (i : Int)) (by omega) (by omega)
  obtain ⟨z, ez, mz⟩ := at_in (xs := row) (i := (i : Int) + 1) (by omega) (by omega)
  have c : cutD row (some ((i : Int) + 1)) (some ((i : Int) + 1)) = [] := by
    have e2 := cut_nat (xs := row) (a := i + 1) (b := i + 1) (by omega) (by omega)
    simp only [Int.natCast_add, Int.natCast_one] at e2
    rw [e2]
    simp
  unfold mp
  rw [may_pr hR.b es ms ez mz hR.t, c]
  rfl
theorem ends_at {row : List Spt} {t : Int} {held : List Int} {i : Nat} (h : i < row.length) : (endsL row t held)[i]? = some (sel row t held i ((i : Int) + 1) ((row.length : Int) - ((i : Int) + 1)).toNat) := by
  unfold endsL rngL
  rw [List.getElem?_map, List.getElem?_map, List.getElem?_range h]
  simp
theorem ends_len {row : List Spt} {t : Int} {held : List Int} : (endsL row t held).length = row.length := by simp [endsL, rngL]
theorem sel_len {row : List Spt} {t : Int} {held : List Int} {i : Int} : ∀ {m : Nat} {a : Int}, (sel row t held i a m).length ≤ m
  | 0, _ => by simp [sel]
  | m + 1, a => by
    unfold sel
    rw [List.length_append]
    have := sel_len (row := row) (t := t) (held := held) (i := i) (m := m) (a := a + 1)
    split <;> split <;> simp <;> omega
theorem ends_ok {row : List Spt} {t : Int} {held : List Int} (hR : Rw row t) (h1 : 1 ≤ row.length) : EOk (endsL row t held) := by
  have hl := hR.l
  refine ⟨by rw [ends_len]; omega, by rw [ends_len]; exact h1, fun i e hi he => ?_, fun i e j he hj => ?_⟩
  · rw [ends_len] at hi
    rw [ends_at (by omega)] at he
    cases he
    refine ⟨fun z => ?_, Nat.le_trans sel_len (by omega)⟩
    have m : ((i : Int) + 1) ∈ sel row t held i ((i : Int) + 1) ((row.length : Int) - ((i : Int) + 1)).toNat := (sel_mem held).mpr ⟨by omega, by omega, mp_next hR hi, fun x hx => by omega⟩
    rw [z] at m
    simp at m
  · have hi : i < row.length := by
      have := (List.getElem?_eq_some_iff.mp he).1
      rw [ends_len] at this
      exact this
    rw [ends_at hi] at he
    cases he
    have := (sel_mem held).mp hj
    rw [ends_len]
    omega
end G

namespace G
open PySem L2 M
/-! ### tools of loops and lists -/
theorem loopC_chk {α : Type} {f : Unit → α → Option (Ct Bool Unit)} {g : α → Bool} : ∀ (xs : List α), (∀ x ∈ xs, f () x = some (if g x then .ret false else .go ())) → loopC f xs () = some (if xs.any g then .ret false else .go ())
  | [], _ => rfl
  | x :: r, h => by
    have hx := h x (List.mem_cons_self ..)
    have hr := loopC_chk r fun y hy => h y (List.mem_cons_of_mem _ hy)
    unfold loopC
    rw [hx, Option.bind_some]
    by_cases c : g x = true
    · simp [c]
    · simp only [c, Bool.false_eq_true, if_false, List.any_cons, Bool.false_or]
      exact hr
theorem loopC_app {α β ρ : Type} {f : List β → α → Option (Ct ρ (List β))} {g : α → List β} {M c : Nat} : ∀ (xs : List α) (s : List β), (∀ x ∈ xs, (g x).length ≤ c ∧ ∀ s, s.length + c ≤ M → f s x = some (.go (s ++ g x))) → s.length + xs.length * c ≤ M → loopC f xs s = some (.go (s ++ xs.flatMap g))
  | [], s, _, _ => by simp [loopC]
  | x :: r, s, h, hb => by
    have hx := h x (List.mem_cons_self ..)
    have e : (x :: r).length * c = c + r.length * c := by rw [List.length_cons, Nat.succ_mul, Nat.add_comm]
    rw [e] at hb
    unfold loopC
    rw [hx.2 s (by omega), Option.bind_some]
    refine (loopC_app r (s ++ g x) (fun y hy => h y (List.mem_cons_of_mem _ hy)) ?_).trans ?_
    · rw [List.length_append]
      have := hx.1
      omega
    · simp
theorem filO_gen {α : Type} {g : α → Option Bool} {p : α → Bool} : ∀ (xs : List α), (∀ x ∈ xs, g x = some (p x)) → filO (fun x => bd (g x) fun k => if k then bd (some x) fun y => some (some y) else some none) xs = some (xs.filter p)
  | [], _ => rfl
  | x :: r, h => by
    have hr := filO_gen r fun y hy => h y (List.mem_cons_of_mem _ hy)
    simp only [filO, h x (List.mem_cons_self ..), bd, Option.bind_some] at hr ⊢
    by_cases c : p x = true
    · simp [c, hr]
    · simp [c, hr]
theorem fil_gen {α : Type} {g : α → Option Bool} {p : α → Bool} {xs : List α} (hl : xs.length ≤ 1000) (h : ∀ x ∈ xs, g x = some (p x)) : filL? g (fun x => some x) xs = some (xs.filter p) := by
  unfold filL?
  rw [if_pos (by omega)]
  exact filO_gen xs h
theorem at_get {α : Type} {xs : List α} {j : Int} (d : α) (h0 : 0 ≤ j) (h : j < xs.length) : atI xs j = some (xs.getD j.toNat d) := by
  rw [atI_toNat h0 h, List.getD_eq_getElem?_getD, List.getElem?_eq_getElem (by omega)]
  rfl
theorem at_lastD {α : Type} {xs : List α} (d : α) (h : xs ≠ []) : atI xs (-1) = some (xs.getD (xs.length - 1) d) := by
  have hl := List.length_pos_iff.mpr h
  unfold atI ixN
  rw [if_neg (by decide), if_pos (by omega), Option.bind_some, show ((-1 : Int) + (xs.length : Int)).toNat = xs.length - 1 by omega, List.getD_eq_getElem?_getD, List.getElem?_eq_getElem (by omega)]
  rfl
theorem rng_memI {lo x : Int} {n : Nat} (h : lo ≤ x ∧ x < lo + n) : x ∈ rngL lo n := by
  unfold rngL
  rw [List.mem_map]
  exact ⟨(x - lo).toNat, by simp; omega, by omega⟩
theorem memD_iff {α : Type} [DecidableEq α] {x : α} {xs : List α} : memD x xs = true ↔ x ∈ xs := by simp [memD]
/-! ### whether a piece leads on -/
def ek (row : List Spt) (t : Int) (held : List Int) (i k : Int) : Bool := decide (held.filter (fun h => decide (i < h) && decide (h < k)) = []) && mp row t i k
def stepsL (row : List Spt) (t : Int) (held : List Int) : List (Int × Int) := (rngL 0 row.length).flatMap fun i => (rngL (i + 1) ((row.length : Int) - (i + 1)).toNat).flatMap fun k => if ek row t held i k then [(i, k)] else []
theorem steps_mem {row : List Spt} {t : Int} {held : List Int} {x y : Int} : (x, y) ∈ stepsL row t held ↔ 0 ≤ x ∧ x < y ∧ y < row.length ∧ ek row t held x y = true := by
  unfold stepsL
  simp only [List.mem_flatMap]
  constructor
  · rintro ⟨i, hi, k, hk, h⟩
    have := rng_mem hi
    have := rng_mem hk
    by_cases c : ek row t held i k = true
    · rw [if_pos c] at h
      simp only [List.mem_singleton, Prod.mk.injEq] at h
      obtain ⟨rfl, rfl⟩ := h
      exact ⟨by omega, by omega, by omega, c⟩
    · rw [if_neg c] at h
      simp at h
  · rintro ⟨h0, h1, h2, c⟩
    exact ⟨x, rng_memI (by omega), y, rng_memI (by omega), by rw [if_pos c]; simp⟩
theorem ek_sel {row : List Spt} {t : Int} {held : List Int} {i k : Int} (h : i < k) (hk : k < row.length) : ek row t held i k = true ↔ k ∈ sel row t held i (i + 1) ((row.length : Int) - (i + 1)).toNat := by
  rw [sel_mem]
  unfold ek
  simp only [Bool.and_eq_true, decide_eq_true_eq, List.filter_eq_nil_iff]
  constructor
  · rintro ⟨h1, h2⟩
    exact ⟨by omega, by omega, h2, fun z hz hh => h1 z hz ⟨by omega, by omega⟩⟩
  · rintro ⟨_, _, h2, h1⟩
    exact ⟨fun z hz hh => h1 z hz ⟨by omega, by omega⟩, h2⟩
theorem ends_atI {row : List Spt} {t : Int} {held : List Int} {x : Int} (h0 : 0 ≤ x) (h : x < row.length) : atI (endsL row t held) x = some (sel row t held x (x + 1) ((row.length : Int) - (x + 1)).toNat) := by
  rw [atI_toNat h0 (by rw [ends_len]; exact h), ends_at (by omega), show ((x.toNat : Nat) : Int) = x by omega]
def nm (ns : List Int) (x : Int) : Int := ns.getD x.toNat 0
/-- the numbers fall by more than one along some step -/
def badN (row : List Spt) (t : Int) (held ns : List Int) : Bool := (stepsL row t held).any fun p => decide (nm ns p.2 + 1 < nm ns p.1)
theorem flatMap_len {α β : Type} {g : α → List β} {c : Nat} : ∀ xs : List α, (∀ x ∈ xs, (g x).length ≤ c) → (xs.flatMap g).length ≤ xs.length * c
  | [], _ => by simp
  | x :: r, h => by
    have := flatMap_len r fun y hy => h y (List.mem_cons_of_mem _ hy)
    have := h x (List.mem_cons_self ..)
    rw [List.flatMap_cons, List.length_append, List.length_cons, Nat.succ_mul]
    omega
def pairB (row : List Spt) (t : Int) (held told ns : List Int) (k : Int) : Bool := !memD (nm told (k - 1), nm told k) (stepsL row t held) || !decide (nm ns (nm told (k - 1)) = nm ns (nm told k) + 1)
theorem rng2n {a b : Int} (ha : 0 ≤ a) (ha' : a ≤ 1000) (hb : b ≤ 1000) (hb0 : 0 ≤ b) : rng2? a b = some (rngL a (b - a).toNat) := rng2_eq (by omega) (by omega)
end G

namespace G
open PySem L2 M
def ledT (row : List Spt) (told : List Int) : Bool := decide (told ≠ []) && decide (nm told 0 = 0) && decide (nm told ((told.length : Int) - 1) = (row.length : Int) - 1)
def ledR (told : List Int) : Bool := (rngL 1 ((told.length : Int) - 1).toNat).all fun k => decide (nm told (k - 1) < nm told k)
theorem leads_eq {row : List Spt} {told : List Int} (ht : told.length ≤ 1000) : m_leads_through row told = some (ledT row told && ledR told) := by
  unfold ledT ledR
  by_cases c4 : told = []
  · subst c4
    simp [m_leads_through, bd]
  have tl := List.length_pos_iff.mpr c4
  have e0 : atI told 0 = some (nm told 0) := at_get 0 (by omega) (by omega)
  have e1 : atI told (-1) = some (nm told ((told.length : Int) - 1)) := by
    rw [at_lastD 0 c4]
    unfold nm
    rw [show ((told.length : Int) - 1).toNat = told.length - 1 by omega]
  have c4' : told.isEmpty = false := by cases told with | nil => exact absurd rfl c4 | cons => rfl
  simp only [m_leads_through, bd, Option.bind_some, c4', Bool.not_false, Bool.not_true, Bool.false_eq_true, if_false, e0, e1, ne_eq, c4, not_false_eq_true, decide_true, Bool.true_and]
  by_cases c5 : nm told 0 = 0
  rotate_left
  · simp [c5]
  by_cases c6 : nm told ((told.length : Int) - 1) = (row.length : Int) - 1
  rotate_left
  · simp [c5, c6]
  simp only [c5, c6, decide_true, Bool.not_true, Bool.false_eq_true, if_false, Bool.true_and, Option.bind_some]
  rw [rng2n (by omega) (by omega) (by omega) (by omega), Option.bind_some, mapL_eq (g := fun k => decide (nm told (k - 1) < nm told k)) (by rw [rng_len]; omega), Option.bind_some, List.all_map]
  · rfl
  · intro k hk
    have hk := rng_mem hk
    rw [show atI told (k - 1) = some (nm told (k - 1)) from at_get 0 (by omega) (by omega), show atI told k = some (nm told k) from at_get 0 (by omega) (by omega)]
    rfl
theorem rise {told : List Int} (h : ledR told = true) {i : Int} (i0 : 0 ≤ i) : ∀ d : Nat, i + d < told.length → nm told i ≤ nm told (i + d)
  | 0, _ => by simp
  | d + 1, hd => by
    have h1 := rise h i0 d (by omega)
    unfold ledR at h
    have h2 := List.all_eq_true.mp h (i + (d + 1 : Nat)) (rng_memI (by omega))
    have h2 := of_decide_eq_true h2
    rw [show i + ((d + 1 : Nat) : Int) - 1 = i + d by omega] at h2
    omega
theorem rise_in {row : List Spt} {told : List Int} (hT : ledT row told = true) (h : ledR told = true) {i : Int} (i0 : 0 ≤ i) (i1 : i < told.length) : 0 ≤ nm told i ∧ nm told i < row.length := by
  unfold ledT at hT
  simp only [Bool.and_eq_true, decide_eq_true_eq] at hT
  have h1 := rise h (i := 0) (by omega) i.toNat (by omega)
  have h2 := rise h i0 (((told.length : Int) - 1 - i).toNat) (by omega)
  rw [show (0 : Int) + (i.toNat : Nat) = i by omega] at h1
  rw [show i + ((((told.length : Int) - 1 - i).toNat : Nat) : Int) = (told.length : Int) - 1 by omega] at h2
  omega
theorem holds_eq {row : List Spt} {t : Int} {told ns held : List Int} (hR : Rw row t) (h2 : 2 ≤ row.length) (hh : held.length ≤ 1000) (ht : told.length ≤ 1000) :
    m_kept_holds row t told ns held = some (decide (ns.length = row.length) && decide (nm ns ((row.length : Int) - 1) = 0) && !badN row t held ns && ledT row told && !((rngL 1 ((told.length : Int) - 1).toNat).any (pairB row t held told ns))) := by
  have hl := hR.l
  by_cases c1 : ns.length = row.length
  rotate_left
  · have c1' : (ns.length : Int) ≠ (row.length : Int) := by omega
    simp only [m_kept_holds, bd, Option.bind_some, c1, c1', decide_false, Bool.not_false, if_true, Bool.false_and]
  have c1' : (ns.length : Int) = (row.length : Int) := by omega
  have a1 : atI ns (-1) = some (nm ns ((row.length : Int) - 1)) := by
    rw [at_lastD 0 (fun z => by rw [z] at c1; simp at c1; omega)]
    unfold nm
    rw [show ((row.length : Int) - 1).toNat = ns.length - 1 by omega]
  simp only [m_kept_holds, bd, Option.bind_some, c1, c1', decide_true, Bool.not_true, Bool.false_eq_true, if_false, a1, Bool.true_and]
  by_cases c2 : nm ns ((row.length : Int) - 1) = 0
  rotate_left
  · simp only [c2, decide_false, Bool.not_false, if_true, Bool.false_and, Option.bind_some]
  simp only [c2, decide_true, Bool.not_true, Bool.false_eq_true, if_false, Bool.true_and, leads_eq ht, Option.bind_some]
  by_cases c3 : ledT row told = true
  rotate_left
  · simp only [c3, Bool.false_and, Bool.not_false, if_true, Option.bind_some, Bool.and_false]
  by_cases c4 : ledR told = true
  rotate_left
  · have : (rngL 1 ((told.length : Int) - 1).toNat).any (pairB row t held told ns) = true := by
      unfold ledR at c4
      rw [Bool.not_eq_true, List.all_eq_false] at c4
      obtain ⟨k, hk, hn⟩ := c4
      refine List.any_eq_true.mpr ⟨k, hk, ?_⟩
      unfold pairB
      rw [Bool.or_eq_true]
      left
      rw [Bool.not_eq_true']
      rw [Bool.eq_false_iff]
      exact fun hm => hn (decide_eq_true (steps_mem.mp (memD_iff.mp hm)).2.1)
    simp only [c3, c4, this, Bool.and_false, Bool.not_false, if_true, Bool.not_true, Option.bind_some]
  simp only [c3, c4, Bool.and_self, Bool.not_true, Bool.false_eq_true, if_false, Bool.and_true, ends_of_eq held hR, Option.bind_some]
  rw [show rng1? (row.length : Int) = some (rngL 0 row.length) from ends_of_e1 hl, Option.bind_some]
  rw [loopC_chk (g := fun i => (sel row t held i (i + 1) ((row.length : Int) - (i + 1)).toNat).any fun j => decide (1 < nm ns i - nm ns j)) _ ?_]
  rotate_left
  · intro i hi
    have hi := rng_mem hi
    rw [ends_atI (by omega) (by omega), Option.bind_some, mapL_eq (g := fun j => decide (1 < nm ns i - nm ns j)) (Nat.le_trans sel_len (by omega))]
    · simp only [Option.bind_some, List.any_map]
      show (if ((sel row t held i (i + 1) ((row.length : Int) - (i + 1)).toNat).any fun j => decide (1 < nm ns i - nm ns j)) = true then _ else _) = _
      split <;> rfl
    · intro j hj
      have hj := (sel_mem (held := held)).mp hj
      rw [show atI ns i = some (nm ns i) from at_get 0 (by omega) (by omega), show atI ns j = some (nm ns j) from at_get 0 (by omega) (by omega)]
      rfl
  rw [show ((rngL 0 row.length).any fun i => (sel row t held i (i + 1) ((row.length : Int) - (i + 1)).toNat).any fun j => decide (1 < nm ns i - nm ns j)) = badN row t held ns from by
    rw [Bool.eq_iff_iff]
    unfold badN
    simp only [List.any_eq_true, decide_eq_true_eq]
    constructor
    · rintro ⟨i, hi, j, hj, h⟩
      have hi := rng_mem hi
      have hj' := (sel_mem (held := held)).mp hj
      exact ⟨(i, j), steps_mem.mpr ⟨by omega, by omega, by omega, (ek_sel (by omega) (by omega)).mpr hj⟩, by dsimp only; omega⟩
    · rintro ⟨⟨i, j⟩, hp, h⟩
      obtain ⟨h0, h1, h3, h4⟩ := steps_mem.mp hp
      exact ⟨i, rng_memI (by omega), j, (ek_sel (by omega) (by omega)).mp h4, by dsimp only at h; omega⟩]
  rw [Option.bind_some]
  by_cases c5 : badN row t held ns = true
  · simp only [c5, if_true, Bool.not_true, Bool.false_and]
  simp only [c5, Bool.false_eq_true, if_false, Bool.not_false, Bool.true_and]
  rw [rng2n (by omega) (by omega) (by omega) (by omega), Option.bind_some, mapL_eq (g := fun k => !pairB row t held told ns k) (by rw [rng_len]; omega), Option.bind_some, List.all_map]
  · congr 1
    rw [Bool.eq_iff_iff]
    simp [List.all_eq_true, List.any_eq_false]
  · intro k hk
    have hk' := rng_mem hk
    rw [show atI told (k - 1) = some (nm told (k - 1)) from at_get 0 (by omega) (by omega), show atI told k = some (nm told k) from at_get 0 (by omega) (by omega)]
    have r1 := rise_in c3 c4 (i := k - 1) (by omega) (by omega)
    have r2 := rise_in c3 c4 (i := k) (by omega) (by omega)
    have lt : nm told (k - 1) < nm told k := by
      unfold ledR at c4
      exact of_decide_eq_true (List.all_eq_true.mp c4 k hk)
    simp only [Option.bind_some, m_falls, bd, ends_atI r1.1 r1.2]
    rw [show atI ns (nm told (k - 1)) = some (nm ns (nm told (k - 1))) from at_get 0 (by omega) (by omega), show atI ns (nm told k) = some (nm ns (nm told k)) from at_get 0 (by omega) (by omega)]
    have e : memD (nm told (k - 1), nm told k) (stepsL row t held) = decide (nm told k ∈ sel row t held (nm told (k - 1)) (nm told (k - 1) + 1) ((row.length : Int) - (nm told (k - 1) + 1)).toNat) := by
      rw [Bool.eq_iff_iff, memD_iff]
      simp only [decide_eq_true_eq]
      rw [steps_mem, ek_sel lt r2.2]
      constructor
      · exact fun h => h.2.2.2
      · exact fun h => ⟨r1.1, lt, r2.2, h⟩
    unfold pairB
    rw [e]
    by_cases c : nm told k ∈ sel row t held (nm told (k - 1)) (nm told (k - 1) + 1) ((row.length : Int) - (nm told (k - 1) + 1)).toNat
    · simp only [c, decide_true, if_true, Option.bind_some, Bool.not_true, Bool.false_or, Bool.not_not]
      congr 1
      rw [Bool.eq_iff_iff]
      simp only [decide_eq_true_eq]
      omega
    · simp [c]
end G

namespace G
open PySem L2 M
theorem whileC_meas {δ ρ : Type} {t : δ → Option Bool} {f : δ → Option (Ct ρ δ)} (J : δ → Prop) (μ : δ → Nat) (h : ∀ s, J s → t s = some false ∨ (t s = some true ∧ ∃ s', f s = some (.go s') ∧ J s' ∧ μ s' < μ s)) : ∀ (n : Nat) (s : δ), J s → μ s < n → ∃ s', whileC t f n s = some (.go s') ∧ J s' ∧ t s' = some false
  | 0, s, _, hm => by omega
  | n + 1, s, hJ, hm => by
    rcases h s hJ with h1 | ⟨h1, s', h2, h3, h4⟩
    · exact ⟨s, whileC_stop h1, hJ, h1⟩
    · obtain ⟨z, e1, e2, e3⟩ := whileC_meas J μ h n s' h3 (by omega)
      exact ⟨z, by rw [whileC_go h1 h2, e1], e2, e3⟩
theorem min_mem {xs : List Int} (h : xs ≠ []) : ∃ m, xs.min? = some m ∧ m ∈ xs := by
  cases e : xs.min? with
  | none => exact absurd (List.min?_eq_none_iff.mp e) h
  | some m => exact ⟨m, rfl, List.min?_mem e⟩
theorem nm_app1 {xs : List Int} {m k : Int} (h0 : 0 ≤ k) (h : k < xs.length) : nm (xs ++ [m]) k = nm xs k := by
  unfold nm
  rw [List.getD_eq_getElem?_getD, List.getD_eq_getElem?_getD, List.getElem?_append_left (by omega)]
theorem nm_app2 {xs : List Int} {m : Int} : nm (xs ++ [m]) xs.length = m := by
  unfold nm
  rw [Int.toNat_natCast, List.getD_eq_getElem?_getD, List.getElem?_append_right (Nat.le_refl _), Nat.sub_self]
  rfl
/-- told so far -/
structure Kp (row : List Spt) (t : Int) (held cs told : List Int) : Prop where
  ne : told ≠ []
  hd : nm told 0 = 0
  lt : 0 ≤ nm told ((told.length : Int) - 1) ∧ nm told ((told.length : Int) - 1) < row.length
  ln : (told.length : Int) ≤ nm told ((told.length : Int) - 1) + 1
  pr : ∀ k : Int, 1 ≤ k → k < told.length → pairB row t held told cs k = false
  mn : ∀ k : Int, 1 ≤ k → k < told.length → ∀ y : Int, (nm told (k - 1), y) ∈ stepsL row t held → nm cs (nm told (k - 1)) = nm cs y + 1 → nm told k ≤ y
theorem cn_at {row : List Spt} {t : Int} {held cs : List Int} (cn : Cn (endsL row t held) cs 0) {x : Int} (h0 : 0 ≤ x) (h : x < (row.length : Int) - 1) :
    ∃ j ∈ sel row t held x (x + 1) ((row.length : Int) - (x + 1)).toNat, nm cs x = 1 + nm cs j := by
  have len := cn.len
  rw [ends_len] at len
  have e := ends_at (row := row) (t := t) (held := held) (i := x.toNat) (by omega)
  rw [show ((x.toNat : Nat) : Int) = x by omega] at e
  obtain ⟨_, j, hj, d, hd, hc⟩ := cn.at_ x.toNat _ _ (Nat.zero_le _) (by rw [ends_len]; omega) e (List.getElem?_eq_getElem (by omega))
  refine ⟨j, hj, ?_⟩
  unfold nm
  rw [List.getD_eq_getElem?_getD, List.getD_eq_getElem?_getD, hd, List.getElem?_eq_getElem (by omega)]
  exact hc
theorem kept_ex {row : List Spt} {t : Int} (held : List Int) {cs : List Int} (hR : Rw row t) (h1 : 1 ≤ row.length) (ec : m_counts_of (endsL row t held) = some cs) (cn : Cn (endsL row t held) cs 0) :
    ∃ ks, m_kept row t held = some ks ∧ ks.length ≤ 20 ∧ Kp row t held cs ks ∧ nm ks ((ks.length : Int) - 1) = (row.length : Int) - 1 := by
  have hl := hR.l
  have len := cn.len
  rw [ends_len] at len
  simp only [m_kept, bd, Option.bind_some, ends_of_eq held hR, ec]
  have key := whileC_meas (ρ := List Int) (t := fun s_4 => (atI s_4 (-1)).bind fun x => some (decide (x < (row.length : Int) - 1)))
    (f := fun s_4 => (atI s_4 (-1)).bind fun here_5 => (((atI (endsL row t held) here_5).bind fun xs => filL? (fun last_6 => (atI cs last_6).bind fun x => ((atI cs here_5).bind fun x => some (x - 1)).bind fun y => some (decide (x = y))) (fun last_6 => some last_6) xs).bind fun x => x.min?).bind fun a7 => (app? s_4 a7).bind fun told_8 => some (Ct.go told_8))
    (Kp row t held cs) (fun told => row.length - (nm told ((told.length : Int) - 1)).toNat) ?_ 100000 [0] ⟨by simp, by simp [nm], by simp [nm]; omega, by simp [nm], (fun k h1 h2 => by simp at h2; omega), (fun k h1 h2 => by simp at h2; omega)⟩ (by simp [nm]; omega)
  · obtain ⟨ks, e1, kp, e2⟩ := key
    have el : atI ks (-1) = some (nm ks ((ks.length : Int) - 1)) := by
      have := List.length_pos_iff.mpr kp.ne
      rw [at_lastD 0 kp.ne]
      unfold nm
      rw [show ((ks.length : Int) - 1).toNat = ks.length - 1 by omega]
    rw [el, Option.bind_some] at e2
    have e2 := of_decide_eq_false (Option.some.inj e2)
    have h3 := kp.lt
    have h4 := kp.ln
    refine ⟨ks, ?_, by omega, kp, by omega⟩
    rw [e1]
    rfl
  · intro s kp
    have sl := List.length_pos_iff.mpr kp.ne
    have el : atI s (-1) = some (nm s ((s.length : Int) - 1)) := by
      rw [at_lastD 0 kp.ne]
      unfold nm
      rw [show ((s.length : Int) - 1).toNat = s.length - 1 by omega]
    have h3 := kp.lt
    have h4 := kp.ln
    generalize hx : nm s ((s.length : Int) - 1) = x at *
    rw [el]
    simp only [Option.bind_some]
    by_cases c : x < (row.length : Int) - 1
    · right
      refine ⟨by rw [decide_eq_true c], ?_⟩
      obtain ⟨j, hj, hc⟩ := cn_at cn h3.1 c
      rw [ends_atI h3.1 h3.2, Option.bind_some, fil_gen (p := fun k => decide (nm cs k = nm cs x - 1)) (Nat.le_trans sel_len (by omega))]
      · obtain ⟨m, em, hm⟩ := min_mem (xs := (sel row t held x (x + 1) ((row.length : Int) - (x + 1)).toNat).filter fun k => decide (nm cs k = nm cs x - 1)) (fun z => by
          have : j ∈ (sel row t held x (x + 1) ((row.length : Int) - (x + 1)).toNat).filter fun k => decide (nm cs k = nm cs x - 1) := List.mem_filter.mpr ⟨hj, by simp; omega⟩
          rw [z] at this
          simp at this)
        obtain ⟨hm1, hm2⟩ := List.mem_filter.mp hm
        have hm2 := of_decide_eq_true hm2
        have hm3 := (sel_mem (held := held)).mp hm1
        rw [Option.bind_some, em, Option.bind_some, app_eq _ (by omega)]
        have ll : (((s ++ [m]).length : Nat) : Int) - 1 = s.length := by simp
        refine ⟨s ++ [m], rfl, ⟨by simp, by rw [nm_app1 (by omega) (by omega)]; exact kp.hd, ?_, ?_, fun k k1 k2 => ?_, fun k k1 k2 y hy hc' => ?_⟩, ?_⟩
        · rw [ll, nm_app2]
          omega
        · rw [ll, nm_app2]
          simp
          omega
        · by_cases ck : k < s.length
          · have := kp.pr k k1 ck
            unfold pairB at this ⊢
            rw [nm_app1 (by omega) (by omega), nm_app1 (by omega) ck]
            exact this
          · have : k = s.length := by simp at k2; omega
            subst this
            unfold pairB
            rw [nm_app1 (by omega) (by omega), nm_app2, hx, Bool.or_eq_false_iff]
            refine ⟨?_, ?_⟩
            · rw [Bool.not_eq_false', memD_iff, steps_mem]
              exact ⟨h3.1, by omega, by omega, (ek_sel (by omega) (by omega)).mpr hm1⟩
            · rw [Bool.not_eq_false']
              exact decide_eq_true (by omega)
        · by_cases ck : k < s.length
          · rw [nm_app1 (by omega) (by omega)] at hy hc'
            rw [nm_app1 (by omega) ck]
            exact kp.mn k k1 ck y hy hc'
          · have : k = s.length := by simp at k2; omega
            subst this
            rw [nm_app1 (by omega) (by omega), hx] at hy hc'
            rw [nm_app2]
            obtain ⟨y0, y1, y2, y3⟩ := steps_mem.mp hy
            exact (List.min?_eq_some_iff.mp em).2 y (List.mem_filter.mpr ⟨(ek_sel y1 y2).mp y3, decide_eq_true (by omega)⟩)
        · rw [ll, nm_app2]
          omega
      · intro k hk
        have hk' := (sel_mem (held := held)).mp hk
        rw [show atI cs k = some (nm cs k) from at_get 0 (by omega) (by omega), show atI cs x = some (nm cs x) from at_get 0 (by omega) (by omega)]
        rfl
    · left
      rw [decide_eq_false c]
theorem cat_eq {α : Type} {xs ys : List α} (h : xs.length + ys.length ≤ 1000) : cat? xs ys = some (xs ++ ys) := by
  unfold cat?
  rw [if_pos (by omega)]
end G

namespace G
open PySem L2 M
/-- a way through the corners, from 0 to e -/
inductive Pth (E : Int → Int → Prop) : List Int → Int → Prop
  | one : Pth E [0] 0
  | snoc {l : List Int} {e k : Int} : Pth E l e → E e k → Pth E (l ++ [k]) k
abbrev St' (row : List Spt) (t : Int) (stops : List Int) (x y : Int) : Prop := (x, y) ∈ stepsL row t stops
theorem Pth.nn {row : List Spt} {t : Int} {stops l : List Int} {e : Int} (h : Pth (St' row t stops) l e) : 0 ≤ e := by
  cases h with
  | one => omega
  | snoc _ hs =>
    have := steps_mem.mp hs
    omega
theorem Pth.zero {row : List Spt} {t : Int} {stops l : List Int} (h : Pth (St' row t stops) l 0) : l = [0] := by
  generalize he : (0 : Int) = e at h
  cases h with
  | one => rfl
  | snoc _ hs =>
    have := steps_mem.mp hs
    omega
theorem Pth.ln {row : List Spt} {t : Int} {stops l : List Int} {e : Int} (h : Pth (St' row t stops) l e) : (l.length : Int) ≤ e + 1 := by
  induction h with
  | one => simp
  | snoc _ hs ih =>
    have := steps_mem.mp hs
    simp
    omega
theorem at_snoc (l : List Int) (k : Int) : atI (l ++ [k]) (-1) = some k := by
  unfold atI ixN
  rw [if_neg (by decide), if_pos (by simp; omega), Option.bind_some, show ((-1 : Int) + ((l ++ [k]).length : Int)).toNat = l.length by simp; omega]
  simp
theorem step_of {row : List Spt} {t : Int} {stops : List Int} {x y : Int} (h0 : 0 ≤ x) (h1 : x < y) (h2 : y < row.length) (h3 : mp row t x y = true) (h4 : ∀ h ∈ stops, ¬ (x < h ∧ h < y)) : St' row t stops x y := by
  refine steps_mem.mpr ⟨h0, h1, h2, ?_⟩
  unfold ek
  simp only [Bool.and_eq_true, decide_eq_true_eq, List.filter_eq_nil_iff]
  exact ⟨fun z hz hh => h4 z hz hh, h3⟩
theorem step_to {row : List Spt} {t : Int} {stops : List Int} {x y : Int} (h : St' row t stops x y) : 0 ≤ x ∧ x < y ∧ y < row.length ∧ mp row t x y = true ∧ ∀ h ∈ stops, ¬ (x < h ∧ h < y) := by
  obtain ⟨h0, h1, h2, h3⟩ := steps_mem.mp h
  unfold ek at h3
  simp only [Bool.and_eq_true, decide_eq_true_eq, List.filter_eq_nil_iff] at h3
  exact ⟨h0, h1, h2, h3.2, fun z hz hh => h3.1 z hz hh⟩
/-! ### the order of lists -/
theorem lexI_irrefl : ∀ x : List Int, lexI x x = false
  | [] => rfl
  | x :: xs => by simp [lexI, lexI_irrefl xs]
theorem lexI_trans : ∀ x y z : List Int, lexI x y = true → lexI y z = true → lexI x z = true
  | [], [], _, h, _ => by simp [lexI] at h
  | [], _ :: _, [], _, h => by simp [lexI] at h
  | [], _ :: _, _ :: _, _, _ => rfl
  | _ :: _, [], _, h, _ => by simp [lexI] at h
  | _ :: _, _ :: _, [], _, h => by simp [lexI] at h
  | x :: xs, y :: ys, z :: zs, h1, h2 => by
    unfold lexI at *
    by_cases a : x = y
    · subst a
      rw [if_pos rfl] at h1
      by_cases b : x = z
      · subst b
        rw [if_pos rfl] at h2 ⊢
        exact lexI_trans xs ys zs h1 h2
      · rw [if_neg b] at h2 ⊢
        exact h2
    · rw [if_neg a] at h1
      have h1 := of_decide_eq_true h1
      by_cases b : y = z
      · subst b
        rw [if_neg a]
        exact decide_eq_true h1
      · rw [if_neg b] at h2
        have h2 := of_decide_eq_true h2
        rw [if_neg (by omega)]
        exact decide_eq_true (by omega)
theorem lexI_total : ∀ x y : List Int, lexI x y = false → lexI y x = false → x = y
  | [], [], _, _ => rfl
  | [], _ :: _, h, _ => by simp [lexI] at h
  | _ :: _, [], _, h => by simp [lexI] at h
  | x :: xs, y :: ys, h1, h2 => by
    unfold lexI at h1 h2
    by_cases a : x = y
    · subst a
      rw [if_pos rfl] at h1 h2
      rw [lexI_total xs ys h1 h2]
    · rw [if_neg a] at h1
      rw [if_neg (Ne.symm a)] at h2
      have h1 := of_decide_eq_false h1
      have h2 := of_decide_eq_false h2
      omega
theorem lexI_ex : ∀ a b : List Int, lexI a b = true → ∃ i : Nat, (∀ j < i, a[j]? = b[j]?) ∧ ((a[i]? = none ∧ b[i]? ≠ none) ∨ ∃ x y, a[i]? = some x ∧ b[i]? = some y ∧ x < y)
  | [], [], h => by simp [lexI] at h
  | [], y :: ys, _ => ⟨0, fun j h => by omega, .inl ⟨rfl, by simp⟩⟩
  | _ :: _, [], h => by simp [lexI] at h
  | x :: xs, y :: ys, h => by
    unfold lexI at h
    by_cases c : x = y
    · rw [if_pos c] at h
      obtain ⟨i, h1, h2⟩ := lexI_ex xs ys h
      refine ⟨i + 1, fun j hj => ?_, by simpa using h2⟩
      cases j with
      | zero => simp [c]
      | succ j => simpa using h1 j (by omega)
    · rw [if_neg c] at h
      exact ⟨0, fun j h => by omega, .inr ⟨x, y, rfl, rfl, of_decide_eq_true h⟩⟩
/-! ### the first of the shortest -/
theorem step_le {row : List Spt} {t : Int} {stops cs : List Int} (cn : Cn (endsL row t stops) cs 0) {x y : Int} (h : St' row t stops x y) : nm cs x ≤ 1 + nm cs y := by
  obtain ⟨h0, h1, h3, h4⟩ := steps_mem.mp h
  have len := cn.len
  rw [ends_len] at len
  have e := ends_at (row := row) (t := t) (held := stops) (i := x.toNat) (by omega)
  rw [show ((x.toNat : Nat) : Int) = x by omega] at e
  obtain ⟨al, _⟩ := cn.at_ x.toNat _ _ (Nat.zero_le _) (by rw [ends_len]; omega) e (List.getElem?_eq_getElem (by omega))
  obtain ⟨d, hd, hc⟩ := al y ((ek_sel h1 h3).mp h4)
  unfold nm
  rw [List.getD_eq_getElem?_getD, List.getD_eq_getElem?_getD, hd, List.getElem?_eq_getElem (by omega)]
  exact hc
theorem Pth.cost {row : List Spt} {t : Int} {stops cs l : List Int} {e : Int} (cn : Cn (endsL row t stops) cs 0) (h : Pth (St' row t stops) l e) : nm cs 0 ≤ (l.length : Int) - 1 + nm cs e := by
  induction h with
  | one => simp
  | snoc _ hs ih =>
    have := step_le cn hs
    simp
    omega
theorem Pth.hd {row : List Spt} {t : Int} {stops l : List Int} {e : Int} (h : Pth (St' row t stops) l e) : 1 ≤ l.length ∧ nm l 0 = 0 ∧ nm l ((l.length : Int) - 1) = e := by
  induction h with
  | one => exact ⟨by simp, rfl, rfl⟩
  | @snoc l e k _ hs ih =>
    refine ⟨by simp, by rw [nm_app1 (by omega) (by omega)]; exact ih.2.1, ?_⟩
    rw [show (((l ++ [k]).length : Nat) : Int) - 1 = l.length by simp, nm_app2]
theorem Pth.tight {row : List Spt} {t : Int} {stops cs l : List Int} {e : Int} (cn : Cn (endsL row t stops) cs 0) (h : Pth (St' row t stops) l e) : nm cs 0 = (l.length : Int) - 1 + nm cs e → ∀ k : Int, 1 ≤ k → k < l.length → St' row t stops (nm l (k - 1)) (nm l k) ∧ nm cs (nm l (k - 1)) = nm cs (nm l k) + 1 := by
  induction h with
  | one => intro _ k k1 k2; simp at k2; omega
  | @snoc l e z hp hs ih =>
    intro hc k k1 k2
    have c1 := step_le cn hs
    have c2 := hp.cost cn
    simp at hc
    by_cases ck : k < l.length
    · rw [nm_app1 (by omega) (by omega), nm_app1 (by omega) ck]
      exact ih (by omega) k k1 ck
    · have : k = l.length := by simp at k2; omega
      subst this
      rw [nm_app1 (by omega) (by omega), nm_app2, hp.hd.2.2]
      exact ⟨hs, by omega⟩
theorem kp_pth {row : List Spt} {t : Int} {stops cs : List Int} : ∀ (n : Nat) (ks : List Int), ks.length = n + 1 → nm ks 0 = 0 → (∀ k : Int, 1 ≤ k → k < ks.length → St' row t stops (nm ks (k - 1)) (nm ks k) ∧ nm cs (nm ks (k - 1)) = nm cs (nm ks k) + 1) → Pth (St' row t stops) ks (nm ks n) ∧ nm cs 0 = (n : Int) + nm cs (nm ks n)
  | 0, ks, hl, h0, _ => by
    match ks, hl with
    | [x], _ =>
      have : x = 0 := h0
      subst this
      exact ⟨.one, by show nm cs 0 = 0 + nm cs 0; omega⟩
  | n + 1, ks, hl, h0, hs => by
    have ne : ks ≠ [] := fun z => by rw [z] at hl; simp at hl
    obtain ⟨l, z, rfl⟩ : ∃ l z, ks = l ++ [z] := ⟨ks.dropLast, ks.getLast ne, (List.dropLast_concat_getLast ne).symm⟩
    have ll : l.length = n + 1 := by simpa using hl
    obtain ⟨p, c⟩ := kp_pth n l ll (by have := h0; rw [nm_app1 (by omega) (by omega)] at this; exact this) fun k k1 k2 => by
      have := hs k k1 (by simp; omega)
      rw [nm_app1 (by omega) (by omega), nm_app1 (by omega) k2] at this
      exact this
    have last := hs (l.length : Int) (by omega) (by simp; omega)
    rw [nm_app1 (by omega) (by omega), nm_app2] at last
    have e1 : nm (l ++ [z]) ((n + 1 : Nat) : Int) = z := by
      rw [show ((n + 1 : Nat) : Int) = (l.length : Int) by omega, nm_app2]
    have e2 : (l.length : Int) - 1 = n := by omega
    rw [e2] at last
    rw [e1]
    exact ⟨.snoc p last.1, by have := last.2; omega⟩
end G

namespace G
open PySem L2 M
/-! ### the first of the shortest: kept's -/
theorem cs_last {row : List Spt} {t : Int} {stops cs : List Int} (h1 : 1 ≤ row.length) (cn : Cn (endsL row t stops) cs 0) : nm cs ((row.length : Int) - 1) = 0 := by
  have := cn.last (row.length - 1) (by rw [ends_len]; omega)
  unfold nm
  rw [List.getD_eq_getElem?_getD, show ((row.length : Int) - 1).toNat = row.length - 1 by omega, this]
  rfl
theorem Kp.tight {row : List Spt} {t : Int} {stops cs ks : List Int} (kp : Kp row t stops cs ks) : ∀ k : Int, 1 ≤ k → k < ks.length → St' row t stops (nm ks (k - 1)) (nm ks k) ∧ nm cs (nm ks (k - 1)) = nm cs (nm ks k) + 1 := fun k k1 k2 => by
  have := kp.pr k k1 k2
  unfold pairB at this
  rw [Bool.or_eq_false_iff, Bool.not_eq_false', memD_iff, Bool.not_eq_false', decide_eq_true_eq] at this
  exact this
theorem kept_min {row : List Spt} {t : Int} {stops cs ks : List Int} (h1 : 1 ≤ row.length) (cn : Cn (endsL row t stops) cs 0) (kp : Kp row t stops cs ks) (kl : nm ks ((ks.length : Int) - 1) = (row.length : Int) - 1) :
    Pth (St' row t stops) ks ((row.length : Int) - 1) ∧ nm cs 0 = (ks.length : Int) - 1 ∧ ∀ l, Pth (St' row t stops) l ((row.length : Int) - 1) → ks.length ≤ l.length ∧ (l.length = ks.length → lexI l ks = false) := by
  have len := cn.len
  rw [ends_len] at len
  have c0 := cs_last h1 cn
  have klen := List.length_pos_iff.mpr kp.ne
  have ktight := kp.tight
  obtain ⟨kp1, kc⟩ := kp_pth (row := row) (t := t) (stops := stops) (cs := cs) (ks.length - 1) ks (by omega) kp.hd ktight
  rw [show ((ks.length - 1 : Nat) : Int) = (ks.length : Int) - 1 by omega, kl] at kp1 kc
  rw [c0] at kc
  refine ⟨kp1, by omega, fun l pl => ?_⟩
  have cost := pl.cost cn
  rw [c0] at cost
  refine ⟨by omega, fun hl2 => ?_⟩
  have tl := pl.tight cn (by rw [c0]; omega)
  rw [Bool.eq_false_iff]
  intro lt
  obtain ⟨i, h1, h2⟩ := lexI_ex _ _ lt
  rcases h2 with ⟨h2, h3⟩ | ⟨x, y, h2, h3, h4⟩
  · rw [List.getElem?_eq_none_iff] at h2
    exact h3 (List.getElem?_eq_none_iff.mpr (by omega))
  · have hi : i < l.length := (List.getElem?_eq_some_iff.mp h2).1
    have nl : ∀ (q : List Int) (j : Nat) (v : Int), q[j]? = some v → nm q j = v := fun q j v e => by
      unfold nm
      rw [Int.toNat_natCast, List.getD_eq_getElem?_getD, e]
      rfl
    have ex := nl l i x h2
    have ey := nl ks i y h3
    by_cases i0 : i = 0
    · subst i0
      have a1 := pl.hd.2.1
      have a2 := kp.hd
      have b1 : nm l ((0 : Nat) : Int) = 0 := a1
      have b2 : nm ks ((0 : Nat) : Int) = 0 := a2
      omega
    · have pre := h1 (i - 1) (by omega)
      have ep : nm l ((i : Int) - 1) = nm ks ((i : Int) - 1) := by
        unfold nm
        rw [show ((i : Int) - 1).toNat = i - 1 by omega, List.getD_eq_getElem?_getD, List.getD_eq_getElem?_getD, pre]
      have t1 := tl i (by omega) (by omega)
      rw [ep, ex] at t1
      have := kp.mn i (by omega) (by omega) x t1.1 t1.2
      omega
/-! ### the head of what is sorted -/
theorem ltPL_irrefl (x : Int × List Int) : ltPL x x = false := by
  unfold ltPL
  rw [if_pos rfl]
  exact lexI_irrefl _
theorem ltPL_trans {x y z : Int × List Int} (h1 : ltPL x y = true) (h2 : ltPL y z = true) : ltPL x z = true := by
  unfold ltPL at *
  by_cases a : x.1 = y.1
  · rw [if_pos a] at h1
    by_cases b : y.1 = z.1
    · rw [if_pos b] at h2
      rw [if_pos (by omega)]
      exact lexI_trans _ _ _ h1 h2
    · rw [if_neg b] at h2
      rw [if_neg (by omega)]
      have := of_decide_eq_true h2
      exact decide_eq_true (by omega)
  · rw [if_neg a] at h1
    have h1 := of_decide_eq_true h1
    by_cases b : y.1 = z.1
    · rw [if_neg (by omega)]
      exact decide_eq_true (by omega)
    · rw [if_neg b] at h2
      have h2 := of_decide_eq_true h2
      rw [if_neg (by omega)]
      exact decide_eq_true (by omega)
theorem ltPL_total {x y : Int × List Int} (h1 : ltPL x y = false) (h2 : ltPL y x = false) : x = y := by
  unfold ltPL at *
  by_cases a : x.1 = y.1
  · rw [if_pos a] at h1
    rw [if_pos a.symm] at h2
    exact Prod.ext a (lexI_total _ _ h1 h2)
  · rw [if_neg a] at h1
    rw [if_neg (Ne.symm a)] at h2
    have h1 := of_decide_eq_false h1
    have h2 := of_decide_eq_false h2
    omega
theorem ltPL_neg {x y z : Int × List Int} (h1 : ltPL y x = false) (h2 : ltPL z y = false) : ltPL z x = false := by
  rw [Bool.eq_false_iff]
  intro h
  by_cases c : ltPL y z = true
  · rw [ltPL_trans c h] at h1
    cases h1
  · have : y = z := ltPL_total (by simpa using c) h2
    subst this
    rw [h] at h1
    cases h1
theorem sort_head {F : List (Int × List Int)} {k : Int × List Int} (hk : k ∈ F) (hm : ∀ x ∈ F, ltPL x k = false) : atI (sortBy ltPL F) 0 = some k := by
  unfold sortBy
  have srt := List.pairwise_mergeSort (le := fun x y => !ltPL y x) (fun a b c h1 h2 => by
      simp only [Bool.not_eq_true'] at h1 h2 ⊢
      exact ltPL_neg h1 h2) (fun a b => by
      cases q : ltPL b a with
      | false => simp
      | true =>
        cases q2 : ltPL a b with
        | false => simp
        | true => have := ltPL_trans q q2; rw [ltPL_irrefl] at this; cases this) F
  have mem : ∀ x, x ∈ F.mergeSort (fun x y => !ltPL y x) ↔ x ∈ F := fun x => List.mem_mergeSort
  generalize F.mergeSort (fun x y => !ltPL y x) = G at srt mem
  cases G with
  | nil => have := (mem k).mpr hk; simp at this
  | cons h r =>
    have e0 : atI (h :: r) 0 = some h := by
      rw [atI_toNat (by omega) (by simp)]
      rfl
    rw [e0]
    congr 1
    have hF := (mem h).mp (List.mem_cons_self ..)
    rcases List.mem_cons.mp ((mem k).mpr hk) with e | e
    · exact e.symm
    · have := (List.pairwise_cons.mp srt).1 k e
      exact ltPL_total (hm h hF) (by simpa using this)
end G

namespace G
open PySem L2 M
/-! ### ways, written by their numbers -/
theorem pth_of {row : List Spt} {t : Int} {stops : List Int} : ∀ (n : Nat) (l : List Int), l.length = n + 1 → nm l 0 = 0 → (∀ k : Int, 1 ≤ k → k < l.length → St' row t stops (nm l (k - 1)) (nm l k)) → Pth (St' row t stops) l (nm l n)
  | 0, l, hl, h0, _ => by
    match l, hl with
    | [x], _ =>
      have : x = 0 := h0
      subst this
      exact .one
  | n + 1, ks, hl, h0, hs => by
    have ne : ks ≠ [] := fun z => by rw [z] at hl; simp at hl
    obtain ⟨l, z, rfl⟩ : ∃ l z, ks = l ++ [z] := ⟨ks.dropLast, ks.getLast ne, (List.dropLast_concat_getLast ne).symm⟩
    have ll : l.length = n + 1 := by simpa using hl
    have p := pth_of n l ll (by have := h0; rw [nm_app1 (by omega) (by omega)] at this; exact this) fun k k1 k2 => by
      have := hs k k1 (by simp; omega)
      rw [nm_app1 (by omega) (by omega), nm_app1 (by omega) k2] at this
      exact this
    have last := hs (l.length : Int) (by omega) (by simp; omega)
    rw [nm_app1 (by omega) (by omega), nm_app2] at last
    have e1 : nm (l ++ [z]) ((n + 1 : Nat) : Int) = z := by
      rw [show ((n + 1 : Nat) : Int) = (l.length : Int) by omega, nm_app2]
    rw [show (l.length : Int) - 1 = n by omega] at last
    rw [e1]
    exact .snoc p last
theorem Pth.st {row : List Spt} {t : Int} {stops l : List Int} {e : Int} (h : Pth (St' row t stops) l e) : ∀ k : Int, 1 ≤ k → k < l.length → St' row t stops (nm l (k - 1)) (nm l k) := by
  induction h with
  | one => intro k k1 k2; simp at k2; omega
  | @snoc l e z hp hs ih =>
    intro k k1 k2
    by_cases ck : k < l.length
    · rw [nm_app1 (by omega) (by omega), nm_app1 (by omega) ck]
      exact ih k k1 ck
    · have : k = l.length := by simp at k2; omega
      subst this
      rw [nm_app1 (by omega) (by omega), nm_app2, hp.hd.2.2]
      exact hs
theorem Pth.pw {row : List Spt} {t : Int} {stops l : List Int} {e : Int} (h : Pth (St' row t stops) l e) : l.Pairwise (· < ·) ∧ (∀ x ∈ l, 0 ≤ x ∧ x ≤ e) ∧ 0 ∈ l ∧ e ∈ l := by
  induction h with
  | one => exact ⟨by simp, fun x hx => by simp at hx; omega, by simp, by simp⟩
  | @snoc l e z hp hs ih =>
    obtain ⟨i1, i2, i3, i4⟩ := ih
    have lt := (steps_mem.mp hs).2.1
    refine ⟨?_, fun x hx => ?_, List.mem_append_left _ i3, by simp⟩
    · rw [List.pairwise_append]
      exact ⟨i1, by simp, fun a ha b hb => by simp at hb; have := (i2 a ha).2; omega⟩
    · rcases List.mem_append.mp hx with hx | hx
      · have := i2 x hx
        omega
      · simp at hx
        have := hp.nn
        omega
theorem rise_ext : ∀ (l l' : List Int), l.Pairwise (· < ·) → l'.Pairwise (· < ·) → (∀ x, x ∈ l ↔ x ∈ l') → l = l'
  | [], [], _, _, _ => rfl
  | [], y :: r, _, _, h => by have := (h y).mpr (List.mem_cons_self ..); simp at this
  | x :: r, [], _, _, h => by have := (h x).mp (List.mem_cons_self ..); simp at this
  | x :: r, y :: q, h1, h2, h => by
    rw [List.pairwise_cons] at h1 h2
    have e : x = y := by
      rcases List.mem_cons.mp ((h x).mp (List.mem_cons_self ..)) with a | a
      · exact a
      · rcases List.mem_cons.mp ((h y).mpr (List.mem_cons_self ..)) with b | b
        · exact b.symm
        · have := h2.1 x a
          have := h1.1 y b
          omega
    subst e
    congr 1
    refine rise_ext r q h1.2 h2.2 fun z => ⟨fun hz => ?_, fun hz => ?_⟩
    · rcases List.mem_cons.mp ((h z).mp (List.mem_cons_of_mem _ hz)) with a | a
      · have := h1.1 z hz; omega
      · exact a
    · rcases List.mem_cons.mp ((h z).mpr (List.mem_cons_of_mem _ hz)) with a | a
      · have := h2.1 z hz; omega
      · exact a
/-! ### lists by their bits -/
theorem bits_ex (g : Nat → Bool) : ∀ n : Nat, ∃ N : Nat, N < 2 ^ n ∧ ∀ k < n, N.testBit k = g k
  | 0 => ⟨0, by decide, fun k h => by omega⟩
  | n + 1 => by
    obtain ⟨N, h1, h2⟩ := bits_ex g n
    have p : 2 ^ (n + 1) = 2 ^ n + 2 ^ n := by rw [Nat.pow_succ]; omega
    by_cases c : g n = true
    · refine ⟨2 ^ n + N, by omega, fun k hk => ?_⟩
      by_cases e : k = n
      · subst e
        rw [Nat.testBit_two_pow_add_eq, Nat.testBit_lt_two_pow h1, c]
        rfl
      · rw [Nat.testBit_two_pow_add_gt (by omega)]
        exact h2 k (by omega)
    · refine ⟨N, by omega, fun k hk => ?_⟩
      by_cases e : k = n
      · subst e
        rw [Nat.testBit_lt_two_pow h1]
        simpa using c
      · exact h2 k (by omega)
abbrev pwL : List Int := [1, 2, 4, 8, 16, 32, 64]
theorem pw_at {j : Int} (h0 : 0 ≤ j) (h : j < 7) : atI pwL j = some ((2 ^ j.toNat : Nat) : Int) := by
  have : j = 0 ∨ j = 1 ∨ j = 2 ∨ j = 3 ∨ j = 4 ∨ j = 5 ∨ j = 6 := by omega
  rcases this with e | e | e | e | e | e | e <;> (subst e; rfl)
theorem fd_at {i j : Int} (h0 : 0 ≤ j) (h : j < 7) : fdiv? i ((2 ^ j.toNat : Nat) : Int) = some (i.fdiv ((2 ^ j.toNat : Nat) : Int)) := by
  have : j = 0 ∨ j = 1 ∨ j = 2 ∨ j = 3 ∨ j = 4 ∨ j = 5 ∨ j = 6 := by omega
  rcases this with e | e | e | e | e | e | e <;> (subst e; rfl)
def bitB (m k : Int) : Bool := decide ((m.fdiv ((2 ^ (k - 1).toNat : Nat) : Int)).fmod 2 = 1)
theorem bitB_test (N : Nat) {k : Int} (h : 1 ≤ k) : bitB (N : Int) k = N.testBit (k - 1).toNat := by
  unfold bitB
  rw [Nat.testBit_eq_decide_div_mod_eq, Int.fdiv_eq_ediv_of_nonneg _ (Int.natCast_nonneg _), Int.fmod_eq_emod_of_nonneg _ (by omega), Bool.eq_iff_iff, decide_eq_true_eq, decide_eq_true_eq]
  norm_cast
def mineL (last m : Int) : List Int := [0] ++ (rngL 1 (last - 1).toNat).filter (bitB m) ++ [last]
theorem rng_pw (lo : Int) (n : Nat) : (rngL lo n).Pairwise (· < ·) := by
  unfold rngL
  rw [List.pairwise_map]
  exact List.pairwise_lt_range.imp fun h => by omega
theorem mine_pw {last : Int} (h : 1 ≤ last) (m : Int) : (mineL last m).Pairwise (· < ·) := by
  unfold mineL
  rw [List.pairwise_append, List.pairwise_append]
  refine ⟨⟨by simp, (rng_pw _ _).filter _, fun a ha b hb => ?_⟩, by simp, fun a ha b hb => ?_⟩
  · have := rng_mem (List.mem_filter.mp hb).1
    simp at ha
    omega
  · simp at hb
    rcases List.mem_append.mp ha with ha | ha
    · simp at ha; omega
    · have := rng_mem (List.mem_filter.mp ha).1
      omega
theorem mine_mem {last m x : Int} (h : 1 ≤ last) : x ∈ mineL last m ↔ x = 0 ∨ (1 ≤ x ∧ x < last ∧ bitB m x = true) ∨ x = last := by
  unfold mineL
  rw [List.mem_append, List.mem_append, List.mem_filter]
  constructor
  · rintro ((h | h) | h)
    · left; simpa using h
    · have := rng_mem h.1
      exact .inr (.inl ⟨by omega, by omega, h.2⟩)
    · right; right; simpa using h
  · rintro (h | h | h)
    · left; left; simpa using h
    · exact .inl (.inr ⟨rng_memI (by omega), h.2.2⟩)
    · right; simpa using h
theorem mine_in {last m x : Int} (h : 1 ≤ last) (hx : x ∈ mineL last m) : 0 ≤ x ∧ x ≤ last := by
  rcases (mine_mem h).mp hx with e | e | e <;> omega
theorem mine_of {last : Int} (h : 1 ≤ last) {l : List Int} (pw : l.Pairwise (· < ·)) (hb : ∀ x ∈ l, 0 ≤ x ∧ x ≤ last) (h0 : 0 ∈ l) (hl : last ∈ l) : ∃ N : Nat, N < 2 ^ (last - 1).toNat ∧ mineL last N = l := by
  obtain ⟨N, n1, n2⟩ := bits_ex (fun k => decide ((k : Int) + 1 ∈ l)) (last - 1).toNat
  refine ⟨N, n1, rise_ext _ _ (mine_pw h _) pw fun x => ?_⟩
  rw [mine_mem h]
  constructor
  · rintro (e | ⟨e1, e2, e3⟩ | e)
    · rw [e]; exact h0
    · rw [bitB_test N e1, n2 (x - 1).toNat (by omega)] at e3
      have := of_decide_eq_true e3
      rw [show (((x - 1).toNat : Nat) : Int) + 1 = x by omega] at this
      exact this
    · rw [e]; exact hl
  · intro hx
    have := hb x hx
    by_cases e : x = 0
    · exact .inl e
    · by_cases e' : x = last
      · exact .inr (.inr e')
      · refine .inr (.inl ⟨by omega, by omega, ?_⟩)
        rw [bitB_test N (by omega), n2 (x - 1).toNat (by omega)]
        refine decide_eq_true ?_
        rw [show (((x - 1).toNat : Nat) : Int) + 1 = x by omega]
        exact hx
end G

namespace G
open PySem L2 M
theorem free_eq {row : List Spt} {t i k : Int} {held : List Int} (hR : Rw row t) (hh : held.length ≤ 1000) (i0 : 0 ≤ i) (i1 : i < row.length) (k0 : 0 ≤ k) (k1 : k < row.length) : m_law_free row i k t held = some (ek row t held i k) := by
  simp only [m_law_free, bd, Option.bind_some]
  rw [M.mapL_eq (g := fun h => decide (i < h) && decide (h < k)) hh (fun h _ => by by_cases c : i < h <;> simp [c]), Option.bind_some, Option.bind_some, List.any_map]
  unfold ek
  have e : (held.any (id ∘ fun h => decide (i < h) && decide (h < k))) = !decide (held.filter (fun h => decide (i < h) && decide (h < k)) = []) := by
    rw [Bool.eq_iff_iff]
    simp [List.filter_eq_nil_iff]
  rw [e, (hR.may i0 i1 k0 k1).2]
  by_cases c : held.filter (fun h => decide (i < h) && decide (h < k)) = [] <;> simp [c]
theorem nm_mem {l : List Int} {k : Int} (h0 : 0 ≤ k) (h : k < l.length) : nm l k ∈ l := by
  unfold nm
  rw [List.getD_eq_getElem?_getD, List.getElem?_eq_getElem (by omega)]
  exact List.getElem_mem _
theorem nm_pw {l : List Int} (h : l.Pairwise (· < ·)) {k : Int} (h0 : 1 ≤ k) (h1 : k < l.length) : nm l (k - 1) < nm l k := by
  unfold nm
  rw [List.getD_eq_getElem?_getD, List.getD_eq_getElem?_getD, List.getElem?_eq_getElem (show (k - 1).toNat < l.length by omega), List.getElem?_eq_getElem (show k.toNat < l.length by omega)]
  exact List.pairwise_iff_getElem.mp h _ _ (by omega) (by omega) (by omega)
theorem nm_lastA (l : List Int) (z : Int) : nm (l ++ [z]) (((l ++ [z]).length - 1 : Nat) : Int) = z := by
  have e : (((l ++ [z]).length - 1 : Nat) : Int) = l.length := by rw [List.length_append]; simp
  rw [e, nm_app2]
def okL (row : List Spt) (t : Int) (held l : List Int) : Bool := (rngL 0 ((l.length : Int) - 1).toNat).all fun k => ek row t held (nm l k) (nm l (k + 1))
theorem mine_len (last m : Int) : (mineL last m).length ≤ (last - 1).toNat + 2 := by
  unfold mineL
  simp only [List.length_append, List.length_cons, List.length_nil]
  have := List.length_filter_le (bitB m) (rngL 1 (last - 1).toNat)
  rw [rng_len] at this
  omega
theorem mine_ok {row : List Spt} {t : Int} {held : List Int} {m : Int} (h2 : 2 ≤ row.length) (h : okL row t held (mineL ((row.length : Int) - 1) m) = true) : Pth (St' row t held) (mineL ((row.length : Int) - 1) m) ((row.length : Int) - 1) := by
  have pw := mine_pw (last := (row.length : Int) - 1) (by omega) m
  have l2 : 2 ≤ (mineL ((row.length : Int) - 1) m).length := by unfold mineL; simp only [List.length_append, List.length_cons, List.length_nil]; omega
  have n0 : nm (mineL ((row.length : Int) - 1) m) 0 = 0 := rfl
  have nl : nm (mineL ((row.length : Int) - 1) m) (((mineL ((row.length : Int) - 1) m).length - 1 : Nat) : Int) = (row.length : Int) - 1 := by
    unfold mineL
    exact nm_lastA _ _
  have p := pth_of (row := row) (t := t) (stops := held) ((mineL ((row.length : Int) - 1) m).length - 1) (mineL ((row.length : Int) - 1) m) (by omega) n0 fun k k1 k2 => by
    have lt := nm_pw pw k1 k2
    have i1 := mine_in (by omega) (nm_mem (l := mineL ((row.length : Int) - 1) m) (k := k - 1) (by omega) (by omega))
    have i2 := mine_in (by omega) (nm_mem (l := mineL ((row.length : Int) - 1) m) (k := k) (by omega) (by omega))
    unfold okL at h
    have e := List.all_eq_true.mp h (k - 1) (rng_memI (by omega))
    rw [show k - 1 + 1 = k by omega] at e
    exact steps_mem.mpr ⟨i1.1, lt, by omega, e⟩
  rw [nl] at p
  exact p
theorem ok_of {row : List Spt} {t : Int} {held l : List Int} {e : Int} (h : Pth (St' row t held) l e) : okL row t held l = true := by
  unfold okL
  rw [List.all_eq_true]
  intro k hk
  have hk := rng_mem hk
  have := h.st (k + 1) (by omega) (by omega)
  rw [show k + 1 - 1 = k by omega] at this
  exact (steps_mem.mp this).2.2.2
theorem lists_sp {row : List Spt} {t : Int} {held cs ks : List Int} (hR : Rw row t) (h2 : 2 ≤ row.length) (h7 : row.length ≤ 7) (hh : held.length ≤ 1000) (cn : Cn (endsL row t held) cs 0) (kp : Kp row t held cs ks) (kl : nm ks ((ks.length : Int) - 1) = (row.length : Int) - 1) :
    ∃ L, m_law_lists row t held = some L ∧ atI L 0 = some ((ks.length : Int), ks) := by
  obtain ⟨kpth, kc, kmin⟩ := kept_min (by omega) cn kp kl
  have e1 : atI pwL ((row.length : Int) - 1 - 1) = some ((2 ^ ((row.length : Int) - 1 - 1).toNat : Nat) : Int) := pw_at (by omega) (by omega)
  have pl : 2 ^ ((row.length : Int) - 1 - 1).toNat ≤ 2 ^ 5 := pow_le (by omega)
  generalize hw : 2 ^ ((row.length : Int) - 1 - 1).toNat = w at e1 pl
  have pl : w ≤ 32 := pl
  refine ⟨sortBy ltPL ((rngL 0 w).flatMap fun m => if okL row t held (mineL ((row.length : Int) - 1) m) then [(((mineL ((row.length : Int) - 1) m).length : Int), mineL ((row.length : Int) - 1) m)] else []), ?_, ?_⟩
  · simp only [m_law_lists, bd, Option.bind_some]
    rw [e1, Option.bind_some, rng1_eq (by omega), Option.bind_some, Int.toNat_natCast]
    rw [loopC_app (M := 1000) (c := 1) (g := fun m => if okL row t held (mineL ((row.length : Int) - 1) m) then [(((mineL ((row.length : Int) - 1) m).length : Int), mineL ((row.length : Int) - 1) m)] else []) _ _ ?_ (by rw [rng_len]; simp; omega)]
    · rfl
    · intro m hm
      refine ⟨by split <;> simp, fun s hs => ?_⟩
      rw [rng2n (by omega) (by omega) (by omega) (by omega), Option.bind_some]
      rw [M.fil_gen (p := bitB m) (by rw [rng_len]; omega) (fun k hk => by
        have hk := rng_mem hk
        rw [show atI [(1 : Int), 2, 4, 8, 16, 32, 64] (k - 1) = some ((2 ^ (k - 1).toNat : Nat) : Int) from pw_at (by omega) (by omega), Option.bind_some, fd_at (by omega) (by omega), Option.bind_some]
        rfl), Option.bind_some]
      have lf : ((rngL 1 ((row.length : Int) - 1 - 1).toNat).filter (bitB m)).length ≤ 1000 := by
        have := List.length_filter_le (bitB m) (rngL 1 ((row.length : Int) - 1 - 1).toNat)
        rw [rng_len] at this
        omega
      have lf2 : ((rngL 1 ((row.length : Int) - 1 - 1).toNat).filter (bitB m)).length ≤ 7 := by
        have := List.length_filter_le (bitB m) (rngL 1 ((row.length : Int) - 1 - 1).toNat)
        rw [rng_len] at this
        omega
      rw [G.cat_eq (by simp only [List.length_append, List.length_cons, List.length_nil]; omega), Option.bind_some, G.cat_eq (by simp only [List.length_append, List.length_cons, List.length_nil]; omega), Option.bind_some]
      rw [show [0] ++ (rngL 1 ((row.length : Int) - 1 - 1).toNat).filter (bitB m) ++ [(row.length : Int) - 1] = mineL ((row.length : Int) - 1) m from rfl]
      have ml := mine_len ((row.length : Int) - 1) m
      have mi : ∀ x ∈ mineL ((row.length : Int) - 1) m, 0 ≤ x ∧ x ≤ (row.length : Int) - 1 := fun x hx => mine_in (by omega) hx
      generalize mineL ((row.length : Int) - 1) m = l at ml mi
      rw [rng1_eq (by omega), Option.bind_some, M.mapL_eq (g := fun k => ek row t held (nm l k) (nm l (k + 1))) (by rw [rng_len]; omega) (fun k hk => by
        have hk := rng_mem hk
        have i1 := mi _ (nm_mem (l := l) (k := k) (by omega) (by omega))
        have i2 := mi _ (nm_mem (l := l) (k := k + 1) (by omega) (by omega))
        rw [show atI l k = some (nm l k) from at_get 0 (by omega) (by omega), Option.bind_some, show atI l (k + 1) = some (nm l (k + 1)) from at_get 0 (by omega) (by omega), Option.bind_some]
        exact free_eq (row := row) (t := t) (held := held) (i := nm l k) (k := nm l (k + 1)) hR hh i1.1 (by omega) i2.1 (by omega)), Option.bind_some, Option.bind_some, List.all_map]
      rw [show ((rngL 0 ((l.length : Int) - 1).toNat).all (id ∘ fun k => ek row t held (nm l k) (nm l (k + 1)))) = okL row t held l from rfl]
      by_cases c : okL row t held l = true
      · simp only [c, if_true, app_eq _ (show s.length < 100000 by omega), Option.bind_some]
      · simp only [c, Bool.false_eq_true, if_false, Option.bind_some, List.append_nil]
  · refine sort_head ?_ ?_
    · obtain ⟨q1, q2, q3, q4⟩ := kpth.pw
      obtain ⟨N, n1, n2⟩ := mine_of (last := (row.length : Int) - 1) (by omega) q1 q2 q3 q4
      rw [hw] at n1
      refine List.mem_flatMap.mpr ⟨(N : Int), rng_memI (by omega), ?_⟩
      rw [n2, ok_of kpth]
      simp
    · rintro ⟨x, l⟩ hx
      obtain ⟨m, hm, hx⟩ := List.mem_flatMap.mp hx
      by_cases c : okL row t held (mineL ((row.length : Int) - 1) m) = true
      · rw [if_pos c, List.mem_singleton] at hx
        have := kmin _ (mine_ok h2 c)
        cases hx
        unfold ltPL
        dsimp only
        by_cases e : ((mineL ((row.length : Int) - 1) m).length : Int) = (ks.length : Int)
        · rw [if_pos e]
          exact this.2 (by omega)
        · rw [if_neg e]
          exact decide_eq_false (by omega)
      · rw [if_neg c] at hx
        simp at hx
end G

namespace G
open PySem L2 M
/-! ### the law's own least numbers -/
theorem cn_set {ends : List (List Int)} (hE : EOk ends) {cs : List Int} {m : Nat} (h : Cn ends cs (m + 1)) (hm : m + 1 < ends.length) {e xs : List Int} {mn : Int} (he : ends[m]? = some e) (hx : ∀ v, v ∈ xs ↔ ∃ j ∈ e, v = cs.getD j.toNat 0) (hmn : xs.min? = some mn) : Cn ends (cs.set m (1 + mn)) m := by
  have l0 := h.len
  have hg : ∀ j ∈ e, cs[j.toNat]? = some (cs.getD j.toNat 0) := fun j hj => by
    have r := hE.rg m e j he hj
    have hk : j.toNat < cs.length := by omega
    rw [List.getD_eq_getElem?_getD, List.getElem?_eq_getElem hk]
    rfl
  have hs := List.min?_eq_some_iff.mp hmn
  refine ⟨?_, ?_, ?_⟩
  · rw [List.length_set, l0]
  · intro k hk
    rw [List.getElem?_set_ne (by omega)]
    exact h.last k hk
  · intro k e' c hk hk1 he' hc
    have far : ∀ j ∈ e', (cs.set m (1 + mn))[j.toNat]? = cs[j.toNat]? := fun j hj => by
      have r := hE.rg k e' j he' hj
      rw [List.getElem?_set_ne (by omega)]
    by_cases em : k = m
    · subst em
      rw [he] at he'
      cases he'
      rw [List.getElem?_set_self (by omega)] at hc
      cases hc
      constructor
      · intro j hj
        refine ⟨_, (far j hj).trans (hg j hj), ?_⟩
        have := hs.2 _ ((hx _).mpr ⟨j, hj, rfl⟩)
        omega
      · obtain ⟨j, hj, ej⟩ := (hx _).mp hs.1
        exact ⟨j, hj, _, (far j hj).trans (hg j hj), by rw [ej]⟩
    · rw [List.getElem?_set_ne (by omega)] at hc
      obtain ⟨h1, j, hj, d, hd, hcd⟩ := h.at_ k e' c (by omega) hk1 he' hc
      constructor
      · intro j hj
        obtain ⟨d, hd, hle⟩ := h1 j hj
        exact ⟨d, (far j hj).trans hd, hle⟩
      · exact ⟨j, hj, d, (far j hj).trans hd, hcd⟩
theorem cn_uniq {ends : List (List Int)} (hE : EOk ends) {cs cs' : List Int} (h : Cn ends cs 0) (h' : Cn ends cs' 0) : cs = cs' := by
  have key : ∀ d k : Nat, ends.length ≤ k + d → cs[k]? = cs'[k]? := by
    intro d
    induction d with
    | zero =>
      intro k hk
      rw [List.getElem?_eq_none (by rw [h.len]; omega), List.getElem?_eq_none (by rw [h'.len]; omega)]
    | succ d ih =>
      intro k hk
      by_cases c0 : ends.length ≤ k + d
      · exact ih k c0
      · by_cases c1 : k + 1 = ends.length
        · rw [h.last k c1, h'.last k c1]
        · have kl : k + 1 < ends.length := by have := hE.pos; omega
          have e1 := List.getElem?_eq_getElem (show k < cs.length by rw [h.len]; omega)
          have e2 := List.getElem?_eq_getElem (show k < cs'.length by rw [h'.len]; omega)
          have e3 := List.getElem?_eq_getElem (show k < ends.length by omega)
          obtain ⟨a1, j1, m1, d1, q1, r1⟩ := h.at_ k _ _ (Nat.zero_le _) kl e3 e1
          obtain ⟨a2, j2, m2, d2, q2, r2⟩ := h'.at_ k _ _ (Nat.zero_le _) kl e3 e2
          have g1 := hE.rg k _ j1 e3 m1
          have g2 := hE.rg k _ j2 e3 m2
          obtain ⟨x1, y1, z1⟩ := a2 j1 m1
          obtain ⟨x2, y2, z2⟩ := a1 j2 m2
          rw [ih j1.toNat (by omega), y1] at q1
          rw [ih j2.toNat (by omega), q2] at y2
          cases q1
          cases y2
          rw [e1, e2]
          congr 1
          omega
  exact List.ext_getElem? fun k => key ends.length k (by omega)
theorem filO_two {α β : Type} {g : α → Option Bool} {f : α → Option β} {p : α → Bool} {q : α → β} : ∀ (xs : List α), (∀ x ∈ xs, g x = some (p x) ∧ f x = some (q x)) → filO (fun x => bd (g x) fun k => if k then bd (f x) fun y => some (some y) else some none) xs = some ((xs.filter p).map q)
  | [], _ => rfl
  | x :: r, h => by
    have hr := filO_two r fun y hy => h y (List.mem_cons_of_mem _ hy)
    simp only [filO, (h x (List.mem_cons_self ..)).1, (h x (List.mem_cons_self ..)).2, bd, Option.bind_some] at hr ⊢
    by_cases c : p x = true
    · simp [c, hr]
    · simp [c, hr]
theorem fil_two {α β : Type} {g : α → Option Bool} {f : α → Option β} {p : α → Bool} {q : α → β} {xs : List α} (hl : xs.length ≤ 1000) (h : ∀ x ∈ xs, g x = some (p x) ∧ f x = some (q x)) : filL? g f xs = some ((xs.filter p).map q) := by
  unfold filL?
  rw [if_pos (by omega)]
  exact filO_two xs h
theorem rep0 {n : Nat} (h : n ≤ 1000) : rep? [(0 : Int)] (n : Int) = some (List.replicate n (0 : Int)) := by
  unfold rep?
  rw [if_pos ⟨by omega, by omega, by simp⟩, Int.toNat_natCast]
  congr 1
  clear h
  induction n with
  | zero => rfl
  | succ n ih => rw [List.replicate_succ, List.flatten_cons, ih, List.replicate_succ]; rfl
/-- where the free pieces from m lead -/
theorem free_ends {row : List Spt} {t : Int} {held : List Int} {m : Nat} (hm : m < row.length) (j : Int) : j ∈ (rngL ((m : Int) + 1) ((row.length : Int) - ((m : Int) + 1)).toNat).filter (ek row t held m) ↔ j ∈ sel row t held m ((m : Int) + 1) ((row.length : Int) - ((m : Int) + 1)).toNat := by
  rw [List.mem_filter]
  constructor
  · rintro ⟨h1, h2⟩
    have := rng_mem h1
    exact (ek_sel (by omega) (by omega)).mp h2
  · intro h
    have := (sel_mem (held := held)).mp h
    exact ⟨rng_memI (by omega), (ek_sel (by omega) (by omega)).mpr h⟩
theorem fewest_step {row : List Spt} {t : Int} {held cs : List Int} (hR : Rw row t) (hh : held.length ≤ 1000) {m : Nat} (h : Cn (endsL row t held) cs (m + 1)) (hm : m + 1 < row.length) :
    ∃ cs', ((rng2? ((m : Int) + 1) (row.length : Int)).bind fun xs => filL? (fun k => m_law_free row m k t held) (fun k => atI cs k) xs).bind (fun good => (good.min?.bind fun y => some (1 + y)).bind fun a => set? cs (m : Int) a) = some cs' ∧ Cn (endsL row t held) cs' m := by
  have hl := hR.l
  have hE := ends_ok (held := held) hR (by omega)
  have l0 := h.len
  rw [ends_len] at l0
  have he := ends_at (row := row) (t := t) (held := held) (i := m) (by omega)
  rw [rng2n (by omega) (by omega) (by omega) (by omega), Option.bind_some, fil_two (p := ek row t held m) (q := fun j => cs.getD j.toNat 0) (by rw [rng_len]; omega) (fun k hk => by
    have hk := rng_mem hk
    exact ⟨free_eq hR hh (by omega) (by omega) (by omega) (by omega), at_get 0 (by omega) (by omega)⟩), Option.bind_some]
  have hne := (hE.ne m _ (by rw [ends_len]; omega) he).1
  obtain ⟨mn, hmn⟩ : ∃ mn, (((rngL ((m : Int) + 1) ((row.length : Int) - ((m : Int) + 1)).toNat).filter (ek row t held m)).map fun j => cs.getD j.toNat 0).min? = some mn := by
    cases q : (((rngL ((m : Int) + 1) ((row.length : Int) - ((m : Int) + 1)).toNat).filter (ek row t held m)).map fun j => cs.getD j.toNat 0).min? with
    | some mn => exact ⟨mn, rfl⟩
    | none =>
      rw [List.min?_eq_none_iff, List.map_eq_nil_iff] at q
      obtain ⟨j, hj⟩ := List.exists_mem_of_ne_nil _ hne
      have := (free_ends (by omega) j).mpr hj
      rw [q] at this
      simp at this
  have hix : ixN cs.length (m : Int) = some m := by
    unfold ixN
    rw [if_pos (by omega), if_pos (by omega), Int.toNat_natCast]
  refine ⟨cs.set m (1 + mn), ?_, cn_set hE h (by rw [ends_len]; omega) he (fun v => ?_) hmn⟩
  · simp only [hmn, Option.bind_some, set?, hix]
  · rw [List.mem_map]
    constructor
    · rintro ⟨j, hj, rfl⟩
      exact ⟨j, (free_ends (by omega) j).mp hj, rfl⟩
    · rintro ⟨j, hj, rfl⟩
      exact ⟨j, (free_ends (by omega) j).mpr hj, rfl⟩
theorem down_loop {ends : List (List Int)} {n : Nat} {ρ : Type} {f : List Int → Int → Option (Ct ρ (List Int))} (hf : ∀ (m : Nat) (cs : List Int), m + 1 < n → Cn ends cs (m + 1) → ∃ cs', f cs ((n : Int) - 2 - m) = some (.go cs') ∧ Cn ends cs' m) : ∀ (m : Nat) (cs : List Int), m + 1 ≤ n → Cn ends cs m → ∃ cs', loopC f (rngL ((n : Int) - 1 - m) m) cs = some (.go cs') ∧ Cn ends cs' 0
  | 0, cs, _, h => ⟨cs, by simp [rngL, loopC], h⟩
  | m + 1, cs, hm, h => by
    obtain ⟨cs1, f1, h1⟩ := hf m cs (by omega) h
    obtain ⟨cs2, f2, h2⟩ := down_loop hf m cs1 (by omega) h1
    refine ⟨cs2, ?_, h2⟩
    rw [rngL_succ, show (n : Int) - 1 - ((m + 1 : Nat) : Int) = (n : Int) - 2 - m by omega, show (n : Int) - 2 - (m : Int) + 1 = (n : Int) - 1 - m by omega]
    simp only [loopC]
    rw [f1]
    exact f2
theorem fewest_eq {row : List Spt} {t : Int} {held cs : List Int} (hR : Rw row t) (h2 : 2 ≤ row.length) (hh : held.length ≤ 1000) (cn : Cn (endsL row t held) cs 0) : ∃ ks, m_law_fewest row t held = some (ks, cs) := by
  have hl := hR.l
  have hE := ends_ok (held := held) hR (by omega)
  have len := cn.len
  rw [ends_len] at len
  simp only [m_law_fewest, bd, Option.bind_some]
  rw [rep0 (by omega), Option.bind_some, rng1_eq (by omega), Option.bind_some]
  have st : Cn (endsL row t held) (List.replicate row.length (0 : Int)) (row.length - 1) := by
    refine ⟨by simp [ends_len], fun k hk => ?_, fun k e c h1 h2 => by rw [ends_len] at h2; omega⟩
    rw [ends_len] at hk
    rw [List.getElem?_replicate, if_pos (by omega)]
  have key := down_loop (ρ := List Int × List Int) (ends := endsL row t held) (n := row.length) (f := fun s_3 law_back_3 => ((rng2? ((row.length : Int) - 1 - 1 - law_back_3 + 1) (row.length : Int)).bind fun xs => filL? (fun law_k_5 => m_law_free row ((row.length : Int) - 1 - 1 - law_back_3) law_k_5 t held) (fun law_k_5 => atI s_3 law_k_5) xs).bind fun law_good_6 => (law_good_6.min?.bind fun y => some (1 + y)).bind fun a7 => (set? s_3 ((row.length : Int) - 1 - 1 - law_back_3) a7).bind fun law_numbers_9 => some (Ct.go law_numbers_9)) (fun m s hm hs => by
    obtain ⟨cs', e1, e2⟩ := fewest_step hR hh hs hm
    refine ⟨cs', ?_, e2⟩
    rw [show (row.length : Int) - 1 - 1 - ((row.length : Int) - 2 - (m : Int)) = (m : Int) by omega]
    cases q1 : (rng2? ((m : Int) + 1) (row.length : Int)).bind fun xs => filL? (fun k => m_law_free row m k t held) (fun k => atI s k) xs with
    | none => rw [q1] at e1; cases e1
    | some good =>
      rw [q1, Option.bind_some] at e1
      rw [Option.bind_some]
      cases q2 : good.min? with
      | none => rw [q2] at e1; cases e1
      | some y =>
        rw [q2] at e1
        simp only [Option.bind_some] at e1 ⊢
        rw [e1]
        rfl) (row.length - 1) (List.replicate row.length (0 : Int)) (by omega) st
  obtain ⟨cs', e1, e2⟩ := key
  have := cn_uniq hE e2 cn
  subst this
  rw [show (row.length : Int) - 1 - ((row.length - 1 : Nat) : Int) = 0 by omega] at e1
  rw [show ((row.length : Int) - 1).toNat = row.length - 1 by omega]
  refine Exists.imp (fun ks h => Eq.trans (congrArg (fun z => Option.bind z _) e1) h) ?_
  dsimp only [Option.bind_some]
  have w := whileC_meas (ρ := List Int × List Int) (t := fun s_11 => (atI s_11 (-1)).bind fun x => some (decide (x < (row.length : Int) - 1)))
    (f := fun s_11 => (atI s_11 (-1)).bind fun law_at_12 => ((rng2? (law_at_12 + 1) (row.length : Int)).bind fun xs => filL? (fun law_k_13 => (atI cs' law_k_13).bind fun x => ((atI cs' law_at_12).bind fun x => some (x - 1)).bind fun y => some (decide (x = y))) (fun law_k_13 => some law_k_13) xs).bind fun law_good_14 => ((filL? (fun law_k_15 => m_law_free row law_at_12 law_k_15 t held) (fun law_k_15 => some law_k_15) law_good_14).bind fun x => atI x 0).bind fun a16 => (app? s_11 a16).bind fun law_found_17 => some (Ct.go law_found_17))
    (fun s => s ≠ [] ∧ 0 ≤ nm s ((s.length : Int) - 1) ∧ nm s ((s.length : Int) - 1) < row.length ∧ (s.length : Int) ≤ nm s ((s.length : Int) - 1) + 1) (fun s => row.length - (nm s ((s.length : Int) - 1)).toNat) (fun s ⟨s0, s1, s2, s3⟩ => by
      have sl := List.length_pos_iff.mpr s0
      have el : atI s (-1) = some (nm s ((s.length : Int) - 1)) := by
        rw [at_lastD 0 s0]
        unfold nm
        rw [show ((s.length : Int) - 1).toNat = s.length - 1 by omega]
      generalize nm s ((s.length : Int) - 1) = x at *
      simp only [el, Option.bind_some]
      by_cases c : x < (row.length : Int) - 1
      · right
        refine ⟨by rw [decide_eq_true c], ?_⟩
        obtain ⟨j, hj, hc⟩ := cn_at e2 s1 c
        have hj' := (sel_mem (held := held)).mp hj
        rw [rng2n (by omega) (by omega) (by omega) (by omega), Option.bind_some, M.fil_gen (p := fun k => decide (nm cs' k = nm cs' x - 1)) (by rw [rng_len]; omega) (fun k hk => by
          have hk := rng_mem hk
          rw [show atI cs' k = some (nm cs' k) from at_get 0 (by omega) (by omega), show atI cs' x = some (nm cs' x) from at_get 0 (by omega) (by omega)]
          rfl), Option.bind_some]
        have fl := List.length_filter_le (fun k => decide (nm cs' k = nm cs' x - 1)) (rngL (x + 1) ((row.length : Int) - (x + 1)).toNat)
        rw [rng_len] at fl
        rw [M.fil_gen (p := ek row t held x) (by omega) (fun k hk => by
          have hk := rng_mem (List.mem_filter.mp hk).1
          exact free_eq hR hh (by omega) (by omega) (by omega) (by omega)), Option.bind_some]
        have jm : j ∈ ((rngL (x + 1) ((row.length : Int) - (x + 1)).toNat).filter fun k => decide (nm cs' k = nm cs' x - 1)).filter (ek row t held x) := List.mem_filter.mpr ⟨List.mem_filter.mpr ⟨rng_memI (by omega), decide_eq_true (by omega)⟩, (ek_sel (by omega) (by omega)).mpr hj⟩
        have am : ∀ z ∈ ((rngL (x + 1) ((row.length : Int) - (x + 1)).toNat).filter fun k => decide (nm cs' k = nm cs' x - 1)).filter (ek row t held x), x < z ∧ z < row.length := fun z hz => by
          have := rng_mem (List.mem_filter.mp (List.mem_filter.mp hz).1).1
          omega
        generalize ((rngL (x + 1) ((row.length : Int) - (x + 1)).toNat).filter fun k => decide (nm cs' k = nm cs' x - 1)).filter (ek row t held x) = l at jm am
        cases l with
        | nil => simp at jm
        | cons z r =>
          have hz := am z (List.mem_cons_self ..)
          have e0 : atI (z :: r) 0 = some z := by
            rw [atI_toNat (by omega) (by simp)]
            rfl
          have ll : (((s ++ [z]).length : Nat) : Int) - 1 = s.length := by simp
          rw [e0, Option.bind_some, app_eq _ (by omega)]
          refine ⟨s ++ [z], rfl, ⟨by simp, ?_, ?_, ?_⟩, ?_⟩
          · rw [ll, nm_app2]; omega
          · rw [ll, nm_app2]; omega
          · rw [ll, nm_app2]; simp; omega
          · rw [ll, nm_app2]; omega
      · left
        rw [decide_eq_false c]) 100000 [0] ⟨by simp, by simp [nm], by simp [nm]; omega, by simp [nm]⟩ (by simp [nm]; omega)
  obtain ⟨ks, w1, _⟩ := w
  exact ⟨ks, Eq.trans (congrArg (fun z => Option.bind z _) w1) rfl⟩
end G

namespace G
open PySem L2 M
/-! ### a row turned about -/
theorem wayI_comm (s e : Spt) : wayI e s = wayI s e := by
  unfold wayI
  rw [absR_sub e.1 s.1, absR_sub e.2 s.2]
theorem passB_comm (s e : Spt) (t : Int) (z : Spt) : passB e s t z = passB s e t z := by
  have l : lowR e s = lowR s e := by
    unfold lowR
    rw [wayI_comm]
    grind
  have h : highR e s = highR s e := by
    unfold highR
    rw [wayI_comm]
    grind
  have a : asideR e s z = asideR s e z := by
    by_cases c : s = e
    · rw [c]
    · have d : co e (wayI s e) - co s (wayI s e) ≠ 0 := fun x => c (way_zero.mp x)
      have d' : co s (wayI s e) - co e (wayI s e) ≠ 0 := by grind
      unfold asideR slope
      rw [wayI_comm, if_neg c, if_neg (Ne.symm c)]
      congr 1
      have e1 : (co e (1 - wayI s e) - co s (1 - wayI s e)) / (co e (wayI s e) - co s (wayI s e)) * (co e (wayI s e) - co s (wayI s e)) = co e (1 - wayI s e) - co s (1 - wayI s e) := by grind
      have e2 : (co s (1 - wayI s e) - co e (1 - wayI s e)) / (co s (wayI s e) - co e (wayI s e)) = (co e (1 - wayI s e) - co s (1 - wayI s e)) / (co e (wayI s e) - co s (wayI s e)) := by grind
      rw [e2]
      generalize (co e (1 - wayI s e) - co s (1 - wayI s e)) / (co e (wayI s e) - co s (wayI s e)) = m at e1
      grind
  unfold passB
  rw [l, h, a, wayI_comm]
theorem at_rev {α : Type} {xs : List α} {i : Int} (h0 : 0 ≤ i) (h : i < xs.length) : atI xs.reverse ((xs.length : Int) - 1 - i) = atI xs i := by
  rw [atI_toNat (by omega) (by simp; omega), atI_toNat h0 h, List.getElem?_reverse (by omega)]
  congr 1
  omega
theorem cut_rev {α : Type} {xs : List α} {a b : Nat} (h : a < b) (hb : b < xs.length) : cutD xs.reverse (some ((xs.length : Int) - 1 - b + 1)) (some ((xs.length : Int) - 1 - a)) = (cutD xs (some ((a : Int) + 1)) (some (b : Int))).reverse := by
  have e1 := cut_nat (xs := xs) (a := a + 1) (b := b) (by omega) (by omega)
  have e2 := cut_nat (xs := xs.reverse) (a := xs.length - b) (b := xs.length - 1 - a) (by omega) (by simp; omega)
  rw [show ((a + 1 : Nat) : Int) = (a : Int) + 1 by omega] at e1
  rw [show ((xs.length - b : Nat) : Int) = (xs.length : Int) - 1 - b + 1 by omega, show ((xs.length - 1 - a : Nat) : Int) = (xs.length : Int) - 1 - a by omega] at e2
  rw [e1, e2, List.drop_reverse, List.take_reverse, List.length_take]
  congr 1
  rw [List.drop_take, show xs.length - (xs.length - b) = b by omega, show min b xs.length - (xs.length - 1 - a - (xs.length - b)) = a + 1 by omega]
theorem Rw.rev {row : List Spt} {t : Int} (h : Rw row t) : Rw row.reverse t := ⟨fun z hz => h.b z (List.mem_reverse.mp hz), by rw [List.length_reverse]; exact h.l, h.t⟩
theorem mp_rev {row : List Spt} {t : Int} (hR : Rw row t) {x y : Int} (x0 : 0 ≤ x) (hxy : x < y) (hy : y < row.length) : mp row.reverse t ((row.length : Int) - 1 - y) ((row.length : Int) - 1 - x) = mp row t x y := by
  obtain ⟨a, rfl⟩ : ∃ a : Nat, x = a := ⟨x.toNat, by omega⟩
  obtain ⟨b, rfl⟩ : ∃ b : Nat, y = b := ⟨y.toNat, by omega⟩
  obtain ⟨s, es, ms⟩ := at_in (xs := row) (i := (a : Int)) (by omega) (by omega)
  obtain ⟨e, ee, me⟩ := at_in (xs := row) (i := (b : Int)) (by omega) (by omega)
  have e1 := may_pr hR.b es ms ee me hR.t
  have e2 := may_pr (row := row.reverse) (t := t) hR.rev.b ((at_rev (by omega) (by omega)).trans ee) (List.mem_reverse.mpr me) ((at_rev (by omega) (by omega)).trans es) (List.mem_reverse.mpr ms) hR.t
  unfold mp
  rw [e1, e2, cut_rev (by omega) (by omega), List.all_reverse]
  rw [show passB e s t = passB s e t from funext fun z => passB_comm s e t z]
theorem st_rev {row : List Spt} {t : Int} {held back : List Int} (hR : Rw row t) (hb : ∀ z ∈ back, ∃ h ∈ held, z = (row.length : Int) - 1 - h) {x y : Int} (h : St' row t held x y) : St' row.reverse t back ((row.length : Int) - 1 - y) ((row.length : Int) - 1 - x) := by
  obtain ⟨h0, h1, h2, h3, h4⟩ := step_to h
  refine step_of (by omega) (by omega) (by rw [List.length_reverse]; omega) ?_ fun z hz ⟨z1, z2⟩ => ?_
  · rw [mp_rev hR h0 h1 h2]
    exact h3
  · obtain ⟨k, hk, rfl⟩ := hb z hz
    exact h4 k hk ⟨by omega, by omega⟩
theorem nm_rev {l : List Int} {c k : Int} (h0 : 0 ≤ k) (h : k < l.length) : nm (l.map fun x => c - x).reverse k = c - nm l ((l.length : Int) - 1 - k) := by
  unfold nm
  rw [List.getD_eq_getElem?_getD, List.getD_eq_getElem?_getD, List.getElem?_reverse (by simp; omega), List.getElem?_map, List.length_map, show l.length - 1 - k.toNat = ((l.length : Int) - 1 - k).toNat by omega, List.getElem?_eq_getElem (show ((l.length : Int) - 1 - k).toNat < l.length by omega)]
  rfl
theorem pth_rev {row : List Spt} {t : Int} {held back l : List Int} (hR : Rw row t) (hb : ∀ z ∈ back, ∃ h ∈ held, z = (row.length : Int) - 1 - h) (h : Pth (St' row t held) l ((row.length : Int) - 1)) : ∃ l', l'.length = l.length ∧ Pth (St' row.reverse t back) l' ((row.length : Int) - 1) := by
  obtain ⟨h1, h2, h3⟩ := h.hd
  refine ⟨(l.map fun x => (row.length : Int) - 1 - x).reverse, by simp, ?_⟩
  have p := pth_of (row := row.reverse) (t := t) (stops := back) (l.length - 1) (l.map fun x => (row.length : Int) - 1 - x).reverse (by simp; omega) (by
    rw [nm_rev (by omega) (by omega), show (l.length : Int) - 1 - 0 = (l.length : Int) - 1 by omega, h3]; omega) fun k k1 k2 => by
    have k2 : k < l.length := by simpa using k2
    rw [nm_rev (by omega) (by omega), nm_rev (by omega) (by omega)]
    have := st_rev hR hb (h.st ((l.length : Int) - k) (by omega) (by omega))
    rw [show (l.length : Int) - k - 1 = (l.length : Int) - 1 - k by omega] at this
    rw [show (l.length : Int) - 1 - (k - 1) = (l.length : Int) - k by omega]
    exact this
  rw [nm_rev (by omega) (by omega), show (l.length : Int) - 1 - ((l.length - 1 : Nat) : Int) = 0 by omega, h2] at p
  rw [show (row.length : Int) - 1 - 0 = (row.length : Int) - 1 by omega] at p
  exact p
theorem pins_in {row : List Spt} {t : Int} {held l : List Int} {e : Int} (h : Pth (St' row t held) l e) : ∀ k ∈ held, 0 ≤ k → k ≤ e → k ∈ l := by
  induction h with
  | one => intro k _ h0 h1; simp; omega
  | @snoc l e z hp hs ih =>
    intro k hk h0 h1
    by_cases c : k ≤ e
    · exact List.mem_append_left _ (ih k hk h0 c)
    · by_cases c2 : k = z
      · subst c2; simp
      · exact absurd ⟨by omega, by omega⟩ ((step_to hs).2.2.2.2 k hk)
theorem likeI_eq (x y : Int) : m_law_likeI x y = some (decide (x = y)) := by
  by_cases c : x = y <;> simp [m_law_likeI, bd, c]
theorem like_refl {l : List Int} (h : l.length ≤ 1000) : m_law_like l l = some true := by
  simp only [m_law_like, bd, Option.bind_some]
  rw [M.mapL_eq (g := fun z : Int × Int => decide (z.1 = z.2)) (by rw [List.length_zip]; omega) (fun z _ => likeI_eq z.1 z.2)]
  have : ∀ l : List Int, ((l.zip l).map fun z : Int × Int => decide (z.1 = z.2)).all id = true := fun l => by
    induction l with
    | nil => rfl
    | cons a r ih =>
      rw [List.zip_cons_cons, List.map_cons, List.all_cons, ih]
      simp
  simp only [Option.bind_some, this, decide_true, Bool.not_true, Bool.false_eq_true, if_false, Bool.or_false, if_true]
theorem cut_snoc {α : Type} (xs : List α) (z : α) : cutD (xs ++ [z]) none (some (-1)) = xs := by
  unfold cutD HT.sIx
  simp
  rw [show (-1 + ((xs.length : Int) + 1)).toNat = xs.length by omega]
  simp
end G

namespace G
open PySem L2 M
theorem small_b {x : Int} (h : x.natAbs ≤ 1000) : x.natAbs < 2 ^ 250 := Nat.lt_of_le_of_lt h (Nat.lt_of_lt_of_le (show 1000 < 2 ^ 10 by decide) (pow_le (by decide)))
theorem small_4 {x : Int} (h : x.natAbs ≤ 1000) : x.natAbs < 2 ^ 4000 := Nat.lt_of_lt_of_le (small_b h) (pow_le (by decide))
theorem spots_sp {n : Int} (n0 : 0 ≤ n) (n1 : n ≤ 20) {P : List Spt → Prop} (h : ∀ row : List Spt, row.length = n.toNat → (∀ z ∈ row, Bs 250 z) → P row) : m_law_spots n P := by
  simp only [m_law_spots, opW, callBW, lf_some, drawW]
  refine ⟨by decide, by decide, fun x x0 x1 => ⟨by decide, by decide, fun y y0 y1 => ⟨by decide, by decide, fun rt r0 r1 => ⟨by decide, by decide, fun hg g0 g1 => ⟨by decide, by decide, fun un u0 u1 => ?_⟩⟩⟩⟩⟩
  simp only [bd, Option.bind_some, rng1_eq (b := n) (by omega), lf_some]
  refine loopW_ix (fun i s => s.1.length = i ∧ (∀ z ∈ s.1, Bs 250 z) ∧ s.2.1.natAbs ≤ 10 + 20 * i ∧ s.2.2.natAbs ≤ 10 + 20 * i) _ 0 ([], x - 10, y - 10) ⟨rfl, fun z hz => by simp at hz, by show (x - 10).natAbs ≤ _; omega, by show (y - 10).natAbs ≤ _; omega⟩ (fun i s k C _ hi ⟨hl, hz, hx, hy⟩ _ hC => ?_) (fun s ⟨hl, hz, _⟩ => ?_)
  · rw [rng_len] at hi
    have ru : ∀ v : Int, v.natAbs ≤ 1000 → ratio? v (1 + un) = some (Rat.divInt v (1 + un)) ∧ Bq 250 (Rat.divInt v (1 + un)) := fun v hv =>
      ⟨ratio?_eq (by omega) (Nat.lt_of_lt_of_le (small_4 (show (1 + un).natAbs ≤ 1000 by omega)) (pow_le (by decide))), bq_divInt (by omega) (small_b hv) (small_b (by omega))⟩
    obtain ⟨e1, b1⟩ := ru s.2.1 (by omega)
    obtain ⟨e2, b2⟩ := ru s.2.2 (by omega)
    rw [e1, Option.bind_some, e2, Option.bind_some, lf_some, app_eq _ (by omega), lf_some, mul?_eq (small_4 (show (rt - 1).natAbs ≤ 1000 by omega)) (small_4 (by decide)), Option.bind_some, lf_some, mul?_eq (small_4 (show (hg - 2).natAbs ≤ 1000 by omega)) (small_4 (by decide)), Option.bind_some]
    simp only [anyW, lf_some]
    refine ⟨by simp, by decide, fun da hda => ⟨by simp, by decide, fun db hdb => hC _ ⟨by simp [hl], fun z hz' => ?_, ?_, ?_⟩⟩⟩
    · rcases List.mem_append.mp hz' with hz' | hz'
      · exact hz z hz'
      · rw [List.mem_singleton.mp hz']
        exact ⟨b1, b2⟩
    · simp only [List.mem_cons, List.not_mem_nil, or_false] at hda
      show (s.2.1 + (rt - 1) * 2 + da).natAbs ≤ _
      omega
    · simp only [List.mem_cons, List.not_mem_nil, or_false] at hdb
      show (s.2.2 + (hg - 2) * 2 + db).natAbs ≤ _
      omega
  · rw [rng_len] at hl
    exact h _ (by omega) hz
theorem held_sp {n : Int} (n0 : 0 ≤ n) (n1 : n ≤ 20) {P : List Int → Prop} (h : ∀ ys : List Int, ys.length ≤ 20 → (∀ y ∈ ys, 0 ≤ y ∧ y < n) → P ys) : m_law_held n P := by
  simp only [m_law_held, lcW, bd, Option.bind_some, rng1_eq (b := n) (by omega), lf_some]
  rw [if_pos (by rw [rng_len]; omega)]
  refine filW_all (p := fun y => 0 ≤ y ∧ y < n) (fun x hx Po h1 h2 => ?_) fun ys hy hp => h ys (by rw [rng_len] at hy; omega) hp
  simp only [opW, callBW, drawW, lf_some]
  refine ⟨by decide, by decide, fun r _ _ => ?_⟩
  by_cases c : r = 0
  · simp only [c, decide_true, if_true]
    have := rng_mem hx
    exact h1 x ⟨by omega, by omega⟩
  · simp only [c, decide_false, Bool.false_eq_true, if_false]
    exact h2
structure Kd (row : List Spt) (t : Int) (held cs ks : List Int) : Prop where
  pl : m_pieces_left row t held = some cs
  k : m_kept row t held = some ks
  cn : Cn (endsL row t held) cs 0
  kp : Kp row t held cs ks
  kl : nm ks ((ks.length : Int) - 1) = (row.length : Int) - 1
  n : ks.length ≤ 20
theorem kd {row : List Spt} {t : Int} (held : List Int) (hR : Rw row t) (h1 : 1 ≤ row.length) : ∃ cs ks, Kd row t held cs ks := by
  obtain ⟨cs, e1, cn⟩ := counts_eq (ends_ok (held := held) hR h1)
  obtain ⟨ks, k1, k2, kp, k3⟩ := kept_ex held hR h1 e1 cn
  exact ⟨cs, ks, by simp only [m_pieces_left, bd, Option.bind_some, ends_of_eq held hR, e1], k1, cn, kp, k3, k2⟩
theorem kd_holds {row : List Spt} {t : Int} {held cs ks : List Int} (hR : Rw row t) (h2 : 2 ≤ row.length) (hh : held.length ≤ 1000) (d : Kd row t held cs ks) : m_kept_holds row t ks cs held = some true := by
  have cn := d.cn
  have kp := d.kp
  have len : cs.length = row.length := by rw [cn.len, ends_len]
  have kl := List.length_pos_iff.mpr kp.ne
  have k2 := d.n
  have lT : ledT row ks = true := by
    unfold ledT
    simp only [Bool.and_eq_true, decide_eq_true_eq]
    exact ⟨⟨kp.ne, kp.hd⟩, d.kl⟩
  have pB : (rngL 1 ((ks.length : Int) - 1).toNat).any (pairB row t held ks cs) = false := by
    rw [List.any_eq_false]
    intro k hk
    have hk := rng_mem hk
    rw [kp.pr k (by omega) (by omega)]
    decide
  have nB : badN row t held cs = false := by
    unfold badN
    rw [List.any_eq_false]
    rintro ⟨i, j⟩ hp
    have := step_le cn hp
    rw [Bool.not_eq_true]
    exact decide_eq_false (by dsimp only; omega)
  have cl := cs_last (by omega) cn
  rw [holds_eq hR h2 hh (by omega)]
  simp only [len, cl, nB, lT, pB, decide_true, Bool.not_false, Bool.and_self]
theorem law_math : m_law (fun z => z = true) := by
  have r3 : rng1? (3 : Int) = some (rngL 0 3) := rng1_eq (by decide)
  simp only [m_law, bd, Option.bind_some, lf_some, r3]
  refine loopW_all (fun _ => True) _ () trivial (fun s x C _ _ hC => ?_) (fun s _ => trivial)
  simp only [callBW, tup2W, opW, lf_some, drawW]
  refine ⟨by decide, by decide, fun r r0 r1 => ?_⟩
  refine spots_sp (by omega) (by omega) fun row hrl hz => ?_
  have hl : row.length ≤ 20 := by omega
  have h7 : row.length ≤ 7 := by omega
  have h2 : 2 ≤ row.length := by omega
  refine held_sp (by omega) (by omega) fun held hh hin => ?_
  simp only [anyW]
  refine ⟨by simp, by decide, fun t ht => ?_⟩
  have ht' : 0 ≤ t ∧ t ≤ 100 := by
    simp only [List.mem_cons, List.not_mem_nil, or_false] at ht
    omega
  have hR : Rw row t := ⟨hz, hl, small_b (by omega)⟩
  have rl : row.reverse.length = row.length := List.length_reverse
  obtain ⟨cs, ks, d⟩ := kd held hR (by omega)
  obtain ⟨cs0, ks0, d0⟩ := kd [] hR (by omega)
  obtain ⟨csb, ksb, db⟩ := kd (sortBy ltI (held.map fun x => (row.length : Int) - 1 - x)) hR.rev (by omega)
  obtain ⟨L, l1, l2⟩ := lists_sp hR h2 h7 (by omega) d.cn d.kp d.kl
  obtain ⟨L0, l01, l02⟩ := lists_sp hR h2 h7 (by simp) d0.cn d0.kp d0.kl
  obtain ⟨kf, f1⟩ := fewest_eq hR h2 (by omega) d.cn
  obtain ⟨p1, p2, p3⟩ := kept_min (by omega) d.cn d.kp d.kl
  obtain ⟨b1, b2, b3⟩ := kept_min (by omega) db.cn db.kp db.kl
  have clen : cs.length = row.length := by rw [d.cn.len, ends_len]
  have kn := d.n
  have k0n := d0.n
  have klen := List.length_pos_iff.mpr d.kp.ne
  have bl : ksb.length = ks.length := by
    rw [rl] at b1 b3
    have mem : ∀ z, z ∈ sortBy ltI (held.map fun x => (row.length : Int) - 1 - x) ↔ ∃ h ∈ held, z = (row.length : Int) - 1 - h := fun z => by
      unfold sortBy
      rw [List.mem_mergeSort, List.mem_map]
      exact ⟨fun ⟨h, a, b⟩ => ⟨h, a, b.symm⟩, fun ⟨h, a, b⟩ => ⟨h, a, b.symm⟩⟩
    obtain ⟨l, e1, e2⟩ := pth_rev hR (fun z hz => (mem z).mp hz) p1
    have g1 := (b3 l e2).1
    have hRr := hR.rev
    have b1' : Pth (St' row.reverse t (sortBy ltI (held.map fun x => (row.length : Int) - 1 - x))) ksb ((row.reverse.length : Int) - 1) := by rw [rl]; exact b1
    obtain ⟨l', e3, e4⟩ := pth_rev (back := held) hRr (fun z hz => ⟨(row.length : Int) - 1 - z, (mem _).mpr ⟨z, hz, rfl⟩, by rw [rl]; omega⟩) b1'
    rw [List.reverse_reverse, rl] at e4
    have g2 := (p3 l' e4).1
    omega
  have c0 : atI cs 0 = some ((ks.length : Int) - 1) := by
    rw [show atI cs 0 = some (nm cs 0) from at_get 0 (by omega) (by omega), p2]
  have e1 : held.all (fun x => decide (x ∈ ks)) = true := by
    rw [List.all_eq_true]
    intro z hz
    have := hin z hz
    exact decide_eq_true (pins_in p1 z hz (by omega) (by omega))
  have m1 : mapL? (fun law_at_10 => some (decide (law_at_10 ∈ ks))) held = some (held.map fun x => decide (x ∈ ks)) := M.mapL_eq (by omega) fun _ _ => rfl
  have m2 : mapL? (fun law_at_12 => some ((row.length : Int) - 1 - law_at_12)) held = some (held.map fun x => (row.length : Int) - 1 - x) := M.mapL_eq (by omega) fun _ _ => rfl
  simp only [d.k, d.pl, l1, l2, l01, l02, f1, d0.k, db.k, Option.bind_some, lf_some, like_refl (show ks.length ≤ 1000 by omega), like_refl (show ks0.length ≤ 1000 by omega), like_refl (show cs.length ≤ 1000 by omega), Bool.not_true, Bool.false_eq_true, if_false, decide_true, c0, m1, m2, bl, app_eq (1 : Int) (show ks.length < 100000 by omega), cut_snoc, kd_holds hR h2 (by omega) d]
  rw [show (ks.length : Int) - 1 + 1 = ks.length by omega]
  simp only [decide_true, Bool.not_true, Bool.false_eq_true, if_false, Option.bind_some, lf_some, List.all_map]
  rw [show held.all (id ∘ fun x => decide (x ∈ ks)) = true from e1]
  simp only [Bool.not_true, Bool.false_eq_true, if_false]
  exact hC _ trivial
end G

namespace G
open PySem L2 M
section
variable {P : Program} {w : World} {K : PySem.W.Frag} {mg : Str → Option Value} {base : Heap}

def spLaw (K : PySem.W.Frag) : Sp := fun vs H Q _ => ∃ (a : Addr) (ns : List Int), vs = [.ref a] ∧ SqL K H a (ns.map V.int) ∧ ns.length ≤ 63 ∧ ∀ H', Q (.bl true) H'
theorem ok_law (ev : Env K mg) : FnOk P w K mg base CX0 10 ev.f_law ev.d_law p_law (spLaw K) := by
  refine ev.A_law.F.ok sc_law (fun vs H Q E h => ?_) (fun cdv A outer s Hs vs Q E hr h => ?_)
  · obtain ⟨a, ns, rfl, _⟩ := h
    rfl
  obtain ⟨a0, ns, rfl, hS, hl, qq⟩ := h
  have hm := law_math
  refine ⟨_, (pss_cons (ps_set (i := 1) sc_law.nd rfl (Or.inl rfl) (pe_call (ok_law_open ev) (hr.mono (by decide)) (by rfl) ev.A_law_open.m ev.A_law_open.F.kp ev.A_law_open.b .nil pass0 (pa_cons (pv 0) pa_nil)))
    (pss_cons (ps_for PassesOwn.never rfl (pi_range1 rfl ev.B.range_ (pa_cons pe_int pa_nil)) (pg_name (i := 2) sc_law.nd rfl (Or.inl rfl))
    (pss_cons (ps_set (i := 3) sc_law.nd rfl (Or.inr rfl) (pe_call (ok_law_spots ev) (hr.mono (by decide)) (by rfl) ev.A_law_spots.m ev.A_law_spots.F.kp ev.A_law_spots.b .nil pass0 (pa_cons (pv 1) (pa_cons (pe_op op_add pe_int (pe_call (ok_law_pull ev) (hr.mono (by decide)) (by rfl) ev.A_law_pull.m ev.A_law_pull.F.kp ev.A_law_pull.b .nil pass0 (pa_cons (pv 1) (pa_cons pe_int pa_nil)))) pa_nil))))
    (pss_cons (ps_set (i := 4) sc_law.nd rfl (Or.inl rfl) (pe_call (ok_law_held ev) (hr.mono (by decide)) (by rfl) ev.A_law_held.m ev.A_law_held.F.kp ev.A_law_held.b .nil pass0 (pa_cons (pv 1) (pa_cons (pe_callB call_len_seq (by rfl) ev.B.len_ PySem.boot_len (pa_cons (pv 3) pa_nil)) pa_nil))))
    (pss_cons (ps_set (i := 5) sc_law.nd rfl (Or.inl rfl) (pe_call (ok_law_any ev) (hr.mono (by decide)) (by rfl) ev.A_law_any.m ev.A_law_any.F.kp ev.A_law_any.b .nil pass0 (pa_cons (pv 1) (pa_cons (pe_lst (pa_cons pe_int (pa_cons pe_int (pa_cons pe_int (pa_cons pe_int (pa_cons pe_int (pa_cons pe_int pa_nil))))))) pa_nil))))
    (pss_cons (ps_set (i := 6) sc_law.nd rfl (Or.inl rfl) (pe_lst (pa_cons (pe_callTy call_list_of (by rfl) ev.B.list_ (by decide +kernel) (pa_cons (pv 3) pa_nil)) (pa_cons (pe_callTy call_list_of (by rfl) ev.B.list_ (by decide +kernel) (pa_cons (pv 4) pa_nil)) pa_nil))))
    (pss_cons (ps_set (i := 7) sc_law.nd rfl (Or.inr rfl) (pe_callN (ok_kept ev) (hr.mono (by decide)) (by rfl) ev.A_kept.m ev.A_kept.F.kp ev.A_kept.kb pass0 (pa_cons (pe_ix ix_list (pv 6) pe_int (fun _ _ => rfl)) (pa_cons (pv 5) pa_nil)) (pk_cons (pe_ix ix_list (pv 6) pe_int (fun _ _ => rfl)) pk_nil)))
    (pss_cons (ps_if (PW.pt (pw_or (pt_not (pt_val (pe_call (ok_law_like ev) (hr.mono (by decide)) (by rfl) ev.A_law_like.m ev.A_law_like.F.kp ev.A_law_like.b .nil pass0 (pa_cons (pv 7) (pa_cons (pe_ix ix_tup (pe_ix ix_list (pe_call (ok_law_lists ev) (hr.mono (by decide)) (by rfl) ev.A_law_lists.m ev.A_law_lists.F.kp ev.A_law_lists.b .nil pass0 (pa_cons (pv 3) (pa_cons (pv 5) (pa_cons (pv 4) pa_nil)))) pe_int (fun _ _ => rfl)) pe_int (fun _ _ => rfl)) pa_nil))))) (pw_or1 (pt_cmpR (op_neD hr.units) (pv 6) (pe_lst (pa_cons (pv 3) (pa_cons (pv 4) pa_nil))) (nomark _)))))
    (pss_one (ps_ret pe_bl)) pss_nil)
    (pss_cons (ps_set (i := 8) sc_law.nd rfl (Or.inl rfl) (pe_ix ix_tup (pe_call (ok_law_fewest ev) (hr.mono (by decide)) (by rfl) ev.A_law_fewest.m ev.A_law_fewest.F.kp ev.A_law_fewest.b .nil pass0 (pa_cons (pv 3) (pa_cons (pv 5) (pa_cons (pv 4) pa_nil)))) pe_int (fun _ _ => rfl)))
    (pss_cons (ps_if (pt_not (pt_val (pe_call (ok_law_like ev) (hr.mono (by decide)) (by rfl) ev.A_law_like.m ev.A_law_like.F.kp ev.A_law_like.b .nil pass0 (pa_cons (pe_callN (ok_pieces_left ev) (hr.mono (by decide)) (by rfl) ev.A_pieces_left.m ev.A_pieces_left.F.kp ev.A_pieces_left.kb pass0 (pa_cons (pe_ix ix_list (pv 6) pe_int (fun _ _ => rfl)) (pa_cons (pv 5) pa_nil)) (pk_cons (pe_callTy call_tuple_of (by rfl) ev.B.tuple_ (by decide +kernel) (pa_cons (pv 4) pa_nil)) pk_nil)) (pa_cons (pv 8) pa_nil)))))
    (pss_one (ps_ret pe_bl)) pss_nil)
    (pss_cons (ps_if (PW.pt (pw_or (pt_cmpR op_ne (pe_callB call_len_seq (by rfl) ev.B.len_ PySem.boot_len (pa_cons (pv 7) pa_nil)) (pe_op op_add (pe_ix ix_list (pv 8) pe_int (fun _ _ => rfl)) pe_int) (nomark _)) (pw_or1 (pt_not (pt_val (pe_callB (cr_all rfl) (by rfl) ev.B.all_ (by decide +kernel) (pa_cons (pe_lc (own := [("_law_at", 11)]) (g := gName 11) (tt := tYes) (by rfl) sc_law.nd (pi_list (pv 4)) (blkOk_by (own := [("_law_at", 11)]) (N := n_law) (sc := defScope s_law) (by decide +kernel)) (fun _ _ _ _ _ => pg_name (i := 11) sc_law.nd rfl (Or.inl rfl)) (fun _ _ _ _ _ => pts_nil) (fun _ _ _ _ _ => (pe_cmpR (show OpR _ _ (rIn K false) from op_in_seq) (pv 11) (pv 7) (by rfl)))) pa_nil)))))))
    (pss_one (ps_ret pe_bl)) pss_nil)
    (pss_cons (ps_set (i := 9) sc_law.nd rfl (Or.inl rfl) (pe_callB (cr_sortA hr.units65) (by rfl) ev.B.sorted_ (by decide +kernel) (pa_cons (pe_lc (own := [("_law_at", 11)]) (g := gName 11) (tt := tYes) (by rfl) sc_law.nd (pi_list (pv 4)) (blkOk_by (own := [("_law_at", 11)]) (N := n_law) (sc := defScope s_law) (by decide +kernel)) (fun _ _ _ _ _ => pg_name (i := 11) sc_law.nd rfl (Or.inl rfl)) (fun _ _ _ _ _ => pts_nil) (fun _ _ _ _ _ => (pe_op op_sub (pe_op op_sub (pe_callB (show CallR _ (.builtin "len") (rLenQ K) from call_len_seq) (by rfl) ev.B.len_ PySem.boot_len (pa_cons (pv 3) pa_nil)) pe_int) (pv 11)))) pa_nil)))
    (pss_cons (ps_if (pt_cmpR op_ne (pe_callB call_len_seq (by rfl) ev.B.len_ PySem.boot_len (pa_cons (pe_callN (ok_kept ev) (hr.mono (by decide)) (by rfl) ev.A_kept.m ev.A_kept.F.kp ev.A_kept.kb pass0 (pa_cons (pe_revL (pv 3)) (pa_cons (pv 5) pa_nil)) (pk_cons (pv 9) pk_nil)) pa_nil)) (pe_callB call_len_seq (by rfl) ev.B.len_ PySem.boot_len (pa_cons (pv 7) pa_nil)) (nomark _))
    (pss_one (ps_ret pe_bl)) pss_nil)
    (pss_cons (ps_set (i := 10) sc_law.nd rfl (Or.inl rfl) (pe_ix ix_tup (pe_ix ix_list (pe_call (ok_law_lists ev) (hr.mono (by decide)) (by rfl) ev.A_law_lists.m ev.A_law_lists.F.kp ev.A_law_lists.b .nil pass0 (pa_cons (pv 3) (pa_cons (pv 5) (pa_cons (pe_lst pa_nil) pa_nil)))) pe_int (fun _ _ => rfl)) pe_int (fun _ _ => rfl)))
    (pss_cons (ps_if (PW.pt (pw_or (pt_not (pt_val (pe_call (ok_law_like ev) (hr.mono (by decide)) (by rfl) ev.A_law_like.m ev.A_law_like.F.kp ev.A_law_like.b .nil pass0 (pa_cons (pe_call (ok_kept ev) (hr.mono (by decide)) (by rfl) ev.A_kept.m ev.A_kept.F.kp ev.A_kept.b0.choose_spec.2 ev.A_kept.b0.choose_spec.1 pass0 (pa_cons (pv 3) (pa_cons (pv 5) pa_nil))) (pa_cons (pv 10) pa_nil))))) (pw_or1 (pt_not (pt_val (pe_call (ok_law_like ev) (hr.mono (by decide)) (by rfl) ev.A_law_like.m ev.A_law_like.F.kp ev.A_law_like.b .nil pass0 (pa_cons (pe_callN (ok_kept ev) (hr.mono (by decide)) (by rfl) ev.A_kept.m ev.A_kept.F.kp ev.A_kept.kb pass0 (pa_cons (pv 3) (pa_cons (pv 5) pa_nil)) (pk_cons (pe_lst pa_nil) pk_nil)) (pa_cons (pv 10) pa_nil))))))))
    (pss_one (ps_ret pe_bl)) pss_nil)
    (pss_cons (ps_expr (pe_bm PySem.F.plainAttrs_list PySem.F.slot_list_append PySem.F.type_list_append mt_append (pv 7) (pa_cons pe_int pa_nil)))
    (pss_one (ps_if (pt_cmpR op_notBl (pe_callN (ok_kept_holds ev) (hr.mono (by decide)) (by rfl) ev.A_kept_holds.m ev.A_kept_holds.F.kp ev.A_kept_holds.kb pass0 (pa_cons (pv 3) (pa_cons (pv 5) (pa_cons (pe_slice sl_list (pv 7) po_none (po_some (pe_un un_neg pe_int))) (pa_cons (pv 8) pa_nil)))) (pk_cons (pv 4) pk_nil)) pe_bl (nomark _))
    (pss_one (ps_ret pe_bl)) pss_nil)))))))))))))))))
    (pss_one (ps_ret pe_bl)))), ?_⟩
  refine seq_asg ⟨_, rfl, a0, ns, rfl, hS, hl, fun b c H0 hB nb nc sm => ?_⟩
  have dm := hB.dom
  have ts : Sub [b, c] [b, c] := fun a m => m
  have sub0 : Sub [b, c] [b, c] := fun a m => m
  have fr0 := Fr.refl (T := [b, c]) H0
  have q : ∀ (u : V) (H' : Hp) (z : Bool), z = true → Fr [b, c] H0 H' → Bag H' b c → (of (K := K) tBool [b, c]).r H0 H' u z → Q u H' := fun u H' z hz _ _ hu => by
    subst hz
    cases hu
    exact qq H'
  dsimp only [m_law] at hm
  refine qw_for_s dm hB ts (srw_pure (sr_r1 (K := K) (ev_int (K := K)))) hm (fun s_1 σ' H' => ∃ f_2 : Option V, ∃ f_3 : Option V, ∃ f_4 : Option V, ∃ f_5 : Option V, ∃ f_6 : Option V, ∃ f_7 : Option V, ∃ f_8 : Option V, ∃ f_9 : Option V, ∃ f_10 : Option V, ∃ f_11 : Option V, σ' = [some (.ref a0), some (.ref b), f_2, f_3, f_4, f_5, f_6, f_7, f_8, f_9, f_10, f_11] ∧ Fr [b, c] H0 H' ∧ Dom [b, c] H' ∧ Bag H' b c) (fun H1 fr1 dm1 hB1 => ?_) (fun hd1 s_1 law_turn_1 C1 v_law_turn σ' H' hI h_law_turn hm hret1 hbrk1 => ?_) (fun t_1 σ' H' hm hI => ?_)
  · skip
    have fr0 := fr0.trans fr1
    have dm := dm1
    have hB := hB1
    exact ⟨_, _, _, _, _, _, _, _, _, _, rfl, fr0, dm, hB⟩
  · skip
    obtain ⟨f_2, f_3, f_4, f_5, f_6, f_7, f_8, f_9, f_10, f_11, rfl, fr0, dm, hB⟩ := hI
    let HL := H'
    have freshl : ∀ a ∈ [b, c], a ∉ [b, c] → H' a = none := fun a m n => absurd m n
    have frl : Fr [b, c] HL H' := Fr.refl (T := [b, c]) H'
    have tsl := ts
    have subl : Sub [b, c] [b, c] := fun a m => m
    have h_law_turn : (tInt : Ty K Int).rp [b, c] H' v_law_turn law_turn_1 := h_law_turn
    refine qw_asg dm hB ts (ew_new (ew_callB rfl (wa_cons (ew_op (od_add (K := K)) (ew_pure (ev_int (K := K))) (ew_draw (K := K) rfl (ew_pure (ev_int (K := K))))) wa_nil))) hm (fun v_law_row H2 law_row_2 hm fr2 dm2 hB2 h_law_row => ?_)
    have fr0 := fr0.trans fr2
    have frl := frl.trans (fr2.sub tsl)
    have h_law_turn := (tInt : Ty K Int).mono (S := [b, c]) (fr2.sub ts) h_law_turn
    have dm := dm2
    have hB := hB2
    have h_law_row : ((tL (tT2 tRat tRat)) : Ty K (List (Rat × Rat))).rp [b, c] H2 v_law_row law_row_2 := h_law_row
    refine qw_asg dm hB ts (ew_new (ew_callB rfl (wa_cons (ew_pure (ev_lenL (ev_var ts h_law_row rfl))) wa_nil))) hm (fun v_law_pins H3 law_pins_3 hm fr3 dm3 hB3 h_law_pins => ?_)
    have fr0 := fr0.trans fr3
    have frl := frl.trans (fr3.sub tsl)
    have h_law_turn := (tInt : Ty K Int).mono (S := [b, c]) (fr3.sub ts) h_law_turn
    have h_law_row := ((tL (tT2 tRat tRat)) : Ty K (List (Rat × Rat))).mono (S := [b, c]) (fr3.sub ts) h_law_row
    have dm := dm3
    have hB := hB3
    have h_law_pins : ((tL tInt) : Ty K (List Int)).rp [b, c] H3 v_law_pins law_pins_3 := h_law_pins
    refine qw_asg dm hB ts (ew_any rfl (ew_pure (ev_new (ev_lst (el_cons (ev_int (K := K)) (el_cons (ev_int (K := K)) (el_cons (ev_int (K := K)) (el_cons (ev_int (K := K)) (el_cons (ev_int (K := K)) (el_cons (ev_int (K := K)) el_nil)))))) (by decide))))) hm (fun v_law_off_by H4 law_off_by_4 hm fr4 dm4 hB4 h_law_off_by => ?_)
    have fr0 := fr0.trans fr4
    have frl := frl.trans (fr4.sub tsl)
    have h_law_turn := (tInt : Ty K Int).mono (S := [b, c]) (fr4.sub ts) h_law_turn
    have h_law_row := ((tL (tT2 tRat tRat)) : Ty K (List (Rat × Rat))).mono (S := [b, c]) (fr4.sub ts) h_law_row
    have h_law_pins := ((tL tInt) : Ty K (List Int)).mono (S := [b, c]) (fr4.sub ts) h_law_pins
    have dm := dm4
    have hB := hB4
    have h_law_off_by : (tInt : Ty K Int).rp [b, c] H4 v_law_off_by law_off_by_4 := h_law_off_by
    obtain ⟨law_handed_5, e5, hm⟩ := hm
    refine q_asg (T := [b, c]) dm (ev_lst2 (ev_new (ev_list (ev_var ts h_law_row rfl))) (ev_new (ev_list (ev_var ts h_law_pins rfl)))) e5 (fun v_law_handed H5 s5 h_law_handed => ?_)
    have fr0 := fr0.trans (Fr.same s5)
    have dm := dm.same s5
    have frl := frl.trans (Fr.same s5)
    have h_law_turn := (tInt : Ty K Int).mono (S := [b, c]) (Fr.same s5) h_law_turn
    have h_law_row := ((tL (tT2 tRat tRat)) : Ty K (List (Rat × Rat))).mono (S := [b, c]) (Fr.same s5) h_law_row
    have h_law_pins := ((tL tInt) : Ty K (List Int)).mono (S := [b, c]) (Fr.same s5) h_law_pins
    have h_law_off_by := (tInt : Ty K Int).mono (S := [b, c]) (Fr.same s5) h_law_off_by
    have hB := hB.same s5
    have h_law_handed : ((tL2 (tL (tT2 tRat tRat)) (tL tInt)) : Ty K ((List (Rat × Rat)) × (List Int))).rp [b, c] H5 v_law_handed law_handed_5 := h_law_handed
    obtain ⟨law_told_6, e6, hm⟩ := hm
    refine q_asg (T := [b, c]) dm (ev_callN (e2_cons (ev_ixL20 (ev_var ts h_law_handed rfl)) (e2_cons (ev_var ts h_law_off_by rfl) (e2_nil (en_cons (ev_L2Sq (ev_ixL21 (ev_var ts h_law_handed rfl))) en_nil))))) e6 (fun v_law_told H6 s6 hx => ?_)
    obtain ⟨p_law_told, rfl, np_law_told, o_law_told⟩ := hx
    have ns_law_told : p_law_told ∉ [b, c] := dm.not_mem np_law_told
    have nb_law_told : p_law_told ∉ [b, c] := fun m => ns_law_told (sub0 _ m)
    have nbl_law_told : p_law_told ∉ [b, c] := fun m => ns_law_told (subl _ m)
    have n0_law_told := fr_back fr0 hB.dom np_law_told
    have nt_law_told := hB.dom.not_mem np_law_told
    have fr0 := fr0.trans (Fr.same s6)
    have nl_law_told := fr_back frl (dm.sub subl) np_law_told
    have frl := frl.trans (Fr.same s6)
    have subl := sub_cons (p := p_law_told) subl
    have freshl := fresh_cons freshl nl_law_told
    have h_law_turn := (tInt : Ty K Int).mono (Fr.same s6) ((tInt : Ty K Int).ext (S := [b, c]) np_law_told h_law_turn)
    have h_law_row := ((tL (tT2 tRat tRat)) : Ty K (List (Rat × Rat))).mono (Fr.same s6) (((tL (tT2 tRat tRat)) : Ty K (List (Rat × Rat))).ext (S := [b, c]) np_law_told h_law_row)
    have h_law_pins := ((tL tInt) : Ty K (List Int)).mono (Fr.same s6) (((tL tInt) : Ty K (List Int)).ext (S := [b, c]) np_law_told h_law_pins)
    have h_law_off_by := (tInt : Ty K Int).mono (Fr.same s6) ((tInt : Ty K Int).ext (S := [b, c]) np_law_told h_law_off_by)
    have h_law_handed := ((tL2 (tL (tT2 tRat tRat)) (tL tInt)) : Ty K ((List (Rat × Rat)) × (List Int))).mono (Fr.same s6) (((tL2 (tL (tT2 tRat tRat)) (tL tInt)) : Ty K ((List (Rat × Rat)) × (List Int))).ext (S := [b, c]) np_law_told h_law_handed)
    have dm := (dm.same s6).cons o_law_told.choose_spec.1
    have ts := sub_cons (p := p_law_told) ts
    have sub0 := sub_cons (p := p_law_told) sub0
    have im_law_told : p_law_told ∈ p_law_told :: [b, c] := List.mem_cons_self ..
    have hB := hB.same s6
    obtain ⟨c7, e7, hm⟩ := hm
    refine q_if (T := [b, c]) dm (by refine eb_shr (S' := [b, c]) (sub_cons (fun a m => m)) ?_; have sbz : Sub [b, c] (p_law_told :: [b, c]) := (sub_cons (fun a m => m)); (have nfz : p_law_told ∉ [b, c] := by first | exact ns_law_told | (have h := ns_law_told; simp only [List.mem_cons, not_or] at h ⊢; grind)); have h_law_told := o_law_told.frz sbz nfz; have h_law_turn := (tInt : Ty K Int).sub sbz h_law_turn; have h_law_row := ((tL (tT2 tRat tRat)) : Ty K (List (Rat × Rat))).sub sbz h_law_row; have h_law_pins := ((tL tInt) : Ty K (List Int)).sub sbz h_law_pins; have h_law_off_by := (tInt : Ty K Int).sub sbz h_law_off_by; have h_law_handed := ((tL2 (tL (tT2 tRat tRat)) (tL tInt)) : Ty K ((List (Rat × Rat)) × (List Int))).sub sbz h_law_handed; (have ts : Sub [b, c] [b, c] := fun a m => by have h1 := ts a m; have h2 : a ≠ p_law_told := (fun e => nt_law_told (e ▸ m)); simp only [List.mem_cons] at h1 ⊢; grind); exact (eb_or (eb_not (eb_B (K := K) (ev_call (ea_cons (ev_var ts h_law_told rfl) (ea_cons (ev_ix21 (ev_op od_ixL (ev_new (ev_call (ea_cons (ev_var ts h_law_row rfl) (ea_cons (ev_var ts h_law_off_by rfl) (ea_cons (ev_var ts h_law_pins rfl) ea_nil))))) (ev_int (K := K)))) ea_nil))))) (eb_test (K := K) (ev_op (od_neD (K := K) (dL2 (dL (dT2 dRat dRat)) (dL dInt)) (Nat.le_of_ble_eq_true rfl)) (ev_var ts h_law_handed rfl) (ev_lst2 (ev_var ts h_law_row rfl) (ev_var ts h_law_pins rfl)))))) e7 (fun hc H7 s7 => ?_) (fun hc H7 s7 => ?_)
    · skip
      subst hc
      have hm := ifp_t hm
      have fr0 := fr0.trans (Fr.same s7)
      have dm := dm.same s7
      have frl := frl.trans (Fr.same s7)
      have h_law_turn := (tInt : Ty K Int).mono (S := (p_law_told :: [b, c])) (Fr.same s7) h_law_turn
      have h_law_row := ((tL (tT2 tRat tRat)) : Ty K (List (Rat × Rat))).mono (S := (p_law_told :: [b, c])) (Fr.same s7) h_law_row
      have h_law_pins := ((tL tInt) : Ty K (List Int)).mono (S := (p_law_told :: [b, c])) (Fr.same s7) h_law_pins
      have h_law_off_by := (tInt : Ty K Int).mono (S := (p_law_told :: [b, c])) (Fr.same s7) h_law_off_by
      have h_law_handed := ((tL2 (tL (tT2 tRat tRat)) (tL tInt)) : Ty K ((List (Rat × Rat)) × (List Int))).mono (S := (p_law_told :: [b, c])) (Fr.same s7) h_law_handed
      have o_law_told := o_law_told.same s7
      have hB := hB.same s7
      obtain ⟨z, er, hm⟩ := hm
      have hm := hret1 z hm
      exact q_ret (T := [b, c]) dm (ev_bool (K := K)) er (fun v H21 s21 hv => q v H21 _ hm (fr0.trans (Fr.same s21)) (hB.same s21) ((tBool : Ty K Bool).sub (S := (p_law_told :: [b, c])) (H := H21) sub0 hv))
    subst hc
    have hm := ifp_f hm
    have fr0 := fr0.trans (Fr.same s7)
    have dm := dm.same s7
    have frl := frl.trans (Fr.same s7)
    have h_law_turn := (tInt : Ty K Int).mono (S := (p_law_told :: [b, c])) (Fr.same s7) h_law_turn
    have h_law_row := ((tL (tT2 tRat tRat)) : Ty K (List (Rat × Rat))).mono (S := (p_law_told :: [b, c])) (Fr.same s7) h_law_row
    have h_law_pins := ((tL tInt) : Ty K (List Int)).mono (S := (p_law_told :: [b, c])) (Fr.same s7) h_law_pins
    have h_law_off_by := (tInt : Ty K Int).mono (S := (p_law_told :: [b, c])) (Fr.same s7) h_law_off_by
    have h_law_handed := ((tL2 (tL (tT2 tRat tRat)) (tL tInt)) : Ty K ((List (Rat × Rat)) × (List Int))).mono (S := (p_law_told :: [b, c])) (Fr.same s7) h_law_handed
    have o_law_told := o_law_told.same s7
    have hB := hB.same s7
    refine q_next ?_
    obtain ⟨law_numbers_8, e8, hm⟩ := hm
    refine q_asg (T := [b, c]) dm (ev_ix21 (ev_call (ea_cons (ev_var ts h_law_row rfl) (ea_cons (ev_var ts h_law_off_by rfl) (ea_cons (ev_var ts h_law_pins rfl) ea_nil))))) e8 (fun v_law_numbers H8 s8 h_law_numbers => ?_)
    have fr0 := fr0.trans (Fr.same s8)
    have dm := dm.same s8
    have frl := frl.trans (Fr.same s8)
    have h_law_turn := (tInt : Ty K Int).mono (S := (p_law_told :: [b, c])) (Fr.same s8) h_law_turn
    have h_law_row := ((tL (tT2 tRat tRat)) : Ty K (List (Rat × Rat))).mono (S := (p_law_told :: [b, c])) (Fr.same s8) h_law_row
    have h_law_pins := ((tL tInt) : Ty K (List Int)).mono (S := (p_law_told :: [b, c])) (Fr.same s8) h_law_pins
    have h_law_off_by := (tInt : Ty K Int).mono (S := (p_law_told :: [b, c])) (Fr.same s8) h_law_off_by
    have h_law_handed := ((tL2 (tL (tT2 tRat tRat)) (tL tInt)) : Ty K ((List (Rat × Rat)) × (List Int))).mono (S := (p_law_told :: [b, c])) (Fr.same s8) h_law_handed
    have o_law_told := o_law_told.same s8
    have hB := hB.same s8
    have h_law_numbers : ((tL tInt) : Ty K (List Int)).rp (p_law_told :: [b, c]) H8 v_law_numbers law_numbers_8 := h_law_numbers
    obtain ⟨c9, e9, hm⟩ := hm
    refine q_if (T := [b, c]) dm (eb_not (eb_B (K := K) (ev_call (ea_cons (ev_new (ev_callN (e2_cons (ev_ixL20 (ev_var ts h_law_handed rfl)) (e2_cons (ev_var ts h_law_off_by rfl) (e2_nil (en_cons (ev_T2Sq (ev_tupleL (ev_var ts h_law_pins rfl))) en_nil)))))) (ea_cons (ev_var ts h_law_numbers rfl) ea_nil))))) e9 (fun hc H9 s9 => ?_) (fun hc H9 s9 => ?_)
    · skip
      subst hc
      have hm := ifp_t hm
      have fr0 := fr0.trans (Fr.same s9)
      have dm := dm.same s9
      have frl := frl.trans (Fr.same s9)
      have h_law_turn := (tInt : Ty K Int).mono (S := (p_law_told :: [b, c])) (Fr.same s9) h_law_turn
      have h_law_row := ((tL (tT2 tRat tRat)) : Ty K (List (Rat × Rat))).mono (S := (p_law_told :: [b, c])) (Fr.same s9) h_law_row
      have h_law_pins := ((tL tInt) : Ty K (List Int)).mono (S := (p_law_told :: [b, c])) (Fr.same s9) h_law_pins
      have h_law_off_by := (tInt : Ty K Int).mono (S := (p_law_told :: [b, c])) (Fr.same s9) h_law_off_by
      have h_law_handed := ((tL2 (tL (tT2 tRat tRat)) (tL tInt)) : Ty K ((List (Rat × Rat)) × (List Int))).mono (S := (p_law_told :: [b, c])) (Fr.same s9) h_law_handed
      have o_law_told := o_law_told.same s9
      have h_law_numbers := ((tL tInt) : Ty K (List Int)).mono (S := (p_law_told :: [b, c])) (Fr.same s9) h_law_numbers
      have hB := hB.same s9
      obtain ⟨z, er, hm⟩ := hm
      have hm := hret1 z hm
      exact q_ret (T := [b, c]) dm (ev_bool (K := K)) er (fun v H22 s22 hv => q v H22 _ hm (fr0.trans (Fr.same s22)) (hB.same s22) ((tBool : Ty K Bool).sub (S := (p_law_told :: [b, c])) (H := H22) sub0 hv))
    subst hc
    have hm := ifp_f hm
    have fr0 := fr0.trans (Fr.same s9)
    have dm := dm.same s9
    have frl := frl.trans (Fr.same s9)
    have h_law_turn := (tInt : Ty K Int).mono (S := (p_law_told :: [b, c])) (Fr.same s9) h_law_turn
    have h_law_row := ((tL (tT2 tRat tRat)) : Ty K (List (Rat × Rat))).mono (S := (p_law_told :: [b, c])) (Fr.same s9) h_law_row
    have h_law_pins := ((tL tInt) : Ty K (List Int)).mono (S := (p_law_told :: [b, c])) (Fr.same s9) h_law_pins
    have h_law_off_by := (tInt : Ty K Int).mono (S := (p_law_told :: [b, c])) (Fr.same s9) h_law_off_by
    have h_law_handed := ((tL2 (tL (tT2 tRat tRat)) (tL tInt)) : Ty K ((List (Rat × Rat)) × (List Int))).mono (S := (p_law_told :: [b, c])) (Fr.same s9) h_law_handed
    have o_law_told := o_law_told.same s9
    have h_law_numbers := ((tL tInt) : Ty K (List Int)).mono (S := (p_law_told :: [b, c])) (Fr.same s9) h_law_numbers
    have hB := hB.same s9
    refine q_next ?_
    obtain ⟨c11, e11, hm⟩ := hm
    refine q_if (T := [b, c]) dm (by refine eb_shr (S' := [b, c]) (sub_cons (fun a m => m)) ?_; have sbz : Sub [b, c] (p_law_told :: [b, c]) := (sub_cons (fun a m => m)); (have nfz : p_law_told ∉ [b, c] := by first | exact ns_law_told | (have h := ns_law_told; simp only [List.mem_cons, not_or] at h ⊢; grind)); have h_law_told := o_law_told.frz sbz nfz; have h_law_turn := (tInt : Ty K Int).sub sbz h_law_turn; have h_law_row := ((tL (tT2 tRat tRat)) : Ty K (List (Rat × Rat))).sub sbz h_law_row; have h_law_pins := ((tL tInt) : Ty K (List Int)).sub sbz h_law_pins; have h_law_off_by := (tInt : Ty K Int).sub sbz h_law_off_by; have h_law_handed := ((tL2 (tL (tT2 tRat tRat)) (tL tInt)) : Ty K ((List (Rat × Rat)) × (List Int))).sub sbz h_law_handed; have h_law_numbers := ((tL tInt) : Ty K (List Int)).sub sbz h_law_numbers; (have ts : Sub [b, c] [b, c] := fun a m => by have h1 := ts a m; have h2 : a ≠ p_law_told := (fun e => nt_law_told (e ▸ m)); simp only [List.mem_cons] at h1 ⊢; grind); exact (eb_or (eb_test (K := K) (ev_op (od_neI (K := K)) (ev_lenL (ev_var ts h_law_told rfl)) (ev_op (od_add (K := K)) (ev_op od_ixL (ev_var ts h_law_numbers rfl) (ev_int (K := K))) (ev_int (K := K))))) (eb_not (eb_B (K := K) (ev_all (ev_new (ev_lc (sr_list (ev_var ts h_law_pins rfl)) (fun v => by rfl) (fun law_at_10 v_law_at H2' H' p' fr' nD' sm' h_law_at => by have h_law_turn := (tInt : Ty K Int).mono (Fr.same sm') ((tInt : Ty K Int).ext (S := [b, c]) nD' ((tInt : Ty K Int).mono (Fr.sub ts fr') h_law_turn)); have h_law_row := ((tL (tT2 tRat tRat)) : Ty K (List (Rat × Rat))).mono (Fr.same sm') (((tL (tT2 tRat tRat)) : Ty K (List (Rat × Rat))).ext (S := [b, c]) nD' (((tL (tT2 tRat tRat)) : Ty K (List (Rat × Rat))).mono (Fr.sub ts fr') h_law_row)); have h_law_pins := ((tL tInt) : Ty K (List Int)).mono (Fr.same sm') (((tL tInt) : Ty K (List Int)).ext (S := [b, c]) nD' (((tL tInt) : Ty K (List Int)).mono (Fr.sub ts fr') h_law_pins)); have h_law_off_by := (tInt : Ty K Int).mono (Fr.same sm') ((tInt : Ty K Int).ext (S := [b, c]) nD' ((tInt : Ty K Int).mono (Fr.sub ts fr') h_law_off_by)); have h_law_handed := ((tL2 (tL (tT2 tRat tRat)) (tL tInt)) : Ty K ((List (Rat × Rat)) × (List Int))).mono (Fr.same sm') (((tL2 (tL (tT2 tRat tRat)) (tL tInt)) : Ty K ((List (Rat × Rat)) × (List Int))).ext (S := [b, c]) nD' (((tL2 (tL (tT2 tRat tRat)) (tL tInt)) : Ty K ((List (Rat × Rat)) × (List Int))).mono (Fr.sub ts fr') h_law_handed)); have h_law_told := ((tL tInt) : Ty K (List Int)).mono (Fr.same sm') (((tL tInt) : Ty K (List Int)).ext (S := [b, c]) nD' (((tL tInt) : Ty K (List Int)).mono (Fr.sub ts fr') h_law_told)); have h_law_numbers := ((tL tInt) : Ty K (List Int)).mono (Fr.same sm') (((tL tInt) : Ty K (List Int)).ext (S := [b, c]) nD' (((tL tInt) : Ty K (List Int)).mono (Fr.sub ts fr') h_law_numbers)); have ts0' := ts; have ts : Sub [] (p' :: [b, c]) := (fun a m => by simp at m);  exact (ev_op (od_inI (K := K) (neg := false)) (ev_var ts h_law_at rfl) (ev_var ts h_law_told rfl)))))))))) e11 (fun hc H11 s11 => ?_) (fun hc H11 s11 => ?_)
    · skip
      subst hc
      have hm := ifp_t hm
      have fr0 := fr0.trans (Fr.same s11)
      have dm := dm.same s11
      have frl := frl.trans (Fr.same s11)
      have h_law_turn := (tInt : Ty K Int).mono (S := (p_law_told :: [b, c])) (Fr.same s11) h_law_turn
      have h_law_row := ((tL (tT2 tRat tRat)) : Ty K (List (Rat × Rat))).mono (S := (p_law_told :: [b, c])) (Fr.same s11) h_law_row
      have h_law_pins := ((tL tInt) : Ty K (List Int)).mono (S := (p_law_told :: [b, c])) (Fr.same s11) h_law_pins
      have h_law_off_by := (tInt : Ty K Int).mono (S := (p_law_told :: [b, c])) (Fr.same s11) h_law_off_by
      have h_law_handed := ((tL2 (tL (tT2 tRat tRat)) (tL tInt)) : Ty K ((List (Rat × Rat)) × (List Int))).mono (S := (p_law_told :: [b, c])) (Fr.same s11) h_law_handed
      have o_law_told := o_law_told.same s11
      have h_law_numbers := ((tL tInt) : Ty K (List Int)).mono (S := (p_law_told :: [b, c])) (Fr.same s11) h_law_numbers
      have hB := hB.same s11
      obtain ⟨z, er, hm⟩ := hm
      have hm := hret1 z hm
      exact q_ret (T := [b, c]) dm (ev_bool (K := K)) er (fun v H23 s23 hv => q v H23 _ hm (fr0.trans (Fr.same s23)) (hB.same s23) ((tBool : Ty K Bool).sub (S := (p_law_told :: [b, c])) (H := H23) sub0 hv))
    subst hc
    have hm := ifp_f hm
    have fr0 := fr0.trans (Fr.same s11)
    have dm := dm.same s11
    have frl := frl.trans (Fr.same s11)
    have h_law_turn := (tInt : Ty K Int).mono (S := (p_law_told :: [b, c])) (Fr.same s11) h_law_turn
    have h_law_row := ((tL (tT2 tRat tRat)) : Ty K (List (Rat × Rat))).mono (S := (p_law_told :: [b, c])) (Fr.same s11) h_law_row
    have h_law_pins := ((tL tInt) : Ty K (List Int)).mono (S := (p_law_told :: [b, c])) (Fr.same s11) h_law_pins
    have h_law_off_by := (tInt : Ty K Int).mono (S := (p_law_told :: [b, c])) (Fr.same s11) h_law_off_by
    have h_law_handed := ((tL2 (tL (tT2 tRat tRat)) (tL tInt)) : Ty K ((List (Rat × Rat)) × (List Int))).mono (S := (p_law_told :: [b, c])) (Fr.same s11) h_law_handed
    have o_law_told := o_law_told.same s11
    have h_law_numbers := ((tL tInt) : Ty K (List Int)).mono (S := (p_law_told :: [b, c])) (Fr.same s11) h_law_numbers
    have hB := hB.same s11
    refine q_next ?_
    obtain ⟨law_back_13, e13, hm⟩ := hm
    refine q_asg (T := [b, c]) dm (ev_new (ev_sortBy (d := dInt) (Nat.le_of_ble_eq_true rfl) lt_I srt_I (ev_new (ev_lc (sr_list (ev_var ts h_law_pins rfl)) (fun v => by rfl) (fun law_at_12 v_law_at H2' H' p' fr' nD' sm' h_law_at => by have h_law_turn := (tInt : Ty K Int).mono (Fr.same sm') ((tInt : Ty K Int).ext (S := (p_law_told :: [b, c])) nD' ((tInt : Ty K Int).mono (Fr.sub ts fr') h_law_turn)); have h_law_row := ((tL (tT2 tRat tRat)) : Ty K (List (Rat × Rat))).mono (Fr.same sm') (((tL (tT2 tRat tRat)) : Ty K (List (Rat × Rat))).ext (S := (p_law_told :: [b, c])) nD' (((tL (tT2 tRat tRat)) : Ty K (List (Rat × Rat))).mono (Fr.sub ts fr') h_law_row)); have h_law_pins := ((tL tInt) : Ty K (List Int)).mono (Fr.same sm') (((tL tInt) : Ty K (List Int)).ext (S := (p_law_told :: [b, c])) nD' (((tL tInt) : Ty K (List Int)).mono (Fr.sub ts fr') h_law_pins)); have h_law_off_by := (tInt : Ty K Int).mono (Fr.same sm') ((tInt : Ty K Int).ext (S := (p_law_told :: [b, c])) nD' ((tInt : Ty K Int).mono (Fr.sub ts fr') h_law_off_by)); have h_law_handed := ((tL2 (tL (tT2 tRat tRat)) (tL tInt)) : Ty K ((List (Rat × Rat)) × (List Int))).mono (Fr.same sm') (((tL2 (tL (tT2 tRat tRat)) (tL tInt)) : Ty K ((List (Rat × Rat)) × (List Int))).ext (S := (p_law_told :: [b, c])) nD' (((tL2 (tL (tT2 tRat tRat)) (tL tInt)) : Ty K ((List (Rat × Rat)) × (List Int))).mono (Fr.sub ts fr') h_law_handed)); have h_law_numbers := ((tL tInt) : Ty K (List Int)).mono (Fr.same sm') (((tL tInt) : Ty K (List Int)).ext (S := (p_law_told :: [b, c])) nD' (((tL tInt) : Ty K (List Int)).mono (Fr.sub ts fr') h_law_numbers)); have ts0' := ts; have ts : Sub [] (p' :: (p_law_told :: [b, c])) := (fun a m => by simp at m);  have o_law_told := ((o_law_told.fr fr' ts0' nt_law_told).ext nD').same sm'; have nt_law_told : p_law_told ∉ [] := (by simp); exact (ev_op (od_sub (K := K)) (ev_op (od_sub (K := K)) (ev_lenL (ev_var ts h_law_row rfl)) (ev_int (K := K))) (ev_var ts h_law_at rfl))))))) e13 (fun v_law_back H13 s13 h_law_back => ?_)
    have fr0 := fr0.trans (Fr.same s13)
    have dm := dm.same s13
    have frl := frl.trans (Fr.same s13)
    have h_law_turn := (tInt : Ty K Int).mono (S := (p_law_told :: [b, c])) (Fr.same s13) h_law_turn
    have h_law_row := ((tL (tT2 tRat tRat)) : Ty K (List (Rat × Rat))).mono (S := (p_law_told :: [b, c])) (Fr.same s13) h_law_row
    have h_law_pins := ((tL tInt) : Ty K (List Int)).mono (S := (p_law_told :: [b, c])) (Fr.same s13) h_law_pins
    have h_law_off_by := (tInt : Ty K Int).mono (S := (p_law_told :: [b, c])) (Fr.same s13) h_law_off_by
    have h_law_handed := ((tL2 (tL (tT2 tRat tRat)) (tL tInt)) : Ty K ((List (Rat × Rat)) × (List Int))).mono (S := (p_law_told :: [b, c])) (Fr.same s13) h_law_handed
    have o_law_told := o_law_told.same s13
    have h_law_numbers := ((tL tInt) : Ty K (List Int)).mono (S := (p_law_told :: [b, c])) (Fr.same s13) h_law_numbers
    have hB := hB.same s13
    have h_law_back : ((tL tInt) : Ty K (List Int)).rp (p_law_told :: [b, c]) H13 v_law_back law_back_13 := h_law_back
    obtain ⟨c14, e14, hm⟩ := hm
    refine q_if (T := [b, c]) dm (by refine eb_shr (S' := [b, c]) (sub_cons (fun a m => m)) ?_; have sbz : Sub [b, c] (p_law_told :: [b, c]) := (sub_cons (fun a m => m)); (have nfz : p_law_told ∉ [b, c] := by first | exact ns_law_told | (have h := ns_law_told; simp only [List.mem_cons, not_or] at h ⊢; grind)); have h_law_told := o_law_told.frz sbz nfz; have h_law_turn := (tInt : Ty K Int).sub sbz h_law_turn; have h_law_row := ((tL (tT2 tRat tRat)) : Ty K (List (Rat × Rat))).sub sbz h_law_row; have h_law_pins := ((tL tInt) : Ty K (List Int)).sub sbz h_law_pins; have h_law_off_by := (tInt : Ty K Int).sub sbz h_law_off_by; have h_law_handed := ((tL2 (tL (tT2 tRat tRat)) (tL tInt)) : Ty K ((List (Rat × Rat)) × (List Int))).sub sbz h_law_handed; have h_law_numbers := ((tL tInt) : Ty K (List Int)).sub sbz h_law_numbers; have h_law_back := ((tL tInt) : Ty K (List Int)).sub sbz h_law_back; (have ts : Sub [b, c] [b, c] := fun a m => by have h1 := ts a m; have h2 : a ≠ p_law_told := (fun e => nt_law_told (e ▸ m)); simp only [List.mem_cons] at h1 ⊢; grind); exact (eb_test (K := K) (ev_op (od_neI (K := K)) (ev_lenL (ev_new (ev_callN (e2_cons (ev_new (ev_revL (ev_var ts h_law_row rfl))) (e2_cons (ev_var ts h_law_off_by rfl) (e2_nil (en_cons (ev_L2Sq (ev_var ts h_law_back rfl)) en_nil))))))) (ev_lenL (ev_var ts h_law_told rfl))))) e14 (fun hc H14 s14 => ?_) (fun hc H14 s14 => ?_)
    · skip
      subst hc
      have hm := ifp_t hm
      have fr0 := fr0.trans (Fr.same s14)
      have dm := dm.same s14
      have frl := frl.trans (Fr.same s14)
      have h_law_turn := (tInt : Ty K Int).mono (S := (p_law_told :: [b, c])) (Fr.same s14) h_law_turn
      have h_law_row := ((tL (tT2 tRat tRat)) : Ty K (List (Rat × Rat))).mono (S := (p_law_told :: [b, c])) (Fr.same s14) h_law_row
      have h_law_pins := ((tL tInt) : Ty K (List Int)).mono (S := (p_law_told :: [b, c])) (Fr.same s14) h_law_pins
      have h_law_off_by := (tInt : Ty K Int).mono (S := (p_law_told :: [b, c])) (Fr.same s14) h_law_off_by
      have h_law_handed := ((tL2 (tL (tT2 tRat tRat)) (tL tInt)) : Ty K ((List (Rat × Rat)) × (List Int))).mono (S := (p_law_told :: [b, c])) (Fr.same s14) h_law_handed
      have o_law_told := o_law_told.same s14
      have h_law_numbers := ((tL tInt) : Ty K (List Int)).mono (S := (p_law_told :: [b, c])) (Fr.same s14) h_law_numbers
      have h_law_back := ((tL tInt) : Ty K (List Int)).mono (S := (p_law_told :: [b, c])) (Fr.same s14) h_law_back
      have hB := hB.same s14
      obtain ⟨z, er, hm⟩ := hm
      have hm := hret1 z hm
      exact q_ret (T := [b, c]) dm (ev_bool (K := K)) er (fun v H24 s24 hv => q v H24 _ hm (fr0.trans (Fr.same s24)) (hB.same s24) ((tBool : Ty K Bool).sub (S := (p_law_told :: [b, c])) (H := H24) sub0 hv))
    subst hc
    have hm := ifp_f hm
    have fr0 := fr0.trans (Fr.same s14)
    have dm := dm.same s14
    have frl := frl.trans (Fr.same s14)
    have h_law_turn := (tInt : Ty K Int).mono (S := (p_law_told :: [b, c])) (Fr.same s14) h_law_turn
    have h_law_row := ((tL (tT2 tRat tRat)) : Ty K (List (Rat × Rat))).mono (S := (p_law_told :: [b, c])) (Fr.same s14) h_law_row
    have h_law_pins := ((tL tInt) : Ty K (List Int)).mono (S := (p_law_told :: [b, c])) (Fr.same s14) h_law_pins
    have h_law_off_by := (tInt : Ty K Int).mono (S := (p_law_told :: [b, c])) (Fr.same s14) h_law_off_by
    have h_law_handed := ((tL2 (tL (tT2 tRat tRat)) (tL tInt)) : Ty K ((List (Rat × Rat)) × (List Int))).mono (S := (p_law_told :: [b, c])) (Fr.same s14) h_law_handed
    have o_law_told := o_law_told.same s14
    have h_law_numbers := ((tL tInt) : Ty K (List Int)).mono (S := (p_law_told :: [b, c])) (Fr.same s14) h_law_numbers
    have h_law_back := ((tL tInt) : Ty K (List Int)).mono (S := (p_law_told :: [b, c])) (Fr.same s14) h_law_back
    have hB := hB.same s14
    refine q_next ?_
    obtain ⟨law_plain_15, e15, hm⟩ := hm
    refine q_asg (T := [b, c]) dm (ev_ix21 (ev_op od_ixL (ev_new (ev_call (ea_cons (ev_var ts h_law_row rfl) (ea_cons (ev_var ts h_law_off_by rfl) (ea_cons (ev_new (ev_lst0 (a := (tInt : Ty K Int)))) ea_nil))))) (ev_int (K := K)))) e15 (fun v_law_plain H15 s15 h_law_plain => ?_)
    have fr0 := fr0.trans (Fr.same s15)
    have dm := dm.same s15
    have frl := frl.trans (Fr.same s15)
    have h_law_turn := (tInt : Ty K Int).mono (S := (p_law_told :: [b, c])) (Fr.same s15) h_law_turn
    have h_law_row := ((tL (tT2 tRat tRat)) : Ty K (List (Rat × Rat))).mono (S := (p_law_told :: [b, c])) (Fr.same s15) h_law_row
    have h_law_pins := ((tL tInt) : Ty K (List Int)).mono (S := (p_law_told :: [b, c])) (Fr.same s15) h_law_pins
    have h_law_off_by := (tInt : Ty K Int).mono (S := (p_law_told :: [b, c])) (Fr.same s15) h_law_off_by
    have h_law_handed := ((tL2 (tL (tT2 tRat tRat)) (tL tInt)) : Ty K ((List (Rat × Rat)) × (List Int))).mono (S := (p_law_told :: [b, c])) (Fr.same s15) h_law_handed
    have o_law_told := o_law_told.same s15
    have h_law_numbers := ((tL tInt) : Ty K (List Int)).mono (S := (p_law_told :: [b, c])) (Fr.same s15) h_law_numbers
    have h_law_back := ((tL tInt) : Ty K (List Int)).mono (S := (p_law_told :: [b, c])) (Fr.same s15) h_law_back
    have hB := hB.same s15
    have h_law_plain : ((tL tInt) : Ty K (List Int)).rp (p_law_told :: [b, c]) H15 v_law_plain law_plain_15 := h_law_plain
    obtain ⟨c16, e16, hm⟩ := hm
    refine q_if (T := [b, c]) dm (eb_or (eb_not (eb_B (K := K) (ev_call (ea_cons (ev_new (ev_callDn (edd_cons (ev_var ts h_law_row rfl) (edd_cons (ev_var ts h_law_off_by rfl) (edd_nil (fun S H => .inr ⟨ev.a_E_kept, [], rfl, .inr ev.q_E_kept, .nil⟩)))))) (ea_cons (ev_var ts h_law_plain rfl) ea_nil))))) (eb_not (eb_B (K := K) (ev_call (ea_cons (ev_new (ev_callN (e2_cons (ev_var ts h_law_row rfl) (e2_cons (ev_var ts h_law_off_by rfl) (e2_nil (en_cons (ev_L2Sq (ev_new (ev_lst0 (a := (tInt : Ty K Int))))) en_nil)))))) (ea_cons (ev_var ts h_law_plain rfl) ea_nil)))))) e16 (fun hc H16 s16 => ?_) (fun hc H16 s16 => ?_)
    · skip
      subst hc
      have hm := ifp_t hm
      have fr0 := fr0.trans (Fr.same s16)
      have dm := dm.same s16
      have frl := frl.trans (Fr.same s16)
      have h_law_turn := (tInt : Ty K Int).mono (S := (p_law_told :: [b, c])) (Fr.same s16) h_law_turn
      have h_law_row := ((tL (tT2 tRat tRat)) : Ty K (List (Rat × Rat))).mono (S := (p_law_told :: [b, c])) (Fr.same s16) h_law_row
      have h_law_pins := ((tL tInt) : Ty K (List Int)).mono (S := (p_law_told :: [b, c])) (Fr.same s16) h_law_pins
      have h_law_off_by := (tInt : Ty K Int).mono (S := (p_law_told :: [b, c])) (Fr.same s16) h_law_off_by
      have h_law_handed := ((tL2 (tL (tT2 tRat tRat)) (tL tInt)) : Ty K ((List (Rat × Rat)) × (List Int))).mono (S := (p_law_told :: [b, c])) (Fr.same s16) h_law_handed
      have o_law_told := o_law_told.same s16
      have h_law_numbers := ((tL tInt) : Ty K (List Int)).mono (S := (p_law_told :: [b, c])) (Fr.same s16) h_law_numbers
      have h_law_back := ((tL tInt) : Ty K (List Int)).mono (S := (p_law_told :: [b, c])) (Fr.same s16) h_law_back
      have h_law_plain := ((tL tInt) : Ty K (List Int)).mono (S := (p_law_told :: [b, c])) (Fr.same s16) h_law_plain
      have hB := hB.same s16
      obtain ⟨z, er, hm⟩ := hm
      have hm := hret1 z hm
      exact q_ret (T := [b, c]) dm (ev_bool (K := K)) er (fun v H25 s25 hv => q v H25 _ hm (fr0.trans (Fr.same s25)) (hB.same s25) ((tBool : Ty K Bool).sub (S := (p_law_told :: [b, c])) (H := H25) sub0 hv))
    subst hc
    have hm := ifp_f hm
    have fr0 := fr0.trans (Fr.same s16)
    have dm := dm.same s16
    have frl := frl.trans (Fr.same s16)
    have h_law_turn := (tInt : Ty K Int).mono (S := (p_law_told :: [b, c])) (Fr.same s16) h_law_turn
    have h_law_row := ((tL (tT2 tRat tRat)) : Ty K (List (Rat × Rat))).mono (S := (p_law_told :: [b, c])) (Fr.same s16) h_law_row
    have h_law_pins := ((tL tInt) : Ty K (List Int)).mono (S := (p_law_told :: [b, c])) (Fr.same s16) h_law_pins
    have h_law_off_by := (tInt : Ty K Int).mono (S := (p_law_told :: [b, c])) (Fr.same s16) h_law_off_by
    have h_law_handed := ((tL2 (tL (tT2 tRat tRat)) (tL tInt)) : Ty K ((List (Rat × Rat)) × (List Int))).mono (S := (p_law_told :: [b, c])) (Fr.same s16) h_law_handed
    have o_law_told := o_law_told.same s16
    have h_law_numbers := ((tL tInt) : Ty K (List Int)).mono (S := (p_law_told :: [b, c])) (Fr.same s16) h_law_numbers
    have h_law_back := ((tL tInt) : Ty K (List Int)).mono (S := (p_law_told :: [b, c])) (Fr.same s16) h_law_back
    have h_law_plain := ((tL tInt) : Ty K (List Int)).mono (S := (p_law_told :: [b, c])) (Fr.same s16) h_law_plain
    have hB := hB.same s16
    refine q_next ?_
    obtain ⟨a17, e17, hm⟩ := hm
    obtain ⟨law_told_18, f17, hm⟩ := hm
    refine q_app (T := [b, c]) dm o_law_told im_law_told nt_law_told ts rfl (ev_int (K := K)) e17 f17 (fun H17 s17 frx17 o_law_told => ?_)
    have fr0 := fr0.mut hB.dom n0_law_told s17
    have frl := frl.mutN nl_law_told s17
    have dm := dm.fx frx17 s17
    have h_law_turn := (tInt : Ty K Int).mono (S := (p_law_told :: [b, c])) frx17 h_law_turn
    have h_law_row := ((tL (tT2 tRat tRat)) : Ty K (List (Rat × Rat))).mono (S := (p_law_told :: [b, c])) frx17 h_law_row
    have h_law_pins := ((tL tInt) : Ty K (List Int)).mono (S := (p_law_told :: [b, c])) frx17 h_law_pins
    have h_law_off_by := (tInt : Ty K Int).mono (S := (p_law_told :: [b, c])) frx17 h_law_off_by
    have h_law_handed := ((tL2 (tL (tT2 tRat tRat)) (tL tInt)) : Ty K ((List (Rat × Rat)) × (List Int))).mono (S := (p_law_told :: [b, c])) frx17 h_law_handed
    have h_law_numbers := ((tL tInt) : Ty K (List Int)).mono (S := (p_law_told :: [b, c])) frx17 h_law_numbers
    have h_law_back := ((tL tInt) : Ty K (List Int)).mono (S := (p_law_told :: [b, c])) frx17 h_law_back
    have h_law_plain := ((tL tInt) : Ty K (List Int)).mono (S := (p_law_told :: [b, c])) frx17 h_law_plain
    have hB := hB.mut s17 nt_law_told
    obtain ⟨c19, e19, hm⟩ := hm
    refine l_if (T := [b, c]) dm (by refine eb_shr (S' := [b, c]) (sub_cons (fun a m => m)) ?_; have sbz : Sub [b, c] (p_law_told :: [b, c]) := (sub_cons (fun a m => m)); (have nfz : p_law_told ∉ [b, c] := by first | exact ns_law_told | (have h := ns_law_told; simp only [List.mem_cons, not_or] at h ⊢; grind)); have h_law_told := o_law_told.frz sbz nfz; have h_law_turn := (tInt : Ty K Int).sub sbz h_law_turn; have h_law_row := ((tL (tT2 tRat tRat)) : Ty K (List (Rat × Rat))).sub sbz h_law_row; have h_law_pins := ((tL tInt) : Ty K (List Int)).sub sbz h_law_pins; have h_law_off_by := (tInt : Ty K Int).sub sbz h_law_off_by; have h_law_handed := ((tL2 (tL (tT2 tRat tRat)) (tL tInt)) : Ty K ((List (Rat × Rat)) × (List Int))).sub sbz h_law_handed; have h_law_numbers := ((tL tInt) : Ty K (List Int)).sub sbz h_law_numbers; have h_law_back := ((tL tInt) : Ty K (List Int)).sub sbz h_law_back; have h_law_plain := ((tL tInt) : Ty K (List Int)).sub sbz h_law_plain; (have ts : Sub [b, c] [b, c] := fun a m => by have h1 := ts a m; have h2 : a ≠ p_law_told := (fun e => nt_law_told (e ▸ m)); simp only [List.mem_cons] at h1 ⊢; grind); exact (eb_test (K := K) (ev_op (od_notB (K := K)) (ev_callN (e2_cons (ev_var ts h_law_row rfl) (e2_cons (ev_var ts h_law_off_by rfl) (e2_cons (ev_new (ev_slL (ev_var ts h_law_told rfl) eo_none (eo_some (ev_neg (ev_int (K := K)))))) (e2_cons (ev_var ts h_law_numbers rfl) (e2_nil (en_cons (ev_L2Sq (ev_var ts h_law_pins rfl)) en_nil))))))) (ev_bool (K := K))))) e19 (fun hc H19 s19 => ?_) (fun hc H19 s19 => ?_)
    · skip
      subst hc
      have hm := ifp_t hm
      have fr0 := fr0.trans (Fr.same s19)
      have dm := dm.same s19
      have frl := frl.trans (Fr.same s19)
      have h_law_turn := (tInt : Ty K Int).mono (S := (p_law_told :: [b, c])) (Fr.same s19) h_law_turn
      have h_law_row := ((tL (tT2 tRat tRat)) : Ty K (List (Rat × Rat))).mono (S := (p_law_told :: [b, c])) (Fr.same s19) h_law_row
      have h_law_pins := ((tL tInt) : Ty K (List Int)).mono (S := (p_law_told :: [b, c])) (Fr.same s19) h_law_pins
      have h_law_off_by := (tInt : Ty K Int).mono (S := (p_law_told :: [b, c])) (Fr.same s19) h_law_off_by
      have h_law_handed := ((tL2 (tL (tT2 tRat tRat)) (tL tInt)) : Ty K ((List (Rat × Rat)) × (List Int))).mono (S := (p_law_told :: [b, c])) (Fr.same s19) h_law_handed
      have o_law_told := o_law_told.same s19
      have h_law_numbers := ((tL tInt) : Ty K (List Int)).mono (S := (p_law_told :: [b, c])) (Fr.same s19) h_law_numbers
      have h_law_back := ((tL tInt) : Ty K (List Int)).mono (S := (p_law_told :: [b, c])) (Fr.same s19) h_law_back
      have h_law_plain := ((tL tInt) : Ty K (List Int)).mono (S := (p_law_told :: [b, c])) (Fr.same s19) h_law_plain
      have hB := hB.same s19
      obtain ⟨z, er, hm⟩ := hm
      have hm := hret1 z hm
      exact q_ret (T := [b, c]) dm (ev_bool (K := K)) er (fun v H26 s26 hv => q v H26 _ hm (fr0.trans (Fr.same s26)) (hB.same s26) ((tBool : Ty K Bool).sub (S := (p_law_told :: [b, c])) (H := H26) sub0 hv))
    subst hc
    have hm := ifp_f hm
    have fr0 := fr0.trans (Fr.same s19)
    have dm := dm.same s19
    have frl := frl.trans (Fr.same s19)
    have h_law_turn := (tInt : Ty K Int).mono (S := (p_law_told :: [b, c])) (Fr.same s19) h_law_turn
    have h_law_row := ((tL (tT2 tRat tRat)) : Ty K (List (Rat × Rat))).mono (S := (p_law_told :: [b, c])) (Fr.same s19) h_law_row
    have h_law_pins := ((tL tInt) : Ty K (List Int)).mono (S := (p_law_told :: [b, c])) (Fr.same s19) h_law_pins
    have h_law_off_by := (tInt : Ty K Int).mono (S := (p_law_told :: [b, c])) (Fr.same s19) h_law_off_by
    have h_law_handed := ((tL2 (tL (tT2 tRat tRat)) (tL tInt)) : Ty K ((List (Rat × Rat)) × (List Int))).mono (S := (p_law_told :: [b, c])) (Fr.same s19) h_law_handed
    have o_law_told := o_law_told.same s19
    have h_law_numbers := ((tL tInt) : Ty K (List Int)).mono (S := (p_law_told :: [b, c])) (Fr.same s19) h_law_numbers
    have h_law_back := ((tL tInt) : Ty K (List Int)).mono (S := (p_law_told :: [b, c])) (Fr.same s19) h_law_back
    have h_law_plain := ((tL tInt) : Ty K (List Int)).mono (S := (p_law_told :: [b, c])) (Fr.same s19) h_law_plain
    have hB := hB.same s19
    refine l_next ?_
    have sbl : Sub [b, c] (p_law_told :: [b, c]) := sub_cons (fun a m => m)
    have dm := dm.sub sbl
    exact ⟨_, hm, frl, ⟨_, _, _, _, _, _, _, _, _, _, rfl, fr0, dm, hB⟩⟩
  obtain ⟨f_2, f_3, f_4, f_5, f_6, f_7, f_8, f_9, f_10, f_11, rfl, fr0, dm, hB⟩ := hI
  obtain ⟨z, er, hm⟩ := hm
  exact q_ret (T := [b, c]) dm (ev_bool (K := K)) er (fun v H27 s27 hv => q v H27 _ hm (fr0.trans (Fr.same s27)) (hB.same s27) ((tBool : Ty K Bool).sub (S := [b, c]) (H := H27) sub0 hv))
end
end G

namespace G
open PySem L2 M
structure Put (K : PySem.W.Frag) (name : String) (st : Stmt) (f : Addr) : Prop where
  a : PySem.W.nsIn K mainGlobals (Str.ofString name) = some (some (.ref f))
  l : ∃ (oc : Value) (od : Option Addr) (kV dc pm : Value) (an : Option Addr) (cd ct : Value) (sl : Array (Option Value)), K.lookup f = some ⟨oc, od, .func (PySem.W.fnOf (Str.ofString name) (Str.ofString name) (defArgs st) (defBody st) (defScope st) .none kV dc pm an cd ct), sl⟩ ∧ PySem.W.codeIn K cd (Str.ofString name) = true
  k : PySem.W.keepIn K (.ref f) = true
theorem put_mk {K : PySem.W.Frag} {name : String} {st : Stmt} {f : Addr} {oc : Value} {od : Option Addr} {kV dc pm : Value} {an : Option Addr} {cd ct : Value} {sl : Array (Option Value)} (a : PySem.W.nsIn K mainGlobals (Str.ofString name) = some (some (.ref f)))
    (l : K.lookup f = some ⟨oc, od, .func (PySem.W.fnOf (Str.ofString name) (Str.ofString name) (defArgs st) (defBody st) (defScope st) .none kV dc pm an cd ct), sl⟩) (c : PySem.W.codeIn K cd (Str.ofString name) = true) (k : PySem.W.keepIn K (.ref f) = true) : Put K name st f :=
  ⟨a, ⟨oc, od, kV, dc, pm, an, cd, ct, sl, l, c⟩, k⟩
structure PutM (K : PySem.W.Frag) (C : Addr) (name qual : String) (st : Stmt) (f : Addr) : Prop where
  me : Meth K C (Str.ofString name) f
  l : ∃ (oc : Value) (od : Option Addr) (kV dc pm : Value) (an : Option Addr) (cd ct : Value) (sl : Array (Option Value)), K.lookup f = some ⟨oc, od, .func (PySem.W.fnOf (Str.ofString name) (Str.ofString qual) (defArgs st) (defBody st) (defScope st) .none kV dc pm an cd ct), sl⟩ ∧ PySem.W.codeIn K cd (Str.ofString qual) = true
theorem putM_mk {K : PySem.W.Frag} {C : Addr} {name qual : String} {st : Stmt} {f : Addr} {oc : Value} {od : Option Addr} {kV dc pm : Value} {an : Option Addr} {cd ct : Value} {sl : Array (Option Value)} (a : PySem.W.findIn K (.ref C) (Str.ofString name) = some (some (.ref f))) (i : PySem.W.isFn K (.ref f) = true)
    (l : K.lookup f = some ⟨oc, od, .func (PySem.W.fnOf (Str.ofString name) (Str.ofString qual) (defArgs st) (defBody st) (defScope st) .none kV dc pm an cd ct), sl⟩) (c : PySem.W.codeIn K cd (Str.ofString qual) = true) (k : PySem.W.keepIn K (.ref f) = true) : PutM K C name qual st f :=
  ⟨⟨a, i, k⟩, ⟨oc, od, kV, dc, pm, an, cd, ct, sl, l, c⟩⟩
theorem all_mk {l : PySem.W.OpenLaw} {w : World} {K : PySem.W.Frag} {h : Heap} {mg : Str → Option Value} {fa f_greatest_common f_ratio f_plus f_minus f_times f_divided f_order f_size f_lesser f_greater f_longer_way f_slope_of f_aside f_may_pass f_ends_from f_ends_of f_counts_of f_leads_through f_falls f_law_open f_law_pull f_law_any f_law_like f_law_low f_law_add f_law_sub f_law_mul f_law_less f_law_abs f_law_passes f_law_free f_law_fewest f_law_spots f_law_held f_law_lists f_law C_NoRatio a_NOUGHT f_pieces_left a_E_pieces_left f_kept a_E_kept f_kept_holds a_E_kept_holds : Addr}  {t00 t01 : Tok} {ddNOUGHT : Option Addr} {nNOUGHT : Nat} {slNOUGHT : Array (Option Value)} {oc_pieces_left : Value} {od_pieces_left : Option Addr} {D_pieces_left : Addr} {dc_pieces_left pm_pieces_left : Value} {an_pieces_left : Option Addr} {cd_pieces_left ct_pieces_left : Value} {sl_pieces_left : Array (Option Value)} {ddE_pieces_left : Option Addr} {nE_pieces_left : Nat} {slE_pieces_left : Array (Option Value)} {oc_kept : Value} {od_kept : Option Addr} {D_kept : Addr} {dc_kept pm_kept : Value} {an_kept : Option Addr} {cd_kept ct_kept : Value} {sl_kept : Array (Option Value)} {ddE_kept : Option Addr} {nE_kept : Nat} {slE_kept : Array (Option Value)} {oc_kept_holds : Value} {od_kept_holds : Option Addr} {D_kept_holds : Addr} {dc_kept_holds pm_kept_holds : Value} {an_kept_holds : Option Addr} {cd_kept_holds ct_kept_holds : Value} {sl_kept_holds : Array (Option Value)} {ddE_kept_holds : Option Addr} {nE_kept_holds : Nat} {slE_kept_holds : Array (Option Value)} (X : K.In h) (G : h.Ns mainGlobals mg) (hfa : mg "law" = some (.ref fa))
    (p_greatest_common : Put K "greatest_common" s_greatest_common f_greatest_common)
    (p_ratio : Put K "ratio" s_ratio f_ratio)
    (p_plus : Put K "plus" s_plus f_plus)
    (p_minus : Put K "minus" s_minus f_minus)
    (p_times : Put K "times" s_times f_times)
    (p_divided : Put K "divided" s_divided f_divided)
    (p_order : Put K "order" s_order f_order)
    (p_size : Put K "size" s_size f_size)
    (p_lesser : Put K "lesser" s_lesser f_lesser)
    (p_greater : Put K "greater" s_greater f_greater)
    (p_longer_way : Put K "longer_way" s_longer_way f_longer_way)
    (p_slope_of : Put K "slope_of" s_slope_of f_slope_of)
    (p_aside : Put K "aside" s_aside f_aside)
    (p_may_pass : Put K "may_pass" s_may_pass f_may_pass)
    (p_ends_from : Put K "ends_from" s_ends_from f_ends_from)
    (p_ends_of : Put K "ends_of" s_ends_of f_ends_of)
    (p_counts_of : Put K "counts_of" s_counts_of f_counts_of)
    (p_leads_through : Put K "leads_through" s_leads_through f_leads_through)
    (p_falls : Put K "falls" s_falls f_falls)
    (p_law_open : Put K "_law_open" s_law_open f_law_open)
    (p_law_pull : Put K "_law_pull" s_law_pull f_law_pull)
    (p_law_any : Put K "_law_any" s_law_any f_law_any)
    (p_law_like : Put K "_law_like" s_law_like f_law_like)
    (p_law_low : Put K "_law_low" s_law_low f_law_low)
    (p_law_add : Put K "_law_add" s_law_add f_law_add)
    (p_law_sub : Put K "_law_sub" s_law_sub f_law_sub)
    (p_law_mul : Put K "_law_mul" s_law_mul f_law_mul)
    (p_law_less : Put K "_law_less" s_law_less f_law_less)
    (p_law_abs : Put K "_law_abs" s_law_abs f_law_abs)
    (p_law_passes : Put K "_law_passes" s_law_passes f_law_passes)
    (p_law_free : Put K "_law_free" s_law_free f_law_free)
    (p_law_fewest : Put K "_law_fewest" s_law_fewest f_law_fewest)
    (p_law_spots : Put K "_law_spots" s_law_spots f_law_spots)
    (p_law_held : Put K "_law_held" s_law_held f_law_held)
    (p_law_lists : Put K "_law_lists" s_law_lists f_law_lists)
    (p_law : Put K "law" s_law f_law)
    (aC : PySem.W.nsIn K mainGlobals "NoRatio" = some (some (.ref C_NoRatio)))
    (x : PySem.W.excIn K C_NoRatio [.type "ZeroDivisionError", .type "ArithmeticError", .type "Exception", .type "BaseException", .type "object"] "ZeroDivisionError.__new__" = true)
    (k : PySem.W.keepIn K (.ref C_NoRatio) = true)
    (b : PySem.W.subIn K (.ref C_NoRatio) (.type "BaseException") = some true)
    (t : PySem.W.typeIn K (.ref C_NoRatio) = some (.type "type"))
    (e4 : PySem.W.hasDictIn K C_NoRatio = true)
    (sc : PySem.W.subIn K (.ref C_NoRatio) (.ref C_NoRatio) = some true)
    (cNOUGHT : PySem.W.nsIn K mainGlobals "NOUGHT" = some (some (.ref a_NOUGHT)))
    (lNOUGHT : K.lookup a_NOUGHT = some ⟨.type "tuple", ddNOUGHT, .seq #[.int 0 t00, .int 1 t01] nNOUGHT, slNOUGHT⟩)
    (pa_pieces_left : PySem.W.nsIn K mainGlobals "pieces_left" = some (some (.ref f_pieces_left)))
    (pl_pieces_left : K.lookup f_pieces_left = some ⟨oc_pieces_left, od_pieces_left, .func (PySem.W.fnOf (Str.ofString "pieces_left") (Str.ofString "pieces_left") (defArgs s_pieces_left) (defBody s_pieces_left) (defScope s_pieces_left) .none (.ref D_pieces_left) dc_pieces_left pm_pieces_left an_pieces_left cd_pieces_left ct_pieces_left), sl_pieces_left⟩)
    (pc_pieces_left : PySem.W.codeIn K cd_pieces_left (Str.ofString "pieces_left") = true)
    (pk_pieces_left : PySem.W.keepIn K (.ref f_pieces_left) = true)
    (ph_pieces_left : PySem.W.nsIn K D_pieces_left "held" = some (some (.ref a_E_pieces_left)))
    (pe_pieces_left : K.lookup a_E_pieces_left = some ⟨.type "tuple", ddE_pieces_left, .seq #[] nE_pieces_left, slE_pieces_left⟩)
    (pa_kept : PySem.W.nsIn K mainGlobals "kept" = some (some (.ref f_kept)))
    (pl_kept : K.lookup f_kept = some ⟨oc_kept, od_kept, .func (PySem.W.fnOf (Str.ofString "kept") (Str.ofString "kept") (defArgs s_kept) (defBody s_kept) (defScope s_kept) .none (.ref D_kept) dc_kept pm_kept an_kept cd_kept ct_kept), sl_kept⟩)
    (pc_kept : PySem.W.codeIn K cd_kept (Str.ofString "kept") = true)
    (pk_kept : PySem.W.keepIn K (.ref f_kept) = true)
    (ph_kept : PySem.W.nsIn K D_kept "held" = some (some (.ref a_E_kept)))
    (pe_kept : K.lookup a_E_kept = some ⟨.type "tuple", ddE_kept, .seq #[] nE_kept, slE_kept⟩)
    (pa_kept_holds : PySem.W.nsIn K mainGlobals "kept_holds" = some (some (.ref f_kept_holds)))
    (pl_kept_holds : K.lookup f_kept_holds = some ⟨oc_kept_holds, od_kept_holds, .func (PySem.W.fnOf (Str.ofString "kept_holds") (Str.ofString "kept_holds") (defArgs s_kept_holds) (defBody s_kept_holds) (defScope s_kept_holds) .none (.ref D_kept_holds) dc_kept_holds pm_kept_holds an_kept_holds cd_kept_holds ct_kept_holds), sl_kept_holds⟩)
    (pc_kept_holds : PySem.W.codeIn K cd_kept_holds (Str.ofString "kept_holds") = true)
    (pk_kept_holds : PySem.W.keepIn K (.ref f_kept_holds) = true)
    (ph_kept_holds : PySem.W.nsIn K D_kept_holds "held" = some (some (.ref a_E_kept_holds)))
    (pe_kept_holds : K.lookup a_E_kept_holds = some ⟨.type "tuple", ddE_kept_holds, .seq #[] nE_kept_holds, slE_kept_holds⟩)
    (z_len : PySem.W.nsIn K mainGlobals "len" = some none)
    (z_list : PySem.W.nsIn K mainGlobals "list" = some none)
    (z_abs : PySem.W.nsIn K mainGlobals "abs" = some none)
    (z_isinstance : PySem.W.nsIn K mainGlobals "isinstance" = some none)
    (z_int : PySem.W.nsIn K mainGlobals "int" = some none)
    (z_bool : PySem.W.nsIn K mainGlobals "bool" = some none)
    (z_str : PySem.W.nsIn K mainGlobals "str" = some none)
    (z_dict : PySem.W.nsIn K mainGlobals "dict" = some none)
    (z_tuple : PySem.W.nsIn K mainGlobals "tuple" = some none)
    (z_all : PySem.W.nsIn K mainGlobals "all" = some none)
    (z_range : PySem.W.nsIn K mainGlobals "range" = some none)
    (z_sorted : PySem.W.nsIn K mainGlobals "sorted" = some none)
    (z_min : PySem.W.nsIn K mainGlobals "min" = some none)
    (z_any : PySem.W.nsIn K mainGlobals "any" = some none)
    (z_max : PySem.W.nsIn K mainGlobals "max" = some none)
    (z_zip : PySem.W.nsIn K mainGlobals "zip" = some none) :
    ∃ fd : FuncData, (∀ (s : Shared) (v : Value), BindsTo s fd ⟨[v], []⟩ [("_law_script", v)]) ∧ ∀ base : Heap, K.In base → base.Ns mainGlobals mg → FnOk l.prog w K mg base CX0 10 fa fd ["_law_script"] (spLaw K) := by
  have e := hfa.symm.trans (PySem.W.mg_of X G p_law.a)
  cases e
  obtain ⟨a_greatest_common, ⟨oc_greatest_common, od_greatest_common, kV_greatest_common, dc_greatest_common, pm_greatest_common, an_greatest_common, cd_greatest_common, ct_greatest_common, sl_greatest_common, l_greatest_common, c_greatest_common⟩, k_greatest_common⟩ := p_greatest_common
  have F_greatest_common := fun_mk (st := s_greatest_common) l_greatest_common c_greatest_common k_greatest_common
  have b_greatest_common := F_greatest_common.binds (ps := p_greatest_common) fun _ _ _ _ _ _ us hl => match us, hl with | [_, _], _ => rfl
  obtain ⟨a_ratio, ⟨oc_ratio, od_ratio, kV_ratio, dc_ratio, pm_ratio, an_ratio, cd_ratio, ct_ratio, sl_ratio, l_ratio, c_ratio⟩, k_ratio⟩ := p_ratio
  have F_ratio := fun_mk (st := s_ratio) l_ratio c_ratio k_ratio
  have b_ratio := F_ratio.binds (ps := p_ratio) fun _ _ _ _ _ _ us hl => match us, hl with | [_, _], _ => rfl
  obtain ⟨a_plus, ⟨oc_plus, od_plus, kV_plus, dc_plus, pm_plus, an_plus, cd_plus, ct_plus, sl_plus, l_plus, c_plus⟩, k_plus⟩ := p_plus
  have F_plus := fun_mk (st := s_plus) l_plus c_plus k_plus
  have b_plus := F_plus.binds (ps := p_plus) fun _ _ _ _ _ _ us hl => match us, hl with | [_, _], _ => rfl
  obtain ⟨a_minus, ⟨oc_minus, od_minus, kV_minus, dc_minus, pm_minus, an_minus, cd_minus, ct_minus, sl_minus, l_minus, c_minus⟩, k_minus⟩ := p_minus
  have F_minus := fun_mk (st := s_minus) l_minus c_minus k_minus
  have b_minus := F_minus.binds (ps := p_minus) fun _ _ _ _ _ _ us hl => match us, hl with | [_, _], _ => rfl
  obtain ⟨a_times, ⟨oc_times, od_times, kV_times, dc_times, pm_times, an_times, cd_times, ct_times, sl_times, l_times, c_times⟩, k_times⟩ := p_times
  have F_times := fun_mk (st := s_times) l_times c_times k_times
  have b_times := F_times.binds (ps := p_times) fun _ _ _ _ _ _ us hl => match us, hl with | [_, _], _ => rfl
  obtain ⟨a_divided, ⟨oc_divided, od_divided, kV_divided, dc_divided, pm_divided, an_divided, cd_divided, ct_divided, sl_divided, l_divided, c_divided⟩, k_divided⟩ := p_divided
  have F_divided := fun_mk (st := s_divided) l_divided c_divided k_divided
  have b_divided := F_divided.binds (ps := p_divided) fun _ _ _ _ _ _ us hl => match us, hl with | [_, _], _ => rfl
  obtain ⟨a_order, ⟨oc_order, od_order, kV_order, dc_order, pm_order, an_order, cd_order, ct_order, sl_order, l_order, c_order⟩, k_order⟩ := p_order
  have F_order := fun_mk (st := s_order) l_order c_order k_order
  have b_order := F_order.binds (ps := p_order) fun _ _ _ _ _ _ us hl => match us, hl with | [_, _], _ => rfl
  obtain ⟨a_size, ⟨oc_size, od_size, kV_size, dc_size, pm_size, an_size, cd_size, ct_size, sl_size, l_size, c_size⟩, k_size⟩ := p_size
  have F_size := fun_mk (st := s_size) l_size c_size k_size
  have b_size := F_size.binds (ps := p_size) fun _ _ _ _ _ _ us hl => match us, hl with | [_], _ => rfl
  obtain ⟨a_lesser, ⟨oc_lesser, od_lesser, kV_lesser, dc_lesser, pm_lesser, an_lesser, cd_lesser, ct_lesser, sl_lesser, l_lesser, c_lesser⟩, k_lesser⟩ := p_lesser
  have F_lesser := fun_mk (st := s_lesser) l_lesser c_lesser k_lesser
  have b_lesser := F_lesser.binds (ps := p_lesser) fun _ _ _ _ _ _ us hl => match us, hl with | [_, _], _ => rfl
  obtain ⟨a_greater, ⟨oc_greater, od_greater, kV_greater, dc_greater, pm_greater, an_greater, cd_greater, ct_greater, sl_greater, l_greater, c_greater⟩, k_greater⟩ := p_greater
  have F_greater := fun_mk (st := s_greater) l_greater c_greater k_greater
  have b_greater := F_greater.binds (ps := p_greater) fun _ _ _ _ _ _ us hl => match us, hl with | [_, _], _ => rfl
  obtain ⟨a_longer_way, ⟨oc_longer_way, od_longer_way, kV_longer_way, dc_longer_way, pm_longer_way, an_longer_way, cd_longer_way, ct_longer_way, sl_longer_way, l_longer_way, c_longer_way⟩, k_longer_way⟩ := p_longer_way
  have F_longer_way := fun_mk (st := s_longer_way) l_longer_way c_longer_way k_longer_way
  have b_longer_way := F_longer_way.binds (ps := p_longer_way) fun _ _ _ _ _ _ us hl => match us, hl with | [_, _], _ => rfl
  obtain ⟨a_slope_of, ⟨oc_slope_of, od_slope_of, kV_slope_of, dc_slope_of, pm_slope_of, an_slope_of, cd_slope_of, ct_slope_of, sl_slope_of, l_slope_of, c_slope_of⟩, k_slope_of⟩ := p_slope_of
  have F_slope_of := fun_mk (st := s_slope_of) l_slope_of c_slope_of k_slope_of
  have b_slope_of := F_slope_of.binds (ps := p_slope_of) fun _ _ _ _ _ _ us hl => match us, hl with | [_, _, _], _ => rfl
  obtain ⟨a_aside, ⟨oc_aside, od_aside, kV_aside, dc_aside, pm_aside, an_aside, cd_aside, ct_aside, sl_aside, l_aside, c_aside⟩, k_aside⟩ := p_aside
  have F_aside := fun_mk (st := s_aside) l_aside c_aside k_aside
  have b_aside := F_aside.binds (ps := p_aside) fun _ _ _ _ _ _ us hl => match us, hl with | [_, _, _, _], _ => rfl
  obtain ⟨a_may_pass, ⟨oc_may_pass, od_may_pass, kV_may_pass, dc_may_pass, pm_may_pass, an_may_pass, cd_may_pass, ct_may_pass, sl_may_pass, l_may_pass, c_may_pass⟩, k_may_pass⟩ := p_may_pass
  have F_may_pass := fun_mk (st := s_may_pass) l_may_pass c_may_pass k_may_pass
  have b_may_pass := F_may_pass.binds (ps := p_may_pass) fun _ _ _ _ _ _ us hl => match us, hl with | [_, _, _, _], _ => rfl
  obtain ⟨a_ends_from, ⟨oc_ends_from, od_ends_from, kV_ends_from, dc_ends_from, pm_ends_from, an_ends_from, cd_ends_from, ct_ends_from, sl_ends_from, l_ends_from, c_ends_from⟩, k_ends_from⟩ := p_ends_from
  have F_ends_from := fun_mk (st := s_ends_from) l_ends_from c_ends_from k_ends_from
  have b_ends_from := F_ends_from.binds (ps := p_ends_from) fun _ _ _ _ _ _ us hl => match us, hl with | [_, _, _, _], _ => rfl
  obtain ⟨a_ends_of, ⟨oc_ends_of, od_ends_of, kV_ends_of, dc_ends_of, pm_ends_of, an_ends_of, cd_ends_of, ct_ends_of, sl_ends_of, l_ends_of, c_ends_of⟩, k_ends_of⟩ := p_ends_of
  have F_ends_of := fun_mk (st := s_ends_of) l_ends_of c_ends_of k_ends_of
  have b_ends_of := F_ends_of.binds (ps := p_ends_of) fun _ _ _ _ _ _ us hl => match us, hl with | [_, _, _], _ => rfl
  obtain ⟨a_counts_of, ⟨oc_counts_of, od_counts_of, kV_counts_of, dc_counts_of, pm_counts_of, an_counts_of, cd_counts_of, ct_counts_of, sl_counts_of, l_counts_of, c_counts_of⟩, k_counts_of⟩ := p_counts_of
  have F_counts_of := fun_mk (st := s_counts_of) l_counts_of c_counts_of k_counts_of
  have b_counts_of := F_counts_of.binds (ps := p_counts_of) fun _ _ _ _ _ _ us hl => match us, hl with | [_], _ => rfl
  obtain ⟨a_leads_through, ⟨oc_leads_through, od_leads_through, kV_leads_through, dc_leads_through, pm_leads_through, an_leads_through, cd_leads_through, ct_leads_through, sl_leads_through, l_leads_through, c_leads_through⟩, k_leads_through⟩ := p_leads_through
  have F_leads_through := fun_mk (st := s_leads_through) l_leads_through c_leads_through k_leads_through
  have b_leads_through := F_leads_through.binds (ps := p_leads_through) fun _ _ _ _ _ _ us hl => match us, hl with | [_, _], _ => rfl
  obtain ⟨a_falls, ⟨oc_falls, od_falls, kV_falls, dc_falls, pm_falls, an_falls, cd_falls, ct_falls, sl_falls, l_falls, c_falls⟩, k_falls⟩ := p_falls
  have F_falls := fun_mk (st := s_falls) l_falls c_falls k_falls
  have b_falls := F_falls.binds (ps := p_falls) fun _ _ _ _ _ _ us hl => match us, hl with | [_, _, _, _], _ => rfl
  obtain ⟨a_law_open, ⟨oc_law_open, od_law_open, kV_law_open, dc_law_open, pm_law_open, an_law_open, cd_law_open, ct_law_open, sl_law_open, l_law_open, c_law_open⟩, k_law_open⟩ := p_law_open
  have F_law_open := fun_mk (st := s_law_open) l_law_open c_law_open k_law_open
  have b_law_open := F_law_open.binds (ps := p_law_open) fun _ _ _ _ _ _ us hl => match us, hl with | [_], _ => rfl
  obtain ⟨a_law_pull, ⟨oc_law_pull, od_law_pull, kV_law_pull, dc_law_pull, pm_law_pull, an_law_pull, cd_law_pull, ct_law_pull, sl_law_pull, l_law_pull, c_law_pull⟩, k_law_pull⟩ := p_law_pull
  have F_law_pull := fun_mk (st := s_law_pull) l_law_pull c_law_pull k_law_pull
  have b_law_pull := F_law_pull.binds (ps := p_law_pull) fun _ _ _ _ _ _ us hl => match us, hl with | [_, _], _ => rfl
  obtain ⟨a_law_any, ⟨oc_law_any, od_law_any, kV_law_any, dc_law_any, pm_law_any, an_law_any, cd_law_any, ct_law_any, sl_law_any, l_law_any, c_law_any⟩, k_law_any⟩ := p_law_any
  have F_law_any := fun_mk (st := s_law_any) l_law_any c_law_any k_law_any
  have b_law_any := F_law_any.binds (ps := p_law_any) fun _ _ _ _ _ _ us hl => match us, hl with | [_, _], _ => rfl
  obtain ⟨a_law_like, ⟨oc_law_like, od_law_like, kV_law_like, dc_law_like, pm_law_like, an_law_like, cd_law_like, ct_law_like, sl_law_like, l_law_like, c_law_like⟩, k_law_like⟩ := p_law_like
  have F_law_like := fun_mk (st := s_law_like) l_law_like c_law_like k_law_like
  have b_law_like := F_law_like.binds (ps := p_law_like) fun _ _ _ _ _ _ us hl => match us, hl with | [_, _], _ => rfl
  obtain ⟨a_law_low, ⟨oc_law_low, od_law_low, kV_law_low, dc_law_low, pm_law_low, an_law_low, cd_law_low, ct_law_low, sl_law_low, l_law_low, c_law_low⟩, k_law_low⟩ := p_law_low
  have F_law_low := fun_mk (st := s_law_low) l_law_low c_law_low k_law_low
  have b_law_low := F_law_low.binds (ps := p_law_low) fun _ _ _ _ _ _ us hl => match us, hl with | [_, _], _ => rfl
  obtain ⟨a_law_add, ⟨oc_law_add, od_law_add, kV_law_add, dc_law_add, pm_law_add, an_law_add, cd_law_add, ct_law_add, sl_law_add, l_law_add, c_law_add⟩, k_law_add⟩ := p_law_add
  have F_law_add := fun_mk (st := s_law_add) l_law_add c_law_add k_law_add
  have b_law_add := F_law_add.binds (ps := p_law_add) fun _ _ _ _ _ _ us hl => match us, hl with | [_, _], _ => rfl
  obtain ⟨a_law_sub, ⟨oc_law_sub, od_law_sub, kV_law_sub, dc_law_sub, pm_law_sub, an_law_sub, cd_law_sub, ct_law_sub, sl_law_sub, l_law_sub, c_law_sub⟩, k_law_sub⟩ := p_law_sub
  have F_law_sub := fun_mk (st := s_law_sub) l_law_sub c_law_sub k_law_sub
  have b_law_sub := F_law_sub.binds (ps := p_law_sub) fun _ _ _ _ _ _ us hl => match us, hl with | [_, _], _ => rfl
  obtain ⟨a_law_mul, ⟨oc_law_mul, od_law_mul, kV_law_mul, dc_law_mul, pm_law_mul, an_law_mul, cd_law_mul, ct_law_mul, sl_law_mul, l_law_mul, c_law_mul⟩, k_law_mul⟩ := p_law_mul
  have F_law_mul := fun_mk (st := s_law_mul) l_law_mul c_law_mul k_law_mul
  have b_law_mul := F_law_mul.binds (ps := p_law_mul) fun _ _ _ _ _ _ us hl => match us, hl with | [_, _], _ => rfl
  obtain ⟨a_law_less, ⟨oc_law_less, od_law_less, kV_law_less, dc_law_less, pm_law_less, an_law_less, cd_law_less, ct_law_less, sl_law_less, l_law_less, c_law_less⟩, k_law_less⟩ := p_law_less
  have F_law_less := fun_mk (st := s_law_less) l_law_less c_law_less k_law_less
  have b_law_less := F_law_less.binds (ps := p_law_less) fun _ _ _ _ _ _ us hl => match us, hl with | [_, _], _ => rfl
  obtain ⟨a_law_abs, ⟨oc_law_abs, od_law_abs, kV_law_abs, dc_law_abs, pm_law_abs, an_law_abs, cd_law_abs, ct_law_abs, sl_law_abs, l_law_abs, c_law_abs⟩, k_law_abs⟩ := p_law_abs
  have F_law_abs := fun_mk (st := s_law_abs) l_law_abs c_law_abs k_law_abs
  have b_law_abs := F_law_abs.binds (ps := p_law_abs) fun _ _ _ _ _ _ us hl => match us, hl with | [_], _ => rfl
  obtain ⟨a_law_passes, ⟨oc_law_passes, od_law_passes, kV_law_passes, dc_law_passes, pm_law_passes, an_law_passes, cd_law_passes, ct_law_passes, sl_law_passes, l_law_passes, c_law_passes⟩, k_law_passes⟩ := p_law_passes
  have F_law_passes := fun_mk (st := s_law_passes) l_law_passes c_law_passes k_law_passes
  have b_law_passes := F_law_passes.binds (ps := p_law_passes) fun _ _ _ _ _ _ us hl => match us, hl with | [_, _, _, _], _ => rfl
  obtain ⟨a_law_free, ⟨oc_law_free, od_law_free, kV_law_free, dc_law_free, pm_law_free, an_law_free, cd_law_free, ct_law_free, sl_law_free, l_law_free, c_law_free⟩, k_law_free⟩ := p_law_free
  have F_law_free := fun_mk (st := s_law_free) l_law_free c_law_free k_law_free
  have b_law_free := F_law_free.binds (ps := p_law_free) fun _ _ _ _ _ _ us hl => match us, hl with | [_, _, _, _, _], _ => rfl
  obtain ⟨a_law_fewest, ⟨oc_law_fewest, od_law_fewest, kV_law_fewest, dc_law_fewest, pm_law_fewest, an_law_fewest, cd_law_fewest, ct_law_fewest, sl_law_fewest, l_law_fewest, c_law_fewest⟩, k_law_fewest⟩ := p_law_fewest
  have F_law_fewest := fun_mk (st := s_law_fewest) l_law_fewest c_law_fewest k_law_fewest
  have b_law_fewest := F_law_fewest.binds (ps := p_law_fewest) fun _ _ _ _ _ _ us hl => match us, hl with | [_, _, _], _ => rfl
  obtain ⟨a_law_spots, ⟨oc_law_spots, od_law_spots, kV_law_spots, dc_law_spots, pm_law_spots, an_law_spots, cd_law_spots, ct_law_spots, sl_law_spots, l_law_spots, c_law_spots⟩, k_law_spots⟩ := p_law_spots
  have F_law_spots := fun_mk (st := s_law_spots) l_law_spots c_law_spots k_law_spots
  have b_law_spots := F_law_spots.binds (ps := p_law_spots) fun _ _ _ _ _ _ us hl => match us, hl with | [_, _], _ => rfl
  obtain ⟨a_law_held, ⟨oc_law_held, od_law_held, kV_law_held, dc_law_held, pm_law_held, an_law_held, cd_law_held, ct_law_held, sl_law_held, l_law_held, c_law_held⟩, k_law_held⟩ := p_law_held
  have F_law_held := fun_mk (st := s_law_held) l_law_held c_law_held k_law_held
  have b_law_held := F_law_held.binds (ps := p_law_held) fun _ _ _ _ _ _ us hl => match us, hl with | [_, _], _ => rfl
  obtain ⟨a_law_lists, ⟨oc_law_lists, od_law_lists, kV_law_lists, dc_law_lists, pm_law_lists, an_law_lists, cd_law_lists, ct_law_lists, sl_law_lists, l_law_lists, c_law_lists⟩, k_law_lists⟩ := p_law_lists
  have F_law_lists := fun_mk (st := s_law_lists) l_law_lists c_law_lists k_law_lists
  have b_law_lists := F_law_lists.binds (ps := p_law_lists) fun _ _ _ _ _ _ us hl => match us, hl with | [_, _, _], _ => rfl
  obtain ⟨a_law, ⟨oc_law, od_law, kV_law, dc_law, pm_law, an_law, cd_law, ct_law, sl_law, l_law, c_law⟩, k_law⟩ := p_law
  have F_law := fun_mk (st := s_law) l_law c_law k_law
  have b_law := F_law.binds (ps := p_law) fun _ _ _ _ _ _ us hl => match us, hl with | [_], _ => rfl
  have B : Bt mg := ⟨PySem.W.mg_none_of X G z_len, PySem.W.mg_none_of X G z_list, PySem.W.mg_none_of X G z_abs, PySem.W.mg_none_of X G z_isinstance, PySem.W.mg_none_of X G z_int, PySem.W.mg_none_of X G z_bool, PySem.W.mg_none_of X G z_str, PySem.W.mg_none_of X G z_dict, PySem.W.mg_none_of X G z_tuple, PySem.W.mg_none_of X G z_all, PySem.W.mg_none_of X G z_range, PySem.W.mg_none_of X G z_sorted, PySem.W.mg_none_of X G z_min, PySem.W.mg_none_of X G z_any, PySem.W.mg_none_of X G z_max, PySem.W.mg_none_of X G z_zip⟩
  have XN : NoR K mg C_NoRatio := ⟨PySem.W.mg_of X G aC, x, k, b, t, PySem.W.exm_ref b e4 t sc⟩
  have qNOUGHT : ∀ H, SqT K H a_NOUGHT [.int 0, .int 1] := fun H => .inr ⟨_, _, _, lNOUGHT, rfl, rfl, (by show 2 ≤ sizeLine; decide), (.cons ⟨_, rfl⟩ (.cons ⟨_, rfl⟩ .nil))⟩
  have F_pieces_left := fun_mk (st := s_pieces_left) pl_pieces_left pc_pieces_left pk_pieces_left
  have kb_pieces_left : KBn K _ p_pieces_left 2 ["held"] (fun us ws => us ++ ws) (fun vs zs => vs ++ zs) := M.kb_of F_pieces_left fun _ _ _ _ _ _ us ws h1 h2 => match us, ws, h1, h2 with | [_, _], [_], _, _ => rfl
  have FD_pieces_left : FunD K (Str.ofString "pieces_left") (Str.ofString "pieces_left") (defArgs s_pieces_left) (defBody s_pieces_left) (defScope s_pieces_left) [] [("held", .ref a_E_pieces_left)] f_pieces_left _ := ⟨⟨_, _, _, _, _, _, _, _, _, _, rfl, pl_pieces_left, pc_pieces_left, .inl ⟨rfl, rfl⟩, .inr ⟨D_pieces_left, rfl, fun q hq => by rw [List.mem_singleton.mp hq]; exact ⟨_, ph_pieces_left, rfl⟩⟩⟩, pk_pieces_left⟩
  have b0_pieces_left := FD_pieces_left.binds0 (ps := p_pieces_left) 2 (by simp) rfl fun D doc pm an cdv ct us ks h1 h2 => match us, ks, h1, h2 with | [_, _], [_], _, _ => ⟨_, _, _, _, _, _, rfl, rfl, rfl⟩
  have qE_pieces_left : SqT K (fun _ => none) a_E_pieces_left [] := .inr ⟨_, _, _, pe_pieces_left, rfl, rfl, (by show 0 ≤ sizeLine; decide), .nil⟩
  have F_kept := fun_mk (st := s_kept) pl_kept pc_kept pk_kept
  have kb_kept : KBn K _ p_kept 2 ["held"] (fun us ws => us ++ ws) (fun vs zs => vs ++ zs) := M.kb_of F_kept fun _ _ _ _ _ _ us ws h1 h2 => match us, ws, h1, h2 with | [_, _], [_], _, _ => rfl
  have FD_kept : FunD K (Str.ofString "kept") (Str.ofString "kept") (defArgs s_kept) (defBody s_kept) (defScope s_kept) [] [("held", .ref a_E_kept)] f_kept _ := ⟨⟨_, _, _, _, _, _, _, _, _, _, rfl, pl_kept, pc_kept, .inl ⟨rfl, rfl⟩, .inr ⟨D_kept, rfl, fun q hq => by rw [List.mem_singleton.mp hq]; exact ⟨_, ph_kept, rfl⟩⟩⟩, pk_kept⟩
  have b0_kept := FD_kept.binds0 (ps := p_kept) 2 (by simp) rfl fun D doc pm an cdv ct us ks h1 h2 => match us, ks, h1, h2 with | [_, _], [_], _, _ => ⟨_, _, _, _, _, _, rfl, rfl, rfl⟩
  have qE_kept : SqT K (fun _ => none) a_E_kept [] := .inr ⟨_, _, _, pe_kept, rfl, rfl, (by show 0 ≤ sizeLine; decide), .nil⟩
  have F_kept_holds := fun_mk (st := s_kept_holds) pl_kept_holds pc_kept_holds pk_kept_holds
  have kb_kept_holds : KBn K _ p_kept_holds 4 ["held"] (fun us ws => us ++ ws) (fun vs zs => vs ++ zs) := M.kb_of F_kept_holds fun _ _ _ _ _ _ us ws h1 h2 => match us, ws, h1, h2 with | [_, _, _, _], [_], _, _ => rfl
  have FD_kept_holds : FunD K (Str.ofString "kept_holds") (Str.ofString "kept_holds") (defArgs s_kept_holds) (defBody s_kept_holds) (defScope s_kept_holds) [] [("held", .ref a_E_kept_holds)] f_kept_holds _ := ⟨⟨_, _, _, _, _, _, _, _, _, _, rfl, pl_kept_holds, pc_kept_holds, .inl ⟨rfl, rfl⟩, .inr ⟨D_kept_holds, rfl, fun q hq => by rw [List.mem_singleton.mp hq]; exact ⟨_, ph_kept_holds, rfl⟩⟩⟩, pk_kept_holds⟩
  have b0_kept_holds := FD_kept_holds.binds0 (ps := p_kept_holds) 4 (by simp) rfl fun D doc pm an cdv ct us ks h1 h2 => match us, ks, h1, h2 with | [_, _, _, _], [_], _, _ => ⟨_, _, _, _, _, _, rfl, rfl, rfl⟩
  have qE_kept_holds : SqT K (fun _ => none) a_E_kept_holds [] := .inr ⟨_, _, _, pe_kept_holds, rfl, rfl, (by show 0 ≤ sizeLine; decide), .nil⟩
  let ev : Env K mg := { f_greatest_common := f_greatest_common, d_greatest_common := _, A_greatest_common := ⟨F_greatest_common, b_greatest_common, PySem.W.mg_of X G a_greatest_common⟩, f_ratio := f_ratio, d_ratio := _, A_ratio := ⟨F_ratio, b_ratio, PySem.W.mg_of X G a_ratio⟩, f_plus := f_plus, d_plus := _, A_plus := ⟨F_plus, b_plus, PySem.W.mg_of X G a_plus⟩, f_minus := f_minus, d_minus := _, A_minus := ⟨F_minus, b_minus, PySem.W.mg_of X G a_minus⟩, f_times := f_times, d_times := _, A_times := ⟨F_times, b_times, PySem.W.mg_of X G a_times⟩, f_divided := f_divided, d_divided := _, A_divided := ⟨F_divided, b_divided, PySem.W.mg_of X G a_divided⟩, f_order := f_order, d_order := _, A_order := ⟨F_order, b_order, PySem.W.mg_of X G a_order⟩, f_size := f_size, d_size := _, A_size := ⟨F_size, b_size, PySem.W.mg_of X G a_size⟩, f_lesser := f_lesser, d_lesser := _, A_lesser := ⟨F_lesser, b_lesser, PySem.W.mg_of X G a_lesser⟩, f_greater := f_greater, d_greater := _, A_greater := ⟨F_greater, b_greater, PySem.W.mg_of X G a_greater⟩, f_longer_way := f_longer_way, d_longer_way := _, A_longer_way := ⟨F_longer_way, b_longer_way, PySem.W.mg_of X G a_longer_way⟩, f_slope_of := f_slope_of, d_slope_of := _, A_slope_of := ⟨F_slope_of, b_slope_of, PySem.W.mg_of X G a_slope_of⟩, f_aside := f_aside, d_aside := _, A_aside := ⟨F_aside, b_aside, PySem.W.mg_of X G a_aside⟩, f_may_pass := f_may_pass, d_may_pass := _, A_may_pass := ⟨F_may_pass, b_may_pass, PySem.W.mg_of X G a_may_pass⟩, f_ends_from := f_ends_from, d_ends_from := _, A_ends_from := ⟨F_ends_from, b_ends_from, PySem.W.mg_of X G a_ends_from⟩, f_ends_of := f_ends_of, d_ends_of := _, A_ends_of := ⟨F_ends_of, b_ends_of, PySem.W.mg_of X G a_ends_of⟩, f_counts_of := f_counts_of, d_counts_of := _, A_counts_of := ⟨F_counts_of, b_counts_of, PySem.W.mg_of X G a_counts_of⟩, f_leads_through := f_leads_through, d_leads_through := _, A_leads_through := ⟨F_leads_through, b_leads_through, PySem.W.mg_of X G a_leads_through⟩, f_falls := f_falls, d_falls := _, A_falls := ⟨F_falls, b_falls, PySem.W.mg_of X G a_falls⟩, f_law_open := f_law_open, d_law_open := _, A_law_open := ⟨F_law_open, b_law_open, PySem.W.mg_of X G a_law_open⟩, f_law_pull := f_law_pull, d_law_pull := _, A_law_pull := ⟨F_law_pull, b_law_pull, PySem.W.mg_of X G a_law_pull⟩, f_law_any := f_law_any, d_law_any := _, A_law_any := ⟨F_law_any, b_law_any, PySem.W.mg_of X G a_law_any⟩, f_law_like := f_law_like, d_law_like := _, A_law_like := ⟨F_law_like, b_law_like, PySem.W.mg_of X G a_law_like⟩, f_law_low := f_law_low, d_law_low := _, A_law_low := ⟨F_law_low, b_law_low, PySem.W.mg_of X G a_law_low⟩, f_law_add := f_law_add, d_law_add := _, A_law_add := ⟨F_law_add, b_law_add, PySem.W.mg_of X G a_law_add⟩, f_law_sub := f_law_sub, d_law_sub := _, A_law_sub := ⟨F_law_sub, b_law_sub, PySem.W.mg_of X G a_law_sub⟩, f_law_mul := f_law_mul, d_law_mul := _, A_law_mul := ⟨F_law_mul, b_law_mul, PySem.W.mg_of X G a_law_mul⟩, f_law_less := f_law_less, d_law_less := _, A_law_less := ⟨F_law_less, b_law_less, PySem.W.mg_of X G a_law_less⟩, f_law_abs := f_law_abs, d_law_abs := _, A_law_abs := ⟨F_law_abs, b_law_abs, PySem.W.mg_of X G a_law_abs⟩, f_law_passes := f_law_passes, d_law_passes := _, A_law_passes := ⟨F_law_passes, b_law_passes, PySem.W.mg_of X G a_law_passes⟩, f_law_free := f_law_free, d_law_free := _, A_law_free := ⟨F_law_free, b_law_free, PySem.W.mg_of X G a_law_free⟩, f_law_fewest := f_law_fewest, d_law_fewest := _, A_law_fewest := ⟨F_law_fewest, b_law_fewest, PySem.W.mg_of X G a_law_fewest⟩, f_law_spots := f_law_spots, d_law_spots := _, A_law_spots := ⟨F_law_spots, b_law_spots, PySem.W.mg_of X G a_law_spots⟩, f_law_held := f_law_held, d_law_held := _, A_law_held := ⟨F_law_held, b_law_held, PySem.W.mg_of X G a_law_held⟩, f_law_lists := f_law_lists, d_law_lists := _, A_law_lists := ⟨F_law_lists, b_law_lists, PySem.W.mg_of X G a_law_lists⟩, f_law := fa, d_law := _, A_law := ⟨F_law, b_law, PySem.W.mg_of X G a_law⟩, B := B, C_NoRatio := C_NoRatio, X_NoRatio := XN, a_NOUGHT := a_NOUGHT, c_NOUGHT := PySem.W.mg_of X G cNOUGHT, q_NOUGHT := qNOUGHT, a_E_pieces_left := a_E_pieces_left, f_pieces_left := f_pieces_left, d_pieces_left := _, A_pieces_left := ⟨F_pieces_left, PySem.W.mg_of X G pa_pieces_left, kb_pieces_left, b0_pieces_left⟩, q_E_pieces_left := qE_pieces_left, a_E_kept := a_E_kept, f_kept := f_kept, d_kept := _, A_kept := ⟨F_kept, PySem.W.mg_of X G pa_kept, kb_kept, b0_kept⟩, q_E_kept := qE_kept, a_E_kept_holds := a_E_kept_holds, f_kept_holds := f_kept_holds, d_kept_holds := _, A_kept_holds := ⟨F_kept_holds, PySem.W.mg_of X G pa_kept_holds, kb_kept_holds, b0_kept_holds⟩, q_E_kept_holds := qE_kept_holds }
  exact ⟨_, fun s v => .of_eq rfl, fun base _ _ => ok_law ev⟩
end G
open PySem PySem.W PyProof.Rows
set_option maxHeartbeats 0 in
theorem PySem.Challenge.cw_gromatic_k51_whole_fewest_corners_holds : PySem.Challenge.rw_gromatic_k51_whole_fewest_corners.Holds := by
  w_on; o_law; k_head; (case hw => w_witness2)
  k_fill
  refine L2.walk_of (l := PySem.Challenge.rw_gromatic_k51_whole_fewest_corners) (n := 63) (k := 10) (x := "_law_script") (CX := fun _ => L2.CX0) (sp := fun w => G.spLaw _) rfl (by decide) rfl ⟨rfl, by decide, by decide⟩ (fun w h Y => PySem.W.kIn_of Y) ?F (fun _ _ a ns hl _ hS => ⟨a, ns, rfl, hS, hl, fun _ => rfl⟩) (fun _ _ _ _ _ h => h)
  case F =>
    intro w mg fa h KX GN hmg
    refine' G.all_mk KX GN hmg (G.put_mk ?a_greatest_common ?l_greatest_common ?c_greatest_common ?k_greatest_common) (G.put_mk ?a_ratio ?l_ratio ?c_ratio ?k_ratio) (G.put_mk ?a_plus ?l_plus ?c_plus ?k_plus) (G.put_mk ?a_minus ?l_minus ?c_minus ?k_minus) (G.put_mk ?a_times ?l_times ?c_times ?k_times) (G.put_mk ?a_divided ?l_divided ?c_divided ?k_divided) (G.put_mk ?a_order ?l_order ?c_order ?k_order) (G.put_mk ?a_size ?l_size ?c_size ?k_size) (G.put_mk ?a_lesser ?l_lesser ?c_lesser ?k_lesser) (G.put_mk ?a_greater ?l_greater ?c_greater ?k_greater) (G.put_mk ?a_longer_way ?l_longer_way ?c_longer_way ?k_longer_way) (G.put_mk ?a_slope_of ?l_slope_of ?c_slope_of ?k_slope_of) (G.put_mk ?a_aside ?l_aside ?c_aside ?k_aside) (G.put_mk ?a_may_pass ?l_may_pass ?c_may_pass ?k_may_pass) (G.put_mk ?a_ends_from ?l_ends_from ?c_ends_from ?k_ends_from) (G.put_mk ?a_ends_of ?l_ends_of ?c_ends_of ?k_ends_of) (G.put_mk ?a_counts_of ?l_counts_of ?c_counts_of ?k_counts_of) (G.put_mk ?a_leads_through ?l_leads_through ?c_leads_through ?k_leads_through) (G.put_mk ?a_falls ?l_falls ?c_falls ?k_falls) (G.put_mk ?a_law_open ?l_law_open ?c_law_open ?k_law_open) (G.put_mk ?a_law_pull ?l_law_pull ?c_law_pull ?k_law_pull) (G.put_mk ?a_law_any ?l_law_any ?c_law_any ?k_law_any) (G.put_mk ?a_law_like ?l_law_like ?c_law_like ?k_law_like) (G.put_mk ?a_law_low ?l_law_low ?c_law_low ?k_law_low) (G.put_mk ?a_law_add ?l_law_add ?c_law_add ?k_law_add) (G.put_mk ?a_law_sub ?l_law_sub ?c_law_sub ?k_law_sub) (G.put_mk ?a_law_mul ?l_law_mul ?c_law_mul ?k_law_mul) (G.put_mk ?a_law_less ?l_law_less ?c_law_less ?k_law_less) (G.put_mk ?a_law_abs ?l_law_abs ?c_law_abs ?k_law_abs) (G.put_mk ?a_law_passes ?l_law_passes ?c_law_passes ?k_law_passes) (G.put_mk ?a_law_free ?l_law_free ?c_law_free ?k_law_free) (G.put_mk ?a_law_fewest ?l_law_fewest ?c_law_fewest ?k_law_fewest) (G.put_mk ?a_law_spots ?l_law_spots ?c_law_spots ?k_law_spots) (G.put_mk ?a_law_held ?l_law_held ?c_law_held ?k_law_held) (G.put_mk ?a_law_lists ?l_law_lists ?c_law_lists ?k_law_lists) (G.put_mk ?a_law ?l_law ?c_law ?k_law) ?aC ?x ?k ?b ?t ?e4 ?sc ?cNOUGHT ?lNOUGHT ?pa_pieces_left ?pl_pieces_left ?pc_pieces_left ?pk_pieces_left ?ph_pieces_left ?pe_pieces_left ?pa_kept ?pl_kept ?pc_kept ?pk_kept ?ph_kept ?pe_kept ?pa_kept_holds ?pl_kept_holds ?pc_kept_holds ?pk_kept_holds ?ph_kept_holds ?pe_kept_holds ?z_len ?z_list ?z_abs ?z_isinstance ?z_int ?z_bool ?z_str ?z_dict ?z_tuple ?z_all ?z_range ?z_sorted ?z_min ?z_any ?z_max ?z_zip
    (case aC => k_is)
    (case x => k_exc)
    (case k => k_is)
    (case b => k_is)
    (case t => k_is)
    (case e4 => k_is)
    (case sc => first | rfl | k_is)
    (case cNOUGHT => k_is)
    (case lNOUGHT => k_is)
    (case pa_pieces_left => k_is)
    (case pl_pieces_left => k_is)
    (case pc_pieces_left => k_is)
    (case pk_pieces_left => k_is)
    (case ph_pieces_left => k_is)
    (case pe_pieces_left => k_is)
    (case pa_kept => k_is)
    (case pl_kept => k_is)
    (case pc_kept => k_is)
    (case pk_kept => k_is)
    (case ph_kept => k_is)
    (case pe_kept => k_is)
    (case pa_kept_holds => k_is)
    (case pl_kept_holds => k_is)
    (case pc_kept_holds => k_is)
    (case pk_kept_holds => k_is)
    (case ph_kept_holds => k_is)
    (case pe_kept_holds => k_is)
    (case a_greatest_common => k_is)
    (case l_greatest_common => k_is)
    (case c_greatest_common => k_is)
    (case k_greatest_common => k_is)
    (case a_ratio => k_is)
    (case l_ratio => k_is)
    (case c_ratio => k_is)
    (case k_ratio => k_is)
    (case a_plus => k_is)
    (case l_plus => k_is)
    (case c_plus => k_is)
    (case k_plus => k_is)
    (case a_minus => k_is)
    (case l_minus => k_is)
    (case c_minus => k_is)
    (case k_minus => k_is)
    (case a_times => k_is)
    (case l_times => k_is)
    (case c_times => k_is)
    (case k_times => k_is)
    (case a_divided => k_is)
    (case l_divided => k_is)
    (case c_divided => k_is)
    (case k_divided => k_is)
    (case a_order => k_is)
    (case l_order => k_is)
    (case c_order => k_is)
    (case k_order => k_is)
    (case a_size => k_is)
    (case l_size => k_is)
    (case c_size => k_is)
    (case k_size => k_is)
    (case a_lesser => k_is)
    (case l_lesser => k_is)
    (case c_lesser => k_is)
    (case k_lesser => k_is)
    (case a_greater => k_is)
    (case l_greater => k_is)
    (case c_greater => k_is)
    (case k_greater => k_is)
    (case a_longer_way => k_is)
    (case l_longer_way => k_is)
    (case c_longer_way => k_is)
    (case k_longer_way => k_is)
    (case a_slope_of => k_is)
    (case l_slope_of => k_is)
    (case c_slope_of => k_is)
    (case k_slope_of => k_is)
    (case a_aside => k_is)
    (case l_aside => k_is)
    (case c_aside => k_is)
    (case k_aside => k_is)
    (case a_may_pass => k_is)
    (case l_may_pass => k_is)
    (case c_may_pass => k_is)
    (case k_may_pass => k_is)
    (case a_ends_from => k_is)
    (case l_ends_from => k_is)
    (case c_ends_from => k_is)
    (case k_ends_from => k_is)
    (case a_ends_of => k_is)
    (case l_ends_of => k_is)
    (case c_ends_of => k_is)
    (case k_ends_of => k_is)
    (case a_counts_of => k_is)
    (case l_counts_of => k_is)
    (case c_counts_of => k_is)
    (case k_counts_of => k_is)
    (case a_leads_through => k_is)
    (case l_leads_through => k_is)
    (case c_leads_through => k_is)
    (case k_leads_through => k_is)
    (case a_falls => k_is)
    (case l_falls => k_is)
    (case c_falls => k_is)
    (case k_falls => k_is)
    (case a_law_open => k_is)
    (case l_law_open => k_is)
    (case c_law_open => k_is)
    (case k_law_open => k_is)
    (case a_law_pull => k_is)
    (case l_law_pull => k_is)
    (case c_law_pull => k_is)
    (case k_law_pull => k_is)
    (case a_law_any => k_is)
    (case l_law_any => k_is)
    (case c_law_any => k_is)
    (case k_law_any => k_is)
    (case a_law_like => k_is)
    (case l_law_like => k_is)
    (case c_law_like => k_is)
    (case k_law_like => k_is)
    (case a_law_low => k_is)
    (case l_law_low => k_is)
    (case c_law_low => k_is)
    (case k_law_low => k_is)
    (case a_law_add => k_is)
    (case l_law_add => k_is)
    (case c_law_add => k_is)
    (case k_law_add => k_is)
    (case a_law_sub => k_is)
    (case l_law_sub => k_is)
    (case c_law_sub => k_is)
    (case k_law_sub => k_is)
    (case a_law_mul => k_is)
    (case l_law_mul => k_is)
    (case c_law_mul => k_is)
    (case k_law_mul => k_is)
    (case a_law_less => k_is)
    (case l_law_less => k_is)
    (case c_law_less => k_is)
    (case k_law_less => k_is)
    (case a_law_abs => k_is)
    (case l_law_abs => k_is)
    (case c_law_abs => k_is)
    (case k_law_abs => k_is)
    (case a_law_passes => k_is)
    (case l_law_passes => k_is)
    (case c_law_passes => k_is)
    (case k_law_passes => k_is)
    (case a_law_free => k_is)
    (case l_law_free => k_is)
    (case c_law_free => k_is)
    (case k_law_free => k_is)
    (case a_law_fewest => k_is)
    (case l_law_fewest => k_is)
    (case c_law_fewest => k_is)
    (case k_law_fewest => k_is)
    (case a_law_spots => k_is)
    (case l_law_spots => k_is)
    (case c_law_spots => k_is)
    (case k_law_spots => k_is)
    (case a_law_held => k_is)
    (case l_law_held => k_is)
    (case c_law_held => k_is)
    (case k_law_held => k_is)
    (case a_law_lists => k_is)
    (case l_law_lists => k_is)
    (case c_law_lists => k_is)
    (case k_law_lists => k_is)
    (case a_law => k_is)
    (case l_law => k_is)
    (case c_law => k_is)
    (case k_law => k_is)
    (case z_len => k_is)
    (case z_list => k_is)
    (case z_abs => k_is)
    (case z_isinstance => k_is)
    (case z_int => k_is)
    (case z_bool => k_is)
    (case z_str => k_is)
    (case z_dict => k_is)
    (case z_tuple => k_is)
    (case z_all => k_is)
    (case z_range => k_is)
    (case z_sorted => k_is)
    (case z_min => k_is)
    (case z_any => k_is)
    (case z_max => k_is)
    (case z_zip => k_is)

