import PyProof.Rows.All
import Wide.All
import OpenK.AllK
import Wide.FinOn
import HandS.ForMost
import HandS.ForExc
import HandS.Wide
import HandS.IsInst
import HandS.ExcIs
import HandS.More
import HandS.DictComp
import HandS.SortInts
import HandS.Style
import HandS.Defaults
import HandS.Deep
import HandS.TryOnly
import KE.DataMinMax
import KE.SortData
import HandS.Iter
import KE.KExcSuper
import KE.OsGo
import HandS.ForSpec
import HandS.HeadWalk
import HandS.SlotsOwn
import KE.KCallOwn
import HandS.OwnEq
import HandS.MakeKwOnly
import HandS.ExcOwn
import HandS.FStr
import HandS.Text
import HandS.ExcField
import PySem.Challenge.RW_gromatic_k15_scales_and_drawn_pairs
import KE.KExcLine
import HandS.HeadEnd
set_option Elab.async false
set_option linter.all false
set_option maxRecDepth 100000
set_option maxHeartbeats 8000000
namespace M
open PySem L2

/-! ### heaps: what is owned may change -/
abbrev AS := List Addr
def Fr (T : AS) (H H' : Hp) : Prop := ∀ a o, H a = some o → a ∉ T → H' a = some o
theorem Fr.refl {T : AS} (H : Hp) : Fr T H H := fun _ _ e _ => e
theorem Fr.trans {T : AS} {H H1 H2 : Hp} (a : Fr T H H1) (b : Fr T H1 H2) : Fr T H H2 := fun p o e n => b p o (a p o e n) n
theorem Fr.same {T : AS} {H H' : Hp} (s : Same H H') : Fr T H H' := fun p o e _ => s p o e
theorem Fr.sub {T T' : AS} {H H' : Hp} (h : ∀ a ∈ T, a ∈ T') (f : Fr T H H') : Fr T' H H' := fun p o e n => f p o e fun m => n (h p m)
theorem Fr.toSame {H H' : Hp} (f : Fr [] H H') : Same H H' := fun p o e => f p o e (by simp)
def Dom (S : AS) (H : Hp) : Prop := ∀ a ∈ S, H a ≠ none
theorem Dom.same {S : AS} {H H' : Hp} (d : Dom S H) (s : Same H H') : Dom S H' := fun a m e => by
  cases q : H a with
  | none => exact d a m q
  | some o => rw [s a o q] at e; cases e
theorem Dom.nil {H : Hp} : Dom [] H := fun a m => by simp at m
theorem Dom.not_mem {S : AS} {H : Hp} {p : Addr} (d : Dom S H) (h : H p = none) : p ∉ S := fun m => d p m h
theorem Dom.cons {S : AS} {H : Hp} {p : Addr} {o : HO} (d : Dom S H) (h : H p = some o) : Dom (p :: S) H := fun a m => by
  rcases List.mem_cons.mp m with rfl | m
  · rw [h]; intro z; cases z
  · exact d a m
theorem same_new {H : Hp} {p : Addr} {o : HO} (h : H p = none) : Same H (upd H p o) := fun b x e => by
  rw [upd_ne (ne_of_none e h)]
  exact e
theorem fr_upd {T : AS} {H : Hp} {p : Addr} {o : HO} (h : p ∈ T) : Fr T H (upd H p o) := fun b x e n => by
  rw [upd_ne (fun z => n (by rw [z]; exact h))]
  exact e
theorem Dom.upd {S : AS} {H : Hp} {p : Addr} {o : HO} (d : Dom S H) : Dom S (upd H p o) := fun a m => by
  by_cases e : a = p
  · subst e; rw [upd_same]; intro z; cases z
  · rw [upd_ne e]; exact d a m

/-! ### pairs of lists -/
abbrev All2 {α β : Type} := @Paired α β
theorem All2.imp {α β : Type} {F G : α → β → Prop} (h : ∀ a b, F a b → G a b) : ∀ {xs : List α} {ys : List β}, All2 F xs ys → All2 G xs ys
  | _, _, .nil => .nil
  | _, _, .cons a r => .cons (h _ _ a) (All2.imp h r)
theorem All2.len {α β : Type} {F : α → β → Prop} : ∀ {xs : List α} {ys : List β}, All2 F xs ys → xs.length = ys.length
  | _, _, .nil => rfl
  | _, _, .cons _ r => by simp [All2.len r]
theorem All2.get {α β : Type} {F : α → β → Prop} : ∀ {xs : List α} {ys : List β} (i : Nat) {y : β}, All2 F xs ys → ys[i]? = some y → ∃ x, xs[i]? = some x ∧ F x y
  | _, _, i, y, .nil, e => by simp at e
  | _, _, 0, y, .cons a _, e => by simp at e; subst e; exact ⟨_, rfl, a⟩
  | _, _, i + 1, y, .cons _ r, e => by
    obtain ⟨x, h1, h2⟩ := All2.get i (y := y) r (by simpa using e)
    exact ⟨x, by simpa using h1, h2⟩
theorem All2.getL {α β : Type} {F : α → β → Prop} : ∀ {xs : List α} {ys : List β} (i : Nat) {x : α}, All2 F xs ys → xs[i]? = some x → ∃ y, ys[i]? = some y ∧ F x y
  | _, _, i, y, .nil, e => by simp at e
  | _, _, 0, y, .cons a _, e => by simp at e; subst e; exact ⟨_, rfl, a⟩
  | _, _, i + 1, y, .cons _ r, e => by
    obtain ⟨x, h1, h2⟩ := All2.getL i (x := y) r (by simpa using e)
    exact ⟨x, by simpa using h1, h2⟩
theorem All2.snoc {α β : Type} {F : α → β → Prop} {x : α} {y : β} : ∀ {xs : List α} {ys : List β}, All2 F xs ys → F x y → All2 F (xs ++ [x]) (ys ++ [y])
  | _, _, .nil, h => .cons h .nil
  | _, _, .cons a r, h => .cons a (All2.snoc r h)
theorem All2.app {α β : Type} {F : α → β → Prop} : ∀ {xs xs' : List α} {ys ys' : List β}, All2 F xs ys → All2 F xs' ys' → All2 F (xs ++ xs') (ys ++ ys')
  | _, _, _, _, .nil, h => h
  | _, _, _, _, .cons a r, h => .cons a (All2.app r h)
theorem All2.drop {α β : Type} {F : α → β → Prop} : ∀ (n : Nat) {xs : List α} {ys : List β}, All2 F xs ys → All2 F (xs.drop n) (ys.drop n)
  | 0, _, _, h => h
  | _ + 1, _, _, .nil => .nil
  | n + 1, _, _, .cons _ r => All2.drop n r
theorem All2.take {α β : Type} {F : α → β → Prop} : ∀ (n : Nat) {xs : List α} {ys : List β}, All2 F xs ys → All2 F (xs.take n) (ys.take n)
  | 0, _, _, _ => .nil
  | _ + 1, _, _, .nil => .nil
  | n + 1, _, _, .cons a r => .cons a (All2.take n r)
theorem All2.set {α β : Type} {F : α → β → Prop} {x : α} {y : β} (h : F x y) : ∀ (n : Nat) {xs : List α} {ys : List β}, All2 F xs ys → All2 F (xs.set n x) (ys.set n y)
  | _, _, _, .nil => .nil
  | 0, _, _, .cons _ r => .cons h r
  | n + 1, _, _, .cons a r => .cons a (All2.set h n r)
theorem All2.at {α β : Type} {F : α → β → Prop} {xs : List α} {ys : List β} {i : Int} {y : β} (h : All2 F xs ys) (e : atI ys i = some y) : ∃ x, atI xs i = some x ∧ F x y := by
  unfold atI at e ⊢
  rw [h.len]
  cases q : ixN ys.length i with
  | none => rw [q] at e; cases e
  | some j =>
    rw [q] at e
    exact h.get j e

/-! ### codes: what a value stands for -/
def nT (K : PySem.W.Frag) (S : AS) (H : Hp) (a : Addr) (xs : List V) : Prop := (Rd H a (.tup xs) ∧ a ∉ S) ∨ SqT K (fun _ => none) a xs
def nL (K : PySem.W.Frag) (S : AS) (H : Hp) (a : Addr) (xs : List V) : Prop := H a = some (.lst xs) ∧ a ∉ S
theorem not_rd {a : Addr} {u : HO} (h : Rd (fun _ => none) a u) : False := by
  rcases h with h | ⟨_, h⟩ <;> cases h
theorem Rd.some {H : Hp} {a : Addr} {u : HO} (h : Rd H a u) : H a ≠ none := by
  rcases h with h | ⟨_, h⟩ <;> rw [h] <;> intro z <;> cases z
theorem Rd.fr {T : AS} {H H' : Hp} {a : Addr} {u : HO} (h : Rd H a u) (f : Fr T H H') (n : a ∉ T) : Rd H' a u := by
  rcases h with h | ⟨o, h⟩
  · exact .inl (f _ _ h n)
  · exact .inr ⟨o, f _ _ h n⟩
theorem nT.sq {K : PySem.W.Frag} {S : AS} {H : Hp} {a : Addr} {xs : List V} (h : nT K S H a xs) : SqT K H a xs := by
  rcases h with h | h | h
  · exact .inl h.1
  · exact (not_rd h).elim
  · exact .inr h
theorem nL.sq {K : PySem.W.Frag} {S : AS} {H : Hp} {a : Addr} {xs : List V} (h : nL K S H a xs) : SqL K H a xs := .inl (.inl h.1)
theorem nT.mono {K : PySem.W.Frag} {S : AS} {H H' : Hp} {a : Addr} {xs : List V} (f : Fr S H H') (h : nT K S H a xs) : nT K S H' a xs := by
  rcases h with h | h
  · exact .inl ⟨Rd.fr h.1 f h.2, h.2⟩
  · exact .inr h
theorem nL.mono {K : PySem.W.Frag} {S : AS} {H H' : Hp} {a : Addr} {xs : List V} (f : Fr S H H') (h : nL K S H a xs) : nL K S H' a xs := ⟨f _ _ h.1 h.2, h.2⟩
theorem not_cons {S : AS} {H : Hp} {p a : Addr} (hp : H p = none) (ha : H a ≠ none) (n : a ∉ S) : a ∉ p :: S := fun m => by
  rcases List.mem_cons.mp m with rfl | m
  · exact ha hp
  · exact n m
theorem nT.ext {K : PySem.W.Frag} {S : AS} {H : Hp} {a p : Addr} {xs : List V} (hp : H p = none) (h : nT K S H a xs) : nT K (p :: S) H a xs := by
  rcases h with h | h
  · exact .inl ⟨h.1, not_cons hp (Rd.some h.1) h.2⟩
  · exact .inr h
theorem nL.ext {K : PySem.W.Frag} {S : AS} {H : Hp} {a p : Addr} {xs : List V} (hp : H p = none) (h : nL K S H a xs) : nL K (p :: S) H a xs := ⟨h.1, not_cons hp (by rw [h.1]; intro z; cases z) h.2⟩
theorem nT.sub {K : PySem.W.Frag} {S S' : AS} {H : Hp} {a : Addr} {xs : List V} (hs : ∀ a ∈ S', a ∈ S) (h : nT K S H a xs) : nT K S' H a xs := by
  rcases h with h | h
  · exact .inl ⟨h.1, fun m => h.2 (hs _ m)⟩
  · exact .inr h
theorem nL.sub {K : PySem.W.Frag} {S S' : AS} {H : Hp} {a : Addr} {xs : List V} (hs : ∀ a ∈ S', a ∈ S) (h : nL K S H a xs) : nL K S' H a xs := ⟨h.1, fun m => h.2 (hs _ m)⟩

structure Ty (K : PySem.W.Frag) (α : Type) where
  rp : AS → Hp → V → α → Prop
  mono : ∀ {S H H' v x}, Fr S H H' → rp S H v x → rp S H' v x
  ext : ∀ {S H p v x}, H p = none → rp S H v x → rp (p :: S) H v x
  sub : ∀ {S S' H v x}, (∀ a ∈ S', a ∈ S) → rp S H v x → rp S' H v x

section
variable {K : PySem.W.Frag} {α β γ δ ε : Type}
def tInt : Ty K Int := ⟨fun _ _ v i => v = .int i, fun _ h => h, fun _ h => h, fun _ h => h⟩
def tBool : Ty K Bool := ⟨fun _ _ v i => v = .bl i, fun _ h => h, fun _ h => h, fun _ h => h⟩
def tStr : Ty K Str := ⟨fun _ _ v i => v = .str i ∧ PyData.strOk i = true, fun _ h => h, fun _ h => h, fun _ h => h⟩
def tNone : Ty K Unit := ⟨fun _ _ v _ => v = .non, fun _ h => h, fun _ h => h, fun _ h => h⟩
def tOpt (c : Ty K α) : Ty K (Option α) where
  rp S H v
    | none => v = .non
    | some x => v ≠ .non ∧ c.rp S H v x
  mono {S H H' v x} f h := by cases x with | none => exact h | some x => exact ⟨h.1, c.mono f h.2⟩
  ext {S H p v x} f h := by cases x with | none => exact h | some x => exact ⟨h.1, c.ext f h.2⟩
  sub {S S' H v x} f h := by cases x with | none => exact h | some x => exact ⟨h.1, c.sub f h.2⟩
def tT2 (c : Ty K α) (d : Ty K β) : Ty K (α × β) where
  rp S H v x := ∃ a u w, v = .ref a ∧ nT K S H a [u, w] ∧ c.rp S H u x.1 ∧ d.rp S H w x.2
  mono f := fun ⟨a, u, w, e, h, h1, h2⟩ => ⟨a, u, w, e, h.mono f, c.mono f h1, d.mono f h2⟩
  ext f := fun ⟨a, u, w, e, h, h1, h2⟩ => ⟨a, u, w, e, h.ext f, c.ext f h1, d.ext f h2⟩
  sub f := fun ⟨a, u, w, e, h, h1, h2⟩ => ⟨a, u, w, e, h.sub f, c.sub f h1, d.sub f h2⟩
def tT3 (c : Ty K α) (d : Ty K β) (g : Ty K γ) : Ty K (α × β × γ) where
  rp S H v x := ∃ a u w z, v = .ref a ∧ nT K S H a [u, w, z] ∧ c.rp S H u x.1 ∧ d.rp S H w x.2.1 ∧ g.rp S H z x.2.2
  mono f := fun ⟨a, u, w, z, e, h, h1, h2, h3⟩ => ⟨a, u, w, z, e, h.mono f, c.mono f h1, d.mono f h2, g.mono f h3⟩
  ext f := fun ⟨a, u, w, z, e, h, h1, h2, h3⟩ => ⟨a, u, w, z, e, h.ext f, c.ext f h1, d.ext f h2, g.ext f h3⟩
  sub f := fun ⟨a, u, w, z, e, h, h1, h2, h3⟩ => ⟨a, u, w, z, e, h.sub f, c.sub f h1, d.sub f h2, g.sub f h3⟩
/-- a tuple of any length; a list -/
def tTs (c : Ty K α) : Ty K (List α) where
  rp S H v xs := ∃ a vs, v = .ref a ∧ nT K S H a vs ∧ All2 (c.rp S H) vs xs
  mono f := fun ⟨a, vs, e, h, h1⟩ => ⟨a, vs, e, h.mono f, h1.imp fun _ _ => c.mono f⟩
  ext f := fun ⟨a, vs, e, h, h1⟩ => ⟨a, vs, e, h.ext f, h1.imp fun _ _ => c.ext f⟩
  sub f := fun ⟨a, vs, e, h, h1⟩ => ⟨a, vs, e, h.sub f, h1.imp fun _ _ => c.sub f⟩
def tL (c : Ty K α) : Ty K (List α) where
  rp S H v xs := ∃ a vs, v = .ref a ∧ nL K S H a vs ∧ All2 (c.rp S H) vs xs
  mono f := fun ⟨a, vs, e, h, h1⟩ => ⟨a, vs, e, h.mono f, h1.imp fun _ _ => c.mono f⟩
  ext f := fun ⟨a, vs, e, h, h1⟩ => ⟨a, vs, e, h.ext f, h1.imp fun _ _ => c.ext f⟩
  sub f := fun ⟨a, vs, e, h, h1⟩ => ⟨a, vs, e, h.sub f, h1.imp fun _ _ => c.sub f⟩
/-- a ratio: a tuple of two numbers in lowest terms -/
def tRat : Ty K Rat where
  rp S H v q := ∃ a, v = .ref a ∧ nT K S H a [.int q.num, .int (q.den : Int)]
  mono f := fun ⟨a, e, h⟩ => ⟨a, e, h.mono f⟩
  ext f := fun ⟨a, e, h⟩ => ⟨a, e, h.ext f⟩
  sub f := fun ⟨a, e, h⟩ => ⟨a, e, h.sub f⟩
abbrev tSpot : Ty K (Rat × Rat) := tT2 tRat tRat
/-- a list that is owned: at p, and p is of S -/
def Own (c : Ty K α) (S : AS) (H : Hp) (p : Addr) (xs : List α) : Prop := ∃ vs, H p = some (.lst vs) ∧ All2 (c.rp S H) vs xs
/-- a new list -/
def nwL (c : Ty K α) (S : AS) (H0 H : Hp) (v : V) (xs : List α) : Prop := ∃ p, v = .ref p ∧ H0 p = none ∧ Own c (p :: S) H p xs
theorem nwL.rp {c : Ty K α} {S : AS} {H0 H : Hp} {v : V} {xs : List α} (h : nwL c S H0 H v xs) (d : Dom S H0) : (tL c).rp S H v xs := by
  obtain ⟨p, e, hp, vs, hv, ha⟩ := h
  exact ⟨p, vs, e, ⟨hv, d.not_mem hp⟩, ha.imp fun _ _ => c.sub fun _ m => List.mem_cons_of_mem _ m⟩

/-! ### what an expression tells -/
structure Rl (α : Type) where
  r : Hp → Hp → V → α → Prop
  back : ∀ {T H0 H1 H2 v x}, Fr T H0 H1 → Dom T H1 → r H1 H2 v x → r H0 H2 v x
def of (c : Ty K α) (S : AS) : Rl α := ⟨fun _ H v x => c.rp S H v x, fun _ _ h => h⟩
theorem fr_back {T : AS} {H0 H1 : Hp} {p : Addr} (f : Fr T H0 H1) (d : Dom T H1) (n : H1 p = none) : H0 p = none := by
  cases q : H0 p with
  | none => rfl
  | some o =>
    rw [f p o q (d.not_mem n)] at n
    cases n
def nw (c : Ty K α) (S : AS) : Rl (List α) := ⟨nwL c S, fun f d ⟨p, e, n, h⟩ => ⟨p, e, fr_back f d n, h⟩⟩
theorem Rl.same (R : Rl α) {H0 H1 H2 : Hp} {v : V} {x : α} (s : Same H0 H1) (h : R.r H1 H2 v x) : R.r H0 H2 v x := R.back (T := []) (Fr.same s) Dom.nil h
/-- S: what is owned; T: what of it may change while the expression is read (the bag) -/
def Ev (S T : AS) (te : TE) (σ : St) (H : Hp) (R : Rl α) (r : Option α) : Prop :=
  ∀ x, r = some x → ∀ H1, Fr T H H1 → Dom S H1 → ∀ Q : VK, (∀ v H2, Same H1 H2 → R.r H1 H2 v x → Q v H2) → te σ H1 Q
def EvB (S T : AS) (tt : TT) (σ : St) (H : Hp) (r : Option Bool) : Prop :=
  ∀ b, r = some b → ∀ H1, Fr T H H1 → Dom S H1 → ∀ Q : Bool → Hp → Prop, (∀ H2, Same H1 H2 → Q b H2) → tt σ H1 Q
abbrev bd (r : Option α) (k : α → Option β) : Option β := Option.bind r k
theorem bd_some {r : Option α} {k : α → Option β} {y : β} (h : bd r k = some y) : ∃ x, r = some x ∧ k x = some y := by
  cases r with
  | none => cases h
  | some x => exact ⟨x, rfl, h⟩
abbrev Sub (T S : AS) : Prop := ∀ a ∈ T, a ∈ S
variable {S T : AS} {σ : St} {H : Hp} {ta tb te : TE} {tt tu : TT} {a : Ty K α} {b : Ty K β} {c : Ty K γ}
theorem ev_var (ts : Sub T S) {i : Nat} {v : V} {x : α} (h : a.rp S H v x) (e : σ[i]? = some (some v)) : Ev S T (tVar i) σ H (of a S) (some x) := by
  intro y ey H1 f d Q q
  cases ey
  exact ⟨v, e, q v H1 (Same.refl _) (a.mono (f.sub ts) h)⟩
theorem ev_c {v : V} {x : α} (h : ∀ H, a.rp S H v x) : Ev S T (tC v) σ H (of a S) (some x) := by
  intro y ey H1 f d Q q
  cases ey
  exact q v H1 (Same.refl _) (h H1)
theorem ev_int {i : Int} : Ev S T (tC (.int i)) σ H (of (K := K) tInt S) (some i) := ev_c fun _ => rfl
theorem ev_bool {i : Bool} : Ev S T (tC (.bl i)) σ H (of (K := K) tBool S) (some i) := ev_c fun _ => rfl
theorem ev_str {i : Str} (h : PyData.strOk i = true := by decide +kernel) : Ev S T (tC (.str i)) σ H (of (K := K) tStr S) (some i) := ev_c fun _ => ⟨rfl, h⟩
theorem ev_none : Ev S T (tC .non) σ H (of (K := K) tNone S) (some ()) := ev_c fun _ => rfl
/-- another code for the same value -/
theorem ev_as {R : Rl α} {R' : Rl β} {r : Option α} {g : α → Option β} (h : Ev S T te σ H R r) (k : ∀ x y, g x = some y → ∀ H1 H2 v, Dom S H1 → R.r H1 H2 v x → R'.r H1 H2 v y) : Ev S T te σ H R' (bd r g) := by
  intro y ey H1 f d Q q
  obtain ⟨x, ex, ey⟩ := bd_some ey
  exact h x ex H1 f d Q fun v H2 s hv => q v H2 s (k x y ey H1 H2 v d hv)
theorem ev_new {r : Option (List α)} (h : Ev S T te σ H (nw a S) r) : Ev S T te σ H (of (tL a) S) r := by
  intro x ex H1 f d Q q
  exact h x ex H1 f d Q fun v H2 s hv => q v H2 s (nwL.rp hv d)
def OpD (a : Ty K α) (b : Ty K β) (S : AS) (R : Rl γ) (r : R2) (f : α → β → Option γ) : Prop :=
  ∀ x y z, f x y = some z → ∀ H1 v w, Dom S H1 → a.rp S H1 v x → b.rp S H1 w y → ∀ Q : VK, (∀ u H2, Same H1 H2 → R.r H1 H2 u z → Q u H2) → r v w H1 Q
theorem ev_op {R : Rl γ} {r : R2} {f : α → β → Option γ} {ra : Option α} {rb : Option β} (h : OpD a b S R r f) (ha : Ev S T ta σ H (of a S) ra) (hb : Ev S T tb σ H (of b S) rb) :
    Ev S T (tOp r ta tb) σ H R (bd ra fun x => bd rb fun y => f x y) := by
  intro z e H1 f1 d Q q
  obtain ⟨x, ex, e⟩ := bd_some e
  obtain ⟨y, ey, e⟩ := bd_some e
  refine ha x ex H1 f1 d _ fun v H2 s2 hv => hb y ey H2 (f1.trans (Fr.same s2)) (d.same s2) _ fun w H3 s3 hw => h x y z e H3 v w ((d.same s2).same s3) (a.mono (Fr.same s3) hv) hw Q fun u H4 s4 hu => q u H4 (s2.trans (s3.trans s4)) (R.same (s2.trans s3) hu)
/-- ints -/
theorem od_I0 {g : Int → Int → V} {k : Int → Int → γ} (h : ∀ i j H, c.rp S H (g i j) (k i j)) : OpD (K := K) tInt tInt S (of c S) (rI0 g) (fun i j => some (k i j)) := by
  intro x y z e H1 v w d hv hw Q q
  cases e
  exact ⟨x, y, hv, hw, q _ H1 (Same.refl _) (h x y H1)⟩
theorem od_I {C : Int → Int → Prop} {p : Int → Int → Bool} {g : Int → Int → V} {k : Int → Int → γ} (hp : ∀ i j, p i j = true → C i j) (h : ∀ i j H, c.rp S H (g i j) (k i j)) : OpD (K := K) tInt tInt S (of c S) (rI C g) (fun i j => if p i j then some (k i j) else none) := by
  intro x y z e H1 v w d hv hw Q q
  dsimp only at e
  split at e
  · rename_i hc
    cases e
    exact ⟨x, y, hv, hw, hp _ _ hc, q _ H1 (Same.refl _) (h x y H1)⟩
  · cases e
def mulP (i j : Int) : Bool := decide (i.natAbs.log2 + j.natAbs.log2 < 1000000)
def mul? (i j : Int) : Option Int := if mulP i j then some (i * j) else none
theorem od_add : OpD (K := K) tInt tInt S (of (K := K) tInt S) (rI0 fun i j => .int (i + j)) (fun i j => some (i + j)) := od_I0 fun _ _ _ => rfl
theorem od_sub : OpD (K := K) tInt tInt S (of (K := K) tInt S) (rI0 fun i j => .int (i - j)) (fun i j => some (i - j)) := od_I0 fun _ _ _ => rfl
theorem od_mul : OpD (K := K) tInt tInt S (of (K := K) tInt S) (rI CMulW fun i j => .int (i * j)) mul? := od_I (fun i j h => show i.natAbs.log2 + j.natAbs.log2 < 1000000 from of_decide_eq_true h) fun _ _ _ => rfl
theorem od_lt : OpD (K := K) tInt tInt S (of (K := K) tBool S) (rI0 fun i j => .bl (decide (i < j))) (fun i j => some (decide (i < j))) := od_I0 fun _ _ _ => rfl
theorem od_le : OpD (K := K) tInt tInt S (of (K := K) tBool S) (rI0 fun i j => .bl (decide (i ≤ j))) (fun i j => some (decide (i ≤ j))) := od_I0 fun _ _ _ => rfl
theorem od_gt : OpD (K := K) tInt tInt S (of (K := K) tBool S) (rI0 fun i j => .bl (decide (j < i))) (fun i j => some (decide (j < i))) := od_I0 fun _ _ _ => rfl
theorem od_ge : OpD (K := K) tInt tInt S (of (K := K) tBool S) (rI0 fun i j => .bl (decide (j ≤ i))) (fun i j => some (decide (j ≤ i))) := od_I0 fun _ _ _ => rfl
theorem od_eqI : OpD (K := K) tInt tInt S (of (K := K) tBool S) rEq (fun i j => some (decide (i = j))) := by
  intro x y z e H1 v w d hv hw Q q
  cases e; cases hv; cases hw
  refine ⟨rfl, ?_⟩
  rw [show decide (V.int x = V.int y) = decide (x = y) by simp]
  exact q _ H1 (Same.refl _) rfl
theorem od_neI : OpD (K := K) tInt tInt S (of (K := K) tBool S) rNe (fun i j => some (!decide (i = j))) := by
  intro x y z e H1 v w d hv hw Q q
  cases e; cases hv; cases hw
  refine ⟨rfl, ?_⟩
  rw [show decide (V.int x = V.int y) = decide (x = y) by simp]
  exact q _ H1 (Same.refl _) rfl
theorem od_eqS : OpD (K := K) tStr tStr S (of (K := K) tBool S) rEq (fun i j => some (decide (i = j))) := by
  intro x y z e H1 v w d hv hw Q q
  obtain ⟨rfl, _⟩ := hv; obtain ⟨rfl, _⟩ := hw; cases e
  refine ⟨rfl, ?_⟩
  rw [show decide (V.str x = V.str y) = decide (x = y) by simp]
  exact q _ H1 (Same.refl _) rfl
theorem od_neS : OpD (K := K) tStr tStr S (of (K := K) tBool S) rNe (fun i j => some (!decide (i = j))) := by
  intro x y z e H1 v w d hv hw Q q
  obtain ⟨rfl, _⟩ := hv; obtain ⟨rfl, _⟩ := hw; cases e
  refine ⟨rfl, ?_⟩
  rw [show decide (V.str x = V.str y) = decide (x = y) by simp]
  exact q _ H1 (Same.refl _) rfl
/-- an item of a list, of a tuple -/
theorem od_ixL : OpD (tL a) (K := K) tInt S (of a S) (rIxL K) (fun xs i => atI xs i) := by
  intro x y z e H1 v w d hv hw Q q
  obtain ⟨p, vs, rfl, hp, ha⟩ := hv
  cases hw
  obtain ⟨u, hu, hz⟩ := ha.at e
  exact ⟨p, vs, y, u, rfl, rfl, hp.sq, hu, q u H1 (Same.refl _) hz⟩
theorem od_ixTs : OpD (tTs a) (K := K) tInt S (of a S) (rIxT K) (fun xs i => atI xs i) := by
  intro x y z e H1 v w d hv hw Q q
  obtain ⟨p, vs, rfl, hp, ha⟩ := hv
  cases hw
  obtain ⟨u, hu, hz⟩ := ha.at e
  exact ⟨p, vs, y, u, rfl, rfl, hp.sq, hu, q u H1 (Same.refl _) hz⟩
/-- an item of a pair of alike things -/
def at2 (x : α × α) (i : Int) : Option α := atI [x.1, x.2] i
theorem od_ix2 : OpD (tT2 a a) (K := K) tInt S (of a S) (rIxT K) at2 := by
  intro x y z e H1 v w d hv hw Q q
  obtain ⟨p, u1, u2, rfl, hp, h1, h2⟩ := hv
  cases hw
  obtain ⟨u, hu, hz⟩ := All2.at (F := a.rp S H1) (.cons h1 (.cons h2 .nil)) e
  exact ⟨p, _, y, u, rfl, rfl, hp.sq, hu, q u H1 (Same.refl _) hz⟩
/-- items 0, 1 of tuples by their written places -/
theorem ev_ixT {R : Rl γ} {i : Int} {ra : Option α} {g : α → γ} (ha : Ev S T ta σ H (of a S) ra) (h : ∀ x H v, a.rp S H v x → ∃ p vs u, v = .ref p ∧ SqT K H p vs ∧ atI vs i = some u ∧ R.r H H u (g x)) :
    Ev S T (tOp (rIxT K) ta (tC (.int i))) σ H R (bd ra fun x => some (g x)) := by
  intro z e H1 f1 d Q q
  obtain ⟨x, ex, e⟩ := bd_some e
  cases e
  refine ha x ex H1 f1 d _ fun v H2 s2 hv => ?_
  obtain ⟨p, vs, u, rfl, hp, hu, hz⟩ := h x H2 v hv
  exact ⟨p, vs, i, u, rfl, rfl, hp, hu, q u H2 s2 (R.same s2 hz)⟩
theorem ev_ix20 {ra : Option (α × β)} (ha : Ev S T ta σ H (of (tT2 a b) S) ra) : Ev S T (tOp (rIxT K) ta (tC (.int 0))) σ H (of a S) (bd ra fun x => some x.1) :=
  ev_ixT ha fun x H v ⟨p, u, w, e, h, h1, h2⟩ => ⟨p, _, u, e, h.sq, rfl, h1⟩
theorem ev_ix21 {ra : Option (α × β)} (ha : Ev S T ta σ H (of (tT2 a b) S) ra) : Ev S T (tOp (rIxT K) ta (tC (.int 1))) σ H (of b S) (bd ra fun x => some x.2) :=
  ev_ixT ha fun x H v ⟨p, u, w, e, h, h1, h2⟩ => ⟨p, _, w, e, h.sq, rfl, h2⟩
theorem ev_ixR0 {ra : Option Rat} (ha : Ev S T ta σ H (of (K := K) tRat S) ra) : Ev S T (tOp (rIxT K) ta (tC (.int 0))) σ H (of (K := K) tInt S) (bd ra fun x => some x.num) :=
  ev_ixT ha fun x H v ⟨p, e, h⟩ => ⟨p, _, _, e, h.sq, rfl, rfl⟩
theorem ev_ixR1 {ra : Option Rat} (ha : Ev S T ta σ H (of (K := K) tRat S) ra) : Ev S T (tOp (rIxT K) ta (tC (.int 1))) σ H (of (K := K) tInt S) (bd ra fun x => some (x.den : Int)) :=
  ev_ixT ha fun x H v ⟨p, e, h⟩ => ⟨p, _, _, e, h.sq, rfl, rfl⟩
/-! tests -/
theorem eb_test {r : Option Bool} (h : Ev S T te σ H (of (K := K) tBool S) r) : EvB S T (tTest te) σ H r := fun x ex H1 f d Q q => h x ex H1 f d _ fun v H2 s hv => ⟨x, hv, q H2 s⟩
theorem eb_B {r : Option Bool} (h : Ev S T te σ H (of (K := K) tBool S) r) : EvB S T (tB te) σ H r := fun x ex H1 f d Q q => h x ex H1 f d _ fun v H2 s hv => ⟨x, hv, q H2 s⟩
theorem eb_not {r : Option Bool} (h : EvB S T tt σ H r) : EvB S T (tNot tt) σ H (bd r fun x => some (!x)) := by
  intro z e H1 f1 d Q q
  obtain ⟨x, ex, e⟩ := bd_some e
  cases e
  exact h x ex H1 f1 d _ fun H2 s => q H2 s
theorem eb_and {r u : Option Bool} (h : EvB S T tt σ H r) (h' : EvB S T tu σ H u) : EvB S T (tAnd tt tu) σ H (bd r fun x => if x then u else some false) := by
  intro z e H1 f1 d Q q
  obtain ⟨x, ex, e⟩ := bd_some e
  refine h x ex H1 f1 d _ fun H2 s => ?_
  cases x with
  | true => exact (if_pos rfl).symm ▸ h' z e H2 (f1.trans (Fr.same s)) (d.same s) Q fun H3 s3 => q H3 (s.trans s3)
  | false => cases e; exact q H2 s
theorem eb_or {r u : Option Bool} (h : EvB S T tt σ H r) (h' : EvB S T tu σ H u) : EvB S T (tOr tt tu) σ H (bd r fun x => if x then some true else u) := by
  intro z e H1 f1 d Q q
  obtain ⟨x, ex, e⟩ := bd_some e
  refine h x ex H1 f1 d _ fun H2 s => ?_
  cases x with
  | false => exact h' z e H2 (f1.trans (Fr.same s)) (d.same s) Q fun H3 s3 => q H3 (s.trans s3)
  | true => cases e; exact q H2 s
theorem ev_if {R : Rl γ} {r : Option Bool} {ra rb : Option γ} (h : EvB S T tt σ H r) (ha : Ev S T ta σ H R ra) (hb : Ev S T tb σ H R rb) : Ev S T (tIf tt ta tb) σ H R (bd r fun x => if x then ra else rb) := by
  intro z e H1 f1 d Q q
  obtain ⟨x, ex, e⟩ := bd_some e
  refine h x ex H1 f1 d _ fun H2 s => ?_
  cases x with
  | true => exact ha z e H2 (f1.trans (Fr.same s)) (d.same s) Q fun v H3 s3 hv => q v H3 (s.trans s3) (R.same s hv)
  | false => exact hb z e H2 (f1.trans (Fr.same s)) (d.same s) Q fun v H3 s3 hv => q v H3 (s.trans s3) (R.same s hv)
theorem ev_and {r u : Option Bool} (h : Ev S T ta σ H (of (K := K) tBool S) r) (h' : Ev S T tb σ H (of (K := K) tBool S) u) : Ev S T (tAndV ta tb) σ H (of (K := K) tBool S) (bd r fun x => if x then u else some false) := by
  intro z e H1 f1 d Q q
  obtain ⟨x, ex, e⟩ := bd_some e
  refine h x ex H1 f1 d _ fun v H2 s hv => ⟨x, hv, ?_⟩
  cases x with
  | true => exact h' z e H2 (f1.trans (Fr.same s)) (d.same s) Q fun v H3 s3 hv => q v H3 (s.trans s3) hv
  | false => cases e; exact q _ H2 s rfl
theorem ev_or {r u : Option Bool} (h : Ev S T ta σ H (of (K := K) tBool S) r) (h' : Ev S T tb σ H (of (K := K) tBool S) u) : Ev S T (tOrV ta tb) σ H (of (K := K) tBool S) (bd r fun x => if x then some true else u) := by
  intro z e H1 f1 d Q q
  obtain ⟨x, ex, e⟩ := bd_some e
  refine h x ex H1 f1 d _ fun v H2 s hv => ⟨x, hv, ?_⟩
  cases x with
  | false => exact h' z e H2 (f1.trans (Fr.same s)) (d.same s) Q fun v H3 s3 hv => q v H3 (s.trans s3) hv
  | true => cases e; exact q _ H2 s rfl
theorem ev_not {r : Option Bool} (h : Ev S T ta σ H (of (K := K) tBool S) r) : Ev S T (tNotV ta) σ H (of (K := K) tBool S) (bd r fun x => some (!x)) := by
  intro z e H1 f1 d Q q
  obtain ⟨x, ex, e⟩ := bd_some e
  cases e
  exact h x ex H1 f1 d _ fun v H2 s hv => ⟨x, hv, q _ H2 s rfl⟩

/-! ### arguments and calls -/
structure TyA (K : PySem.W.Frag) (α : Type) where
  rp : AS → Hp → List V → α → Prop
  mono : ∀ {S H H' v x}, Fr S H H' → rp S H v x → rp S H' v x
def aNil : TyA K Unit := ⟨fun _ _ vs _ => vs = [], fun _ h => h⟩
def aCons (c : Ty K α) (t : TyA K β) : TyA K (α × β) := ⟨fun S H vs x => ∃ v r, vs = v :: r ∧ c.rp S H v x.1 ∧ t.rp S H r x.2, fun f ⟨v, r, e, h, h'⟩ => ⟨v, r, e, c.mono f h, t.mono f h'⟩⟩
def EvA (S T : AS) (ta : TA) (σ : St) (H : Hp) (t : TyA K α) (r : Option α) : Prop :=
  ∀ x, r = some x → ∀ H1, Fr T H H1 → Dom S H1 → ∀ Q : List V → Hp → Prop, (∀ vs H2, Same H1 H2 → t.rp S H2 vs x → Q vs H2) → ta σ H1 Q
theorem ea_nil : EvA S T tNil σ H (K := K) aNil (some ()) := fun _ e H1 f d Q q => q [] H1 (Same.refl _) rfl
theorem ea_cons {tr : TA} {t : TyA K β} {ra : Option α} {rr : Option β} (h : Ev S T ta σ H (of a S) ra) (hr : EvA S T tr σ H t rr) : EvA S T (tCons ta tr) σ H (aCons a t) (bd ra fun x => bd rr fun y => some (x, y)) := by
  intro z e H1 f1 d Q q
  obtain ⟨x, ex, e⟩ := bd_some e
  obtain ⟨y, ey, e⟩ := bd_some e
  cases e
  exact h x ex H1 f1 d _ fun v H2 s2 hv => hr y ey H2 (f1.trans (Fr.same s2)) (d.same s2) _ fun vs H3 s3 hw => q _ H3 (s2.trans s3) ⟨v, vs, rfl, a.mono (Fr.same s3) hv, hw⟩
/-- the promise of a def that changes nothing -/
def spF (t : TyA K α) (R : AS → Rl γ) (f : α → Option γ) : Sp := fun vs H Q _ => ∃ S x z, Dom S H ∧ t.rp S H vs x ∧ f x = some z ∧ ∀ u H', Same H H' → (R S).r H H' u z → Q u H'
theorem ev_call {ta : TA} {t : TyA K α} {R : AS → Rl γ} {f : α → Option γ} {r : Option α} {E : XK} (h : EvA S T ta σ H t r) : Ev S T (tCall (spF t R f) [] E ta) σ H (R S) (bd r f) := by
  intro z e H1 f1 d Q q
  obtain ⟨x, ex, e⟩ := bd_some e
  refine h x ex H1 f1 d _ fun vs H2 s2 hv => ⟨S, x, z, d.same s2, ?_, e, fun u H' s hu => q u H' (s2.trans s) ((R S).same s2 hu)⟩
  rw [List.append_nil]
  exact hv
/-! displays -/
theorem ev_tup2 {ra : Option α} {rb : Option β} (ha : Ev S T ta σ H (of a S) ra) (hb : Ev S T tb σ H (of b S) rb) : Ev S T (tTup (tCons ta (tCons tb tNil))) σ H (of (tT2 a b) S) (bd ra fun x => bd rb fun y => some (x, y)) := by
  intro z e H1 f1 d Q q
  obtain ⟨x, ex, e⟩ := bd_some e
  obtain ⟨y, ey, e⟩ := bd_some e
  cases e
  refine ha x ex H1 f1 d _ fun v H2 s2 hv => hb y ey H2 (f1.trans (Fr.same s2)) (d.same s2) _ fun w H3 s3 hw => ⟨(by show 2 ≤ sizeLine; decide), fun p hp => ?_⟩
  have s4 := same_new (o := .tup [v, w]) hp
  exact q _ _ (s2.trans (s3.trans s4)) ⟨p, v, w, rfl, .inl ⟨.inl upd_same, ((d.same s2).same s3).not_mem hp⟩, a.mono (Fr.same (s3.trans s4)) hv, b.mono (Fr.same s4) hw⟩
end
end M

namespace M
open PySem L2
section
variable {K : PySem.W.Frag} {α β γ δ ε ρ : Type} {S T : AS} {σ : St} {H : Hp} {ta tb te : TE} {tt tu : TT} {a : Ty K α} {b : Ty K β} {c : Ty K γ} {D : Ends} {u t1 t2 : TS}
theorem if_t {A B : Option α} {y : α} (h : (if true = true then A else B) = some y) : A = some y := h
theorem if_f {A B : Option α} {y : α} (h : (if false = true then A else B) = some y) : B = some y := h
theorem q_asg {R : Rl α} {r : Option α} {x : α} {i : Nat} (d : Dom S H) (h : Ev S T te σ H R r) (e : r = some x) (k : ∀ v H1, Same H H1 → R.r H H1 v x → u D (σ.set i (some v)) H1) : tSeq (tAsg te (gName i)) u D σ H := h x e H (Fr.refl _) d _ k
theorem l_asg {R : Rl α} {r : Option α} {x : α} {i : Nat} (d : Dom S H) (h : Ev S T te σ H R r) (e : r = some x) (k : ∀ v H1, Same H H1 → R.r H H1 v x → D.nx (σ.set i (some v)) H1) : tAsg te (gName i) D σ H := h x e H (Fr.refl _) d _ k
theorem q_ret {R : Rl α} {r : Option α} {x : α} (d : Dom S H) (h : Ev S T te σ H R r) (e : r = some x) (k : ∀ v H1, Same H H1 → R.r H H1 v x → D.rt v H1) : tRet te D σ H := h x e H (Fr.refl _) d _ k
theorem l_if {r : Option Bool} {b : Bool} (d : Dom S H) (h : EvB S T tt σ H r) (e : r = some b) (k1 : b = true → ∀ H1, Same H H1 → t1 D σ H1) (k2 : b = false → ∀ H1, Same H H1 → t2 D σ H1) : tIfS tt t1 t2 D σ H := h b e H (Fr.refl _) d _ fun H1 s => by
  cases b with
  | true => exact k1 rfl H1 s
  | false => exact k2 rfl H1 s
theorem q_if {r : Option Bool} {b : Bool} (d : Dom S H) (h : EvB S T tt σ H r) (e : r = some b) (k1 : b = true → ∀ H1, Same H H1 → t1 { D with nx := u D } σ H1) (k2 : b = false → ∀ H1, Same H H1 → t2 { D with nx := u D } σ H1) : tSeq (tIfS tt t1 t2) u D σ H := l_if (D := { D with nx := u D }) d h e k1 k2
theorem q_next {u : TS} {D : Ends} {σ : St} {H : Hp} (h : u D σ H) : tNext { D with nx := u D } σ H := h
theorem l_next (h : D.nx σ H) : tNext D σ H := h
theorem seq_by {t u : TS} (Pv : St → Hp → Prop) (h2 : ∀ σ H, Pv σ H → u D σ H) (h1 : (∀ σ H, Pv σ H → u D σ H) → t { D with nx := u D } σ H) : tSeq t u D σ H := h1 h2
/-- two names at once: a, b = e, f -/
theorem q_par {i j : Nat} {ra : Option α} {rb : Option β} {x : α} {y : β} (d : Dom S H) (ha : Ev S T ta σ H (of a S) ra) (ea : ra = some x) (hb : Ev S T tb σ H (of b S) rb) (eb : rb = some y) (k : ∀ v w H1, Same H H1 → a.rp S H1 v x → b.rp S H1 w y → u D ((σ.set i (some v)).set j (some w)) H1) :
    tSeq (tPar i j (tCons ta (tCons tb tNil))) u D σ H := ha x ea H (Fr.refl _) d _ fun v H1 s1 hv => hb y eb H1 (Fr.same s1) (d.same s1) _ fun w H2 s2 hw => ⟨v, w, rfl, k v w H2 (s1.trans s2) (a.mono (Fr.same s2) hv) hw⟩

theorem q_par2 {i j : Nat} {ra : Option α} {rb : Option β} {x : α} {y : β} (d : Dom S H) (ha : Ev S T ta σ H (of a S) ra) (ea : ra = some x) (hb : Ev S T tb σ H (of b S) rb) (eb : rb = some y) (k : ∀ v w H1, Same H H1 → a.rp S H1 v x → b.rp S H1 w y → u D ((σ.set i (some v)).set j (some w)) H1) :
    tSeq (tAsg (tTup (tCons ta (tCons tb tNil))) (gTup K 2 (gCons (gName i) (gCons (gName j) gNil)))) u D σ H := ha x ea H (Fr.refl _) d _ fun v H1 s1 hv => hb y eb H1 (Fr.same s1) (d.same s1) _ fun w H2 s2 hw => ⟨(by show 2 ≤ sizeLine; decide), fun p hp =>
  ⟨p, _, rfl, .inl (.inl upd_same), rfl, v, _, rfl, w, _, rfl, rfl, k v w _ ((s1.trans s2).trans (same_new hp)) (a.mono (Fr.same (s2.trans (same_new hp))) hv) (b.mono (Fr.same (same_new hp)) hw)⟩⟩
/-! ### loops -/
/-- one turn's end: go on, or tell y -/
inductive Ct (ρ σ : Type) where
  | go (s : σ) | ret (y : ρ) | brk (s : σ)
def loopC (f : δ → α → Option (Ct ρ δ)) : List α → δ → Option (Ct ρ δ)
  | [], s => some (.go s)
  | x :: xs, s => (f s x).bind fun r => match r with | .go s' => loopC f xs s' | .ret y => some (.ret y) | .brk s' => some (.go s')
def rngL (lo : Int) (n : Nat) : List Int := (List.range n).map fun (i : Nat) => lo + (i : Int)
def rngP (i : Int) : Bool := Nat.ble i.natAbs 4611686018427387903
theorem rngP_le {i : Int} (h : rngP i = true) : -(2 ^ 62) ≤ i ∧ i < 2 ^ 62 := by
  have h2 : i.natAbs ≤ 4611686018427387903 := Nat.le_of_ble_eq_true h
  omega
def rng1? (n : Int) : Option (List Int) := if rngP n then some (rngL 0 n.toNat) else none
def rng2? (lo n : Int) : Option (List Int) := if rngP lo && rngP n then some (rngL lo (n - lo).toNat) else none
/-- what is walked: xs, by their values at the heap H0, while nothing of it changes -/
structure Wk (J : It) (a : Ty K α) (S : AS) (H0 : Hp) (xs : List α) : Prop where
  go : ∀ H' i, Fr S H0 H' → i < xs.length → J.go i H'
  yl : ∀ H' i v H'', Fr S H0 H' → J.yld i H' v H'' → ∀ y, xs[i]? = some y → H'' = H' ∧ a.rp S H0 v y
  st : ∀ H' i, Fr S H0 H' → xs.length ≤ i → J.stop i H'
def Sr (S T : AS) (wi : TI) (σ : St) (H : Hp) (a : Ty K α) (r : Option (List α)) : Prop :=
  ∀ xs, r = some xs → ∀ H1, Fr T H H1 → Dom S H1 → ∀ R : It → Hp → Prop, (∀ J H2, Same H1 H2 → Wk J a S H2 xs → R J H2) → wi σ H1 R
theorem wk_list {p : Addr} {vs : List V} {xs : List α} {S : AS} {H : Hp} (hp : nL K S H p vs) (ha : All2 (a.rp S H) vs xs) : Wk (Itl K p) a S H xs where
  go H' i f hi := by
    obtain ⟨v, hv, _⟩ := ha.get i (List.getElem?_eq_getElem hi)
    exact ⟨vs, v, (hp.mono f).sq, hv⟩
  yl H' i v H'' f h y hy := by
    obtain ⟨w, hw, hr⟩ := ha.get i hy
    obtain ⟨e, hx⟩ := h
    have := hx vs (hp.mono f).sq
    rw [hw] at this
    cases this
    exact ⟨e, hr⟩
  st H' i f hi := ⟨vs, (hp.mono f).sq, by rw [ha.len]; exact hi⟩
theorem wk_tup {p : Addr} {vs : List V} {xs : List α} {S : AS} {H : Hp} (hp : nT K S H p vs) (ha : All2 (a.rp S H) vs xs) : Wk (Itt K p) a S H xs where
  go H' i f hi := by
    obtain ⟨v, hv, _⟩ := ha.get i (List.getElem?_eq_getElem hi)
    exact ⟨vs, v, (hp.mono f).sq, hv⟩
  yl H' i v H'' f h y hy := by
    obtain ⟨w, hw, hr⟩ := ha.get i hy
    obtain ⟨e, hx⟩ := h
    have := hx vs (hp.mono f).sq
    rw [hw] at this
    cases this
    exact ⟨e, hr⟩
  st H' i f hi := ⟨vs, (hp.mono f).sq, by rw [ha.len]; exact hi⟩
theorem wk_rng {lo : Int} {n : Nat} {S : AS} {H : Hp} : Wk (Itr lo n) (tInt (K := K)) S H (rngL lo n) where
  go H' i f hi := by
    show i < n
    simpa [rngL] using hi
  yl H' i v H'' f h y hy := by
    obtain ⟨e, hx⟩ := h
    refine ⟨e, ?_⟩
    unfold rngL at hy
    rw [List.getElem?_map] at hy
    cases q : (List.range n)[i]? with
    | none => rw [q] at hy; cases hy
    | some k =>
      rw [q] at hy
      cases hy
      have : k = i := by
        have := (List.getElem?_eq_some_iff.mp q).2
        simp at this
        omega
      subst this
      exact hx
  st H' i f hi := by
    show n ≤ i
    simpa [rngL] using hi
theorem sr_list {tl : TE} {r : Option (List α)} (h : Ev S T tl σ H (of (tL a) S) r) : Sr S T (iList K tl) σ H a r := fun xs e H1 f d R q =>
  h xs e H1 f d _ fun v H2 s ⟨p, vs, ev, hp, ha⟩ => ⟨p, ev, ⟨vs, hp.sq⟩, q _ H2 s (wk_list hp ha)⟩
theorem sr_tup {tl : TE} {r : Option (List α)} (h : Ev S T tl σ H (of (tTs a) S) r) : Sr S T (iTup K tl) σ H a r := fun xs e H1 f d R q =>
  h xs e H1 f d _ fun v H2 s ⟨p, vs, ev, hp, ha⟩ => ⟨p, ev, ⟨vs, hp.sq⟩, q _ H2 s (wk_tup hp ha)⟩
theorem sr_t2 {tl : TE} {r : Option (α × α)} (h : Ev S T tl σ H (of (tT2 a a) S) r) : Sr S T (iTup K tl) σ H a (bd r fun x => some [x.1, x.2]) := fun xs e H1 f d R q => by
  obtain ⟨x, ex, e⟩ := bd_some e
  cases e
  exact h x ex H1 f d _ fun v H2 s ⟨p, u, w, ev, hp, h1, h2⟩ => ⟨p, ev, ⟨_, hp.sq⟩, q _ H2 s (wk_tup hp (.cons h1 (.cons h2 .nil)))⟩
theorem sr_r1 {te : TE} {r : Option Int} (h : Ev S T te σ H (of (K := K) tInt S) r) : Sr S T (iRng1 (tCons te tNil)) σ H (tInt (K := K)) (bd r rng1?) := fun xs e H1 f d R q => by
  obtain ⟨n, en, e⟩ := bd_some e
  unfold rng1? at e
  split at e
  · rename_i hn
    cases e
    have hb := rngP_le hn
    refine h n en H1 f d _ fun v H2 s hv => ?_
    cases hv
    exact ⟨n, rfl, hb.1, hb.2, q _ H2 s wk_rng⟩
  · cases e
theorem sr_r2 {te tg : TE} {r r' : Option Int} (h : Ev S T te σ H (of (K := K) tInt S) r) (h' : Ev S T tg σ H (of (K := K) tInt S) r') : Sr S T (iRng2 (tCons te (tCons tg tNil))) σ H (tInt (K := K)) (bd r fun x => bd r' fun y => rng2? x y) := fun xs e H1 f d R q => by
  obtain ⟨lo, el, e⟩ := bd_some e
  obtain ⟨n, en, e⟩ := bd_some e
  unfold rng2? at e
  split at e
  · rename_i hn
    cases e
    rw [Bool.and_eq_true] at hn
    have hb := rngP_le hn.1
    have hc := rngP_le hn.2
    refine h lo el H1 f d _ fun v H2 s hv => h' n en H2 (f.trans (Fr.same s)) (d.same s) _ fun v' H3 s3 hv' => ?_
    cases hv
    cases hv'
    exact ⟨lo, n, rfl, ⟨hb.1, hb.2, hc.1, hc.2⟩, q _ H3 (s.trans s3) wk_rng⟩
  · cases e
/-- a walk; I: what is known of the state at each turn -/
theorem for_s {wi : TI} {j : Nat} {tb : TS} {r : Option (List α)} {xs : List α} {s0 : δ} {f : δ → α → Option (Ct ρ δ)} {res : Ct ρ δ} (d : Dom S H) (h : Sr S T wi σ H a r) (e : r = some xs) (hf : loopC f xs s0 = some res)
    (I : δ → St → Hp → Prop) (h0 : ∀ H1, Same H H1 → I s0 σ H1)
    (step : (∀ s σ' H', res = .go s → I s σ' H' → D.nx σ' H') → ∀ (s : δ) (x : α) (cr : Ct ρ δ) (v : V) (σ' : St) (H' : Hp), I s σ' H' → a.rp S H' v x → x ∈ xs → f s x = some cr → (∀ y, cr = .ret y → res = .ret y) → (∀ s', cr = .brk s' → res = .go s') →
      tb { D with nx := fun σ2 H2 => ∃ s', cr = .go s' ∧ Fr S H' H2 ∧ I s' σ2 H2, ct := fun σ2 H2 => ∃ s', cr = .go s' ∧ Fr S H' H2 ∧ I s' σ2 H2, bk := D.nx } (σ'.set j (some v)) H')
    (done : ∀ s σ' H', res = .go s → I s σ' H' → D.nx σ' H') : tFor wi (gName j) tb D σ H := by
  refine h xs e H (Fr.refl _) d _ fun J H1 s1 wk => ?_
  refine ⟨fun i m σ' H' => m = xs.length - i ∧ i ≤ xs.length ∧ Fr S H1 H' ∧ ∃ s, I s σ' H' ∧ loopC f (xs.drop i) s = some res, ⟨_, rfl, Nat.zero_le _, Fr.refl _, s0, h0 H1 s1, hf⟩, ?_⟩
  rintro i m σ' H' ⟨rfl, hi, fr, s, hI, hl⟩
  by_cases c : i < xs.length
  · right
    rw [List.drop_eq_getElem_cons c] at hl
    simp only [loopC] at hl
    cases q : f s xs[i] with
    | none => rw [q] at hl; cases hl
    | some cr =>
      rw [q] at hl
      refine ⟨wk.go H' i fr c, fun σ2 H2 => ∃ s', cr = .go s' ∧ Fr S H' H2 ∧ I s' σ2 H2, ?_, ?_⟩
      · rintro σ2 H2 ⟨s', rfl, f2, hI'⟩
        exact ⟨xs.length - (i + 1), by omega, rfl, by omega, fr.trans f2, s', hI', hl⟩
      · intro v H2 hy
        obtain ⟨rfl, hv⟩ := wk.yl H' i v H2 fr hy _ (List.getElem?_eq_getElem c)
        exact step done s xs[i] cr v σ' _ hI (a.mono fr hv) (List.getElem_mem c) q (fun y ey => by subst ey; cases hl; rfl) (fun s' ey => by subst ey; cases hl; rfl)
  · left
    refine ⟨wk.st H' i fr (by omega), ?_⟩
    rw [List.drop_eq_nil_of_le (by omega)] at hl
    cases hl
    exact done s σ' H' rfl hI
theorem q_for_s {wi : TI} {j : Nat} {tb : TS} {r : Option (List α)} {xs : List α} {s0 : δ} {f : δ → α → Option (Ct ρ δ)} {res : Ct ρ δ} (d : Dom S H) (h : Sr S T wi σ H a r) (e : r = some xs) (hf : loopC f xs s0 = some res)
    (I : δ → St → Hp → Prop) (h0 : ∀ H1, Same H H1 → I s0 σ H1)
    (step : (∀ s σ' H', res = .go s → I s σ' H' → u D σ' H') → ∀ (s : δ) (x : α) (cr : Ct ρ δ) (v : V) (σ' : St) (H' : Hp), I s σ' H' → a.rp S H' v x → x ∈ xs → f s x = some cr → (∀ y, cr = .ret y → res = .ret y) → (∀ s', cr = .brk s' → res = .go s') →
      tb { D with nx := fun σ2 H2 => ∃ s', cr = .go s' ∧ Fr S H' H2 ∧ I s' σ2 H2, ct := fun σ2 H2 => ∃ s', cr = .go s' ∧ Fr S H' H2 ∧ I s' σ2 H2, bk := u D } (σ'.set j (some v)) H')
    (done : ∀ s σ' H', res = .go s → I s σ' H' → u D σ' H') : tSeq (tFor wi (gName j) tb) u D σ H := for_s (D := { D with nx := u D }) d h e hf I h0 step done
/-! slices of lists -/
def cutD (xs : List α) (lo hi : Option Int) : List α := (xs.drop (HT.sIx xs.length 0 lo)).take (HT.sIx xs.length xs.length hi - HT.sIx xs.length 0 lo)
theorem All2.cut {F : V → α → Prop} {vs : List V} {xs : List α} (h : All2 F vs xs) (lo hi : Option Int) : All2 F (cutV vs lo hi) (cutD xs lo hi) := by
  unfold cutV cutD
  rw [h.len]
  exact (h.drop _).take _
def EvO (S T : AS) (to : TO) (σ : St) (H : Hp) (r : Option (Option Int)) : Prop :=
  ∀ x, r = some x → ∀ H1, Fr T H H1 → Dom S H1 → ∀ Q : Option Int → Hp → Prop, (∀ H2, Same H1 H2 → Q x H2) → to σ H1 Q
theorem eo_none : EvO S T tNoPart σ H (some none) := fun x e H1 f d Q q => by cases e; exact q H1 (Same.refl _)
theorem eo_some {r : Option Int} (h : Ev S T te σ H (of (K := K) tInt S) r) : EvO S T (tPart te) σ H (bd r fun i => some (some i)) := fun x e H1 f d Q q => by
  obtain ⟨i, ei, e⟩ := bd_some e
  cases e
  exact h i ei H1 f d _ fun v H2 s hv => ⟨i, hv, q H2 s⟩
theorem ev_slL {tl th : TO} {ra : Option (List α)} {rl rh : Option (Option Int)} (ha : Ev S T ta σ H (of (tL a) S) ra) (hl : EvO S T tl σ H rl) (hh : EvO S T th σ H rh) :
    Ev S T (tSl (rSlL K) ta tl th) σ H (nw a S) (bd ra fun xs => bd rl fun l => bd rh fun h => some (cutD xs l h)) := by
  intro z e H1 f1 d Q q
  obtain ⟨xs, ex, e⟩ := bd_some e
  obtain ⟨l, el, e⟩ := bd_some e
  obtain ⟨h, eh, e⟩ := bd_some e
  cases e
  refine ha xs ex H1 f1 d _ fun v H2 s2 hv => hl l el H2 (f1.trans (Fr.same s2)) (d.same s2) _ fun H3 s3 => hh h eh H3 (f1.trans (Fr.same (s2.trans s3))) (d.same (s2.trans s3)) _ fun H4 s4 => ?_
  obtain ⟨p, vs, rfl, hp, hvs⟩ := (tL a).mono (Fr.same (s3.trans s4)) hv
  refine ⟨p, vs, rfl, hp.sq, fun p' hp' => q _ _ ((s2.trans (s3.trans s4)).trans (same_new hp')) ⟨p', rfl, (s2.trans (s3.trans s4)).free hp', _, upd_same, ?_⟩⟩
  exact (hvs.cut l h).imp fun _ _ hh => a.mono (Fr.same (same_new hp')) (a.ext hp' hh)
end
end M

namespace M
open PySem L2
section
variable {K : PySem.W.Frag} {α β γ δ ε ρ : Type} {S T : AS} {σ : St} {H : Hp} {ta tb te : TE} {tt tu : TT} {a : Ty K α} {b : Ty K β} {c : Ty K γ} {D : Ends} {u t1 t2 : TS}
/-! ### ratios -/
/-- a pair of numbers as a ratio -/
def p2r (x : Int × Int) : Option Rat := if (mkRat x.1 x.2.toNat).num = x.1 ∧ ((mkRat x.1 x.2.toNat).den : Int) = x.2 then some (mkRat x.1 x.2.toNat) else none
theorem p2r_rat (q : Rat) : p2r (q.num, (q.den : Int)) = some q := by
  unfold p2r
  simp only [Int.toNat_natCast, Rat.mkRat_self, and_self, if_true]
theorem ev_p2r {r : Option (Int × Int)} (h : Ev S T te σ H (of (K := K) (tT2 tInt tInt) S) r) : Ev S T te σ H (of (K := K) tRat S) (bd r p2r) := ev_as h fun x y e H1 H2 v d ⟨p, u, w, ev, hp, h1, h2⟩ => by
  unfold p2r at e
  split at e
  · rename_i hc
    cases e
    refine ⟨p, ev, ?_⟩
    rw [hc.1, hc.2, ← h1, ← h2]
    exact hp
  · cases e
/-- a ratio as a pair of numbers -/
theorem ev_r2p {r : Option Rat} (h : Ev S T te σ H (of (K := K) tRat S) r) : Ev S T te σ H (of (K := K) (tT2 tInt tInt) S) (bd r fun q => some (q.num, (q.den : Int))) := ev_as h fun x y e H1 H2 v d ⟨p, ev, hp⟩ => by
  cases e
  exact ⟨p, _, _, ev, hp, rfl, rfl⟩
/-! ints -/
theorem ev_neg {r : Option Int} (h : Ev S T te σ H (of (K := K) tInt S) r) : Ev S T (tUn (rU fun i => .int (-i)) te) σ H (of (K := K) tInt S) (bd r fun x => some (-x)) := by
  intro z e H1 f1 d Q q
  obtain ⟨x, ex, e⟩ := bd_some e
  cases e
  exact h x ex H1 f1 d _ fun v H2 s hv => ⟨x, hv, q _ H2 s rfl⟩
theorem ev_abs {r : Option Int} (h : Ev S T te σ H (of (K := K) tInt S) r) : Ev S T (tCB (fun xs H Q => ∃ i, xs = [.int i] ∧ Q (.int (if i < 0 then -i else i)) H) (tCons te tNil)) σ H (of (K := K) tInt S) (bd r fun x => some ((x.natAbs : Nat) : Int)) := by
  intro z e H1 f1 d Q q
  obtain ⟨x, ex, e⟩ := bd_some e
  cases e
  refine h x ex H1 f1 d _ fun v H2 s hv => ?_
  cases hv
  exact ⟨x, rfl, q _ H2 s (by show V.int _ = V.int _; congr 1; split <;> omega)⟩
def fdivP (j : Int) : Bool := decide (j ≠ 0 ∧ j.natAbs.log2 < 9000)
def fdiv? (i j : Int) : Option Int := if fdivP j then some (i.fdiv j) else none
/-! len -/
theorem ev_lenL {r : Option (List α)} (h : Ev S T te σ H (of (tL a) S) r) : Ev S T (tCB (fun xs H Q => ∃ p ys, xs = [.ref p] ∧ (SqL K H p ys ∨ SqT K H p ys) ∧ Q (.int ys.length) H) (tCons te tNil)) σ H (of (K := K) tInt S) (bd r fun x => some (x.length : Int)) := by
  intro z e H1 f1 d Q q
  obtain ⟨x, ex, e⟩ := bd_some e
  cases e
  refine h x ex H1 f1 d _ fun v H2 s hv => ?_
  obtain ⟨p, vs, rfl, hp, ha⟩ := hv
  exact ⟨p, vs, rfl, .inl hp.sq, q _ H2 s (by show V.int _ = V.int _; rw [ha.len])⟩
theorem ev_lenTs {r : Option (List α)} (h : Ev S T te σ H (of (tTs a) S) r) : Ev S T (tCB (fun xs H Q => ∃ p ys, xs = [.ref p] ∧ (SqL K H p ys ∨ SqT K H p ys) ∧ Q (.int ys.length) H) (tCons te tNil)) σ H (of (K := K) tInt S) (bd r fun x => some (x.length : Int)) := by
  intro z e H1 f1 d Q q
  obtain ⟨x, ex, e⟩ := bd_some e
  cases e
  refine h x ex H1 f1 d _ fun v H2 s hv => ?_
  obtain ⟨p, vs, rfl, hp, ha⟩ := hv
  exact ⟨p, vs, rfl, .inr hp.sq, q _ H2 s (by show V.int _ = V.int _; rw [ha.len])⟩
/-! == of things by what they stand for -/
structure TyD (a : Ty K α) where
  dt : α → PyData
  dep : Nat
  dp : ∀ {S H v x}, a.rp S H v x → Dp K H v (dt x)
  shp : ∀ {S H v x}, a.rp S H v x → PyData.canLay0 (dt x) = true
  hd : ∀ x, PyData.depth (dt x) ≤ dep
  eqv : ∀ x y, PyData.eqv (dt x) (dt y) = true ↔ x = y
def dInt : TyD (K := K) tInt := ⟨.int, 0, fun h => by cases h; exact .int _, fun _ => rfl, fun _ => Nat.le_refl _, fun x y => by simp [PyData.eqv]⟩
def dBool : TyD (K := K) tBool := ⟨.bool, 0, fun h => by cases h; exact .bl _, fun _ => rfl, fun _ => Nat.le_refl _, fun x y => by simp [PyData.eqv]⟩
def dStr : TyD (K := K) tStr := ⟨.str, 0, fun h => by rw [h.1]; exact .str _, fun h => h.2, fun _ => Nat.le_refl _, fun x y => by simp [PyData.eqv]⟩
def dNone : TyD (K := K) tNone := ⟨fun _ => .none, 0, fun h => by cases h; exact .non, fun _ => rfl, fun _ => Nat.le_refl _, fun x y => by simp [PyData.eqv]⟩
theorem dpAll {a : Ty K α} (d : TyD a) {S : AS} {H : Hp} : ∀ {vs : List V} {xs : List α}, All2 (a.rp S H) vs xs → DpAll K H vs (xs.map d.dt)
  | _, _, .nil => .nil
  | _, _, .cons h r => .cons (d.dp h) (dpAll d r)
theorem shpAll {a : Ty K α} (d : TyD a) {S : AS} {H : Hp} : ∀ {vs : List V} {xs : List α}, All2 (a.rp S H) vs xs → PyData.canLayAll0 (xs.map d.dt) = true
  | _, _, .nil => rfl
  | _, x :: r, .cons h q => by
    show (PyData.canLay0 (d.dt x) && PyData.canLayAll0 (r.map d.dt)) = true
    rw [d.shp h, shpAll d q]
    rfl
theorem depAll {a : Ty K α} (d : TyD a) : ∀ xs : List α, PyData.depthAll (xs.map d.dt) ≤ d.dep
  | [] => Nat.zero_le _
  | x :: r => by
    show max (PyData.depth (d.dt x)) (PyData.depthAll (r.map d.dt)) ≤ d.dep
    exact Nat.max_le.mpr ⟨d.hd x, depAll d r⟩
theorem eqvAll {a : Ty K α} (d : TyD a) : ∀ xs ys : List α, PyData.eqvAll (xs.map d.dt) (ys.map d.dt) = true ↔ xs = ys
  | [], [] => by simp [PyData.eqvAll]
  | x :: r, [] => by simp [PyData.eqvAll]
  | [], y :: r => by simp [PyData.eqvAll]
  | x :: r, y :: q => by
    show (PyData.eqv (d.dt x) (d.dt y) && PyData.eqvAll (r.map d.dt) (q.map d.dt)) = true ↔ _
    rw [Bool.and_eq_true, d.eqv, eqvAll d r q]
    simp
def dL {a : Ty K α} (d : TyD a) : TyD (tL a) := ⟨fun xs => .list (xs.map d.dt), d.dep + 1, fun ⟨p, vs, e, hp, h⟩ => by subst e; exact .lst hp.sq (dpAll d h), fun ⟨p, vs, e, hp, h⟩ => shpAll d h, fun x => Nat.succ_le_succ (depAll d x), fun x y => eqvAll d x y⟩
def dTs {a : Ty K α} (d : TyD a) : TyD (tTs a) := ⟨fun xs => .tuple (xs.map d.dt), d.dep + 1, fun ⟨p, vs, e, hp, h⟩ => by subst e; exact .tup hp.sq (dpAll d h), fun ⟨p, vs, e, hp, h⟩ => shpAll d h, fun x => Nat.succ_le_succ (depAll d x), fun x y => eqvAll d x y⟩
def dT2 {a : Ty K α} {b : Ty K β} (d : TyD a) (e : TyD b) : TyD (tT2 a b) := ⟨fun x => .tuple [d.dt x.1, e.dt x.2], max d.dep e.dep + 1, fun ⟨p, u, w, z, hp, h1, h2⟩ => by subst z; exact .tup hp.sq (.cons (d.dp h1) (.cons (e.dp h2) .nil)),
  fun {S H v x} ⟨p, u, w, z, hp, h1, h2⟩ => by
    show (PyData.canLay0 (d.dt x.1) && (PyData.canLay0 (e.dt x.2) && true)) = true
    rw [d.shp h1, e.shp h2]
    rfl,
  fun x => by
    show max (PyData.depth (d.dt x.1)) (max (PyData.depth (e.dt x.2)) 0) + 1 ≤ _
    have h1 := d.hd x.1
    have h2 := e.hd x.2
    omega,
  fun x y => by
    show (PyData.eqv (d.dt x.1) (d.dt y.1) && (PyData.eqv (e.dt x.2) (e.dt y.2) && true)) = true ↔ _
    rw [Bool.and_true, Bool.and_eq_true, d.eqv, e.eqv]
    exact ⟨fun h => Prod.ext h.1 h.2, fun h => by subst h; exact ⟨rfl, rfl⟩⟩⟩
def dRat : TyD (K := K) tRat := ⟨fun q => .tuple [.int q.num, .int (q.den : Int)], 1, fun ⟨p, z, hp⟩ => by subst z; exact .tup hp.sq (.cons (.int _) (.cons (.int _) .nil)),
  fun _ => rfl, fun x => by show max 0 (max 0 0) + 1 ≤ 1; decide,
  fun x y => by
    show ((x.num == y.num) && (((x.den : Int) == (y.den : Int)) && true)) = true ↔ _
    rw [Bool.and_true, Bool.and_eq_true, beq_iff_eq, beq_iff_eq]
    exact ⟨fun h => Rat.ext h.1 (by omega), fun h => by subst h; exact ⟨rfl, rfl⟩⟩⟩
abbrev dSpot : TyD (K := K) tSpot := dT2 dRat dRat
theorem TyD.shaped {a : Ty K α} (d : TyD a) (h : d.dep ≤ 64) {S : AS} {H : Hp} {v : V} {x : α} (r : a.rp S H v x) : SeqAt.shaped (d.dt x) = true := by
  unfold SeqAt.shaped
  rw [d.shp r, Bool.true_and]
  exact decide_eq_true (Nat.le_trans (d.hd x) h)
theorem TyD.dec {a : Ty K α} [DecidableEq α] (d : TyD a) (x y : α) : PyData.eqv (d.dt x) (d.dt y) = decide (x = y) := by
  by_cases h : x = y
  · rw [(d.eqv x y).mpr h, decide_eq_true h]
  · rw [decide_eq_false h]
    cases q : PyData.eqv (d.dt x) (d.dt y) with
    | false => rfl
    | true => exact absurd ((d.eqv x y).mp q) h
theorem od_eqD {a : Ty K α} [DecidableEq α] (d : TyD a) (hd : d.dep ≤ 64) : OpD a a S (of (K := K) tBool S) (rEqD K) (fun x y => some (decide (x = y))) := by
  intro x y z e H1 v w dm hv hw Q q
  cases e
  refine ⟨_, _, d.dp hv, d.dp hw, d.shaped hd hv, d.shaped hd hw, ?_⟩
  rw [d.dec]
  exact q _ H1 (Same.refl _) rfl
theorem od_neD {a : Ty K α} [DecidableEq α] (d : TyD a) (hd : d.dep ≤ 64) : OpD a a S (of (K := K) tBool S) (rNeD K) (fun x y => some (!decide (x = y))) := by
  intro x y z e H1 v w dm hv hw Q q
  cases e
  refine ⟨_, _, d.dp hv, d.dp hw, d.shaped hd hv, d.shaped hd hw, ?_⟩
  rw [d.dec]
  exact q _ H1 (Same.refl _) rfl
end
end M

namespace G
open PySem L2
theorem gcd_fmod (a b : Int) : Int.gcd b (a.fmod b) = Int.gcd a b := by
  rw [Int.fmod_def, Int.sub_eq_add_neg, ← Int.mul_neg]
  rw [Int.gcd_add_mul_left_right]
  exact Int.gcd_comm b a
theorem fmod_abs_lt (a : Int) {b : Int} (h : b ≠ 0) : (a.fmod b).natAbs < b.natAbs := by
  rcases Int.lt_or_gt_of_ne h with h | h
  · have e : a.fmod b = -((-a).fmod (-b)) := by
      rw [Int.neg_fmod_neg]; omega
    have h1 := Int.fmod_nonneg_of_pos (-a) (show 0 < -b by omega)
    have h2 := Int.fmod_lt_of_pos (-a) (show 0 < -b by omega)
    omega
  · have h1 := Int.fmod_nonneg_of_pos a h
    have h2 := Int.fmod_lt_of_pos a h
    omega
theorem abs_if (x : Int) : (if x < 0 then -x else x) = ((x.natAbs : Nat) : Int) := by split <;> omega
def cOf (o u : Int) : Int := if u < 0 then -((Int.gcd o u : Nat) : Int) else ((Int.gcd o u : Nat) : Int)
def rN (o u : Int) : Int := o.fdiv (cOf o u)
def rD (o u : Int) : Int := u.fdiv (cOf o u)
def CDivZ (_ j : Int) : Prop := j ≠ 0 ∧ j.natAbs.log2 < 9000
theorem op_fdivZ {X : Cx} : OpR X (binaryOp .FloorDiv) (rI CDivZ fun i j => .int (i.fdiv j)) := opI fun _ _ _ _ _ _ _ hc q => PyProof.Rows.floordiv_int hc.1 q (.inl (PyProof.noPylong_of_log2 hc.2))
theorem cOf_ok {o u : Int} (h : u ≠ 0) (hb : u.natAbs < 2 ^ 9000) (x : Int) : CDivZ x (cOf o u) := by
  have g : 0 < Int.gcd o u := Int.gcd_pos_of_ne_zero_right o h
  have l : Int.gcd o u ≤ u.natAbs := Nat.le_of_dvd (by omega) (Int.gcd_dvd_natAbs_right o u)
  have n : (cOf o u).natAbs = Int.gcd o u := by
    unfold cOf
    split <;> omega
  refine ⟨fun z => ?_, ?_⟩
  · rw [z] at n
    simp at n
    omega
  · rw [n]
    exact PySem.Flt.log2_lt_of (by decide) (Nat.lt_of_le_of_lt l hb)
theorem pow9000 {n : Nat} (h : n < 2 ^ 200) : n < 2 ^ 9000 := Nat.lt_of_lt_of_le h (Nat.pow_le_pow_right (by decide) (by decide))
theorem small_le {n : Nat} (h : n ≤ 1000) : n ≤ sizeLine := Nat.le_of_lt (small1000 h)
theorem two {a b : V} : [a, b].length ≤ sizeLine := by
  show 2 ≤ sizeLine
  decide
theorem cOf_dl (o u : Int) : cOf o u ∣ o := by
  unfold cOf
  split
  · exact Int.neg_dvd.mpr (Int.gcd_dvd_left o u)
  · exact Int.gcd_dvd_left o u
theorem cOf_dr (o u : Int) : cOf o u ∣ u := by
  unfold cOf
  split
  · exact Int.neg_dvd.mpr (Int.gcd_dvd_right o u)
  · exact Int.gcd_dvd_right o u
theorem cOf_ne {o u : Int} (h : u ≠ 0) : cOf o u ≠ 0 := by
  have g : 0 < Int.gcd o u := Int.gcd_pos_of_ne_zero_right o h
  unfold cOf
  split <;> omega
theorem rN_eq (o u : Int) : cOf o u * rN o u = o := Int.mul_fdiv_cancel' (cOf_dl o u)
theorem rD_eq (o u : Int) : cOf o u * rD o u = u := Int.mul_fdiv_cancel' (cOf_dr o u)
theorem rD_pos {o u : Int} (h : u ≠ 0) : 0 < rD o u := by
  have e := rD_eq o u
  have g : 0 < Int.gcd o u := Int.gcd_pos_of_ne_zero_right o h
  unfold cOf at e
  generalize rD o u = d at e
  split at e
  · rename_i hu
    rcases (show 0 < d ∨ d ≤ 0 by omega) with hd | hd
    · exact hd
    · have z : 0 ≤ -((Int.gcd o u : Nat) : Int) * d := Int.mul_nonneg_of_nonpos_of_nonpos (by omega) hd
      omega
  · rcases (show 0 < d ∨ d ≤ 0 by omega) with hd | hd
    · exact hd
    · have z : ((Int.gcd o u : Nat) : Int) * d ≤ 0 := Int.mul_nonpos_of_nonneg_of_nonpos (by omega) hd
      omega
theorem le_of_mul_eq {c k o : Int} (hc : c ≠ 0) (e : c * k = o) : k.natAbs ≤ o.natAbs := by
  rw [← e, Int.natAbs_mul]
  exact Nat.le_mul_of_pos_left _ (by omega)
theorem rN_le {o u : Int} (h : u ≠ 0) : (rN o u).natAbs ≤ o.natAbs := le_of_mul_eq (cOf_ne h) (rN_eq o u)
theorem rD_le {o u : Int} (h : u ≠ 0) : (rD o u).natAbs ≤ u.natAbs := le_of_mul_eq (cOf_ne h) (rD_eq o u)
theorem rDiv {o u : Int} (h : 0 < u) : (rN o u).fdiv (rD o u) = o.fdiv u := by
  have c0 : 0 < cOf o u := by
    have g : 0 < Int.gcd o u := Int.gcd_pos_of_ne_zero_right o (by omega)
    unfold cOf
    split <;> omega
  have e := Int.mul_fdiv_mul_of_pos (rN o u) (rD o u) c0
  rw [rN_eq, rD_eq] at e
  exact e.symm
structure Bag (H : Hp) (b c : Addr) : Prop where
  ne : b ≠ c
  at_ : ∃ (ns : List Int) (slot seed : Int), H b = some (.lst [.ref c, .int slot, .int seed]) ∧ H c = some (.lst (ns.map V.int)) ∧ ns.length ≤ 63 ∧ 0 ≤ slot ∧ 0 ≤ seed ∧ seed < 2147483647
/-- all but what stands at b and c stands -/
def Kept (b c : Addr) (H H' : Hp) : Prop := ∀ p o, H p = some o → p ≠ b → p ≠ c → H' p = some o
theorem Kept.refl {b c : Addr} {H : Hp} : Kept b c H H := fun _ _ e _ _ => e
theorem Kept.trans {b c : Addr} {H H' H'' : Hp} (h : Kept b c H H') (h' : Kept b c H' H'') : Kept b c H H'' := fun p o e n m => h' p o (h p o e n m) n m
theorem kept_same {b c : Addr} {H H' : Hp} (h : Same H H') : Kept b c H H' := fun p o e _ _ => h p o e
theorem same_upd {H : Hp} {p : Addr} {o : HO} (h : H p = none) : Same H (upd H p o) := fun b x e => by
  rw [upd_ne (ne_of_none e h)]
  exact e
theorem Kept.upd {b c p : Addr} {H H' : Hp} {o : HO} (h : Kept b c H H') (hp : H' p = none) : Kept b c H (upd H' p o) := h.trans (kept_same (same_upd hp))
theorem Bag.same {H H' : Hp} {b c : Addr} (h : Bag H b c) (s : Same H H') : Bag H' b c := by
  obtain ⟨ne, ns, sl, sd, h1, h2, r⟩ := h
  exact ⟨ne, ns, sl, sd, s _ _ h1, s _ _ h2, r⟩
theorem Bag.upd {b c p : Addr} {H : Hp} {o : HO} (h : Bag H b c) (hp : H p = none) : Bag (upd H p o) b c := h.same (same_upd hp)
theorem Bag.off {H : Hp} {b c p : Addr} (h : Bag H b c) (hp : H p = none) : p ≠ b ∧ p ≠ c := by
  obtain ⟨_, ns, sl, sd, h1, h2, _⟩ := h
  exact ⟨(ne_of_none h1 hp).symm, (ne_of_none h2 hp).symm⟩
/-- a thing that is no list of the bag's -/
theorem Bag.tup {H : Hp} {b c p : Addr} {xs : List V} (h : Bag H b c) (hp : H p = some (.tup xs)) : p ≠ b ∧ p ≠ c := by
  obtain ⟨_, ns, sl, sd, h1, h2, _⟩ := h
  exact ⟨ne_of hp h1 (by intro z; cases z), ne_of hp h2 (by intro z; cases z)⟩
theorem seq_by {t u : TS} {D : Ends} {σ : St} {H : Hp} (Pv : St → Hp → Prop) (h2 : ∀ σ H, Pv σ H → u D σ H) (h1 : (∀ σ H, Pv σ H → u D σ H) → t { D with nx := u D } σ H) : tSeq t u D σ H := h1 h2
theorem seq_c {u : TS} {i : Nat} {v : V} {D : Ends} {σ : St} {H : Hp} (h : u D (σ.set i (some v)) H) : tSeq (tAsg (tC v) (gName i)) u D σ H := h
theorem seq_asg {te : TE} {u : TS} {i : Nat} {D : Ends} {σ : St} {H : Hp} (h : te σ H fun x H1 => u D (σ.set i (some x)) H1) : tSeq (tAsg te (gName i)) u D σ H := h
theorem seq_sub {te ta ti : TE} {r : TSet} {u : TS} {D : Ends} {σ : St} {H : Hp} (h : te σ H fun x H1 => gSub ta ti r x σ H1 fun σ' H' => u D σ' H') : tSeq (tAsg te (gSub ta ti r)) u D σ H := h
theorem seq_drop {te : TE} {u : TS} {D : Ends} {σ : St} {H : Hp} (h : te σ H fun _ H1 => u D σ H1) : tSeq (tDrop te) u D σ H := h
theorem next_u {u : TS} {D : Ends} {σ : St} {H : Hp} (h : u D σ H) : tNext { D with nx := u D } σ H := h
theorem nx_u {u : TS} {D : Ends} {rt : VK} {bk ct : St → Hp → Prop} {σ : St} {H : Hp} (h : u D σ H) : Ends.nx { nx := u D, rt := rt, bk := bk, ct := ct } σ H := h
theorem yes_ {σ : St} {H : Hp} {A B : Hp → Prop} (h : A H) : tYes σ H (fun b H3 => if b = true then A H3 else B H3) := by
  show if true = true then A H else B H
  exact iteT h
theorem int_at {ns : List Int} {i : Int} (h0 : 0 ≤ i) (h : i < (ns.length : Int)) : ∃ v : Int, atI (ns.map V.int) i = some (.int v) := by
  have ek : i = ((i.toNat : Nat) : Int) := by omega
  have hk : i.toNat < ns.length := by omega
  rw [ek]
  exact ⟨ns[i.toNat], atI_nat (by rw [List.getElem?_map, List.getElem?_eq_getElem hk] <;> rfl)⟩
theorem ix_at {n : Nat} {i : Int} (h0 : 0 ≤ i) (h : i < (n : Int)) : ixN n i = some i.toNat := by
  unfold ixN
  rw [if_pos h0, if_pos h]
theorem set_ints (ns : List Int) (j : Nat) (v : Int) : (ns.map V.int).set j (.int v) = (ns.set j v).map V.int := by
  rw [List.map_set]
theorem at_mem {xs : List V} {r : Int} (h0 : 0 ≤ r) (h : r < (xs.length : Int)) : ∃ v, v ∈ xs ∧ atI xs r = some v := by
  have hk : r.toNat < xs.length := by omega
  have e := atI_nat (xs := xs) (j := r.toNat) (List.getElem?_eq_getElem hk)
  rw [show ((r.toNat : Nat) : Int) = r by omega] at e
  exact ⟨_, List.getElem_mem hk, e⟩
theorem cut_ints (ns : List Int) (lo hi : Option Int) : ∃ ms : List Int, cutV (ns.map V.int) lo hi = ms.map V.int ∧ ms.length ≤ ns.length := by
  refine ⟨(ns.drop (HT.sIx (ns.map V.int).length 0 lo)).take (HT.sIx (ns.map V.int).length (ns.map V.int).length hi - HT.sIx (ns.map V.int).length 0 lo), ?_, ?_⟩
  · unfold cutV
    rw [List.map_take, List.map_drop]
  · rw [List.length_take, List.length_drop]
    omega
theorem ne_true {u : Int} (z : (!decide (V.int u = V.int 0)) = true) : u ≠ 0 := fun e => by
  subst e
  exact absurd z (by decide)
theorem ne_false {u : Int} (z : ¬ (!decide (V.int u = V.int 0)) = true) : u = 0 := by
  by_cases e : u = 0
  · exact e
  · exact absurd (show (!decide (V.int u = V.int 0)) = true by rw [decide_eq_false (fun q => e (V.int.inj q))]; rfl) z
def leS (a b : Str) : Prop := a.cps.toList ≤ b.cps.toList
theorem leS_trans {a b c : Str} (h : leS a b) (h' : leS b c) : leS a c := List.le_trans h h'
theorem leS_anti {a b : Str} (h : leS a b) (h' : leS b a) : a = b := by
  have e : a.cps.toList = b.cps.toList := List.le_antisymm h h'
  cases a
  cases b
  exact congrArg Str.mk (Array.toList_inj.mp e)
theorem ris_all : ∀ (l : List Str) (p : Str), PyProof.Rows.risingS p l = true → (∀ x ∈ l, leS p x) ∧ l.Pairwise leS
  | [], _, _ => ⟨(fun _ h => nomatch h), .nil⟩
  | x :: r, p, h => by
    unfold PyProof.Rows.risingS at h
    rw [Bool.and_eq_true, Bool.not_eq_true'] at h
    rw [PyProof.Rows.ltCps_eq] at h
    have hx : leS p x := of_decide_eq_false h.1
    obtain ⟨i1, i2⟩ := ris_all r x h.2
    refine ⟨fun y hy => ?_, List.pairwise_cons.mpr ⟨i1, i2⟩⟩
    rcases List.mem_cons.mp hy with rfl | hy
    · exact hx
    · exact leS_trans hx (i1 y hy)
theorem srt_pw : ∀ {l : List Str}, PyProof.Rows.sortedS l = true → l.Pairwise leS
  | [], _ => .nil
  | x :: r, h => List.pairwise_cons.mpr (ris_all r x h)
theorem srt_same {a b : List Str} (hp : a.Perm b) (ha : PyProof.Rows.sortedS a = true) (hb : PyProof.Rows.sortedS b = true) : a = b :=
  hp.eq_of_pairwise (fun _ _ _ _ h1 h2 => leS_anti h1 h2) (srt_pw ha) (srt_pw hb)
theorem srtI_same {a b : List Int} (hp : a.Perm b) (ha : a.Pairwise (· ≤ ·)) (hb : b.Pairwise (· ≤ ·)) : a = b :=
  hp.eq_of_pairwise (fun _ _ _ _ h1 h2 => Int.le_antisymm h1 h2) ha hb
theorem lay_all : ∀ {ds : List PyData}, (∀ d ∈ ds, d.canLay0 = true) → PyData.canLayAll0 ds = true
  | [], _ => rfl
  | d :: r, h => by
    unfold PyData.canLayAll0
    rw [h d List.mem_cons_self, lay_all fun x hx => h x (List.mem_cons_of_mem _ hx)]
    rfl
theorem depth_all : ∀ {ds : List PyData} {n : Nat}, (∀ d ∈ ds, d.depth ≤ n) → PyData.depthAll ds ≤ n
  | [], _, _ => Nat.zero_le _
  | d :: r, n, h => by
    unfold PyData.depthAll
    exact Nat.max_le.mpr ⟨h d List.mem_cons_self, depth_all fun x hx => h x (List.mem_cons_of_mem _ hx)⟩

/-! ### ratios of the program are Lean's -/
theorem gcd_rND {o u : Int} (h : u ≠ 0) : Int.gcd (rN o u) (rD o u) = 1 := by
  have g : 0 < Int.gcd o u := Int.gcd_pos_of_ne_zero_right o h
  have e : Int.gcd o u = (cOf o u).natAbs * Int.gcd (rN o u) (rD o u) := by
    rw [← Int.gcd_mul_left, rN_eq, rD_eq]
  have n : (cOf o u).natAbs = Int.gcd o u := by
    unfold cOf
    split <;> omega
  rw [n] at e
  exact (Nat.eq_of_mul_eq_mul_left g (by rw [Nat.mul_one]; exact e)).symm
theorem rat_rND {o u : Int} (h : u ≠ 0) : (Rat.divInt o u).num = rN o u ∧ ((Rat.divInt o u).den : Int) = rD o u := by
  have p := rD_pos (o := o) h
  have c : Nat.Coprime (rN o u).natAbs (rD o u).toNat := by
    have := gcd_rND (o := o) h
    unfold Int.gcd at this
    rw [show (rD o u).natAbs = (rD o u).toNat by omega] at this
    exact this
  have e : Rat.divInt o u = ⟨rN o u, (rD o u).toNat, by omega, c⟩ := by
    rw [Rat.mk_eq_divInt, Int.toNat_of_nonneg (by omega)]
    have e2 := @Rat.divInt_mul_left (rN o u) (rD o u) (cOf o u) (cOf_ne h)
    rw [rN_eq, rD_eq] at e2
    exact e2
  rw [e]
  exact ⟨rfl, by show (((rD o u).toNat : Nat) : Int) = _; omega⟩
end G


namespace M
open PySem L2
section
variable {K : PySem.W.Frag} {α β γ δ ε ρ : Type} {S T : AS} {σ : St} {H : Hp} {ta tb te : TE} {tt tu : TT} {a : Ty K α} {b : Ty K β} {c : Ty K γ} {D : Ends} {u t1 t2 : TS}
theorem if_and {g : Bool} {A : Option α} {y : α} (h : (if g then A else none) = some y) : g = true ∧ A = some y := by
  cases g with
  | true => exact ⟨rfl, h⟩
  | false => cases h
theorem sub_cons {p : Addr} {S S' : AS} (h : Sub S S') : Sub S (p :: S') := fun a m => List.mem_cons_of_mem _ (h a m)
theorem cons_sub {p : Addr} {S S' : AS} (h : p ∈ S') (h' : Sub S S') : Sub (p :: S) S' := fun a m => by
  rcases List.mem_cons.mp m with rfl | m
  · exact h
  · exact h' a m
theorem nwL.sub {c : Ty K α} {S S' T : AS} {H0 H H1 : Hp} {v : V} {xs : List α} (h : nwL c S H H1 v xs) (hs : Sub S' S) (f : Fr T H0 H) (d : Dom T H) : nwL c S' H0 H1 v xs := by
  obtain ⟨p, e, n, vs, hv, ha⟩ := h
  exact ⟨p, e, fr_back f d n, vs, hv, ha.imp fun _ _ => c.sub fun a m => by
    rcases List.mem_cons.mp m with rfl | m
    · exact List.mem_cons_self ..
    · exact List.mem_cons_of_mem _ (hs a m)⟩
theorem Own.same {c : Ty K α} {S : AS} {H H' : Hp} {p : Addr} {xs : List α} (h : Own c S H p xs) (s : Same H H') : Own c S H' p xs := by
  obtain ⟨vs, hv, ha⟩ := h
  exact ⟨vs, s _ _ hv, ha.imp fun _ _ => c.mono (Fr.same s)⟩
theorem Own.fr {c : Ty K α} {S T : AS} {H H' : Hp} {p : Addr} {xs : List α} (h : Own c S H p xs) (f : Fr T H H') (ts : Sub T S) (n : p ∉ T) : Own c S H' p xs := by
  obtain ⟨vs, hv, ha⟩ := h
  exact ⟨vs, f _ _ hv n, ha.imp fun _ _ => c.mono (f.sub ts)⟩
theorem Own.ext {c : Ty K α} {S : AS} {H : Hp} {p q : Addr} {xs : List α} (h : Own c S H p xs) (n : H q = none) : Own c (q :: S) H p xs := by
  obtain ⟨vs, hv, ha⟩ := h
  exact ⟨vs, hv, ha.imp fun _ _ => c.ext n⟩
theorem Own.ne {c : Ty K α} {S : AS} {H : Hp} {p q : Addr} {xs : List α} (h : Own c S H p xs) (n : H q = none) : p ≠ q := by
  obtain ⟨vs, hv, ha⟩ := h
  exact ne_of_none hv n
theorem Own.sub {c : Ty K α} {S S' : AS} {H : Hp} {p : Addr} {xs : List α} (h : Own c S H p xs) (hs : Sub S' S) : Own c S' H p xs := by
  obtain ⟨vs, hv, ha⟩ := h
  exact ⟨vs, hv, ha.imp fun _ _ => c.sub hs⟩
/-! items put behind an owned list -/
def app? (xs : List α) (x : α) : Option (List α) := if xs.length < 100000 then some (xs ++ [x]) else none
/-- all but p stands, and what p held is H1 p -/
structure Mut1 (p : Addr) (H H' : Hp) : Prop where
  k : ∀ a o, H a = some o → a ≠ p → H' a = some o
  p' : H' p ≠ none
theorem l_app {p : Addr} {xs ys : List α} {i : Nat} {r : Option α} {x : α} (d : Dom S H) (o : Own a S H p xs) (im : p ∈ S) (nt : p ∉ T) (ts : Sub T S) (hi : σ[i]? = some (some (.ref p))) (h : Ev S T te σ H (of a S) r) (e : r = some x) (f : app? xs x = some ys)
    (k : ∀ H1, Mut1 p H H1 → Fr S H H1 → Own a S H1 p ys → D.nx σ H1) : tDrop (tBM K "list" rAppend (tVar i) (tCons te tNil)) D σ H := by
  obtain ⟨vs, hv, ha⟩ := o
  unfold app? at f
  split at f
  · rename_i hl
    cases f
    refine ⟨_, hi, Or.inl ⟨rfl, vs, .inl (.inl hv)⟩, h x e H (Fr.refl _) d _ fun v H1 s1 hx => ?_⟩
    refine ⟨p, vs, v, rfl, rfl, s1 _ _ hv, Nat.lt_of_lt_of_le (by rw [ha.len]; exact hl) (by decide), ?_⟩
    have f1 : Fr S H1 (upd H1 p (.lst (vs ++ [v]))) := fr_upd im
    refine k _ ⟨fun b ob e n => by rw [upd_ne n]; exact s1 _ _ e, by rw [upd_same]; intro z; cases z⟩ ((Fr.same s1).trans f1) ⟨vs ++ [v], upd_same, ?_⟩
    exact ((ha.imp fun _ _ h => a.mono (Fr.same s1) h).snoc hx).imp fun _ _ h => a.mono f1 h
  · cases f
theorem q_app {p : Addr} {xs ys : List α} {i : Nat} {r : Option α} {x : α} (d : Dom S H) (o : Own a S H p xs) (im : p ∈ S) (nt : p ∉ T) (ts : Sub T S) (hi : σ[i]? = some (some (.ref p))) (h : Ev S T te σ H (of a S) r) (e : r = some x) (f : app? xs x = some ys)
    (k : ∀ H1, Mut1 p H H1 → Fr S H H1 → Own a S H1 p ys → u D σ H1) : tSeq (tDrop (tBM K "list" rAppend (tVar i) (tCons te tNil))) u D σ H := l_app (D := { D with nx := u D }) d o im nt ts hi h e f k
theorem Fr.mut {p : Addr} {H0 H H' : Hp} (f : Fr T H0 H) (d : Dom T H) (n : H0 p = none) (m : Mut1 p H H') : Fr T H0 H' := fun b o e nb => m.k b o (f b o e nb) (ne_of_none e n)
theorem Mut1.fr {p : Addr} {H H' : Hp} (m : Mut1 p H H') (h : p ∈ S) : Fr S H H' := fun b o e nb => m.k b o e fun z => nb (by rw [z]; exact h)
theorem Fr.mutN {p : Addr} {H0 H H' : Hp} (f : Fr T H0 H) (n : H0 p = none) (m : Mut1 p H H') : Fr T H0 H' := fun b o e nb => m.k b o (f b o e nb) (ne_of_none e n)
theorem Dom.sub {S' : AS} (d : Dom S H) (h : Sub S' S) : Dom S' H := fun a m => d a (h a m)
theorem Dom.fx {p : Addr} {H H' : Hp} (d : Dom S H) (f : Fr S H H') (m : Mut1 p H H') : Dom S H' := fun b mb e => by
  by_cases q : b = p
  · subst q; exact m.p' e
  · cases z : H b with
    | none => exact d b mb z
    | some o => rw [m.k b o z q] at e; cases e
theorem Own.mut {c : Ty K α} {S : AS} {H H' : Hp} {p q : Addr} {xs : List α} (h : Own c S H p xs) (f : Fr S H H') (m : Mut1 q H H') (n : p ≠ q) : Own c S H' p xs := by
  obtain ⟨vs, hv, ha⟩ := h
  exact ⟨vs, m.k _ _ hv n, ha.imp fun _ _ => c.mono f⟩
theorem seq_last {t : TS} (Pv : St → Hp → Prop) (h2 : ∀ σ H, Pv σ H → D.nx σ H) (h1 : (∀ σ H, Pv σ H → D.nx σ H) → t D σ H) : t D σ H := h1 h2
/-! lists made -/
theorem ev_lst0 : Ev S T (tLst tNil) σ H (nw a S) (some []) := fun x e H1 f d Q q => by
  cases e
  exact ⟨Nat.zero_le _, fun p hp => q _ _ (same_new hp) ⟨p, rfl, hp, [], upd_same, .nil⟩⟩
theorem ev_list {r : Option (List α)} (h : Ev S T te σ H (of (tL a) S) r) : Ev S T (tCB (fun xs H Q => ∃ p ys, xs = [.ref p] ∧ (SqL K H p ys ∨ SqT K H p ys) ∧ ∀ l, H l = none → Q (.ref l) (upd H l (.lst ys))) (tCons te tNil)) σ H (nw a S) r := fun x e H1 f d Q q => by
  refine h x e H1 f d _ fun v H2 s2 hv => ?_
  obtain ⟨p, vs, rfl, hp, ha⟩ := hv
  exact ⟨p, vs, rfl, .inl hp.sq, fun l hl => q _ _ (s2.trans (same_new hl)) ⟨l, rfl, s2.free hl, vs, upd_same, ha.imp fun _ _ h => a.mono (Fr.same (same_new hl)) (a.ext hl h)⟩⟩
def EvE (S T : AS) (ta : TA) (σ : St) (H : Hp) (a : Ty K α) (n : Nat) (r : Option (List α)) : Prop :=
  ∀ x, r = some x → ∀ H1, Fr T H H1 → Dom S H1 → ∀ Q : List V → Hp → Prop, (∀ vs H2, vs.length = n → Same H1 H2 → All2 (a.rp S H2) vs x → Q vs H2) → ta σ H1 Q
theorem el_nil : EvE S T tNil σ H a 0 (some []) := fun _ e H1 f d Q q => by cases e; exact q [] H1 rfl (Same.refl _) .nil
theorem el_cons {tr : TA} {n : Nat} {ra : Option α} {rr : Option (List α)} (h : Ev S T ta σ H (of a S) ra) (hr : EvE S T tr σ H a n rr) : EvE S T (tCons ta tr) σ H a (n + 1) (bd ra fun x => bd rr fun y => some (x :: y)) := by
  intro z e H1 f1 d Q q
  obtain ⟨x, ex, e⟩ := bd_some e
  obtain ⟨y, ey, e⟩ := bd_some e
  cases e
  exact h x ex H1 f1 d _ fun v H2 s2 hv => hr y ey H2 (f1.trans (Fr.same s2)) (d.same s2) _ fun vs H3 hl s3 hw => q _ H3 (by simp [hl]) (s2.trans s3) (.cons (a.mono (Fr.same s3) hv) hw)
theorem ev_lst {tr : TA} {n : Nat} {rr : Option (List α)} (h : EvE S T tr σ H a n rr) (hn : n ≤ sizeLine) : Ev S T (tLst tr) σ H (nw a S) rr := fun x e H1 f d Q q =>
  h x e H1 f d _ fun vs H2 hl s2 ha => ⟨by rw [hl]; exact hn, fun p hp => q _ _ (s2.trans (same_new hp)) ⟨p, rfl, s2.free hp, vs, upd_same, ha.imp fun _ _ h => a.mono (Fr.same (same_new hp)) (a.ext hp h)⟩⟩
theorem All2.bools {S : AS} {H : Hp} : ∀ {vs : List V} {xs : List Bool}, All2 ((tBool (K := K)).rp S H) vs xs → vs = xs.map V.bl
  | _, _, .nil => rfl
  | _, _, .cons h r => by rw [List.map_cons, ← All2.bools r, show _ = _ from h]
theorem ev_all {r : Option (List Bool)} (h : Ev S T te σ H (of (K := K) (tL tBool) S) r) : Ev S T (tCB (rAll K) (tCons te tNil)) σ H (of (K := K) tBool S) (bd r fun x => some (x.all id)) := by
  intro z e H1 f1 d Q q
  obtain ⟨x, ex, e⟩ := bd_some e
  cases e
  refine h x ex H1 f1 d _ fun v H2 s hv => ?_
  obtain ⟨p, vs, rfl, hp, ha⟩ := hv
  refine ⟨p, x, rfl, ?_, q _ H2 s rfl⟩
  rw [← ha.bools]
  exact hp.sq
theorem ev_intB {r : Option Bool} (h : Ev S T te σ H (of (K := K) tBool S) r) : Ev S T (tCB (fun xs H Q => (∃ i, xs = [.int i] ∧ Q (.int i) H) ∨ ∃ k, xs = [.bl k] ∧ Q (.int (if k then 1 else 0)) H) (tCons te tNil)) σ H (of (K := K) tInt S) (bd r fun x => some (if x then 1 else 0 : Int)) := by
  intro z e H1 f1 d Q q
  obtain ⟨x, ex, e⟩ := bd_some e
  cases e
  refine h x ex H1 f1 d _ fun v H2 s hv => ?_
  cases hv
  exact .inr ⟨x, rfl, q _ H2 s rfl⟩
/-! comprehensions over a list -/
def mapO (f : α → Option β) : List α → Option (List β)
  | [] => some []
  | x :: xs => bd (f x) fun y => bd (mapO f xs) fun ys => some (y :: ys)
theorem mapO_get {f : α → Option β} : ∀ {xs : List α} {ys : List β} {i : Nat} {x : α}, mapO f xs = some ys → xs[i]? = some x → ∃ y, f x = some y ∧ ys[i]? = some y
  | [], _, i, x, _, e => by simp at e
  | z :: xs, ys, i, x, h, e => by
    obtain ⟨y, hy, h⟩ := bd_some h
    obtain ⟨r, hr, h⟩ := bd_some h
    cases h
    cases i with
    | zero => simp at e; subst e; exact ⟨y, hy, rfl⟩
    | succ i =>
      obtain ⟨w, h1, h2⟩ := mapO_get (i := i) hr (by simpa using e)
      exact ⟨w, h1, by simpa using h2⟩
theorem mapO_len {f : α → Option β} : ∀ {xs : List α} {ys : List β}, mapO f xs = some ys → ys.length = xs.length
  | [], _, h => by cases h; rfl
  | z :: xs, ys, h => by
    obtain ⟨y, hy, h⟩ := bd_some h
    obtain ⟨r, hr, h⟩ := bd_some h
    cases h
    simp [mapO_len hr]
def filO (f : α → Option (Option β)) : List α → Option (List β)
  | [] => some []
  | x :: xs => bd (f x) fun o => bd (filO f xs) fun ys => match o with | some y => some (y :: ys) | none => some ys
theorem filO_map {f : α → Option β} : ∀ xs : List α, filO (fun x => bd (f x) fun y => some (some y)) xs = mapO f xs
  | [] => rfl
  | x :: r => by
    simp only [filO, mapO, bd, filO_map r]
    cases f x <;> rfl
def mapL? (f : α → Option β) (xs : List α) : Option (List β) := if xs.length < 100000 then mapO f xs else none
/-- [te for x in wi] -/
theorem lc_core2 {wi : TI} {j : Nat} {ws : List Nat} {r : Option (List α)} {f : α → Option (Option β)} (h : Sr S T wi σ H a r) (hw : ∀ x, wipe ((wipe σ ws).set j (some x)) ws = wipe σ ws)
    (he : ∀ (x : α) (v : V) (H2 H' : Hp) (p : Addr) (o : Option β), Fr T H H2 → H2 p = none → Same H2 H' → a.rp (p :: S) H' v x → Dom (p :: S) H' → f x = some o → ∀ (Q1 : V → Hp → Prop) (Q0 : Hp → Prop), (∀ y w H3, o = some y → Same H' H3 → b.rp (p :: S) H3 w y → Q1 w H3) → (∀ H3, o = none → Same H' H3 → Q0 H3) →
      tt ((wipe σ ws).set j (some v)) H' fun k H3 => if k = true then te ((wipe σ ws).set j (some v)) H3 Q1 else Q0 H3) :
    Ev S T (tLc wi (gName j) tt te ws) σ H (nw b S) (bd r fun xs => if xs.length < 100000 then filO f xs else none) := by
  intro z e H1 f1 d Q q
  obtain ⟨xs, ex, e⟩ := bd_some e
  split at e
  rotate_left
  · cases e
  rename_i hlen
  refine h xs ex H1 f1 d _ fun J H2 s2 wk => fun Dl hD => ?_
  have d2 := d.same s2
  have sD : Same H2 (upd H2 Dl (.lst [])) := same_new hD
  refine ⟨fun i m H' => m = xs.length - i ∧ i ≤ xs.length ∧ ∃ acc pre, H' Dl = some (.lst acc) ∧ Same H2 H' ∧ acc.length ≤ i ∧ All2 (b.rp (Dl :: S) H') acc pre ∧ ∃ suf, filO f (xs.drop i) = some suf ∧ z = pre ++ suf, ⟨_, rfl, Nat.zero_le _, [], [], upd_same, sD, Nat.zero_le _, .nil, z, e, rfl⟩, ?_⟩
  rintro i m H' ⟨rfl, hi, acc, pre, h1, h2, h3, h4, suf, h5, h6⟩
  by_cases c : i < xs.length
  · right
    rw [List.drop_eq_getElem_cons c] at h5
    obtain ⟨o, ho, h5⟩ := bd_some h5
    obtain ⟨suf', hs', h5⟩ := bd_some h5
    refine ⟨wk.go H' i (Fr.same h2) c, fun H3 => ∃ acc pre, H3 Dl = some (.lst acc) ∧ Same H2 H3 ∧ acc.length ≤ i + 1 ∧ All2 (b.rp (Dl :: S) H3) acc pre ∧ ∃ suf, filO f (xs.drop (i + 1)) = some suf ∧ z = pre ++ suf, ?_, ?_⟩
    · rintro H3 ⟨acc, pre, g1, g2, g3, g4, suf, g5, g6⟩
      exact ⟨xs.length - (i + 1), by omega, rfl, by omega, acc, pre, g1, g2, g3, g4, suf, g5, g6⟩
    · intro v H3 hy
      obtain ⟨rfl, hv⟩ := wk.yl H' i v H3 (Fr.same h2) hy _ (List.getElem?_eq_getElem c)
      refine ⟨hw v, ?_⟩
      refine he xs[i] v H2 _ Dl o (f1.trans (Fr.same s2)) hD h2 (a.mono (Fr.same h2) (a.ext hD hv)) ((d2.same h2).cons h1) ho _ _ (fun y w H4 eo s4 hw4 => ?_) (fun H4 eo s4 => ?_)
      · subst eo
        cases h5
        refine ⟨acc, s4 _ _ h1, Nat.lt_of_lt_of_le (by omega : acc.length < 100000) (by decide), acc ++ [w], pre ++ [y], upd_same, fun p ob eb => ?_, by simp; omega, ?_, suf', hs', by rw [h6]; simp⟩
        · rw [upd_ne (ne_of_none eb hD)]
          exact s4 _ _ (h2 _ _ eb)
        · have fD : Fr (Dl :: S) H4 (upd H4 Dl (.lst (acc ++ [w]))) := fr_upd (List.mem_cons_self ..)
          exact ((h4.imp fun _ _ h => b.mono (Fr.same s4) h).snoc hw4).imp fun _ _ h => b.mono fD h
      · subst eo
        cases h5
        exact ⟨acc, pre, s4 _ _ h1, fun p ob eb => s4 _ _ (h2 _ _ eb), by omega, h4.imp fun _ _ h => b.mono (Fr.same s4) h, _, hs', h6⟩
  · left
    rw [List.drop_eq_nil_of_le (by omega)] at h5
    cases h5
    rw [List.append_nil] at h6
    subst h6
    exact ⟨wk.st H' i (Fr.same h2) (by omega), q _ _ (s2.trans h2) ⟨Dl, rfl, s2.free hD, acc, h1, h4⟩⟩
theorem ev_lc {wi : TI} {j : Nat} {ws : List Nat} {r : Option (List α)} {f : α → Option β} (h : Sr S T wi σ H a r) (hw : ∀ x, wipe ((wipe σ ws).set j (some x)) ws = wipe σ ws)
    (he : ∀ (x : α) (v : V) (H2 H' : Hp) (p : Addr), Fr T H H2 → H2 p = none → Same H2 H' → a.rp (p :: S) H' v x → Ev (p :: S) [] te ((wipe σ ws).set j (some v)) H' (of b (p :: S)) (f x)) :
    Ev S T (tLc wi (gName j) tYes te ws) σ H (nw b S) (bd r fun xs => mapL? f xs) := by
  have k := lc_core2 (tt := tYes) (te := te) (b := b) (f := fun x => bd (f x) fun y => some (some y)) h hw fun x v H2 H' p o g1 g2 g3 g4 g5 g6 Q1 Q0 g7 g8 => by
    obtain ⟨y, hy, g6⟩ := bd_some g6
    cases g6
    refine G.yes_ ?_
    exact he x v H2 H' p g1 g2 g3 g4 y hy H' (Fr.refl _) g5 _ fun w H3 s3 hw3 => g7 y w H3 rfl s3 hw3
  intro z e
  refine k z ?_
  obtain ⟨xs, ex, e⟩ := bd_some e
  rw [ex]
  unfold mapL? at e
  show (if xs.length < 100000 then filO _ xs else none) = some z
  split at e
  · rename_i hl
    rw [if_pos hl, filO_map]
    exact e
  · cases e
/-- with a test -/
def filL? (g : α → Option Bool) (f : α → Option β) (xs : List α) : Option (List β) := if xs.length < 100000 then filO (fun x => bd (g x) fun k => if k then bd (f x) fun y => some (some y) else some none) xs else none
theorem ev_lcF {wi : TI} {j : Nat} {ws : List Nat} {r : Option (List α)} {g : α → Option Bool} {f : α → Option β} (h : Sr S T wi σ H a r) (hw : ∀ x, wipe ((wipe σ ws).set j (some x)) ws = wipe σ ws)
    (ht : ∀ (x : α) (v : V) (H2 H' : Hp) (p : Addr), Fr T H H2 → H2 p = none → Same H2 H' → a.rp (p :: S) H' v x → EvB (p :: S) [] tt ((wipe σ ws).set j (some v)) H' (g x))
    (he : ∀ (x : α) (v : V) (H2 H' : Hp) (p : Addr), Fr T H H2 → H2 p = none → Same H2 H' → a.rp (p :: S) H' v x → Ev (p :: S) [] te ((wipe σ ws).set j (some v)) H' (of b (p :: S)) (f x)) :
    Ev S T (tLc wi (gName j) tt te ws) σ H (nw b S) (bd r fun xs => filL? g f xs) :=
  lc_core2 (tt := tt) (te := te) (b := b) (f := fun x => bd (g x) fun k => if k then bd (f x) fun y => some (some y) else some none) h hw fun x v H2 H' p o g1 g2 g3 g4 g5 g6 Q1 Q0 g7 g8 => by
    obtain ⟨k, hk, g6⟩ := bd_some g6
    refine ht x v H2 H' p g1 g2 g3 g4 k hk H' (Fr.refl _) g5 _ fun H3 s3 => ?_
    cases k with
    | true =>
      obtain ⟨y, hy, g6⟩ := bd_some (if_t g6)
      cases g6
      show if true = true then _ else _
      rw [if_pos rfl]
      exact he x v H2 H' p g1 g2 g3 g4 y hy H3 (Fr.same s3) (g5.same s3) _ fun w H4 s4 hw4 => g7 y w H4 rfl (s3.trans s4) hw4
    | false =>
      cases (if_f g6)
      show if false = true then _ else _
      rw [if_neg (by decide)]
      exact g8 H3 rfl s3
end
end M

namespace M
open PySem L2 G
abbrev Wp (α : Type) := (α → Prop) → Prop
def lf {α : Type} (r : Option α) : Wp α := fun P => ∃ x, r = some x ∧ P x
def opW {α β γ : Type} (f : α → β → Option γ) (wa : Wp α) (wb : Wp β) : Wp γ := fun P => wa fun x => wb fun y => lf (f x y) P
def unW {α γ : Type} (g : α → Option γ) (wa : Wp α) : Wp γ := fun P => wa fun x => lf (g x) P
def tup2W {α β : Type} (wa : Wp α) (wb : Wp β) : Wp (α × β) := fun P => wa fun x => wb fun y => P (x, y)
def consW {α : Type} (wa : Wp α) (wb : Wp (List α)) : Wp (List α) := fun P => wa fun x => wb fun y => P (x :: y)
def andW (r v : Wp Bool) : Wp Bool := fun P => r fun x => if x then v P else P false
def orW (r v : Wp Bool) : Wp Bool := fun P => r fun x => if x then P true else v P
def callBW {α γ : Type} (m : α → Wp γ) (w : Wp α) : Wp γ := fun P => w fun a => m a P
theorem lf_some {α : Type} {x : α} {P : α → Prop} : lf (some x) P ↔ P x := ⟨fun ⟨y, e, h⟩ => by cases e; exact h, fun h => ⟨x, rfl, h⟩⟩
theorem _root_.G.Bag.dom {H : Hp} {b c : Addr} (h : Bag H b c) : Dom [b, c] H := fun a m e => by
  obtain ⟨_, ns, sl, sd, h1, h2, _⟩ := h
  simp only [List.mem_cons, List.not_mem_nil, or_false] at m
  rcases m with rfl | rfl
  · rw [h1] at e; cases e
  · rw [h2] at e; cases e
theorem dom_fr {S : AS} {H H' : Hp} {b c : Addr} (d : Dom S H) (f : Fr [b, c] H H') (h : Bag H' b c) : Dom S H' := fun a m e => by
  by_cases q : a ∈ [b, c]
  · exact h.dom a q e
  · cases z : H a with
    | none => exact d a m z
    | some o => rw [f a o z q] at e; cases e
section
variable {K : PySem.W.Frag} {α β γ δ ε ρ : Type} {S T : AS} {σ : St} {H : Hp} {ta tb te : TE} {tt tu : TT} {a : Ty K α} {b' : Ty K β} {c' : Ty K γ} {D : Ends} {u t1 t2 : TS} {b c : Addr}
def EvW (b c : Addr) (S : AS) (te : TE) (σ : St) (H : Hp) (R : Rl α) (w : Wp α) : Prop :=
  Sub [b, c] S → ∀ P, w P → ∀ H1, Fr [b, c] H H1 → Dom S H1 → Bag H1 b c → ∀ Q : VK, (∀ v H2 x, P x → Fr [b, c] H1 H2 → Dom S H2 → Bag H2 b c → R.r H1 H2 v x → Q v H2) → te σ H1 Q
def BvW (b c : Addr) (S : AS) (tt : TT) (σ : St) (H : Hp) (w : Wp Bool) : Prop :=
  Sub [b, c] S → ∀ P, w P → ∀ H1, Fr [b, c] H H1 → Dom S H1 → Bag H1 b c → ∀ Q : Bool → Hp → Prop, (∀ H2 x, P x → Fr [b, c] H1 H2 → Dom S H2 → Bag H2 b c → Q x H2) → tt σ H1 Q
theorem ew_pure {R : Rl α} {r : Option α} (h : Ev S [b, c] te σ H R r) : EvW b c S te σ H R (lf r) := fun ts P ⟨x, e, hP⟩ H1 f d hB Q q =>
  h x e H1 f d Q fun v H2 s hv => q v H2 x hP (Fr.same s) (d.same s) (hB.same s) hv
theorem ew_new {w : Wp (List α)} (h : EvW b c S te σ H (nw a S) w) : EvW b c S te σ H (of (tL a) S) w := fun ts P hP H1 f d hB Q q =>
  h ts P hP H1 f d hB Q fun v H2 x hx f2 d2 hB2 hv => q v H2 x hx f2 d2 hB2 (nwL.rp hv d)
theorem ew_op {R : Rl γ} {r : R2} {f : α → β → Option γ} {wa : Wp α} {wb : Wp β} (h : OpD a b' S R r f) (ha : EvW b c S ta σ H (of a S) wa) (hb : EvW b c S tb σ H (of b' S) wb) :
    EvW b c S (tOp r ta tb) σ H R (opW f wa wb) := fun ts P hP H1 f1 d hB Q q =>
  ha ts _ hP H1 f1 d hB _ fun v H2 x hx f2 d2 hB2 hv => hb ts _ hx H2 (f1.trans f2) d2 hB2 _ fun w H3 y ⟨z, e, hz⟩ f3 d3 hB3 hw => h x y z e H3 v w d3 (a.mono (f3.sub ts) hv) hw Q fun u H4 s4 hu => q u H4 z hz ((f2.trans f3).trans (Fr.same s4)) (d3.same s4) (hB3.same s4) (R.back (f2.trans f3) hB3.dom hu)
theorem ew_ixT {R : Rl γ} {i : Int} {wa : Wp α} {g : α → γ} (ha : EvW b c S ta σ H (of a S) wa) (h : ∀ x H v, a.rp S H v x → ∃ p vs u, v = .ref p ∧ SqT K H p vs ∧ atI vs i = some u ∧ R.r H H u (g x)) :
    EvW b c S (tOp (rIxT K) ta (tC (.int i))) σ H R (unW (fun x => some (g x)) wa) := fun ts P hP H1 f1 d hB Q q => by
  refine ha ts _ hP H1 f1 d hB _ fun v H2 x ⟨z, e, hz⟩ f2 d2 hB2 hv => ?_
  cases e
  obtain ⟨p, vs, u, rfl, hp, hu, hr⟩ := h x H2 v hv
  exact ⟨p, vs, i, u, rfl, rfl, hp, hu, q u H2 _ hz f2 d2 hB2 (R.back f2 hB2.dom hr)⟩
theorem ew_ix20 {ra : Wp (α × β)} (ha : EvW b c S ta σ H (of (tT2 a b') S) ra) : EvW b c S (tOp (rIxT K) ta (tC (.int 0))) σ H (of a S) (unW (fun x => some x.1) ra) :=
  ew_ixT ha fun x H v ⟨p, u, w, e, h, h1, h2⟩ => ⟨p, _, u, e, h.sq, rfl, h1⟩
theorem ew_ix21 {ra : Wp (α × β)} (ha : EvW b c S ta σ H (of (tT2 a b') S) ra) : EvW b c S (tOp (rIxT K) ta (tC (.int 1))) σ H (of b' S) (unW (fun x => some x.2) ra) :=
  ew_ixT ha fun x H v ⟨p, u, w, e, h, h1, h2⟩ => ⟨p, _, w, e, h.sq, rfl, h2⟩
theorem ew_tup2 {wa : Wp α} {wb : Wp β} (ha : EvW b c S ta σ H (of a S) wa) (hb : EvW b c S tb σ H (of b' S) wb) : EvW b c S (tTup (tCons ta (tCons tb tNil))) σ H (of (tT2 a b') S) (tup2W wa wb) := fun ts P hP H1 f1 d hB Q q => by
  refine ha ts _ hP H1 f1 d hB _ fun v H2 x hx f2 d2 hB2 hv => hb ts _ hx H2 (f1.trans f2) d2 hB2 _ fun w H3 y hy f3 d3 hB3 hw => ⟨(by show 2 ≤ sizeLine; decide), fun p hp => ?_⟩
  have s4 := same_new (o := .tup [v, w]) hp
  exact q _ _ (x, y) hy ((f2.trans f3).trans (Fr.same s4)) (d3.same s4) (hB3.same s4) ⟨p, v, w, rfl, .inl ⟨.inl upd_same, d3.not_mem hp⟩, a.mono (Fr.same s4) (a.mono (f3.sub ts) hv), b'.mono (Fr.same s4) hw⟩
/-! tests -/
theorem bw_pure {r : Option Bool} (h : EvB S [b, c] tt σ H r) : BvW b c S tt σ H (lf r) := fun ts P ⟨x, e, hP⟩ H1 f d hB Q q => h x e H1 f d Q fun H2 s => q H2 x hP (Fr.same s) (d.same s) (hB.same s)
theorem bw_test {w : Wp Bool} (h : EvW b c S te σ H (of (K := K) tBool S) w) : BvW b c S (tTest te) σ H w := fun ts P hP H1 f d hB Q q => h ts P hP H1 f d hB _ fun v H2 x hx f2 d2 hB2 hv => ⟨x, hv, q H2 x hx f2 d2 hB2⟩
theorem bw_B {w : Wp Bool} (h : EvW b c S te σ H (of (K := K) tBool S) w) : BvW b c S (tB te) σ H w := fun ts P hP H1 f d hB Q q => h ts P hP H1 f d hB _ fun v H2 x hx f2 d2 hB2 hv => ⟨x, hv, q H2 x hx f2 d2 hB2⟩
theorem bw_and {r v : Wp Bool} (h : BvW b c S tt σ H r) (h' : BvW b c S tu σ H v) : BvW b c S (tAnd tt tu) σ H (andW r v) := fun ts P hP H1 f1 d hB Q q => by
  refine h ts _ hP H1 f1 d hB _ fun H2 x hx f2 d2 hB2 => ?_
  cases x with
  | true => exact h' ts P hx H2 (f1.trans f2) d2 hB2 Q fun H3 y hy f3 d3 hB3 => q H3 y hy (f2.trans f3) d3 hB3
  | false => exact q H2 false hx f2 d2 hB2
theorem bw_or {r v : Wp Bool} (h : BvW b c S tt σ H r) (h' : BvW b c S tu σ H v) : BvW b c S (tOr tt tu) σ H (orW r v) := fun ts P hP H1 f1 d hB Q q => by
  refine h ts _ hP H1 f1 d hB _ fun H2 x hx f2 d2 hB2 => ?_
  cases x with
  | false => exact h' ts P hx H2 (f1.trans f2) d2 hB2 Q fun H3 y hy f3 d3 hB3 => q H3 y hy (f2.trans f3) d3 hB3
  | true => exact q H2 true hx f2 d2 hB2
theorem ew_and {r v : Wp Bool} (h : EvW b c S ta σ H (of (K := K) tBool S) r) (h' : EvW b c S tb σ H (of (K := K) tBool S) v) : EvW b c S (tAndV ta tb) σ H (of (K := K) tBool S) (andW r v) := fun ts P hP H1 f1 d hB Q q => by
  refine h ts _ hP H1 f1 d hB _ fun v H2 x hx f2 d2 hB2 hv => ⟨x, hv, ?_⟩
  cases x with
  | true => exact h' ts P hx H2 (f1.trans f2) d2 hB2 Q fun v H3 y hy f3 d3 hB3 hv => q v H3 y hy (f2.trans f3) d3 hB3 hv
  | false => exact q _ H2 false hx f2 d2 hB2 rfl
theorem ew_or {r v : Wp Bool} (h : EvW b c S ta σ H (of (K := K) tBool S) r) (h' : EvW b c S tb σ H (of (K := K) tBool S) v) : EvW b c S (tOrV ta tb) σ H (of (K := K) tBool S) (orW r v) := fun ts P hP H1 f1 d hB Q q => by
  refine h ts _ hP H1 f1 d hB _ fun v H2 x hx f2 d2 hB2 hv => ⟨x, hv, ?_⟩
  cases x with
  | false => exact h' ts P hx H2 (f1.trans f2) d2 hB2 Q fun v H3 y hy f3 d3 hB3 hv => q v H3 y hy (f2.trans f3) d3 hB3 hv
  | true => exact q _ H2 true hx f2 d2 hB2 rfl
/-! arguments, calls -/
def EvWA (b c : Addr) (S : AS) (ta : TA) (σ : St) (H : Hp) (t : TyA K α) (w : Wp α) : Prop :=
  Sub [b, c] S → ∀ P, w P → ∀ H1, Fr [b, c] H H1 → Dom S H1 → Bag H1 b c → ∀ Q : List V → Hp → Prop, (∀ vs H2 x, P x → Fr [b, c] H1 H2 → Dom S H2 → Bag H2 b c → t.rp S H2 vs x → Q vs H2) → ta σ H1 Q
theorem wa_nil : EvWA b c S tNil σ H (K := K) aNil (lf (some ())) := fun ts P ⟨x, e, hP⟩ H1 f d hB Q q => q [] H1 x hP (Fr.refl _) d hB rfl
theorem wa_cons {tr : TA} {t : TyA K β} {wa : Wp α} {wr : Wp β} (h : EvW b c S ta σ H (of a S) wa) (hr : EvWA b c S tr σ H t wr) : EvWA b c S (tCons ta tr) σ H (aCons a t) (tup2W wa wr) := fun ts P hP H1 f1 d hB Q q =>
  h ts _ hP H1 f1 d hB _ fun v H2 x hx f2 d2 hB2 hv => hr ts _ hx H2 (f1.trans f2) d2 hB2 _ fun vs H3 y hy f3 d3 hB3 hw => q _ H3 (x, y) hy (f2.trans f3) d3 hB3 ⟨v, vs, rfl, a.mono (f3.sub ts) hv, hw⟩
theorem ew_call {ta : TA} {t : TyA K α} {R : AS → Rl γ} {f : α → Option γ} {w : Wp α} {E : XK} (h : EvWA b c S ta σ H t w) : EvW b c S (tCall (spF t R f) [] E ta) σ H (R S) (unW f w) := fun ts P hP H1 f1 d hB Q q => by
  refine h ts _ hP H1 f1 d hB _ fun vs H2 x ⟨z, e, hz⟩ f2 d2 hB2 hv => ⟨S, x, z, d2, ?_, e, fun u H' s hu => q u H' z hz (f2.trans (Fr.same s)) (d2.same s) (hB2.same s) ((R S).back f2 hB2.dom hu)⟩
  rw [List.append_nil]
  exact hv
/-- the promise of a def that draws from the bag -/
def spB (t : TyA K α) (R : AS → Rl γ) (m : α → Wp γ) : Sp := fun vs H Q _ => ∃ S b c r x P, vs = .ref b :: r ∧ Dom S H ∧ Sub [b, c] S ∧ Bag H b c ∧ t.rp S H r x ∧ m x P ∧ ∀ u H' z, P z → Fr [b, c] H H' → Bag H' b c → (R S).r H H' u z → Q u H'
theorem ew_callB {ta : TA} {t : TyA K α} {R : AS → Rl γ} {m : α → Wp γ} {w : Wp α} {E : XK} {i : Nat} (hi : σ[i]? = some (some (.ref b))) (h : EvWA b c S ta σ H t w) :
    EvW b c S (tCall (spB t R m) [] E (tCons (tVar i) ta)) σ H (R S) (callBW m w) := fun ts P hP H1 f1 d hB Q q => by
  refine ⟨_, hi, h ts _ hP H1 f1 d hB _ fun vs H2 x hx f2 d2 hB2 hv => ⟨S, b, c, vs, x, P, by rw [List.append_nil], d2, ts, hB2, hv, hx, fun u H' z hz f3 hB3 hu => q u H' z hz (f2.trans f3) (dom_fr d2 f3 hB3) hB3 ((R S).back f2 hB2.dom hu)⟩⟩
/-! lists made -/
def EvWE (b c : Addr) (S : AS) (ta : TA) (σ : St) (H : Hp) (a : Ty K α) (n : Nat) (w : Wp (List α)) : Prop :=
  Sub [b, c] S → ∀ P, w P → ∀ H1, Fr [b, c] H H1 → Dom S H1 → Bag H1 b c → ∀ Q : List V → Hp → Prop, (∀ vs H2 x, P x → vs.length = n → Fr [b, c] H1 H2 → Dom S H2 → Bag H2 b c → All2 (a.rp S H2) vs x → Q vs H2) → ta σ H1 Q
theorem wl_nil : EvWE b c S tNil σ H a 0 (lf (some [])) := fun ts P ⟨x, e, hP⟩ H1 f d hB Q q => by cases e; exact q [] H1 [] hP rfl (Fr.refl _) d hB .nil
theorem wl_cons {tr : TA} {n : Nat} {wa : Wp α} {wr : Wp (List α)} (h : EvW b c S ta σ H (of a S) wa) (hr : EvWE b c S tr σ H a n wr) : EvWE b c S (tCons ta tr) σ H a (n + 1) (consW wa wr) := fun ts P hP H1 f1 d hB Q q =>
  h ts _ hP H1 f1 d hB _ fun v H2 x hx f2 d2 hB2 hv => hr ts _ hx H2 (f1.trans f2) d2 hB2 _ fun vs H3 y hy hl f3 d3 hB3 hw => q _ H3 (x :: y) hy (by simp [hl]) (f2.trans f3) d3 hB3 (.cons (a.mono (f3.sub ts) hv) hw)
theorem ew_lst {tr : TA} {n : Nat} {wr : Wp (List α)} (h : EvWE b c S tr σ H a n wr) (hn : n ≤ sizeLine) : EvW b c S (tLst tr) σ H (nw a S) wr := fun ts P hP H1 f d hB Q q =>
  h ts P hP H1 f d hB _ fun vs H2 x hx hl f2 d2 hB2 ha => ⟨by rw [hl]; exact hn, fun p hp => q _ _ x hx (f2.trans (Fr.same (same_new hp))) (d2.same (same_new hp)) (hB2.same (same_new hp)) ⟨p, rfl, fr_back f2 hB2.dom hp, vs, upd_same, ha.imp fun _ _ h => a.mono (Fr.same (same_new hp)) (a.ext hp h)⟩⟩
/-! statements -/
theorem lw_asg {R : Rl α} {w : Wp α} {P : α → Prop} {i : Nat} (d : Dom S H) (hB : Bag H b c) (ts : Sub [b, c] S) (h : EvW b c S te σ H R w) (e : w P) (k : ∀ v H1 x, P x → Fr [b, c] H H1 → Dom S H1 → Bag H1 b c → R.r H H1 v x → D.nx (σ.set i (some v)) H1) : tAsg te (gName i) D σ H := h ts P e H (Fr.refl _) d hB _ k
theorem qw_asg {R : Rl α} {w : Wp α} {P : α → Prop} {i : Nat} (d : Dom S H) (hB : Bag H b c) (ts : Sub [b, c] S) (h : EvW b c S te σ H R w) (e : w P) (k : ∀ v H1 x, P x → Fr [b, c] H H1 → Dom S H1 → Bag H1 b c → R.r H H1 v x → u D (σ.set i (some v)) H1) : tSeq (tAsg te (gName i)) u D σ H := h ts P e H (Fr.refl _) d hB _ k
theorem qw_ret {R : Rl α} {w : Wp α} {P : α → Prop} (d : Dom S H) (hB : Bag H b c) (ts : Sub [b, c] S) (h : EvW b c S te σ H R w) (e : w P) (k : ∀ v H1 x, P x → Fr [b, c] H H1 → Dom S H1 → Bag H1 b c → R.r H H1 v x → D.rt v H1) : tRet te D σ H := h ts P e H (Fr.refl _) d hB _ k
theorem lw_if {w : Wp Bool} {P : Bool → Prop} (d : Dom S H) (hB : Bag H b c) (ts : Sub [b, c] S) (h : BvW b c S tt σ H w) (e : w P) (k1 : ∀ H1, P true → Fr [b, c] H H1 → Dom S H1 → Bag H1 b c → t1 D σ H1) (k2 : ∀ H1, P false → Fr [b, c] H H1 → Dom S H1 → Bag H1 b c → t2 D σ H1) : tIfS tt t1 t2 D σ H := h ts P e H (Fr.refl _) d hB _ fun H1 x hx f d hB => by
  cases x with
  | true => exact k1 H1 hx f d hB
  | false => exact k2 H1 hx f d hB
theorem qw_if {w : Wp Bool} {P : Bool → Prop} (d : Dom S H) (hB : Bag H b c) (ts : Sub [b, c] S) (h : BvW b c S tt σ H w) (e : w P) (k1 : ∀ H1, P true → Fr [b, c] H H1 → Dom S H1 → Bag H1 b c → t1 { D with nx := u D } σ H1) (k2 : ∀ H1, P false → Fr [b, c] H H1 → Dom S H1 → Bag H1 b c → t2 { D with nx := u D } σ H1) : tSeq (tIfS tt t1 t2) u D σ H := lw_if (D := { D with nx := u D }) d hB ts h e k1 k2
theorem ifp_t {A B : Prop} (h : if true = true then A else B) : A := h
theorem ifp_f {A B : Prop} (h : if false = true then A else B) : B := h
theorem ifp_and {g : Bool} {A : Prop} (h : if g then A else False) : g = true ∧ A := by
  cases g with
  | true => exact ⟨rfl, h⟩
  | false => exact h.elim
/-! loops -/
def loopW (f : δ → α → Wp (Ct ρ δ)) : List α → δ → Wp (Ct ρ δ)
  | [], s, P => P (.go s)
  | x :: xs, s, P => f s x fun r => match r with | .go s' => loopW f xs s' P | .ret y => P (.ret y) | .brk s' => P (.go s')
def SrW (b c : Addr) (S : AS) (wi : TI) (σ : St) (H : Hp) (a : Ty K α) (w : Wp (List α)) : Prop :=
  Sub [b, c] S → ∀ P, w P → ∀ H1, Fr [b, c] H H1 → Dom S H1 → Bag H1 b c → ∀ R : It → Hp → Prop, (∀ J H2 xs, P xs → Fr [b, c] H1 H2 → Dom S H2 → Bag H2 b c → Wk J a S H2 xs → R J H2) → wi σ H1 R
theorem srw_pure {wi : TI} {r : Option (List α)} (h : Sr S [b, c] wi σ H a r) : SrW b c S wi σ H a (lf r) := fun ts P ⟨xs, e, hP⟩ H1 f d hB R q => h xs e H1 f d R fun J H2 s wk => q J H2 xs hP (Fr.same s) (d.same s) (hB.same s) wk
theorem srw_r1 {te : TE} {w : Wp Int} (h : EvW b c S te σ H (of (K := K) tInt S) w) : SrW b c S (iRng1 (tCons te tNil)) σ H (tInt (K := K)) (unW rng1? w) := fun ts P hP H1 f d hB R q => by
  refine h ts _ hP H1 f d hB _ fun v H2 n ⟨xs, e, hx⟩ f2 d2 hB2 hv => ?_
  unfold rng1? at e
  split at e
  · rename_i hn
    cases e
    have hb := rngP_le hn
    cases hv
    exact ⟨n, rfl, hb.1, hb.2, q _ H2 _ hx f2 d2 hB2 wk_rng⟩
  · cases e
theorem lw_for_s {wi : TI} {j : Nat} {tb : TS} {w : Wp (List α)} {s0 : δ} {f : δ → α → Wp (Ct ρ δ)} {P : Ct ρ δ → Prop} (d : Dom S H) (hB : Bag H b c) (ts : Sub [b, c] S) (h : SrW b c S wi σ H a w) (hf : w fun xs => loopW f xs s0 P)
    (I : δ → St → Hp → Prop) (h0 : ∀ H1, Fr [b, c] H H1 → Dom S H1 → Bag H1 b c → I s0 σ H1)
    (step : (∀ s σ' H', P (.go s) → I s σ' H' → D.nx σ' H') → ∀ (s : δ) (x : α) (C : Ct ρ δ → Prop) (v : V) (σ' : St) (H' : Hp), I s σ' H' → a.rp S H' v x → f s x C → (∀ y, C (.ret y) → P (.ret y)) → (∀ s', C (.brk s') → P (.go s')) →
      tb { D with nx := fun σ2 H2 => ∃ s', C (.go s') ∧ Fr S H' H2 ∧ I s' σ2 H2, ct := fun σ2 H2 => ∃ s', C (.go s') ∧ Fr S H' H2 ∧ I s' σ2 H2, bk := D.nx } (σ'.set j (some v)) H')
    (done : ∀ s σ' H', P (.go s) → I s σ' H' → D.nx σ' H') : tFor wi (gName j) tb D σ H := by
  refine h ts _ hf H (Fr.refl _) d hB _ fun J H1 xs hl0 f1 d1 hB1 wk => ?_
  refine ⟨fun i m σ' H' => m = xs.length - i ∧ i ≤ xs.length ∧ Fr S H1 H' ∧ ∃ s, I s σ' H' ∧ loopW f (xs.drop i) s P, ⟨_, rfl, Nat.zero_le _, Fr.refl _, s0, h0 H1 f1 d1 hB1, hl0⟩, ?_⟩
  rintro i m σ' H' ⟨rfl, hi, fr, s, hI, hl⟩
  by_cases c : i < xs.length
  · right
    rw [List.drop_eq_getElem_cons c] at hl
    simp only [loopW] at hl
    refine ⟨wk.go H' i fr c, fun σ2 H2 => ∃ s', loopW f (xs.drop (i + 1)) s' P ∧ Fr S H' H2 ∧ I s' σ2 H2, ?_, ?_⟩
    · rintro σ2 H2 ⟨s', hl', f2, hI'⟩
      exact ⟨xs.length - (i + 1), by omega, rfl, by omega, fr.trans f2, s', hI', hl'⟩
    · intro v H2 hy
      obtain ⟨rfl, hv⟩ := wk.yl H' i v H2 fr hy _ (List.getElem?_eq_getElem c)
      exact step done s xs[i] _ v σ' _ hI (a.mono fr hv) hl (fun y ey => ey) (fun s' ey => ey)
  · left
    refine ⟨wk.st H' i fr (by omega), ?_⟩
    rw [List.drop_eq_nil_of_le (by omega)] at hl
    exact done s σ' H' hl hI
theorem qw_for_s {wi : TI} {j : Nat} {tb : TS} {w : Wp (List α)} {s0 : δ} {f : δ → α → Wp (Ct ρ δ)} {P : Ct ρ δ → Prop} (d : Dom S H) (hB : Bag H b c) (ts : Sub [b, c] S) (h : SrW b c S wi σ H a w) (hf : w fun xs => loopW f xs s0 P)
    (I : δ → St → Hp → Prop) (h0 : ∀ H1, Fr [b, c] H H1 → Dom S H1 → Bag H1 b c → I s0 σ H1)
    (step : (∀ s σ' H', P (.go s) → I s σ' H' → u D σ' H') → ∀ (s : δ) (x : α) (C : Ct ρ δ → Prop) (v : V) (σ' : St) (H' : Hp), I s σ' H' → a.rp S H' v x → f s x C → (∀ y, C (.ret y) → P (.ret y)) → (∀ s', C (.brk s') → P (.go s')) →
      tb { D with nx := fun σ2 H2 => ∃ s', C (.go s') ∧ Fr S H' H2 ∧ I s' σ2 H2, ct := fun σ2 H2 => ∃ s', C (.go s') ∧ Fr S H' H2 ∧ I s' σ2 H2, bk := u D } (σ'.set j (some v)) H')
    (done : ∀ s σ' H', P (.go s) → I s σ' H' → u D σ' H') : tSeq (tFor wi (gName j) tb) u D σ H := lw_for_s (D := { D with nx := u D }) d hB ts h hf I h0 step done
theorem _root_.G.Bag.mut {p : Addr} {H H' : Hp} (h : Bag H b c) (m : Mut1 p H H') (n : p ∉ [b, c]) : Bag H' b c := by
  obtain ⟨ne, ns, sl, sd, h1, h2, r⟩ := h
  simp only [List.mem_cons, List.not_mem_nil, or_false, not_or] at n
  exact ⟨ne, ns, sl, sd, m.k _ _ h1 (Ne.symm n.1), m.k _ _ h2 (Ne.symm n.2), r⟩
def jn (f : (δ → Prop) → Prop) (k : δ → Prop) : Prop := f k
theorem jn_open {f : (δ → Prop) → Prop} {k : δ → Prop} (h : jn f k) : ∃ K_ : δ → Prop, (∀ j, K_ j → k j) ∧ f K_ := ⟨k, fun _ h => h, h⟩
/-! owned lists read -/
theorem ev_ownIx {p : Addr} {xs : List α} {i : Nat} {r : Option Int} (o : Own a S H p xs) (nt : p ∉ T) (ts : Sub T S) (hi : σ[i]? = some (some (.ref p))) (h : Ev S T te σ H (of (K := K) tInt S) r) : Ev S T (tOp (rIxL K) (tVar i) te) σ H (of a S) (bd r fun y => atI xs y) := by
  intro z e H1 f1 d Q q
  obtain ⟨y, ey, e⟩ := bd_some e
  refine ⟨_, hi, h y ey H1 f1 d _ fun v H2 s2 hv => ?_⟩
  cases hv
  obtain ⟨vs, hvs, ha⟩ := (o.fr f1 ts nt).same s2
  obtain ⟨w, hw, hz⟩ := ha.at e
  exact ⟨p, vs, y, w, rfl, rfl, .inl (.inl hvs), hw, q _ _ s2 hz⟩
theorem ev_ownLen {p : Addr} {xs : List α} {i : Nat} (o : Own a S H p xs) (nt : p ∉ T) (ts : Sub T S) (hi : σ[i]? = some (some (.ref p))) : Ev S T (tCB (fun xs H Q => ∃ p ys, xs = [.ref p] ∧ (SqL K H p ys ∨ SqT K H p ys) ∧ Q (.int ys.length) H) (tCons (tVar i) tNil)) σ H (of (K := K) tInt S) (some (xs.length : Int)) := by
  intro z e H1 f1 d Q q
  cases e
  obtain ⟨vs, hvs, ha⟩ := o.fr f1 ts nt
  exact ⟨_, hi, p, vs, rfl, .inl (.inl (.inl hvs)), q _ _ (Same.refl _) (by show V.int _ = V.int _; rw [ha.len])⟩
theorem ev_ownNe [DecidableEq α] (dt : TyD a) (hd : (dL dt).dep ≤ 64) {p : Addr} {xs : List α} {i : Nat} {r : Option (List α)} (o : Own a S H p xs) (nt : p ∉ T) (ts : Sub T S) (hi : σ[i]? = some (some (.ref p))) (h : Ev S T te σ H (of (tL a) S) r) : Ev S T (tOp (rNeD K) (tVar i) te) σ H (of (K := K) tBool S) (bd r fun y => some (!decide (xs = y))) := by
  intro z e H1 f1 d Q q
  obtain ⟨y, ey, e⟩ := bd_some e
  cases e
  refine ⟨_, hi, h y ey H1 f1 d _ fun v H2 s2 hv => ?_⟩
  obtain ⟨vs, hvs, ha⟩ := (o.fr f1 ts nt).same s2
  have rp0 : (tL a).rp [] H2 (.ref p) xs := ⟨p, vs, rfl, ⟨hvs, by simp⟩, ha.imp fun _ _ => a.sub fun _ m => by simp at m⟩
  refine ⟨_, _, (dL dt).dp rp0, (dL dt).dp hv, (dL dt).shaped hd rp0, (dL dt).shaped hd hv, ?_⟩
  rw [(dL dt).dec]
  exact q _ _ s2 rfl
end
end M

namespace M
open PySem L2 G
section
variable {K : PySem.W.Frag} {α β γ δ ε ρ : Type} {S T : AS} {σ : St} {H : Hp} {ta tb te tc td : TE} {tt tu : TT} {a : Ty K α} {b' : Ty K β} {c' : Ty K γ} {d' : Ty K δ} {D : Ends} {u t1 t2 : TS} {b c : Addr}
/-! ### None or a thing -/
def optM (o : Option α) (A : β) (B : α → β) : β := match o with | none => A | some x => B x
theorem opt_cases {o : Option α} {A : Option β} {B : α → Option β} {y : β} (h : optM o A B = some y) : (o = none ∧ A = some y) ∨ ∃ x, o = some x ∧ B x = some y := by
  cases o with
  | none => exact .inl ⟨rfl, h⟩
  | some x => exact .inr ⟨x, rfl, h⟩
theorem optp_cases {o : Option α} {A : Prop} {B : α → Prop} (h : optM o A B) : (o = none ∧ A) ∨ ∃ x, o = some x ∧ B x := by
  cases o with
  | none => exact .inl ⟨rfl, h⟩
  | some x => exact .inr ⟨x, rfl, h⟩
/-- a code whose things are never None -/
class NN (a : Ty K α) : Prop where
  h : ∀ {S H v x}, a.rp S H v x → v ≠ .non
instance : NN (K := K) tInt := ⟨fun h => by rw [show _ = _ from h]; intro z; cases z⟩
instance : NN (K := K) tBool := ⟨fun h => by rw [show _ = _ from h]; intro z; cases z⟩
instance : NN (K := K) tStr := ⟨fun h => by rw [h.1]; intro z; cases z⟩
instance : NN (K := K) tRat := ⟨fun ⟨p, e, _⟩ => by rw [e]; intro z; cases z⟩
instance : NN (tT2 a b') := ⟨fun ⟨p, u, w, e, _⟩ => by rw [e]; intro z; cases z⟩
instance : NN (tL a) := ⟨fun ⟨p, u, e, _⟩ => by rw [e]; intro z; cases z⟩
instance : NN (tTs a) := ⟨fun ⟨p, u, e, _⟩ => by rw [e]; intro z; cases z⟩
theorem ev_oN {r : Option Unit} (h : Ev S T te σ H (of (K := K) tNone S) r) : Ev S T te σ H (of (tOpt a) S) (bd r fun _ => some none) := ev_as h fun x y e H1 H2 v d hv => by
  cases e
  exact hv
theorem ev_oS [NN a] {r : Option α} (h : Ev S T te σ H (of a S) r) : Ev S T te σ H (of (tOpt a) S) (bd r fun x => some (some x)) := ev_as h fun x y e H1 H2 v d hv => by
  cases e
  exact ⟨NN.h hv, hv⟩
theorem eb_isN (ts : Sub T S) {i : Nat} {v : V} {x : Option α} (h : (tOpt a).rp S H v x) (e : σ[i]? = some (some v)) : EvB S T (tTest (tOp (fun x y H Q => y = .non ∧ Q (.bl (decide (x = .non))) H) (tVar i) (tC .non))) σ H (some x.isNone) := by
  intro z ez H1 f d Q q
  cases ez
  refine ⟨v, e, rfl, _, rfl, ?_⟩
  cases x with
  | none => rw [show v = .non from h]; exact q H1 (Same.refl _)
  | some y => rw [decide_eq_false h.1]; exact q H1 (Same.refl _)
theorem eb_notN (ts : Sub T S) {i : Nat} {v : V} {x : Option α} (h : (tOpt a).rp S H v x) (e : σ[i]? = some (some v)) : EvB S T (tTest (tOp (fun x y H Q => y = .non ∧ Q (.bl (!decide (x = .non))) H) (tVar i) (tC .non))) σ H (some x.isSome) := by
  intro z ez H1 f d Q q
  cases ez
  refine ⟨v, e, rfl, _, rfl, ?_⟩
  cases x with
  | none => rw [show v = .non from h]; exact q H1 (Same.refl _)
  | some y => rw [decide_eq_false h.1]; exact q H1 (Same.refl _)
theorem opt_is {v : V} {x : Option α} {y : α} (h : (tOpt a).rp S H v x) (e : x = some y) : a.rp S H v y := by
  subst e
  exact h.2
theorem opt_back [NN a] {v : V} {x : Option α} {y : α} (h : a.rp S H v y) (e : x = some y) : (tOpt a).rp S H v x := by
  subst e
  exact ⟨NN.h h, h⟩
/-! ### tuples of four -/
def tT4 (c1 : Ty K α) (c2 : Ty K β) (c3 : Ty K γ) (c4 : Ty K δ) : Ty K (α × β × γ × δ) where
  rp S H v x := ∃ a u1 u2 u3 u4, v = .ref a ∧ nT K S H a [u1, u2, u3, u4] ∧ c1.rp S H u1 x.1 ∧ c2.rp S H u2 x.2.1 ∧ c3.rp S H u3 x.2.2.1 ∧ c4.rp S H u4 x.2.2.2
  mono f := fun ⟨a, u1, u2, u3, u4, e, h, h1, h2, h3, h4⟩ => ⟨a, u1, u2, u3, u4, e, h.mono f, c1.mono f h1, c2.mono f h2, c3.mono f h3, c4.mono f h4⟩
  ext f := fun ⟨a, u1, u2, u3, u4, e, h, h1, h2, h3, h4⟩ => ⟨a, u1, u2, u3, u4, e, h.ext f, c1.ext f h1, c2.ext f h2, c3.ext f h3, c4.ext f h4⟩
  sub f := fun ⟨a, u1, u2, u3, u4, e, h, h1, h2, h3, h4⟩ => ⟨a, u1, u2, u3, u4, e, h.sub f, c1.sub f h1, c2.sub f h2, c3.sub f h3, c4.sub f h4⟩
theorem ev_tup4 {ra : Option α} {rb : Option β} {rc : Option γ} {rd : Option δ} (ha : Ev S T ta σ H (of a S) ra) (hb : Ev S T tb σ H (of b' S) rb) (hc : Ev S T tc σ H (of c' S) rc) (hd : Ev S T td σ H (of d' S) rd) :
    Ev S T (tTup (tCons ta (tCons tb (tCons tc (tCons td tNil))))) σ H (of (tT4 a b' c' d') S) (bd ra fun x => bd rb fun y => bd rc fun z => bd rd fun w => some (x, y, z, w)) := by
  intro z e H1 f1 d Q q
  obtain ⟨x, ex, e⟩ := bd_some e
  obtain ⟨y, ey, e⟩ := bd_some e
  obtain ⟨z3, ez, e⟩ := bd_some e
  obtain ⟨w4, ew, e⟩ := bd_some e
  cases e
  refine ha x ex H1 f1 d _ fun v1 H2 s2 h1 => hb y ey H2 (f1.trans (Fr.same s2)) (d.same s2) _ fun v2 H3 s3 h2 => hc z3 ez H3 (f1.trans (Fr.same (s2.trans s3))) (d.same (s2.trans s3)) _ fun v3 H4 s4 h3 => hd w4 ew H4 (f1.trans (Fr.same ((s2.trans s3).trans s4))) (d.same ((s2.trans s3).trans s4)) _ fun v4 H5 s5 h4 => ⟨(by show 4 ≤ sizeLine; decide), fun p hp => ?_⟩
  have sn := same_new (o := .tup [v1, v2, v3, v4]) hp
  have dd := d.same (((s2.trans s3).trans s4).trans s5)
  exact q _ _ ((((s2.trans s3).trans s4).trans s5).trans sn) ⟨p, v1, v2, v3, v4, rfl, .inl ⟨.inl upd_same, dd.not_mem hp⟩, a.mono (Fr.same (((s3.trans s4).trans s5).trans sn)) h1, b'.mono (Fr.same ((s4.trans s5).trans sn)) h2, c'.mono (Fr.same (s5.trans sn)) h3, d'.mono (Fr.same sn) h4⟩
/-! a, b = e -/
theorem q_unp2 {i j : Nat} {r : Option (α × β)} {x : α × β} (d : Dom S H) (h : Ev S T te σ H (of (tT2 a b') S) r) (e : r = some x) (k : ∀ v w H1, Same H H1 → a.rp S H1 v x.1 → b'.rp S H1 w x.2 → u D ((σ.set i (some v)).set j (some w)) H1) :
    tSeq (tAsg te (gTup K 2 (gCons (gName i) (gCons (gName j) gNil)))) u D σ H := h x e H (Fr.refl _) d _ fun v H1 s1 ⟨p, u1, u2, ev, hp, h1, h2⟩ => ⟨p, _, ev, hp.sq, rfl, u1, _, rfl, u2, _, rfl, rfl, k u1 u2 H1 s1 h1 h2⟩
theorem q_unp4 {i j l m : Nat} {r : Option (α × β × γ × δ)} {x : α × β × γ × δ} (d : Dom S H) (h : Ev S T te σ H (of (tT4 a b' c' d') S) r) (e : r = some x) (k : ∀ v1 v2 v3 v4 H1, Same H H1 → a.rp S H1 v1 x.1 → b'.rp S H1 v2 x.2.1 → c'.rp S H1 v3 x.2.2.1 → d'.rp S H1 v4 x.2.2.2 → u D ((((σ.set i (some v1)).set j (some v2)).set l (some v3)).set m (some v4)) H1) :
    tSeq (tAsg te (gTup K 4 (gCons (gName i) (gCons (gName j) (gCons (gName l) (gCons (gName m) gNil)))))) u D σ H := h x e H (Fr.refl _) d _ fun v H1 s1 ⟨p, u1, u2, u3, u4, ev, hp, h1, h2, h3, h4⟩ => ⟨p, _, ev, hp.sq, rfl, u1, _, rfl, u2, _, rfl, u3, _, rfl, u4, _, rfl, rfl, k u1 u2 u3 u4 H1 s1 h1 h2 h3 h4⟩
theorem ev_revL {r : Option (List α)} (h : Ev S T te σ H (of (tL a) S) r) : Ev S T (tRevL K te) σ H (nw a S) (bd r fun x => some x.reverse) := by
  intro z e H1 f1 d Q q
  obtain ⟨x, ex, e⟩ := bd_some e
  cases e
  refine h x ex H1 f1 d _ fun v H2 s2 hv => ?_
  obtain ⟨p, vs, rfl, hp, ha⟩ := hv
  have hr : ∀ {vs : List V} {xs : List α}, All2 (a.rp S H2) vs xs → All2 (a.rp S H2) vs.reverse xs.reverse := fun {vs xs} h => by
    induction h with
    | nil => exact .nil
    | cons h _ ih => rw [List.reverse_cons, List.reverse_cons]; exact ih.snoc h
  exact ⟨p, vs, rfl, hp.sq, fun l hl => q _ _ (s2.trans (same_new hl)) ⟨l, rfl, s2.free hl, _, upd_same, (hr ha).imp fun _ _ h => a.mono (Fr.same (same_new hl)) (a.ext hl h)⟩⟩
end
end M

namespace M
open PySem L2 G
section
variable {K : PySem.W.Frag} {α β γ δ ε ρ : Type} {S T : AS} {σ : St} {H : Hp} {ta tb te tc td : TE} {tt tu : TT} {a : Ty K α} {b' : Ty K β} {c' : Ty K γ} {d' : Ty K δ} {D : Ends} {u t1 t2 : TS} {b c : Addr}
def rLenQ (K : PySem.W.Frag) : List V → Hp → VK → Prop := fun xs H Q => ∃ p ys, xs = [.ref p] ∧ (SqL K H p ys ∨ SqT K H p ys) ∧ Q (.int ys.length) H
/-! ### lists put together -/
def cat? (xs ys : List α) : Option (List α) := if xs.length + ys.length ≤ 100000 then some (xs ++ ys) else none
theorem od_cat : OpD (tL a) (tL a) S (nw a S) rCat cat? := by
  intro x y z e H1 v w d hv hw Q q
  unfold cat? at e
  split at e
  · rename_i hl
    cases e
    obtain ⟨p, vs, rfl, hp, ha⟩ := hv
    obtain ⟨p', ws, rfl, hp', hb⟩ := hw
    refine ⟨p, p', vs, ws, rfl, rfl, hp.1, hp'.1, Nat.le_trans (by rw [ha.len, hb.len]; exact hl) (by decide), fun l hl => q _ _ (same_new hl) ⟨l, rfl, hl, _, upd_same, (ha.app hb).imp fun _ _ h => a.mono (Fr.same (same_new hl)) (a.ext hl h)⟩⟩
  · cases e
theorem ev_catO {p : Addr} {ys : List α} {i : Nat} {ra : Option (List α)} (o : Own a S H p ys) (nt : p ∉ T) (ts : Sub T S) (hi : σ[i]? = some (some (.ref p))) (ha : Ev S T ta σ H (of (tL a) S) ra) : Ev S T (tOp rCat ta (tVar i)) σ H (nw a S) (bd ra fun x => cat? x ys) := by
  intro z e H1 f1 d Q q
  obtain ⟨x, ex, e⟩ := bd_some e
  unfold cat? at e
  split at e
  · rename_i hl
    cases e
    refine ha x ex H1 f1 d _ fun v H2 s2 hv => ⟨_, hi, ?_⟩
    obtain ⟨ws, hw, hb⟩ := (o.fr f1 ts nt).same s2
    obtain ⟨p', vs, rfl, hp, hvs⟩ := hv
    exact ⟨p', p, vs, ws, rfl, rfl, hp.1, hw, Nat.le_trans (by rw [hvs.len, hb.len]; exact hl) (by decide), fun l hl => q _ _ (s2.trans (same_new hl)) ⟨l, rfl, s2.free hl, _, upd_same, (hvs.app hb).imp fun _ _ h => a.mono (Fr.same (same_new hl)) (a.ext hl h)⟩⟩
  · cases e
theorem Fr.transx {S S' : AS} {H0 H1 H2 : Hp} (f : Fr S H0 H1) (g : Fr S' H1 H2) (h : ∀ a ∈ S', a ∉ S → H0 a = none) : Fr S H0 H2 := fun a o e n => g a o (f a o e n) fun m => by rw [h a m n] at e; cases e
theorem fresh_cons {S S' : AS} {H0 : Hp} {p : Addr} (h : ∀ a ∈ S', a ∉ S → H0 a = none) (n : H0 p = none) : ∀ a ∈ p :: S', a ∉ S → H0 a = none := fun a m k => by
  rcases List.mem_cons.mp m with rfl | m
  · exact n
  · exact h a m k
def rep? (xs : List α) (k : Int) : Option (List α) := if 0 ≤ k ∧ k ≤ 1000 ∧ xs.length ≤ 100 then some (List.replicate k.toNat xs).flatten else none
theorem All2.rep {F : V → α → Prop} {vs : List V} {xs : List α} (h : All2 F vs xs) : ∀ n : Nat, All2 F (List.replicate n vs).flatten (List.replicate n xs).flatten
  | 0 => .nil
  | n + 1 => by
    rw [List.replicate_succ, List.replicate_succ, List.flatten_cons, List.flatten_cons]
    exact h.app (All2.rep h n)
theorem od_rep : OpD (tL a) (K := K) tInt S (nw a S) rRep rep? := by
  intro x y z e H1 v w d hv hw Q q
  unfold rep? at e
  split at e
  · rename_i hl
    cases e
    obtain ⟨p, vs, rfl, hp, ha⟩ := hv
    cases hw
    refine ⟨p, y, vs, rfl, rfl, hp.1, by omega, by omega, ?_, fun l hl => q _ _ (same_new hl) ⟨l, rfl, hl, _, upd_same, (ha.rep _).imp fun _ _ h => a.mono (Fr.same (same_new hl)) (a.ext hl h)⟩⟩
    refine Nat.le_trans (Nat.mul_le_mul (show vs.length ≤ 100 by rw [ha.len]; omega) (show y.toNat ≤ 1000 by omega)) (by decide)
  · cases e
/-! ### the least of several -/
theorem All2.ints {S : AS} {H : Hp} : ∀ {vs : List V} {xs : List Int}, All2 ((tInt (K := K)).rp S H) vs xs → vs = xs.map V.int
  | _, _, .nil => rfl
  | _, _, .cons h r => by rw [List.map_cons, ← All2.ints r, show _ = _ from h]
theorem ev_min {r : Option (List Int)} (h : Ev S T te σ H (of (K := K) (tL tInt) S) r) : Ev S T (tCB (rMin K) (tCons te tNil)) σ H (of (K := K) tInt S) (bd r fun x => x.min?) := by
  intro z e H1 f1 d Q q
  obtain ⟨x, ex, e⟩ := bd_some e
  have hm := List.min?_eq_some_iff.mp e
  refine h x ex H1 f1 d _ fun v H2 s hv => ?_
  obtain ⟨p, vs, rfl, hp, ha⟩ := hv
  refine ⟨p, x, rfl, by rw [← ha.ints]; exact hp.sq, List.length_pos_of_mem hm.1, fun m h1 h2 => ?_⟩
  have : m = z := Int.le_antisymm (h2 z hm.1) (hm.2 m h1)
  rw [this]
  exact q _ H2 s rfl
/-! ### in -/
theorem inV_int (i : Int) : ∀ xs : List Int, inV (.int i) (xs.map V.int) = decide (i ∈ xs)
  | [] => by simp [inV]
  | x :: r => by
    have ih := inV_int i r
    unfold inV at ih ⊢
    rw [List.map_cons, List.any_cons, ih]
    have : eqV (.int x) (.int i) = decide (x = i) := by
      simp [eqV]
      rfl
    rw [this]
    by_cases c : x = i
    · subst c; simp
    · have : ¬ i = x := fun z => c z.symm
      simp [c, this]
theorem flat_ints : ∀ xs : List Int, (xs.map V.int).all flatV = true
  | [] => rfl
  | x :: r => by rw [List.map_cons, List.all_cons, flat_ints r]; rfl
theorem od_inI {neg : Bool} : OpD (K := K) tInt (tL tInt) S (of (K := K) tBool S) (rIn K neg) (fun x xs => some (if neg then !decide (x ∈ xs) else decide (x ∈ xs))) := by
  intro x y z e H1 v w d hv hw Q q
  cases e
  obtain ⟨p, vs, rfl, hp, ha⟩ := hw
  cases hv
  refine ⟨p, vs, rfl, .inl hp.sq, rfl, by rw [ha.ints]; exact flat_ints y, ?_⟩
  rw [ha.ints, inV_int]
  exact q _ H1 (Same.refl _) rfl
theorem od_inIT {neg : Bool} : OpD (K := K) tInt (tTs tInt) S (of (K := K) tBool S) (rIn K neg) (fun x xs => some (if neg then !decide (x ∈ xs) else decide (x ∈ xs))) := by
  intro x y z e H1 v w d hv hw Q q
  cases e
  obtain ⟨p, vs, rfl, hp, ha⟩ := hw
  cases hv
  refine ⟨p, vs, rfl, .inr hp.sq, rfl, by rw [ha.ints]; exact flat_ints y, ?_⟩
  rw [ha.ints, inV_int]
  exact q _ H1 (Same.refl _) rfl
/-! ### a list or a tuple -/
def tSq (a : Ty K α) : Ty K (List α) where
  rp S H v xs := (tL a).rp S H v xs ∨ (tTs a).rp S H v xs
  mono f := fun h => h.elim (fun h => .inl ((tL a).mono f h)) (fun h => .inr ((tTs a).mono f h))
  ext f := fun h => h.elim (fun h => .inl ((tL a).ext f h)) (fun h => .inr ((tTs a).ext f h))
  sub f := fun h => h.elim (fun h => .inl ((tL a).sub f h)) (fun h => .inr ((tTs a).sub f h))
theorem ev_L2Sq {r : Option (List α)} (h : Ev S T te σ H (of (tL a) S) r) : Ev S T te σ H (of (tSq a) S) r := fun x e H1 f d Q q => h x e H1 f d Q fun v H2 s hv => q v H2 s (.inl hv)
theorem ev_T2Sq {r : Option (List α)} (h : Ev S T te σ H (of (tTs a) S) r) : Ev S T te σ H (of (tSq a) S) r := fun x e H1 f d Q q => h x e H1 f d Q fun v H2 s hv => q v H2 s (.inr hv)
theorem od_inISq {neg : Bool} : OpD (K := K) tInt (tSq tInt) S (of (K := K) tBool S) (rIn K neg) (fun x xs => some (if neg then !decide (x ∈ xs) else decide (x ∈ xs))) := by
  intro x y z e H1 v w d hv hw Q q
  rcases hw with hw | hw
  · exact od_inI x y z e H1 v w d hv hw Q q
  · exact od_inIT x y z e H1 v w d hv hw Q q
theorem ev_listSq {r : Option (List α)} (h : Ev S T te σ H (of (tSq a) S) r) : Ev S T (tCB (fun xs H Q => ∃ p ys, xs = [.ref p] ∧ (SqL K H p ys ∨ SqT K H p ys) ∧ ∀ l, H l = none → Q (.ref l) (upd H l (.lst ys))) (tCons te tNil)) σ H (nw a S) r := fun x e H1 f d Q q => by
  refine h x e H1 f d _ fun v H2 s2 hv => ?_
  rcases hv with ⟨p, vs, rfl, hp, ha⟩ | ⟨p, vs, rfl, hp, ha⟩
  · exact ⟨p, vs, rfl, .inl hp.sq, fun l hl => q _ _ (s2.trans (same_new hl)) ⟨l, rfl, s2.free hl, vs, upd_same, ha.imp fun _ _ h => a.mono (Fr.same (same_new hl)) (a.ext hl h)⟩⟩
  · exact ⟨p, vs, rfl, .inr hp.sq, fun l hl => q _ _ (s2.trans (same_new hl)) ⟨l, rfl, s2.free hl, vs, upd_same, ha.imp fun _ _ h => a.mono (Fr.same (same_new hl)) (a.ext hl h)⟩⟩
/-! ### tuple(xs) -/
theorem ev_tupleL {r : Option (List α)} (h : Ev S T te σ H (of (tL a) S) r) : Ev S T (tCB (fun xs H Q => ∃ p ys, xs = [.ref p] ∧ ((SqL K H p ys ∧ ∀ l, H l = none → Q (.ref l) (upd H l (.tup ys))) ∨ (SqT K H p ys ∧ Q (.ref p) H))) (tCons te tNil)) σ H (of (tTs a) S) r := fun x e H1 f d Q q => by
  refine h x e H1 f d _ fun v H2 s2 hv => ?_
  obtain ⟨p, vs, rfl, hp, ha⟩ := hv
  exact ⟨p, vs, rfl, .inl ⟨hp.sq, fun l hl => q _ _ (s2.trans (same_new hl)) ⟨l, vs, rfl, .inl ⟨.inl upd_same, (d.same s2).not_mem hl⟩, ha.imp fun _ _ h => a.mono (Fr.same (same_new hl)) h⟩⟩⟩
/-! ### xs[i] = e of an owned list -/
def set? (xs : List α) (i : Int) (x : α) : Option (List α) := (ixN xs.length i).bind fun j => some (xs.set j x)
theorem l_set {p : Addr} {xs ys : List α} {i : Nat} {r : Option α} {ri : Option Int} {x : α} {k : Int} (d : Dom S H) (o : Own a S H p xs) (im : p ∈ S) (nt : p ∉ T) (ts : Sub T S) (hi : σ[i]? = some (some (.ref p))) (h : Ev S T te σ H (of a S) r) (e : r = some x) (hk : Ev S T td σ H (of (K := K) tInt S) ri) (ek : ri = some k) (f : set? xs k x = some ys)
    (q : ∀ H1, Mut1 p H H1 → Fr S H H1 → Own a S H1 p ys → D.nx σ H1) : tAsg te (gSub (tVar i) td rSetL) D σ H := by
  obtain ⟨vs, hv, ha⟩ := o
  obtain ⟨j, ej, f⟩ := bd_some f
  cases f
  refine h x e H (Fr.refl _) d _ fun v H1 s1 hx => ⟨_, hi, hk k ek H1 (Fr.same s1) (d.same s1) _ fun w H2 s2 hw => ?_⟩
  cases hw
  refine ⟨p, vs, k, j, rfl, rfl, s2 _ _ (s1 _ _ hv), by rw [ha.len]; exact ej, ?_⟩
  have f1 : Fr S H2 (upd H2 p (.lst (vs.set j v))) := fr_upd im
  refine q _ ⟨fun b ob e n => by rw [upd_ne n]; exact s2 _ _ (s1 _ _ e), by rw [upd_same]; intro z; cases z⟩ ((Fr.same (s1.trans s2)).trans f1) ⟨_, upd_same, ?_⟩
  exact (All2.set (a.mono (Fr.same s2) hx) j (ha.imp fun _ _ h => a.mono (Fr.same (s1.trans s2)) h)).imp fun _ _ h => a.mono f1 h
theorem q_set {p : Addr} {xs ys : List α} {i : Nat} {r : Option α} {ri : Option Int} {x : α} {k : Int} (d : Dom S H) (o : Own a S H p xs) (im : p ∈ S) (nt : p ∉ T) (ts : Sub T S) (hi : σ[i]? = some (some (.ref p))) (h : Ev S T te σ H (of a S) r) (e : r = some x) (hk : Ev S T td σ H (of (K := K) tInt S) ri) (ek : ri = some k) (f : set? xs k x = some ys)
    (q : ∀ H1, Mut1 p H H1 → Fr S H H1 → Own a S H1 p ys → u D σ H1) : tSeq (tAsg te (gSub (tVar i) td rSetL)) u D σ H := l_set (D := { D with nx := u D }) d o im nt ts hi h e hk ek f q
/-! ### range(a, b, -1) -/
def dnL (i : Int) (n : Nat) : List Int := (List.range n).map fun (k : Nat) => i - (k : Int)
def rng3? (i j : Int) : Option (List Int) := if rngP i && rngP j then some (dnL i (i - j).toNat) else none
theorem wk_dn {i : Int} {n : Nat} : Wk (Itc i (-1) n) (tInt (K := K)) S H (dnL i n) where
  go H' k f hi := by
    show k < n
    simpa [dnL] using hi
  yl H' k v H'' f h y hy := by
    obtain ⟨e, hx⟩ := h
    refine ⟨e, ?_⟩
    unfold dnL at hy
    rw [List.getElem?_map] at hy
    cases q : (List.range n)[k]? with
    | none => rw [q] at hy; cases hy
    | some m =>
      rw [q] at hy
      cases hy
      have : m = k := by
        have := (List.getElem?_eq_some_iff.mp q).2
        simp at this
        omega
      subst this
      rw [hx]
      show V.int (i + ((m : Nat) : Int) * -1) = V.int (i - (m : Int))
      congr 1
      omega
  st H' k f hi := by
    show n ≤ k
    simpa [dnL] using hi
theorem sr_r3 {te tg : TE} {r r' : Option Int} (h : Ev S T te σ H (of (K := K) tInt S) r) (h' : Ev S T tg σ H (of (K := K) tInt S) r') : Sr S T (iRng3 (tCons te (tCons tg (tCons (tUn (rU fun i => .int (-i)) (tC (.int 1))) tNil)))) σ H (tInt (K := K)) (bd r fun x => bd r' fun y => rng3? x y) := fun xs e H1 f d R q => by
  obtain ⟨lo, el, e⟩ := bd_some e
  obtain ⟨n, en, e⟩ := bd_some e
  unfold rng3? at e
  split at e
  · rename_i hn
    cases e
    rw [Bool.and_eq_true] at hn
    have hb := rngP_le hn.1
    have hc := rngP_le hn.2
    refine h lo el H1 f d _ fun v H2 s hv => h' n en H2 (f.trans (Fr.same s)) (d.same s) _ fun v' H3 s3 hv' => ?_
    cases hv
    cases hv'
    exact ⟨1, rfl, lo, n, -1, _, rfl, RgC.neg hb.1 hb.2 hc.1 hc.2, q _ H3 (s.trans s3) wk_dn⟩
  · cases e
end
end M

namespace M
open PySem L2 G
section
variable {K : PySem.W.Frag} {α β γ δ ε ρ : Type} {S T : AS} {σ : St} {H : Hp} {ta tb te tc td : TE} {tt tu : TT} {a : Ty K α} {b' : Ty K β} {D : Ends} {u t1 t2 : TS} {b c : Addr}
/-! ### comprehensions that draw -/
def filW (f : α → Wp (Option β)) : List α → Wp (List β)
  | [], P => P []
  | x :: xs, P => f x fun o => filW f xs fun ys => P (o.toList ++ ys)
def lcW (w : Wp (List α)) (f : α → Wp (Option β)) : Wp (List β) := fun P => w fun xs => if xs.length < 100000 then filW f xs P else False
theorem ew_lcCore {wi : TI} {j : Nat} {ws : List Nat} {w : Wp (List α)} {f : α → Wp (Option β)} (h : SrW b c S wi σ H a w) (hw : ∀ x, wipe ((wipe σ ws).set j (some x)) ws = wipe σ ws)
    (he : ∀ (x : α) (v : V) (H2 H' : Hp) (p : Addr) (Po : Option β → Prop), Sub [b, c] S → Fr [b, c] H H2 → H2 p = none → Fr [b, c] H2 H' → a.rp (p :: S) H' v x → Dom (p :: S) H' → Bag H' b c → f x Po → ∀ (Q1 : V → Hp → Prop) (Q0 : Hp → Prop),
      (∀ y w H3, Po (some y) → Fr [b, c] H' H3 → Dom (p :: S) H3 → Bag H3 b c → b'.rp (p :: S) H3 w y → Q1 w H3) → (∀ H3, Po none → Fr [b, c] H' H3 → Dom (p :: S) H3 → Bag H3 b c → Q0 H3) →
      tt ((wipe σ ws).set j (some v)) H' fun k H3 => if k = true then te ((wipe σ ws).set j (some v)) H3 Q1 else Q0 H3) :
    EvW b c S (tLc wi (gName j) tt te ws) σ H (nw b' S) (lcW w f) := fun ts P hP H1 f1 d hB Q q => by
  refine h ts _ hP H1 f1 d hB _ fun J H2 xs hx f2 d2 hB2 wk => fun Dl hD => ?_
  split at hx
  rotate_left
  · exact hx.elim
  rename_i hlen
  have nD : Dl ∉ [b, c] := hB2.dom.not_mem hD
  have sD : Same H2 (upd H2 Dl (.lst [])) := same_new hD
  refine ⟨fun i m H' => m = xs.length - i ∧ i ≤ xs.length ∧ ∃ acc pre, H' Dl = some (.lst acc) ∧ Fr [b, c] H2 H' ∧ Dom (Dl :: S) H' ∧ Bag H' b c ∧ acc.length ≤ i ∧ All2 (b'.rp (Dl :: S) H') acc pre ∧ filW f (xs.drop i) fun suf => P (pre ++ suf),
    ⟨_, rfl, Nat.zero_le _, [], [], upd_same, Fr.same sD, (d2.same sD).cons upd_same, hB2.same sD, Nat.zero_le _, .nil, hx⟩, ?_⟩
  rintro i m H' ⟨rfl, hi, acc, pre, h1, h2, h3, h4, h5, h6, h7⟩
  have g2 : Fr S H2 H' := h2.sub ts
  by_cases cc : i < xs.length
  · right
    rw [List.drop_eq_getElem_cons cc] at h7
    simp only [filW] at h7
    refine ⟨wk.go H' i g2 cc, fun H3 => ∃ acc pre, H3 Dl = some (.lst acc) ∧ Fr [b, c] H2 H3 ∧ Dom (Dl :: S) H3 ∧ Bag H3 b c ∧ acc.length ≤ i + 1 ∧ All2 (b'.rp (Dl :: S) H3) acc pre ∧ filW f (xs.drop (i + 1)) fun suf => P (pre ++ suf), ?_, ?_⟩
    · rintro H3 ⟨acc, pre, k⟩
      exact ⟨xs.length - (i + 1), by omega, rfl, by omega, acc, pre, k⟩
    · intro v H3 hy
      obtain ⟨rfl, hv⟩ := wk.yl H' i v H3 g2 hy _ (List.getElem?_eq_getElem cc)
      refine ⟨hw v, ?_⟩
      refine he xs[i] v H2 _ Dl _ ts (f1.trans f2) hD h2 (a.mono (h2.sub (sub_cons ts)) (a.ext hD hv)) h3 h4 h7 _ _ (fun y w H4 hPo f4 d4 hB4 hw4 => ?_) (fun H4 hPo f4 d4 hB4 => ?_)
      · have fD : Fr (Dl :: S) H4 (upd H4 Dl (.lst (acc ++ [w]))) := fr_upd (List.mem_cons_self ..)
        refine ⟨acc, f4 _ _ h1 nD, Nat.lt_of_lt_of_le (by omega : acc.length < 100000) (by decide), acc ++ [w], pre ++ [y], upd_same, fun p ob eb nb => ?_, d4.upd, ?_, by simp; omega, ?_, ?_⟩
        · rw [upd_ne (ne_of_none eb hD)]
          exact f4 _ _ (h2 _ _ eb nb) nb
        · obtain ⟨ne, ns, sl, sd, e1, e2, r⟩ := hB4
          simp only [List.mem_cons, List.not_mem_nil, or_false, not_or] at nD
          exact ⟨ne, ns, sl, sd, by rw [upd_ne (Ne.symm nD.1)]; exact e1, by rw [upd_ne (Ne.symm nD.2)]; exact e2, r⟩
        · exact ((h6.imp fun _ _ h => b'.mono (f4.sub (sub_cons ts)) h).snoc hw4).imp fun _ _ h => b'.mono fD h
        · simpa using hPo
      · refine ⟨acc, pre, f4 _ _ h1 nD, h2.trans f4, d4, hB4, by omega, h6.imp fun _ _ h => b'.mono (f4.sub (sub_cons ts)) h, ?_⟩
        simpa using hPo
  · left
    rw [List.drop_eq_nil_of_le (by omega)] at h7
    refine ⟨wk.st H' i g2 (by omega), q _ _ pre (by simpa [filW] using h7) (f2.trans h2) (h3.sub (sub_cons fun a m => m)) h4 ⟨Dl, rfl, fr_back f2 hB2.dom hD, acc, h1, h6⟩⟩
theorem ew_lc {wi : TI} {j : Nat} {ws : List Nat} {w : Wp (List α)} {f : α → Wp β} (h : SrW b c S wi σ H a w) (hw : ∀ x, wipe ((wipe σ ws).set j (some x)) ws = wipe σ ws)
    (he : ∀ (x : α) (v : V) (H2 H' : Hp) (p : Addr), Sub [b, c] S → Fr [b, c] H H2 → H2 p = none → Fr [b, c] H2 H' → a.rp (p :: S) H' v x → EvW b c (p :: S) te ((wipe σ ws).set j (some v)) H' (of b' (p :: S)) (f x)) :
    EvW b c S (tLc wi (gName j) tYes te ws) σ H (nw b' S) (lcW w fun x Po => f x fun y => Po (some y)) :=
  ew_lcCore h hw fun x v H2 H' p Po ts g1 g2 g3 g4 g5 g6 g7 Q1 Q0 q1 q0 => by
    refine G.yes_ ?_
    exact he x v H2 H' p ts g1 g2 g3 g4 (sub_cons ts) _ g7 H' (Fr.refl _) g5 g6 _ fun w H3 y hy f3 d3 hB3 hw3 => q1 y w H3 hy f3 d3 hB3 hw3
theorem ew_lcF {wi : TI} {j : Nat} {ws : List Nat} {w : Wp (List α)} {t : α → Wp Bool} {f : α → Wp β} (h : SrW b c S wi σ H a w) (hw : ∀ x, wipe ((wipe σ ws).set j (some x)) ws = wipe σ ws)
    (ht : ∀ (x : α) (v : V) (H2 H' : Hp) (p : Addr), Sub [b, c] S → Fr [b, c] H H2 → H2 p = none → Fr [b, c] H2 H' → a.rp (p :: S) H' v x → BvW b c (p :: S) tt ((wipe σ ws).set j (some v)) H' (t x))
    (he : ∀ (x : α) (v : V) (H2 H' : Hp) (p : Addr), Sub [b, c] S → Fr [b, c] H H2 → H2 p = none → Fr [b, c] H2 H' → a.rp (p :: S) H' v x → EvW b c (p :: S) te ((wipe σ ws).set j (some v)) H' (of b' (p :: S)) (f x)) :
    EvW b c S (tLc wi (gName j) tt te ws) σ H (nw b' S) (lcW w fun x Po => t x fun k => if k then f x fun y => Po (some y) else Po none) :=
  ew_lcCore h hw fun x v H2 H' p Po ts g1 g2 g3 g4 g5 g6 g7 Q1 Q0 q1 q0 => by
    refine ht x v H2 H' p ts g1 g2 g3 g4 (sub_cons ts) _ g7 H' (Fr.refl _) g5 g6 _ fun H3 k hk f3 d3 hB3 => ?_
    cases k with
    | true =>
      have hk := ifp_t hk
      show if true = true then _ else _
      rw [if_pos rfl]
      refine he x v H2 H' p ts g1 g2 g3 g4 (sub_cons ts) _ hk H3 f3 d3 hB3 _ fun w H4 y hy f4 d4 hB4 hw4 => q1 y w H4 hy (f3.trans f4) d4 hB4 hw4
    | false =>
      have hk := ifp_f hk
      show if false = true then _ else _
      rw [if_neg (by decide)]
      exact q0 H3 hk f3 d3 hB3
end
end M

namespace M
open PySem L2 G
/-! ### a def with one keyword-only parameter that has a default -/
structure AtK (K : PySem.W.Frag) (mg : Str → Option Value) (name : String) (st : Stmt) (ps : List Str) (n : Nat) (kw : Str) (dv : V) (f : Addr) (fd : FuncData) : Prop where
  F : Fun K (Str.ofString name) (Str.ofString name) st f fd
  m : mg (Str.ofString name) = some (.ref f)
  kb : KBn K fd ps n [kw] (fun us ws => us ++ ws) (fun vs zs => vs ++ zs)
  b0 : ∃ ds, Vals [dv] ds ∧ Binds K fd ps ds
theorem kb_of {K : PySem.W.Frag} {x : Str} {st : Stmt} {f : Addr} {fd : FuncData} {ps : List Str} {n : Nat} {kw : Str} (F : Fun K x x st f fd)
    (h : ∀ (kV doc pm : Value) (an : Option Addr) (cdv ct : Value) (us ws : List Value), us.length = n → ws.length = 1 → bindArgs (PySem.W.fnOf x x (defArgs st) (defBody st) (defScope st) .none kV doc pm an cdv ct) ⟨us, [kw].zip ws⟩ = pure (ps.zip (us ++ ws))) :
    KBn K fd ps n [kw] (fun us ws => us ++ ws) (fun vs zs => vs ++ zs) := by
  obtain ⟨oc, od, kV, doc, pm, an, cdv, ct, osl, rfl, lk, hcd⟩ := F.ex
  exact ⟨fun s us ws X h1 h2 => .of_eq (h kV doc pm an cdv ct us ws h1 h2), fun r1 r2 => r1.append r2⟩
section
variable {K : PySem.W.Frag} {α β γ δ ε ρ : Type} {S T : AS} {σ : St} {H : Hp} {t1 t2 t3 t4 t5 : TE} {a1 : Ty K α} {a2 : Ty K β} {a3 : Ty K γ} {R : AS → Rl ρ} {E : XK}
theorem ev_callK {f : α × β × γ × Unit → Option ρ} {r1 : Option α} {r2 : Option β} {r3 : Option γ} (h1 : Ev S T t1 σ H (of a1 S) r1) (h2 : Ev S T t2 σ H (of a2 S) r2) (h3 : Ev S T t3 σ H (of a3 S) r3) :
    Ev S T (tCallN 2 1 (spF (aCons a1 (aCons a2 (aCons a3 aNil))) R f) (fun vs zs => vs ++ zs) E (tCons t1 (tCons t2 tNil)) (tCons t3 tNil)) σ H (R S) (bd r1 fun x => bd r2 fun y => bd r3 fun z => f (x, y, z, ())) := by
  intro o e H1 f1 d Q q
  obtain ⟨x, ex, e⟩ := bd_some e
  obtain ⟨y, ey, e⟩ := bd_some e
  obtain ⟨z, ez, e⟩ := bd_some e
  refine h1 x ex H1 f1 d _ fun v1 H2 s2 g1 => h2 y ey H2 (f1.trans (Fr.same s2)) (d.same s2) _ fun v2 H3 s3 g2 => h3 z ez H3 (f1.trans (Fr.same (s2.trans s3))) (d.same (s2.trans s3)) _ fun v3 H4 s4 g3 => ⟨rfl, rfl, S, (x, y, z, ()), o, d.same ((s2.trans s3).trans s4), ⟨v1, _, rfl, a1.mono (Fr.same (s3.trans s4)) g1, v2, _, rfl, a2.mono (Fr.same s4) g2, v3, _, rfl, g3, rfl⟩, e, fun u H' s hu => q u H' (((s2.trans s3).trans s4).trans s) ((R S).same ((s2.trans s3).trans s4) hu)⟩
theorem ev_callD {f : α × β × γ × Unit → Option ρ} {r1 : Option α} {r2 : Option β} {dv : V} {z : γ} (hz : ∀ S H, a3.rp S H dv z) (h1 : Ev S T t1 σ H (of a1 S) r1) (h2 : Ev S T t2 σ H (of a2 S) r2) :
    Ev S T (tCall (spF (aCons a1 (aCons a2 (aCons a3 aNil))) R f) [dv] E (tCons t1 (tCons t2 tNil))) σ H (R S) (bd r1 fun x => bd r2 fun y => f (x, y, z, ())) := by
  intro o e H1 f1 d Q q
  obtain ⟨x, ex, e⟩ := bd_some e
  obtain ⟨y, ey, e⟩ := bd_some e
  refine h1 x ex H1 f1 d _ fun v1 H2 s2 g1 => h2 y ey H2 (f1.trans (Fr.same s2)) (d.same s2) _ fun v2 H3 s3 g2 => ⟨S, (x, y, z, ()), o, d.same (s2.trans s3), ⟨v1, _, rfl, a1.mono (Fr.same s3) g1, v2, _, rfl, g2, dv, _, rfl, hz S H3, rfl⟩, e, fun u H' s hu => q u H' ((s2.trans s3).trans s) ((R S).same (s2.trans s3) hu)⟩
end
end M

namespace M
open PySem L2 G
section
variable {K : PySem.W.Frag} {α β γ δ ε ρ : Type} {S T : AS} {σ : St} {H : Hp} {ta tb te tc : TE} {tt tu : TT} {a : Ty K α} {b' : Ty K β} {c' : Ty K γ} {D : Ends} {u t1 t2 : TS} {b c : Addr}
/-! ### while -/
def whileC (t : δ → Option Bool) (f : δ → Option (Ct ρ δ)) : Nat → δ → Option (Ct ρ δ)
  | 0, _ => none
  | n + 1, s => (t s).bind fun k => if k then (f s).bind fun r => match r with | .go s' => whileC t f n s' | .ret y => some (.ret y) | .brk s' => some (.go s') else some (.go s)
theorem while_s {tb : TS} {n : Nat} {s0 : δ} {t : δ → Option Bool} {f : δ → Option (Ct ρ δ)} {res : Ct ρ δ} (hf : whileC t f n s0 = some res)
    (I : δ → St → Hp → Prop) (h0 : I s0 σ H)
    (test : ∀ s σ' H', I s σ' H' → ∃ S', Dom S' H' ∧ EvB S' T tt σ' H' (t s))
    (step : (∀ s σ' H' H1, res = .go s → I s σ' H' → Same H' H1 → D.nx σ' H1) → ∀ (s : δ) (cr : Ct ρ δ) (σ' : St) (H' H1 : Hp), I s σ' H' → Same H' H1 → f s = some cr → (∀ y, cr = .ret y → res = .ret y) → (∀ s', cr = .brk s' → res = .go s') →
      tb { D with nx := fun σ2 H2 => ∃ s', cr = .go s' ∧ Fr S H1 H2 ∧ I s' σ2 H2, ct := fun σ2 H2 => ∃ s', cr = .go s' ∧ Fr S H1 H2 ∧ I s' σ2 H2, bk := D.nx } σ' H1)
    (done : ∀ s σ' H' H1, res = .go s → I s σ' H' → Same H' H1 → D.nx σ' H1) : tWhile tt tb D σ H := by
  refine ⟨fun m σ' H' => ∃ s, I s σ' H' ∧ whileC t f m s = some res, ⟨n, s0, h0, hf⟩, ?_⟩
  rintro m σ' H' ⟨s, hI, hw⟩
  cases m with
  | zero => cases hw
  | succ m =>
    simp only [whileC] at hw
    cases q : t s with
    | none => rw [q] at hw; cases hw
    | some k =>
      rw [q] at hw
      obtain ⟨S', dm, hev⟩ := test s σ' H' hI
      refine hev k q H' (Fr.refl _) dm _ fun H1 s1 => ?_
      cases k with
      | false =>
        cases hw
        rw [if_neg (by decide)]
        exact done s σ' H' H1 rfl hI s1
      | true =>
        rw [if_pos rfl]
        simp only [Option.bind_some, if_true] at hw
        cases q2 : f s with
        | none => rw [q2] at hw; cases hw
        | some cr =>
          rw [q2] at hw
          refine ⟨fun σ2 H2 => ∃ s', cr = .go s' ∧ Fr S H1 H2 ∧ I s' σ2 H2, ?_, ?_⟩
          · rintro σ2 H2 ⟨s', rfl, f2, hI'⟩
            exact ⟨m, Nat.lt_succ_self _, s', hI', hw⟩
          · exact step done s cr σ' H' H1 hI s1 q2 (fun y ey => by subst ey; cases hw; rfl) (fun s' ey => by subst ey; cases hw; rfl)
theorem q_while_s {tb : TS} {n : Nat} {s0 : δ} {t : δ → Option Bool} {f : δ → Option (Ct ρ δ)} {res : Ct ρ δ} (hf : whileC t f n s0 = some res)
    (I : δ → St → Hp → Prop) (h0 : I s0 σ H)
    (test : ∀ s σ' H', I s σ' H' → ∃ S', Dom S' H' ∧ EvB S' T tt σ' H' (t s))
    (step : (∀ s σ' H' H1, res = .go s → I s σ' H' → Same H' H1 → u D σ' H1) → ∀ (s : δ) (cr : Ct ρ δ) (σ' : St) (H' H1 : Hp), I s σ' H' → Same H' H1 → f s = some cr → (∀ y, cr = .ret y → res = .ret y) → (∀ s', cr = .brk s' → res = .go s') →
      tb { D with nx := fun σ2 H2 => ∃ s', cr = .go s' ∧ Fr S H1 H2 ∧ I s' σ2 H2, ct := fun σ2 H2 => ∃ s', cr = .go s' ∧ Fr S H1 H2 ∧ I s' σ2 H2, bk := u D } σ' H1)
    (done : ∀ s σ' H' H1, res = .go s → I s σ' H' → Same H' H1 → u D σ' H1) : tSeq (tWhile tt tb) u D σ H := while_s (D := { D with nx := u D }) (S := S) (T := T) hf I h0 test step done
theorem whileC_go {t : δ → Option Bool} {f : δ → Option (Ct ρ δ)} {n : Nat} {s s' : δ} (h : t s = some true) (h' : f s = some (.go s')) : whileC t f (n + 1) s = whileC t f n s' := by simp [whileC, h, h']
theorem whileC_stop {t : δ → Option Bool} {f : δ → Option (Ct ρ δ)} {n : Nat} {s : δ} (h : t s = some false) : whileC t f (n + 1) s = some (.go s) := by simp [whileC, h]
/-! ### chains of comparisons -/
theorem ev_chain {r r' : R2} {f g : α → α → Bool} {ra rb rc : Option α} (h : OpD a a S (of (K := K) tBool S) r (fun x y => some (f x y))) (h' : OpD a a S (of (K := K) tBool S) r' (fun x y => some (g x y)))
    (ha : Ev S T ta σ H (of a S) ra) (hb : Ev S T tb σ H (of a S) rb) (hc : Ev S T tc σ H (of a S) rc) :
    Ev S T (tChain r r' ta tb tc) σ H (of (K := K) tBool S) (bd ra fun x => bd rb fun y => if f x y then bd rc fun z => some (g y z) else some false) := by
  intro z e H1 f1 d Q q
  obtain ⟨x, ex, e⟩ := bd_some e
  obtain ⟨y, ey, e⟩ := bd_some e
  refine ha x ex H1 f1 d _ fun v H2 s2 hv => hb y ey H2 (f1.trans (Fr.same s2)) (d.same s2) _ fun w H3 s3 hw => ?_
  have d3 := (d.same s2).same s3
  refine h x y _ rfl H3 v w d3 (a.mono (Fr.same s3) hv) hw _ fun k H4 s4 hk => ⟨_, hk, ?_⟩
  by_cases c1 : f x y = true
  · rw [if_pos c1] at e
    rw [if_pos c1]
    obtain ⟨z', ez, e⟩ := bd_some e
    cases e
    refine hc z' ez H4 (f1.trans (Fr.same ((s2.trans s3).trans s4))) (d3.same s4) _ fun w' H5 s5 hw' => ?_
    refine h' y z' _ rfl H5 w w' ((d3.same s4).same s5) (a.mono (Fr.same (s4.trans s5)) hw) hw' Q fun u' H6 s6 hu => q u' H6 (((s2.trans s3).trans (s4.trans s5)).trans s6) hu
  · rw [if_neg c1] at e
    rw [if_neg c1]
    cases e
    exact q _ H4 ((s2.trans s3).trans s4) rfl
/-! ### x in l by data -/
def memD [DecidableEq α] (x : α) (xs : List α) : Bool := decide (x ∈ xs)
theorem _root_.L2.Room.units65 {k : Nat} {A : Around} (r : Room k A) : A.units + 65 < cLine := by have := r.un; omega
theorem any_eqv {a : Ty K α} [DecidableEq α] (d : TyD a) (x : α) : ∀ xs : List α, ((xs.map d.dt).any fun z => PyData.eqv z (d.dt x)) = memD x xs
  | [] => by simp [memD]
  | y :: ys => by
    rw [List.map_cons, List.any_cons, d.dec, any_eqv d x ys]
    unfold memD
    by_cases h : y = x
    · subst h; simp
    · by_cases h2 : x ∈ ys
      · simp [h2]
      · simp [h, h2, Ne.symm h]
theorem od_inD [DecidableEq α] (d : TyD a) (hd : d.dep ≤ 63) : OpD a (tL a) S (of (K := K) tBool S) (rInD K) (fun x xs => some (memD x xs)) := by
  intro x xs z e H1 v w dm hv hw Q q
  cases e
  have h2 := (dL d).dp hw
  refine ⟨d.dt x, xs.map d.dt, d.dp hv, h2, d.shaped (by omega) hv, (dL d).shaped (by show d.dep + 1 ≤ 64; omega) hw, ?_⟩
  rw [any_eqv]
  exact q _ H1 (Same.refl _) rfl
theorem od_notInD [DecidableEq α] (d : TyD a) (hd : d.dep ≤ 63) : OpD a (tL a) S (of (K := K) tBool S) (rNotInD K) (fun x xs => some (!memD x xs)) := by
  intro x xs z e H1 v w dm hv hw Q q
  cases e
  have h2 := (dL d).dp hw
  refine ⟨d.dt x, xs.map d.dt, d.dp hv, h2, d.shaped (by omega) hv, (dL d).shaped (by show d.dep + 1 ≤ 64; omega) hw, ?_⟩
  rw [any_eqv]
  exact q _ H1 (Same.refl _) rfl
/-! ### powers of constants -/
theorem ev_powC {i j : Int} (hc : 0 ≤ j ∧ j ≤ 1000000 ∧ i.natAbs < 2 ^ 64) : Ev S T (tOp (rI (fun i j => 0 ≤ j ∧ j ≤ 1000000 ∧ i.natAbs < 2 ^ 64) fun i j => .int (i ^ j.toNat)) (tC (.int i)) (tC (.int j))) σ H (of (K := K) tInt S) (some (i ^ j.toNat)) := by
  intro y ey H1 f d Q q
  cases ey
  exact ⟨i, j, rfl, rfl, hc, q _ H1 (Same.refl _) rfl⟩
/-! ### None or not, of any expression -/
theorem eb_isNe {r : Option (Option α)} (h : Ev S T te σ H (of (tOpt a) S) r) : EvB S T (tTest (tOp (fun x y H Q => y = .non ∧ Q (.bl (decide (x = .non))) H) te (tC .non))) σ H (bd r fun x => some x.isNone) := by
  intro z ez H1 f d Q q
  obtain ⟨x, ex, ez⟩ := bd_some ez
  cases ez
  refine h x ex H1 f d _ fun v H2 s hv => ⟨rfl, _, rfl, ?_⟩
  cases x with
  | none => rw [show v = .non from hv]; exact q H2 s
  | some y => rw [decide_eq_false hv.1]; exact q H2 s
theorem eb_notNe {r : Option (Option α)} (h : Ev S T te σ H (of (tOpt a) S) r) : EvB S T (tTest (tOp (fun x y H Q => y = .non ∧ Q (.bl (!decide (x = .non))) H) te (tC .non))) σ H (bd r fun x => some x.isSome) := by
  intro z ez H1 f d Q q
  obtain ⟨x, ex, ez⟩ := bd_some ez
  cases ez
  refine h x ex H1 f d _ fun v H2 s hv => ⟨rfl, _, rfl, ?_⟩
  cases x with
  | none => rw [show v = .non from hv]; exact q H2 s
  | some y => rw [decide_eq_false hv.1]; exact q H2 s
/-! ### max of two -/
theorem ev_max2 {ra rb : Option Int} (ha : Ev S T ta σ H (of (K := K) tInt S) ra) (hb : Ev S T tb σ H (of (K := K) tInt S) rb) :
    Ev S T (tCB (fun xs H Q => ∃ i j, xs = [.int i, .int j] ∧ Q (.int (if j > i then j else i)) H) (tCons ta (tCons tb tNil))) σ H (of (K := K) tInt S) (bd ra fun x => bd rb fun y => some (max x y)) := by
  intro z e H1 f1 d Q q
  obtain ⟨x, ex, e⟩ := bd_some e
  obtain ⟨y, ey, e⟩ := bd_some e
  cases e
  refine ha x ex H1 f1 d _ fun v H2 s2 hv => hb y ey H2 (f1.trans (Fr.same s2)) (d.same s2) _ fun w H3 s3 hw => ?_
  cases hv
  cases hw
  refine ⟨x, y, rfl, q _ H3 (s2.trans s3) ?_⟩
  show V.int _ = V.int _
  congr 1
  omega
/-! ### calls with keywords -/
def EvAn (S T : AS) (ta : TA) (σ : St) (H : Hp) (n : Nat) (t : TyA K α) (r : Option α) : Prop :=
  ∀ x, r = some x → ∀ H1, Fr T H H1 → Dom S H1 → ∀ Q : List V → Hp → Prop, (∀ vs H2, vs.length = n → Same H1 H2 → t.rp S H2 vs x → Q vs H2) → ta σ H1 Q
theorem en_nil : EvAn S T tNil σ H 0 (K := K) aNil (some ()) := fun _ e H1 f d Q q => q [] H1 rfl (Same.refl _) rfl
theorem en_cons {n : Nat} {tr : TA} {t : TyA K β} {ra : Option α} {rr : Option β} (h : Ev S T ta σ H (of a S) ra) (hr : EvAn S T tr σ H n t rr) : EvAn S T (tCons ta tr) σ H (n + 1) (aCons a t) (bd ra fun x => bd rr fun y => some (x, y)) := by
  intro z e H1 f1 d Q q
  obtain ⟨x, ex, e⟩ := bd_some e
  obtain ⟨y, ey, e⟩ := bd_some e
  cases e
  exact h x ex H1 f1 d _ fun v H2 s2 hv => hr y ey H2 (f1.trans (Fr.same s2)) (d.same s2) _ fun vs H3 l s3 hvs => q (v :: vs) H3 (by simp [l]) (s2.trans s3) ⟨v, vs, rfl, a.mono (Fr.same s3) hv, hvs⟩
/-- first t, then tk: together they are the arguments -/
def EvA2 (S T : AS) (ta tk : TA) (σ : St) (H : Hp) (n m : Nat) (t : TyA K α) (r : Option α) : Prop :=
  ∀ x, r = some x → ∀ H1, Fr T H H1 → Dom S H1 → ∀ Q : List V → List V → Hp → Prop, (∀ vs zs H2, vs.length = n → zs.length = m → Same H1 H2 → t.rp S H2 (vs ++ zs) x → Q vs zs H2) → ta σ H1 fun vs H2 => tk σ H2 fun zs H3 => Q vs zs H3
theorem e2_nil {tk : TA} {m : Nat} {t : TyA K α} {r : Option α} (h : EvAn S T tk σ H m t r) : EvA2 S T tNil tk σ H 0 m t r := fun x e H1 f d Q q => h x e H1 f d _ fun vs H2 l s hv => q [] vs H2 rfl l s hv
theorem e2_cons {n m : Nat} {tr tk : TA} {t : TyA K β} {ra : Option α} {rr : Option β} (h : Ev S T ta σ H (of a S) ra) (hr : EvA2 S T tr tk σ H n m t rr) : EvA2 S T (tCons ta tr) tk σ H (n + 1) m (aCons a t) (bd ra fun x => bd rr fun y => some (x, y)) := by
  intro z e H1 f1 d Q q
  obtain ⟨x, ex, e⟩ := bd_some e
  obtain ⟨y, ey, e⟩ := bd_some e
  cases e
  exact h x ex H1 f1 d _ fun v H2 s2 hv => hr y ey H2 (f1.trans (Fr.same s2)) (d.same s2) _ fun vs zs H3 l l' s3 hvs => q (v :: vs) zs H3 (by simp [l]) l' (s2.trans s3) ⟨v, vs ++ zs, rfl, a.mono (Fr.same s3) hv, hvs⟩
theorem ev_callN {n m : Nat} {ta tk : TA} {t : TyA K α} {R : AS → Rl γ} {f : α → Option γ} {r : Option α} {E : XK} (h : EvA2 S T ta tk σ H n m t r) : Ev S T (tCallN n m (spF t R f) (fun vs zs => vs ++ zs) E ta tk) σ H (R S) (bd r f) := by
  intro z e H1 f1 d Q q
  obtain ⟨x, ex, e⟩ := bd_some e
  exact h x ex H1 f1 d _ fun vs zs H2 l l' s2 hv => ⟨l, l', S, x, z, d.same s2, hv, e, fun u H' s hu => q u H' (s2.trans s) ((R S).same s2 hu)⟩
/-- .. with a default behind -/
def EvAd (S T : AS) (ta : TA) (σ : St) (H : Hp) (ds : List V) (t : TyA K α) (r : Option α) : Prop :=
  ∀ x, r = some x → ∀ H1, Fr T H H1 → Dom S H1 → ∀ Q : List V → Hp → Prop, (∀ vs H2, Same H1 H2 → t.rp S H2 (vs ++ ds) x → Q vs H2) → ta σ H1 Q
theorem edd_nil {dv : V} {z : α} (hz : ∀ S H, a.rp S H dv z) : EvAd S T tNil σ H [dv] (aCons a aNil) (some (z, ())) := fun _ e H1 f d Q q => by cases e; exact q [] H1 (Same.refl _) ⟨dv, [], rfl, hz S H1, rfl⟩
theorem edd_cons {ds : List V} {tr : TA} {t : TyA K β} {ra : Option α} {rr : Option β} (h : Ev S T ta σ H (of a S) ra) (hr : EvAd S T tr σ H ds t rr) : EvAd S T (tCons ta tr) σ H ds (aCons a t) (bd ra fun x => bd rr fun y => some (x, y)) := by
  intro z e H1 f1 d Q q
  obtain ⟨x, ex, e⟩ := bd_some e
  obtain ⟨y, ey, e⟩ := bd_some e
  cases e
  exact h x ex H1 f1 d _ fun v H2 s2 hv => hr y ey H2 (f1.trans (Fr.same s2)) (d.same s2) _ fun vs H3 s3 hvs => q (v :: vs) H3 (s2.trans s3) ⟨v, vs ++ ds, rfl, a.mono (Fr.same s3) hv, hvs⟩
theorem ev_callDn {ds : List V} {ta : TA} {t : TyA K α} {R : AS → Rl γ} {f : α → Option γ} {r : Option α} {E : XK} (h : EvAd S T ta σ H ds t r) : Ev S T (tCall (spF t R f) ds E ta) σ H (R S) (bd r f) := by
  intro z e H1 f1 d Q q
  obtain ⟨x, ex, e⟩ := bd_some e
  exact h x ex H1 f1 d _ fun vs H2 s2 hv => ⟨S, x, z, d.same s2, hv, e, fun u H' s hu => q u H' (s2.trans s) ((R S).same s2 hu)⟩
/-! .. while drawing -/
def EvWAn (b c : Addr) (S : AS) (ta : TA) (σ : St) (H : Hp) (n : Nat) (t : TyA K α) (w : Wp α) : Prop :=
  Sub [b, c] S → ∀ P, w P → ∀ H1, Fr [b, c] H H1 → Dom S H1 → Bag H1 b c → ∀ Q : List V → Hp → Prop, (∀ vs H2 x, vs.length = n → P x → Fr [b, c] H1 H2 → Dom S H2 → Bag H2 b c → t.rp S H2 vs x → Q vs H2) → ta σ H1 Q
theorem wn_nil : EvWAn b c S tNil σ H 0 (K := K) aNil (lf (some ())) := fun ts P ⟨x, e, hP⟩ H1 f d hB Q q => by cases e; exact q [] H1 () rfl hP (Fr.refl _) d hB rfl
theorem wn_cons {n : Nat} {tr : TA} {t : TyA K β} {wa : Wp α} {wr : Wp β} (h : EvW b c S ta σ H (of a S) wa) (hr : EvWAn b c S tr σ H n t wr) : EvWAn b c S (tCons ta tr) σ H (n + 1) (aCons a t) (tup2W wa wr) := fun ts P hP H1 f1 d hB Q q =>
  h ts _ hP H1 f1 d hB _ fun v H2 x hx f2 d2 hB2 hv => hr ts _ hx H2 (f1.trans f2) d2 hB2 _ fun vs H3 y l hy f3 d3 hB3 hvs => q (v :: vs) H3 (x, y) (by simp [l]) hy (f2.trans f3) d3 hB3 ⟨v, vs, rfl, a.mono (f3.sub ts) hv, hvs⟩
def EvWA2 (b c : Addr) (S : AS) (ta tk : TA) (σ : St) (H : Hp) (n m : Nat) (t : TyA K α) (w : Wp α) : Prop :=
  Sub [b, c] S → ∀ P, w P → ∀ H1, Fr [b, c] H H1 → Dom S H1 → Bag H1 b c → ∀ Q : List V → List V → Hp → Prop, (∀ vs zs H2 x, vs.length = n → zs.length = m → P x → Fr [b, c] H1 H2 → Dom S H2 → Bag H2 b c → t.rp S H2 (vs ++ zs) x → Q vs zs H2) → ta σ H1 fun vs H2 => tk σ H2 fun zs H3 => Q vs zs H3
theorem w2_nil {tk : TA} {m : Nat} {t : TyA K α} {w : Wp α} (h : EvWAn b c S tk σ H m t w) : EvWA2 b c S tNil tk σ H 0 m t w := fun ts P hP H1 f d hB Q q => h ts P hP H1 f d hB _ fun vs H2 x l hx f2 d2 hB2 hv => q [] vs H2 x rfl l hx f2 d2 hB2 hv
theorem w2_cons {n m : Nat} {tr tk : TA} {t : TyA K β} {wa : Wp α} {wr : Wp β} (h : EvW b c S ta σ H (of a S) wa) (hr : EvWA2 b c S tr tk σ H n m t wr) : EvWA2 b c S (tCons ta tr) tk σ H (n + 1) m (aCons a t) (tup2W wa wr) := fun ts P hP H1 f1 d hB Q q =>
  h ts _ hP H1 f1 d hB _ fun v H2 x hx f2 d2 hB2 hv => hr ts _ hx H2 (f1.trans f2) d2 hB2 _ fun vs zs H3 y l l' hy f3 d3 hB3 hvs => q (v :: vs) zs H3 (x, y) (by simp [l]) l' hy (f2.trans f3) d3 hB3 ⟨v, vs ++ zs, rfl, a.mono (f3.sub ts) hv, hvs⟩
theorem ew_callN {n m : Nat} {ta tk : TA} {t : TyA K α} {R : AS → Rl γ} {f : α → Option γ} {w : Wp α} {E : XK} (h : EvWA2 b c S ta tk σ H n m t w) : EvW b c S (tCallN n m (spF t R f) (fun vs zs => vs ++ zs) E ta tk) σ H (R S) (unW f w) := fun ts P hP H1 f1 d hB Q q =>
  h ts _ hP H1 f1 d hB _ fun vs zs H2 x l l' ⟨z, e, hz⟩ f2 d2 hB2 hv => ⟨l, l', S, x, z, d2, hv, e, fun u H' s hu => q u H' z hz (f2.trans (Fr.same s)) (d2.same s) (hB2.same s) ((R S).back f2 hB2.dom hu)⟩
/-! ### any; truth of a list -/
theorem ev_any {r : Option (List Bool)} (h : Ev S T te σ H (of (K := K) (tL tBool) S) r) : Ev S T (tCB (rAny K) (tCons te tNil)) σ H (of (K := K) tBool S) (bd r fun x => some (x.any id)) := by
  intro z e H1 f1 d Q q
  obtain ⟨x, ex, e⟩ := bd_some e
  cases e
  refine h x ex H1 f1 d _ fun v H2 s hv => ?_
  obtain ⟨p, vs, rfl, hp, ha⟩ := hv
  refine ⟨p, x, rfl, ?_, q _ H2 s rfl⟩
  rw [← ha.bools]
  exact hp.sq
theorem All2.empty {F : V → α → Prop} {vs : List V} {xs : List α} (h : All2 F vs xs) : vs.isEmpty = xs.isEmpty := by cases h <;> rfl
theorem eb_truL {r : Option (List α)} (h : Ev S T te σ H (of (tL a) S) r) : EvB S T (fun σ H Q => te σ H fun x H' => ∃ k, TruV K x H' k ∧ Q k H') σ H (bd r fun x => some (!x.isEmpty)) := by
  intro z ez H1 f d Q q
  obtain ⟨x, ex, ez⟩ := bd_some ez
  cases ez
  refine h x ex H1 f d _ fun v H2 s ⟨p, vs, ev, hp, ha⟩ => ⟨_, ?_, q H2 s⟩
  subst ev
  exact .inl ⟨vs, hp.sq, by rw [ha.empty]⟩
/-! ### an owned list that is owned no more -/
theorem sub_keep {p : Addr} {S S' : AS} (h : Sub S S') : Sub (p :: S) (p :: S') := fun a m => by
  rcases List.mem_cons.mp m with rfl | m
  · exact List.mem_cons_self ..
  · exact List.mem_cons_of_mem _ (h a m)
theorem nmc {p q : Addr} {S : AS} (h : p ≠ q) (n : p ∉ S) : p ∉ q :: S := fun m => by
  rcases List.mem_cons.mp m with e | m
  · exact h e
  · exact n m
theorem Own.frz {p : Addr} {xs : List α} {S' : AS} (o : Own a S H p xs) (hs : Sub S' S) (n : p ∉ S') : (tL a).rp S' H (.ref p) xs := by
  obtain ⟨vs, hv, ha⟩ := o
  exact ⟨p, vs, rfl, ⟨hv, n⟩, ha.imp fun _ _ => a.sub hs⟩
/-! ### walks that unpack pairs -/
theorem for_s2 {wi : TI} {j j2 : Nat} {tb : TS} {r : Option (List (α × β))} {xs : List (α × β)} {s0 : δ} {f : δ → α × β → Option (Ct ρ δ)} {res : Ct ρ δ} (d : Dom S H) (h : Sr S T wi σ H (tT2 a b') r) (e : r = some xs) (hf : loopC f xs s0 = some res)
    (I : δ → St → Hp → Prop) (h0 : ∀ H1, Same H H1 → I s0 σ H1)
    (step : (∀ s σ' H', res = .go s → I s σ' H' → D.nx σ' H') → ∀ (s : δ) (x : α × β) (cr : Ct ρ δ) (v w : V) (σ' : St) (H' : Hp), I s σ' H' → a.rp S H' v x.1 → b'.rp S H' w x.2 → x ∈ xs → f s x = some cr → (∀ y, cr = .ret y → res = .ret y) → (∀ s', cr = .brk s' → res = .go s') →
      tb { D with nx := fun σ2 H2 => ∃ s', cr = .go s' ∧ Fr S H' H2 ∧ I s' σ2 H2, ct := fun σ2 H2 => ∃ s', cr = .go s' ∧ Fr S H' H2 ∧ I s' σ2 H2, bk := D.nx } ((σ'.set j (some v)).set j2 (some w)) H')
    (done : ∀ s σ' H', res = .go s → I s σ' H' → D.nx σ' H') : tFor wi (gTup K 2 (gCons (gName j) (gCons (gName j2) gNil))) tb D σ H := by
  refine h xs e H (Fr.refl _) d _ fun J H1 s1 wk => ?_
  refine ⟨fun i m σ' H' => m = xs.length - i ∧ i ≤ xs.length ∧ Fr S H1 H' ∧ ∃ s, I s σ' H' ∧ loopC f (xs.drop i) s = some res, ⟨_, rfl, Nat.zero_le _, Fr.refl _, s0, h0 H1 s1, hf⟩, ?_⟩
  rintro i m σ' H' ⟨rfl, hi, fr, s, hI, hl⟩
  by_cases c : i < xs.length
  · right
    rw [List.drop_eq_getElem_cons c] at hl
    simp only [loopC] at hl
    cases q : f s xs[i] with
    | none => rw [q] at hl; cases hl
    | some cr =>
      rw [q] at hl
      refine ⟨wk.go H' i fr c, fun σ2 H2 => ∃ s', cr = .go s' ∧ Fr S H' H2 ∧ I s' σ2 H2, ?_, ?_⟩
      · rintro σ2 H2 ⟨s', rfl, f2, hI'⟩
        exact ⟨xs.length - (i + 1), by omega, rfl, by omega, fr.trans f2, s', hI', hl⟩
      · intro v H2 hy
        obtain ⟨rfl, hv⟩ := wk.yl H' i v H2 fr hy _ (List.getElem?_eq_getElem c)
        obtain ⟨p, v1, v2, rfl, hp, h1, h2⟩ := (tT2 a b').mono fr hv
        exact ⟨p, _, rfl, hp.sq, rfl, v1, _, rfl, v2, _, rfl, rfl, step done s xs[i] cr v1 v2 σ' _ hI h1 h2 (List.getElem_mem c) q (fun y ey => by subst ey; cases hl; rfl) (fun s' ey => by subst ey; cases hl; rfl)⟩
  · left
    refine ⟨wk.st H' i fr (by omega), ?_⟩
    rw [List.drop_eq_nil_of_le (by omega)] at hl
    cases hl
    exact done s σ' H' rfl hI
theorem q_for_s2 {wi : TI} {j j2 : Nat} {tb : TS} {r : Option (List (α × β))} {xs : List (α × β)} {s0 : δ} {f : δ → α × β → Option (Ct ρ δ)} {res : Ct ρ δ} (d : Dom S H) (h : Sr S T wi σ H (tT2 a b') r) (e : r = some xs) (hf : loopC f xs s0 = some res)
    (I : δ → St → Hp → Prop) (h0 : ∀ H1, Same H H1 → I s0 σ H1)
    (step : (∀ s σ' H', res = .go s → I s σ' H' → u D σ' H') → ∀ (s : δ) (x : α × β) (cr : Ct ρ δ) (v w : V) (σ' : St) (H' : Hp), I s σ' H' → a.rp S H' v x.1 → b'.rp S H' w x.2 → x ∈ xs → f s x = some cr → (∀ y, cr = .ret y → res = .ret y) → (∀ s', cr = .brk s' → res = .go s') →
      tb { D with nx := fun σ2 H2 => ∃ s', cr = .go s' ∧ Fr S H' H2 ∧ I s' σ2 H2, ct := fun σ2 H2 => ∃ s', cr = .go s' ∧ Fr S H' H2 ∧ I s' σ2 H2, bk := u D } ((σ'.set j (some v)).set j2 (some w)) H')
    (done : ∀ s σ' H', res = .go s → I s σ' H' → u D σ' H') : tSeq (tFor wi (gTup K 2 (gCons (gName j) (gCons (gName j2) gNil))) tb) u D σ H := for_s2 (D := { D with nx := u D }) d h e hf I h0 step done
end
end M

namespace M
open PySem L2 G
section
variable {K : PySem.W.Frag} {α β γ δ ε ρ : Type} {S T : AS} {σ : St} {H : Hp} {ta tb te tc : TE} {tt tu : TT} {a : Ty K α} {b' : Ty K β} {c' : Ty K γ} {D : Ends} {u t1 t2 : TS} {b c : Addr}
/-! ### isinstance, by the code -/
theorem tyTm {H : Hp} {a : Addr} {xs : List V} (h : SqT K H a xs) : TyX K H (.ref a) (.type "tuple") := by
  rcases h with (h | ⟨o, h⟩) | ⟨o, _, _, h, hc, _⟩
  · exact .base (.tup h)
  · exact .fTuple h
  · exact .kTuple h hc
theorem tyLm {H : Hp} {a : Addr} {xs : List V} (h : SqL K H a xs) : TyX K H (.ref a) (.type "list") := by
  rcases h with (h | ⟨o, h⟩) | ⟨o, _, _, h, hc, _⟩
  · exact .base (.lst h)
  · exact .base (.frz h)
  · exact .kList h hc
class IsTy (a : Ty K α) (t : outParam String) : Prop where
  h : ∀ {S H v x}, a.rp S H v x → TyX K H v (.type t)
instance : IsTy (K := K) tInt "int" := ⟨fun h => by rw [show _ = _ from h]; exact .base (.int _)⟩
instance : IsTy (K := K) tBool "bool" := ⟨fun h => by rw [show _ = _ from h]; exact .base (.bl _)⟩
instance : IsTy (K := K) tStr "str" := ⟨fun h => by rw [h.1]; exact .base (.str _)⟩
instance : IsTy (K := K) tRat "tuple" := ⟨fun ⟨p, e, h⟩ => by rw [e]; exact tyTm h.sq⟩
instance : IsTy (tT2 a b') "tuple" := ⟨fun ⟨p, _, _, e, h, _⟩ => by rw [e]; exact tyTm h.sq⟩
instance : IsTy (tTs a) "tuple" := ⟨fun ⟨p, _, e, h, _⟩ => by rw [e]; exact tyTm h.sq⟩
instance : IsTy (tL a) "list" := ⟨fun ⟨p, _, e, h, _⟩ => by rw [e]; exact tyLm h.sq⟩
theorem ev_isi {r : Option α} {t n : String} {k : Bool} [hi : IsTy a t] (h : Ev S T te σ H (of a S) r) (hk : kitB t n = some k) :
    Ev S T (tCB (rIsi K) (tCons te (tCons (tC (.ty n)) tNil))) σ H (of (K := K) tBool S) (bd r fun _ => some k) := by
  intro z e H1 f1 d Q q
  obtain ⟨x, ex, e⟩ := bd_some e
  cases e
  exact h x ex H1 f1 d _ fun v H2 s hv => ⟨v, _, _, _, k, rfl, .ty _, hi.h hv, kit_ty hk, q _ H2 s rfl⟩
theorem ev_lenR {r : Option Rat} (h : Ev S T te σ H (of (K := K) tRat S) r) : Ev S T (tCB (fun xs H Q => ∃ p ys, xs = [.ref p] ∧ (SqL K H p ys ∨ SqT K H p ys) ∧ Q (.int ys.length) H) (tCons te tNil)) σ H (of (K := K) tInt S) (bd r fun _ => some (2 : Int)) := by
  intro z e H1 f1 d Q q
  obtain ⟨x, ex, e⟩ := bd_some e
  cases e
  exact h x ex H1 f1 d _ fun v H2 s ⟨p, ev, hp⟩ => by subst ev; exact ⟨p, _, rfl, .inr hp.sq, q _ H2 s rfl⟩
/-! ### pairs as tuples of any length -/
theorem ev_t2Sq {r : Option (α × α)} (h : Ev S T te σ H (of (tT2 a a) S) r) : Ev S T te σ H (of (tSq a) S) (bd r fun x => some [x.1, x.2]) := ev_as h fun x y e H1 H2 v d ⟨p, u, w, ev, hp, h1, h2⟩ => by
  cases e
  exact .inr ⟨p, _, ev, hp, .cons h1 (.cons h2 .nil)⟩
theorem sr_t4 {tl : TE} {r : Option (α × α × α × α)} (h : Ev S T tl σ H (of (tT4 a a a a) S) r) : Sr S T (iTup K tl) σ H a (bd r fun x => some [x.1, x.2.1, x.2.2.1, x.2.2.2]) := fun xs e H1 f d R q => by
  obtain ⟨x, ex, e⟩ := bd_some e
  cases e
  exact h x ex H1 f d _ fun v H2 s ⟨p, u1, u2, u3, u4, ev, hp, h1, h2, h3, h4⟩ => ⟨p, ev, ⟨_, hp.sq⟩, q _ H2 s (wk_tup hp (.cons h1 (.cons h2 (.cons h3 (.cons h4 .nil)))))⟩
/-! ### targets that take lists and tuples -/
def gOr (g g' : TG) : TG := fun v σ H Q => g v σ H Q ∨ g' v σ H Q
theorem pg_or {X : Cx} {e : Expr} {g g' : TG} (h : PG X e g) (h' : PG X e g') : PG X e (gOr g g') := ⟨fun pins s σ H v u Q I r hw => by
  rcases hw with hw | hw
  · exact h.run pins s σ H v u Q I r hw
  · exact h'.run pins s σ H v u Q I r hw⟩
def two? : List α → Option (α × α)
  | [x, y] => some (x, y)
  | _ => none
theorem two_some {xs : List α} {p : α × α} (h : two? xs = some p) : xs = [p.1, p.2] := by
  match xs, h with
  | [x, y], h => cases h; rfl
theorem for_s2q {wi : TI} {j j2 : Nat} {tb : TS} {r : Option (List (List α))} {xs : List (List α)} {ps : List (α × α)} {s0 : δ} {f : δ → α × α → Option (Ct ρ δ)} {res : Ct ρ δ} (d : Dom S H) (h : Sr S T wi σ H (tSq a) r) (e : r = some xs) (e2 : mapO two? xs = some ps) (hf : loopC f ps s0 = some res)
    (I : δ → St → Hp → Prop) (h0 : ∀ H1, Same H H1 → I s0 σ H1)
    (step : (∀ s σ' H', res = .go s → I s σ' H' → D.nx σ' H') → ∀ (s : δ) (x : α × α) (cr : Ct ρ δ) (v w : V) (σ' : St) (H' : Hp), I s σ' H' → a.rp S H' v x.1 → a.rp S H' w x.2 → x ∈ ps → f s x = some cr → (∀ y, cr = .ret y → res = .ret y) → (∀ s', cr = .brk s' → res = .go s') →
      tb { D with nx := fun σ2 H2 => ∃ s', cr = .go s' ∧ Fr S H' H2 ∧ I s' σ2 H2, ct := fun σ2 H2 => ∃ s', cr = .go s' ∧ Fr S H' H2 ∧ I s' σ2 H2, bk := D.nx } ((σ'.set j (some v)).set j2 (some w)) H')
    (done : ∀ s σ' H', res = .go s → I s σ' H' → D.nx σ' H') : tFor wi (gOr (gTup K 2 (gCons (gName j) (gCons (gName j2) gNil))) (gLst K 2 (gCons (gName j) (gCons (gName j2) gNil)))) tb D σ H := by
  refine h xs e H (Fr.refl _) d _ fun J H1 s1 wk => ?_
  have ln := mapO_len e2
  refine ⟨fun i m σ' H' => m = ps.length - i ∧ i ≤ ps.length ∧ Fr S H1 H' ∧ ∃ s, I s σ' H' ∧ loopC f (ps.drop i) s = some res, ⟨_, rfl, Nat.zero_le _, Fr.refl _, s0, h0 H1 s1, hf⟩, ?_⟩
  rintro i m σ' H' ⟨rfl, hi, fr, s, hI, hl⟩
  by_cases c : i < ps.length
  · right
    rw [List.drop_eq_getElem_cons c] at hl
    simp only [loopC] at hl
    cases q : f s ps[i] with
    | none => rw [q] at hl; cases hl
    | some cr =>
      rw [q] at hl
      refine ⟨wk.go H' i fr (by omega), fun σ2 H2 => ∃ s', cr = .go s' ∧ Fr S H' H2 ∧ I s' σ2 H2, ?_, ?_⟩
      · rintro σ2 H2 ⟨s', rfl, f2, hI'⟩
        exact ⟨ps.length - (i + 1), by omega, rfl, by omega, fr.trans f2, s', hI', hl⟩
      · intro v H2 hy
        have hx : i < xs.length := by omega
        obtain ⟨rfl, hv⟩ := wk.yl H' i v H2 fr hy _ (List.getElem?_eq_getElem hx)
        obtain ⟨p, ep, ep2⟩ := mapO_get e2 (List.getElem?_eq_getElem hx)
        have : p = ps[i] := by rw [List.getElem?_eq_getElem c] at ep2; exact (Option.some.inj ep2).symm
        subst this
        have hv := (tSq a).mono fr hv
        rw [two_some ep] at hv
        rcases hv with ⟨p, vs, ev, hp, ha⟩ | ⟨p, vs, ev, hp, ha⟩
        · subst ev
          cases ha with
          | cons g1 ha => cases ha with
            | cons g2 ha => cases ha with
              | nil =>
                right
                refine ⟨p, _, rfl, hp.sq, rfl, _, _, rfl, _, _, rfl, rfl, ?_⟩
                exact step done s ps[i] cr _ _ σ' _ hI g1 g2 (List.getElem_mem c) q (fun y ey => by subst ey; cases hl; rfl) (fun s' ey => by subst ey; cases hl; rfl)
        · subst ev
          cases ha with
          | cons g1 ha => cases ha with
            | cons g2 ha => cases ha with
              | nil =>
                left
                refine ⟨p, _, rfl, hp.sq, rfl, _, _, rfl, _, _, rfl, rfl, ?_⟩
                exact step done s ps[i] cr _ _ σ' _ hI g1 g2 (List.getElem_mem c) q (fun y ey => by subst ey; cases hl; rfl) (fun s' ey => by subst ey; cases hl; rfl)
  · left
    refine ⟨wk.st H' i fr (by omega), ?_⟩
    rw [List.drop_eq_nil_of_le (by omega)] at hl
    cases hl
    exact done s σ' H' rfl hI
theorem q_for_s2q {wi : TI} {j j2 : Nat} {tb : TS} {r : Option (List (List α))} {xs : List (List α)} {ps : List (α × α)} {s0 : δ} {f : δ → α × α → Option (Ct ρ δ)} {res : Ct ρ δ} (d : Dom S H) (h : Sr S T wi σ H (tSq a) r) (e : r = some xs) (e2 : mapO two? xs = some ps) (hf : loopC f ps s0 = some res)
    (I : δ → St → Hp → Prop) (h0 : ∀ H1, Same H H1 → I s0 σ H1)
    (step : (∀ s σ' H', res = .go s → I s σ' H' → u D σ' H') → ∀ (s : δ) (x : α × α) (cr : Ct ρ δ) (v w : V) (σ' : St) (H' : Hp), I s σ' H' → a.rp S H' v x.1 → a.rp S H' w x.2 → x ∈ ps → f s x = some cr → (∀ y, cr = .ret y → res = .ret y) → (∀ s', cr = .brk s' → res = .go s') →
      tb { D with nx := fun σ2 H2 => ∃ s', cr = .go s' ∧ Fr S H' H2 ∧ I s' σ2 H2, ct := fun σ2 H2 => ∃ s', cr = .go s' ∧ Fr S H' H2 ∧ I s' σ2 H2, bk := u D } ((σ'.set j (some v)).set j2 (some w)) H')
    (done : ∀ s σ' H', res = .go s → I s σ' H' → u D σ' H') : tSeq (tFor wi (gOr (gTup K 2 (gCons (gName j) (gCons (gName j2) gNil))) (gLst K 2 (gCons (gName j) (gCons (gName j2) gNil)))) tb) u D σ H := for_s2q (D := { D with nx := u D }) d h e e2 hf I h0 step done
/-! ### slices, two names at once, while drawing -/
def EvWO (b c : Addr) (S : AS) (to : TO) (σ : St) (H : Hp) (w : Wp (Option Int)) : Prop :=
  Sub [b, c] S → ∀ P, w P → ∀ H1, Fr [b, c] H H1 → Dom S H1 → Bag H1 b c → ∀ Q : Option Int → Hp → Prop, (∀ H2 x, P x → Fr [b, c] H1 H2 → Dom S H2 → Bag H2 b c → Q x H2) → to σ H1 Q
theorem wo_pure {to : TO} {r : Option (Option Int)} (h : EvO S [b, c] to σ H r) : EvWO b c S to σ H (lf r) := fun ts P ⟨x, e, hP⟩ H1 f d hB Q q => h x e H1 f d Q fun H2 s => q H2 x hP (Fr.same s) (d.same s) (hB.same s)
theorem wo_some {w : Wp Int} (h : EvW b c S te σ H (of (K := K) tInt S) w) : EvWO b c S (tPart te) σ H (unW (fun i => some (some i)) w) := fun ts P hP H1 f d hB Q q =>
  h ts _ hP H1 f d hB _ fun v H2 i ⟨z, e, hz⟩ f2 d2 hB2 hv => ⟨i, hv, q H2 _ (by cases e; exact hz) f2 d2 hB2⟩
def slW (wa : Wp (List α)) (wl wh : Wp (Option Int)) : Wp (List α) := fun P => wa fun xs => wl fun l => wh fun h => P (cutD xs l h)
theorem ew_slL {tl th : TO} {wa : Wp (List α)} {wl wh : Wp (Option Int)} (ha : EvW b c S ta σ H (of (tL a) S) wa) (hl : EvWO b c S tl σ H wl) (hh : EvWO b c S th σ H wh) :
    EvW b c S (tSl (rSlL K) ta tl th) σ H (nw a S) (slW wa wl wh) := fun ts P hP H1 f1 d hB Q q => by
  refine ha ts _ hP H1 f1 d hB _ fun v H2 xs hx f2 d2 hB2 hv => hl ts _ hx H2 (f1.trans f2) d2 hB2 _ fun H3 l hl' f3 d3 hB3 => hh ts _ hl' H3 ((f1.trans f2).trans f3) d3 hB3 _ fun H4 h hh' f4 d4 hB4 => ?_
  obtain ⟨p, vs, rfl, hp, hvs⟩ := (tL a).mono ((f3.trans f4).sub ts) hv
  refine ⟨p, vs, rfl, hp.sq, fun p' hp' => q _ _ _ hh' (((f2.trans f3).trans f4).trans (Fr.same (same_new hp'))) (d4.same (same_new hp')) (hB4.same (same_new hp')) ⟨p', rfl, fr_back ((f2.trans f3).trans f4) hB4.dom hp', _, upd_same, ?_⟩⟩
  exact (hvs.cut l h).imp fun _ _ hh => a.mono (Fr.same (same_new hp')) (a.ext hp' hh)
theorem qw_par {i j : Nat} {wa : Wp α} {wb : Wp β} {P : α → β → Prop} (d : Dom S H) (hB : Bag H b c) (ts : Sub [b, c] S) (ha : EvW b c S ta σ H (of a S) wa) (hb : EvW b c S tb σ H (of b' S) wb) (e : wa fun x => wb fun y => P x y)
    (k : ∀ v w H1 x y, P x y → Fr [b, c] H H1 → Dom S H1 → Bag H1 b c → a.rp S H1 v x → b'.rp S H1 w y → u D ((σ.set i (some v)).set j (some w)) H1) :
    tSeq (tPar i j (tCons ta (tCons tb tNil))) u D σ H := ha ts _ e H (Fr.refl _) d hB _ fun v H1 x hx f1 d1 hB1 hv => hb ts _ hx H1 f1 d1 hB1 _ fun w H2 y hy f2 d2 hB2 hw => ⟨v, w, rfl, k v w H2 x y hy (f1.trans f2) d2 hB2 (a.mono (f2.sub ts) hv) hw⟩
theorem qw_par2 {i j : Nat} {wa : Wp α} {wb : Wp β} {P : α → β → Prop} (d : Dom S H) (hB : Bag H b c) (ts : Sub [b, c] S) (ha : EvW b c S ta σ H (of a S) wa) (hb : EvW b c S tb σ H (of b' S) wb) (e : wa fun x => wb fun y => P x y)
    (k : ∀ v w H1 x y, P x y → Fr [b, c] H H1 → Dom S H1 → Bag H1 b c → a.rp S H1 v x → b'.rp S H1 w y → u D ((σ.set i (some v)).set j (some w)) H1) :
    tSeq (tAsg (tTup (tCons ta (tCons tb tNil))) (gTup K 2 (gCons (gName i) (gCons (gName j) gNil)))) u D σ H := ha ts _ e H (Fr.refl _) d hB _ fun v H1 x hx f1 d1 hB1 hv => hb ts _ hx H1 f1 d1 hB1 _ fun w H2 y hy f2 d2 hB2 hw => ⟨(by show 2 ≤ sizeLine; decide), fun p hp =>
  ⟨p, _, rfl, .inl (.inl upd_same), rfl, v, _, rfl, w, _, rfl, rfl, k v w _ x y hy ((f1.trans f2).trans (Fr.same (same_new hp))) (d2.same (same_new hp)) (hB2.same (same_new hp)) (a.mono (Fr.same (same_new hp)) (a.mono (f2.sub ts) hv)) (b'.mono (Fr.same (same_new hp)) hw)⟩⟩
end
end M

namespace M
open PySem L2 G
theorem mapO_all {α β : Type} {f : α → Option β} {g : α → β} : ∀ {xs : List α}, (∀ x ∈ xs, f x = some (g x)) → mapO f xs = some (xs.map g)
  | [], _ => rfl
  | x :: r, h => by
    simp only [mapO, bd, h x (List.mem_cons_self ..), Option.bind_some, mapO_all (fun y hy => h y (List.mem_cons_of_mem _ hy)), List.map_cons]
theorem cut_mem {α : Type} {xs : List α} {lo hi : Option Int} {x : α} (h : x ∈ cutD xs lo hi) : x ∈ xs := by
  unfold cutD at h
  exact List.mem_of_mem_drop (List.mem_of_mem_take h)
theorem cut_len {α : Type} (xs : List α) (lo hi : Option Int) : (cutD xs lo hi).length ≤ xs.length := by
  unfold cutD
  rw [List.length_take, List.length_drop]
  omega
theorem at_in {α : Type} {xs : List α} {i : Int} (h0 : 0 ≤ i) (h : i < xs.length) : ∃ x, atI xs i = some x ∧ x ∈ xs := by
  have hk : i.toNat < xs.length := by omega
  have e := atI_nat (xs := xs) (j := i.toNat) (List.getElem?_eq_getElem hk)
  rw [show ((i.toNat : Nat) : Int) = i by omega] at e
  exact ⟨_, e, List.getElem_mem hk⟩
theorem rngP_of {n : Int} (h : -1000000 ≤ n ∧ n ≤ 1000000) : rngP n = true := by
  unfold rngP
  exact Nat.ble_eq_true_of_le (by omega)
theorem rng2_eq {a b : Int} (ha : -1000000 ≤ a ∧ a ≤ 1000000) (hb : -1000000 ≤ b ∧ b ≤ 1000000) : rng2? a b = some (rngL a (b - a).toNat) := by
  unfold rng2?
  rw [rngP_of ha, rngP_of hb]
  rfl
theorem rng1_eq {b : Int} (hb : -1000000 ≤ b ∧ b ≤ 1000000) : rng1? b = some (rngL 0 b.toNat) := by
  unfold rng1?
  rw [rngP_of hb]
  rfl
theorem rngL_succ (a : Int) (m : Nat) : rngL a (m + 1) = a :: rngL (a + 1) m := by
  unfold rngL
  rw [List.range_succ_eq_map, List.map_cons, List.map_map]
  congr 1
  · simp
  · apply List.map_congr_left
    intro k _
    simp only [Function.comp_apply]
    omega
theorem app_eq {α : Type} {xs : List α} (x : α) (h : xs.length < 100000) : app? xs x = some (xs ++ [x]) := by
  unfold app?
  rw [if_pos h]
theorem rng_len (lo : Int) (n : Nat) : (rngL lo n).length = n := by simp [rngL]
theorem rng_mem {lo x : Int} {n : Nat} (h : x ∈ rngL lo n) : lo ≤ x ∧ x < lo + n := by
  unfold rngL at h
  obtain ⟨i, hi, rfl⟩ := List.mem_map.mp h
  have := List.mem_range.mp hi
  omega
theorem mapL_eq {α β : Type} {f : α → Option β} {g : α → β} {xs : List α} (hl : xs.length ≤ 1000) (h : ∀ x ∈ xs, f x = some (g x)) : mapL? f xs = some (xs.map g) := by
  have h2 : xs.length < 100000 := Nat.lt_of_le_of_lt hl (by decide)
  have e : mapL? f xs = mapO f xs := if_pos h2
  rw [e]
  exact mapO_all h
theorem atI_toNat {α : Type} {xs : List α} {j : Int} (h0 : 0 ≤ j) (h : j < xs.length) : atI xs j = xs[j.toNat]? := by
  have hk : j.toNat < xs.length := by omega
  have e := atI_nat (xs := xs) (j := j.toNat) (List.getElem?_eq_getElem hk)
  rw [show ((j.toNat : Nat) : Int) = j by omega] at e
  rw [e, List.getElem?_eq_getElem hk]
theorem cut_nat {α : Type} {xs : List α} {a b : Nat} (ha : a ≤ b) (hb : b ≤ xs.length) : cutD xs (some (a : Int)) (some (b : Int)) = (xs.drop a).take (b - a) := by
  unfold cutD
  rw [HT.sIx_nat, HT.sIx_nat, show min a xs.length = a by omega, show min b xs.length = b by omega]
theorem cut_from {α : Type} {xs : List α} {a : Nat} (ha : a ≤ xs.length) : cutD xs (some (a : Int)) none = xs.drop a := by
  unfold cutD
  rw [HT.sIx_nat, show min a xs.length = a by omega]
  rw [show HT.sIx xs.length xs.length none = xs.length from rfl]
  exact List.take_of_length_le (by rw [List.length_drop]; omega)
theorem loopW_ix {α δ ρ : Type} {f : δ → α → Wp (Ct ρ δ)} {P : Ct ρ δ → Prop} (J : Nat → δ → Prop) : ∀ (xs : List α) (i : Nat) (s : δ), J i s →
    (∀ (k : Nat) (s : δ) (x : α) (C : Ct ρ δ → Prop), i ≤ k → k < i + xs.length → J k s → x ∈ xs → (∀ s', J (k + 1) s' → C (.go s')) → f s x C) → (∀ s, J (i + xs.length) s → P (.go s)) → loopW f xs s P
  | [], i, s, h, _, e => e s h
  | x :: r, i, s, h, st, e => by
    unfold loopW
    refine st i s x _ (Nat.le_refl _) (by simp) h (List.mem_cons_self ..) fun s' h' => ?_
    show loopW f r s' P
    refine loopW_ix J r (i + 1) s' h' (fun k s x C h1 h2 hJ hx hC => st k s x C (by omega) (by simp at h2 ⊢; omega) hJ (List.mem_cons_of_mem _ hx) hC) fun s hs => e s ?_
    rw [List.length_cons, show i + (r.length + 1) = i + 1 + r.length by omega]
    exact hs
theorem loopW_all {α δ ρ : Type} {f : δ → α → Wp (Ct ρ δ)} {P : Ct ρ δ → Prop} (J : δ → Prop) (xs : List α) (s : δ) (h : J s) (st : ∀ (s : δ) (x : α) (C : Ct ρ δ → Prop), J s → x ∈ xs → (∀ s', J s' → C (.go s')) → f s x C) (e : ∀ s, J s → P (.go s)) : loopW f xs s P :=
  loopW_ix (fun _ => J) xs 0 s h (fun _ s x C _ _ hJ hx hC => st s x C hJ hx hC) (fun s hs => e s hs)
theorem last_at {α : Type} {xs : List α} (h : xs ≠ []) : ∃ x, atI xs (-1) = some x ∧ x ∈ xs := by
  have l := List.length_pos_iff.mpr h
  have hk : xs.length - 1 < xs.length := by omega
  refine ⟨xs[xs.length - 1], ?_, List.getElem_mem hk⟩
  unfold atI ixN
  rw [if_neg (by decide), if_pos (by omega), Option.bind_some, show ((-1 : Int) + (xs.length : Int)).toNat = xs.length - 1 by omega]
  exact List.getElem?_eq_getElem hk
theorem jn_of {δ : Type} {f : (δ → Prop) → Prop} {k : δ → Prop} (Gd : δ → Prop) (h1 : ∀ K : δ → Prop, (∀ j, Gd j → K j) → f K) (h2 : ∀ j, Gd j → k j) : jn f k := h1 k h2
theorem filW_all {α β : Type} {f : α → Wp (Option β)} {p : β → Prop} : ∀ {xs : List α} {P : List β → Prop}, (∀ x ∈ xs, ∀ Po : Option β → Prop, (∀ y, p y → Po (some y)) → Po none → f x Po) → (∀ ys, ys.length ≤ xs.length → (∀ y ∈ ys, p y) → P ys) → filW f xs P
  | [], P, _, h => h [] (by simp) (fun y hy => by simp at hy)
  | x :: r, P, hf, h => by
    unfold filW
    refine hf x (List.mem_cons_self ..) _ (fun y hy => ?_) ?_
    · refine filW_all (fun z hz => hf z (List.mem_cons_of_mem _ hz)) fun ys hl hp => h _ (by simp; omega) fun z hz => ?_
      simp at hz
      rcases hz with rfl | hz
      · exact hy
      · exact hp z hz
    · refine filW_all (fun z hz => hf z (List.mem_cons_of_mem _ hz)) fun ys hl hp => h _ (by simp; omega) fun z hz => hp z (by simpa using hz)
theorem loopW_rng {δ ρ : Type} {f : δ → Int → Wp (Ct ρ δ)} {P : Ct ρ δ → Prop} (J : Nat → δ → Prop) : ∀ (n : Nat) {a : Nat} (s : δ), J a s → (∀ (k : Nat) (s : δ) (C : Ct ρ δ → Prop), a ≤ k → k < a + n → J k s → (∀ s', J (k + 1) s' → C (.go s')) → f s (k : Int) C) → (∀ s, J (a + n) s → P (.go s)) → loopW f (rngL (a : Int) n) s P
  | 0, a, s, h, _, e => e s h
  | n + 1, a, s, h, st, e => by
    rw [rngL_succ]
    unfold loopW
    refine st a s _ (Nat.le_refl _) (by omega) h fun s' h' => ?_
    show loopW f (rngL ((a : Int) + 1) n) s' P
    have := loopW_rng (f := f) (P := P) J n (a := a + 1) s' h' (fun k s C h1 h2 hJ hC => st k s C (by omega) (by omega) hJ hC) (fun s hs => e s (by rw [show a + (n + 1) = a + 1 + n by omega]; exact hs))
    simpa using this
theorem loopC_chk {α : Type} {f : Unit → α → Option (Ct Bool Unit)} {g : α → Bool} : ∀ (xs : List α), (∀ x ∈ xs, f () x = some (if g x then .ret false else .go ())) → loopC f xs () = some (if xs.any g then .ret false else .go ())
  | [], _ => rfl
  | x :: r, h => by
    have hx := h x (List.mem_cons_self ..)
    have hr := loopC_chk r fun y hy => h y (List.mem_cons_of_mem _ hy)
    unfold loopC
    rw [hx, Option.bind_some]
    by_cases c : g x = true
    · simp [c]
    · simp only [c, Bool.false_eq_true, if_false, List.any_cons, Bool.false_or]
      exact hr
theorem loopC_app {α β ρ : Type} {f : List β → α → Option (Ct ρ (List β))} {g : α → List β} {M c : Nat} : ∀ (xs : List α) (s : List β), (∀ x ∈ xs, (g x).length ≤ c ∧ ∀ s, s.length + c ≤ M → f s x = some (.go (s ++ g x))) → s.length + xs.length * c ≤ M → loopC f xs s = some (.go (s ++ xs.flatMap g))
  | [], s, _, _ => by simp [loopC]
  | x :: r, s, h, hb => by
    have hx := h x (List.mem_cons_self ..)
    have e : (x :: r).length * c = c + r.length * c := by rw [List.length_cons, Nat.succ_mul, Nat.add_comm]
    rw [e] at hb
    unfold loopC
    rw [hx.2 s (by omega), Option.bind_some]
    refine (loopC_app r (s ++ g x) (fun y hy => h y (List.mem_cons_of_mem _ hy)) ?_).trans ?_
    · rw [List.length_append]
      have := hx.1
      omega
    · simp
theorem filO_gen {α : Type} {g : α → Option Bool} {p : α → Bool} : ∀ (xs : List α), (∀ x ∈ xs, g x = some (p x)) → filO (fun x => bd (g x) fun k => if k then bd (some x) fun y => some (some y) else some none) xs = some (xs.filter p)
  | [], _ => rfl
  | x :: r, h => by
    have hr := filO_gen r fun y hy => h y (List.mem_cons_of_mem _ hy)
    simp only [filO, h x (List.mem_cons_self ..), bd, Option.bind_some] at hr ⊢
    by_cases c : p x = true
    · simp [c, hr]
    · simp [c, hr]
theorem fil_gen {α : Type} {g : α → Option Bool} {p : α → Bool} {xs : List α} (hl : xs.length ≤ 1000) (h : ∀ x ∈ xs, g x = some (p x)) : filL? g (fun x => some x) xs = some (xs.filter p) := by
  unfold filL?
  rw [if_pos (by omega)]
  exact filO_gen xs h
theorem at_get {α : Type} {xs : List α} {j : Int} (d : α) (h0 : 0 ≤ j) (h : j < xs.length) : atI xs j = some (xs.getD j.toNat d) := by
  rw [atI_toNat h0 h, List.getD_eq_getElem?_getD, List.getElem?_eq_getElem (by omega)]
  rfl
theorem at_lastD {α : Type} {xs : List α} (d : α) (h : xs ≠ []) : atI xs (-1) = some (xs.getD (xs.length - 1) d) := by
  have hl := List.length_pos_iff.mpr h
  unfold atI ixN
  rw [if_neg (by decide), if_pos (by omega), Option.bind_some, show ((-1 : Int) + (xs.length : Int)).toNat = xs.length - 1 by omega, List.getD_eq_getElem?_getD, List.getElem?_eq_getElem (by omega)]
  rfl
theorem rng_memI {lo x : Int} {n : Nat} (h : lo ≤ x ∧ x < lo + n) : x ∈ rngL lo n := by
  unfold rngL
  rw [List.mem_map]
  exact ⟨(x - lo).toNat, by simp; omega, by omega⟩
theorem memD_iff {α : Type} [DecidableEq α] {x : α} {xs : List α} : memD x xs = true ↔ x ∈ xs := by simp [memD]
theorem flatMap_len {α β : Type} {g : α → List β} {c : Nat} : ∀ xs : List α, (∀ x ∈ xs, (g x).length ≤ c) → (xs.flatMap g).length ≤ xs.length * c
  | [], _ => by simp
  | x :: r, h => by
    have := flatMap_len r fun y hy => h y (List.mem_cons_of_mem _ hy)
    have := h x (List.mem_cons_self ..)
    rw [List.flatMap_cons, List.length_append, List.length_cons, Nat.succ_mul]
    omega
theorem whileC_meas {δ ρ : Type} {t : δ → Option Bool} {f : δ → Option (Ct ρ δ)} (J : δ → Prop) (μ : δ → Nat) (h : ∀ s, J s → t s = some false ∨ (t s = some true ∧ ∃ s', f s = some (.go s') ∧ J s' ∧ μ s' < μ s)) : ∀ (n : Nat) (s : δ), J s → μ s < n → ∃ s', whileC t f n s = some (.go s') ∧ J s' ∧ t s' = some false
  | 0, s, _, hm => by omega
  | n + 1, s, hJ, hm => by
    rcases h s hJ with h1 | ⟨h1, s', h2, h3, h4⟩
    · exact ⟨s, whileC_stop h1, hJ, h1⟩
    · obtain ⟨z, e1, e2, e3⟩ := whileC_meas J μ h n s' h3 (by omega)
      exact ⟨z, by rw [whileC_go h1 h2, e1], e2, e3⟩
theorem min_mem {xs : List Int} (h : xs ≠ []) : ∃ m, xs.min? = some m ∧ m ∈ xs := by
  cases e : xs.min? with
  | none => exact absurd (List.min?_eq_none_iff.mp e) h
  | some m => exact ⟨m, rfl, List.min?_mem e⟩
theorem cat_eq {α : Type} {xs ys : List α} (h : xs.length + ys.length ≤ 1000) : cat? xs ys = some (xs ++ ys) := by
  unfold cat?
  rw [if_pos (by omega)]
end M

namespace M
open PySem L2 G
section
variable {K : PySem.W.Frag} {α β γ δ ε ρ : Type} {S T : AS} {σ : St} {H : Hp} {ta tb te tc : TE} {tt tu : TT} {a : Ty K α} {b' : Ty K β} {c' : Ty K γ} {D : Ends} {u t1 t2 : TS} {b c : Addr}
theorem kitAny2 {t n1 n2 : String} {k1 k2 : Bool} (h1 : kitB t n1 = some k1) (h2 : kitB t n2 = some k2) : PySem.W.kitAny K (.type t) [.type n1, .type n2] = some (k1 || k2) := by
  cases k1 with
  | true => exact kitAny_cons (b := true) (kit_ty h1) (fun z => nomatch z) (fun _ => rfl)
  | false =>
    refine kitAny_cons (b := false) (kit_ty h1) (fun _ => ?_) (fun z => nomatch z)
    cases k2 with
    | true => exact kitAny_cons (b := true) (kit_ty h2) (fun z => nomatch z) (fun _ => rfl)
    | false => exact kitAny_cons (b := false) (kit_ty h2) (fun _ => rfl) (fun z => nomatch z)
theorem ev_isi2 {r : Option α} {t n1 n2 : String} {k1 k2 : Bool} [hi : IsTy a t] (h : Ev S T te σ H (of a S) r) (h1 : kitB t n1 = some k1) (h2 : kitB t n2 = some k2) :
    Ev S T (tCB (rIsiT K) (tCons te (tCons (tTup (tCons (tC (.ty n1)) (tCons (tC (.ty n2)) tNil))) tNil))) σ H (of (K := K) tBool S) (bd r fun _ => some (k1 || k2)) := by
  intro z e H1 f1 d Q q
  obtain ⟨x, ex, e⟩ := bd_some e
  cases e
  exact h x ex H1 f1 d _ fun v H2 s hv => ⟨(by show 2 ≤ sizeLine; decide), fun p hp => ⟨v, p, _, _, _, _, rfl, upd_same, .cons (.ty _) (.cons (.ty _) .nil), hi.h (a.mono (Fr.same (same_new hp)) hv), kitAny2 h1 h2, q _ _ (s.trans (same_new hp)) rfl⟩⟩
theorem ev_isNv [NN a] {r : Option α} (h : Ev S T te σ H (of a S) r) : Ev S T (tOp (fun x y H Q => y = .non ∧ Q (.bl (decide (x = .non))) H) te (tC .non)) σ H (of (K := K) tBool S) (bd r fun _ => some false) := by
  intro z e H1 f1 d Q q
  obtain ⟨x, ex, e⟩ := bd_some e
  cases e
  exact h x ex H1 f1 d _ fun v H2 s hv => ⟨rfl, q _ H2 s (by show V.bl _ = V.bl false; rw [decide_eq_false (NN.h hv)])⟩
theorem ev_slO {p : Addr} {xs : List α} {i : Nat} {tl th : TO} {rl rh : Option (Option Int)} (o : Own a S H p xs) (nt : p ∉ T) (ts : Sub T S) (hi : σ[i]? = some (some (.ref p))) (hl : EvO S T tl σ H rl) (hh : EvO S T th σ H rh) :
    Ev S T (tSl (rSlL K) (tVar i) tl th) σ H (nw a S) (bd rl fun l => bd rh fun h => some (cutD xs l h)) := by
  intro z e H1 f1 d Q q
  obtain ⟨l, el, e⟩ := bd_some e
  obtain ⟨h, eh, e⟩ := bd_some e
  cases e
  refine ⟨_, hi, hl l el H1 f1 d _ fun H2 s2 => hh h eh H2 (f1.trans (Fr.same s2)) (d.same s2) _ fun H3 s3 => ?_⟩
  obtain ⟨vs, hv, ha⟩ := ((o.fr f1 ts nt).same s2).same s3
  refine ⟨p, vs, rfl, .inl (.inl hv), fun p' hp' => q _ _ ((s2.trans s3).trans (same_new hp')) ⟨p', rfl, (s2.trans s3).free hp', _, upd_same, ?_⟩⟩
  exact (ha.cut l h).imp fun _ _ hh => a.mono (Fr.same (same_new hp')) (a.ext hp' hh)
theorem lw_set {p : Addr} {xs : List α} {i : Nat} {w : Wp α} {td : TE} {ri : Option Int} {R : List α → Prop} (d : Dom S H) (hB : Bag H b c) (ts : Sub [b, c] S) (o : Own a S H p xs) (im : p ∈ S) (nt : p ∉ [b, c]) (hi : σ[i]? = some (some (.ref p))) (h : EvW b c S te σ H (of a S) w) (hk : Ev S [b, c] td σ H (of (K := K) tInt S) ri)
    (e : w fun x => lf ri fun k => lf (set? xs k x) R)
    (q : ∀ ys H1 H2, R ys → Fr [b, c] H H1 → Dom S H1 → Bag H1 b c → Mut1 p H1 H2 → Fr S H1 H2 → Own a S H2 p ys → D.nx σ H2) : tAsg te (gSub (tVar i) td rSetL) D σ H := by
  refine h ts _ e H (Fr.refl _) d hB _ fun v H1 x ⟨k, ek, ys, ey, hR⟩ f1 d1 hB1 hx => ⟨_, hi, hk k ek H1 f1 d1 _ fun w H2 s2 hw => ?_⟩
  cases hw
  obtain ⟨vs, hv, ha⟩ := o.fr f1 ts nt
  obtain ⟨j, ej, ey⟩ := bd_some ey
  cases ey
  refine ⟨p, vs, k, j, rfl, rfl, s2 _ _ hv, by rw [ha.len]; exact ej, ?_⟩
  have g1 : Fr S H2 (upd H2 p (.lst (vs.set j v))) := fr_upd im
  refine q _ H1 _ hR f1 d1 hB1 ⟨fun b ob e n => by rw [upd_ne n]; exact s2 _ _ e, by rw [upd_same]; intro z; cases z⟩ ((Fr.same s2).trans g1) ⟨_, upd_same, ?_⟩
  exact (All2.set (a.mono (Fr.same s2) hx) j (ha.imp fun _ _ h => a.mono (Fr.same s2) h)).imp fun _ _ h => a.mono g1 h
theorem qw_set {p : Addr} {xs : List α} {i : Nat} {w : Wp α} {td : TE} {ri : Option Int} {R : List α → Prop} (d : Dom S H) (hB : Bag H b c) (ts : Sub [b, c] S) (o : Own a S H p xs) (im : p ∈ S) (nt : p ∉ [b, c]) (hi : σ[i]? = some (some (.ref p))) (h : EvW b c S te σ H (of a S) w) (hk : Ev S [b, c] td σ H (of (K := K) tInt S) ri)
    (e : w fun x => lf ri fun k => lf (set? xs k x) R)
    (q : ∀ ys H1 H2, R ys → Fr [b, c] H H1 → Dom S H1 → Bag H1 b c → Mut1 p H1 H2 → Fr S H1 H2 → Own a S H2 p ys → u D σ H2) : tSeq (tAsg te (gSub (tVar i) td rSetL)) u D σ H := lw_set (D := { D with nx := u D }) d hB ts o im nt hi h hk e q
end
end M

namespace M
open PySem L2 G
open PyProof.Rows (itemOrd)
open PySem.W (dataLt alike alikeAll AlikeAll minD min_list_data alike_unique)
/-! ### min of a list of data -/
theorem fold_mem {α : Type} (f : α → α → Bool) : ∀ (xs : List α) (x : α), xs.foldl (fun a y => if f y a then y else a) x ∈ x :: xs
  | [], x => by simp
  | y :: r, x => by
    rw [List.foldl_cons]
    have := fold_mem f r (if f y x then y else x)
    rcases List.mem_cons.mp this with e | m
    · rw [e]
      split <;> simp
    · exact List.mem_cons_of_mem _ (List.mem_cons_of_mem _ m)
def rMinA (K : PySem.W.Frag) : List V → Hp → VK → Prop := fun vs H Q => ∃ (a : Addr) (xs : List V) (d : PyData) (ds : List PyData), vs = [.ref a] ∧ SqL K H a xs ∧ DpAll K H xs (d :: ds) ∧ AlikeAll (d :: ds) ∧ PyData.depthAll (d :: ds) ≤ 60 ∧
  ∀ (i : Nat) (v : V), xs[i]? = some v → (d :: ds)[i]? = some (minD d ds) → Q v H
theorem cr_minA {X : Cx} (hc : X.calm = true) (hu : X.A.units + 65 < cLine) : CallR X (.builtin "min") (rMinA X.K) := by
  intro pins s σ H vs us Q I r h
  obtain ⟨a, xs, d, ds, rfl, hs, hd, hal, hdp, q⟩ := h
  obtain ⟨its, rv, hl, _⟩ := I.list hs
  rw [Vals.ref1 r]
  obtain ⟨as, hr⟩ := Dp.readsAll I (d :: ds) xs its hd rv
  refine min_list_data (I.ok.hd hc) hl.isList (by simpa using hr) hal (by omega) fun i v h' tk bs hv hr' hk => ?_
  have hv' : its[i]? = some v := by simpa using hv
  have hlen := rv.length
  have hi : i < its.length := (List.getElem?_eq_some_iff.mp hv').1
  obtain ⟨x, hx⟩ : ∃ x, xs[i]? = some x := ⟨_, List.getElem?_eq_getElem (by omega)⟩
  have rx : RelV x v := by
    obtain ⟨u, hu', ru⟩ := Vals.get rv hx
    rw [hv'] at hu'
    cases hu'
    exact ru
  obtain ⟨cs, rc, hin, _, _⟩ := PySem.W.readsAll_at hr i v hv'
  have e : (d :: ds).getD i .none = minD d ds := by
    have r1 := PySem.W.reads_keeps hk rc
    refine alike_unique _ _ v _ _ ?_ r1 hr'
    refine hal.1 _ ?_ _ ?_
    · rw [List.getD_eq_getElem?_getD, List.getElem?_eq_getElem hin]
      exact List.getElem_mem _
    · exact fold_mem _ _ _
  refine ⟨x, H, I.kept hk, rx, q i x hx ?_⟩
  rw [← e, List.getD_eq_getElem?_getD, List.getElem?_eq_getElem hin]
  rfl
/-- codes whose things can be ordered -/
structure TyLt {K : PySem.W.Frag} {α : Type} {a : Ty K α} (d : TyD a) (lt : α → α → Bool) : Prop where
  al : ∀ x y, alike (d.dt x) (d.dt y) = true
  nn : ∀ x, d.dt x ≠ .none
  lt : ∀ x y, dataLt (d.dt x) (d.dt y) = lt x y
def minBy? {α : Type} (lt : α → α → Bool) : List α → Option α
  | [] => none
  | x :: xs => some (xs.foldl (fun a y => if lt y a then y else a) x)
theorem minD_map {K : PySem.W.Frag} {α : Type} {a : Ty K α} {d : TyD a} {lt : α → α → Bool} (h : TyLt d lt) : ∀ (xs : List α) (x : α), minD (d.dt x) (xs.map d.dt) = d.dt (xs.foldl (fun a y => if lt y a then y else a) x)
  | [], x => rfl
  | y :: r, x => by
    have ih := minD_map h r (if lt y x then y else x)
    unfold minD at ih ⊢
    rw [List.map_cons, List.foldl_cons, List.foldl_cons, h.lt, ← ih]
    congr 1
    split <;> rfl
theorem ev_minBy {K : PySem.W.Frag} {α : Type} {S T : AS} {σ : St} {H : Hp} {te : TE} {a : Ty K α} [DecidableEq α] {d : TyD a} {lt : α → α → Bool} {r : Option (List α)} (hd : d.dep ≤ 60) (hl : TyLt d lt) (h : Ev S T te σ H (of (tL a) S) r) :
    Ev S T (tCB (rMinA K) (tCons te tNil)) σ H (of a S) (bd r fun x => minBy? lt x) := by
  intro z e H1 f1 dm Q q
  obtain ⟨x, ex, e⟩ := bd_some e
  refine h x ex H1 f1 dm _ fun v H2 s ⟨p, vs, ev, hp, ha⟩ => ?_
  subst ev
  cases x with
  | nil => cases e
  | cons y ys =>
    cases e
    have da := dpAll d ha
    rw [List.map_cons] at da
    refine ⟨p, vs, d.dt y, ys.map d.dt, rfl, hp.sq, da, ⟨fun u hu w hw => ?_, fun u hu => ?_⟩, ?_, fun i w hw he => ?_⟩
    · rw [← List.map_cons] at hu hw
      obtain ⟨u', _, rfl⟩ := List.mem_map.mp hu
      obtain ⟨w', _, rfl⟩ := List.mem_map.mp hw
      exact hl.al _ _
    · rw [← List.map_cons] at hu
      obtain ⟨u', _, rfl⟩ := List.mem_map.mp hu
      exact hl.nn _
    · rw [← List.map_cons]
      exact Nat.le_trans (depAll d (y :: ys)) hd
    · rw [← List.map_cons, List.getElem?_map, minD_map hl] at he
      obtain ⟨c, hc, rc⟩ := ha.getL i hw
      rw [hc] at he
      have ec : c = ys.foldl (fun a y => if lt y a then y else a) y := by
        have := Option.some.inj he
        have e2 := d.dec c (ys.foldl (fun a y => if lt y a then y else a) y)
        rw [this, d.dec] at e2
        simpa using e2.symm
      subst ec
      exact q w H2 s rc
/-! lists of ints, as Python orders them -/
def lexI : List Int → List Int → Bool
  | [], [] => false
  | [], _ :: _ => true
  | _ :: _, [] => false
  | x :: xs, y :: ys => if x = y then lexI xs ys else decide (x < y)
theorem lexI_toks : ∀ xs ys : List Int, PyProof.Rows.lexLt itemOrd (PySem.W.keyToksAll (xs.map .int)) (PySem.W.keyToksAll (ys.map .int)) = lexI xs ys
  | [], [] => by rfl
  | [], y :: ys => by rfl
  | x :: xs, [] => by rfl
  | x :: xs, y :: ys => by
    rw [List.map_cons, List.map_cons]
    have al : alike (.int x) (.int y) = true := rfl
    unfold lexI
    by_cases c : x = y
    · rw [if_pos c, PySem.W.dataLt_all_yes al (by simp [PyData.eqv, c])]
      exact lexI_toks xs ys
    · rw [if_neg c, PySem.W.dataLt_all_no al (by simp [PyData.eqv, c]), PySem.W.dataLt_int]
theorem alike_ints' : ∀ xs ys : List Int, alikeAll (xs.map .int) (ys.map .int) = true
  | [], ys => by simp [alikeAll]
  | x :: xs, [] => by simp [alikeAll]
  | x :: xs, y :: ys => by simp [alikeAll, alike, alike_ints' xs ys]
theorem lt_LI {K : PySem.W.Frag} : TyLt (K := K) (dL dInt) lexI := ⟨fun x y => by show alike (.list _) (.list _) = true; rw [alike]; exact alike_ints' x y, fun x z => (by cases z), fun x y => by show dataLt (.list _) (.list _) = _; rw [PySem.W.dataLt_list]; exact lexI_toks x y⟩
/-! one taken out of a list -/
def popAt? {α : Type} (xs : List α) (i : Int) : Option (α × List α) := if 0 ≤ i then (xs[i.toNat]?).map fun y => (y, xs.eraseIdx i.toNat) else none
theorem All2.erase {α β : Type} {F : α → β → Prop} : ∀ (n : Nat) {xs : List α} {ys : List β}, All2 F xs ys → All2 F (xs.eraseIdx n) (ys.eraseIdx n)
  | _, _, _, .nil => .nil
  | 0, _, _, .cons _ r => r
  | n + 1, _, _, .cons a r => .cons a (All2.erase n r)
end M

namespace M
open PySem L2 G
open PyProof.Rows (itemOrd)
open PySem.W (dataLt alike alikeAll AllAlike Sortable dataLe sorted_data EachIs)
/-! ### sorted of a list of data -/
def rSortA (K : PySem.W.Frag) : List V → Hp → VK → Prop := fun vs H Q => ∃ (a : Addr) (bs : List (V × PyData)), vs = [.ref a] ∧ SqL K H a (bs.map (·.1)) ∧ (∀ b ∈ bs, Dp K H b.1 b.2) ∧ AllAlike (bs.map (·.2)) ∧ Sortable (bs.map (·.2)) ∧ (∀ b ∈ bs, b.2.depth ≤ 60) ∧
  ∀ p, H p = none → Q (.ref p) (upd H p (.lst ((bs.mergeSort (dataLe false (·.2))).map (·.1))))
theorem each_vals {X : Cx} {pins : List (Addr × Obj)} {σ : St} {H : Hp} {s : Shared} (I : Inv X pins σ H s) : ∀ {bs : List (V × PyData)} {its : List Value}, Vals (bs.map (·.1)) its → (∀ b ∈ bs, Dp X.K H b.1 b.2) →
    EachIs (fun v (b : V × PyData) => RelV b.1 v) its bs ∧ EachIs (fun v (b : V × PyData) => ∃ as, Reads s.heap v b.2 as) its bs
  | [], _, .nil, _ => ⟨.nil, .nil⟩
  | b :: r, _, .cons h t, hd => by
    obtain ⟨e1, e2⟩ := each_vals I t fun x hx => hd x (List.mem_cons_of_mem _ hx)
    exact ⟨.cons h e1, .cons (Dp.reads I b.2 b.1 _ (hd b (List.mem_cons_self ..)) h) e2⟩
theorem vals_each : ∀ {out : List Value} {bs : List (V × PyData)}, EachIs (fun v (b : V × PyData) => RelV b.1 v) out bs → Vals (bs.map (·.1)) out
  | _, _, .nil => .nil
  | _, _, .cons h t => .cons h (vals_each t)
theorem cr_sortA {X : Cx} (hu : X.A.units + 65 < cLine) : CallR X (.builtin "sorted") (rSortA X.K) := by
  intro pins s σ H vs us Q I r h
  obtain ⟨a, bs, rfl, hs, hd, hal, hk, hdp, q⟩ := h
  obtain ⟨its, rv, hl, hz⟩ := I.list hs
  rw [Vals.ref1 r]
  obtain ⟨e1, e2⟩ := each_vals I rv hd
  have hz' : bs.length ≤ sizeLine := by simpa using hz
  refine sorted_data (bs := bs) (enc := (·.2)) hl.isList e1 e2 hal hk hz' (fun b hb => by have := hdp b hb; omega) fun out ho he => ?_
  obtain ⟨ep, he'⟩ := PyProof.Rows.sortedAll_at s.heap its out.toArray
  have hlen : ((bs.mergeSort (dataLe false (·.2))).map (·.1)).length ≤ sizeLine := by rw [List.length_map, List.length_mergeSort]; exact hz'
  exact ⟨.ref _, upd H (s.heap.objs.size + 1) (.lst ((bs.mergeSort (dataLe false (·.2))).map (·.1))), I.laid (t' := s.toks) (fun _ _ => PyProof.Rows.sortedAll_old) (Nat.le_succ _) ⟨hlen, out, ep, vals_each he, by simpa using he'⟩, rfl, q _ (I.hok.fresh (Nat.le_succ _))⟩
def sortBy {α : Type} (lt : α → α → Bool) (xs : List α) : List α := xs.mergeSort fun x y => !lt y x
theorem dataLe_not {β : Type} (k : β → PyData) (x y : β) : dataLe false k x y = !dataLt (k y) (k x) := by
  first | rfl | (unfold dataLe dataLt; rfl)
/-- codes of which all are tuples with an item, or none is -/
def Srt {K : PySem.W.Frag} {α : Type} {a : Ty K α} (d : TyD a) : Prop := (∀ x, ∃ y r, d.dt x = .tuple (y :: r)) ∨ ∀ x ys, d.dt x ≠ .tuple ys
theorem ev_sortBy {K : PySem.W.Frag} {α : Type} {S T : AS} {σ : St} {H : Hp} {te : TE} {a : Ty K α} {d : TyD a} {lt : α → α → Bool} {r : Option (List α)} (hd : d.dep ≤ 60) (hl : TyLt d lt) (hs : Srt d) (h : Ev S T te σ H (of (tL a) S) r) :
    Ev S T (tCB (rSortA K) (tCons te tNil)) σ H (nw a S) (bd r fun x => some (sortBy lt x)) := by
  intro z e H1 f1 dm Q q
  obtain ⟨xs, ex, e⟩ := bd_some e
  cases e
  refine h xs ex H1 f1 dm _ fun v H2 s ⟨p, vs, ev, hp, ha⟩ => ?_
  subst ev
  have len := ha.len
  have m1 : ((vs.zip xs).map fun t : V × α => (t.1, d.dt t.2)).map (·.1) = vs := by
    rw [List.map_map]
    exact List.map_fst_zip (by omega)
  have m2 : (vs.zip xs).map Prod.snd = xs := List.map_snd_zip (by omega)
  have hz : ∀ t ∈ vs.zip xs, a.rp S H2 t.1 t.2 := fun t ht => by
    obtain ⟨i, hi, rfl⟩ := List.mem_iff_getElem.mp ht
    rw [List.length_zip] at hi
    rw [List.getElem_zip]
    obtain ⟨w, hw, hr⟩ := ha.get i (List.getElem?_eq_getElem (show i < xs.length by omega))
    rw [List.getElem?_eq_getElem (by omega)] at hw
    cases hw
    exact hr
  refine ⟨p, (vs.zip xs).map fun t => (t.1, d.dt t.2), rfl, by rw [m1]; exact hp.sq, fun b hb => ?_, ?_, ?_, fun b hb => ?_, fun p' hp' => ?_⟩
  · obtain ⟨t, ht, rfl⟩ := List.mem_map.mp hb
    exact d.dp (hz t ht)
  · intro u hu w hw
    rw [List.map_map] at hu hw
    obtain ⟨t, _, rfl⟩ := List.mem_map.mp hu
    obtain ⟨t', _, rfl⟩ := List.mem_map.mp hw
    exact hl.al _ _
  · rcases hs with hs | hs
    · left
      intro u hu
      rw [List.map_map] at hu
      obtain ⟨t, _, rfl⟩ := List.mem_map.mp hu
      exact hs _
    · right
      intro u hu
      rw [List.map_map] at hu
      obtain ⟨t, _, rfl⟩ := List.mem_map.mp hu
      exact ⟨hl.nn _, hs _⟩
  · obtain ⟨t, _, rfl⟩ := List.mem_map.mp hb
    exact Nat.le_trans (d.hd _) hd
  · have k1 := List.map_mergeSort (r := fun t t' : V × α => !lt t'.2 t.2) (s := dataLe false (fun b : V × PyData => b.2)) (f := fun t : V × α => (t.1, d.dt t.2)) (l := vs.zip xs) (fun t _ t' _ => by rw [dataLe_not, hl.lt])
    have k2 := List.map_mergeSort (r := fun t t' : V × α => !lt t'.2 t.2) (s := fun x y => !lt y x) (f := Prod.snd) (l := vs.zip xs) (fun t _ t' _ => rfl)
    rw [m2] at k2
    rw [← k1, List.map_map]
    have s4 := same_new (o := .lst (((vs.zip xs).mergeSort fun t t' : V × α => !lt t'.2 t.2).map fun t => t.1)) hp'
    refine q _ _ (s.trans s4) ⟨p', rfl, s.free hp', _, upd_same, ?_⟩
    unfold sortBy
    rw [← k2]
    have al : ∀ ts : List (V × α), (∀ t ∈ ts, a.rp S H2 t.1 t.2) → All2 (a.rp (p' :: S) (upd H2 p' (.lst (((vs.zip xs).mergeSort fun t t' : V × α => !lt t'.2 t.2).map fun t => t.1)))) (ts.map fun t => t.1) (ts.map Prod.snd) := by
      intro ts
      induction ts with
      | nil => exact fun _ => .nil
      | cons t r ih => exact fun ht => .cons (a.mono (Fr.same s4) (a.ext hp' (ht t (List.mem_cons_self ..)))) (ih fun x hx => ht x (List.mem_cons_of_mem _ hx))
    exact al _ fun t ht => hz t (List.mem_mergeSort.mp ht)
/-! pairs of a number and a list of numbers; texts -/
def ltPL (x y : Int × List Int) : Bool := if x.1 = y.1 then lexI x.2 y.2 else decide (x.1 < y.1)
theorem lt_PL {K : PySem.W.Frag} : TyLt (K := K) (dT2 dInt (dL dInt)) ltPL := by
  have al1 : ∀ n m : Int, alike (.int n) (.int m) = true := fun _ _ => rfl
  have al2 : ∀ x y : List Int, alike (.list (x.map .int)) (.list (y.map .int)) = true := fun x y => by rw [alike]; exact alike_ints' x y
  refine ⟨fun x y => ?_, fun x z => (by cases z), fun x y => ?_⟩
  · show alike (.tuple [.int x.1, .list (x.2.map .int)]) (.tuple [.int y.1, .list (y.2.map .int)]) = true
    rw [alike, alikeAll, alikeAll, al1, al2, alikeAll]
    rfl
  · show dataLt (.tuple [.int x.1, .list (x.2.map .int)]) (.tuple [.int y.1, .list (y.2.map .int)]) = ltPL x y
    rw [PySem.W.dataLt_tuple]
    unfold ltPL
    by_cases c : x.1 = y.1
    · rw [if_pos c, PySem.W.dataLt_all_yes (al1 _ _) (by simp [PyData.eqv, c])]
      have e2 : PyData.eqv (.list (x.2.map .int)) (.list (y.2.map .int)) = decide (x.2 = y.2) := (dL (K := K) dInt).dec x.2 y.2
      by_cases c2 : x.2 = y.2
      · rw [PySem.W.dataLt_all_yes (al2 _ _) (by rw [e2]; exact decide_eq_true c2), c2]
        have irr : ∀ l : List Int, lexI l l = false := fun l => by induction l with | nil => rfl | cons a r ih => simp [lexI, ih]
        rw [irr]
        rfl
      · rw [PySem.W.dataLt_all_no (al2 _ _) (by rw [e2]; exact decide_eq_false c2), PySem.W.dataLt_list]
        exact lexI_toks _ _
    · rw [if_neg c, PySem.W.dataLt_all_no (al1 _ _) (by simp [PyData.eqv, c]), PySem.W.dataLt_int]
theorem srt_PL {K : PySem.W.Frag} : Srt (K := K) (dT2 dInt (dL dInt)) := .inl fun x => ⟨_, _, rfl⟩
def ltS (x y : Str) : Bool := decide (x.cps.toList < y.cps.toList)
theorem lt_S {K : PySem.W.Frag} : TyLt (K := K) dStr ltS := ⟨fun x y => rfl, fun x z => (by cases z), fun x y => PySem.W.dataLt_str x y⟩
theorem srt_S {K : PySem.W.Frag} : Srt (K := K) dStr := .inr fun x ys z => (by cases z)
def ltI (x y : Int) : Bool := decide (x < y)
theorem lt_I {K : PySem.W.Frag} : TyLt (K := K) dInt ltI := ⟨fun x y => rfl, fun x z => (by cases z), fun x y => PySem.W.dataLt_int x y⟩
theorem srt_I {K : PySem.W.Frag} : Srt (K := K) dInt := .inr fun x ys z => (by cases z)
end M

namespace M
open PySem L2 G
section
variable {K : PySem.W.Frag} {α β γ δ ε ρ : Type} {S T : AS} {σ : St} {H : Hp} {ta tb te : TE} {tt tu : TT} {a : Ty K α} {b : Ty K β} {c : Ty K γ}
/-! ### a list of two things of two kinds -/
def tL2 (c : Ty K α) (d : Ty K β) : Ty K (α × β) where
  rp S H v x := ∃ a u w, v = .ref a ∧ nL K S H a [u, w] ∧ c.rp S H u x.1 ∧ d.rp S H w x.2
  mono f := fun ⟨a, u, w, e, h, h1, h2⟩ => ⟨a, u, w, e, h.mono f, c.mono f h1, d.mono f h2⟩
  ext f := fun ⟨a, u, w, e, h, h1, h2⟩ => ⟨a, u, w, e, h.ext f, c.ext f h1, d.ext f h2⟩
  sub f := fun ⟨a, u, w, e, h, h1, h2⟩ => ⟨a, u, w, e, h.sub f, c.sub f h1, d.sub f h2⟩
theorem ev_lst2 {ra : Option α} {rb : Option β} (ha : Ev S T ta σ H (of a S) ra) (hb : Ev S T tb σ H (of b S) rb) : Ev S T (tLst (tCons ta (tCons tb tNil))) σ H (of (tL2 a b) S) (bd ra fun x => bd rb fun y => some (x, y)) := by
  intro z e H1 f1 d Q q
  obtain ⟨x, ex, e⟩ := bd_some e
  obtain ⟨y, ey, e⟩ := bd_some e
  cases e
  refine ha x ex H1 f1 d _ fun v H2 s2 hv => hb y ey H2 (f1.trans (Fr.same s2)) (d.same s2) _ fun w H3 s3 hw => ⟨(by show 2 ≤ sizeLine; decide), fun p hp => ?_⟩
  have s4 := same_new (o := .lst [v, w]) hp
  exact q _ _ (s2.trans (s3.trans s4)) ⟨p, v, w, rfl, ⟨upd_same, ((d.same s2).same s3).not_mem hp⟩, a.mono (Fr.same (s3.trans s4)) hv, b.mono (Fr.same s4) hw⟩
theorem ev_ixL_ {R : Rl γ} {i : Int} {ra : Option α} {g : α → γ} (ha : Ev S T ta σ H (of a S) ra) (h : ∀ x H v, a.rp S H v x → ∃ p vs u, v = .ref p ∧ SqL K H p vs ∧ atI vs i = some u ∧ R.r H H u (g x)) :
    Ev S T (tOp (rIxL K) ta (tC (.int i))) σ H R (bd ra fun x => some (g x)) := by
  intro z e H1 f1 d Q q
  obtain ⟨x, ex, e⟩ := bd_some e
  cases e
  refine ha x ex H1 f1 d _ fun v H2 s2 hv => ?_
  obtain ⟨p, vs, u, rfl, hp, hu, hz⟩ := h x H2 v hv
  exact ⟨p, vs, i, u, rfl, rfl, hp, hu, q u H2 s2 (R.same s2 hz)⟩
theorem ev_ixL20 {ra : Option (α × β)} (ha : Ev S T ta σ H (of (tL2 a b) S) ra) : Ev S T (tOp (rIxL K) ta (tC (.int 0))) σ H (of a S) (bd ra fun x => some x.1) :=
  ev_ixL_ ha fun x H v ⟨p, u, w, e, h, h1, h2⟩ => ⟨p, _, u, e, h.sq, rfl, h1⟩
theorem ev_ixL21 {ra : Option (α × β)} (ha : Ev S T ta σ H (of (tL2 a b) S) ra) : Ev S T (tOp (rIxL K) ta (tC (.int 1))) σ H (of b S) (bd ra fun x => some x.2) :=
  ev_ixL_ ha fun x H v ⟨p, u, w, e, h, h1, h2⟩ => ⟨p, _, w, e, h.sq, rfl, h2⟩
def dL2 {a : Ty K α} {b : Ty K β} (d : TyD a) (e : TyD b) : TyD (tL2 a b) := ⟨fun x => .list [d.dt x.1, e.dt x.2], max d.dep e.dep + 1, fun ⟨p, u, w, z, hp, h1, h2⟩ => by subst z; exact .lst hp.sq (.cons (d.dp h1) (.cons (e.dp h2) .nil)),
  fun {S H v x} ⟨p, u, w, z, hp, h1, h2⟩ => by
    show (PyData.canLay0 (d.dt x.1) && (PyData.canLay0 (e.dt x.2) && true)) = true
    rw [d.shp h1, e.shp h2]
    rfl,
  fun x => by
    show max (PyData.depth (d.dt x.1)) (max (PyData.depth (e.dt x.2)) 0) + 1 ≤ _
    have h1 := d.hd x.1
    have h2 := e.hd x.2
    omega,
  fun x y => by
    show (PyData.eqv (d.dt x.1) (d.dt y.1) && (PyData.eqv (e.dt x.2) (e.dt y.2) && true)) = true ↔ _
    rw [Bool.and_true, Bool.and_eq_true, d.eqv, e.eqv]
    exact ⟨fun h => Prod.ext h.1 h.2, fun h => by subst h; exact ⟨rfl, rfl⟩⟩⟩
/-! ### // and % -/
theorem od_fdiv : OpD (K := K) tInt tInt S (of (K := K) tInt S) (rI CDivZ fun i j => .int (i.fdiv j)) fdiv? := od_I (p := fun _ j => fdivP j) (fun i j h => show j ≠ 0 ∧ j.natAbs.log2 < 9000 from of_decide_eq_true h) fun _ _ _ => rfl
def fmod? (i j : Int) : Option Int := if decide (j ≠ 0) then some (i.fmod j) else none
theorem od_fmod : OpD (K := K) tInt tInt S (of (K := K) tInt S) (rI (fun _ j => j ≠ 0) fun i j => .int (i.fmod j)) fmod? := od_I (p := fun _ j => decide (j ≠ 0)) (fun i j h => of_decide_eq_true h) fun _ _ _ => rfl
/-! ### is not True -/
theorem od_isB : OpD (K := K) tBool tBool S (of (K := K) tBool S) rIsB (fun i j => some (decide (i = j))) := by
  intro x y z e H1 v w d hv hw Q q
  cases e; cases hv; cases hw
  exact ⟨x, y, rfl, rfl, q _ H1 (Same.refl _) rfl⟩
theorem od_notB : OpD (K := K) tBool tBool S (of (K := K) tBool S) rNotB (fun i j => some (!decide (i = j))) := by
  intro x y z e H1 v w d hv hw Q q
  cases e; cases hv; cases hw
  exact ⟨x, y, rfl, rfl, q _ H1 (Same.refl _) rfl⟩
/-! ### a test over fewer owned lists -/
theorem eb_shr {S' : AS} {r : Option Bool} (hs : Sub S' S) (h : EvB S' T tt σ H r) : EvB S T tt σ H r := fun x ex H1 f d Q q => h x ex H1 f (d.sub hs) Q q
/-! ### [te for x, y in zip(xs, ys)] -/
theorem ev_lcZ {tl tm : TE} {j j2 : Nat} {ws : List Nat} {r : Option (List α)} {r' : Option (List β)} {f : α × β → Option γ} (h : Ev S T tl σ H (of (tL a) S) r) (h' : Ev S T tm σ H (of (tL b) S) r') (hw : ∀ x y, wipe (((wipe σ ws).set j (some x)).set j2 (some y)) ws = wipe σ ws)
    (he : ∀ (x : α × β) (v w : V) (H2 H' : Hp) (p : Addr), Fr T H H2 → H2 p = none → Same H2 H' → a.rp (p :: S) H' v x.1 → b.rp (p :: S) H' w x.2 → Ev (p :: S) [] te (((wipe σ ws).set j (some v)).set j2 (some w)) H' (of c (p :: S)) (f x)) :
    Ev S T (tLc (iZip K (tCons tl (tCons tm tNil))) (gTup K 2 (gCons (gName j) (gCons (gName j2) gNil))) tYes te ws) σ H (nw c S) (bd r fun xs => bd r' fun ys => mapL? f (xs.zip ys)) := by
  intro z e H1 f1 d Q q
  obtain ⟨xs, ex, e⟩ := bd_some e
  obtain ⟨ys, ey, e⟩ := bd_some e
  unfold mapL? at e
  split at e
  rotate_left
  · cases e
  rename_i hlen
  refine h xs ex H1 f1 d _ fun v H2 s2 ⟨p, vs, ev, hp, ha⟩ => h' ys ey H2 (f1.trans (Fr.same s2)) (d.same s2) _ fun v' H3 s3 ⟨p', vs', ev', hp', ha'⟩ => ?_
  subst ev
  subst ev'
  have hp := hp.mono (Fr.same s3)
  have ha := ha.imp fun _ _ => a.mono (Fr.same s3)
  have la := ha.len
  have la' := ha'.len
  refine ⟨p, p', vs, vs', rfl, hp.sq, hp'.sq, fun Dl hD => ?_⟩
  have d3 := (d.same s2).same s3
  have sD : Same H3 (upd H3 Dl (.lst [])) := same_new hD
  refine ⟨fun i m H' => m = (xs.zip ys).length - i ∧ i ≤ (xs.zip ys).length ∧ ∃ acc pre, H' Dl = some (.lst acc) ∧ Same H3 H' ∧ acc.length ≤ i ∧ All2 (c.rp (Dl :: S) H') acc pre ∧ ∃ suf, mapO f ((xs.zip ys).drop i) = some suf ∧ z = pre ++ suf, ⟨_, rfl, Nat.zero_le _, [], [], upd_same, sD, Nat.zero_le _, .nil, z, e, rfl⟩, ?_⟩
  rintro i m H' ⟨rfl, hi, acc, pre, h1, h2, h3, h4, suf, h5, h6⟩
  by_cases k : i < (xs.zip ys).length
  · right
    have k' := k
    rw [List.length_zip] at k'
    rw [List.drop_eq_getElem_cons k] at h5
    obtain ⟨o, ho, h5⟩ := bd_some h5
    obtain ⟨suf', hs', h5⟩ := bd_some h5
    cases h5
    obtain ⟨u, hu, ru⟩ := ha.get i (List.getElem?_eq_getElem (show i < xs.length by omega))
    obtain ⟨u', hu', ru'⟩ := ha'.get i (List.getElem?_eq_getElem (show i < ys.length by omega))
    have q1 : SqL K H' p vs := (hp.mono (Fr.same h2)).sq
    have q2 : SqL K H' p' vs' := (hp'.mono (Fr.same h2)).sq
    refine ⟨⟨vs, vs', u, u', q1, q2, hu, hu'⟩, fun H4 => ∃ acc pre, H4 Dl = some (.lst acc) ∧ Same H3 H4 ∧ acc.length ≤ i + 1 ∧ All2 (c.rp (Dl :: S) H4) acc pre ∧ ∃ suf, mapO f ((xs.zip ys).drop (i + 1)) = some suf ∧ z = pre ++ suf, ?_, ?_⟩
    · rintro H4 ⟨acc, pre, g1, g2, g3, g4, suf, g5, g6⟩
      exact ⟨(xs.zip ys).length - (i + 1), by omega, rfl, by omega, acc, pre, g1, g2, g3, g4, suf, g5, g6⟩
    · intro v H4 hy
      obtain ⟨T', x', y', rfl, hT, rfl, e1, e2⟩ := hy
      have := e1 vs q1
      rw [hu] at this
      cases this
      have := e2 vs' q2
      rw [hu'] at this
      cases this
      have sT : Same H' (upd H' T' (.tup [u, u'])) := same_new hT
      refine ⟨T', [u, u'], rfl, .inl (.inl upd_same), rfl, u, _, rfl, u', _, rfl, rfl, hw _ _, G.yes_ ?_⟩
      have hs4 := h2.trans sT
      have gz : (xs.zip ys)[i] = (xs[i]'(by omega), ys[i]'(by omega)) := by rw [List.getElem_zip]
      refine he (xs.zip ys)[i] u u' H3 _ Dl (f1.trans (Fr.same (s2.trans s3))) hD hs4 (by rw [gz]; exact a.mono (Fr.same hs4) (a.ext hD ru)) (by rw [gz]; exact b.mono (Fr.same hs4) (b.ext hD ru')) o ho _ (Fr.refl _) ((d3.same hs4).cons (sT _ _ h1)) _ fun w H5 s5 hw5 => ?_
      have s6 := sT.trans s5
      refine ⟨acc, s6 _ _ h1, Nat.lt_of_lt_of_le (by omega : acc.length < 100000) (by decide), acc ++ [w], pre ++ [o], upd_same, fun p ob eb => ?_, by simp; omega, ?_, suf', hs', by rw [h6]; simp⟩
      · rw [upd_ne (ne_of_none eb hD)]
        exact s6 _ _ (h2 _ _ eb)
      · have fD : Fr (Dl :: S) H5 (upd H5 Dl (.lst (acc ++ [w]))) := fr_upd (List.mem_cons_self ..)
        exact ((h4.imp fun _ _ h => c.mono (Fr.same s6) h).snoc hw5).imp fun _ _ h => c.mono fD h
  · left
    rw [List.drop_eq_nil_of_le (by omega)] at h5
    cases h5
    rw [List.append_nil] at h6
    subst h6
    refine ⟨⟨vs, vs', (hp.mono (Fr.same h2)).sq, (hp'.mono (Fr.same h2)).sq, ?_⟩, q _ _ ((s2.trans s3).trans h2) ⟨Dl, rfl, (s2.trans s3).free hD, acc, h1, h4⟩⟩
    rw [List.length_zip] at k
    omega
end
end M

namespace M
open PySem L2 G
section
variable {K : PySem.W.Frag} {α β γ δ ε ρ : Type} {S T : AS} {σ : St} {H : Hp} {b c : Addr} {ta tb te : TE} {tt tu : TT} {a : Ty K α} {b' : Ty K β} {c' : Ty K γ} {D : Ends} {u : TS}
/-! ### a list that was made behind the heap Hs: it may be owned later -/
theorem Own.sub2 {p : Addr} {xs : List α} {S' : AS} (o : Own a S H p xs) (h : ∀ q ∈ S', q ∈ S) : Own a S' H p xs := by
  obtain ⟨vs, hv, ha⟩ := o
  exact ⟨vs, hv, ha.imp fun _ _ => a.sub h⟩
def tFL (Hs : Hp) (a : Ty K α) : Ty K (List α) where
  rp S H v xs := ∃ p, v = .ref p ∧ Hs p = none ∧ p ∉ S ∧ Own a (p :: S) H p xs
  mono {S H H' v x} f := fun ⟨p, e, n, ns, vs, hv, ha⟩ => ⟨p, e, n, ns, vs, f _ _ hv ns, ha.imp fun _ _ => a.mono (Fr.sub (fun q m => List.mem_cons_of_mem _ m) f)⟩
  ext {S H q v x} hq := fun ⟨p, e, n, ns, vs, hv, ha⟩ => ⟨p, e, n, not_cons hq (by rw [hv]; intro z; cases z) ns, vs, hv, ha.imp fun _ _ h => a.sub (fun r m => by simp only [List.mem_cons] at m ⊢; grind) (a.ext hq h)⟩
  sub {S S' H v x} hs := fun ⟨p, e, n, ns, vs, hv, ha⟩ => ⟨p, e, n, fun m => ns (hs _ m), vs, hv, ha.imp fun _ _ => a.sub fun r m => by
    rcases List.mem_cons.mp m with e | m
    · rw [e]; exact List.mem_cons_self ..
    · exact List.mem_cons_of_mem _ (hs _ m)⟩
theorem ev_FL {Hs : Hp} {r : Option (List α)} (ts : Sub T S) (fs : Fr T Hs H) (h : Ev S T te σ H (nw a S) r) : Ev S T te σ H (of (tFL Hs a) S) r := by
  intro x ex H1 f d Q q
  exact h x ex H1 f d Q fun v H2 s ⟨p, e, n, o⟩ => q v H2 s ⟨p, e, fr_back (fs.trans f) (d.sub ts) n, d.not_mem n, o⟩
theorem ew_FL {Hs : Hp} {w : Wp (List α)} (fs : Fr [b, c] Hs H) (h : EvW b c S te σ H (nw a S) w) : EvW b c S te σ H (of (tFL Hs a) S) w := fun ts P hP H1 f d hB Q q =>
  h ts P hP H1 f d hB Q fun v H2 x hx f2 d2 hB2 ⟨p, e, n, o⟩ => q v H2 x hx f2 d2 hB2 ⟨p, e, fr_back (fs.trans f) hB.dom n, d.not_mem n, o⟩
theorem ev_FL2L {Hs : Hp} {r : Option (List α)} (h : Ev S T te σ H (of (tFL Hs a) S) r) : Ev S T te σ H (of (tL a) S) r := by
  intro x ex H1 f d Q q
  exact h x ex H1 f d Q fun v H2 s ⟨p, e, n, ns, vs, hv, ha⟩ => q v H2 s ⟨p, vs, e, ⟨hv, ns⟩, ha.imp fun _ _ => a.sub fun r m => List.mem_cons_of_mem _ m⟩
theorem Fr.reflOf {H0 : Hp} (f : Fr T H0 H) : Fr T H H := Fr.refl _
/-! ### a value that is not None -/
theorem ev_unopt {r : Option (Option α)} (h : Ev S T te σ H (of (tOpt a) S) r) : Ev S T te σ H (of a S) (bd r fun x => x) := by
  intro y ey H1 f d Q q
  obtain ⟨x, ex, ey⟩ := bd_some ey
  exact h x ex H1 f d Q fun v H2 s hv => q v H2 s (by subst ey; exact hv.2)
/-! ### walks over what a draw tells; list(xs) of an owned list -/
theorem srw_list {tl : TE} {w : Wp (List α)} (h : EvW b c S tl σ H (of (tL a) S) w) : SrW b c S (iList K tl) σ H a w := fun ts P hP H1 f d hB R q =>
  h ts P hP H1 f d hB _ fun v H2 x hx f2 d2 hB2 ⟨p, vs, ev, hp, ha⟩ => ⟨p, ev, ⟨vs, hp.sq⟩, q _ H2 x hx f2 d2 hB2 (wk_list hp ha)⟩
theorem ev_listO {p : Addr} {xs : List α} {i : Nat} (o : Own a S H p xs) (nt : p ∉ T) (ts : Sub T S) (hi : σ[i]? = some (some (.ref p))) : Ev S T (tCB (fun xs H Q => ∃ p ys, xs = [.ref p] ∧ (SqL K H p ys ∨ SqT K H p ys) ∧ ∀ l, H l = none → Q (.ref l) (upd H l (.lst ys))) (tCons (tVar i) tNil)) σ H (nw a S) (some xs) := by
  intro z e H1 f1 d Q q
  cases e
  obtain ⟨vs, hv, ha⟩ := o.fr f1 ts nt
  exact ⟨_, hi, p, vs, rfl, .inl (.inl (.inl hv)), fun l hl => q _ _ (same_new hl) ⟨l, rfl, hl, vs, upd_same, ha.imp fun _ _ h => a.mono (Fr.same (same_new hl)) (a.ext hl h)⟩⟩
/-! ### two new lists at once -/
theorem q_par0 {i j : Nat} (a : Ty K α) (b' : Ty K β) (k : ∀ v w Hm H1, Same H Hm → nwL a S H Hm v [] → Same Hm H1 → (∀ p, v = .ref p → nwL b' (p :: S) Hm H1 w []) → u D ((σ.set i (some v)).set j (some w)) H1) : tSeq (tPar i j (tCons (tLst tNil) (tCons (tLst tNil) tNil))) u D σ H :=
  ⟨Nat.zero_le _, fun p hp => ⟨Nat.zero_le _, fun q hq => ⟨.ref p, .ref q, rfl, k _ _ _ _ (same_new hp) ⟨p, rfl, hp, [], upd_same, .nil⟩ (same_new hq) fun p' e => ⟨q, rfl, hq, [], upd_same, .nil⟩⟩⟩⟩
theorem ev_lenT2 {r : Option (α × β)} (h : Ev S T te σ H (of (tT2 a b') S) r) : Ev S T (tCB (fun xs H Q => ∃ p ys, xs = [.ref p] ∧ (SqL K H p ys ∨ SqT K H p ys) ∧ Q (.int ys.length) H) (tCons te tNil)) σ H (of (K := K) tInt S) (bd r fun _ => some (2 : Int)) := by
  intro z e H1 f1 d Q q
  obtain ⟨x, ex, e⟩ := bd_some e
  cases e
  refine h x ex H1 f1 d _ fun v H2 s hv => ?_
  obtain ⟨p, u, w, rfl, hp, _, _⟩ := hv
  exact ⟨p, _, rfl, .inr hp.sq, q _ H2 s rfl⟩
end
end M

namespace PySem
namespace SupX
open PySem.W PySem.Calls PyProof.Rows PySem.HandSPX
def sS (f : Str) : Scope := { kind := .function, names := [(PySem.Str.ofString "self", .local), (f, .local), (PySem.Str.ofString "__class__", .free), (PySem.Str.ofString "super", .globalImplicit)], isGenerator := false, isCoroutine := false, more := [] }
/-- the body: super().__init__(msg); self.f = f -/
def sB (f : Str) (ws : List Expr) (pj p0 p1 p2 p3 p4 q1 q2 q3 q4 : Pos) : List Stmt :=
  [.Expr (.Call (.Attribute (.Call (.Name "super" p0) [] [] p1) "__init__" p2) [.JoinedStr ws pj] [] p3) p4, .Assign [.Attribute (.Name "self" q1) f q2] (.Name f q3) q4]
structure SupTxt (prog : Program) (K : Frag) (mg : Str → Option Value) (B newId i : String) (bmB : List Value) (C fI : Addr) (f : Str) (qual : Str) (params : Arguments) (ws : List Expr) : Prop where
  FB : ExcBaseFacts B newId i bmB
  KF : KxsFacts B i
  SF : StoreFacts B bmB "object.__setattr__" "object"
  ini : excInitIn K C bmB newId = true
  over : excOver K C bmB = true
  sa : findIn K (.ref C) "__setattr__" = some (some (.builtin "object.__setattr__"))
  tk : takerIn K C f = some none
  hd : hasDictIn K C = true
  iC : findIn K (.ref C) "__init__" = some (some (.ref fI))
  tC : typeIn K (.ref fI) = some (.type "function")
  sub : subIn K (.ref C) (.type B) = some true
  mro : mroIn K C (.ref C) = some true
  sup : ks_superIn K C C "__init__" = some (some (.builtin i))
  opq : nsIn K cStatics "thirdparty.any" = some none
  nos : mg "super" = none
  top : (prog.main.scope.names.lookup ("super" : Str)).isSome = false
  hd1 : (params.posonlyargs ++ params.args).head?.map (·.arg) = some "self"
  dbg : (f == ("__debug__" : Str)) = false
  nself : f ≠ "self"
  ncls : f ≠ "__class__"
  nsup : f ≠ "super"
  fn : ∃ (oc : Value) (od : Option Addr) (doc pm : Value) (an : Option Addr) (cda : Addr) (ct : Value) (osl : Array (Option Value)) (cc : Addr) (cl : Value) (cld : Option Addr) (csl : Array (Option Value)) (ccl : Value) (cdd : Option Addr) (vs : Array Value) (ccs : Array (Option Value)) (file : Str) (tf : Tok) (pj p0 p1 p2 p3 p4 q1 q2 q3 q4 : Pos),
    K.lookup fI = some ⟨oc, od, .func (ksFn "__init__" qual params (sB f ws pj p0 p1 p2 p3 p4 q1 q2 q3 q4) (sS f) .none .none doc pm an (.ref cda) ct cc), osl⟩ ∧ codeIn K (.ref cda) qual = true ∧
    K.lookup cc = some ⟨cl, cld, .cell (some (.ref C)), csl⟩ ∧ K.lookup cda = some ⟨ccl, cdd, .fields vs, ccs⟩ ∧ vs[2]? = some (.str file tf) ∧ ((prog.main.file : Str) == file) = true ∧
    (p2.endLine == p3.line) = true ∧ ∀ (s : Shared) (x v : Value), BindsTo s (ksFn "__init__" qual params (sB f ws pj p0 p1 p2 p3 p4 q1 q2 q3 q4) (sS f) .none .none doc pm an (.ref cda) ct cc) ⟨[x, v], []⟩ [("self", x), (f, v)]
/-- the message is told, and nothing else is done -/
def Tells (prog : Program) (w : World) (ws : List Expr) (f : Str) (qual : Str) (v : Value) : Prop :=
  ∀ (A : Around) (E : Value → Shared → Prop) (s : Shared) (pj : Pos) (L a : Addr) (cd : Value) (cc : Addr) (m : Str → Option Value) (Q : Value → Shared → Prop), s.heap.Ns L m → m f = some v → (∀ y tk tk', Q (.str y tk) { s with toks := tk' }) →
    wpAny (model prog w) A (eval (.JoinedStr ws pj) (ksEnv qual (sS f) L a cd cc)) Q E s
structure Made (h h' : Heap) (e C d : Addr) (f : Str) (v : Value) : Prop where
  keep : ∀ b o, h.get? b = some o → h'.get? b = some o
  new : h.objs.size ≤ e
  obj : ∃ oe vs, h'.get? e = some oe ∧ oe.cls = .ref C ∧ oe.dict = some d ∧ oe.data = .fields vs ∧ vs[1]? = some .none
  dbig : h.objs.size ≤ d
  dne : d ≠ e
  ns : h'.Ns1 d (fun y => if y = f then some v else none)
theorem one_size (v : Value) : [v].length ≤ sizeLine := by
  rw [sizeLine_eq]
  exact (by decide : 1 ≤ 16777216)
theorem ns1_one {h : Heap} {d : Addr} {f : Str} {v : Value} {hsh : Int} {tk : Tok} {n : Nat} (e : h.get? d = some (dictOf [⟨hsh, .str f tk, v⟩] n)) : h.Ns1 d (fun y => if y = f then some v else none) := by
  refine ⟨_, _, _, e, rfl, ?_, ?_, fun y => ?_⟩
  · intro b hb
    simp at hb
    subst hb
    exact ⟨_, _, rfl⟩
  · unfold UniqKeys
    simp
  · by_cases hy : y = f
    · subst hy
      simp [nsFind, findBy, Value.isStr]
    · have : ¬ f = y := fun z => hy z.symm
      simp [nsFind, findBy, Value.isStr, hy, this]
section
variable {prog : Program} {w : World} {A : Around} {E : Value → Shared → Prop} {R : Result → Shared → Prop} {s : Shared} {K : Frag} {mg : Str → Option Value} {B newId i : String} {bmB : List Value} {C fI : Addr} {f qual : Str} {params : Arguments} {ws : List Expr}
theorem cls_at {D : Addr} {cd : ClassData} {g : Heap} (X : K.In g) (e : clsIn K D = some cd) : ∃ o, g.get? D = some o ∧ o.data = .cls cd := by
  unfold clsIn at e
  split at e
  case h_1 c d cd' sl z => exact ⟨⟨c, d, .cls cd', sl⟩, X _ _ z, by cases e; rfl⟩
  case h_2 => cases e
theorem inst_no {x : Addr} {ox : Obj} {odx : Option Obj} {g : Heap} (I : InstAt g x ox C odx) (c : ClassData) : ox.data ≠ .cls c := fun e => by
  have no := I.no
  simp [notCls, e] at no
/-- what super() looks at: the def's own file, its cell of the class, its first parameter -/
structure SupAt (prog : Program) (K : Frag) (mg m : Str → Option Value) (sc : Scope) (fd : FuncData) (fu cda cc C D x : Addr) : Prop where
  fn : ∃ c d sl, K.lookup fu = some ⟨c, d, .func fd, sl⟩
  first : ∃ ar, (fd.params.posonlyargs ++ fd.params.args).head? = some ar ∧ m ar.arg = some (.ref x) ∧ sc.names.lookup ar.arg = some .local
  code : ∃ c d vs sl file tf, K.lookup cda = some ⟨c, d, .fields vs, sl⟩ ∧ vs[2]? = some (.str file tf) ∧ ((prog.main.file : Str) == file) = true
  cell : ∃ c d sl, K.lookup cc = some ⟨c, d, .cell (some (.ref D)), sl⟩
  cls : ∃ cd, clsIn K D = some cd
  below : mroIn K C (.ref D) = some true
  nos : mg "super" = none
  names : sc.names.lookup ("super" : Str) = some .globalImplicit ∧ sc.names.lookup ("__class__" : Str) = some .free
  kind : sc.kind = .function
  top : (prog.main.scope.names.lookup ("super" : Str)).isSome = false
theorem sup_node {sc : Scope} {base h₀ : Heap} {L : Addr} {m : Str → Option Value} {news : List (Addr × Obj)} {body : List Stmt} {q : Str} {p0 p1 : Pos} {attr : Str} {whole : Sem Value} {fd : FuncData} {Q : Value → Shared → Prop} {x D fu cc cda : Addr} {ox : Obj} {odx : Option Obj}
    (F : Fr h₀ L s.heap m) (Mb : L2.Mod K mg base) (kb : ∀ b o, base.get? b = some o → h₀.get? b = some o) (N : News h₀ L s.heap news) (S : SupAt prog K mg m sc fd fu cda cc C D x) (I : InstAt s.heap x ox C odx) (hat : (attr == ("__class__" : Str)) = false)
    (h : ∀ so g, Fr h₀ L g m → News h₀ L g ((so, ks_superObj D x C) :: news) → (∀ p ∈ news, p.1 < so) → Q (.ref so) { s with heap := g }) :
    _root_.PySem.wpAt (model prog w) A (.func body (ksEnv q sc L fu (.ref cda) cc)) (attributeBase (.Call (.Name "super" p0) [] [] p1) attr (ksEnv q sc L fu (.ref cda) cc) whole) Q E s := by
  have all : ∀ b o, base.get? b = some o → s.heap.get? b = some o := fun b o e => F.keep b o (kb b o e)
  have X : K.In s.heap := (Mb.kin.keeps kb).keeps F.keep
  obtain ⟨⟨_, _, _, e1⟩, ⟨ar, e2, e3, e4⟩, ⟨_, _, _, _, _, _, e5, e6, e7⟩, ⟨_, _, _, e8⟩, ⟨cd, e9⟩, sub, nos, ⟨ns, nc⟩, kd, tp⟩ := S
  have ⟨mb, hmb, std⟩ := Mb.blt
  have sup : mb "super" = some (.type "super") := (std _ (by decide +kernel)).trans (by kernel_rfl)
  have ⟨oD, d1, d2⟩ := cls_at X e9
  obtain ⟨hp, gs, dr, tk, os⟩ := s
  apply ks_wpAt_super_base (env := ksEnv q sc L fu (.ref cda) cc) ns nc hat rfl (X _ _ e1) rfl e2 rfl (X _ _ e5) rfl e6 e7 tp
  refine ks_loadName_global kd ns (loadGlobal_builtin (env := ksEnv q sc L fu (.ref cda) cc) (Mb.glob.keeps all) nos (hmb.keeps all) sup ⟨rfl, ?_⟩)
  refine wpAny_loadName_free kd nc rfl ⟨_, X _ _ e8, rfl⟩ (wpAny_loadName_local kd e4 F.ns e3 ?_)
  refine ks_wpAny_isType_cls d1 d2 ⟨rfl, ?_⟩
  apply ks_wpAny_call_super d1 d2 I.at_ I.cls (fun c => inst_no I c) (looks_mroIn X sub)
  intro g e k
  have ⟨F', N', l'⟩ := ks_newsPush (s := ⟨hp, gs, dr, tk, os⟩) F N rfl e k
  exact h _ g F' N' l'
theorem spl_one {M : Model} {pos : Pos} {env : Env} {e : Expr} {Q : List Value → Shared → Prop} (h : wpAny M A (eval e env) (fun v s' => Q [v] s') E s) (he : starEach [e] env = [(false, eval e env)] := by rfl) : wpAny M A (spliced (backTo pos (starEach [e] env))) Q E s := by
  rw [he]
  show wpAny M A (spliced ((false, eval e env) :: backTo pos [])) Q E s
  refine Calls.spliced_cons (wpAny_mono h (fun v s₁ h₁ => ?_) fun _ _ z => z)
  exact wpAny_pure h₁
theorem sup_init {base : Heap} (T : SupTxt prog K mg B newId i bmB C fI f qual params ws) {x t0 : Addr} {v : Value} (hT : Tells prog w ws f qual v) (hp : Heap) (Mb : L2.Mod K mg base) (kb : ∀ b o, base.get? b = some o → hp.get? b = some o)
    (k0 : ∀ b o, hp.get? b = some o → s.heap.get? b = some o) (hz : hp.objs.size ≤ s.heap.objs.size) (hx : s.heap.get? x = some (excO C t0)) (hx0 : hp.get? x = none) (hroom : A.depth < recursionLimit)
    (hq : ∀ h' tk dx t1, (∀ b o, hp.get? b = some o → h'.get? b = some o) → h'.get? x = some (excObj C t1 (some dx) .none) → x < dx → h'.Ns1 dx (fun y => if y = f then some v else none) → R (.ok (.ret .none)) { s with heap := h', toks := tk }) :
    codeAny (model prog w) A (.call (.ref fI) ⟨[.ref x, v], []⟩) R s := by
  obtain ⟨oc, od, doc, pm, an, cda, ct, osl, cc, cl, cld, csl, ccl, cdd, vs, ccs, file, tf, pj, p0, p1, p2, p3, p4, q1, q2, q3, q4, ho, hcd, hcc, hcda, hvs, hfile, hl, hb⟩ := T.fn
  have X₀ : K.In hp := Mb.kin.keeps kb
  have Xs : K.In s.heap := X₀.keeps k0
  refine ks_codeAny_call_defAt (fd := ksFn "__init__" qual params (sB f ws pj p0 p1 p2 p3 p4 q1 q2 q3 q4) (sS f) .none .none doc pm an (.ref cda) ct cc) (body := sB f ws pj p0 p1 p2 p3 p4 q1 q2 q3 q4) (binds := [("self", .ref x), (f, v)]) hroom (Xs _ _ ho) rfl
    ((Mb.nolimit.keeps kb).keeps k0) (codeRec_of Xs hcd) rfl (hb s (.ref x) v) ?_ ?_ (fun h₁ hns hk₁ => ?_) rfl rfl rfl
  · intro y hy
    simp only [sS, List.mem_cons, List.not_mem_nil, or_false] at hy
    rcases hy with rfl | rfl | rfl | rfl <;> exact fun z => by cases z
  · intro y hy
    simp only [List.mem_cons, List.not_mem_nil, or_false] at hy
    rcases hy with rfl | rfl
    · rfl
    · have e : (f == ("self" : Str)) = false := by simpa using T.nself
      show List.lookup f [(("self" : Str), NameKind.local), (f, .local), ("__class__", .free), ("super", .globalImplicit)] = some .local
      simp [List.lookup, e]
  have FR : Fr hp s.heap.objs.size h₁ _ := ⟨hns, fun b o e => hk₁ b o (k0 b o e), hz⟩
  have N0 : News hp s.heap.objs.size h₁ [(x, excObj C t0 none .none)] := fun p hp' => by
    simp only [List.mem_cons, List.not_mem_nil, or_false] at hp'
    subst hp'
    exact ⟨hk₁ _ _ hx, Nat.ne_of_lt (Heap.lt_size hx), hx0⟩
  have ms : (fun y => List.lookup y ([("self", Value.ref x), (f, v)] : List (Str × Value)).reverse) "self" = some (.ref x) := by
    have e : (("self" : Str) == f) = false := by simpa using fun z => T.nself z.symm
    simp [List.lookup, e]
  have mf : (fun y => List.lookup y ([("self", Value.ref x), (f, v)] : List (Str × Value)).reverse) f = some v := by
    simp [List.lookup]
  revert ms mf FR
  generalize (fun y => List.lookup y ([("self", Value.ref x), (f, v)] : List (Str × Value)).reverse) = m
  intro FR ms mf
  obtain ⟨ar, har, hara⟩ : ∃ ar, (params.posonlyargs ++ params.args).head? = some ar ∧ ar.arg = "self" := by
    have := T.hd1
    cases z : (params.posonlyargs ++ params.args).head? with
    | none => rw [z] at this; cases this
    | some ar => rw [z] at this; exact ⟨ar, rfl, Option.some.inj this⟩
  obtain ⟨cdD, hD⟩ : ∃ cd, clsIn K C = some cd := by
    have := T.sup
    unfold ks_superIn at this
    cases z : clsIn K C with
    | none => rw [z] at this; cases this
    | some cd => exact ⟨cd, rfl⟩
  generalize s.heap.objs.size = L at *
  have hed : callEnv (ksFn "__init__" qual params (sB f ws pj p0 p1 p2 p3 p4 q1 q2 q3 q4) (sS f) .none .none doc pm an (.ref cda) ct cc) L fI = ksEnv qual (sS f) L fI (.ref cda) cc := rfl
  rw [hed]
  have lc : (sS f).names.lookup ("__class__" : Str) = some .free := by
    have e : (("__class__" : Str) == f) = false := by simpa using fun z => T.ncls z.symm
    show List.lookup ("__class__" : Str) [(("self" : Str), NameKind.local), (f, .local), ("__class__", .free), ("super", .globalImplicit)] = some .free
    rw [List.lookup_cons, show (("__class__" : Str) == "self") = false by decide]
    simp only [List.lookup_cons, e]
    rfl
  have lp : (sS f).names.lookup ("super" : Str) = some .globalImplicit := by
    have e : (("super" : Str) == f) = false := by simpa using fun z => T.nsup z.symm
    show List.lookup ("super" : Str) [(("self" : Str), NameKind.local), (f, .local), ("__class__", .free), ("super", .globalImplicit)] = some .globalImplicit
    rw [List.lookup_cons, show (("super" : Str) == "self") = false by decide]
    simp only [List.lookup_cons, e]
    rfl
  have lf : (sS f).names.lookup f = some .local := by
    have e : (f == ("self" : Str)) = false := by simpa using T.nself
    show List.lookup f [(("self" : Str), NameKind.local), (f, .local), ("__class__", .free), ("super", .globalImplicit)] = some .local
    simp [List.lookup, e]
  have X1 : ∀ {h : Heap}, Fr hp L h m → K.In h := fun F => X₀.keeps F.keep
  refine ks_wpAt_execs_cons (ks_wpAt_Expr_any ?_ rfl rfl)
  refine ks_wpAt_MethodCall (pl := L2.plainOf (.Call (.Name "super" p0) [] [] p1) (ksEnv qual (sS f) L fI (.ref cda) cc)) ?_ ?_
  · refine sup_node (D := C) FR Mb kb N0 ⟨⟨_, _, _, ho⟩, ⟨ar, har, by rw [hara]; exact ms, by rw [hara]; rfl⟩, ⟨_, _, _, _, _, _, hcda, hvs, hfile⟩, ⟨_, _, _, hcc⟩, ⟨_, hD⟩, T.mro, T.nos, ⟨lp, lc⟩, rfl, T.top⟩ (InstAt.of_exc0 N0 (List.mem_cons_self ..)) (by decide) fun so h₂ F2 N2 l2 => ?_
    refine kxs_method T.KF F2 X₀ N2 (List.mem_cons_self ..) (InstAt.of_exc0 N2 (List.mem_cons_of_mem _ (List.mem_cons_self ..))) T.opq T.sup T.sub (by decide) fun u h₃ F3 N3 l3 => ?_
    refine kxs_callWith1 N3 (List.mem_cons_self ..) ?_ rfl rfl
    refine spl_one ?_
    refine hT _ _ _ pj L fI _ cc m _ F3.ns mf fun y tk tk' => ⟨kxs_at N3 (List.mem_cons_self ..), ?_⟩
    refine kxs_call (t := t0) (dv := none) (c2 := .none) (nw := fun o => [(u, kxs_mw i x), (so, ks_superObj C x C), (x, o)]) F3 X₀ N3 T.FB T.ini (List.mem_cons_self ..) ?_ (one_size _) fun t1 h₄ F4 N4 l4 => ?_
    · exact .tail (Nat.ne_of_gt (l3 (x, _) (List.mem_cons_of_mem _ (List.mem_cons_self ..)))) (.tail (Nat.ne_of_gt (l2 (x, _) (List.mem_cons_self ..))) (.head fun p z => by cases z))
    (try dsimp only at N4)
    have l4x : x < t1 := l4 (x, _) (List.mem_cons_of_mem _ (List.mem_cons_of_mem _ (List.mem_cons_self ..)))
    refine ks_wpAt_execs_cons (ks_wpAt_Assign_Attr (wpAt_of_wpAny ?_) rfl)
    refine wpAny_Name (wpAny_loadName_local rfl lf F4.ns mf ?_) T.dbg
    refine wpAny_Name (wpAny_loadName_local rfl rfl F4.ns ms ?_) (by decide)
    refine set_exc0 (t := t1) (c2 := .none) (nw := fun o => [(t1, excTup [.str y tk]), (u, kxs_mw i x), (so, ks_superObj C x C), (x, o)]) T.SF F4 X₀ N4 (List.mem_cons_of_mem _ (List.mem_cons_of_mem _ (List.mem_cons_of_mem _ (List.mem_cons_self ..)))) T.sa T.over T.tk T.hd rfl ?_ (by show 1 ≤ 1000; decide) fun dx h₅ F5 N5 l5 => ?_
    · exact .tail (Nat.ne_of_gt l4x) (.tail (Nat.ne_of_gt (l3 (x, _) (List.mem_cons_of_mem _ (List.mem_cons_self ..)))) (.tail (Nat.ne_of_gt (l2 (x, _) (List.mem_cons_self ..))) (.head fun p z => by cases z)))
    (try dsimp only at N5)
    have l5x : x < dx := l5 (x, _) (List.mem_cons_of_mem _ (List.mem_cons_of_mem _ (List.mem_cons_of_mem _ (List.mem_cons_self ..))))
    refine wpAt_of_wpAny (wpAny_execs_nil ?_)
    exact hq h₅ _ dx t1 F5.keep (N5 (x, _) (List.mem_cons_of_mem _ (List.mem_cons_of_mem _ (List.mem_cons_of_mem _ (List.mem_cons_of_mem _ (List.mem_cons_self ..)))))).1 l5x (ns1_one (N5 (dx, _) (List.mem_cons_self ..)).1)
  · rw [arm_eval_Call]
    refine congrArg _ (funext fun ov => congrArg _ (funext fun _ => ?_))
    rw [L2.mcall_line rfl hl]
    rfl
theorem sup_made {base : Heap} (T : SupTxt prog K mg B newId i bmB C fI f qual params ws) {v : Value} (hT : Tells prog w ws f qual v) (Mb : L2.Mod K mg base) (kb : ∀ b o, base.get? b = some o → s.heap.get? b = some o) (hroom : A.depth + 1 < recursionLimit)
    (hq : ∀ h' tk e d, Made s.heap h' e C d f v → R (.ok (.ret (.ref e))) { s with heap := h', toks := tk }) :
    codeAny (model prog w) A (.call (.ref C) ⟨[v], []⟩) R s := by
  have X : K.In s.heap := Mb.kin.keeps kb
  obtain ⟨nm, N', qn, bs, bm, hdct, sn, sub, ab, col, dd, k0, k1, k2, k3, k5, hC, hbm⟩ := excInit_of X T.ini
  obtain ⟨hp, g, dr, tk, os⟩ := s
  have k : ∀ b o, hp.get? b = some o → ((hp.push (kdv_tup [v])).push (excO C hp.objs.size)).get? b = some o := fun b o e => Heap.get?_push_of_some _ (Heap.get?_push_of_some _ e)
  have hget : ((hp.push (kdv_tup [v])).push (excO C hp.objs.size)).get? (hp.objs.size + 1) = some (excO C hp.objs.size) := by heap_get
  have hnx : hp.get? (hp.objs.size + 1) = none := by
    cases e : hp.get? (hp.objs.size + 1) with
    | none => rfl
    | some o => exact absurd (Nat.lt_of_succ_lt (Heap.lt_size e)) (Nat.lt_irrefl _)
  refine call_own T.FB hbm hC (looks_findIn X T.iC) (fun self => bind_fn X self T.tC) (one_size v) ?_
  refine sup_init (s := ⟨(hp.push (kdv_tup [v])).push (excO C hp.objs.size), g, dr, tk, os⟩) (t0 := hp.objs.size) T hT hp Mb kb k ?_ hget hnx ?_ fun h' tk' dx t1 kk hx hlt hns => ?_
  · show hp.objs.size ≤ ((hp.push (kdv_tup [v])).push (excO C hp.objs.size)).objs.size
    rw [Heap.size_push, Heap.size_push]
    omega
  · show A.depth + 1 < recursionLimit
    exact hroom
  · exact ⟨rfl, hq h' tk' (hp.objs.size + 1) dx ⟨kk, Nat.le_succ _, ⟨_, _, hx, rfl, rfl, rfl, rfl⟩, Nat.le_of_lt (Nat.lt_of_succ_lt hlt), Nat.ne_of_gt hlt, hns⟩⟩
end
end SupX
end PySem
namespace L2
open PySem PySem.Spec PyProof.Rows
theorem relO_one {v : V} {v' : Value} (n : Str) (r : RelV v v') (f : Str) : RelO (List.lookup f [(n, v)]) (if f = n then some v' else none) := by
  by_cases hw : f = n
  · subst hw
    rw [if_pos rfl]
    have q : List.lookup f [(f, v)] = some v := by simp [List.lookup]
    rw [q]
    exact r
  · rw [if_neg hw]
    have qw : (f == n) = false := by simpa using hw
    have q2 : List.lookup f [(n, v)] = none := by simp [List.lookup, qw]
    rw [q2]
    trivial
/-- C(e), an own error whose __init__ says super().__init__(f"..") and keeps e as the field f -/
def tMkSup (C : Addr) (f : Str) (ok : V → Prop) (ta : TA) : St → Hp → XK → Prop := fun σ H Q => ta σ H fun vs H1 => ∃ v, vs = [v] ∧ ok v ∧ ∀ d, H1 d = none → Q (.ref C) (some d) (upd H1 d (.xd [(f, v)]))
/-- what is read of the class beside its __init__ -/
structure SupC (K : PySem.W.Frag) (mg : Str → Option Value) (n : Str) (C : Addr) : Prop where
  gC : mg n = some (.ref C)
  kC : PySem.W.keepIn K (.ref C) = true
  exC : PySem.W.subIn K (.ref C) (.type "BaseException") = some true
  tyC : PySem.W.typeIn K (.ref C) = some (.type "type")
section
variable {X : Cx} {C fI : Addr} {B newId i : String} {bmB : List Value} {f qual n : Str} {params : Arguments} {ws : List Expr} {ok : V → Prop}
theorem pmk_sup {a : Expr} {ta : TA} {p pos : Pos} {k : Nat} (T : PySem.SupX.SupTxt X.prog X.K X.mg B newId i bmB C fI f qual params ws) (S : SupC X.K X.mg n C) (hT : ∀ v v', ok v → RelV v v' → PySem.SupX.Tells X.prog X.w ws f qual v') (hr : Room k X.A) (ha : PA X [a] ta) (hg : Gl X n)
    (hdb : (n == ("__debug__" : Str)) = false := by decide) (he : starEach (a :: []) X.env = (false, eval a X.env) :: starEach [] X.env := by rfl) (hpl : (backTo pos (starEach [] X.env)).any (·.1) = false := by rfl) :
    PMk X (.Call (.Name n p) [a] [] pos) (tMkSup C f ok ta) := by
  intro pins s σ H Q I h
  refine wpAny_Call_Name_kw (ld_glob I hg S.gC ?_ hdb)
  refine PySem.W.callWith_K (h₀ := X.base) I.ok.mod.kin S.kC (thn (ha.run pos pins s σ H _ I h) fun us s1 hh => ?_) he hpl
  obtain ⟨vs, H1, I1, r1, v, ev, okv, q1⟩ := hh
  subst ev
  refine ⟨I1.kIn, ?_⟩
  cases r1 with
  | cons rv rn =>
    rename_i v' us'
    cases rn
    show wpAny _ _ (call (.ref C) [v']) _ _ _
    have kb := I1.bk
    obtain ⟨hp, g, dr, tk, os⟩ := s1
    refine wpAny_call (PySem.SupX.sup_made T (hT v v' okv rv) I1.mod kb (by have := hr.dp; omega) fun h' tk' e d M => ?_)
    show MkP X pins σ Q (.ref e) ⟨h', g, dr, tk', os⟩
    obtain ⟨oe, fv, hoe, hc, hd, hdat, h1⟩ := M.obj
    have hns := M.ns
    obtain ⟨G', g1, g2⟩ := restrict h' fun b => decide (b ≠ e)
    have gk : ∀ b, b ≠ e → G'.get? b = h'.get? b := fun b hb => g1 b (decide_eq_true hb)
    have ge : G'.get? e = none := g2 e (by simp)
    have old : ∀ b o, hp.get? b = some o → G'.get? b = some o := fun b o q => (gk b (Nat.ne_of_lt (Nat.lt_of_lt_of_le (Heap.lt_size q) M.new))).trans (M.keep b o q)
    have ob : ObjOk X.prog X.w (upd H1 d (.xd [(f, v)])) G' d (.xd [(f, v)]) := ⟨_, hns.at (fun o q => (gk d M.dne).trans q), fun y => relO_one f rv y⟩
    have J : Inv X pins σ (upd H1 d (.xd [(f, v)])) ⟨G', g, dr, tk', os⟩ := I1.laid (t' := tk') old M.dbig ob
    refine ⟨e, oe, fv, ⟨G', g, dr, tk', os⟩, _, .ref C, some d, rfl, J, fun b o q => ?_, ge, hoe, ⟨hc, hd⟩, hdat, h1, ?_, rfl, I1.bare, raises_own S.exC S.tyC, q1 d (I1.hok.fresh M.dbig)⟩
    · by_cases hb : b = e
      · have q' : G'.get? b = some o := q
        rw [hb, ge] at q'; cases q'
      · exact (gk b hb).symm.trans q
    · rw [upd_ne (Ne.symm M.dne)]
      exact I1.hok.fresh M.new
/-- raise C(e) -/
def tRaiseSup (C : Addr) (f : Str) (ok : V → Prop) (W : WX) (ta : TA) : TS := fun _ σ H => tMkSup C f ok ta σ H fun cls d H' => W cls d σ H'
theorem ps_raiseSup {a : Expr} {ta : TA} {W : WX} {p pos pos2 : Pos} {k : Nat} (hc : X.calm = true) (T : PySem.SupX.SupTxt X.prog X.K X.mg B newId i bmB C fI f qual params ws) (S : SupC X.K X.mg n C) (hT : ∀ v v', ok v → RelV v v' → PySem.SupX.Tells X.prog X.w ws f qual v') (hr : Room k X.A) (tk : Takes X W) (ha : PA X [a] ta) (hg : Gl X n)
    (hdb : (n == ("__debug__" : Str)) = false := by decide) (he : starEach (a :: []) X.env = (false, eval a X.env) :: starEach [] X.env := by rfl) (hpl : (backTo pos (starEach [] X.env)).any (·.1) = false := by rfl) :
    PS X (.Raise (some (.Call (.Name n p) [a] [] pos)) none pos2) (tRaiseSup C f ok W ta) := ps_raise hc tk (pmk_sup T S hT hr ha hg hdb he hpl)
end
end L2
namespace PySem
namespace SupX
open PySem.W PySem.Calls PyProof.Rows PySem.HandSPX
/-- what repr tells of plain things, and how long it is at most -/
def Shows (v : Value) : Prop := (∃ x t, v = .str x t ∧ (reprText x).length ≤ 1000000) ∨ (∃ i t, v = .int i t ∧ i.natAbs.log2 < 1920) ∨ (∃ b, v = .bool b) ∨ v = .none
section
variable {prog : Program} {w : World} {A : Around} {E : Value → Shared → Prop} {s : Shared}
theorem shown_repr {v : Value} {Q : Value → Shared → Prop} (hv : Shows v) (h : ∀ y t tk, y.length ≤ 1000000 → Q (.str y t) { s with toks := tk }) : wpAny (model prog w) A (pyReprObj v) (fun r s₂ => wpAny (model prog w) A (formatField r Str.empty) Q E s₂) E s := by
  rcases hv with ⟨x, t, rfl, hx⟩ | ⟨i, t, rfl, hi⟩ | ⟨b, rfl⟩ | rfl
  · have hz : (reprText x).length ≤ sizeLine := by rw [sizeLine_eq]; omega
    exact pyReprObj_str (wpAny_formatField_str (h _ _ _ hx) (h _ _ _ hx) hz) hz
  · have hx : (Str.ofString (toString i)).length ≤ 1000000 := by
      have e := int_text_length_le (k := 1920) (by decide) hi
      rw [ofString_length]
      omega
    exact pyReprObj_int hi (wpAny_formatField_str (h _ _ _ hx) (h _ _ _ hx) (int_text_fits hi))
  · have hx : (if b = true then Str.ofString "True" else Str.ofString "False").length ≤ 1000000 := by cases b <;> decide
    exact pyReprObj_bool (wpAny_formatField_str (h _ _ _ hx) (h _ _ _ hx) (by rw [sizeLine_eq]; exact Nat.le_trans hx (by decide)))
  · have hx : (Str.ofString "None").length ≤ 1000000 := by decide
    exact pyReprObj_none (wpAny_formatField_str (h _ _ _ hx) (h _ _ _ hx) (by rw [sizeLine_eq]; exact Nat.le_trans hx (by decide)))
/-- f"pre{x!r}" -/
theorem tells_r {pre f qual : Str} {j : Nat} {p1 p2 p3 : Pos} {v : Value} (hv : Shows v) (hl : (sS f).names.lookup f = some .local) (hd : (f == ("__debug__" : Str)) = false) (hz : pre.length ≤ 1000) : Tells prog w [.Constant (.str pre) j p1, .FormattedValue (.Name f p2) 114 none p3] f qual v := by
  intro A E s pj L a cd cc m Q hn hm hq
  have e0 : Str.empty.length = 0 := rfl
  refine wpAny_JoinedStr ?_
  show wpAny _ _ _ _ _ _
  refine Calls.Constant_str ⟨pre, _, rfl, ?_, ?_⟩
  · simp only [Str.length_append, sizeLine_eq, e0]; omega
  refine wpAny_FormattedValue_repr (wpAny_Name (wpAny_loadName_local rfl hl hn hm ?_) hd)
  refine shown_repr hv fun y t tk hy => ⟨y, t, rfl, ?_, ?_⟩
  · simp only [Str.length_append, sizeLine_eq, e0]; omega
  · exact ⟨by simp only [Str.length_append, sizeLine_eq, e0]; omega, hq _ _ _⟩
/-- f"pre{x!r}post" -/
theorem tells_rp {pre post f qual : Str} {j j2 : Nat} {p1 p2 p3 p4 : Pos} {v : Value} (hv : Shows v) (hl : (sS f).names.lookup f = some .local) (hd : (f == ("__debug__" : Str)) = false) (hz : pre.length ≤ 1000) (hz2 : post.length ≤ 1000) : Tells prog w [.Constant (.str pre) j p1, .FormattedValue (.Name f p2) 114 none p3, .Constant (.str post) j2 p4] f qual v := by
  intro A E s pj L a cd cc m Q hn hm hq
  have e0 : Str.empty.length = 0 := rfl
  refine wpAny_JoinedStr ?_
  show wpAny _ _ _ _ _ _
  refine Calls.Constant_str ⟨pre, _, rfl, ?_, ?_⟩
  · simp only [Str.length_append, sizeLine_eq, e0]; omega
  refine wpAny_FormattedValue_repr (wpAny_Name (wpAny_loadName_local rfl hl hn hm ?_) hd)
  refine shown_repr hv fun y t tk hy => ⟨y, t, rfl, ?_, ?_⟩
  · simp only [Str.length_append, sizeLine_eq, e0]; omega
  refine Calls.Constant_str ⟨post, _, rfl, ?_, ?_⟩
  · simp only [Str.length_append, sizeLine_eq, e0]; omega
  · exact ⟨by simp only [Str.length_append, sizeLine_eq, e0]; omega, hq _ _ _⟩
end
end SupX
end PySem

namespace L2
open PySem PySem.Spec PyProof.Rows
section
variable {X : Cx} {CX : CXT} {pins : List (Addr × Obj)} {σ : L2.St} {H : Hp} {s : Shared} {a C dx p g : Addr} {f : Str} {n : Nat} {sp : Sp} {E : XK} {v : V} {u : Value}
/-- str(x) of an own instance -/
def rStrI (C : Addr) (sp : Sp) (E : XK) : List V → Hp → VK → Prop := fun xs H Q => ∃ a dx fs, xs = [V.ref a] ∧ H a = some (.ins C dx fs) ∧ sp [.ref a] H (fun z H' => ∃ i, z = .str i ∧ Q z H') E
theorem call_strI (hs : PySem.W.findIn X.K (.ref C) "__str__" = some (some (.ref g))) (hf : PySem.W.isFn X.K (.ref g) = true) (F : FnR X.prog X.w X.K X.mg X.base CX n g sp) (hr : Room (n + 2) X.A) (hx : Passes CX X E) : CallR X (.type "str") (rStrI C sp E) := by
  intro pins s σ H xs us Q I r h
  obtain ⟨a, dx, fs, rfl, hsl, q⟩ := h
  obtain ⟨u, rfl, ru⟩ := r.one
  cases (show u = Value.ref a from ru)
  obtain ⟨mA, J, _⟩ := ins_get I.hok hsl
  obtain ⟨od, J, _⟩ := J.look
  have hr1 : Room (n + 1) X.A.in1 := Room.in1 hr
  have hr2 := Room.in1 hr1
  refine PySem.W.kso_call hr2.units0 I.kIn J hs hf (wpAny_mono (wpAny_call (SlX.run_at (us := [.ref a]) (ws := [.ref a]) F hr2 I.env0.in1.in1 hx I (.cons rfl .nil) q)) (fun w s' z => ?_) fun _ _ x => x)
  obtain ⟨z', H', I', rz, i, ei, qz⟩ := z
  subst ei
  obtain ⟨t, e⟩ := (show ∃ t, w = Value.str i t from rz)
  cases e
  exact ⟨.str i, H', I', ⟨t, rfl⟩, qz⟩
/-- repr(x) of an own instance -/
theorem call_reprI (hs : PySem.W.findIn X.K (.ref C) "__repr__" = some (some (.ref g))) (hf : PySem.W.isFn X.K (.ref g) = true) (F : FnR X.prog X.w X.K X.mg X.base CX n g sp) (hr : Room (n + 1) X.A) (hx : Passes CX X E) : CallR X (.builtin "repr") (rStrI C sp E) := by
  intro pins s σ H xs us Q I r h
  obtain ⟨a, dx, fs, rfl, hsl, q⟩ := h
  obtain ⟨u, rfl, ru⟩ := r.one
  cases (show u = Value.ref a from ru)
  obtain ⟨mA, J, _⟩ := ins_get I.hok hsl
  obtain ⟨od, J, _⟩ := J.look
  have hr2 : Room n X.A.in1 := Room.in1 hr
  obtain ⟨m, hF⟩ := I.fr
  refine PySem.W.repr_K hr2.units0 hF I.ok.mod.kin J hs hf (wpAny_mono (wpAny_call (SlX.run_at (us := [.ref a]) (ws := [.ref a]) F hr2 I.env0.in1 hx I (.cons rfl .nil) q)) (fun w s' z => ?_) fun _ _ x => x)
  obtain ⟨z', H', I', rz, i, ei, qz⟩ := z
  subst ei
  obtain ⟨t, e⟩ := (show ∃ t, w = Value.str i t from rz)
  cases e
  exact ⟨.str i, H', I', ⟨t, rfl⟩, qz⟩
/-- x op y, x an own instance whose def for op is at g; y an instance of the same class or a number -/
def rOwnI (C : Addr) (sp : Sp) (E : XK) : R2 := fun x y H Q => ∃ a dx fs, x = .ref a ∧ H a = some (.ins C dx fs) ∧ ((∃ b dy gs, y = .ref b ∧ H b = some (.ins C dy gs)) ∨ ∃ i, y = .int i) ∧ sp [x, y] H Q E
theorem op_ownI {op : CmpOp} (hop : ∀ a b, compareOp op a b = richCompare op a b) (hs : PySem.W.findIn X.K (.ref C) (cmpInfo op).2.1 = some (some (.ref g))) (hf : PySem.W.isFn X.K (.ref g) = true) (hi : PySem.W.notFirst X.K C (.type "int") = true) (F : FnR X.prog X.w X.K X.mg X.base CX n g sp)
    (hr : Room n X.A) (hx : Passes CX X E) : OpR X (compareOp op) (rOwnI C sp E) := by
  intro pins s σ H x y v u Q I rx ry h
  obtain ⟨a, dx, fs, rfl, ha, hy, q⟩ := h
  cases (show v = Value.ref a from rx)
  obtain ⟨mA, J, _⟩ := ins_get I.hok ha
  obtain ⟨od, J, _⟩ := J.look
  obtain ⟨m, hF⟩ := I.fr
  rw [hop]
  rcases hy with ⟨b, dy, gs, rfl, hb⟩ | ⟨i, rfl⟩
  · cases (show u = Value.ref b from ry)
    obtain ⟨mB, J', _⟩ := ins_get I.hok hb
    obtain ⟨od', J', _⟩ := J'.look
    refine PySem.W.cmp_K (op := op) (tb := .ref C) hr.units0 hF I.ok.mod.kin J J'.type (by simp [PySem.W.notFirst]) hs hf ?_
    have go := run_fnR (us := [.ref a, .ref b]) (vs := [.ref a, .ref b]) F hr hx I (.cons rfl (.cons rfl .nil)) q
    exact wpAny_mono (wpAny_call go) (fun _ _ ⟨z', G, J2, rz, qz⟩ => SlX.cmpback rz ⟨z', G, J2, rz, qz⟩) fun _ _ x => x
  · obtain ⟨t, e⟩ := (show ∃ t, u = Value.int i t from ry)
    subst e
    refine PySem.W.cmp_K (op := op) (tb := .type "int") hr.units0 hF I.ok.mod.kin J (fun _ _ _ _ _ q => by first | exact wpAny_pure q | exact (typeIs_int _ _ _).here q | (show wpAny _ _ (pure _) _ _ _; exact wpAny_pure q)) hi hs hf ?_
    refine wpAny_mono (wpAny_call (run_fnR (us := [.ref a, .int i t]) (vs := [.ref a, .int i]) F hr hx I (.cons rfl (.cons ⟨t, rfl⟩ .nil)) q)) (fun w s' z => ?_) fun _ _ x => x
    obtain ⟨z', H', I', rz, qz⟩ := z
    exact SlX.cmpback rz ⟨z', H', I', rz, qz⟩
end
end L2

namespace OwY
open PySem PySem.Spec PyProof.Rows PySem.SeqAt
section
variable {M : Model} {prog : Program} {w : World} {A : Around} {E : Value → Shared → Prop} {s : Shared} {K : PySem.W.Frag} {x C f : Addr} {ox : Obj} {od : Option Obj} {b : Value}
theorem ifBound_objNe {args : List Value} {Q : Option Value → Shared → Prop} (X : K.In s.heap) (I : PySem.W.InstAt s.heap x ox C od) (hs : PySem.W.findIn K (.ref C) "__ne__" = some (some (.builtin "object.__ne__")))
    (h : wpAny M A (call (.builtin "object.__ne__") (.ref x :: args)) (fun v => Q (some v)) E s) : wpAny M A (callSpecialIfBound? (.ref x) "__ne__" args) Q E s := by
  simp only [callSpecialIfBound?, bindSpecialIfBound?]
  refine wpAny_holding (wpAny_bind (wpAny_bind (wpAny_bind (I.type.here ((PySem.W.looks_findIn X hs).here ?_)))))
  refine wpAny_bind (wpAny_askSetting (wpAny_ite ?_))
  have fin : wpAny M A (call (.builtin "object.__ne__") ([.ref x] ++ args) >>= fun v => pure (some v)) Q E s := wpAny_bind (wpAny_mono h (fun v s' h' => wpAny_pure h') fun _ _ h' => h')
  split
  · exact wpAny_bind (wpAny_of_eq (F.cmp_object.ne.bind _) (wpAny_pure (by exact fin)))
  · exact wpAny_tryCatch (wpAny_bind (wpAny_of_eq (F.cmp_object.ne.bind _) (wpAny_pure (by exact fin))))
theorem entry_ne {Q : Fin → Shared → Prop} (hu : A.units < cLine) (X : K.In s.heap) (I : PySem.W.InstAt s.heap x ox C od) (hs : PySem.W.findIn K (.ref C) "__eq__" = some (some (.ref f))) (hf : PySem.W.isFn K (.ref f) = true)
    (h : wpAny (model prog w) A (call (.ref f) [.ref x, b]) (fun v s' => ∃ k, v = .bool k ∧ Q (.done (.ret (.bool (!k)))) s') E s) : wpAny (model prog w) A (Builtin.«object.__ne__» ⟨[.ref x, b], []⟩) Q E s := by
  unfold Builtin.«object.__ne__»
  repeat (first
    | with_reducible refine wpAny_cRoomFor hu ?_
    | (refine wpAny_bind (m := callSpecialIfBound? (.ref x) (Str.ofString "__eq__") [b])
        (PySem.W.ifBound_K X I hs hf (wpAny_mono h (fun r s' hr => by
          obtain ⟨k, rfl, hq⟩ := hr
          repeat (first | exact hq | exact wpAny_pure hq | exact wpAny_truthy_bool hq | (refine wpAny_bind (m := truthy (.bool _)) (wpAny_truthy_bool ?_)) | wp_step)) fun _ _ e => e)))
    | wp_step)
theorem call_objNe {Q : Value → Shared → Prop} (hu : A.in1.units < cLine) (X : K.In s.heap) (I : PySem.W.InstAt s.heap x ox C od) (hm : PySem.W.mroIn K C (.type "object") = some true) (hs : PySem.W.findIn K (.ref C) "__eq__" = some (some (.ref f))) (hf : PySem.W.isFn K (.ref f) = true)
    (h : wpAny (model prog w) A.in1 (call (.ref f) [.ref x, b]) (fun v s' => ∃ k, v = .bool k ∧ Q (.bool (!k)) s') E s) :
    wpAny (model prog w) A (call (.builtin "object.__ne__") [.ref x, b]) Q E s :=
  wpAny_call (codeAny_call_builtin F.cmp_object.ne.plain F.cmpEntry_ne (PySem.W.check_slot F.cmpKind_ne F.cmpSplit_ne (I.type.andThen (PySem.W.looks_mroIn X hm)) (F.cmpArgs_ne _ _) (entry_ne hu X I hs hf h)))
theorem ne_K {tb : Value} {Q : Value → Shared → Prop} (hu : A.units < cLine) (hu1 : A.in1.units < cLine) (X : K.In s.heap) (I : PySem.W.InstAt s.heap x ox C od) (hb : PySem.W.Looks (model prog w) s.heap (typeOf b) tb) (hn : PySem.W.notFirst K C tb = true) (hm : PySem.W.mroIn K C (.type "object") = some true)
    (hne : PySem.W.findIn K (.ref C) "__ne__" = some (some (.builtin "object.__ne__"))) (hs : PySem.W.findIn K (.ref C) "__eq__" = some (some (.ref f))) (hf : PySem.W.isFn K (.ref f) = true)
    (h : wpAny (model prog w) A.in1 (call (.ref f) [.ref x, b]) (fun v s' => ∃ k, v = .bool k ∧ Q (.bool (!k)) s') E s) : wpAny (model prog w) A (richCompare .NotEq (.ref x) b) Q E s := by
  have asked : wpAny (model prog w) A (tryCompare (.ref x) "__ne__" b) (fun r t => ∃ v, r = some v ∧ Q v t) E s := by
    unfold tryCompare
    apply wpAny_bind
    exact ifBound_objNe X I hne (call_objNe hu1 X I hm hs hf (wpAny_mono h (fun _ _ ⟨k, e, q⟩ => ⟨k, e, wpAny_pure ⟨_, rfl, q⟩⟩) fun _ _ e => e))
  have first : ∀ {T : Option Value → Sem Value}, (∀ v, T (some v) = pure v) → wpAny (model prog w) A (tryCompare (.ref x) "__ne__" b >>= T) Q E s := fun hT =>
    wpAny_bind (wpAny_mono asked (fun _ _ ⟨v, e, q⟩ => by rw [e, hT]; exact wpAny_pure q) fun _ _ e => e)
  unfold richCompare
  simp only [oneThing_ref, cmpInfo_NotEq]
  apply wpAny_holding
  apply wpAny_bind
  apply wpAny_cRoomFor hu
  apply wpAny_bind
  apply I.type.here
  apply wpAny_bind
  apply hb.here
  split
  case isTrue q =>
    have e : PySem.W.subIn K tb (.ref C) = some false := by
      rcases Bool.or_eq_true_iff.mp hn with e | e
      · simp [beq_iff_eq.mp e] at q
      · exact beq_iff_eq.mp e
    apply wpAny_bind
    apply (PySem.W.looks_subIn X e).here
    simp only [Bool.false_eq_true, if_false]
    exact first fun _ => rfl
  case isFalse =>
    apply wpAny_bind
    apply wpAny_pure
    simp only [Bool.false_eq_true, if_false]
    exact first fun _ => rfl
end
end OwY
namespace L2
open PySem PySem.Spec PyProof.Rows
section
variable {X : Cx} {CX : CXT} {pins : List (Addr × Obj)} {σ : L2.St} {H : Hp} {s : Shared} {a C dx p g : Addr} {f : Str} {n : Nat} {sp : Sp} {E : XK} {v : V} {u : Value}
/-- x != y by an own __eq__ -/
def rNeI (C : Addr) (sp : Sp) (E : XK) : R2 := fun x y H Q => ∃ a dx fs b dy gs, x = .ref a ∧ H a = some (.ins C dx fs) ∧ y = .ref b ∧ H b = some (.ins C dy gs) ∧ sp [x, y] H (fun z H' => ∃ k, z = .bl k ∧ Q (.bl (!k)) H') E
theorem op_neI (hm : PySem.W.mroIn X.K C (.type "object") = some true) (hne : PySem.W.findIn X.K (.ref C) "__ne__" = some (some (.builtin "object.__ne__"))) (hs : PySem.W.findIn X.K (.ref C) "__eq__" = some (some (.ref g))) (hf : PySem.W.isFn X.K (.ref g) = true) (F : FnR X.prog X.w X.K X.mg X.base CX n g sp)
    (hr : Room (n + 1) X.A) (hx : Passes CX X E) : OpR X (compareOp .NotEq) (rNeI C sp E) := by
  intro pins s σ H x y v u Q I rx ry h
  obtain ⟨a, dx, fs, b, dy, gs, rfl, ha, rfl, hb, q⟩ := h
  cases (show v = Value.ref a from rx)
  cases (show u = Value.ref b from ry)
  obtain ⟨mA, J, _⟩ := ins_get I.hok ha
  obtain ⟨od, J, _⟩ := J.look
  obtain ⟨mB, J', _⟩ := ins_get I.hok hb
  obtain ⟨od', J', _⟩ := J'.look
  have hr2 : Room n X.A.in1 := Room.in1 hr
  show wpAny _ _ (richCompare .NotEq _ _) _ _ _
  refine OwY.ne_K (tb := .ref C) hr.units0 hr2.units0 I.kIn J J'.type (by simp [PySem.W.notFirst]) hm hne hs hf (wpAny_mono (wpAny_call (SlX.run_at (us := [.ref a, .ref b]) (ws := [.ref a, .ref b]) F hr2 I.env0.in1 hx I (.cons rfl (.cons rfl .nil)) q)) (fun w s' z => ?_) fun _ _ x => x)
  obtain ⟨z', H', I', rz, k, ek, qz⟩ := z
  subst ek
  cases (show w = Value.bool k from rz)
  exact ⟨k, rfl, .bl (!k), H', I', rfl, qz⟩
end
end L2

namespace L2
open PySem PySem.Spec PyProof.Rows
/-! ### an own class is made whose __init__ may refuse -/
section
variable {X : Cx} {CX : CXT} {pins : List (Addr × Obj)} {σ : L2.St} {H : Hp} {s : Shared} {C f : Addr} {k : Nat} {fd : FuncData} {ps : List Str} {sp : Sp} {E : L2.St → XK} {Q : VK} {us : List Value} {kw : List (Str × Value)}
/-- al, bl: what the __init__ of the instance at x is given, as told and as it stands -/
theorem born (M : Mk X.K C f) (F : FnOk X.prog X.w X.K X.mg X.base CX k f fd ps sp) (hr : Room (k + 1) X.A) (hx : PassesAt CX X σ (E σ)) (I : Inv X pins σ H s) {al : Addr → List V} {bl : Addr → List Value} (rel : ∀ x, Vals (al x) (bl x))
    (bind : ∀ x t, (bl x).length = ps.length → X.K.In t.heap → BindsTo t fd ⟨.ref x :: us, kw⟩ (ps.zip (bl x)))
    (h : ∀ x dx, H x = none → H dx = none → dx ≠ x → sp (al x) (upd (upd H dx (.own x)) x (.ins C dx [])) (fun v H2 => v = .non ∧ Q (.ref x) H2) (E σ)) :
    wpAny (model X.prog X.w) X.A (call (.ref C) us kw) (EP X pins σ Q) X.xe s := by
  have J := I.made (C := C)
  have g := h _ _ (I.hok.fresh (Nat.le_add_right _ 1)) (I.hok.fresh Nat.le.refl) (Nat.succ_ne_self _).symm
  have len := (rel _).length.symm.trans (F.len _ _ _ _ g)
  apply wpAny_call
  apply make_map (f := f) I.kIn M.makes M.init (beq_iff_eq.mp M.fn)
  apply codeAny_mono (F.run _ _ _ _ _ (bl _) (al _) _ (E σ) (hr.make C us kw) (J.env0.make C us kw) (bind _ _ len J.kIn) (rel _) g)
  rintro (_ | fl) t told
  · exact hx _ _ _ _ _ J told
  · cases fl
    case ret u =>
      have ⟨_, _, I3, rv, nn, q⟩ := J.after told
      subst nn
      exact ⟨rv, .ref _, _, I3, rfl, q⟩
    all_goals exact told.elim
variable {x : Str} {e : Expr} {es : List Expr} {t : TA} {p pos : Pos}
/-- C(e, ..) -/
def tMakeS (C : Addr) (sp : Sp) (E : L2.St → XK) (t : TA) : TE := fun σ H Q => t σ H fun vs H1 => ∀ x dx, H1 x = none → H1 dx = none → dx ≠ x →
  sp (.ref x :: vs) (upd (upd H1 dx (.own x)) x (.ins C dx [])) (fun v H2 => v = .non ∧ Q (.ref x) H2) (E σ)
theorem pe_makeS (M : Mk X.K C f) (F : FnOk X.prog X.w X.K X.mg X.base CX k f fd ps sp) (hr : Room (k + 1) X.A) (hg : Gl X x) (hm : X.mg x = some (.ref C)) (hb : Binds X.K fd ps []) (hx : ∀ σ, PassesAt CX X σ (E σ)) (ha : PA X (e :: es) t)
    (h3 : (x == ("__debug__" : Str)) = false := by decide) (h4 : starEach (e :: es) X.env = (false, eval e X.env) :: starEach es X.env := by rfl) (h5 : (backTo pos (starEach es X.env)).any (·.1) = false := by rfl) :
    PE X (.Call (.Name x p) (e :: es) [] pos) (tMakeS C sp E t) := by
  constructor
  intro pins s σ H Q I h
  apply wpAny_Call_Name_kw (ld_glob I hg hm _ h3)
  apply PySem.W.callWith_K (h₀ := X.base) I.ok.mod.kin M.kp _ h4 h5
  refine thn (ha.run pos pins s σ H _ I h) fun us s1 ⟨vs, H1, I1, r, q⟩ => ⟨I1.kIn, ?_⟩
  exact born M F hr (hx σ) I1 (al := fun y => .ref y :: vs) (bl := fun y => .ref y :: us) (fun _ => .cons rfl r) (fun y t l i => by simpa using hb t (.ref y :: us) i (by simpa using l)) q
end
section
variable {X : Cx} {CX : CXT} {k n : Nat} {f C : Addr} {fd : FuncData} {ps ks : List Str} {sp : Sp} {E : L2.St → XK} {x : Str} {p pos : Pos} {e : Expr} {es : List Expr} {kws : List Keyword} {t tk : TA} {g : List Value → List Value → List Value} {gV : List V → List V → List V}
/-- C(.., k = v, ..), n values without a name, m with one -/
def tMakeKS (C : Addr) (n m : Nat) (sp : Sp) (gV : List V → List V → List V) (E : L2.St → XK) (t tk : TA) : TE := fun σ H Q => t σ H fun vs G => tk σ G fun zs G' => vs.length = n ∧ zs.length = m ∧ ∀ x dx, G' x = none → G' dx = none → dx ≠ x →
  sp (gV (.ref x :: vs) zs) (upd (upd G' dx (.own x)) x (.ins C dx [])) (fun v G'' => v = .non ∧ Q (.ref x) G'') (E σ)
theorem bornK {pins : List (Addr × Obj)} {σ : L2.St} {H : Hp} {s : Shared} {Q : VK} {us ws : List Value} {vs zs : List V} (M : Mk X.K C f) (F : FnOk X.prog X.w X.K X.mg X.base CX k f fd ps sp) (hr : Room (k + 1) X.A) (hb : KBn X.K fd ps (n + 1) ks g gV) (hx : ∀ σ, PassesAt CX X σ (E σ))
    (I : Inv X pins σ H s) (r : Vals vs us) (rz : Vals zs ws) (q : vs.length = n ∧ zs.length = ks.length ∧ ∀ x dx, H x = none → H dx = none → dx ≠ x → sp (gV (.ref x :: vs) zs) (upd (upd H dx (.own x)) x (.ins C dx [])) (fun v G => v = .non ∧ Q (.ref x) G) (E σ)) :
    wpAny (model X.prog X.w) X.A (call (.ref C) us (ks.zip ws)) (EP X pins σ Q) X.xe s := by
  have ⟨l1, l2, q⟩ := q
  have n1 : us.length = n := r.length ▸ l1
  have n2 : ws.length = ks.length := rz.length ▸ l2
  exact born M F hr (hx σ) I (al := fun y => gV (.ref y :: vs) zs) (bl := fun y => g (.ref y :: us) ws) (fun _ => hb.rel (.cons rfl r) rz) (fun y t _ i => hb.to t (.ref y :: us) ws i (by simp [n1]) n2) q
theorem pe_makeKS0 (M : Mk X.K C f) (F : FnOk X.prog X.w X.K X.mg X.base CX k f fd ps sp) (hr : Room (k + 1) X.A) (hg : Gl X x) (hm : X.mg x = some (.ref C)) (hb : KBn X.K fd ps 1 ks g gV) (hx : ∀ σ, PassesAt CX X σ (E σ)) (hkw : PK X kws tk)
    (h1 : (backToKw pos (keywordEach kws X.env)).all (·.1.isSome) = true := by rfl) (h2 : (backToKw pos (keywordEach kws X.env)).filterMap (·.1) = ks := by rfl) (h3 : (x == ("__debug__" : Str)) = false := by decide)
    (h4 : ((backTo pos (starEach [] X.env)).any (·.1) || (backToKw pos (keywordEach kws X.env)).any (·.1.isNone)) = false := by rfl) :
    PE X (.Call (.Name x p) [] kws pos) (tMakeKS C 0 ks.length sp gV E tNil tk) := by
  constructor
  intro pins s σ H Q I h
  apply wpAny_Call_Name_kw (ld_glob I hg hm _ h3)
  apply PySem.W.callWith_KW0 (h₀ := X.base) I.ok.mod.kin M.kp h1 _ h4
  refine thn (hkw.run pos pins s σ H _ I h) fun ws t ⟨zs, G, J, rz, q⟩ => ⟨J.kIn, h2.symm ▸ bornK (us := []) (vs := []) M F hr hb hx J .nil rz q⟩
theorem pe_makeKS (M : Mk X.K C f) (F : FnOk X.prog X.w X.K X.mg X.base CX k f fd ps sp) (hr : Room (k + 1) X.A) (hg : Gl X x) (hm : X.mg x = some (.ref C)) (hb : KBn X.K fd ps (n + 1) ks g gV) (hx : ∀ σ, PassesAt CX X σ (E σ)) (ha : PA X (e :: es) t) (hkw : PK X kws tk)
    (h1 : (backToKw pos (keywordEach kws X.env)).all (·.1.isSome) = true := by rfl) (h2 : (backToKw pos (keywordEach kws X.env)).filterMap (·.1) = ks := by rfl) (h3 : (x == ("__debug__" : Str)) = false := by decide)
    (h4 : starEach (e :: es) X.env = (false, eval e X.env) :: starEach es X.env := by rfl) (h5 : ((backTo pos (starEach (e :: es) X.env)).any (·.1) || (backToKw pos (keywordEach kws X.env)).any (·.1.isNone)) = false := by rfl) :
    PE X (.Call (.Name x p) (e :: es) kws pos) (tMakeKS C n ks.length sp gV E t tk) := by
  constructor
  intro pins s σ H Q I h
  apply wpAny_Call_Name_kw (ld_glob I hg hm _ h3)
  apply PySem.W.callWith_KW (h₀ := X.base) I.ok.mod.kin M.kp h1 _ h5 h4
  refine thn (ha.run pos pins s σ H _ I h) fun us t ⟨vs, G, J, r, q⟩ => thn (hkw.run pos pins t σ G _ J q) fun ws t' ⟨zs, G', J', rz, q'⟩ => ⟨J'.kIn, h2.symm ▸ bornK M F hr hb hx J' r rz q'⟩
/-- C(e, ..): the keyword-only parameters have their defaults -/
theorem pe_makeDS (M : Mk X.K C f) (F : FnOk X.prog X.w X.K X.mg X.base CX k f fd ps sp) (hr : Room (k + 1) X.A) (hg : Gl X x) (hm : X.mg x = some (.ref C)) (hb : KBn X.K fd ps (n + 1) [] g gV) (hx : ∀ σ, PassesAt CX X σ (E σ)) (ha : PA X (e :: es) t)
    (h3 : (x == ("__debug__" : Str)) = false := by decide) (h4 : starEach (e :: es) X.env = (false, eval e X.env) :: starEach es X.env := by rfl) (h5 : (backTo pos (starEach es X.env)).any (·.1) = false := by rfl) :
    PE X (.Call (.Name x p) (e :: es) [] pos) (tMakeKS C n 0 sp gV E t tNil) := by
  constructor
  intro pins s σ H Q I h
  apply wpAny_Call_Name_kw (ld_glob I hg hm _ h3)
  apply PySem.W.callWith_K (h₀ := X.base) I.ok.mod.kin M.kp _ h4 h5
  refine thn (ha.run pos pins s σ H _ I h) fun us t ⟨vs, G, J, r, q⟩ => ⟨J.kIn, bornK (ks := []) (ws := []) (zs := []) M F hr hb hx J r .nil q⟩
end
end L2

namespace M
open PySem L2 G
section
variable {K : PySem.W.Frag} {α β γ δ ε ρ : Type} {S T : AS} {σ : St} {H : Hp} {b c : Addr} {ta tb te : TE} {tt tu : TT} {a : Ty K α} {b' : Ty K β} {c' : Ty K γ} {D : Ends} {u : TS}
/-! ### one of two kinds -/
def tU (c : Ty K α) (d : Ty K β) : Ty K (α ⊕ β) where
  rp S H v x := match x with | .inl y => c.rp S H v y | .inr y => d.rp S H v y
  mono {S H H' v x} f h := by cases x with | inl y => exact c.mono f h | inr y => exact d.mono f h
  ext {S H p v x} f h := by cases x with | inl y => exact c.ext f h | inr y => exact d.ext f h
  sub {S S' H v x} f h := by cases x with | inl y => exact c.sub f h | inr y => exact d.sub f h
theorem ev_inl {r : Option α} (h : Ev S T te σ H (of a S) r) : Ev S T te σ H (of (tU a b') S) (bd r fun x => some (.inl x)) := ev_as h fun x y e H1 H2 v d hv => by cases e; exact hv
theorem ev_inr {r : Option β} (h : Ev S T te σ H (of b' S) r) : Ev S T te σ H (of (tU a b') S) (bd r fun x => some (.inr x)) := ev_as h fun x y e H1 H2 v d hv => by cases e; exact hv
def getL? : α ⊕ β → Option α
  | .inl x => some x
  | .inr _ => none
def getR? : α ⊕ β → Option β
  | .inr x => some x
  | .inl _ => none
theorem ev_getL {r : Option (α ⊕ β)} (h : Ev S T te σ H (of (tU a b') S) r) : Ev S T te σ H (of a S) (bd r getL?) := ev_as h fun x y e H1 H2 v d hv => by cases x with | inl z => cases e; exact hv | inr z => cases e
theorem ev_getR {r : Option (α ⊕ β)} (h : Ev S T te σ H (of (tU a b') S) r) : Ev S T te σ H (of b' S) (bd r getR?) := ev_as h fun x y e H1 H2 v d hv => by cases x with | inr z => cases e; exact hv | inl z => cases e
theorem all_getL {S : AS} {H : Hp} : ∀ {vs : List V} {xs : List (α ⊕ β)} {ys : List α}, All2 ((tU a b').rp S H) vs xs → mapO getL? xs = some ys → All2 (a.rp S H) vs ys
  | _, _, _, .nil, e => by cases e; exact .nil
  | _, x :: xs, ys, .cons h r, e => by
    obtain ⟨y, hy, e⟩ := bd_some e
    obtain ⟨zs, hz, e⟩ := bd_some e
    cases e
    cases x with
    | inl z => cases hy; exact .cons h (all_getL r hz)
    | inr z => cases hy
theorem ev_mapGL {r : Option (List (α ⊕ β))} (h : Ev S T te σ H (of (tL (tU a b')) S) r) : Ev S T te σ H (of (tL a) S) (bd r (mapO getL?)) := ev_as h fun x y e H1 H2 v d ⟨p, vs, ev, hp, ha⟩ => ⟨p, vs, ev, hp, all_getL ha e⟩
/-- a number or a truth -/
theorem ev_isiUB {r : Option (Int ⊕ Bool)} (h : Ev S T te σ H (of (K := K) (tU tInt tBool) S) r) : Ev S T (tCB (rIsi K) (tCons te (tCons (tC (.ty "bool")) tNil))) σ H (of (K := K) tBool S) (bd r fun x => some x.isRight) := by
  intro z e H1 f1 d Q q
  obtain ⟨x, ex, e⟩ := bd_some e
  cases e
  refine h x ex H1 f1 d _ fun v H2 s hv => ?_
  cases x with
  | inl i => cases hv; exact ⟨_, _, _, _, false, rfl, .ty _, .base (.int i), kit_ty (by decide +kernel), q _ H2 s rfl⟩
  | inr k => cases hv; exact ⟨_, _, _, _, true, rfl, .ty _, .base (.bl k), kit_ty (by decide +kernel), q _ H2 s rfl⟩
theorem ev_isiUI {r : Option (Int ⊕ Bool)} (h : Ev S T te σ H (of (K := K) (tU tInt tBool) S) r) : Ev S T (tCB (rIsi K) (tCons te (tCons (tC (.ty "int")) tNil))) σ H (of (K := K) tBool S) (bd r fun _ => some true) := by
  intro z e H1 f1 d Q q
  obtain ⟨x, ex, e⟩ := bd_some e
  cases e
  refine h x ex H1 f1 d _ fun v H2 s hv => ?_
  cases x with
  | inl i => cases hv; exact ⟨_, _, _, _, true, rfl, .ty _, .base (.int i), kit_ty (by decide +kernel), q _ H2 s rfl⟩
  | inr k => cases hv; exact ⟨_, _, _, _, true, rfl, .ty _, .base (.bl k), kit_ty (by decide +kernel), q _ H2 s rfl⟩
/-! ### texts, however they were made -/
def tTx : Ty K Str := ⟨fun _ _ v i => v = .str i, fun _ h => h, fun _ h => h, fun _ h => h⟩
theorem ev_s2x {r : Option Str} (h : Ev S T te σ H (of (K := K) tStr S) r) : Ev S T te σ H (of (K := K) tTx S) r := fun x ex H1 f d Q q => h x ex H1 f d Q fun v H2 s hv => q v H2 s hv.1
theorem ev_tx {z : Str} : Ev S T (tC (.str z)) σ H (of (K := K) tTx S) (some z) := fun x e H1 f d Q q => by cases e; exact q _ H1 (Same.refl _) rfl
theorem od_eqX : OpD (K := K) tTx tTx S (of (K := K) tBool S) rEq (fun i j => some (decide (i = j))) := by
  intro x y z e H1 v w d hv hw Q q
  cases hv; cases hw; cases e
  refine ⟨rfl, ?_⟩
  rw [show decide (V.str x = V.str y) = decide (x = y) by simp]
  exact q _ H1 (Same.refl _) rfl
def shw? (i : Int) : Option Str := if i.natAbs.log2 < 1920 then some (toString i) else none
theorem ev_strI {r : Option Int} (h : Ev S T te σ H (of (K := K) tInt S) r) : Ev S T (tCB (fun xs H Q => ∃ i, xs = [.int i] ∧ i.natAbs.log2 < 1920 ∧ Q (.str (toString i)) H) (tCons te tNil)) σ H (of (K := K) tTx S) (bd r shw?) := by
  intro z e H1 f1 d Q q
  obtain ⟨x, ex, e⟩ := bd_some e
  unfold shw? at e
  split at e
  · rename_i hx
    cases e
    refine h x ex H1 f1 d _ fun v H2 s hv => ?_
    cases hv
    exact ⟨x, rfl, hx, q _ H2 s rfl⟩
  · cases e
/-! f-strings of numbers and texts -/
theorem ev_fmtI {r : Option Int} (h : Ev S T te σ H (of (K := K) tInt S) r) : Ev S T (tFmt te) σ H (of (K := K) tTx S) (bd r shw?) := by
  intro z e H1 f1 d Q q
  obtain ⟨x, ex, e⟩ := bd_some e
  unfold shw? at e
  split at e
  · rename_i hx
    cases e
    refine h x ex H1 f1 d _ fun v H2 s hv => ?_
    cases hv
    exact .inr ⟨x, rfl, hx, q _ H2 s rfl⟩
  · cases e
def catX? (x y : Str) : Option Str := if (x ++ y).length ≤ sizeLine then some (x ++ y) else none
/-- the parts of an f-string -/
def EvJ (S T : AS) (ts : List TE) (σ : St) (H : Hp) (r : Str → Option Str) : Prop :=
  ∀ acc x, r acc = some x → ∀ H1, Fr T H H1 → Dom S H1 → ∀ Q : Str → Hp → Prop, (∀ H2, Same H1 H2 → Q x H2) → tJs ts acc σ H1 Q
theorem ej_nil : EvJ S T [] σ H some := fun acc x e H1 f d Q q => by cases e; exact q H1 (Same.refl _)
theorem ej_cons {ts : List TE} {ra : Option Str} {rr : Str → Option Str} (h : Ev S T te σ H (of (K := K) tTx S) ra) (hr : EvJ S T ts σ H rr) : EvJ S T (te :: ts) σ H (fun acc => bd ra fun y => bd (catX? acc y) rr) := by
  intro acc x e H1 f1 d Q q
  obtain ⟨y, ey, e⟩ := bd_some e
  obtain ⟨z, ez, e⟩ := bd_some e
  unfold catX? at ez
  split at ez
  · rename_i hz
    cases ez
    refine h y ey H1 f1 d _ fun v H2 s hv => ⟨y, hv, hz, ?_⟩
    exact hr _ x e H2 (f1.trans (Fr.same s)) (d.same s) Q fun H3 s3 => q H3 (s.trans s3)
  · cases ez
theorem ev_joined {ts : List TE} {rr : Str → Option Str} (h : EvJ S T ts σ H rr) : Ev S T (fun σ H Q => tJs ts Str.empty σ H fun out H1 => Q (.str out) H1) σ H (of (K := K) tTx S) (rr Str.empty) := fun x e H1 f d Q q => h _ x e H1 f d _ fun H2 s => q _ H2 s rfl
/-! ### instances of an own class by their fields -/
/-- an instance of the class at C, its fields by F -/
def tIn (C : Addr) (F : α → List (Str × V)) : Ty K α where
  rp S H v x := ∃ p dx, v = .ref p ∧ H p = some (.ins C dx (F x)) ∧ p ∉ S
  mono f := fun ⟨p, dx, e, h, n⟩ => ⟨p, dx, e, f _ _ h n, n⟩
  ext f := fun ⟨p, dx, e, h, n⟩ => ⟨p, dx, e, h, not_cons f (by rw [h]; intro z; cases z) n⟩
  sub f := fun ⟨p, dx, e, h, n⟩ => ⟨p, dx, e, h, fun m => n (f _ m)⟩
theorem ev_fld {C : Addr} {F : α → List (Str × V)} {f : Str} {r : Option α} {g : α → β} (c : Cls K C) (na : NoAttr K C f) (hf : ∀ x, ∃ v, (F x).lookup f = some v ∧ ∀ S H, b'.rp S H v (g x)) (h : Ev S T te σ H (of (tIn (K := K) C F) S) r) : Ev S T (tFld K te f) σ H (of b' S) (bd r fun x => some (g x)) := by
  intro z e H1 f1 d Q q
  obtain ⟨x, ex, e⟩ := bd_some e
  cases e
  refine h x ex H1 f1 d _ fun v H2 s ⟨p, dx, ev, hp, n⟩ => ?_
  obtain ⟨v, hv, hr⟩ := hf x
  exact ⟨p, C, dx, F x, v, ev, hp, c, na, hv, q v H2 s (hr S H2)⟩
/-- x.m() -/
theorem ev_meth0 {C : Addr} {F : α → List (Str × V)} {m : Str} {r : Option α} {R : AS → Rl γ} {f : α × Unit → Option γ} {E : XK} (hf : ∀ x, (F x).lookup m = none) (h : Ev S T te σ H (of (tIn (K := K) C F) S) r) : Ev S T (tMeth C m (spF (aCons (tIn (K := K) C F) aNil) R f) [] E te tNil) σ H (R S) (bd r fun x => f (x, ())) := by
  intro z e H1 f1 d Q q
  obtain ⟨x, ex, e⟩ := bd_some e
  refine h x ex H1 f1 d _ fun v H2 s ⟨p, dx, ev, hp, n⟩ => ⟨p, dx, F x, ev, hp, hf x, ?_⟩
  exact ⟨S, (x, ()), z, d.same s, ⟨v, [], by simp, ⟨p, dx, ev, hp, n⟩, rfl⟩, e, fun u H' s' hu => q u H' (s.trans s') ((R S).same s hu)⟩
/-- str(x), repr(x) -/
theorem ev_strOf {C : Addr} {F : α → List (Str × V)} {r : Option α} {f : α × Unit → Option Str} {E : XK} (h : Ev S T te σ H (of (tIn (K := K) C F) S) r) : Ev S T (tCB (rStrI C (spF (aCons (tIn (K := K) C F) aNil) (fun S => of (K := K) tTx S) f) E) (tCons te tNil)) σ H (of (K := K) tTx S) (bd r fun x => f (x, ())) := by
  intro z e H1 f1 d Q q
  obtain ⟨x, ex, e⟩ := bd_some e
  refine h x ex H1 f1 d _ fun v H2 s ⟨p, dx, ev, hp, n⟩ => ⟨p, dx, F x, by rw [ev], hp, ?_⟩
  exact ⟨S, (x, ()), z, d.same s, ⟨.ref p, [], rfl, ⟨p, dx, rfl, hp, n⟩, rfl⟩, e, fun u H' s' hu => ⟨z, hu, q u H' (s.trans s') hu⟩⟩
/-- x == y, x != y, x == a number, by the own __eq__ -/
theorem od_eqI2 {C : Addr} {F : α → List (Str × V)} {f : α × α × Unit → Option Bool} {E : XK} : OpD (tIn (K := K) C F) (tIn (K := K) C F) S (of (K := K) tBool S) (rOwnI C (spF (aCons (tIn (K := K) C F) (aCons (tIn (K := K) C F) aNil)) (fun S => of (K := K) tBool S) f) E) (fun x y => f (x, y, ())) := by
  intro x y z e H1 v w d ⟨p, dx, ev, hp, n⟩ ⟨p', dx', ev', hp', n'⟩ Q q
  exact ⟨p, dx, F x, ev, hp, .inl ⟨p', dx', F y, ev', hp'⟩, S, (x, y, ()), z, d, ⟨v, [w], rfl, ⟨p, dx, ev, hp, n⟩, w, [], rfl, ⟨p', dx', ev', hp', n'⟩, rfl⟩, e, fun u H' s hu => q u H' s hu⟩
theorem od_neI2 {C : Addr} {F : α → List (Str × V)} {f : α × α × Unit → Option Bool} {E : XK} : OpD (tIn (K := K) C F) (tIn (K := K) C F) S (of (K := K) tBool S) (rNeI C (spF (aCons (tIn (K := K) C F) (aCons (tIn (K := K) C F) aNil)) (fun S => of (K := K) tBool S) f) E) (fun x y => bd (f (x, y, ())) fun k => some (!k)) := by
  intro x y z e H1 v w d ⟨p, dx, ev, hp, n⟩ ⟨p', dx', ev', hp', n'⟩ Q q
  obtain ⟨k, ek, e⟩ := bd_some e
  cases e
  exact ⟨p, dx, F x, p', dx', F y, ev, hp, ev', hp', S, (x, y, ()), k, d, ⟨v, [w], rfl, ⟨p, dx, ev, hp, n⟩, w, [], rfl, ⟨p', dx', ev', hp', n'⟩, rfl⟩, ek, fun u H' s hu => ⟨k, hu, q _ H' s rfl⟩⟩
theorem od_eqIi {C : Addr} {F : α → List (Str × V)} {f : α × Int × Unit → Option Bool} {E : XK} : OpD (tIn (K := K) C F) (K := K) tInt S (of (K := K) tBool S) (rOwnI C (spF (aCons (tIn (K := K) C F) (aCons (K := K) tInt aNil)) (fun S => of (K := K) tBool S) f) E) (fun x y => f (x, y, ())) := by
  intro x y z e H1 v w d ⟨p, dx, ev, hp, n⟩ hw Q q
  exact ⟨p, dx, F x, ev, hp, .inr ⟨y, hw⟩, S, (x, y, ()), z, d, ⟨v, [w], rfl, ⟨p, dx, ev, hp, n⟩, w, [], rfl, hw, rfl⟩, e, fun u H' s hu => q u H' s hu⟩
/-- isinstance(x, C) of an instance, of a number -/
theorem ev_isiC {C C' : Addr} {F : α → List (Str × V)} {r : Option α} {k : Bool} (hk : PySem.W.kitOne K (.ref C) (.ref C') = some k) (hc : ∀ H p dx fs, H p = some (.ins C dx fs) → TyX K H (.ref p) (.ref C)) (h : Ev S T te σ H (of (tIn (K := K) C F) S) r) (hv : ClsV (V.ref C') (.ref C')) :
    Ev S T (tCB (rIsi K) (tCons te (tCons (tC (.ref C')) tNil))) σ H (of (K := K) tBool S) (bd r fun _ => some k) := by
  intro z e H1 f1 d Q q
  obtain ⟨x, ex, e⟩ := bd_some e
  cases e
  exact h x ex H1 f1 d _ fun v H2 s ⟨p, dx, ev, hp, n⟩ => ⟨v, _, _, _, k, rfl, hv, by rw [ev]; exact hc H2 p dx _ hp, hk, q _ H2 s rfl⟩
end
end M
namespace M
open PySem L2 G
section
variable {K : PySem.W.Frag} {α β γ δ ε ρ : Type} {S T : AS} {σ : St} {H : Hp} {b c : Addr} {ta tb te : TE} {a : Ty K α} {b' : Ty K β}
theorem ew_inl {w : Wp α} (h : EvW b c S te σ H (of a S) w) : EvW b c S te σ H (of (tU a b') S) (unW (fun x => some (Sum.inl x)) w) := fun ts P hP H1 f d hB Q q => h ts _ hP H1 f d hB Q fun v H2 x ⟨y, e, hy⟩ f2 d2 hB2 hv => q v H2 y hy f2 d2 hB2 (by cases e; exact hv)
theorem ew_inr {w : Wp β} (h : EvW b c S te σ H (of b' S) w) : EvW b c S te σ H (of (tU a b') S) (unW (fun x => some (Sum.inr x)) w) := fun ts P hP H1 f d hB Q q => h ts _ hP H1 f d hB Q fun v H2 x ⟨y, e, hy⟩ f2 d2 hB2 hv => q v H2 y hy f2 d2 hB2 (by cases e; exact hv)
theorem ev_isiIC {C : Addr} {r : Option Int} (hk : PySem.W.kitOne K (.type "int") (.ref C) = some false) (h : Ev S T te σ H (of (K := K) tInt S) r) : Ev S T (tCB (rIsi K) (tCons te (tCons (tC (.ref C)) tNil))) σ H (of (K := K) tBool S) (bd r fun _ => some false) := by
  intro z e H1 f1 d Q q
  obtain ⟨x, ex, e⟩ := bd_some e
  cases e
  exact h x ex H1 f1 d _ fun v H2 s hv => by cases hv; exact ⟨_, _, _, _, false, rfl, .own _, .base (.int x), hk, q _ H2 s rfl⟩
end
end M
namespace M
open PySem L2 G
section
variable {K : PySem.W.Frag} {S T : AS} {σ : St} {H : Hp} {ta tb te : TE}
def catY? (x y : Str) : Option Str := if x.length + y.length ≤ sizeLine then some (x ++ y) else none
theorem od_catY : OpD (K := K) tTx tTx S (of (K := K) tTx S) (fun x y H Q => ∃ i j, x = .str i ∧ y = .str j ∧ i.length + j.length ≤ sizeLine ∧ Q (.str (i ++ j)) H) catY? := by
  intro x y z e H1 v w d hv hw Q q
  unfold catY? at e
  split at e
  · rename_i hz
    cases e; cases hv; cases hw
    exact ⟨x, y, rfl, rfl, hz, q _ H1 (Same.refl _) rfl⟩
  · cases e
def join? (x : Str) (ys : List Str) : Option Str := if (ys.map (·.length)).sum + ys.length * x.length ≤ 16777216 then some (Txt.join x ys) else none
theorem All2.txs {S : AS} {H : Hp} : ∀ {vs : List V} {xs : List Str}, All2 ((tTx (K := K)).rp S H) vs xs → vs = xs.map V.str
  | _, _, .nil => rfl
  | _, _, .cons h r => by rw [List.map_cons, ← All2.txs r, show _ = _ from h]
theorem ev_join {rx : Option Str} {ry : Option (List Str)} (hx : Ev S T ta σ H (of (K := K) tTx S) rx) (hy : Ev S T tb σ H (of (K := K) (tL tTx) S) ry) : Ev S T (tM1 (fun x xs H Q => ∃ a p, ∃ ys : List Str, x = .str a ∧ xs = [.ref p] ∧ (SqL K H p (ys.map V.str) ∨ SqT K H p (ys.map V.str)) ∧
      (ys.map (·.length)).sum + ys.length * a.length ≤ 16777216 ∧ Q (.str (Txt.join a ys)) H) ta tb) σ H (of (K := K) tTx S) (bd rx fun x => bd ry fun y => join? x y) := by
  intro z e H1 f1 d Q q
  obtain ⟨x, ex, e⟩ := bd_some e
  obtain ⟨ys, ey, e⟩ := bd_some e
  unfold join? at e
  split at e
  · rename_i hz
    cases e
    refine hx x ex H1 f1 d _ fun v H2 s hv => ⟨⟨x, hv⟩, hy ys ey H2 (f1.trans (Fr.same s)) (d.same s) _ fun w H3 s3 ⟨p, vs, ew, hp, ha⟩ => ?_⟩
    refine ⟨x, p, ys, hv, by rw [ew], .inl ?_, hz, q _ H3 (s.trans s3) rfl⟩
    rw [← ha.txs]
    exact hp.sq
  · cases e
end
end M
namespace M
open PySem L2 G
theorem pe_neverE {X : Cx} {e : Expr} : PE X e (fun _ _ _ => False) := ⟨fun _ _ _ _ _ _ h => h.elim⟩
theorem ev_never {S T : AS} {σ : St} {H : Hp} {α : Type} {R : Rl α} : Ev S T (fun _ _ _ => False) σ H R none := fun x e => by cases e
end M

namespace G
open PySem L2 M

def top (i : Nat) : Stmt := PySem.Challenge.pw_gromatic_k15_scales_and_drawn_pairs.main.body.getD i (.Pass ⟨0, 0, 0, 0⟩)
abbrev s_is_within : Stmt := top 5
abbrev n_is_within : List Str := ["number", "low", "high"]
abbrev p_is_within : List Str := ["number", "low", "high"]
theorem sc_is_within : FnScope n_is_within p_is_within (defScope s_is_within) := ⟨rfl, rfl, rfl, by decide +kernel, rfl, by decide +kernel, by decide +kernel⟩
abbrev s_greatest_common : Stmt := top 7
abbrev n_greatest_common : List Str := ["one", "other"]
abbrev p_greatest_common : List Str := ["one", "other"]
theorem sc_greatest_common : FnScope n_greatest_common p_greatest_common (defScope s_greatest_common) := ⟨rfl, rfl, rfl, by decide +kernel, rfl, by decide +kernel, by decide +kernel⟩
abbrev s_ratio : Stmt := top 8
abbrev n_ratio : List Str := ["over", "under", "common"]
abbrev p_ratio : List Str := ["over", "under"]
theorem sc_ratio : FnScope n_ratio p_ratio (defScope s_ratio) := ⟨rfl, rfl, rfl, by decide +kernel, rfl, by decide +kernel, by decide +kernel⟩
abbrev s_plus : Stmt := top 9
abbrev n_plus : List Str := ["one", "other"]
abbrev p_plus : List Str := ["one", "other"]
theorem sc_plus : FnScope n_plus p_plus (defScope s_plus) := ⟨rfl, rfl, rfl, by decide +kernel, rfl, by decide +kernel, by decide +kernel⟩
abbrev s_divided : Stmt := top 10
abbrev n_divided : List Str := ["one", "other"]
abbrev p_divided : List Str := ["one", "other"]
theorem sc_divided : FnScope n_divided p_divided (defScope s_divided) := ⟨rfl, rfl, rfl, by decide +kernel, rfl, by decide +kernel, by decide +kernel⟩
abbrev s_floor : Stmt := top 11
abbrev n_floor : List Str := ["one"]
abbrev p_floor : List Str := ["one"]
theorem sc_floor : FnScope n_floor p_floor (defScope s_floor) := ⟨rfl, rfl, rfl, by decide +kernel, rfl, by decide +kernel, by decide +kernel⟩
abbrev s_nearest : Stmt := top 12
abbrev n_nearest : List Str := ["one"]
abbrev p_nearest : List Str := ["one"]
theorem sc_nearest : FnScope n_nearest p_nearest (defScope s_nearest) := ⟨rfl, rfl, rfl, by decide +kernel, rfl, by decide +kernel, by decide +kernel⟩
abbrev s_check_part : Stmt := top 15
abbrev n_check_part : List Str := ["part", "number", "low", "high"]
abbrev p_check_part : List Str := ["part", "number", "low", "high"]
theorem sc_check_part : FnScope n_check_part p_check_part (defScope s_check_part) := ⟨rfl, rfl, rfl, by decide +kernel, rfl, by decide +kernel, by decide +kernel⟩
abbrev s_Scale_slack : Stmt := inClass (top 16) 1
abbrev n_Scale_slack : List Str := ["self"]
abbrev p_Scale_slack : List Str := ["self"]
theorem sc_Scale_slack : FnScope n_Scale_slack p_Scale_slack (defScope s_Scale_slack) := ⟨rfl, rfl, rfl, by decide +kernel, rfl, by decide +kernel, by decide +kernel⟩
abbrev s_Scale___eq__ : Stmt := inClass (top 16) 2
abbrev n_Scale___eq__ : List Str := ["self", "other"]
abbrev p_Scale___eq__ : List Str := ["self", "other"]
theorem sc_Scale___eq__ : FnScope n_Scale___eq__ p_Scale___eq__ (defScope s_Scale___eq__) := ⟨rfl, rfl, rfl, by decide +kernel, rfl, by decide +kernel, by decide +kernel⟩
abbrev s_Scale___str__ : Stmt := inClass (top 16) 3
abbrev n_Scale___str__ : List Str := ["self"]
abbrev p_Scale___str__ : List Str := ["self"]
theorem sc_Scale___str__ : FnScope n_Scale___str__ p_Scale___str__ (defScope s_Scale___str__) := ⟨rfl, rfl, rfl, by decide +kernel, rfl, by decide +kernel, by decide +kernel⟩
abbrev s_Scale___repr__ : Stmt := inClass (top 16) 4
abbrev n_Scale___repr__ : List Str := ["self"]
abbrev p_Scale___repr__ : List Str := ["self"]
theorem sc_Scale___repr__ : FnScope n_Scale___repr__ p_Scale___repr__ (defScope s_Scale___repr__) := ⟨rfl, rfl, rfl, by decide +kernel, rfl, by decide +kernel, by decide +kernel⟩
abbrev s_drawn : Stmt := top 17
abbrev n_drawn : List Str := ["spot", "step"]
abbrev p_drawn : List Str := ["spot", "step"]
theorem sc_drawn : FnScope n_drawn p_drawn (defScope s_drawn) := ⟨rfl, rfl, rfl, by decide +kernel, rfl, by decide +kernel, by decide +kernel⟩
abbrev s_law_bag : Stmt := top 19
abbrev n_law_bag : List Str := ["_law_script"]
abbrev p_law_bag : List Str := ["_law_script"]
theorem sc_law_bag : FnScope n_law_bag p_law_bag (defScope s_law_bag) := ⟨rfl, rfl, rfl, by decide +kernel, rfl, by decide +kernel, by decide +kernel⟩
abbrev s_law_draw : Stmt := top 20
abbrev n_law_draw : List Str := ["_law_bag_here", "_law_many", "_law_cells", "_law_slot", "_law_cell", "_law_seed"]
abbrev p_law_draw : List Str := ["_law_bag_here", "_law_many"]
theorem sc_law_draw : FnScope n_law_draw p_law_draw (defScope s_law_draw) := ⟨rfl, rfl, rfl, by decide +kernel, rfl, by decide +kernel, by decide +kernel⟩
abbrev s_law_whole : Stmt := top 21
abbrev n_law_whole : List Str := ["_law_found"]
abbrev p_law_whole : List Str := ["_law_found"]
theorem sc_law_whole : FnScope n_law_whole p_law_whole (defScope s_law_whole) := ⟨rfl, rfl, rfl, by decide +kernel, rfl, by decide +kernel, by decide +kernel⟩
abbrev s_law_same : Stmt := top 22
abbrev n_law_same : List Str := ["_law_found", "_law_due_here", "_law_name", "_law_k"]
abbrev p_law_same : List Str := ["_law_found", "_law_due_here"]
theorem sc_law_same : FnScope n_law_same p_law_same (defScope s_law_same) := ⟨rfl, rfl, rfl, by decide +kernel, rfl, by decide +kernel, by decide +kernel⟩
abbrev s_law_any : Stmt := top 23
abbrev n_law_any : List Str := ["_law_bag_here", "_law_some"]
abbrev p_law_any : List Str := ["_law_bag_here", "_law_some"]
theorem sc_law_any : FnScope n_law_any p_law_any (defScope s_law_any) := ⟨rfl, rfl, rfl, by decide +kernel, rfl, by decide +kernel, by decide +kernel⟩
abbrev s_law_big : Stmt := top 24
abbrev n_law_big : List Str := ["_law_bag_here", "_law_kind", "_law_found"]
abbrev p_law_big : List Str := ["_law_bag_here"]
theorem sc_law_big : FnScope n_law_big p_law_big (defScope s_law_big) := ⟨rfl, rfl, rfl, by decide +kernel, rfl, by decide +kernel, by decide +kernel⟩
abbrev s_law_rat : Stmt := top 25
abbrev n_law_rat : List Str := ["_law_over", "_law_under", "_law_one_here", "_law_two"]
abbrev p_law_rat : List Str := ["_law_over", "_law_under"]
theorem sc_law_rat : FnScope n_law_rat p_law_rat (defScope s_law_rat) := ⟨rfl, rfl, rfl, by decide +kernel, rfl, by decide +kernel, by decide +kernel⟩
abbrev s_law_ratio : Stmt := top 26
abbrev n_law_ratio : List Str := ["_law_bag_here", "_law_reach", "_law_low", "_law_room"]
abbrev p_law_ratio : List Str := ["_law_bag_here", "_law_reach"]
theorem sc_law_ratio : FnScope n_law_ratio p_law_ratio (defScope s_law_ratio) := ⟨rfl, rfl, rfl, by decide +kernel, rfl, by decide +kernel, by decide +kernel⟩
abbrev s_law_pair : Stmt := top 27
abbrev n_law_pair : List Str := ["_law_spot", "_law_unit", "_law_found", "_law_one_here"]
abbrev p_law_pair : List Str := ["_law_spot", "_law_unit"]
theorem sc_law_pair : FnScope n_law_pair p_law_pair (defScope s_law_pair) := ⟨rfl, rfl, rfl, by decide +kernel, rfl, by decide +kernel, by decide +kernel⟩
abbrev s_law_told : Stmt := top 28
abbrev n_law_told : List Str := ["_law_parts", "_law_door", "_law_told_here", "e"]
abbrev p_law_told : List Str := ["_law_parts", "_law_door"]
theorem sc_law_told : FnScope n_law_told p_law_told (defScope s_law_told) := ⟨rfl, rfl, rfl, by decide +kernel, rfl, by decide +kernel, by decide +kernel⟩
abbrev s_law_due : Stmt := top 29
abbrev n_law_due : List Str := ["_law_parts", "_law_words", "_law_lows", "_law_highs", "_law_k"]
abbrev p_law_due : List Str := ["_law_parts"]
theorem sc_law_due : FnScope n_law_due p_law_due (defScope s_law_due) := ⟨rfl, rfl, rfl, by decide +kernel, rfl, by decide +kernel, by decide +kernel⟩
abbrev s_law_one : Stmt := top 30
abbrev n_law_one : List Str := ["_law_bag_here", "_law_good", "_law_parts", "_law_bend", "_law_k", "_law_far", "_law_odd", "_law_door", "_law_due_here", "_law_made", "_law_found", "_law_text", "_law_more", "_law_two", "_law_same_here", "_law_spot", "_law_one_here"]
abbrev p_law_one : List Str := ["_law_bag_here"]
theorem sc_law_one : FnScope n_law_one p_law_one (defScope s_law_one) := ⟨rfl, rfl, rfl, by decide +kernel, rfl, by decide +kernel, by decide +kernel⟩
abbrev s_law : Stmt := top 31
abbrev n_law : List Str := ["_law_script", "_law_bag_here", "_law_good", "_law_turn"]
abbrev p_law : List Str := ["_law_script"]
theorem sc_law : FnScope n_law p_law (defScope s_law) := ⟨rfl, rfl, rfl, by decide +kernel, rfl, by decide +kernel, by decide +kernel⟩
abbrev s_Scale___init__ : Stmt := inClass (top 16) 0
abbrev n_Scale___init__ : List Str := ["self", "step", "tolerance", "letter", "side"]
abbrev p_Scale___init__ : List Str := ["self", "step", "tolerance", "letter", "side"]
theorem sc_Scale___init__ : FnScope n_Scale___init__ p_Scale___init__ (defScope s_Scale___init__) := ⟨rfl, rfl, rfl, by decide +kernel, rfl, by decide +kernel, by decide +kernel⟩
open PyProof.Rows in
section
open PySem.SupX in
def okS (v : V) : Prop := ∃ x : Str, v = .str x ∧ x.length ≤ 1000
open PySem.SupX in
/-- f"pre{x}" of a text -/
theorem tells_s {prog : Program} {w : World} {pre f qual : Str} {j : Nat} {p1 p2 p3 : Pos} {x : Str} {t : Tok} (hx : x.length ≤ 1000) (hl : (sS f).names.lookup f = some .local) (hd : (f == ("__debug__" : Str)) = false) (hz : pre.length ≤ 1000) : Tells prog w [.Constant (.str pre) j p1, .FormattedValue (.Name f p2) (-1) none p3] f qual (.str x t) := by
  intro A E s pj L a cd cc m Q hn hm hq
  have e0 : Str.empty.length = 0 := rfl
  refine wpAny_JoinedStr ?_
  show wpAny _ _ _ _ _ _
  refine Calls.Constant_str ⟨pre, _, rfl, ?_, ?_⟩
  · simp only [Str.length_append, sizeLine_eq, e0]; omega
  refine wpAny_FormattedValue_plain (wpAny_Name (wpAny_loadName_local rfl hl hn hm ?_) hd)
  have fin : ∀ (t' : Tok) (tk : Nat), (Str.empty ++ pre ++ x).length ≤ sizeLine := fun _ _ => by simp only [Str.length_append, sizeLine_eq, e0]; omega
  refine wpAny_formatField_str ?_ ?_ (by rw [sizeLine_eq]; omega)
  · exact ⟨x, _, rfl, fin t 0, fin t 0, hq _ _ _⟩
  · exact ⟨x, _, rfl, fin t 0, fin t 0, hq _ _ _⟩
/-- an own error class with one field, its __init__ by super() -/
def SupS (P : Program) (K : PySem.W.Frag) (mg : Str → Option Value) (n f : Str) (C : Addr) : Prop :=
  ∃ (B newId i : String) (bmB : List Value) (fI : Addr) (qual : Str) (params : Arguments) (ws : List Expr), PySem.SupX.SupTxt P K mg B newId i bmB C fI f qual params ws ∧ SupC K mg n C ∧ XfC K C ∧ PySem.W.findIn K (.ref C) f = some none ∧ ∀ w v u, okS v → RelV v u → PySem.SupX.Tells P w ws f qual u
def SupSL (P : Program) (K : PySem.W.Frag) (n f : Str) (C : Addr) : Prop := ∀ mg : Str → Option Value, mg n = some (.ref C) → mg "super" = none → SupS P K mg n f C
theorem pmk_S {X : Cx} {C : Addr} {n f : Str} {a : Expr} {ta : TA} {p pos : Pos} {k : Nat} (T : SupS X.prog X.K X.mg n f C) (hr : Room k X.A) (ha : PA X [a] ta) (hg : Gl X n)
    (hdb : (n == ("__debug__" : Str)) = false := by decide) (he : starEach (a :: []) X.env = (false, eval a X.env) :: starEach [] X.env := by rfl) (hpl : (backTo pos (starEach [] X.env)).any (·.1) = false := by rfl) :
    PMk X (.Call (.Name n p) [a] [] pos) (tMkSup C f okS ta) := by
  obtain ⟨B, newId, i, bmB, fI, qual, params, ws, T, S, xf, nf, hT⟩ := T
  exact pmk_sup T S (fun v u => hT X.w v u) hr ha hg hdb he hpl
theorem ps_raiseS {X : Cx} {C : Addr} {n f : Str} {a : Expr} {ta : TA} {W : WX} {p pos pos2 : Pos} {k : Nat} (hc : X.calm = true) (T : SupS X.prog X.K X.mg n f C) (hr : Room k X.A) (tk : Takes X W) (ha : PA X [a] ta) (hg : Gl X n)
    (hdb : (n == ("__debug__" : Str)) = false := by decide) (he : starEach (a :: []) X.env = (false, eval a X.env) :: starEach [] X.env := by rfl) (hpl : (backTo pos (starEach [] X.env)).any (·.1) = false := by rfl) :
    PS X (.Raise (some (.Call (.Name n p) [a] [] pos)) none pos2) (tRaiseSup C f okS W ta) := ps_raise hc tk (pmk_S T hr ha hg hdb he hpl)
open PySem.SupX PySem.W in
theorem supSL_mk {P : Program} {K : PySem.W.Frag} {B newId i : String} {bmB : List Value} {C fI : Addr} {n f qual : Str} {params : Arguments} {pre : Str} {j : Nat} {w1 w2 w3 : Pos}
    {oc : Value} {od : Option Addr} {doc pm : Value} {an : Option Addr} {cda : Addr} {ct : Value} {osl : Array (Option Value)} {cc : Addr} {cl : Value} {cld : Option Addr} {csl : Array (Option Value)} {ccl : Value} {cdd : Option Addr} {vs : Array Value} {ccs : Array (Option Value)} {file : Str} {tf : Tok} {pj p0 p1 p2 p3 p4 q1 q2 q3 q4 : Pos}
    (FB : ExcBaseFacts B newId i bmB) (KF : KxsFacts B i) (SF : StoreFacts B bmB "object.__setattr__" "object")
    (iC : findIn K (.ref C) "__init__" = some (some (.ref fI)))
    (l : K.lookup fI = some ⟨oc, od, .func (ksFn "__init__" qual params (sB f [.Constant (.str pre) j w1, .FormattedValue (.Name f w2) (-1) none w3] pj p0 p1 p2 p3 p4 q1 q2 q3 q4) (sS f) .none .none doc pm an (.ref cda) ct cc), osl⟩)
    (cd : codeIn K (.ref cda) qual = true) (lc : K.lookup cc = some ⟨cl, cld, .cell (some (.ref C)), csl⟩) (lk : K.lookup cda = some ⟨ccl, cdd, .fields vs, ccs⟩) (hvs : vs[2]? = some (.str file tf)) (hfile : ((P.main.file : Str) == file) = true)
    (hl : (p2.endLine == p3.line) = true) (hb : ∀ (s : Shared) (x v : Value), BindsTo s (ksFn "__init__" qual params (sB f [.Constant (.str pre) j w1, .FormattedValue (.Name f w2) (-1) none w3] pj p0 p1 p2 p3 p4 q1 q2 q3 q4) (sS f) .none .none doc pm an (.ref cda) ct cc) ⟨[x, v], []⟩ [("self", x), (f, v)])
    (ini : excInitIn K C bmB newId = true) (over : excOver K C bmB = true) (sa : findIn K (.ref C) "__setattr__" = some (some (.builtin "object.__setattr__"))) (tk : takerIn K C f = some none) (hd : hasDictIn K C = true) (tC : typeIn K (.ref fI) = some (.type "function"))
    (sub : subIn K (.ref C) (.type B) = some true) (mro : mroIn K C (.ref C) = some true) (sup : ks_superIn K C C "__init__" = some (some (.builtin i))) (opq : nsIn K cStatics "thirdparty.any" = some none) (top : (P.main.scope.names.lookup ("super" : Str)).isSome = false)
    (hd1 : (params.posonlyargs ++ params.args).head?.map (·.arg) = some "self") (nn : (f != "self" && f != "__class__" && f != "super" && f != "__debug__") = true) (lf : (sS f).names.lookup f = some .local) (hz : pre.length ≤ 1000)
    (kC : keepIn K (.ref C) = true) (exC : subIn K (.ref C) (.type "BaseException") = some true) (tyC : typeIn K (.ref C) = some (.type "type")) (xf : XfC K C) (nf : findIn K (.ref C) f = some none) : SupSL P K n f C := by
  intro mg gC nos
  simp only [Bool.and_eq_true, bne_iff_ne, ne_eq] at nn
  obtain ⟨⟨⟨n1, n2⟩, n3⟩, n4⟩ := nn
  have dbg : (f == ("__debug__" : Str)) = false := by simpa using n4
  exact ⟨B, newId, i, bmB, fI, qual, params, _, ⟨FB, KF, SF, ini, over, sa, tk, hd, iC, tC, sub, mro, sup, opq, nos, top, hd1, dbg, n1, n2, n3,
    ⟨oc, od, doc, pm, an, cda, ct, osl, cc, cl, cld, csl, ccl, cdd, vs, ccs, file, tf, pj, p0, p1, p2, p3, p4, q1, q2, q3, q4, l, cd, lc, lk, hvs, hfile, hl, hb⟩⟩, ⟨gC, kC, exC, tyC⟩, xf, nf,
    fun w v u hv r => (by obtain ⟨x, rfl, hx⟩ := hv; obtain ⟨t, rfl⟩ := r; exact tells_s hx lf dbg hz)⟩

end
structure Bt (mg : Str → Option Value) : Prop where
  len_ : mg "len" = none
  list_ : mg "list" = none
  abs_ : mg "abs" = none
  isinstance_ : mg "isinstance" = none
  int_ : mg "int" = none
  bool_ : mg "bool" = none
  str_ : mg "str" = none
  dict_ : mg "dict" = none
  tuple_ : mg "tuple" = none
  all_ : mg "all" = none
  range_ : mg "range" = none
  sorted_ : mg "sorted" = none
  min_ : mg "min" = none
  max_ : mg "max" = none
  any_ : mg "any" = none
  repr_ : mg "repr" = none
  super_ : mg "super" = none
structure At (K : PySem.W.Frag) (mg : Str → Option Value) (name : String) (st : Stmt) (ps : List Str) (f : Addr) (fd : FuncData) : Prop where
  F : Fun K (Str.ofString name) (Str.ofString name) st f fd
  b : Binds K fd ps []
  m : mg (Str.ofString name) = some (.ref f)
structure AtM (K : PySem.W.Frag) (C : Addr) (name qual : String) (st : Stmt) (ps : List Str) (f : Addr) (fd : FuncData) : Prop where
  F : Fun K (Str.ofString name) (Str.ofString qual) st f fd
  b : Binds K fd ps []
  me : Meth K C (Str.ofString name) f
structure NoR (K : PySem.W.Frag) (mg : Str → Option Value) (C : Addr) : Prop where
  g : mg "NoRatio" = some (.ref C)
  x : PySem.W.excIn K C [.type "ZeroDivisionError", .type "ArithmeticError", .type "Exception", .type "BaseException", .type "object"] "ZeroDivisionError.__new__" = true
  k : PySem.W.keepIn K (.ref C) = true
  b : PySem.W.subIn K (.ref C) (.type "BaseException") = some true
  t : PySem.W.typeIn K (.ref C) = some (.type "type")
  te : PySem.W.exmOne K (.ref C) (.ref C) = some true
/-- how Scale's __init__ takes what it is given: all; side, letter; step, letter, tolerance; the step alone -/
def g0 {α : Type} (vs zs : List α) : List α := vs ++ zs
def g1 {α : Type} : List α → List α → List α → List α
  | [a, b], [t], [s, l] => [a, b, t, l, s]
  | _, _, _ => []
def g2 {α : Type} : List α → List α → List α → List α
  | [a], [s], [b, l, t] => [a, b, t, l, s]
  | _, _, _ => []
def g3 {α : Type} : List α → List α → List α → List α
  | vs, ms, _ => vs ++ ms
structure InitAt (K : PySem.W.Frag) (f : Addr) (fd : FuncData) : Prop where
  F : Fun K (Str.ofString "__init__") (Str.ofString "Scale.__init__") s_Scale___init__ f fd
  k0 : ∃ g, KBn K fd p_Scale___init__ 2 ["tolerance", "letter", "side"] g g0
  k1 : ∃ g, KBn K fd p_Scale___init__ 2 ["side", "letter"] g (fun vs zs => g1 vs [.int 0] zs)
  k2 : ∃ g, KBn K fd p_Scale___init__ 1 ["step", "letter", "tolerance"] g (fun vs zs => g2 vs [.int 16] zs)
  k3 : ∃ g, KBn K fd p_Scale___init__ 2 [] g (fun vs zs => g3 vs [.int 0, .int 1, .int 16] zs)
structure Env (P : Program) (K : PySem.W.Frag) (mg : Str → Option Value) where
  f_is_within : Addr
  d_is_within : FuncData
  f_greatest_common : Addr
  d_greatest_common : FuncData
  f_ratio : Addr
  d_ratio : FuncData
  f_plus : Addr
  d_plus : FuncData
  f_divided : Addr
  d_divided : FuncData
  f_floor : Addr
  d_floor : FuncData
  f_nearest : Addr
  d_nearest : FuncData
  f_check_part : Addr
  d_check_part : FuncData
  f_Scale_slack : Addr
  d_Scale_slack : FuncData
  f_Scale___eq__ : Addr
  d_Scale___eq__ : FuncData
  f_Scale___str__ : Addr
  d_Scale___str__ : FuncData
  f_Scale___repr__ : Addr
  d_Scale___repr__ : FuncData
  f_drawn : Addr
  d_drawn : FuncData
  f_law_bag : Addr
  d_law_bag : FuncData
  f_law_draw : Addr
  d_law_draw : FuncData
  f_law_whole : Addr
  d_law_whole : FuncData
  f_law_same : Addr
  d_law_same : FuncData
  f_law_any : Addr
  d_law_any : FuncData
  f_law_big : Addr
  d_law_big : FuncData
  f_law_rat : Addr
  d_law_rat : FuncData
  f_law_ratio : Addr
  d_law_ratio : FuncData
  f_law_pair : Addr
  d_law_pair : FuncData
  f_law_told : Addr
  d_law_told : FuncData
  f_law_due : Addr
  d_law_due : FuncData
  f_law_one : Addr
  d_law_one : FuncData
  f_law : Addr
  d_law : FuncData
  C_NoRatio : Addr
  C_BadScale : Addr
  C_Scale : Addr
  f_Scale___init__ : Addr
  A_is_within : At K mg "is_within" s_is_within p_is_within f_is_within d_is_within
  A_greatest_common : At K mg "greatest_common" s_greatest_common p_greatest_common f_greatest_common d_greatest_common
  A_ratio : At K mg "ratio" s_ratio p_ratio f_ratio d_ratio
  A_plus : At K mg "plus" s_plus p_plus f_plus d_plus
  A_divided : At K mg "divided" s_divided p_divided f_divided d_divided
  A_floor : At K mg "floor" s_floor p_floor f_floor d_floor
  A_nearest : At K mg "nearest" s_nearest p_nearest f_nearest d_nearest
  A_check_part : At K mg "check_part" s_check_part p_check_part f_check_part d_check_part
  A_Scale_slack : AtM K C_Scale "slack" "Scale.slack" s_Scale_slack p_Scale_slack f_Scale_slack d_Scale_slack
  A_Scale___eq__ : AtM K C_Scale "__eq__" "Scale.__eq__" s_Scale___eq__ p_Scale___eq__ f_Scale___eq__ d_Scale___eq__
  A_Scale___str__ : AtM K C_Scale "__str__" "Scale.__str__" s_Scale___str__ p_Scale___str__ f_Scale___str__ d_Scale___str__
  A_Scale___repr__ : AtM K C_Scale "__repr__" "Scale.__repr__" s_Scale___repr__ p_Scale___repr__ f_Scale___repr__ d_Scale___repr__
  A_drawn : At K mg "drawn" s_drawn p_drawn f_drawn d_drawn
  A_law_bag : At K mg "_law_bag" s_law_bag p_law_bag f_law_bag d_law_bag
  A_law_draw : At K mg "_law_draw" s_law_draw p_law_draw f_law_draw d_law_draw
  A_law_whole : At K mg "_law_whole" s_law_whole p_law_whole f_law_whole d_law_whole
  A_law_same : At K mg "_law_same" s_law_same p_law_same f_law_same d_law_same
  A_law_any : At K mg "_law_any" s_law_any p_law_any f_law_any d_law_any
  A_law_big : At K mg "_law_big" s_law_big p_law_big f_law_big d_law_big
  A_law_rat : At K mg "_law_rat" s_law_rat p_law_rat f_law_rat d_law_rat
  A_law_ratio : At K mg "_law_ratio" s_law_ratio p_law_ratio f_law_ratio d_law_ratio
  A_law_pair : At K mg "_law_pair" s_law_pair p_law_pair f_law_pair d_law_pair
  A_law_told : At K mg "_law_told" s_law_told p_law_told f_law_told d_law_told
  A_law_due : At K mg "_law_due" s_law_due p_law_due f_law_due d_law_due
  A_law_one : At K mg "_law_one" s_law_one p_law_one f_law_one d_law_one
  A_law : At K mg "law" s_law p_law f_law d_law
  B : Bt mg
  X_NoRatio : NoR K mg C_NoRatio
  X_BadScale : SupS P K mg "BadScale" "part" C_BadScale
  xm_BadScale : PySem.W.exmOne K (.ref C_BadScale) (.ref C_BadScale) = some true
  cl_Scale : Cls K C_Scale
  M_Scale : Mk K C_Scale f_Scale___init__
  g_Scale : mg "Scale" = some (.ref C_Scale)
  n_step : NoAttr K C_Scale "step"
  n_tolerance : NoAttr K C_Scale "tolerance"
  n_letter : NoAttr K C_Scale "letter"
  n_side : NoAttr K C_Scale "side"
  d_Scale___init__ : FuncData
  I_Scale : InitAt K f_Scale___init__ d_Scale___init__
  ne_Scale : PySem.W.findIn K (.ref C_Scale) "__ne__" = some (some (.builtin "object.__ne__"))
  mro_Scale : PySem.W.mroIn K C_Scale (.type "object") = some true
  nf_Scale : PySem.W.notFirst K C_Scale (.type "int") = true
  si_Scale : SlX.SIsi K C_Scale
  isS_Scale : PySem.W.kitOne K (.ref C_Scale) (.ref C_Scale) = some true
  isI_Scale : PySem.W.kitOne K (.type "int") (.ref C_Scale) = some false
  tSIDE : Tok
  c_SIDE : mg "SIDE" = some (.int 16 tSIDE)
section
variable {P : Program} {w : World} {K : PySem.W.Frag} {mg : Str → Option Value} {base : Heap}

/-! ### the greatest common number -/
def spGcd : Sp := fun vs H Q _ => ∃ a b : Int, vs = [.int a, .int b] ∧ Q (.int ((Int.gcd a b : Nat) : Int)) H
theorem ok_greatest_common (ev : Env P K mg) : FnOk P w K mg base CX0 1 ev.f_greatest_common ev.d_greatest_common p_greatest_common spGcd := by
  refine ev.A_greatest_common.F.ok sc_greatest_common (fun vs H Q E h => ?_) (fun cdv A outer s H vs Q E hr h => ?_)
  · obtain ⟨a, b, rfl, _⟩ := h
    rfl
  obtain ⟨a, b, rfl, q⟩ := h
  refine ⟨_, (pss_cons (ps_while PassesOwn.never (pt_cmpR op_ne (pv 1) pe_int (nomark _))
    (pss_one (ps_par (i := 0) (j := 1) (by rfl) sc_greatest_common.nd rfl rfl (by decide) rfl rfl (pa_cons (pv 1) (pa_cons (pe_op op_modN (pv 0) (pv 1)) pa_nil)) (by rfl))))
    (pss_one (ps_ret (pe_callB call_abs (by rfl) ev.B.abs_ (by decide +kernel) (pa_cons (pv 0) pa_nil))))), ?_⟩
  refine ⟨fun m σ H' => H' = H ∧ ∃ x y : Int, σ = [some (.int x), some (.int y)] ∧ m = y.natAbs ∧ Int.gcd x y = Int.gcd a b, ⟨_, rfl, a, b, rfl, rfl, rfl⟩, ?_⟩
  rintro m σ H' ⟨rfl, x, y, rfl, rfl, e⟩
  refine ⟨_, rfl, rfl, _, rfl, ?_⟩
  refine ite2 (fun c => ?_) (fun c => ?_)
  · have hy : y ≠ 0 := ne_true c
    refine ⟨fun σ' H2 => H2 = H' ∧ σ' = [some (.int y), some (.int (x.fmod y))], ?_, ?_⟩
    · rintro σ' H2 ⟨rfl, rfl⟩
      exact ⟨_, fmod_abs_lt x hy, rfl, y, _, rfl, rfl, (gcd_fmod x y).trans e⟩
    · exact ⟨_, rfl, _, rfl, _, rfl, _, _, rfl, rfl, hy, _, _, rfl, rfl, rfl⟩
  · have hy : y = 0 := ne_false c
    subst hy
    refine ⟨_, rfl, _, rfl, ?_⟩
    rw [Int.gcd_zero_right] at e
    rw [abs_if, e]
    exact q

/-! ### ratio -/
def spRatio (C : Addr) : Sp := fun vs H Q E => ∃ o u : Int, vs = [.int o, .int u] ∧ u.natAbs < 2 ^ 9000 ∧ (u = 0 → E (.ref C) none H) ∧ (u ≠ 0 → ∀ p, H p = none → Q (.ref p) (upd H p (.tup [.int (rN o u), .int (rD o u)])))
theorem ok_ratio (ev : Env P K mg) : FnOk P w K mg base (L2.CX P w) 2 ev.f_ratio ev.d_ratio p_ratio (spRatio ev.C_NoRatio) := by
  refine ev.A_ratio.F.okX sc_ratio (fun vs H Q E h => ?_) (fun cdv A outer s H vs Q E hr h => ?_)
  · obtain ⟨o, u, rfl, _⟩ := h
    rfl
  obtain ⟨o, u, rfl, hb, q0, q1⟩ := h
  refine ⟨_, (pss_cons (ps_if (pt_cmpR op_eq (pv 1) pe_int (nomark _))
    (pss_one (ps_raise rfl (takes_of rfl rfl rfl rfl) (pmk_own PySem.F.excBase_ZeroDivisionError ev.X_NoRatio.x ev.X_NoRatio.g ev.X_NoRatio.k (raises_own ev.X_NoRatio.b ev.X_NoRatio.t) (by exact rfl)))) pss_nil) (PSs.nox (pss_cons (ps_set (i := 2) sc_ratio.nd rfl (Or.inl rfl) (pe_call (ok_greatest_common ev) (hr.mono (by decide)) (by rfl) ev.A_greatest_common.m ev.A_greatest_common.F.kp ev.A_greatest_common.b .nil pass0 (pa_cons (pv 0) (pa_cons (pv 1) pa_nil))))
    (pss_cons (ps_if (pt_cmpR op_lt (pv 1) pe_int (nomark _))
    (pss_one (ps_set (i := 2) sc_ratio.nd rfl (Or.inl rfl) (pe_un un_neg (pv 2)))) pss_nil)
    (pss_one (ps_ret (pe_tup (pa_cons (pe_op op_fdivZ (pv 0) (pv 2)) (pa_cons (pe_op op_fdivZ (pv 1) (pv 2)) pa_nil))))))))), ?_⟩
  refine ⟨_, rfl, rfl, _, rfl, ?_⟩
  refine ite2 (fun c => ?_) (fun c => ?_)
  · exact q0 (V.int.inj (of_decide_eq_true c))
  have hu0 : u ≠ 0 := fun z => c (decide_eq_true (congrArg V.int z))
  refine next_u ?_
  refine seq_asg ⟨_, rfl, _, rfl, o, u, rfl, ?_⟩
  refine seq_by (fun σ H' => H' = H ∧ σ = [some (.int o), some (.int u), some (.int (cOf o u))]) ?_ (fun k => ?_)
  rotate_left
  · refine ⟨_, rfl, _, _, rfl, rfl, _, rfl, ?_⟩
    refine ite2 (fun z => ?_) (fun z => ?_)
    · have z' : u < 0 := of_decide_eq_true z
      refine ⟨_, rfl, _, rfl, k _ _ ⟨rfl, ?_⟩⟩
      unfold cOf
      rw [if_pos z']
      all_goals rfl
    · have z' : ¬ u < 0 := fun e => z (decide_eq_true e)
      refine k _ _ ⟨rfl, ?_⟩
      unfold cOf
      rw [if_neg z']
      all_goals rfl
  rintro σ H' ⟨rfl, rfl⟩
  exact ⟨_, rfl, _, rfl, _, _, rfl, rfl, cOf_ok hu0 hb _, _, rfl, _, rfl, _, _, rfl, rfl, cOf_ok hu0 hb _, (by show 2 ≤ sizeLine; decide), fun p hp => q1 hu0 p hp⟩

/-! ### ratios, mirrored -/
def ratioP (u : Int) : Prop := u ≠ 0 ∧ u.natAbs < 2 ^ 9000
instance : DecidablePred ratioP := fun u => inferInstanceAs (Decidable (_ ∧ _))
def ratio? (o u : Int) : Option Rat := if ratioP u then some (Rat.divInt o u) else none
theorem ev_ratio {S T : AS} {σ : St} {H : Hp} {C : Addr} {E : St → XK} {ta : TA} {r : Option (Int × Int × Unit)} (h : EvA S T ta σ H (K := K) (aCons tInt (aCons tInt aNil)) r) :
    Ev S T (tCallS (spRatio C) E ta) σ H (of (K := K) tRat S) (bd r fun a => ratio? a.1 a.2.1) := by
  intro z e H1 f1 d Q q
  obtain ⟨x, ex, e⟩ := bd_some e
  unfold ratio? at e
  split at e
  · rename_i hc
    cases e
    refine h x ex H1 f1 d _ fun vs H2 s2 hv => ?_
    obtain ⟨v, _, rfl, h1, w, _, rfl, h2, rfl⟩ := hv
    cases h1
    cases h2
    refine ⟨x.1, x.2.1, rfl, hc.2, fun z => absurd z hc.1, fun _ p hp => q _ _ (s2.trans (same_new hp)) ⟨p, rfl, .inl ⟨.inl ?_, (d.same s2).not_mem hp⟩⟩⟩
    rw [upd_same, (rat_rND hc.1).1, (rat_rND hc.1).2]
  · cases e

end
end G

namespace G
open PySem L2 M
section
variable {P : Program} {w : World} {K : PySem.W.Frag} {mg : Str → Option Value} {base : Heap}

abbrev Sc : Type := Int × Int × Int × Int
def scF (x : Sc) : List (Str × V) := putF "side" (.int x.2.2.2) (putF "letter" (.int x.2.2.1) (putF "tolerance" (.int x.2.1) (putF "step" (.int x.1) [])))
theorem scF_side (x : Sc) : (scF x).lookup ("side" : Str) = some (.int x.2.2.2) := by
  unfold scF
  rw [lookup_putF, if_pos rfl]
theorem scF_letter (x : Sc) : (scF x).lookup ("letter" : Str) = some (.int x.2.2.1) := by
  unfold scF
  rw [lookup_putF, if_neg (by decide +kernel), lookup_putF, if_pos rfl]
theorem scF_tolerance (x : Sc) : (scF x).lookup ("tolerance" : Str) = some (.int x.2.1) := by
  unfold scF
  rw [lookup_putF, if_neg (by decide +kernel), lookup_putF, if_neg (by decide +kernel), lookup_putF, if_pos rfl]
theorem scF_step (x : Sc) : (scF x).lookup ("step" : Str) = some (.int x.1) := by
  unfold scF
  rw [lookup_putF, if_neg (by decide +kernel), lookup_putF, if_neg (by decide +kernel), lookup_putF, if_neg (by decide +kernel), lookup_putF, if_pos rfl]
theorem scF_no (x : Sc) {n : Str} (h : ¬ n = "side" ∧ ¬ n = "letter" ∧ ¬ n = "tolerance" ∧ ¬ n = "step") : (scF x).lookup n = none := by
  unfold scF
  rw [lookup_putF, if_neg h.1, lookup_putF, if_neg h.2.1, lookup_putF, if_neg h.2.2.1, lookup_putF, if_neg h.2.2.2]
  rfl

def m_plus (d_one : Rat) (d_other : Rat) : Option Rat :=
  (bd (bd (bd (bd (bd (some d_one) fun x => some x.num) fun x => bd (bd (some d_other) fun x => some (x.den : Int)) fun y => mul? x y) fun x => bd (bd (bd (some d_other) fun x => some x.num) fun x => bd (bd (some d_one) fun x => some (x.den : Int)) fun y => mul? x y) fun y => some (x + y)) fun x => bd (bd (bd (bd (some d_one) fun x => some (x.den : Int)) fun x => bd (bd (some d_other) fun x => some (x.den : Int)) fun y => mul? x y) fun x => bd (some ()) fun y => some (x, y)) fun y => some (x, y)) fun a => ratio? a.1 a.2.1)
abbrev sp_plus (K : PySem.W.Frag) : Sp := spF (K := K) (aCons tRat (aCons tRat aNil)) (fun S => of (K := K) tRat S) (fun a => m_plus a.1 a.2.1)
theorem ok_plus (ev : Env P K mg) : FnOk P w K mg base CX0 3 ev.f_plus ev.d_plus p_plus (sp_plus K) := by
  refine ev.A_plus.F.ok sc_plus (fun vs H Q E h => ?_) (fun cdv A outer s H0 vs Q E hr h => ?_)
  · obtain ⟨S, ⟨d_one, d_other, _⟩, y, _, ⟨v_one, _, rfl, h_one, v_other, _, rfl, h_other, rfl⟩, _⟩ := h
    rfl
  obtain ⟨S, ⟨d_one, d_other, _⟩, y, dm, ⟨v_one, _, rfl, h_one, v_other, _, rfl, h_other, rfl⟩, hm, q⟩ := h
  have ts : Sub [] S := fun a m => by simp at m
  have fr0 := Fr.refl (T := []) H0
  have sub0 : Sub S S := fun a m => m
  refine ⟨_, (pss_one (ps_ret (pe_callS (ok_ratio ev) (hr.mono (by decide)) (by rfl) ev.A_ratio.m ev.A_ratio.F.kp ev.A_ratio.b (fun σ => passAt takes0 σ) (pa_cons (pe_op op_add (pe_op op_mulW (pe_ix ix_tup (pv 0) pe_int (fun _ _ => rfl)) (pe_ix ix_tup (pv 1) pe_int (fun _ _ => rfl))) (pe_op op_mulW (pe_ix ix_tup (pv 1) pe_int (fun _ _ => rfl)) (pe_ix ix_tup (pv 0) pe_int (fun _ _ => rfl)))) (pa_cons (pe_op op_mulW (pe_ix ix_tup (pv 0) pe_int (fun _ _ => rfl)) (pe_ix ix_tup (pv 1) pe_int (fun _ _ => rfl))) pa_nil))))), ?_⟩
  dsimp only [m_plus] at hm
  have er := hm
  exact q_ret (T := []) dm (ev_ratio (ea_cons (ev_op (od_add (K := K)) (ev_op (od_mul (K := K)) (ev_ixR0 (ev_var ts h_one rfl)) (ev_ixR1 (ev_var ts h_other rfl))) (ev_op (od_mul (K := K)) (ev_ixR0 (ev_var ts h_other rfl)) (ev_ixR1 (ev_var ts h_one rfl)))) (ea_cons (ev_op (od_mul (K := K)) (ev_ixR1 (ev_var ts h_one rfl)) (ev_ixR1 (ev_var ts h_other rfl))) ea_nil))) er (fun v H1 s1 hv => q v H1 (fr0.trans (Fr.same s1)).toSame ((tRat : Ty K Rat).sub (S := S) (H := H1) sub0 hv))
def m_divided (d_one : Rat) (d_other : Rat) : Option Rat :=
  (bd (bd (bd (bd (some d_one) fun x => some x.num) fun x => bd (bd (some d_other) fun x => some (x.den : Int)) fun y => mul? x y) fun x => bd (bd (bd (bd (some d_one) fun x => some (x.den : Int)) fun x => bd (bd (some d_other) fun x => some x.num) fun y => mul? x y) fun x => bd (some ()) fun y => some (x, y)) fun y => some (x, y)) fun a => ratio? a.1 a.2.1)
abbrev sp_divided (K : PySem.W.Frag) : Sp := spF (K := K) (aCons tRat (aCons tRat aNil)) (fun S => of (K := K) tRat S) (fun a => m_divided a.1 a.2.1)
theorem ok_divided (ev : Env P K mg) : FnOk P w K mg base CX0 3 ev.f_divided ev.d_divided p_divided (sp_divided K) := by
  refine ev.A_divided.F.ok sc_divided (fun vs H Q E h => ?_) (fun cdv A outer s H0 vs Q E hr h => ?_)
  · obtain ⟨S, ⟨d_one, d_other, _⟩, y, _, ⟨v_one, _, rfl, h_one, v_other, _, rfl, h_other, rfl⟩, _⟩ := h
    rfl
  obtain ⟨S, ⟨d_one, d_other, _⟩, y, dm, ⟨v_one, _, rfl, h_one, v_other, _, rfl, h_other, rfl⟩, hm, q⟩ := h
  have ts : Sub [] S := fun a m => by simp at m
  have fr0 := Fr.refl (T := []) H0
  have sub0 : Sub S S := fun a m => m
  refine ⟨_, (pss_one (ps_ret (pe_callS (ok_ratio ev) (hr.mono (by decide)) (by rfl) ev.A_ratio.m ev.A_ratio.F.kp ev.A_ratio.b (fun σ => passAt takes0 σ) (pa_cons (pe_op op_mulW (pe_ix ix_tup (pv 0) pe_int (fun _ _ => rfl)) (pe_ix ix_tup (pv 1) pe_int (fun _ _ => rfl))) (pa_cons (pe_op op_mulW (pe_ix ix_tup (pv 0) pe_int (fun _ _ => rfl)) (pe_ix ix_tup (pv 1) pe_int (fun _ _ => rfl))) pa_nil))))), ?_⟩
  dsimp only [m_divided] at hm
  have er := hm
  exact q_ret (T := []) dm (ev_ratio (ea_cons (ev_op (od_mul (K := K)) (ev_ixR0 (ev_var ts h_one rfl)) (ev_ixR1 (ev_var ts h_other rfl))) (ea_cons (ev_op (od_mul (K := K)) (ev_ixR1 (ev_var ts h_one rfl)) (ev_ixR0 (ev_var ts h_other rfl))) ea_nil))) er (fun v H1 s1 hv => q v H1 (fr0.trans (Fr.same s1)).toSame ((tRat : Ty K Rat).sub (S := S) (H := H1) sub0 hv))
def m_floor (d_one : Rat) : Option Int :=
  (bd (bd (some d_one) fun x => some x.num) fun x => bd (bd (some d_one) fun x => some (x.den : Int)) fun y => fdiv? x y)
abbrev sp_floor (K : PySem.W.Frag) : Sp := spF (K := K) (aCons tRat aNil) (fun S => of (K := K) tInt S) (fun a => m_floor a.1)
theorem ok_floor (ev : Env P K mg) : FnOk P w K mg base CX0 1 ev.f_floor ev.d_floor p_floor (sp_floor K) := by
  refine ev.A_floor.F.ok sc_floor (fun vs H Q E h => ?_) (fun cdv A outer s H0 vs Q E hr h => ?_)
  · obtain ⟨S, ⟨d_one, _⟩, y, _, ⟨v_one, _, rfl, h_one, rfl⟩, _⟩ := h
    rfl
  obtain ⟨S, ⟨d_one, _⟩, y, dm, ⟨v_one, _, rfl, h_one, rfl⟩, hm, q⟩ := h
  have ts : Sub [] S := fun a m => by simp at m
  have fr0 := Fr.refl (T := []) H0
  have sub0 : Sub S S := fun a m => m
  refine ⟨_, (pss_one (ps_ret (pe_op op_fdivZ (pe_ix ix_tup (pv 0) pe_int (fun _ _ => rfl)) (pe_ix ix_tup (pv 0) pe_int (fun _ _ => rfl))))), ?_⟩
  dsimp only [m_floor] at hm
  have er := hm
  exact q_ret (T := []) dm (ev_op (od_fdiv (K := K)) (ev_ixR0 (ev_var ts h_one rfl)) (ev_ixR1 (ev_var ts h_one rfl))) er (fun v H1 s1 hv => q v H1 (fr0.trans (Fr.same s1)).toSame ((tInt : Ty K Int).sub (S := S) (H := H1) sub0 hv))
def m_nearest (d_one : Rat) : Option Int :=
  (bd (bd (bd (bd (some d_one) fun x => bd (bd (bd (bd (some (1 : Int)) fun x => bd (some (2 : Int)) fun y => some (x, y)) p2r) fun x => bd (some ()) fun y => some (x, y)) fun y => some (x, y)) fun a => m_plus a.1 a.2.1) fun x => bd (some ()) fun y => some (x, y)) fun a => m_floor a.1)
abbrev sp_nearest (K : PySem.W.Frag) : Sp := spF (K := K) (aCons tRat aNil) (fun S => of (K := K) tInt S) (fun a => m_nearest a.1)
theorem ok_nearest (ev : Env P K mg) : FnOk P w K mg base CX0 4 ev.f_nearest ev.d_nearest p_nearest (sp_nearest K) := by
  refine ev.A_nearest.F.ok sc_nearest (fun vs H Q E h => ?_) (fun cdv A outer s H0 vs Q E hr h => ?_)
  · obtain ⟨S, ⟨d_one, _⟩, y, _, ⟨v_one, _, rfl, h_one, rfl⟩, _⟩ := h
    rfl
  obtain ⟨S, ⟨d_one, _⟩, y, dm, ⟨v_one, _, rfl, h_one, rfl⟩, hm, q⟩ := h
  have ts : Sub [] S := fun a m => by simp at m
  have fr0 := Fr.refl (T := []) H0
  have sub0 : Sub S S := fun a m => m
  refine ⟨_, (pss_one (ps_ret (pe_call (ok_floor ev) (hr.mono (by decide)) (by rfl) ev.A_floor.m ev.A_floor.F.kp ev.A_floor.b .nil pass0 (pa_cons (pe_call (ok_plus ev) (hr.mono (by decide)) (by rfl) ev.A_plus.m ev.A_plus.F.kp ev.A_plus.b .nil pass0 (pa_cons (pv 0) (pa_cons (pe_tup (pa_cons pe_int (pa_cons pe_int pa_nil))) pa_nil))) pa_nil)))), ?_⟩
  dsimp only [m_nearest] at hm
  have er := hm
  exact q_ret (T := []) dm (ev_call (ea_cons (ev_call (ea_cons (ev_var ts h_one rfl) (ea_cons (ev_p2r (ev_tup2 (ev_int (K := K)) (ev_int (K := K)))) ea_nil))) ea_nil)) er (fun v H1 s1 hv => q v H1 (fr0.trans (Fr.same s1)).toSame ((tInt : Ty K Int).sub (S := S) (H := H1) sub0 hv))
def m_is_within (d_number : (Int ⊕ Bool)) (d_low : Int) (d_high : Int) : Option Bool :=
  (bd (bd (bd (some d_number) fun x => some x.isRight) fun x => some (!x)) fun x => if x then (bd (some d_low) fun x => bd (bd (some d_number) getL?) fun y => if decide (x ≤ y) then bd (some d_high) fun z => some (decide (y ≤ z)) else some false) else some false)
abbrev sp_is_within (K : PySem.W.Frag) : Sp := spF (K := K) (aCons (tU tInt tBool) (aCons tInt (aCons tInt aNil))) (fun S => of (K := K) tBool S) (fun a => m_is_within a.1 a.2.1 a.2.2.1)
theorem ok_is_within (ev : Env P K mg) : FnOk P w K mg base CX0 1 ev.f_is_within ev.d_is_within p_is_within (sp_is_within K) := by
  refine ev.A_is_within.F.ok sc_is_within (fun vs H Q E h => ?_) (fun cdv A outer s H0 vs Q E hr h => ?_)
  · obtain ⟨S, ⟨d_number, d_low, d_high, _⟩, y, _, ⟨v_number, _, rfl, h_number, v_low, _, rfl, h_low, v_high, _, rfl, h_high, rfl⟩, _⟩ := h
    rfl
  obtain ⟨S, ⟨d_number, d_low, d_high, _⟩, y, dm, ⟨v_number, _, rfl, h_number, v_low, _, rfl, h_low, v_high, _, rfl, h_high, rfl⟩, hm, q⟩ := h
  have ts : Sub [] S := fun a m => by simp at m
  have fr0 := Fr.refl (T := []) H0
  have sub0 : Sub S S := fun a m => m
  refine ⟨_, (pss_one (ps_ret (pe_and (pe_not (pe_callB call_isi (by rfl) ev.B.isinstance_ (by decide +kernel) (pa_cons (pv 0) (pa_cons (pe_bltn (v := .ty "bool") (by rfl) ev.B.bool_ (by decide +kernel) rfl) pa_nil)))) (pe_one (pe_chain op_le op_le (pv 1) (pv 0) (pv 2)))))), ?_⟩
  dsimp only [m_is_within] at hm
  have er := hm
  exact q_ret (T := []) dm (ev_and (ev_not (ev_isiUB (ev_var ts h_number rfl))) (ev_chain (od_le (K := K)) (od_le (K := K)) (ev_var ts h_low rfl) (ev_getL (ev_var ts h_number rfl)) (ev_var ts h_high rfl))) er (fun v H1 s1 hv => q v H1 (fr0.trans (Fr.same s1)).toSame ((tBool : Ty K Bool).sub (S := S) (H := H1) sub0 hv))
def m_drawn (d_spot : (Rat × Rat)) (d_step : Int) : Option (Int × Int) :=
  (bd (bd (bd (bd (bd (bd (some d_spot) fun x => some x.1) fun x => bd (bd (bd (bd (some d_step) fun x => bd (some (1 : Int)) fun y => some (x, y)) p2r) fun x => bd (some ()) fun y => some (x, y)) fun y => some (x, y)) fun a => m_divided a.1 a.2.1) fun x => bd (some ()) fun y => some (x, y)) fun a => m_nearest a.1) fun x => bd (bd (bd (bd (bd (bd (some d_spot) fun x => some x.2) fun x => bd (bd (bd (bd (some d_step) fun x => bd (some (1 : Int)) fun y => some (x, y)) p2r) fun x => bd (some ()) fun y => some (x, y)) fun y => some (x, y)) fun a => m_divided a.1 a.2.1) fun x => bd (some ()) fun y => some (x, y)) fun a => m_nearest a.1) fun y => some (x, y))
abbrev sp_drawn (K : PySem.W.Frag) : Sp := spF (K := K) (aCons (tT2 tRat tRat) (aCons tInt aNil)) (fun S => of (K := K) (tT2 tInt tInt) S) (fun a => m_drawn a.1 a.2.1)
theorem ok_drawn (ev : Env P K mg) : FnOk P w K mg base CX0 5 ev.f_drawn ev.d_drawn p_drawn (sp_drawn K) := by
  refine ev.A_drawn.F.ok sc_drawn (fun vs H Q E h => ?_) (fun cdv A outer s H0 vs Q E hr h => ?_)
  · obtain ⟨S, ⟨d_spot, d_step, _⟩, y, _, ⟨v_spot, _, rfl, h_spot, v_step, _, rfl, h_step, rfl⟩, _⟩ := h
    rfl
  obtain ⟨S, ⟨d_spot, d_step, _⟩, y, dm, ⟨v_spot, _, rfl, h_spot, v_step, _, rfl, h_step, rfl⟩, hm, q⟩ := h
  have ts : Sub [] S := fun a m => by simp at m
  have fr0 := Fr.refl (T := []) H0
  have sub0 : Sub S S := fun a m => m
  refine ⟨_, (pss_one (ps_ret (pe_tup (pa_cons (pe_call (ok_nearest ev) (hr.mono (by decide)) (by rfl) ev.A_nearest.m ev.A_nearest.F.kp ev.A_nearest.b .nil pass0 (pa_cons (pe_call (ok_divided ev) (hr.mono (by decide)) (by rfl) ev.A_divided.m ev.A_divided.F.kp ev.A_divided.b .nil pass0 (pa_cons (pe_ix ix_tup (pv 0) pe_int (fun _ _ => rfl)) (pa_cons (pe_tup (pa_cons (pv 1) (pa_cons pe_int pa_nil))) pa_nil))) pa_nil)) (pa_cons (pe_call (ok_nearest ev) (hr.mono (by decide)) (by rfl) ev.A_nearest.m ev.A_nearest.F.kp ev.A_nearest.b .nil pass0 (pa_cons (pe_call (ok_divided ev) (hr.mono (by decide)) (by rfl) ev.A_divided.m ev.A_divided.F.kp ev.A_divided.b .nil pass0 (pa_cons (pe_ix ix_tup (pv 0) pe_int (fun _ _ => rfl)) (pa_cons (pe_tup (pa_cons (pv 1) (pa_cons pe_int pa_nil))) pa_nil))) pa_nil)) pa_nil))))), ?_⟩
  dsimp only [m_drawn] at hm
  have er := hm
  exact q_ret (T := []) dm (ev_tup2 (ev_call (ea_cons (ev_call (ea_cons (ev_ix20 (ev_var ts h_spot rfl)) (ea_cons (ev_p2r (ev_tup2 (ev_var ts h_step rfl) (ev_int (K := K)))) ea_nil))) ea_nil)) (ev_call (ea_cons (ev_call (ea_cons (ev_ix21 (ev_var ts h_spot rfl)) (ea_cons (ev_p2r (ev_tup2 (ev_var ts h_step rfl) (ev_int (K := K)))) ea_nil))) ea_nil))) er (fun v H1 s1 hv => q v H1 (fr0.trans (Fr.same s1)).toSame (((tT2 tInt tInt) : Ty K (Int × Int)).sub (S := S) (H := H1) sub0 hv))
def m_Scale_slack (d_self : Sc) : Option Rat :=
  (bd (bd (bd (bd (bd (some d_self) fun x => some x.2.1) fun x => bd (bd (some (1 : Int)) fun x => bd (some ()) fun y => some (x, y)) fun y => some (x, y)) fun a => ratio? a.1 a.2.1) fun x => bd (bd (bd (bd (bd (some d_self) fun x => some x.1) fun x => bd (bd (some (2 : Int)) fun x => bd (some ()) fun y => some (x, y)) fun y => some (x, y)) fun a => ratio? a.1 a.2.1) fun x => bd (some ()) fun y => some (x, y)) fun y => some (x, y)) fun a => m_plus a.1 a.2.1)
abbrev sp_Scale_slack (K : PySem.W.Frag) (CS : Addr) : Sp := spF (K := K) (aCons (tIn CS scF) aNil) (fun S => of (K := K) tRat S) (fun a => m_Scale_slack a.1)
theorem ok_Scale_slack (ev : Env P K mg) : FnOk P w K mg base CX0 4 ev.f_Scale_slack ev.d_Scale_slack p_Scale_slack (sp_Scale_slack K ev.C_Scale) := by
  refine ev.A_Scale_slack.F.ok sc_Scale_slack (fun vs H Q E h => ?_) (fun cdv A outer s H0 vs Q E hr h => ?_)
  · obtain ⟨S, ⟨d_self, _⟩, y, _, ⟨v_self, _, rfl, h_self, rfl⟩, _⟩ := h
    rfl
  obtain ⟨S, ⟨d_self, _⟩, y, dm, ⟨v_self, _, rfl, h_self, rfl⟩, hm, q⟩ := h
  have ts : Sub [] S := fun a m => by simp at m
  have fr0 := Fr.refl (T := []) H0
  have sub0 : Sub S S := fun a m => m
  refine ⟨_, (pss_one (ps_ret (pe_call (ok_plus ev) (hr.mono (by decide)) (by rfl) ev.A_plus.m ev.A_plus.F.kp ev.A_plus.b .nil pass0 (pa_cons (pe_callS (ok_ratio ev) (hr.mono (by decide)) (by rfl) ev.A_ratio.m ev.A_ratio.F.kp ev.A_ratio.b (fun σ => passAt takes0 σ) (pa_cons (pe_fld (pv 0) rfl) (pa_cons pe_int pa_nil))) (pa_cons (pe_callS (ok_ratio ev) (hr.mono (by decide)) (by rfl) ev.A_ratio.m ev.A_ratio.F.kp ev.A_ratio.b (fun σ => passAt takes0 σ) (pa_cons (pe_fld (pv 0) rfl) (pa_cons pe_int pa_nil))) pa_nil))))), ?_⟩
  dsimp only [m_Scale_slack] at hm
  have er := hm
  exact q_ret (T := []) dm (ev_call (ea_cons (ev_ratio (ea_cons (ev_fld (b' := (tInt : Ty K Int)) ev.cl_Scale ev.n_tolerance (fun x => ⟨_, scF_tolerance x, fun _ _ => rfl⟩) (ev_var ts h_self rfl)) (ea_cons (ev_int (K := K)) ea_nil))) (ea_cons (ev_ratio (ea_cons (ev_fld (b' := (tInt : Ty K Int)) ev.cl_Scale ev.n_step (fun x => ⟨_, scF_step x, fun _ _ => rfl⟩) (ev_var ts h_self rfl)) (ea_cons (ev_int (K := K)) ea_nil))) ea_nil))) er (fun v H1 s1 hv => q v H1 (fr0.trans (Fr.same s1)).toSame ((tRat : Ty K Rat).sub (S := S) (H := H1) sub0 hv))
def m_Scale___eq__ (d_self : Sc) (d_other : Sc) : Option Bool :=
  (bd (bd (some d_other) fun _ => some true) fun x => if x then (bd (bd (bd (some d_self) fun x => some x.1) fun x => bd (bd (some d_other) fun x => some x.1) fun y => some (decide (x = y))) fun x => if x then (bd (bd (bd (some d_self) fun x => some x.2.1) fun x => bd (bd (some d_other) fun x => some x.2.1) fun y => some (decide (x = y))) fun x => if x then (bd (bd (bd (some d_self) fun x => some x.2.2.1) fun x => bd (bd (some d_other) fun x => some x.2.2.1) fun y => some (decide (x = y))) fun x => if x then (bd (bd (some d_self) fun x => some x.2.2.2) fun x => bd (bd (some d_other) fun x => some x.2.2.2) fun y => some (decide (x = y))) else some false) else some false) else some false) else some false)
abbrev sp_Scale___eq__ (K : PySem.W.Frag) (CS : Addr) : Sp := spF (K := K) (aCons (tIn CS scF) (aCons (tIn CS scF) aNil)) (fun S => of (K := K) tBool S) (fun a => m_Scale___eq__ a.1 a.2.1)
theorem ok_Scale___eq__ (ev : Env P K mg) : FnOk P w K mg base CX0 1 ev.f_Scale___eq__ ev.d_Scale___eq__ p_Scale___eq__ (sp_Scale___eq__ K ev.C_Scale) := by
  refine ev.A_Scale___eq__.F.ok sc_Scale___eq__ (fun vs H Q E h => ?_) (fun cdv A outer s H0 vs Q E hr h => ?_)
  · obtain ⟨S, ⟨d_self, d_other, _⟩, y, _, ⟨v_self, _, rfl, h_self, v_other, _, rfl, h_other, rfl⟩, _⟩ := h
    rfl
  obtain ⟨S, ⟨d_self, d_other, _⟩, y, dm, ⟨v_self, _, rfl, h_self, v_other, _, rfl, h_other, rfl⟩, hm, q⟩ := h
  have ts : Sub [] S := fun a m => by simp at m
  have fr0 := Fr.refl (T := []) H0
  have sub0 : Sub S S := fun a m => m
  refine ⟨_, (pss_one (ps_ret (pe_and (pe_callB call_isi (by rfl) ev.B.isinstance_ (by decide +kernel) (pa_cons (pv 1) (pa_cons (pe_glob (v := .ref ev.C_Scale) (by rfl) ev.g_Scale rfl) pa_nil))) (pe_and (pe_cmpR op_eq (pe_fld (pv 0) rfl) (pe_fld (pv 1) rfl) (nomark _)) (pe_and (pe_cmpR op_eq (pe_fld (pv 0) rfl) (pe_fld (pv 1) rfl) (nomark _)) (pe_and (pe_cmpR op_eq (pe_fld (pv 0) rfl) (pe_fld (pv 1) rfl) (nomark _)) (pe_one (pe_cmpR op_eq (pe_fld (pv 0) rfl) (pe_fld (pv 1) rfl) (nomark _))))))))), ?_⟩
  dsimp only [m_Scale___eq__] at hm
  have er := hm
  exact q_ret (T := []) dm (ev_and (ev_isiC ev.isS_Scale (fun H p dx fs e => .base (.ins e ev.cl_Scale ev.si_Scale.ca ev.si_Scale.cn ev.si_Scale.ct ev.si_Scale.cm)) (ev_var ts h_other rfl) (.own _)) (ev_and (ev_op (od_eqI (K := K)) (ev_fld (b' := (tInt : Ty K Int)) ev.cl_Scale ev.n_step (fun x => ⟨_, scF_step x, fun _ _ => rfl⟩) (ev_var ts h_self rfl)) (ev_fld (b' := (tInt : Ty K Int)) ev.cl_Scale ev.n_step (fun x => ⟨_, scF_step x, fun _ _ => rfl⟩) (ev_var ts h_other rfl))) (ev_and (ev_op (od_eqI (K := K)) (ev_fld (b' := (tInt : Ty K Int)) ev.cl_Scale ev.n_tolerance (fun x => ⟨_, scF_tolerance x, fun _ _ => rfl⟩) (ev_var ts h_self rfl)) (ev_fld (b' := (tInt : Ty K Int)) ev.cl_Scale ev.n_tolerance (fun x => ⟨_, scF_tolerance x, fun _ _ => rfl⟩) (ev_var ts h_other rfl))) (ev_and (ev_op (od_eqI (K := K)) (ev_fld (b' := (tInt : Ty K Int)) ev.cl_Scale ev.n_letter (fun x => ⟨_, scF_letter x, fun _ _ => rfl⟩) (ev_var ts h_self rfl)) (ev_fld (b' := (tInt : Ty K Int)) ev.cl_Scale ev.n_letter (fun x => ⟨_, scF_letter x, fun _ _ => rfl⟩) (ev_var ts h_other rfl))) (ev_op (od_eqI (K := K)) (ev_fld (b' := (tInt : Ty K Int)) ev.cl_Scale ev.n_side (fun x => ⟨_, scF_side x, fun _ _ => rfl⟩) (ev_var ts h_self rfl)) (ev_fld (b' := (tInt : Ty K Int)) ev.cl_Scale ev.n_side (fun x => ⟨_, scF_side x, fun _ _ => rfl⟩) (ev_var ts h_other rfl))))))) er (fun v H1 s1 hv => q v H1 (fr0.trans (Fr.same s1)).toSame ((tBool : Ty K Bool).sub (S := S) (H := H1) sub0 hv))
def m_Scale___str__ (d_self : Sc) : Option Str :=
  ((fun acc => bd (bd (bd (some d_self) fun x => some x.1) shw?) fun y => bd (catX? acc y) (fun acc => bd (some (" " : Str)) fun y => bd (catX? acc y) (fun acc => bd (bd (bd (some d_self) fun x => some x.2.1) shw?) fun y => bd (catX? acc y) (fun acc => bd (some (" " : Str)) fun y => bd (catX? acc y) (fun acc => bd (bd (bd (some d_self) fun x => some x.2.2.1) shw?) fun y => bd (catX? acc y) (fun acc => bd (some (" " : Str)) fun y => bd (catX? acc y) (fun acc => bd (bd (bd (some d_self) fun x => some x.2.2.2) shw?) fun y => bd (catX? acc y) some))))))) Str.empty)
abbrev sp_Scale___str__ (K : PySem.W.Frag) (CS : Addr) : Sp := spF (K := K) (aCons (tIn CS scF) aNil) (fun S => of (K := K) tTx S) (fun a => m_Scale___str__ a.1)
theorem ok_Scale___str__ (ev : Env P K mg) : FnOk P w K mg base CX0 1 ev.f_Scale___str__ ev.d_Scale___str__ p_Scale___str__ (sp_Scale___str__ K ev.C_Scale) := by
  refine ev.A_Scale___str__.F.ok sc_Scale___str__ (fun vs H Q E h => ?_) (fun cdv A outer s H0 vs Q E hr h => ?_)
  · obtain ⟨S, ⟨d_self, _⟩, y, _, ⟨v_self, _, rfl, h_self, rfl⟩, _⟩ := h
    rfl
  obtain ⟨S, ⟨d_self, _⟩, y, dm, ⟨v_self, _, rfl, h_self, rfl⟩, hm, q⟩ := h
  have ts : Sub [] S := fun a m => by simp at m
  have fr0 := Fr.refl (T := []) H0
  have sub0 : Sub S S := fun a m => m
  refine ⟨_, (pss_one (ps_ret (pe_joined (PJ.cons (pe_fmt (pe_fld (pv 0) rfl)) (PJ.cons pe_str (PJ.cons (pe_fmt (pe_fld (pv 0) rfl)) (PJ.cons pe_str (PJ.cons (pe_fmt (pe_fld (pv 0) rfl)) (PJ.cons pe_str (PJ.cons (pe_fmt (pe_fld (pv 0) rfl)) PJ.nil)))))))))), ?_⟩
  dsimp only [m_Scale___str__] at hm
  have er := hm
  exact q_ret (T := []) dm (ev_joined (K := K) (ej_cons (ev_fmtI (ev_fld (b' := (tInt : Ty K Int)) ev.cl_Scale ev.n_step (fun x => ⟨_, scF_step x, fun _ _ => rfl⟩) (ev_var ts h_self rfl))) (ej_cons (ev_tx (K := K)) (ej_cons (ev_fmtI (ev_fld (b' := (tInt : Ty K Int)) ev.cl_Scale ev.n_tolerance (fun x => ⟨_, scF_tolerance x, fun _ _ => rfl⟩) (ev_var ts h_self rfl))) (ej_cons (ev_tx (K := K)) (ej_cons (ev_fmtI (ev_fld (b' := (tInt : Ty K Int)) ev.cl_Scale ev.n_letter (fun x => ⟨_, scF_letter x, fun _ _ => rfl⟩) (ev_var ts h_self rfl))) (ej_cons (ev_tx (K := K)) (ej_cons (ev_fmtI (ev_fld (b' := (tInt : Ty K Int)) ev.cl_Scale ev.n_side (fun x => ⟨_, scF_side x, fun _ _ => rfl⟩) (ev_var ts h_self rfl))) ej_nil)))))))) er (fun v H1 s1 hv => q v H1 (fr0.trans (Fr.same s1)).toSame ((tTx : Ty K Str).sub (S := S) (H := H1) sub0 hv))
def m_Scale___repr__ (d_self : Sc) : Option Str :=
  ((fun acc => bd (some ("Scale(" : Str)) fun y => bd (catX? acc y) (fun acc => bd (bd (bd (some d_self) fun x => some x.1) shw?) fun y => bd (catX? acc y) (fun acc => bd (some (")" : Str)) fun y => bd (catX? acc y) some))) Str.empty)
abbrev sp_Scale___repr__ (K : PySem.W.Frag) (CS : Addr) : Sp := spF (K := K) (aCons (tIn CS scF) aNil) (fun S => of (K := K) tTx S) (fun a => m_Scale___repr__ a.1)
theorem ok_Scale___repr__ (ev : Env P K mg) : FnOk P w K mg base CX0 1 ev.f_Scale___repr__ ev.d_Scale___repr__ p_Scale___repr__ (sp_Scale___repr__ K ev.C_Scale) := by
  refine ev.A_Scale___repr__.F.ok sc_Scale___repr__ (fun vs H Q E h => ?_) (fun cdv A outer s H0 vs Q E hr h => ?_)
  · obtain ⟨S, ⟨d_self, _⟩, y, _, ⟨v_self, _, rfl, h_self, rfl⟩, _⟩ := h
    rfl
  obtain ⟨S, ⟨d_self, _⟩, y, dm, ⟨v_self, _, rfl, h_self, rfl⟩, hm, q⟩ := h
  have ts : Sub [] S := fun a m => by simp at m
  have fr0 := Fr.refl (T := []) H0
  have sub0 : Sub S S := fun a m => m
  refine ⟨_, (pss_one (ps_ret (pe_joined (PJ.cons pe_str (PJ.cons (pe_fmt (pe_fld (pv 0) rfl)) (PJ.cons pe_str PJ.nil)))))), ?_⟩
  dsimp only [m_Scale___repr__] at hm
  have er := hm
  exact q_ret (T := []) dm (ev_joined (K := K) (ej_cons (ev_tx (K := K)) (ej_cons (ev_fmtI (ev_fld (b' := (tInt : Ty K Int)) ev.cl_Scale ev.n_step (fun x => ⟨_, scF_step x, fun _ _ => rfl⟩) (ev_var ts h_self rfl))) (ej_cons (ev_tx (K := K)) ej_nil)))) er (fun v H1 s1 hv => q v H1 (fr0.trans (Fr.same s1)).toSame ((tTx : Ty K Str).sub (S := S) (H := H1) sub0 hv))
def m_Scale___eq__i (d_self : Sc) (d_other : Int) : Option Bool :=
  (bd (bd (some d_other) fun _ => some false) fun x => if x then (bd (none : Option Bool) fun x => if x then (bd (none : Option Bool) fun x => if x then (bd (none : Option Bool) fun x => if x then (none : Option Bool) else some false) else some false) else some false) else some false)
abbrev sp_Scale___eq__i (K : PySem.W.Frag) (CS : Addr) : Sp := spF (K := K) (aCons (tIn CS scF) (aCons tInt aNil)) (fun S => of (K := K) tBool S) (fun a => m_Scale___eq__i a.1 a.2.1)
theorem ok_Scale___eq__i (ev : Env P K mg) : FnOk P w K mg base CX0 1 ev.f_Scale___eq__ ev.d_Scale___eq__ p_Scale___eq__ (sp_Scale___eq__i K ev.C_Scale) := by
  refine ev.A_Scale___eq__.F.ok sc_Scale___eq__ (fun vs H Q E h => ?_) (fun cdv A outer s H0 vs Q E hr h => ?_)
  · obtain ⟨S, ⟨d_self, d_other, _⟩, y, _, ⟨v_self, _, rfl, h_self, v_other, _, rfl, h_other, rfl⟩, _⟩ := h
    rfl
  obtain ⟨S, ⟨d_self, d_other, _⟩, y, dm, ⟨v_self, _, rfl, h_self, v_other, _, rfl, h_other, rfl⟩, hm, q⟩ := h
  have ts : Sub [] S := fun a m => by simp at m
  have fr0 := Fr.refl (T := []) H0
  have sub0 : Sub S S := fun a m => m
  refine ⟨_, (pss_one (ps_ret (pe_and (pe_callB call_isi (by rfl) ev.B.isinstance_ (by decide +kernel) (pa_cons (pv 1) (pa_cons (pe_glob (v := .ref ev.C_Scale) (by rfl) ev.g_Scale rfl) pa_nil))) (pe_and pe_neverE (pe_and pe_neverE (pe_and pe_neverE (pe_one pe_neverE))))))), ?_⟩
  dsimp only [m_Scale___eq__i] at hm
  have er := hm
  exact q_ret (T := []) dm (ev_and (ev_isiIC ev.isI_Scale (ev_var ts h_other rfl)) (ev_and (ev_never (R := of (K := K) tBool _)) (ev_and (ev_never (R := of (K := K) tBool _)) (ev_and (ev_never (R := of (K := K) tBool _)) (ev_never (R := of (K := K) tBool _)))))) er (fun v H1 s1 hv => q v H1 (fr0.trans (Fr.same s1)).toSame ((tBool : Ty K Bool).sub (S := S) (H := H1) sub0 hv))
end
end G

namespace G
open PySem L2 M
section
variable {P : Program} {w : World} {K : PySem.W.Frag} {mg : Str → Option Value} {base : Heap}

/-! ### refusals -/
def ibV (v : V) : Int ⊕ Bool → Prop
  | .inl i => v = .int i
  | .inr k => v = .bl k
def inB (x : Int ⊕ Bool) (lo hi : Int) : Bool := match x with
  | .inl i => decide (lo ≤ i) && decide (i ≤ hi)
  | .inr _ => false
theorem within_eq (x : Int ⊕ Bool) (lo hi : Int) : m_is_within x lo hi = some (inB x lo hi) := by
  cases x with
  | inl i => by_cases c : lo ≤ i <;> simp [m_is_within, bd, getL?, inB, c]
  | inr k => simp [m_is_within, bd, inB]
theorem inB_inl {x : Int ⊕ Bool} {lo hi : Int} (h : inB x lo hi = true) : ∃ i, x = .inl i ∧ lo ≤ i ∧ i ≤ hi := by
  cases x with
  | inl i => simp [inB] at h; exact ⟨i, rfl, h⟩
  | inr k => simp [inB] at h
def spChk (C : Addr) : Sp := fun vs H Q E => ∃ (z : Str) (x : Int ⊕ Bool) (v : V) (lo hi : Int), vs = [.str z, v, .int lo, .int hi] ∧ z.length ≤ 1000 ∧ ibV v x ∧ (inB x lo hi = true → ∀ H', Same H H' → Q .non H') ∧
  (inB x lo hi = false → ∀ H' d, Same H H' → H' d = none → E (.ref C) (some d) (upd H' d (.xd [("part", .str z)])))
theorem ok_check_part (ev : Env P K mg) : FnOk P w K mg base (L2.CX P w) 3 ev.f_check_part ev.d_check_part p_check_part (spChk ev.C_BadScale) := by
  refine ev.A_check_part.F.okX sc_check_part (fun vs H Q E h => ?_) (fun cdv A outer s H vs Q E hr h => ?_)
  · obtain ⟨z, x, v, lo, hi, rfl, _⟩ := h
    rfl
  obtain ⟨z, x, v, lo, hi, rfl, hz, hv, q1, q2⟩ := h
  refine ⟨_, (pss_one (ps_if (pt_not (pt_val (pe_call (ok_is_within ev) (hr.mono (by decide)) (by rfl) ev.A_is_within.m ev.A_is_within.F.kp ev.A_is_within.b .nil pass0 (pa_cons (pv 1) (pa_cons (pv 2) (pa_cons (pv 3) pa_nil))))))
    (pss_one (ps_raiseS rfl ev.X_BadScale hr (takes_of rfl rfl rfl rfl) (pa_cons (pv 0) pa_nil) (by exact rfl))) pss_nil)), ?_⟩
  have hv' : (tU (K := K) tInt tBool).rp [] H v x := by cases x <;> exact hv
  refine ⟨_, rfl, _, rfl, _, rfl, [], (x, lo, hi, ()), inB x lo hi, Dom.nil, ⟨v, _, rfl, hv', _, _, rfl, rfl, _, _, rfl, rfl, rfl⟩, within_eq x lo hi, fun u H' s hu => ⟨_, hu, ite2 (fun c => ?_) (fun c => ?_)⟩⟩
  · exact ⟨_, rfl, _, rfl, ⟨z, rfl, hz⟩, fun d hd => q2 (by simpa using c) H' d s hd⟩
  · exact q1 (by simpa using c) H' s
def dueW (x0 x1 x2 x3 : Int ⊕ Bool) : Option Str := if inB x0 1 100 = false then some "step" else if inB x1 0 100 = false then some "tolerance" else if inB x2 1 9 = false then some "letter" else if inB x3 8 64 = false then some "side" else none
def spInit (C Cb : Addr) : Sp := fun vs H Q E => ∃ (p dx : Addr) (v0 v1 v2 v3 : V) (x0 x1 x2 x3 : Int ⊕ Bool), vs = [.ref p, v0, v1, v2, v3] ∧ H p = some (.ins C dx []) ∧ ibV v0 x0 ∧ ibV v1 x1 ∧ ibV v2 x2 ∧ ibV v3 x3 ∧
  (∀ z, dueW x0 x1 x2 x3 = some z → ∀ H' d, Same H H' → H' d = none → E (.ref Cb) (some d) (upd H' d (.xd [("part", .str z)]))) ∧
  (∀ i0 i1 i2 i3, x0 = .inl i0 → x1 = .inl i1 → x2 = .inl i2 → x3 = .inl i3 → dueW x0 x1 x2 x3 = none → ∀ H', (∀ q o, H q = some o → q ≠ p → H' q = some o) → H' p = some (.ins C dx (scF (i0, i1, i2, i3))) → Q .non H')
theorem ok_Scale___init__ (ev : Env P K mg) : FnOk P w K mg base (L2.CX P w) 4 ev.f_Scale___init__ ev.d_Scale___init__ p_Scale___init__ (spInit ev.C_Scale ev.C_BadScale) := by
  refine ev.I_Scale.F.okX sc_Scale___init__ (fun vs H Q E h => ?_) (fun cdv A outer s H vs Q E hr h => ?_)
  · obtain ⟨p, dx, v0, v1, v2, v3, x0, x1, x2, x3, rfl, _⟩ := h
    rfl
  obtain ⟨p, dx, v0, v1, v2, v3, x0, x1, x2, x3, rfl, hp, h0, h1, h2, h3, qb, qg⟩ := h
  refine ⟨_, (pss_cons (ps_expr (pe_callS (ok_check_part ev) (hr.mono (by decide)) (by rfl) ev.A_check_part.m ev.A_check_part.F.kp ev.A_check_part.b (fun σ => passAt (takes_of rfl rfl rfl rfl) σ) (pa_cons pe_str (pa_cons (pv 1) (pa_cons pe_int (pa_cons pe_int pa_nil))))))
    (pss_cons (ps_expr (pe_callS (ok_check_part ev) (hr.mono (by decide)) (by rfl) ev.A_check_part.m ev.A_check_part.F.kp ev.A_check_part.b (fun σ => passAt (takes_of rfl rfl rfl rfl) σ) (pa_cons pe_str (pa_cons (pv 2) (pa_cons pe_int (pa_cons pe_int pa_nil))))))
    (pss_cons (ps_expr (pe_callS (ok_check_part ev) (hr.mono (by decide)) (by rfl) ev.A_check_part.m ev.A_check_part.F.kp ev.A_check_part.b (fun σ => passAt (takes_of rfl rfl rfl rfl) σ) (pa_cons pe_str (pa_cons (pv 3) (pa_cons pe_int (pa_cons pe_int pa_nil))))))
    (pss_cons (ps_expr (pe_callS (ok_check_part ev) (hr.mono (by decide)) (by rfl) ev.A_check_part.m ev.A_check_part.F.kp ev.A_check_part.b (fun σ => passAt (takes_of rfl rfl rfl rfl) σ) (pa_cons pe_str (pa_cons (pv 4) (pa_cons pe_int (pa_cons pe_int pa_nil))))))
    (pss_cons (ps_fld (pv 0) (pv 1) rfl)
    (pss_cons (ps_fld (pv 0) (pv 2) rfl)
    (pss_cons (ps_fld (pv 0) (pv 3) rfl)
    (pss_one (ps_fld (pv 0) (pv 4) rfl))))))))), ?_⟩
  have n1 : ∀ z : Str, z = "step" ∨ z = "tolerance" ∨ z = "letter" ∨ z = "side" → z.length ≤ 1000 := fun z hz => by rcases hz with rfl | rfl | rfl | rfl <;> decide
  refine seq_drop ⟨_, rfl, "step", x0, _, 1, 100, rfl, n1 _ (by simp), h0, fun b0 H1 s1 => ?_, fun b0 H1 d s1 nd => qb _ (by simp [dueW, b0]) H1 d s1 nd⟩
  refine seq_drop ⟨_, rfl, "tolerance", x1, _, 0, 100, rfl, n1 _ (by simp), h1, fun b1 H2 s2 => ?_, fun b1 H2 d s2 nd => qb _ (by simp [dueW, b0, b1]) H2 d (s1.trans s2) nd⟩
  refine seq_drop ⟨_, rfl, "letter", x2, _, 1, 9, rfl, n1 _ (by simp), h2, fun b2 H3 s3 => ?_, fun b2 H3 d s3 nd => qb _ (by simp [dueW, b0, b1, b2]) H3 d ((s1.trans s2).trans s3) nd⟩
  refine seq_drop ⟨_, rfl, "side", x3, _, 8, 64, rfl, n1 _ (by simp), h3, fun b3 H4 s4 => ?_, fun b3 H4 d s4 nd => qb _ (by simp [dueW, b0, b1, b2, b3]) H4 d (((s1.trans s2).trans s3).trans s4) nd⟩
  have sm := ((s1.trans s2).trans s3).trans s4
  obtain ⟨i0, rfl, _⟩ := inB_inl b0
  obtain ⟨i1, rfl, _⟩ := inB_inl b1
  obtain ⟨i2, rfl, _⟩ := inB_inl b2
  obtain ⟨i3, rfl, _⟩ := inB_inl b3
  cases h0
  cases h1
  cases h2
  cases h3
  refine ⟨_, rfl, _, rfl, p, _, dx, _, rfl, sm _ _ hp, ev.cl_Scale, ev.n_step, (by show 0 < 1000; decide), ?_⟩
  refine ⟨_, rfl, _, rfl, p, _, dx, _, rfl, upd_same, ev.cl_Scale, ev.n_tolerance, (by show 1 < 1000; decide), ?_⟩
  refine ⟨_, rfl, _, rfl, p, _, dx, _, rfl, upd_same, ev.cl_Scale, ev.n_letter, (by show 2 < 1000; decide), ?_⟩
  refine ⟨_, rfl, _, rfl, p, _, dx, _, rfl, upd_same, ev.cl_Scale, ev.n_side, (by show 3 < 1000; decide), ?_⟩
  refine qg i0 i1 i2 i3 rfl rfl rfl rfl (by simp [dueW, b0, b1, b2, b3]) _ (fun q o e n => ?_) upd_same
  rw [upd_ne n, upd_ne n, upd_ne n, upd_ne n]
  exact sm _ _ e

end
end G

namespace G
open PySem L2 M
section
variable {P : Program} {w : World} {K : PySem.W.Frag} {mg : Str → Option Value} {base : Heap}
open PySem.Spec PyProof.Rows in
section
/-! ### a try with any number of clauses 'except x as n' (n in slot i) -/
abbrev Cl : Type := Value × (Addr → Value → Option Addr → TS)
def wManyAs (K : PySem.W.Frag) (i : Nat) (Wout : WX) (D : Ends) (l : List Cl) : WX := l.foldr (fun p W => wAs K p.1 i p.2 W D) Wout
/-- the clause h: its class is p's, its suite does what p says -/
inductive ClAs (X : Cx) (n : Str) : ExceptHandler → Cl → Prop
  | mk {x np c ts st sts pos} : Names X x c →
      (∀ a o cls d pn, Zc cls d o → (∃ vs, o.data = .fields vs) → PSs (X.suite a ((a, o) :: pn)) (st :: sts) (ts a cls d)) →
      ClAs X n (.ExceptHandler (some (.Name x np)) (some n) (st :: sts) pos) (c, ts)
inductive HdsAs (X : Cx) (n : Str) : List ExceptHandler → List Cl → Prop
  | nil : HdsAs X n [] []
  | more {h p hs ps} : ClAs X n h p → HdsAs X n hs ps → HdsAs X n (h :: hs) (p :: ps)
theorem HdsAs.cons {X : Cx} {n x : Str} {np pos : Pos} {c : Value} {ts : Addr → Value → Option Addr → TS} {st : Stmt} {sts : List Stmt} {hs : List ExceptHandler} {ps : List Cl} (hc : Names X x c)
    (hsu : ∀ a o cls d pn, Zc cls d o → (∃ vs, o.data = .fields vs) → PSs (X.suite a ((a, o) :: pn)) (st :: sts) (ts a cls d)) (r : HdsAs X n hs ps) :
    HdsAs X n (.ExceptHandler (some (.Name x np)) (some n) (st :: sts) pos :: hs) ((c, ts) :: ps) := .more (.mk hc hsu) r
/-- what is known once the exception a (of the class cls, its fields at d) has come down: g is the heap now, sI the state it was thrown in -/
structure Down (X : Cx) (pins : List (Addr × Obj)) (σ : L2.St) (H : Hp) (B : Heap) (sI t : Shared) (a : Addr) (cls : Value) (d : Option Addr) : Prop where
  ok : X.Ok
  fr : X.stack = X.env :: X.outer
  loc : X.env.frame = some X.env.locals
  inv : Inv X pins σ H sI
  gnd : ∀ b o, sI.heap.get? b = some o → b ∉ frs X.stack → B.get? b = some o
  up : sI.heap.UpToSlots t.heap
  fly : HandSPX.FlyingZ B (X.env :: X.outer) a (Zc cls d) t.heap
  na : H a = none
  os : t.os = sI.os
  bare : AllBare t.gens
section
variable {X : Cx} {pins : List (Addr × Obj)} {σ : L2.St} {H : Hp} {B : Heap} {sI t : Shared} {a : Addr} {cls : Value} {d : Option Addr}
theorem Down.here (L : Down X pins σ H B sI t a cls d) : Inv X pins σ H t := L.inv.landed L.gnd L.fly.1 L.up L.os L.bare
theorem Down.step (L : Down X pins σ H B sI t a cls d) {g : Heap} (f : HandSPX.FlyingZ B (X.env :: X.outer) a (Zc cls d) g) (u : t.heap.UpToSlots g) : Down X pins σ H B sI { t with heap := g } a cls d :=
  { L with up := L.up.trans u, fly := f }
theorem Down.apart (L : Down X pins σ H B sI t a cls d) : a ∉ frs (X.env :: X.outer) := by
  intro m
  have ⟨o, vs, e, _, dat⟩ := L.fly.there
  have ⟨_, o', e', no⟩ := L.fly.2.2.1.mem m
  exact no vs (Option.some.inj (e'.symm.trans e) ▸ dat)
theorem Down.notL (L : Down X pins σ H B sI t a cls d) : a ≠ X.env.locals := by
  intro e
  refine L.apart (List.mem_filterMap.mpr ⟨X.env, .head _, ?_⟩)
  rw [L.loc, e]
theorem Down.notF (L : Down X pins σ H B sI t a cls d) : a ∉ X.fs := by
  intro m
  have ⟨e, he, q⟩ := List.mem_filterMap.mp m
  exact L.apart (List.mem_filterMap.mpr ⟨e, .tail _ he, q⟩)
/-- the state of a clause's suite -/
theorem Down.insuite (L : Down X pins σ H B sI t a cls d) : ∃ o, t.heap.get? a = some o ∧ Zc cls d o ∧ (∃ vs, o.data = .fields vs) ∧ Inv (X.suite a ((a, o) :: (X.pn ++ pins))) [] σ H t :=
  have ⟨o, vs, e, z, dat⟩ := L.fly.there
  ⟨o, e, z, ⟨vs, dat⟩, L.here.suite e dat L.na L.notL L.notF⟩
/-- the clause's class is looked up, and the exception held against it -/
theorem Down.test (L : Down X pins σ H B sI t a cls d) {x : Str} {np : Pos} {c : Value} {b : Bool} {Q : Bool → Shared → Prop} {E E' : Value → Shared → Prop} (hc : Names X x c) (hb : PySem.W.exmOne X.K cls c = some b) (q : Q b t) :
    wpAny (model X.prog X.w) (X.A.mark (some (.ref a))) (eval (.Name x np) X.env) (fun v s => wpAny (model X.prog X.w) (X.A.mark (some (.ref a))) (excMatches (.ref a) v) Q E s) E' t := by
  have ⟨o, e, z, _, S⟩ := L.insuite
  have LM := PySem.W.exm_one (M := model X.prog X.w) (e := a) L.here.kIn (fun _ _ _ _ k w => wpAny_typeOf_ref (k _ _ e) (z.1 ▸ w)) hb
  rcases hc with ⟨gl, ndb, g | ⟨g, bt, ne⟩⟩
  · exact ld_glob (X := X.suite a _) S gl g (LM.here q) ndb
  · exact ld_blt (X := X.suite a _) S gl g bt (LM.here q) ne ndb
/-- no clause is left: it flies on -/
theorem Down.off (L : Down X pins σ H B sI t a cls d) {W : WX} {D : Ends} (tk : Takes X W) (w : W cls d σ H) : wpAny (model X.prog X.w) X.A (handleBy (.ref a) X.env []) (SP X pins D) X.xe t := by
  have away : wpAny (model X.prog X.w) X.A (setFlight (.ref a) X.env.frame) (fun _ u => wpAny (model X.prog X.w) X.A (throw (.ref a) : Sem Flow) (SP X pins D) X.xe u) X.xe t := by
    rw [L.loc]
    exact HandSPX.setFlight_upZ L.fly fun g held u => wpAny_throw (tk _ _ ⟨a, B, sI, pins, σ, H, cls, d, rfl, L.inv, L.gnd, L.up.trans u, .inr (.inr (L.fr ▸ held)), L.na, L.os, L.bare, w⟩)
  have ⟨_, _, _, o, vs, T, _, _, e, _, dat, tb, _⟩ := id L.fly
  apply wpAny_handleBy_nil
  unfold PySem.passOn
  apply wpAny_bind
  apply wpAny_field e dat tb
  rw [if_neg (by simp)]
  first
    | exact wpAny_bind (wpAny_pure (wpAny_bind away))
    | exact wpAny_bind away
/-- the clauses, one after the other -/
theorem Down.clauses {n : Str} {i : Nat} {W : WX} {D : Ends} (hN : X.N.Nodup) (hi : X.N[i]? = some n) (hln : X.env.kindOf n = some .local) (tk : Takes X W) :
    ∀ {hs : List ExceptHandler} {l : List Cl}, HdsAs X n hs l → ∀ {t : Shared}, Down X pins σ H B sI t a cls d → wManyAs X.K i W D l cls d σ H → wpAny (model X.prog X.w) X.A (handleBy (.ref a) X.env hs) (SP X pins D) X.xe t
  | _, _, .nil, _, L, w => L.off tk w
  | _, _, .more (.mk hc hsu) r, t, L, w => by
    obtain ⟨b, hb, yes, no⟩ := w
    apply wpAny_handleBy_cons _ (fun z => by cases z)
    apply codeAny_handlers_test
    refine L.test hc hb ?_
    cases b
    · exact Down.clauses hN hi hln tk r L (no rfl)
    · apply codeAny_handlers_suite_as
      refine HandSPX.lands_againZ L.fly fun g f u => ?_
      have L' := L.step f u
      have ⟨o, e, z, dat, S⟩ := L'.insuite
      refine store_ok (X := X.suite a _) (v := .ref a) S hN hi (.inl hln) rfl (fun s5 S5 => ?_) (.inr hln)
      have run := (hsu a o cls d (X.pn ++ pins) z dat).run [] s5 _ H _ S5 (yes rfl a L.na)
      refine wpAny_mono run (fun fl s6 told => ?_) (fun _ _ => False.elim)
      cases fl
      case ret => exact told.elim fun v told => told.elim fun σ6 told => told.elim fun H6 told => gone_ok (told.1.unsuite L.ok) hN hi hln fun s7 I => ⟨v, _, H6, I, told.2⟩
      all_goals exact told.elim fun σ6 told => told.elim fun H6 told => gone_ok (told.1.unsuite L.ok) hN hi hln fun s7 I => ⟨_, H6, I, told.2⟩
variable {n : Str} {i : Nat} {body : List Stmt} {h₀ : ExceptHandler} {hds : List ExceptHandler} {l : List Cl} {pos : Pos} {tb : WX → TS} {Wout : WX}
theorem ps_try_manyAs (hs : X.stack = X.env :: X.outer) (hf : X.env.frame = some X.env.locals) (hN : X.N.Nodup) (hi : X.N[i]? = some n) (hln : X.env.kindOf n = some .local) (tk : Takes X Wout)
    (hb : ∀ W pn xe, Takes (X.tr pn xe) W → PassesOwn (model X.prog X.w) X.A X.env xe → PSs (X.tr pn xe) body (tb W))
    (hh : HdsAs X n (h₀ :: hds) l) : PS X (.Try body (h₀ :: hds) [] [] pos) (fun D σ H => tb (wManyAs X.K i Wout D l) D σ H) := by
  constructor
  intro pins s σ H D I h
  have A1 : X.A.frames = some (X.env :: X.outer) := hs ▸ I.ok.frames
  apply wpAny_Try_except
  refine wpAny_mono ((hb _ (X.pn ++ pins) _ ?_ PassesOwn.looking).run [] s σ H D (I.toTry _) h) (fun fl s1 told => ?_) (fun _ _ x => x)
  · rintro _ t ⟨a, B, sI, pins', σ', H', cls, d, rfl, J, gnd, up, sky, na, os, ag, w⟩
    have sky : Sky B (X.env :: X.outer) a (Zc cls d) X.env.locals t.heap := hs ▸ sky
    exact Sky.land Zc.steady A1 hf sky fun g f u => Down.clauses hN hi hln tk hh ⟨I.ok, hs, hf, J.ofTry I.ok, gnd, up.trans u, f, na, os, ag⟩ w
  · cases fl
    case next => exact wpAny_execs_nil (told.elim fun σ' told => told.elim fun H' told => ⟨σ', H', told.1.ofTry I.ok, told.2⟩)
    case ret => exact told.elim fun v told => told.elim fun σ' told => told.elim fun H' told => ⟨v, σ', H', told.1.ofTry I.ok, told.2⟩
    all_goals exact told.elim fun σ' told => told.elim fun H' told => ⟨σ', H', told.1.ofTry I.ok, told.2⟩
end

end

theorem look1 (f : Str) (v : V) : List.lookup f [(f, v)] = some v := by simp [List.lookup]
def val : Int ⊕ Bool → Int
  | .inl i => i
  | .inr _ => 0
def mkS (x0 x1 x2 x3 : Int ⊕ Bool) : Str ⊕ Sc := match dueW x0 x1 x2 x3 with
  | some z => .inl z
  | none => .inr (val x0, val x1, val x2, val x3)
def m_law_told (ps : List (Int ⊕ Bool)) (door : Int) : Option (Str ⊕ Sc) := match ps with
  | [x0, x1, x2, x3] => some (if door = 0 then mkS x0 x1 x2 x3 else if door = 1 then mkS x0 (.inl 0) x2 x3 else if door = 2 then mkS x0 x1 x2 (.inl 16) else mkS x0 (.inl 0) (.inl 1) (.inl 16))
  | _ => none
abbrev sp_law_told (K : PySem.W.Frag) (CS : Addr) : Sp := spF (K := K) (aCons (tL (tU tInt tBool)) (aCons tInt aNil)) (fun S => of (K := K) (tU tStr (tIn CS scF)) S) (fun a => m_law_told a.1 a.2.1)
theorem dueW_word {x0 x1 x2 x3 : Int ⊕ Bool} {z : Str} (h : dueW x0 x1 x2 x3 = some z) : PyData.strOk z = true := by
  unfold dueW at h
  split at h
  · cases h; decide +kernel
  split at h
  · cases h; decide +kernel
  split at h
  · cases h; decide +kernel
  split at h
  · cases h; decide +kernel
  · cases h
theorem ib {K : PySem.W.Frag} {S : AS} {H : Hp} {v : V} {x : Int ⊕ Bool} (h : (tU (K := K) tInt tBool).rp S H v x) : ibV v x := by cases x <;> exact h
theorem ok_law_told (ev : Env P K mg) : FnOk P w K mg base CX0 6 ev.f_law_told ev.d_law_told p_law_told (sp_law_told K ev.C_Scale) := by
  refine ev.A_law_told.F.ok sc_law_told (fun vs H Q E h => ?_) (fun cdv A outer s H vs Q E hr h => ?_)
  · obtain ⟨S, ⟨ps, door, _⟩, y, _, ⟨v, _, rfl, _, _, _, rfl, _, rfl⟩, _⟩ := h
    rfl
  obtain ⟨S, ⟨ps, door, _⟩, y, dm, ⟨v, _, rfl, hps, v1, _, rfl, hd, rfl⟩, hm, q⟩ := h
  cases hd
  obtain ⟨l, vs, rfl, hl, hv⟩ := hps
  obtain ⟨x0, x1, x2, x3, rfl⟩ : ∃ x0 x1 x2 x3, ps = [x0, x1, x2, x3] := by
    dsimp only at hm
    unfold m_law_told at hm
    split at hm
    · exact ⟨_, _, _, _, rfl⟩
    · cases hm
  dsimp only at hv hm
  cases hv with
  | @cons w0 _ _ _ a0 hv =>
  cases hv with
  | @cons w1 _ _ _ a1 hv =>
  cases hv with
  | @cons w2 _ _ _ a2 hv =>
  cases hv with
  | @cons w3 _ _ _ a3 hv =>
  cases hv
  obtain ⟨k0, kb0⟩ := ev.I_Scale.k0
  obtain ⟨k1, kb1⟩ := ev.I_Scale.k1
  obtain ⟨k2, kb2⟩ := ev.I_Scale.k2
  obtain ⟨k3, kb3⟩ := ev.I_Scale.k3
  obtain ⟨_, _, _, _, _, _, _, _, XB⟩ := ev.X_BadScale
  refine ⟨_, pss_cons (ps_set (i := 2) sc_law_told.nd rfl (Or.inl rfl) pe_non)
    (pss_cons (ps_try_manyAs (i := 3) (n := "e") (l := [(.ref ev.C_BadScale, fun a cls d => tAsg (tXf a cls d ev.C_BadScale "part" (tVar 3)) (gName 2))]) (Wout := fun _ _ _ _ => False) rfl rfl sc_law_told.nd rfl rfl takes0
      (fun W pn xe tk po => pss_one (ps_if (pt_cmpR op_eq (pv 1) pe_int (nomark _))
        (pss_one (ps_set (i := 2) sc_law_told.nd rfl (Or.inl rfl) (pe_makeKS ev.M_Scale (ok_Scale___init__ ev) (hr.mono (by decide)) (by rfl) ev.g_Scale kb0 (fun σ => passAt tk σ) (pa_cons (pe_ix (show IxR _ (rIxL K) from ix_list) (pv 0) pe_int (fun _ _ => rfl)) pa_nil) (pk_cons (pe_ix (show IxR _ (rIxL K) from ix_list) (pv 0) pe_int (fun _ _ => rfl)) (pk_cons (pe_ix (show IxR _ (rIxL K) from ix_list) (pv 0) pe_int (fun _ _ => rfl)) (pk_cons (pe_ix (show IxR _ (rIxL K) from ix_list) (pv 0) pe_int (fun _ _ => rfl)) pk_nil))))))
        (pss_one (ps_if (pt_cmpR op_eq (pv 1) pe_int (nomark _))
          (pss_one (ps_set (i := 2) sc_law_told.nd rfl (Or.inl rfl) (pe_makeKS ev.M_Scale (ok_Scale___init__ ev) (hr.mono (by decide)) (by rfl) ev.g_Scale kb1 (fun σ => passAt tk σ) (pa_cons (pe_ix (show IxR _ (rIxL K) from ix_list) (pv 0) pe_int (fun _ _ => rfl)) pa_nil) (pk_cons (pe_ix (show IxR _ (rIxL K) from ix_list) (pv 0) pe_int (fun _ _ => rfl)) (pk_cons (pe_ix (show IxR _ (rIxL K) from ix_list) (pv 0) pe_int (fun _ _ => rfl)) pk_nil)))))
          (pss_one (ps_if (pt_cmpR op_eq (pv 1) pe_int (nomark _))
            (pss_one (ps_set (i := 2) sc_law_told.nd rfl (Or.inl rfl) (pe_makeKS0 ev.M_Scale (ok_Scale___init__ ev) (hr.mono (by decide)) (by rfl) ev.g_Scale kb2 (fun σ => passAt tk σ) (pk_cons (pe_ix (show IxR _ (rIxL K) from ix_list) (pv 0) pe_int (fun _ _ => rfl)) (pk_cons (pe_ix (show IxR _ (rIxL K) from ix_list) (pv 0) pe_int (fun _ _ => rfl)) (pk_cons (pe_ix (show IxR _ (rIxL K) from ix_list) (pv 0) pe_int (fun _ _ => rfl)) pk_nil))))))
            (pss_one (ps_set (i := 2) sc_law_told.nd rfl (Or.inl rfl) (pe_makeDS ev.M_Scale (ok_Scale___init__ ev) (hr.mono (by decide)) (by rfl) ev.g_Scale kb3 (fun σ => passAt tk σ) (pa_cons (pe_ix (show IxR _ (rIxL K) from ix_list) (pv 0) pe_int (fun _ _ => rfl)) pa_nil))))))))))
      (.cons ⟨rfl, by decide, Or.inl XB.2.1.gC⟩ (fun a oe cls d pn hz hf => pss_one (ps_set (i := 2) sc_law_told.nd rfl (Or.inl rfl) (pe_xf (C := ev.C_BadScale) XB.2.2.1 XB.2.2.2.1 hz hf (pv 3)))) .nil))
    (pss_one (ps_ret (pv 2)))), ?_⟩
  refine seq_c ?_
  have ts : Sub [] S := fun a m => by simp at m
  have hd : (tInt (K := K)).rp S H (.int door) door := rfl
  refine l_if (S := S) (T := []) (b := decide (door = 0)) dm (eb_test (K := K) (ev_op (od_eqI (K := K)) (ev_var ts hd rfl) (ev_int (K := K)))) (by simp [bd]) (fun hc H1 s1 => ?_) (fun hc H1 s1 => ?_)
  · have d0 : door = 0 := of_decide_eq_true hc
    refine ⟨_, rfl, l, _, 0, w0, rfl, rfl, (s1 _ _ hl.1 |> fun e => SqL.of e), rfl, _, rfl, l, _, 1, w1, rfl, rfl, (s1 _ _ hl.1 |> fun e => SqL.of e), rfl, _, rfl, l, _, 2, w2, rfl, rfl, (s1 _ _ hl.1 |> fun e => SqL.of e), rfl, _, rfl, l, _, 3, w3, rfl, rfl, (s1 _ _ hl.1 |> fun e => SqL.of e), rfl, rfl, rfl, fun p dx np ndx ne => ?_⟩
    have sM : Same H1 (upd (upd H1 dx (.own p)) p (.ins ev.C_Scale dx [])) := (same_upd ndx).trans (same_upd (by rw [upd_ne (Ne.symm ne)]; exact np))
    have hy : y = mkS x0 x1 x2 x3 := by simpa [m_law_told, d0] using hm.symm
    subst hy
    refine ⟨p, dx, w0, w1, w2, w3, x0, x1, x2, x3, rfl, upd_same, (ib a0), (ib a1), (ib a2), (ib a3), fun z ez H' d s' nd => ?_, fun i0 i1 i2 i3 e0 e1 e2 e3 en H' fr hp => ?_⟩
    · refine ⟨true, ev.xm_BadScale, fun _ a na => ?_, fun z => Bool.noConfusion z⟩
      refine ⟨_, rfl, rfl, rfl, d, _, _, rfl, upd_same, look1 _ _, ?_⟩
      refine ⟨_, rfl, q _ _ ((s1.trans sM).trans (s'.trans (same_upd nd))) ?_⟩
      show (tU tStr (tIn ev.C_Scale scF)).rp S _ _ (mkS x0 x1 x2 x3)
      unfold mkS
      rw [ez]
      exact ⟨rfl, dueW_word ez⟩
    · refine ⟨rfl, _, rfl, q _ _ (fun a o e => fr a o (sM _ _ (s1 _ _ e)) (ne_of_none (s1 _ _ e) np)) ?_⟩
      show (tU tStr (tIn ev.C_Scale scF)).rp S _ _ (mkS x0 x1 x2 x3)
      unfold mkS
      rw [en]
      refine ⟨p, dx, rfl, ?_, (dm.same s1).not_mem np⟩
      rw [hp]
      congr 2
      first | (rw [e0, e1, e2, e3]; rfl) | (cases e0; cases e1; cases e2; cases e3; rfl) | (cases e0; cases e2; cases e3; cases e1; rfl)
  have d0 : ¬ door = 0 := of_decide_eq_false hc
  refine l_if (S := S) (T := []) (b := decide (door = 1)) (dm.same s1) (eb_test (K := K) (ev_op (od_eqI (K := K)) (ev_var ts (show (tInt (K := K)).rp S H1 (.int door) door from rfl) rfl) (ev_int (K := K)))) (by simp [bd]) (fun hc H2 s2' => ?_) (fun hc H2 s2' => ?_)
  · have d1 : door = 1 := of_decide_eq_true hc
    have s2 := s1.trans s2'
    refine ⟨_, rfl, l, _, 0, w0, rfl, rfl, (s2 _ _ hl.1 |> fun e => SqL.of e), rfl, _, rfl, l, _, 3, w3, rfl, rfl, (s2 _ _ hl.1 |> fun e => SqL.of e), rfl, _, rfl, l, _, 2, w2, rfl, rfl, (s2 _ _ hl.1 |> fun e => SqL.of e), rfl, rfl, rfl, fun p dx np ndx ne => ?_⟩
    have sM : Same H2 (upd (upd H2 dx (.own p)) p (.ins ev.C_Scale dx [])) := (same_upd ndx).trans (same_upd (by rw [upd_ne (Ne.symm ne)]; exact np))
    have hy : y = mkS x0 (.inl 0) x2 x3 := by simpa [m_law_told, d1] using hm.symm
    subst hy
    refine ⟨p, dx, w0, (.int 0), w2, w3, x0, (.inl 0), x2, x3, rfl, upd_same, (ib a0), rfl, (ib a2), (ib a3), fun z ez H' d s' nd => ?_, fun i0 i1 i2 i3 e0 e1 e2 e3 en H' fr hp => ?_⟩
    · refine ⟨true, ev.xm_BadScale, fun _ a na => ?_, fun z => Bool.noConfusion z⟩
      refine ⟨_, rfl, rfl, rfl, d, _, _, rfl, upd_same, look1 _ _, ?_⟩
      refine ⟨_, rfl, q _ _ ((s2.trans sM).trans (s'.trans (same_upd nd))) ?_⟩
      show (tU tStr (tIn ev.C_Scale scF)).rp S _ _ (mkS x0 (.inl 0) x2 x3)
      unfold mkS
      rw [ez]
      exact ⟨rfl, dueW_word ez⟩
    · refine ⟨rfl, _, rfl, q _ _ (fun a o e => fr a o (sM _ _ (s2 _ _ e)) (ne_of_none (s2 _ _ e) np)) ?_⟩
      show (tU tStr (tIn ev.C_Scale scF)).rp S _ _ (mkS x0 (.inl 0) x2 x3)
      unfold mkS
      rw [en]
      refine ⟨p, dx, rfl, ?_, (dm.same s2).not_mem np⟩
      rw [hp]
      congr 2
      first | (rw [e0, e1, e2, e3]; rfl) | (cases e0; cases e1; cases e2; cases e3; rfl) | (cases e0; cases e2; cases e3; cases e1; rfl)
  have d1 : ¬ door = 1 := of_decide_eq_false hc
  have s2 := s1.trans s2'
  refine l_if (S := S) (T := []) (b := decide (door = 2)) (dm.same s2) (eb_test (K := K) (ev_op (od_eqI (K := K)) (ev_var ts (show (tInt (K := K)).rp S H2 (.int door) door from rfl) rfl) (ev_int (K := K)))) (by simp [bd]) (fun hc H3 s3' => ?_) (fun hc H3 s3' => ?_)
  · have d2 : door = 2 := of_decide_eq_true hc
    have s3 := s2.trans s3'
    refine ⟨_, rfl, l, _, 0, w0, rfl, rfl, (s3 _ _ hl.1 |> fun e => SqL.of e), rfl, _, rfl, l, _, 2, w2, rfl, rfl, (s3 _ _ hl.1 |> fun e => SqL.of e), rfl, _, rfl, l, _, 1, w1, rfl, rfl, (s3 _ _ hl.1 |> fun e => SqL.of e), rfl, rfl, rfl, fun p dx np ndx ne => ?_⟩
    have sM : Same H3 (upd (upd H3 dx (.own p)) p (.ins ev.C_Scale dx [])) := (same_upd ndx).trans (same_upd (by rw [upd_ne (Ne.symm ne)]; exact np))
    have hy : y = mkS x0 x1 x2 (.inl 16) := by simpa [m_law_told, d2] using hm.symm
    subst hy
    refine ⟨p, dx, w0, w1, w2, (.int 16), x0, x1, x2, (.inl 16), rfl, upd_same, (ib a0), (ib a1), (ib a2), rfl, fun z ez H' d s' nd => ?_, fun i0 i1 i2 i3 e0 e1 e2 e3 en H' fr hp => ?_⟩
    · refine ⟨true, ev.xm_BadScale, fun _ a na => ?_, fun z => Bool.noConfusion z⟩
      refine ⟨_, rfl, rfl, rfl, d, _, _, rfl, upd_same, look1 _ _, ?_⟩
      refine ⟨_, rfl, q _ _ ((s3.trans sM).trans (s'.trans (same_upd nd))) ?_⟩
      show (tU tStr (tIn ev.C_Scale scF)).rp S _ _ (mkS x0 x1 x2 (.inl 16))
      unfold mkS
      rw [ez]
      exact ⟨rfl, dueW_word ez⟩
    · refine ⟨rfl, _, rfl, q _ _ (fun a o e => fr a o (sM _ _ (s3 _ _ e)) (ne_of_none (s3 _ _ e) np)) ?_⟩
      show (tU tStr (tIn ev.C_Scale scF)).rp S _ _ (mkS x0 x1 x2 (.inl 16))
      unfold mkS
      rw [en]
      refine ⟨p, dx, rfl, ?_, (dm.same s3).not_mem np⟩
      rw [hp]
      congr 2
      first | (rw [e0, e1, e2, e3]; rfl) | (cases e0; cases e1; cases e2; cases e3; rfl) | (cases e0; cases e2; cases e3; cases e1; rfl)
  have d2 : ¬ door = 2 := of_decide_eq_false hc
  have s3 := s2.trans s3'
  refine ⟨_, rfl, l, _, 0, w0, rfl, rfl, (s3 _ _ hl.1 |> fun e => SqL.of e), rfl, rfl, rfl, fun p dx np ndx ne => ?_⟩
  have sM : Same H3 (upd (upd H3 dx (.own p)) p (.ins ev.C_Scale dx [])) := (same_upd ndx).trans (same_upd (by rw [upd_ne (Ne.symm ne)]; exact np))
  have hy : y = mkS x0 (.inl 0) (.inl 1) (.inl 16) := by simpa [m_law_told, d0, d1, d2] using hm.symm
  subst hy
  refine ⟨p, dx, w0, (.int 0), (.int 1), (.int 16), x0, (.inl 0), (.inl 1), (.inl 16), rfl, upd_same, (ib a0), rfl, rfl, rfl, fun z ez H' d s' nd => ?_, fun i0 i1 i2 i3 e0 e1 e2 e3 en H' fr hp => ?_⟩
  · refine ⟨true, ev.xm_BadScale, fun _ a na => ?_, fun z => Bool.noConfusion z⟩
    refine ⟨_, rfl, rfl, rfl, d, _, _, rfl, upd_same, look1 _ _, ?_⟩
    refine ⟨_, rfl, q _ _ ((s3.trans sM).trans (s'.trans (same_upd nd))) ?_⟩
    show (tU tStr (tIn ev.C_Scale scF)).rp S _ _ (mkS x0 (.inl 0) (.inl 1) (.inl 16))
    unfold mkS
    rw [ez]
    exact ⟨rfl, dueW_word ez⟩
  · refine ⟨rfl, _, rfl, q _ _ (fun a o e => fr a o (sM _ _ (s3 _ _ e)) (ne_of_none (s3 _ _ e) np)) ?_⟩
    show (tU tStr (tIn ev.C_Scale scF)).rp S _ _ (mkS x0 (.inl 0) (.inl 1) (.inl 16))
    unfold mkS
    rw [en]
    refine ⟨p, dx, rfl, ?_, (dm.same s3).not_mem np⟩
    rw [hp]
    congr 2
    first | (rw [e0, e1, e2, e3]; rfl) | (cases e0; cases e1; cases e2; cases e3; rfl) | (cases e0; cases e2; cases e3; cases e1; rfl)

end
end G

namespace G
open PySem L2 M
section
variable {P : Program} {w : World} {K : PySem.W.Frag} {mg : Str → Option Value} {base : Heap}

/-! ### the bag -/
def spBag (K : PySem.W.Frag) : Sp := fun vs H Q _ => ∃ (a : Addr) (ns : List Int), vs = [.ref a] ∧ SqL K H a (ns.map V.int) ∧ ns.length ≤ 63 ∧ ∀ b c H', Bag H' b c → H b = none → H c = none → Same H H' → Q (.ref b) H'
theorem ok_law_bag (ev : Env P K mg) : FnOk P w K mg base CX0 1 ev.f_law_bag ev.d_law_bag p_law_bag (spBag K) := by
  refine ev.A_law_bag.F.ok sc_law_bag (fun vs H Q E h => ?_) (fun cdv A outer s H vs Q E hr h => ?_)
  · obtain ⟨a, ns, rfl, _⟩ := h
    rfl
  obtain ⟨a, ns, rfl, hS, hl, q⟩ := h
  refine ⟨_, (pss_one (ps_ret (pe_lst (pa_cons (pe_callTy call_list_of (by rfl) ev.B.list_ (by decide +kernel) (pa_cons (pe_slice sl_list (pv 0) po_none (po_some pe_int)) pa_nil)) (pa_cons pe_int (pa_cons pe_int pa_nil)))))), ?_⟩
  obtain ⟨ms, em, lm⟩ := cut_ints ns none (some 63)
  refine ⟨_, rfl, _, rfl, a, _, rfl, hS, fun d nd => ?_⟩
  have s1 : Same H (upd H d (.lst (cutV (ns.map V.int) none (some 63)))) := same_upd nd
  refine ⟨d, _, rfl, .inl (SqL.of upd_same), fun c nc => ?_⟩
  have s2 := s1.trans (same_upd (o := .lst (cutV (ns.map V.int) none (some 63))) nc)
  refine ⟨(by show 3 ≤ sizeLine; decide), fun b nb => ?_⟩
  have ne : b ≠ c := fun z => by
    rw [z, upd_same] at nb
    cases nb
  refine q b c _ ⟨ne, ms, 0, 11, upd_same, ?_, by omega, by decide, by decide, by decide⟩ (s2.free nb) (s1.free nc) (s2.trans (same_upd nb))
  rw [upd_ne ne.symm, upd_same, em]

/-! ### a draw -/
def Els (b c : Addr) (H H' : Hp) : Prop := ∀ p, p ≠ b → p ≠ c → H' p = H p
theorem Els.trans {b c : Addr} {H H' H'' : Hp} (h : Els b c H H') (h' : Els b c H' H'') : Els b c H H'' := fun p n m => (h' p n m).trans (h p n m)
theorem Els.kept {b c : Addr} {H H' : Hp} (h : Els b c H H') : Kept b c H H' := fun p _ e n m => (h p n m).trans e
theorem Els.tup {b c p : Addr} {H H' : Hp} {xs : List V} (h : Els b c H H') (hB : Bag H b c) (e : H p = some (.tup xs)) : H' p = some (.tup xs) := by
  obtain ⟨n1, n2⟩ := hB.tup e
  exact (h p n1 n2).trans e
def spDraw : Sp := fun vs H Q _ => ∃ (b c : Addr) (m : Int), vs = [.ref b, .int m] ∧ Bag H b c ∧ 0 < m ∧ m < 1073741824 ∧ ∀ (r : Int) (H' : Hp), 0 ≤ r → r < m → Bag H' b c → Els b c H H' → Q (.int r) H'
theorem ok_law_draw (ev : Env P K mg) : FnOk P w K mg base CX0 1 ev.f_law_draw ev.d_law_draw p_law_draw spDraw := by
  refine ev.A_law_draw.F.ok sc_law_draw (fun vs H Q E h => ?_) (fun cdv A outer s H vs Q E hr h => ?_)
  · obtain ⟨b, c, m, rfl, _⟩ := h
    rfl
  obtain ⟨b, c, m, rfl, ⟨ne, ns, slot, seed, hb, hc, hn, h0, h1, h2⟩, m0, m1, q⟩ := h
  refine ⟨_, (pss_cons (ps_set (i := 2) sc_law_draw.nd rfl (Or.inl rfl) (pe_ix ix_list (pv 0) pe_int (fun _ _ => rfl)))
    (pss_cons (ps_set (i := 3) sc_law_draw.nd rfl (Or.inl rfl) (pe_ix ix_list (pv 0) pe_int (fun _ _ => rfl)))
    (pss_cons (ps_set (i := 4) sc_law_draw.nd rfl (Or.inl rfl) pe_int)
    (pss_cons (ps_if (pt_cmpR op_gt (pe_callB call_len_seq (by rfl) ev.B.len_ PySem.boot_len (pa_cons (pv 2) pa_nil)) pe_int (nomark _))
    (pss_one (ps_set (i := 4) sc_law_draw.nd rfl (Or.inl rfl) (pe_ix ix_list (pv 2) (pe_op op_mod (pv 3) (pe_callB call_len_seq (by rfl) ev.B.len_ PySem.boot_len (pa_cons (pv 2) pa_nil))) (fun _ _ => rfl)))) pss_nil)
    (pss_cons (ps_if (pt_cmpR op_lt (pv 4) pe_int (nomark _))
    (pss_one (ps_set (i := 4) sc_law_draw.nd rfl (Or.inl rfl) (pe_op op_sub pe_int (pv 4)))) pss_nil)
    (pss_cons (ps_if (pt_cmpR op_ge (pv 4) (pe_op op_pow pe_int pe_int) (nomark _))
    (pss_cons (ps_asg (pe_op op_fdiv (pv 4) (pv 1)) (pg_sub (pv 2) (pe_op op_mod (pv 3) (pe_callB call_len_seq (by rfl) ev.B.len_ PySem.boot_len (pa_cons (pv 2) pa_nil))) set_list))
    (pss_one (ps_ret (pe_op op_mod (pv 4) (pv 1))))) pss_nil)
    (pss_cons (ps_asg (pe_op op_add (pv 3) pe_int) (pg_sub (pv 0) pe_int set_list))
    (pss_cons (ps_set (i := 5) sc_law_draw.nd rfl (Or.inl rfl) (pe_ix ix_list (pv 0) pe_int (fun _ _ => rfl)))
    (pss_cons (ps_set (i := 5) sc_law_draw.nd rfl (Or.inl rfl) (pe_op op_add (pe_op op_mul (pe_op op_mod (pe_op op_mul (pv 5) (pv 5)) pe_int) pe_int) (pe_op op_mul (pv 5) pe_int)))
    (pss_cons (ps_asg (pe_op op_mod (pe_op op_add (pe_op op_add (pe_op op_add (pv 5) (pe_op op_mul (pv 4) pe_int)) (pe_op op_mul (pv 3) pe_int)) pe_int) pe_int) (pg_sub (pv 0) pe_int set_list))
    (pss_one (ps_ret (pe_op op_mod (pe_op op_fdiv (pe_op op_mod (pe_op op_mul (pe_ix ix_list (pv 0) pe_int (fun _ _ => rfl)) pe_int) pe_int) pe_int) (pv 1)))))))))))))), ?_⟩
  refine seq_asg ⟨_, rfl, b, _, _, _, rfl, rfl, SqL.of hb, atI_nat (j := 0) rfl, ?_⟩
  refine seq_asg ⟨_, rfl, b, _, _, _, rfl, rfl, SqL.of hb, atI_nat (j := 1) rfl, ?_⟩
  have hlm : (ns.map V.int).length = ns.length := List.length_map _
  have len0 : ns ≠ [] → (0 : Int) < (((ns.map V.int).length : Nat) : Int) := fun z => by
    rw [hlm]
    have := List.length_pos_iff.mpr z
    omega
  refine seq_c ?_
  refine seq_by (fun σ H' => H' = H ∧ ∃ cell : Int, σ = [some (.ref b), some (.int m), some (.ref c), some (.int slot), some (.int cell), none] ∧ (cell ≠ 0 → ns ≠ [])) ?_ (fun k => ?_)
  rotate_left
  · refine ⟨_, rfl, c, _, rfl, .inl (SqL.of hc), _, _, rfl, rfl, _, rfl, ?_⟩
    refine ite2 (fun z => ?_) (fun z => ?_)
    · have z' : (0 : Int) < (((ns.map V.int).length : Nat) : Int) := of_decide_eq_true z
      obtain ⟨v, hv⟩ := int_at (ns := ns) (i := slot % (((ns.map V.int).length : Nat) : Int)) (Int.emod_nonneg _ (by omega)) (by rw [← hlm]; exact Int.emod_lt_of_pos _ z')
      refine ⟨_, rfl, _, rfl, _, rfl, c, _, rfl, .inl (SqL.of hc), _, _, rfl, rfl, z', c, _, _, _, rfl, rfl, SqL.of hc, hv, ?_⟩
      refine k _ _ ⟨rfl, v, rfl, fun _ e => ?_⟩
      rw [hlm, e] at z'
      exact absurd z' (by decide)
    · exact k _ _ ⟨rfl, 0, rfl, fun e => absurd rfl e⟩
  rintro σ H' ⟨rfl, cell, rfl, hcell⟩
  refine seq_by (fun σ H2 => H2 = H' ∧ ∃ cell : Int, σ = [some (.ref b), some (.int m), some (.ref c), some (.int slot), some (.int cell), none] ∧ 0 ≤ cell ∧ (cell ≠ 0 → ns ≠ [])) ?_ (fun k => ?_)
  rotate_left
  · refine ⟨_, rfl, _, _, rfl, rfl, _, rfl, ?_⟩
    refine ite2 (fun z => ?_) (fun z => ?_)
    · have z' : cell < 0 := of_decide_eq_true z
      exact ⟨_, rfl, _, _, rfl, rfl, k _ _ ⟨rfl, 1 - cell, rfl, by omega, fun _ => hcell (by omega)⟩⟩
    · have z' : ¬ cell < 0 := fun e => z (decide_eq_true e)
      exact k _ _ ⟨rfl, cell, rfl, by omega, hcell⟩
  rintro σ H' ⟨rfl, cell, rfl, hc0, hcell⟩
  refine ⟨_, rfl, _, _, rfl, rfl, ⟨by decide, by decide, by decide⟩, _, _, rfl, rfl, _, rfl, ?_⟩
  refine ite2 (fun z => ?_) (fun z => ?_)
  · have z' : cell ≥ (10 : Int) ^ (18 : Int).toNat := of_decide_eq_true z
    have zz : cell ≠ 0 := fun e => by
      rw [e] at z'
      exact absurd z' (by decide)
    have z2 := len0 (hcell zz)
    have b0 := Int.emod_nonneg slot (show (((ns.map V.int).length : Nat) : Int) ≠ 0 by omega)
    have b1 := Int.emod_lt_of_pos slot z2
    refine ⟨_, rfl, _, rfl, _, _, rfl, rfl, ⟨m0, m1⟩, _, rfl, _, rfl, _, rfl, c, _, rfl, .inl (SqL.of hc), _, _, rfl, rfl, z2, c, _, _, _, rfl, rfl, hc, ix_at b0 b1, ?_⟩
    refine ⟨_, rfl, _, rfl, _, _, rfl, rfl, m0, ?_⟩
    refine q _ _ (Int.emod_nonneg _ (by omega)) (Int.emod_lt_of_pos _ m0) ⟨ne, ns.set (slot % (((ns.map V.int).length : Nat) : Int)).toNat (cell / m), slot, seed, ?_, ?_, ?_, h0, h1, h2⟩ (fun p n1 n2 => ?_)
    · rw [upd_ne ne]
      exact hb
    · rw [upd_same, set_ints]
    · rw [List.length_set]
      exact hn
    · rw [upd_ne n2]
  · refine next_u ?_
    refine seq_sub ⟨_, rfl, _, _, rfl, rfl, _, rfl, b, _, _, _, rfl, rfl, hb, rfl, ?_⟩
    refine seq_asg ⟨_, rfl, b, _, _, _, rfl, rfl, SqL.of upd_same, atI_nat (j := 2) rfl, ?_⟩
    refine seq_asg ⟨_, rfl, _, rfl, _, _, rfl, rfl, .inl ⟨by omega, by omega⟩, _, _, rfl, rfl, (show (0 : Int) < 2147483629 by decide), _, _, rfl, rfl, .inr ⟨by decide, by decide⟩, _, rfl, _, _, rfl, rfl, .inr ⟨by decide, by decide⟩, _, _, rfl, rfl, ?_⟩
    refine seq_sub ⟨_, rfl, _, rfl, _, _, rfl, rfl, .inr ⟨by decide, by decide⟩, _, _, rfl, rfl, _, rfl, _, _, rfl, rfl, .inr ⟨by decide, by decide⟩, _, _, rfl, rfl, _, _, rfl, rfl, _, _, rfl, rfl, (show (0 : Int) < 2147483647 by decide), _, rfl, b, _, _, _, rfl, rfl, upd_same, rfl, ?_⟩
    generalize hn2 : seed * seed % 2147483629 * 3 + seed * 48271 + cell * 9973 + slot * 31 + 13 = big
    have g0 := Int.emod_nonneg big (show (2147483647 : Int) ≠ 0 by decide)
    have g1 := Int.emod_lt_of_pos big (show (0 : Int) < 2147483647 by decide)
    refine ⟨_, rfl, b, _, _, _, rfl, rfl, SqL.of upd_same, atI_nat (j := 2) rfl, _, _, rfl, rfl, .inr ⟨by decide, by decide⟩, _, _, rfl, rfl, (show (0 : Int) < 2147483629 by decide), _, _, rfl, rfl, ⟨by decide, by decide⟩, _, rfl, _, _, rfl, rfl, m0, ?_⟩
    refine q _ _ (Int.emod_nonneg _ (by omega)) (Int.emod_lt_of_pos _ m0) ⟨ne, ns, slot + 1, big % 2147483647, ?_, ?_, hn, by omega, g0, g1⟩ (fun p n1 n2 => ?_)
    · rw [upd_same]
      all_goals rfl
    · rw [upd_ne ne.symm, upd_ne ne.symm]
      exact hc
    · rw [upd_ne n1, upd_ne n1]

/-! ### whole numbers, things alike -/
def spWhole : Sp := fun vs H Q _ => ∃ i : Int, vs = [.int i] ∧ Q (.bl true) H
theorem ok_law_whole (ev : Env P K mg) : FnOk P w K mg base CX0 1 ev.f_law_whole ev.d_law_whole p_law_whole spWhole := by
  refine ev.A_law_whole.F.ok sc_law_whole (fun vs H Q E h => ?_) (fun cdv A outer s H vs Q E hr h => ?_)
  · obtain ⟨i, rfl, _⟩ := h
    rfl
  obtain ⟨i, rfl, q⟩ := h
  refine ⟨_, (pss_one (ps_ret (pe_and (pe_callB call_isi (by rfl) ev.B.isinstance_ (by decide +kernel) (pa_cons (pv 0) (pa_cons (pe_bltn (v := .ty "int") (by rfl) ev.B.int_ (by decide +kernel) rfl) pa_nil))) (pe_one (pe_not (pe_callB call_isi (by rfl) ev.B.isinstance_ (by decide +kernel) (pa_cons (pv 0) (pa_cons (pe_bltn (v := .ty "bool") (by rfl) ev.B.bool_ (by decide +kernel) rfl) pa_nil)))))))), ?_⟩
  refine ⟨_, rfl, _, _, _, _, true, rfl, .ty _, .base (.int i), kit_ty (by decide +kernel), true, rfl, ?_⟩
  refine iteT ?_
  exact ⟨_, rfl, _, _, _, _, false, rfl, .ty _, .base (.int i), kit_ty (by decide +kernel), false, rfl, q⟩

/-- a comprehension's walk over I from the heap H0 on: each item does Step, the end is Qd -/
def Wlk (I : It) (H0 : Hp) (Step : V → Hp → (Hp → Prop) → Prop) (Qd : Hp → Prop) : Prop := ∃ W : Nat → Nat → Hp → Prop, (∃ m, W 0 m H0) ∧
  ∀ i m H, W i m H → (I.stop i H ∧ Qd H) ∨ (I.go i H ∧ ∃ N : Hp → Prop, (∀ G, N G → ∃ m', m' < m ∧ W (i + 1) m' G) ∧ ∀ y G, I.yld i H y G → Step y G N)
theorem wlk {I : It} {H0 : Hp} {Step : V → Hp → (Hp → Prop) → Prop} {Qd : Hp → Prop} (n : Nat) (Pv : Nat → Hp → Prop) (h0 : Pv 0 H0) (done : ∀ H, Pv n H → I.stop n H ∧ Qd H) (step : ∀ i H, i < n → Pv i H → I.go i H ∧ ∀ y G, I.yld i H y G → Step y G (Pv (i + 1))) :
    Wlk I H0 Step Qd := by
  refine ⟨fun i m H => i + m = n ∧ Pv i H, ⟨n, Nat.zero_add n, h0⟩, fun i m H w => ?_⟩
  cases m with
  | zero =>
    have e : i = n := w.1
    exact .inl (e ▸ done H (e ▸ w.2))
  | succ m =>
    have s := step i H (by have := w.1; omega) w.2
    exact .inr ⟨s.1, Pv (i + 1), fun G g => ⟨m, Nat.lt_succ_self m, by have := w.1; omega, g⟩, s.2⟩
/-- what one item does in [e for x in .. if t] and in {k: v for x in .. if t}, N behind it -/
abbrev LcStep (g : TG) (tt : TT) (te : TE) (vs : List Nat) (σ : L2.St) (D : Addr) (y : V) (G : Hp) (N : Hp → Prop) : Prop :=
  g y (wipe σ vs) G fun σ' G2 => wipe σ' vs = wipe σ vs ∧ tt σ' G2 fun b G3 => if b = true then te σ' G3 (fun z G4 => ∃ l, G4 D = some (.lst l) ∧ l.length < sizeLine ∧ N (upd G4 D (.lst (l ++ [z])))) else N G3
abbrev DcStep (g : TG) (tt : TT) (tk tv : TE) (vs : List Nat) (σ : L2.St) (D : Addr) (y : V) (G : Hp) (N : Hp → Prop) : Prop :=
  g y (wipe σ vs) G fun σ' G2 => wipe σ' vs = wipe σ vs ∧ tt σ' G2 fun b G3 => if b = true then tk σ' G3 (fun a G4 => tv σ' G4 fun z G5 => ∃ l k, a = kV k ∧ G5 D = some (.dK l) ∧ l.length < sizeLine ∧ N (upd G5 D (.dK (putK l k z)))) else N G3
theorem lc_keys {d : Addr} {o : Obj} {kvs : List (Key × V)} {g : TG} {tt : TT} {te : TE} {vs : List Nat} {σ : L2.St} {H0 : Hp} {D : Addr} {Qd : Hp → Prop} (Pv : Nat → Hp → Prop) (h0 : Pv 0 (upd H0 D (.lst []))) (hl : ∀ i H, i ≤ kvs.length → Pv i H → H d = some (.frz o (.dK kvs)))
    (hs : ∀ i k v H, kvs[i]? = some (k, v) → Pv i H → LcStep g tt te vs σ D (kV k) H (Pv (i + 1))) (hd : ∀ H, Pv kvs.length H → Qd H) : Wlk (Itk d o kvs) (upd H0 D (.lst [])) (LcStep g tt te vs σ D) Qd :=
  wlk kvs.length Pv h0 (fun H p => ⟨⟨hl _ H (Nat.le_refl _) p, Nat.le_refl _⟩, hd H p⟩) fun i H c p => ⟨⟨hl i H (Nat.le_of_lt c) p, c⟩, fun y G z => by
    obtain ⟨rfl, k, v, e, rfl⟩ := z
    exact hs i k v _ e p⟩
/-- sorted(d): keys that are texts, or numbers -/
theorem call_srtK {X : Cx} (hc : X.calm = true) : CallR X (.builtin "sorted") (fun xs H Q => (∃ (a : Addr) (kvs : List (Key × V)) (ks : List Str), xs = [.ref a] ∧ Rd H a (.dK kvs) ∧ kvs.map (·.1) = ks.map Sum.inr ∧ ks.length < 64 ∧
      ∀ ys p, ys.Perm ks → PyProof.Rows.sortedS ys = true → H p = none → Q (.ref p) (upd H p (.lst (ys.map V.str)))) ∨
    ∃ (a : Addr) (kvs : List (Key × V)) (ks : List Int), xs = [.ref a] ∧ Rd H a (.dK kvs) ∧ kvs.map (·.1) = ks.map Sum.inl ∧ ks.length < 64 ∧
      ∀ (ys : List Int) (p : Addr), ys.Perm ks → ys.Pairwise (· ≤ ·) → H p = none → Q (.ref p) (upd H p (.lst (ys.map V.int)))) := by
  intro pins s σ H xs us Q I r h
  rcases h with h | h
  · exact call_sortedD hc pins s σ H xs us Q I r h
  · exact call_sortedDI hc pins s σ H xs us Q I r h
/-- the heaps from H on: what was to be read there is to be read there -/
def Up (H H' : Hp) : Prop := ∀ a u, Rd H a u → Rd H' a u
theorem up_same {H H' : Hp} (s : Same H H') : Up H H' := fun a u h => by
  rcases h with h | ⟨o, h⟩
  · exact .inl (s _ _ h)
  · exact .inr ⟨o, s _ _ h⟩
theorem Up.trans {H H' H'' : Hp} (h : Up H H') (h' : Up H' H'') : Up H H'' := fun a u r => h' a u (h a u r)
theorem up_lock {H : Hp} {d : Addr} {u : HO} {od : Obj} (h : H d = some u) (nf : ∀ o v, u ≠ .frz o v) : Up H (upd H d (.frz od u)) := fun a v r => by
  by_cases e : a = d
  · subst e
    rcases r with r | ⟨o, r⟩
    · rw [h] at r
      cases r
      exact .inr ⟨od, upd_same⟩
    · rw [h] at r
      exact absurd (Option.some.inj r) (nf _ _)
  · rcases r with r | ⟨o, r⟩
    · exact .inl (by rw [upd_ne e]; exact r)
    · exact .inr ⟨o, by rw [upd_ne e]; exact r⟩
theorem tyT {K : PySem.W.Frag} {H : Hp} {a : Addr} {xs : List V} (h : SqT K H a xs) : TyX K H (.ref a) (.type "tuple") := by
  rcases h with (h | ⟨o, h⟩) | ⟨o, _, _, h, hc, _⟩
  · exact .base (.tup h)
  · exact .fTuple h
  · exact .kTuple h hc
theorem tyL {K : PySem.W.Frag} {H : Hp} {a : Addr} {xs : List V} (h : SqL K H a xs) : TyX K H (.ref a) (.type "list") := by
  rcases h with (h | ⟨o, h⟩) | ⟨o, _, _, h, hc, _⟩
  · exact .base (.lst h)
  · exact .base (.frz h)
  · exact .kList h hc
theorem sqT_up {K : PySem.W.Frag} {H H' : Hp} {a : Addr} {xs : List V} (u : Up H H') (h : SqT K H a xs) : SqT K H' a xs := by
  rcases h with h | h
  · exact .inl (u _ _ h)
  · exact .inr h
theorem sqL_up {K : PySem.W.Frag} {H H' : Hp} {a : Addr} {xs : List V} (u : Up H H') (h : SqL K H a xs) : SqL K H' a xs := by
  rcases h with h | h
  · exact .inl (u _ _ h)
  · exact .inr h
theorem tyD {K : PySem.W.Frag} {H : Hp} {a : Addr} {xs : List (Key × V)} (h : Rd H a (.dK xs)) : TyX K H (.ref a) (.type "dict") := by
  rcases h with h | ⟨o, h⟩
  · exact .base (.dK h)
  · exact .fDict h
def flat1 : V → Bool
  | .non => true
  | .bl _ => true
  | .int _ => true
  | .str _ => true
  | _ => false
/-- alike, without dicts -/
def SmT (K : PySem.W.Frag) (H : Hp) : Nat → V → V → Prop
  | 0, x, y => flat1 x = true ∧ x = y
  | n + 1, x, y => (flat1 x = true ∧ x = y) ∨
    (∃ a b xs ys, x = .ref a ∧ y = .ref b ∧ SqT K H a xs ∧ SqT K H b ys ∧ xs.length = ys.length ∧ xs.length ≤ 1000 ∧ ∀ (i : Nat) u v, xs[i]? = some u → ys[i]? = some v → SmT K H n u v) ∨
    (∃ a b xs ys, x = .ref a ∧ y = .ref b ∧ SqL K H a xs ∧ SqL K H b ys ∧ xs.length = ys.length ∧ xs.length ≤ 1000 ∧ ∀ (i : Nat) u v, xs[i]? = some u → ys[i]? = some v → SmT K H n u v)
/-- keys that sorted takes -/
def KOk (ks : List Key) : Prop := (∃ l : List Int, ks = l.map Sum.inl) ∨ ∃ l : List Str, ks = l.map Sum.inr ∧ ∀ z ∈ l, PyData.strOk z = true
def Sm (K : PySem.W.Frag) (H : Hp) : Nat → V → V → Prop
  | 0, x, y => flat1 x = true ∧ x = y
  | n + 1, x, y => (flat1 x = true ∧ x = y) ∨
    (∃ a b xs ys, x = .ref a ∧ y = .ref b ∧ SqT K H a xs ∧ SqT K H b ys ∧ xs.length = ys.length ∧ xs.length ≤ 1000 ∧ ∀ (i : Nat) u v, xs[i]? = some u → ys[i]? = some v → Sm K H n u v) ∨
    (∃ a b xs ys, x = .ref a ∧ y = .ref b ∧ SqL K H a xs ∧ SqL K H b ys ∧ xs.length = ys.length ∧ xs.length ≤ 1000 ∧ ∀ (i : Nat) u v, xs[i]? = some u → ys[i]? = some v → Sm K H n u v) ∨
    (∃ a b ks ls, x = .ref a ∧ y = .ref b ∧ H a = some (.dK ks) ∧ H b = some (.dK ls) ∧ (ks.map (·.1)).Perm (ls.map (·.1)) ∧ (ls.map (·.1)).Nodup ∧ ls.length < 64 ∧ KOk (ls.map (·.1)) ∧ KOk (ks.map (·.1)) ∧ ∀ k u v, valV ks k = some u → valV ls k = some v → SmT K H n u v)
theorem SmT.up {K : PySem.W.Frag} {H H' : Hp} (s : Up H H') : ∀ {n : Nat} {x y : V}, SmT K H n x y → SmT K H' n x y
  | 0, _, _, h => h
  | n + 1, x, y, h => by
    rcases h with h | ⟨a, b, xs, ys, h1, h2, h3, h4, h5, h6, h7⟩ | ⟨a, b, xs, ys, h1, h2, h3, h4, h5, h6, h7⟩
    · exact .inl h
    · exact .inr (.inl ⟨a, b, xs, ys, h1, h2, sqT_up s h3, sqT_up s h4, h5, h6, fun i u v e e' => (h7 i u v e e').up s⟩)
    · exact .inr (.inr ⟨a, b, xs, ys, h1, h2, sqL_up s h3, sqL_up s h4, h5, h6, fun i u v e e' => (h7 i u v e e').up s⟩)
theorem SmT.sm {K : PySem.W.Frag} {H : Hp} : ∀ {n : Nat} {x y : V}, SmT K H n x y → Sm K H n x y
  | 0, _, _, h => h
  | n + 1, x, y, h => by
    rcases h with h | ⟨a, b, xs, ys, h1, h2, h3, h4, h5, h6, h7⟩ | ⟨a, b, xs, ys, h1, h2, h3, h4, h5, h6, h7⟩
    · exact .inl h
    · exact .inr (.inl ⟨a, b, xs, ys, h1, h2, h3, h4, h5, h6, fun i u v e e' => (h7 i u v e e').sm⟩)
    · exact .inr (.inr (.inl ⟨a, b, xs, ys, h1, h2, h3, h4, h5, h6, fun i u v e e' => (h7 i u v e e').sm⟩))
theorem Sm.same {K : PySem.W.Frag} {H H' : Hp} (s : Same H H') : ∀ {n : Nat} {x y : V}, Sm K H n x y → Sm K H' n x y
  | 0, _, _, h => h
  | n + 1, x, y, h => by
    rcases h with h | ⟨a, b, xs, ys, h1, h2, h3, h4, h5, h6, h7⟩ | ⟨a, b, xs, ys, h1, h2, h3, h4, h5, h6, h7⟩ | ⟨a, b, ks, ls, h1, h2, h3, h4, h5, h6, h7, h8, h8', h9⟩
    · exact .inl h
    · exact .inr (.inl ⟨a, b, xs, ys, h1, h2, sqT_up (up_same s) h3, sqT_up (up_same s) h4, h5, h6, fun i u v e e' => (h7 i u v e e').same s⟩)
    · exact .inr (.inr (.inl ⟨a, b, xs, ys, h1, h2, sqL_up (up_same s) h3, sqL_up (up_same s) h4, h5, h6, fun i u v e e' => (h7 i u v e e').same s⟩))
    · exact .inr (.inr (.inr ⟨a, b, ks, ls, h1, h2, s _ _ h3, s _ _ h4, h5, h6, h7, h8, h8', fun k u v e e' => (h9 k u v e e').up (up_same s)⟩))
theorem SmT.flat {K : PySem.W.Frag} {H : Hp} {x : V} (h : flat1 x = true) : ∀ n, SmT K H n x x
  | 0 => ⟨h, rfl⟩
  | _ + 1 => .inl ⟨h, rfl⟩
theorem Sm.flat {K : PySem.W.Frag} {H : Hp} {x : V} (h : flat1 x = true) (n : Nat) : Sm K H n x x := (SmT.flat h n).sm
theorem SmT.tup {K : PySem.W.Frag} {H : Hp} {a b : Addr} {xs ys : List V} {n : Nat} (ha : SqT K H a xs) (hb : SqT K H b ys) (hl : xs.length = ys.length) (h1 : xs.length ≤ 1000) (hf : ∀ (i : Nat) u v, xs[i]? = some u → ys[i]? = some v → SmT K H n u v) : SmT K H (n + 1) (.ref a) (.ref b) :=
  .inr (.inl ⟨a, b, xs, ys, rfl, rfl, ha, hb, hl, h1, hf⟩)
theorem SmT.tup2 {K : PySem.W.Frag} {H : Hp} {a b : Addr} {x y x' y' : V} {n : Nat} (ha : SqT K H a [x, y]) (hb : SqT K H b [x', y']) (hx : SmT K H n x x') (hy : SmT K H n y y') : SmT K H (n + 1) (.ref a) (.ref b) :=
  SmT.tup ha hb rfl (by show 2 ≤ 1000; decide) fun i u v e e' => by
    match i, e, e' with
    | 0, e, e' => cases e; cases e'; exact hx
    | 1, e, e' => cases e; cases e'; exact hy
    | _ + 2, e, _ => cases e
theorem kA {K : PySem.W.Frag} {t : String} (h1 : kitB t "bool" = some false) (h2 : kitB t "str" = some false) : PySem.W.kitAny K (.type t) [.type "bool", .type "str"] = some false :=
  kitAny_cons (kit_ty h1) (fun _ => kitAny_cons (kit_ty h2) (fun _ => rfl) (fun z => nomatch z)) (fun z => nomatch z)
theorem kBool {K : PySem.W.Frag} : PySem.W.kitAny K (.type "bool") [.type "bool", .type "str"] = some true :=
  kitAny_cons (b := true) (kit_ty (by decide +kernel)) (fun z => nomatch z) (fun _ => rfl)
theorem kStr {K : PySem.W.Frag} : PySem.W.kitAny K (.type "str") [.type "bool", .type "str"] = some true :=
  kitAny_cons (b := false) (kit_ty (by decide +kernel)) (fun _ => kitAny_cons (b := true) (kit_ty (by decide +kernel)) (fun z => nomatch z) (fun _ => rfl)) (fun z => nomatch z)
theorem prBS : Paired ClsV [V.ty "bool", V.ty "str"] [.type "bool", .type "str"] := .cons (.ty _) (.cons (.ty _) .nil)
theorem dpS {K : PySem.W.Frag} {H : Hp} : ∀ l : List Str, DpAll K H (l.map V.str) (l.map PyData.str)
  | [] => .nil
  | z :: r => .cons (.str z) (dpS r)
theorem dpI {K : PySem.W.Frag} {H : Hp} : ∀ l : List Int, DpAll K H (l.map V.int) (l.map PyData.int)
  | [] => .nil
  | z :: r => .cons (.int z) (dpI r)
theorem shS {l : List Str} (h : ∀ z ∈ l, PyData.strOk z = true) : SeqAt.shaped (.list (l.map PyData.str)) = true := by
  unfold SeqAt.shaped
  rw [Bool.and_eq_true]
  refine ⟨?_, decide_eq_true ?_⟩
  · show PyData.canLayAll0 (l.map PyData.str) = true
    refine lay_all fun d hd => ?_
    obtain ⟨z, hz, rfl⟩ := List.mem_map.mp hd
    exact h z hz
  · have := depth_all (ds := l.map PyData.str) (n := 2) fun d hd => by
      obtain ⟨z, hz, rfl⟩ := List.mem_map.mp hd
      show PyData.depth (.str z) ≤ 2
      unfold PyData.depth
      omega
    unfold PyData.depth
    omega
theorem shI (l : List Int) : SeqAt.shaped (.list (l.map PyData.int)) = true := by
  unfold SeqAt.shaped
  rw [Bool.and_eq_true]
  refine ⟨?_, decide_eq_true ?_⟩
  · show PyData.canLayAll0 (l.map PyData.int) = true
    refine lay_all fun d hd => ?_
    obtain ⟨z, hz, rfl⟩ := List.mem_map.mp hd
    rfl
  · have := depth_all (ds := l.map PyData.int) (n := 2) fun d hd => by
      obtain ⟨z, hz, rfl⟩ := List.mem_map.mp hd
      show PyData.depth (.int z) ≤ 2
      unfold PyData.depth
      omega
    unfold PyData.depth
    omega
theorem perm_inl {a b : List Int} (h : (a.map (Sum.inl : Int → Key)).Perm (b.map Sum.inl)) : a.Perm b := by
  have e : ∀ l : List Int, (l.map (Sum.inl : Int → Key)).filterMap Sum.getLeft? = l := fun l => by
    induction l with
    | nil => rfl
    | cons x r ih =>
      rw [List.map_cons, List.filterMap_cons]
      simp [ih]
  have q := h.filterMap Sum.getLeft?
  rw [e, e] at q
  exact q
theorem perm_inr {a b : List Str} (h : (a.map (Sum.inr : Str → Key)).Perm (b.map Sum.inr)) : a.Perm b := by
  have e : ∀ l : List Str, (l.map (Sum.inr : Str → Key)).filterMap Sum.getRight? = l := fun l => by
    induction l with
    | nil => rfl
    | cons x r ih =>
      rw [List.map_cons, List.filterMap_cons]
      simp [ih]
  have q := h.filterMap Sum.getRight?
  rw [e, e] at q
  exact q
def spSame (K : PySem.W.Frag) : Nat → Sp
  | 0 => fun _ _ _ _ => False
  | n + 1 => fun vs H Q _ => ∃ x y : V, vs = [x, y] ∧ Sm K H n x y ∧ ∀ H', Same H H' → Q (.bl true) H'
theorem ok_same1 {n : Nat} (ev : Env P K mg) (GS : FnOk P w K mg base CX0 (n + 1) ev.f_law_same ev.d_law_same p_law_same (spSame K n)) : FnOk P w K mg base CX0 (n + 2) ev.f_law_same ev.d_law_same p_law_same (spSame K (n + 1)) := by
  refine ev.A_law_same.F.ok sc_law_same (fun vs H Q E h => ?_) (fun cdv A outer s H vs Q E hr h => ?_)
  · obtain ⟨x, y, rfl, _⟩ := h
    rfl
  obtain ⟨x, y, rfl, hS, q⟩ := h
  have hr1 : Room 1 _ := hr.mono (by omega)
  have hu := hu_of hr
  refine ⟨_, (pss_cons (ps_if (PW.pt (pw_or (pt_cmpR op_isN (pv 1) pe_non (nomark _)) (pw_or1 (pt_val (pe_callB call_isiT (by rfl) ev.B.isinstance_ (by decide +kernel) (pa_cons (pv 1) (pa_cons (pe_tup (pa_cons (pe_bltn (v := .ty "bool") (by rfl) ev.B.bool_ (by decide +kernel) rfl) (pa_cons (pe_bltn (v := .ty "str") (by rfl) ev.B.str_ (by decide +kernel) rfl) pa_nil))) pa_nil)))))))
    (pss_cons (ps_if (pt_cmpR op_isN (pv 1) pe_non (nomark _))
    (pss_one (ps_ret (pe_cmpR op_isN (pv 0) pe_non (nomark _)))) pss_nil)
    (pss_one (ps_ret (pe_and (pe_callB call_isiT (by rfl) ev.B.isinstance_ (by decide +kernel) (pa_cons (pv 0) (pa_cons (pe_tup (pa_cons (pe_bltn (v := .ty "bool") (by rfl) ev.B.bool_ (by decide +kernel) rfl) (pa_cons (pe_bltn (v := .ty "str") (by rfl) ev.B.str_ (by decide +kernel) rfl) pa_nil))) pa_nil))) (pe_one (pe_cmpR op_eq (pv 0) (pv 1) (nomark _))))))) pss_nil)
    (pss_cons (ps_if (pt_val (pe_callB call_isi (by rfl) ev.B.isinstance_ (by decide +kernel) (pa_cons (pv 1) (pa_cons (pe_bltn (v := .ty "int") (by rfl) ev.B.int_ (by decide +kernel) rfl) pa_nil))))
    (pss_one (ps_ret (pe_and (pe_call (ok_law_whole ev) hr1 (by rfl) ev.A_law_whole.m ev.A_law_whole.F.kp ev.A_law_whole.b .nil pass0 (pa_cons (pv 0) pa_nil)) (pe_one (pe_cmpR op_eq (pv 0) (pv 1) (nomark _)))))) pss_nil)
    (pss_cons (ps_if (pt_val (pe_callB call_isi (by rfl) ev.B.isinstance_ (by decide +kernel) (pa_cons (pv 1) (pa_cons (pe_bltn (v := .ty "dict") (by rfl) ev.B.dict_ (by decide +kernel) rfl) pa_nil))))
    (pss_cons (ps_if (PW.pt (pw_or (pt_not (pt_val (pe_callB call_isi (by rfl) ev.B.isinstance_ (by decide +kernel) (pa_cons (pv 0) (pa_cons (pe_bltn (v := .ty "dict") (by rfl) ev.B.dict_ (by decide +kernel) rfl) pa_nil))))) (pw_or1 (pt_cmpR (op_neD hr.units) (pe_callB (call_srtK rfl) (by rfl) ev.B.sorted_ (by decide +kernel) (pa_cons (pv 0) pa_nil)) (pe_callB (call_srtK rfl) (by rfl) ev.B.sorted_ (by decide +kernel) (pa_cons (pv 1) pa_nil)) (nomark _)))))
    (pss_one (ps_ret pe_bl)) pss_nil)
    (pss_one (ps_ret (pe_callB (cr_all rfl) (by rfl) ev.B.all_ (by decide +kernel) (pa_cons (pe_lock (pe_lc (own := [("_law_name", 2)]) (g := gName 2) (tt := tYes) (by rfl) sc_law_same.nd (pi_keys (pv 1)) (blkOk_by (own := [("_law_name", 2)]) (N := n_law_same) (sc := defScope s_law_same) (by decide +kernel)) (fun _ _ _ _ _ => pg_name (i := 2) sc_law_same.nd rfl (Or.inl rfl)) (fun _ _ _ _ _ => pts_nil) (fun _ _ _ _ _ => (pe_call GS hr (by rfl) ev.A_law_same.m ev.A_law_same.F.kp ev.A_law_same.b .nil pass0 (pa_cons (pe_dget hu (pv 0) (pv 2) (fun _ _ => rfl)) (pa_cons (pe_dget hu (pv 1) (pv 2) (fun _ _ => rfl)) pa_nil)))))) pa_nil))))) pss_nil)
    (pss_cons (ps_if (pt_cmpR op_ne (pe_callB call_isi (by rfl) ev.B.isinstance_ (by decide +kernel) (pa_cons (pv 1) (pa_cons (pe_bltn (v := .ty "tuple") (by rfl) ev.B.tuple_ (by decide +kernel) rfl) pa_nil))) (pe_callB call_isi (by rfl) ev.B.isinstance_ (by decide +kernel) (pa_cons (pv 0) (pa_cons (pe_bltn (v := .ty "tuple") (by rfl) ev.B.tuple_ (by decide +kernel) rfl) pa_nil))) (nomark _))
    (pss_one (ps_ret pe_bl)) pss_nil)
    (pss_cons (ps_if (PW.pt (pw_or (pt_cmpR op_ne (pe_callB call_isi (by rfl) ev.B.isinstance_ (by decide +kernel) (pa_cons (pv 1) (pa_cons (pe_bltn (v := .ty "list") (by rfl) ev.B.list_ (by decide +kernel) rfl) pa_nil))) (pe_callB call_isi (by rfl) ev.B.isinstance_ (by decide +kernel) (pa_cons (pv 0) (pa_cons (pe_bltn (v := .ty "list") (by rfl) ev.B.list_ (by decide +kernel) rfl) pa_nil))) (nomark _)) (pw_or1 (pt_cmpR op_ne (pe_callB call_len_seq (by rfl) ev.B.len_ PySem.boot_len (pa_cons (pv 0) pa_nil)) (pe_callB call_len_seq (by rfl) ev.B.len_ PySem.boot_len (pa_cons (pv 1) pa_nil)) (nomark _)))))
    (pss_one (ps_ret pe_bl)) pss_nil)
    (pss_one (ps_ret (pe_callB (cr_all rfl) (by rfl) ev.B.all_ (by decide +kernel) (pa_cons (pe_lc (own := [("_law_k", 3)]) (g := gName 3) (tt := tYes) (by rfl) sc_law_same.nd (pi_range1 rfl ev.B.range_ (pa_cons (pe_callB call_len_seq (by rfl) ev.B.len_ PySem.boot_len (pa_cons (pv 1) pa_nil)) pa_nil)) (blkOk_by (own := [("_law_k", 3)]) (N := n_law_same) (sc := defScope s_law_same) (by decide +kernel)) (fun _ _ _ _ _ => pg_name (i := 3) sc_law_same.nd rfl (Or.inl rfl)) (fun _ _ _ _ _ => pts_nil) (fun _ _ _ _ _ => (pe_call GS hr (by rfl) ev.A_law_same.m ev.A_law_same.F.kp ev.A_law_same.b .nil pass0 (pa_cons (pe_ix (show IxR _ (rIx K) from ix_seq) (pv 0) (pv 3) (fun _ _ => rfl)) (pa_cons (pe_ix (show IxR _ (rIx K) from ix_seq) (pv 1) (pv 3) (fun _ _ => rfl)) pa_nil))))) pa_nil))))))))), ?_⟩
  by_cases hf : flat1 x = true ∧ x = y
  · obtain ⟨hf, rfl⟩ := hf
    cases x with
    | non =>
      refine ⟨_, rfl, rfl, _, rfl, iteT (iteT ?_)⟩
      refine ⟨_, rfl, rfl, _, rfl, iteT ?_⟩
      exact ⟨_, rfl, rfl, q H fun _ _ e => e⟩
    | bl b =>
      refine ⟨_, rfl, rfl, _, rfl, iteF ⟨_, rfl, two, fun tp htp => ⟨_, tp, _, _, _, true, rfl, upd_same, prBS, .base (.bl b), kBool, true, rfl, iteT ?_⟩⟩⟩
      refine ⟨_, rfl, rfl, _, rfl, iteF ?_⟩
      refine ⟨_, rfl, two, fun tq htq => ⟨_, tq, _, _, _, true, rfl, upd_same, prBS, .base (.bl b), kBool, true, rfl, iteT ?_⟩⟩
      refine ⟨_, rfl, _, rfl, rfl, ?_⟩
      rw [decide_eq_true rfl]
      exact q _ ((same_upd htp).trans (same_upd htq))
    | int i =>
      refine ⟨_, rfl, rfl, _, rfl, iteF ⟨_, rfl, two, fun tp htp => ⟨_, tp, _, _, _, false, rfl, upd_same, prBS, .base (.int i), kA (by decide +kernel) (by decide +kernel), false, rfl, iteF ?_⟩⟩⟩
      refine ⟨_, rfl, _, _, _, _, true, rfl, .ty _, .base (.int i), kit_ty (by decide +kernel), true, rfl, iteT ?_⟩
      refine ⟨_, rfl, i, rfl, true, rfl, iteT ?_⟩
      refine ⟨_, rfl, _, rfl, rfl, ?_⟩
      rw [decide_eq_true rfl]
      exact q _ (same_upd htp)
    | str z =>
      refine ⟨_, rfl, rfl, _, rfl, iteF ⟨_, rfl, two, fun tp htp => ⟨_, tp, _, _, _, true, rfl, upd_same, prBS, .base (.str z), kStr, true, rfl, iteT ?_⟩⟩⟩
      refine ⟨_, rfl, rfl, _, rfl, iteF ?_⟩
      refine ⟨_, rfl, two, fun tq htq => ⟨_, tq, _, _, _, true, rfl, upd_same, prBS, .base (.str z), kStr, true, rfl, iteT ?_⟩⟩
      refine ⟨_, rfl, _, rfl, rfl, ?_⟩
      rw [decide_eq_true rfl]
      exact q _ ((same_upd htp).trans (same_upd htq))
    | _ => cases hf
  · cases n with
    | zero => exact absurd hS hf
    | succ m =>
      rcases hS with hS | ⟨a, b, xs, ys, rfl, rfl, ha, hb, hl, h1000, he⟩ | ⟨a, b, xs, ys, rfl, rfl, ha, hb, hl, h1000, he⟩ | ⟨a, b, ks, ls, rfl, rfl, ha, hb, hpm, hnd, h64, ok1, ok2, he⟩
      · exact absurd hS hf
      · refine ⟨_, rfl, rfl, _, rfl, iteF ⟨_, rfl, two, fun tp htp => ⟨_, tp, _, _, _, false, rfl, upd_same, prBS, tyT (xs := ys) ?_, kA (by decide +kernel) (by decide +kernel), false, rfl, iteF ?_⟩⟩⟩
        · exact sqT_up (up_same (same_upd htp)) hb
        have s1 : Same H (upd H tp (.tup [V.ty "bool", V.ty "str"])) := same_upd htp
        generalize upd H tp (.tup [V.ty "bool", V.ty "str"]) = H1 at s1
        have ha' := sqT_up (up_same s1) ha
        have hb' := sqT_up (up_same s1) hb
        refine ⟨_, rfl, _, _, _, _, false, rfl, .ty _, tyT hb', kit_ty (by decide +kernel), false, rfl, iteF ?_⟩
        refine ⟨_, rfl, _, _, _, _, false, rfl, .ty _, tyT hb', kit_ty (by decide +kernel), false, rfl, iteF ?_⟩
        refine ⟨_, rfl, _, _, _, _, true, rfl, .ty _, tyT hb', kit_ty (by decide +kernel), _, rfl, _, _, _, _, true, rfl, .ty _, tyT ha', kit_ty (by decide +kernel), rfl, _, rfl, iteF ?_⟩
        refine ⟨_, rfl, _, _, _, _, false, rfl, .ty _, tyT hb', kit_ty (by decide +kernel), _, rfl, _, _, _, _, false, rfl, .ty _, tyT ha', kit_ty (by decide +kernel), rfl, _, rfl, iteF ?_⟩
        refine ⟨_, rfl, a, _, rfl, .inr ha', _, rfl, b, _, rfl, .inr hb', rfl, _, rfl, ?_⟩
        refine iteNS (by rw [hl]) ?_
        refine ⟨_, rfl, b, _, rfl, .inr hb', _, rfl, by omega, by omega, fun D hD => ?_⟩
        refine lc_range (lo := 0) (n := ys.length) (fun i H2 => Same H1 H2 ∧ H2 D = some (.lst ((List.replicate i true).map V.bl))) ⟨same_upd hD, upd_same⟩ ?_ ?_
        · rintro i H2 hi ⟨s2, hD2⟩
          have e1 : atI xs (0 + (i : Int)) = some xs[i] := by
            rw [Int.zero_add]
            exact atI_nat (List.getElem?_eq_getElem (by omega))
          have e2 : atI ys (0 + (i : Int)) = some ys[i] := by
            rw [Int.zero_add]
            exact atI_nat (List.getElem?_eq_getElem hi)
          refine ⟨rfl, yes_ ?_⟩
          refine ⟨_, rfl, _, rfl, .inr <| .inl ⟨a, xs, _, _, rfl, rfl, sqT_up (up_same s2) ha', e1, ?_⟩⟩
          refine ⟨_, rfl, _, rfl, .inr <| .inl ⟨b, ys, _, _, rfl, rfl, sqT_up (up_same s2) hb', e2, ?_⟩⟩
          refine ⟨_, _, rfl, (he i _ _ (List.getElem?_eq_getElem (by omega)) (List.getElem?_eq_getElem hi)).same (s1.trans s2), fun H3 s3 => ?_⟩
          refine ⟨_, s3 _ _ hD2, ?_, fun p o e => ?_, ?_⟩
          · rw [List.length_map, List.length_replicate]
            exact small1000 (by omega)
          · have np : p ≠ D := ne_of_none e hD
            rw [upd_ne np]
            exact s3 _ _ (s2 _ _ e)
          · rw [upd_same, List.replicate_succ', List.map_append]
            rfl
        · rintro H2 ⟨s2, hD2⟩
          refine ⟨D, _, rfl, SqL.of hD2, ?_⟩
          rw [show (List.replicate ys.length true).all id = true by simp]
          exact q H2 (s1.trans s2)
      · refine ⟨_, rfl, rfl, _, rfl, iteF ⟨_, rfl, two, fun tp htp => ⟨_, tp, _, _, _, false, rfl, upd_same, prBS, tyL (xs := ys) ?_, kA (by decide +kernel) (by decide +kernel), false, rfl, iteF ?_⟩⟩⟩
        · exact sqL_up (up_same (same_upd htp)) hb
        have s1 : Same H (upd H tp (.tup [V.ty "bool", V.ty "str"])) := same_upd htp
        generalize upd H tp (.tup [V.ty "bool", V.ty "str"]) = H1 at s1
        have ha' := sqL_up (up_same s1) ha
        have hb' := sqL_up (up_same s1) hb
        refine ⟨_, rfl, _, _, _, _, false, rfl, .ty _, tyL hb', kit_ty (by decide +kernel), false, rfl, iteF ?_⟩
        refine ⟨_, rfl, _, _, _, _, false, rfl, .ty _, tyL hb', kit_ty (by decide +kernel), false, rfl, iteF ?_⟩
        refine ⟨_, rfl, _, _, _, _, false, rfl, .ty _, tyL hb', kit_ty (by decide +kernel), _, rfl, _, _, _, _, false, rfl, .ty _, tyL ha', kit_ty (by decide +kernel), rfl, _, rfl, iteF ?_⟩
        refine ⟨_, rfl, _, _, _, _, true, rfl, .ty _, tyL hb', kit_ty (by decide +kernel), _, rfl, _, _, _, _, true, rfl, .ty _, tyL ha', kit_ty (by decide +kernel), rfl, _, rfl, iteF ?_⟩
        refine ⟨_, rfl, a, _, rfl, .inl ha', _, rfl, b, _, rfl, .inl hb', rfl, _, rfl, ?_⟩
        refine iteNS (by rw [hl]) ?_
        refine ⟨_, rfl, b, _, rfl, .inl hb', _, rfl, by omega, by omega, fun D hD => ?_⟩
        refine lc_range (lo := 0) (n := ys.length) (fun i H2 => Same H1 H2 ∧ H2 D = some (.lst ((List.replicate i true).map V.bl))) ⟨same_upd hD, upd_same⟩ ?_ ?_
        · rintro i H2 hi ⟨s2, hD2⟩
          have e1 : atI xs (0 + (i : Int)) = some xs[i] := by
            rw [Int.zero_add]
            exact atI_nat (List.getElem?_eq_getElem (by omega))
          have e2 : atI ys (0 + (i : Int)) = some ys[i] := by
            rw [Int.zero_add]
            exact atI_nat (List.getElem?_eq_getElem hi)
          refine ⟨rfl, yes_ ?_⟩
          refine ⟨_, rfl, _, rfl, .inl ⟨a, xs, _, _, rfl, rfl, sqL_up (up_same s2) ha', e1, ?_⟩⟩
          refine ⟨_, rfl, _, rfl, .inl ⟨b, ys, _, _, rfl, rfl, sqL_up (up_same s2) hb', e2, ?_⟩⟩
          refine ⟨_, _, rfl, (he i _ _ (List.getElem?_eq_getElem (by omega)) (List.getElem?_eq_getElem hi)).same (s1.trans s2), fun H3 s3 => ?_⟩
          refine ⟨_, s3 _ _ hD2, ?_, fun p o e => ?_, ?_⟩
          · rw [List.length_map, List.length_replicate]
            exact small1000 (by omega)
          · have np : p ≠ D := ne_of_none e hD
            rw [upd_ne np]
            exact s3 _ _ (s2 _ _ e)
          · rw [upd_same, List.replicate_succ', List.map_append]
            rfl
        · rintro H2 ⟨s2, hD2⟩
          refine ⟨D, _, rfl, SqL.of hD2, ?_⟩
          rw [show (List.replicate ys.length true).all id = true by simp]
          exact q H2 (s1.trans s2)
      · have nb : ∀ o v, HO.dK ls ≠ .frz o v := fun o v z => nomatch z
        refine ⟨_, rfl, rfl, _, rfl, iteF ⟨_, rfl, two, fun tp htp => ⟨_, tp, _, _, _, false, rfl, upd_same, prBS, tyD (xs := ls) ?_, kA (by decide +kernel) (by decide +kernel), false, rfl, iteF ?_⟩⟩⟩
        · exact up_same (same_upd htp) _ _ (.inl hb)
        have s1 : Same H (upd H tp (.tup [V.ty "bool", V.ty "str"])) := same_upd htp
        generalize upd H tp (.tup [V.ty "bool", V.ty "str"]) = H1 at s1
        have ha' := s1 _ _ ha
        have hb' := s1 _ _ hb
        refine ⟨_, rfl, _, _, _, _, false, rfl, .ty _, tyD (.inl hb'), kit_ty (by decide +kernel), false, rfl, iteF ?_⟩
        refine ⟨_, rfl, _, _, _, _, true, rfl, .ty _, tyD (.inl hb'), kit_ty (by decide +kernel), true, rfl, iteT ?_⟩
        refine seq_by (fun σ H2 => σ = [some (.ref a), some (.ref b), none, none] ∧ Same H1 H2) ?_ (fun k => ?_)
        rotate_left
        · refine ⟨_, rfl, _, _, _, _, true, rfl, .ty _, tyD (.inl ha'), kit_ty (by decide +kernel), true, rfl, iteF ?_⟩
          have lk : ks.length = ls.length := by
            have := hpm.length_eq
            rw [List.length_map, List.length_map] at this
            exact this
          rcases ok1 with ⟨li, eli⟩ | ⟨lt, elt, lok⟩
          · obtain ⟨ki, eki⟩ : ∃ l : List Int, ks.map (·.1) = l.map Sum.inl := by
              rcases ok2 with ⟨l, e⟩ | ⟨l, e, _⟩
              · exact ⟨l, e⟩
              · cases l with
                | nil => exact ⟨[], e⟩
                | cons z r =>
                  rw [e, eli] at hpm
                  have := hpm.mem_iff.mp (List.mem_cons_self (a := (Sum.inr z : Key)) (l := r.map Sum.inr))
                  obtain ⟨i, _, hi⟩ := List.mem_map.mp this
                  cases hi
            have pki : ki.Perm li := by
              rw [eki, eli] at hpm
              exact perm_inl hpm
            refine ⟨_, rfl, .inr ⟨a, ks, ki, rfl, .inl ha', eki, ?_, fun ys p pm pw np => ?_⟩⟩
            · have := congrArg List.length eki
              rw [List.length_map, List.length_map] at this
              omega
            have s2 : Same H1 (upd H1 p (.lst (ys.map V.int))) := same_upd np
            refine ⟨_, rfl, .inr ⟨b, ls, li, rfl, .inl (s2 _ _ hb'), eli, ?_, fun zs p2 pm2 pw2 np2 => ?_⟩⟩
            · have := congrArg List.length eli
              rw [List.length_map, List.length_map] at this
              omega
            have e : ys = zs := srtI_same (pm.trans (pki.trans pm2.symm)) pw pw2
            subst e
            refine ⟨_, _, .lst (SqL.of (same_upd np2 _ _ upd_same)) (dpI ys), .lst (SqL.of upd_same) (dpI ys), shI ys, shI ys, _, rfl, ?_⟩
            rw [PySem.SeqAt.eqv_refl _ (SeqAt.canLay_of_shaped (shI ys))]
            exact iteF (k _ _ ⟨rfl, s2.trans (same_upd np2)⟩)
          · obtain ⟨kt, ekt, kok⟩ : ∃ l : List Str, ks.map (·.1) = l.map Sum.inr ∧ ∀ z ∈ l, PyData.strOk z = true := by
              rcases ok2 with ⟨l, e⟩ | h
              · cases l with
                | nil => exact ⟨[], e, (fun z hz => nomatch hz)⟩
                | cons z r =>
                  rw [e, elt] at hpm
                  have := hpm.mem_iff.mp (List.mem_cons_self (a := (Sum.inl z : Key)) (l := r.map Sum.inl))
                  obtain ⟨i, _, hi⟩ := List.mem_map.mp this
                  cases hi
              · exact h
            have pki : kt.Perm lt := by
              rw [ekt, elt] at hpm
              exact perm_inr hpm
            refine ⟨_, rfl, .inl ⟨a, ks, kt, rfl, .inl ha', ekt, ?_, fun ys p pm pw np => ?_⟩⟩
            · have := congrArg List.length ekt
              rw [List.length_map, List.length_map] at this
              omega
            have s2 : Same H1 (upd H1 p (.lst (ys.map V.str))) := same_upd np
            refine ⟨_, rfl, .inl ⟨b, ls, lt, rfl, .inl (s2 _ _ hb'), elt, ?_, fun zs p2 pm2 pw2 np2 => ?_⟩⟩
            · have := congrArg List.length elt
              rw [List.length_map, List.length_map] at this
              omega
            have e : ys = zs := srt_same (pm.trans (pki.trans pm2.symm)) pw pw2
            subst e
            have yok : ∀ z ∈ ys, PyData.strOk z = true := fun z hz => kok z (pm.mem_iff.mp hz)
            refine ⟨_, _, .lst (SqL.of (same_upd np2 _ _ upd_same)) (dpS ys), .lst (SqL.of upd_same) (dpS ys), shS yok, shS yok, _, rfl, ?_⟩
            rw [PySem.SeqAt.eqv_refl _ (SeqAt.canLay_of_shaped (shS yok))]
            exact iteF (k _ _ ⟨rfl, s2.trans (same_upd np2)⟩)
        rintro σ H2 ⟨rfl, s2⟩
        have hb2 := s2 _ _ hb'
        refine ⟨b, .dK ls, hb2, trivial, fun od => ?_⟩
        refine ⟨_, rfl, b, od, rfl, .inl ⟨ls, upd_same, fun D hD => ?_⟩⟩
        have nbD : D ≠ b := fun z => by
          rw [z, upd_same] at hD
          cases hD
        have ul : Up H (upd H2 b (.frz od (.dK ls))) := (up_same (s1.trans s2)).trans (up_lock hb2 nb)
        refine lc_keys (fun i H3 => Same (upd H2 b (.frz od (.dK ls))) H3 ∧ H3 D = some (.lst ((List.replicate i true).map V.bl))) ⟨same_upd hD, upd_same⟩ (fun i H3 _ h => h.1 _ _ upd_same) ?_ ?_
        · rintro i k v H3 hi ⟨s3, hD3⟩
          have u3 : Up H H3 := ul.trans (up_same s3)
          have evl : valV ls k = some v := val_nodup hnd (k, v) (List.mem_of_getElem? hi)
          obtain ⟨u, eu⟩ : ∃ u, valV ks k = some u := by
            have mk : k ∈ ks.map (·.1) := hpm.mem_iff.mpr (List.mem_map.mpr ⟨(k, v), List.mem_of_getElem? hi, rfl⟩)
            obtain ⟨p, hp, rfl⟩ := List.mem_map.mp mk
            exact ⟨_, val_nodup (hpm.nodup_iff.mpr hnd) p hp⟩
          refine ⟨rfl, yes_ ?_⟩
          refine ⟨_, rfl, _, rfl, a, u, rfl, .inl ⟨ks, k, u3 _ _ (.inl ha), rfl, eu.symm⟩, ?_⟩
          refine ⟨_, rfl, _, rfl, b, v, rfl, .inl ⟨ls, k, u3 _ _ (.inl hb), rfl, evl.symm⟩, ?_⟩
          refine ⟨_, _, rfl, ((he k u v eu evl).up u3).sm, fun H4 s4 => ?_⟩
          refine ⟨_, s4 _ _ hD3, ?_, fun p o e => ?_, ?_⟩
          · rw [List.length_map, List.length_replicate]
            have := (List.getElem?_eq_some_iff.mp hi).1
            exact small1000 (by omega)
          · have np : p ≠ D := ne_of_none e hD
            rw [upd_ne np]
            exact s4 _ _ (s3 _ _ e)
          · rw [upd_same, List.replicate_succ', List.map_append]
            rfl
        · rintro H3 ⟨s3, hD3⟩
          refine ⟨s3 _ _ upd_same, D, _, rfl, SqL.of (by rw [upd_ne nbD]; exact hD3), ?_⟩
          rw [show (List.replicate ls.length true).all id = true by simp]
          refine q _ fun p o e => ?_
          by_cases z : p = b
          · rw [z, upd_same, ← hb, ← z, e]
          · rw [upd_ne z]
            exact s3 _ _ (by rw [upd_ne z]; exact s2 _ _ (s1 _ _ e))
theorem same_none {f : Addr} {fd : FuncData} : FnOk P w K mg base CX0 1 f fd p_law_same (spSame K 0) :=
  ⟨fun _ _ _ _ h => h.elim, fun _ _ _ _ _ _ _ _ _ _ _ _ _ h => h.elim⟩
theorem ok_same (ev : Env P K mg) : ∀ n, FnOk P w K mg base CX0 (n + 1) ev.f_law_same ev.d_law_same p_law_same (spSame K n)
  | 0 => same_none
  | n + 1 => ok_same1 ev (ok_same ev n)

/-! ### one of several -/
def spAnyK (K : PySem.W.Frag) : Sp := fun vs H Q _ => ∃ (b c l : Addr) (xs : List V), vs = [.ref b, .ref l] ∧ Bag H b c ∧ nL K [b, c] H l xs ∧ xs ≠ [] ∧ xs.length ≤ 1000 ∧ ∀ (v : V) (H' : Hp), v ∈ xs → Bag H' b c → Els b c H H' → Q v H'
theorem ok_law_any (ev : Env P K mg) : FnOk P w K mg base CX0 2 ev.f_law_any ev.d_law_any p_law_any (spAnyK K) := by
  refine ev.A_law_any.F.ok sc_law_any (fun vs H Q E h => ?_) (fun cdv A outer s H vs Q E hr h => ?_)
  · obtain ⟨b, c, l, xs, rfl, _⟩ := h
    rfl
  obtain ⟨b, c, l, xs, rfl, hB, hl, hx, h1000, q⟩ := h
  refine ⟨_, (pss_one (ps_ret (pe_ix ix_list (pv 1) (pe_call (ok_law_draw ev) (hr.mono (by decide)) (by rfl) ev.A_law_draw.m ev.A_law_draw.F.kp ev.A_law_draw.b .nil pass0 (pa_cons (pv 0) (pa_cons (pe_callB call_len_seq (by rfl) ev.B.len_ PySem.boot_len (pa_cons (pv 1) pa_nil)) pa_nil))) (fun _ _ => rfl)))), ?_⟩
  have l0 := List.length_pos_iff.mpr hx
  refine ⟨_, rfl, _, rfl, _, rfl, l, _, rfl, .inl hl.sq, b, c, _, rfl, hB, by omega, by omega, fun r H' r0 r1 hB' ex => ?_⟩
  have hl' := hl.mono (show Fr [b, c] H H' from fun p o e n => by
    simp only [List.mem_cons, List.not_mem_nil, or_false, not_or] at n
    exact (ex p n.1 n.2).trans e)
  obtain ⟨v, hv, e⟩ := at_mem (xs := xs) r0 r1
  exact ⟨l, _, _, _, rfl, rfl, hl'.sq, e, q _ _ hv hB' ex⟩

/-! ### the law's own ratio -/
def spRat : Sp := fun vs H Q _ => ∃ o u : Int, vs = [.int o, .int u] ∧ u.natAbs < 2 ^ 9000 ∧ u ≠ 0 ∧ ∀ p, H p = none → Q (.ref p) (upd H p (.tup [.int (rN o u), .int (rD o u)]))
theorem ok_law_rat (ev : Env P K mg) : FnOk P w K mg base CX0 1 ev.f_law_rat ev.d_law_rat p_law_rat spRat := by
  refine ev.A_law_rat.F.ok sc_law_rat (fun vs H Q E h => ?_) (fun cdv A outer s H vs Q E hr h => ?_)
  · obtain ⟨o, u, rfl, _⟩ := h
    rfl
  obtain ⟨o, u, rfl, hb, hu0, q⟩ := h
  refine ⟨_, (pss_cons (ps_par (i := 2) (j := 3) (by rfl) sc_law_rat.nd rfl rfl (by decide) rfl rfl (pa_cons (pe_callB call_abs (by rfl) ev.B.abs_ (by decide +kernel) (pa_cons (pv 0) pa_nil)) (pa_cons (pe_callB call_abs (by rfl) ev.B.abs_ (by decide +kernel) (pa_cons (pv 1) pa_nil)) pa_nil)) (by rfl))
    (pss_cons (ps_while PassesOwn.never (pt_cmpR op_gt (pv 3) pe_int (nomark _))
    (pss_one (ps_par (i := 2) (j := 3) (by rfl) sc_law_rat.nd rfl rfl (by decide) rfl rfl (pa_cons (pv 3) (pa_cons (pe_op op_modN (pv 2) (pv 3)) pa_nil)) (by rfl))))
    (pss_cons (ps_if (pt_cmpR op_lt (pv 1) pe_int (nomark _))
    (pss_one (ps_set (i := 2) sc_law_rat.nd rfl (Or.inl rfl) (pe_op op_sub pe_int (pv 2)))) pss_nil)
    (pss_one (ps_ret (pe_tup (pa_cons (pe_op op_fdivZ (pv 0) (pv 2)) (pa_cons (pe_op op_fdivZ (pv 1) (pv 2)) pa_nil)))))))), ?_⟩
  refine ⟨_, rfl, _, rfl, _, rfl, _, rfl, _, _, rfl, ?_⟩
  rw [abs_if, abs_if]
  refine ⟨fun m σ H' => H' = H ∧ ∃ x y : Int, σ = [some (.int o), some (.int u), some (.int x), some (.int y)] ∧ 0 ≤ x ∧ 0 ≤ y ∧ m = y.natAbs ∧ Int.gcd x y = Int.gcd o u, ⟨_, rfl, o.natAbs, u.natAbs, rfl, by omega, by omega, rfl, ?_⟩, ?_⟩
  · unfold Int.gcd
    rw [Int.natAbs_natCast, Int.natAbs_natCast]
  rintro m σ H' ⟨rfl, x, y, rfl, x0, y0, rfl, e⟩
  refine ⟨_, rfl, _, _, rfl, rfl, _, rfl, ?_⟩
  refine ite2 (fun c => ?_) (fun c => ?_)
  · have hy : 0 < y := of_decide_eq_true c
    refine ⟨fun σ' H2 => H2 = H' ∧ σ' = [some (.int o), some (.int u), some (.int y), some (.int (x.fmod y))], ?_, ?_⟩
    · rintro σ' H2 ⟨rfl, rfl⟩
      exact ⟨_, fmod_abs_lt x (by omega), rfl, y, _, rfl, y0, Int.fmod_nonneg_of_pos x hy, rfl, (gcd_fmod x y).trans e⟩
    · exact ⟨_, rfl, _, rfl, _, rfl, _, _, rfl, rfl, (by show y ≠ 0; omega), _, _, rfl, rfl, rfl⟩
  · have hy : y = 0 := by
      have : ¬ 0 < y := fun z => c (decide_eq_true z)
      omega
    subst hy
    rw [Int.gcd_zero_right] at e
    have ex : x = ((Int.gcd o u : Nat) : Int) := by omega
    subst ex
    refine nx_u ?_
    refine seq_by (fun σ H2 => H2 = H' ∧ ∃ y, σ = [some (.int o), some (.int u), some (.int (cOf o u)), y]) ?_ (fun k => ?_)
    rotate_left
    · refine ⟨_, rfl, _, _, rfl, rfl, _, rfl, ?_⟩
      refine ite2 (fun z => ?_) (fun z => ?_)
      · have z' : u < 0 := of_decide_eq_true z
        refine ⟨_, rfl, _, _, rfl, rfl, k _ _ ⟨rfl, some (.int 0), ?_⟩⟩
        unfold cOf
        rw [if_pos z', ← Int.zero_sub]
        all_goals rfl
      · have z' : ¬ u < 0 := fun e => z (decide_eq_true e)
        refine k _ _ ⟨rfl, some (.int 0), ?_⟩
        unfold cOf
        rw [if_neg z']
        all_goals rfl
    rintro σ H' ⟨rfl, y, rfl⟩
    exact ⟨_, rfl, _, rfl, _, _, rfl, rfl, cOf_ok hu0 hb _, _, rfl, _, rfl, _, _, rfl, rfl, cOf_ok hu0 hb _, (by show 2 ≤ sizeLine; decide), fun p hp => q p hp⟩

theorem ev_law_rat {S T : AS} {σ : St} {H : Hp} {E : XK} {ta : TA} {r : Option (Int × Int × Unit)} (h : EvA S T ta σ H (K := K) (aCons tInt (aCons tInt aNil)) r) :
    Ev S T (tCall spRat [] E ta) σ H (of (K := K) tRat S) (bd r fun a => ratio? a.1 a.2.1) := by
  intro z e H1 f1 d Q q
  obtain ⟨x, ex, e⟩ := bd_some e
  unfold ratio? at e
  split at e
  · rename_i hc
    cases e
    refine h x ex H1 f1 d _ fun vs H2 s2 hv => ?_
    obtain ⟨v, _, rfl, h1, w, _, rfl, h2, rfl⟩ := hv
    cases h1
    cases h2
    refine ⟨x.1, x.2.1, rfl, hc.2, hc.1, fun p hp => q _ _ (s2.trans (same_new hp)) ⟨p, rfl, .inl ⟨.inl ?_, (d.same s2).not_mem hp⟩⟩⟩
    rw [upd_same, (rat_rND hc.1).1, (rat_rND hc.1).2]
  · cases e
theorem ew_law_rat {b c : Addr} {S : AS} {σ : St} {H : Hp} {E : XK} {ta : TA} {w : Wp (Int × Int × Unit)} (h : EvWA b c S ta σ H (K := K) (aCons tInt (aCons tInt aNil)) w) :
    EvW b c S (tCall spRat [] E ta) σ H (of (K := K) tRat S) (unW (fun a => ratio? a.1 a.2.1) w) := fun ts P hP H1 f d hB Q q => by
  refine h ts _ hP H1 f d hB _ fun vs H2 x ⟨z, e, hz⟩ f2 d2 hB2 hv => ?_
  dsimp only [ratio?] at e
  split at e
  · rename_i hc
    cases e
    obtain ⟨v, _, rfl, h1, w, _, rfl, h2, rfl⟩ := hv
    cases h1
    cases h2
    refine ⟨x.1, x.2.1, rfl, hc.2, hc.1, fun p hp => q _ _ _ hz (f2.trans (Fr.same (same_new hp))) (d2.same (same_new hp)) (hB2.same (same_new hp)) ⟨p, rfl, .inl ⟨.inl ?_, d2.not_mem hp⟩⟩⟩
    rw [upd_same, (rat_rND hc.1).1, (rat_rND hc.1).2]
  · cases e

/-! ### draws, mirrored -/
theorem els_fr {b c : Addr} {H H' : Hp} (ex : Els b c H H') : Fr [b, c] H H' := fun p o e n => by
  simp only [List.mem_cons, List.not_mem_nil, or_false, not_or] at n
  exact (ex p n.1 n.2).trans e
def drawW (n : Int) : Wp Int := fun P => 0 < n ∧ n < 1073741824 ∧ ∀ r, 0 ≤ r → r < n → P r
def sameW {α : Type} (p : α → Prop) (wa wb : Wp α) : Wp Bool := fun P => wa fun x => wb fun y => x = y ∧ p y ∧ P true
def noSz {α : Type} : α → Prop := fun _ => True
def szT2 {α β : Type} (p : α → Prop) (q : β → Prop) : α × β → Prop := fun x => p x.1 ∧ q x.2
def szT4 {α β γ δ : Type} (p : α → Prop) (q : β → Prop) (r : γ → Prop) (s : δ → Prop) : α × β × γ × δ → Prop := fun x => p x.1 ∧ q x.2.1 ∧ r x.2.2.1 ∧ s x.2.2.2
def szO {α : Type} (p : α → Prop) : Option α → Prop := fun o => ∀ x, o = some x → p x
def szL {α : Type} (p : α → Prop) : List α → Prop := fun xs => xs.length ≤ 1000 ∧ ∀ x ∈ xs, p x
def anyW {α : Type} (xs : List α) : Wp α := fun P => xs ≠ [] ∧ xs.length ≤ 1000 ∧ ∀ x ∈ xs, P x
section
variable {α : Type} {a : Ty K α} {b c : Addr} {S : AS} {σ : St} {H : Hp} {te : TE} {E : XK} {i : Nat}
theorem ew_draw {w : Wp Int} (hi : σ[i]? = some (some (.ref b))) (h : EvW b c S te σ H (of (K := K) tInt S) w) : EvW b c S (tCall spDraw [] E (tCons (tVar i) (tCons te tNil))) σ H (of (K := K) tInt S) (callBW drawW w) := fun ts P hP H1 f d hB Q q => by
  refine ⟨_, hi, h ts _ hP H1 f d hB _ fun v H2 n ⟨n0, n1, hn⟩ f2 d2 hB2 hv => ?_⟩
  cases hv
  exact ⟨b, c, n, rfl, hB2, n0, n1, fun r H' r0 r1 hB' ex => q _ H' r (hn r r0 r1) (f2.trans (els_fr ex)) (dom_fr d2 (els_fr ex) hB') hB' rfl⟩
theorem all2_mem {F : V → α → Prop} : ∀ {vs : List V} {xs : List α} {v : V}, All2 F vs xs → v ∈ vs → ∃ x ∈ xs, F v x
  | _, _, v, .nil, h => by simp at h
  | _, _, v, .cons h r, m => by
    rcases List.mem_cons.mp m with rfl | m
    · exact ⟨_, List.mem_cons_self .., h⟩
    · obtain ⟨x, hx, hv⟩ := all2_mem r m
      exact ⟨x, List.mem_cons_of_mem _ hx, hv⟩
theorem ew_any {w : Wp (List α)} (hi : σ[i]? = some (some (.ref b))) (h : EvW b c S te σ H (of (tL a) S) w) : EvW b c S (tCall (spAnyK K) [] E (tCons (tVar i) (tCons te tNil))) σ H (of a S) (callBW anyW w) := fun ts P hP H1 f d hB Q q => by
  refine ⟨_, hi, h ts _ hP H1 f d hB _ fun v H2 xs ⟨x0, x1, hx⟩ f2 d2 hB2 hv => ?_⟩
  obtain ⟨p, vs, rfl, hp, ha⟩ := hv
  refine ⟨b, c, p, vs, rfl, hB2, hp.sub ts, fun z => x0 (List.length_eq_zero_iff.mp (by rw [← ha.len, z]; rfl)), by rw [ha.len]; exact x1, fun v H' hv hB' ex => ?_⟩
  obtain ⟨x, mx, rx⟩ := all2_mem ha hv
  exact q _ H' x (hx x mx) (f2.trans (els_fr ex)) (dom_fr d2 (els_fr ex) hB') hB' (a.mono ((els_fr ex).sub ts) rx)
theorem ew_anyO {p : Addr} {xs : List α} {j : Nat} (hi : σ[i]? = some (some (.ref b))) (o : Own a S H p xs) (nt : p ∉ [b, c]) (hj : σ[j]? = some (some (.ref p))) : EvW b c S (tCall (spAnyK K) [] E (tCons (tVar i) (tCons (tVar j) tNil))) σ H (of a S) (anyW xs) := fun ts P ⟨x0, x1, hx⟩ H1 f d hB Q q => by
  obtain ⟨vs, hv, ha⟩ := o.fr f ts nt
  refine ⟨_, hi, _, hj, b, c, p, vs, rfl, hB, ⟨hv, nt⟩, fun z => x0 (List.length_eq_zero_iff.mp (by rw [← ha.len, z]; rfl)), by rw [ha.len]; exact x1, fun v H' hv hB' ex => ?_⟩
  obtain ⟨x, mx, rx⟩ := all2_mem ha hv
  exact q _ H' x (hx x mx) (els_fr ex) (dom_fr d (els_fr ex) hB') hB' (a.mono ((els_fr ex).sub ts) rx)
end
/-! ### things that the law finds the same -/
def SmOf {α : Type} (a : Ty K α) (k : Nat) (p : α → Prop) : Prop := ∀ {S S' H v w x}, a.rp S H v x → a.rp S' H w x → p x → ∀ n, k ≤ n → SmT K H n v w
theorem sm_int : SmOf (K := K) tInt 0 noSz := fun h1 h2 _ n _ => by cases h1; cases h2; exact SmT.flat rfl n
theorem sm_bool : SmOf (K := K) tBool 0 noSz := fun h1 h2 _ n _ => by cases h1; cases h2; exact SmT.flat rfl n
theorem sm_none : SmOf (K := K) tNone 0 noSz := fun h1 h2 _ n _ => by cases h1; cases h2; exact SmT.flat rfl n
theorem sm_str : SmOf (K := K) tStr 0 noSz := fun h1 h2 _ n _ => by rw [h1.1, h2.1]; exact SmT.flat rfl n
theorem sm_rat : SmOf (K := K) tRat 1 noSz := fun ⟨p, e, h⟩ ⟨p', e', h'⟩ _ n hn => by
  subst e; subst e'
  obtain ⟨m, rfl⟩ : ∃ m, n = m + 1 := ⟨n - 1, by omega⟩
  exact SmT.tup2 h.sq h'.sq (SmT.flat rfl m) (SmT.flat rfl m)
theorem sm_opt {α : Type} {a : Ty K α} {k : Nat} {p : α → Prop} (h : SmOf a k p) : SmOf (tOpt a) k (szO p) := fun {S S' H v w x} h1 h2 hp n hn => by
  cases x with
  | none => rw [show v = _ from h1, show w = _ from h2]; exact SmT.flat rfl n
  | some y => exact h h1.2 h2.2 (hp y rfl) n hn
theorem sm_t2 {α β : Type} {a : Ty K α} {b : Ty K β} {k l : Nat} {p : α → Prop} {q : β → Prop} (h : SmOf a k p) (h' : SmOf b l q) : SmOf (tT2 a b) (1 + max k l) (szT2 p q) := fun ⟨p, u, w, e, hp, h1, h2⟩ ⟨p', u', w', e', hp', h1', h2'⟩ sz n hn => by
  subst e; subst e'
  obtain ⟨m, rfl⟩ : ∃ m, n = m + 1 := ⟨n - 1, by omega⟩
  exact SmT.tup2 hp.sq hp'.sq (h h1 h1' sz.1 m (by omega)) (h' h2 h2' sz.2 m (by omega))
theorem sm_t4 {α β γ δ : Type} {a : Ty K α} {b : Ty K β} {c : Ty K γ} {d : Ty K δ} {k l i j : Nat} {p : α → Prop} {q : β → Prop} {r : γ → Prop} {s : δ → Prop} (ha : SmOf a k p) (hb : SmOf b l q) (hc : SmOf c i r) (hd : SmOf d j s) : SmOf (tT4 a b c d) (1 + max (max k l) (max i j)) (szT4 p q r s) := fun ⟨p, u1, u2, u3, u4, e, hp, h1, h2, h3, h4⟩ ⟨p', w1, w2, w3, w4, e', hp', g1, g2, g3, g4⟩ sz n hn => by
  subst e; subst e'
  obtain ⟨m, rfl⟩ : ∃ m, n = m + 1 := ⟨n - 1, by omega⟩
  refine SmT.tup hp.sq hp'.sq rfl (by show 4 ≤ 1000; decide) fun i x y ex ey => ?_
  match i, ex, ey with
  | 0, ex, ey => cases ex; cases ey; exact ha h1 g1 sz.1 m (by omega)
  | 1, ex, ey => cases ex; cases ey; exact hb h2 g2 sz.2.1 m (by omega)
  | 2, ex, ey => cases ex; cases ey; exact hc h3 g3 sz.2.2.1 m (by omega)
  | 3, ex, ey => cases ex; cases ey; exact hd h4 g4 sz.2.2.2 m (by omega)
theorem sm_items {α : Type} {a : Ty K α} {k : Nat} {p : α → Prop} (h : SmOf a k p) {S S' : AS} {H : Hp} {vs ws : List V} {xs : List α} (h1 : All2 (a.rp S H) vs xs) (h2 : All2 (a.rp S' H) ws xs) (hp : ∀ x ∈ xs, p x) {m : Nat} (hm : k ≤ m) : ∀ (i : Nat) u v, vs[i]? = some u → ws[i]? = some v → SmT K H m u v := fun i u v eu ev => by
  obtain ⟨x, hx, r1⟩ := h1.getL i eu
  obtain ⟨y, hy, r2⟩ := h2.getL i ev
  rw [hx] at hy
  cases hy
  exact h r1 r2 (hp x (List.mem_of_getElem? hx)) m hm
theorem sm_L {α : Type} {a : Ty K α} {k : Nat} {p : α → Prop} (h : SmOf a k p) : SmOf (tL a) (1 + k) (szL p) := fun ⟨q, vs, e, hq, h1⟩ ⟨q', ws, e', hq', h2⟩ sz n hn => by
  subst e; subst e'
  obtain ⟨m, rfl⟩ : ∃ m, n = m + 1 := ⟨n - 1, by omega⟩
  exact .inr (.inr ⟨q, q', vs, ws, rfl, rfl, hq.sq, hq'.sq, h1.len.trans h2.len.symm, by rw [h1.len]; exact sz.1, sm_items h h1 h2 sz.2 (by omega)⟩)
theorem sm_Ts {α : Type} {a : Ty K α} {k : Nat} {p : α → Prop} (h : SmOf a k p) : SmOf (tTs a) (1 + k) (szL p) := fun ⟨q, vs, e, hq, h1⟩ ⟨q', ws, e', hq', h2⟩ sz n hn => by
  subst e; subst e'
  obtain ⟨m, rfl⟩ : ∃ m, n = m + 1 := ⟨n - 1, by omega⟩
  exact .inr (.inl ⟨q, q', vs, ws, rfl, rfl, hq.sq, hq'.sq, h1.len.trans h2.len.symm, by rw [h1.len]; exact sz.1, sm_items h h1 h2 sz.2 (by omega)⟩)
theorem ew_same {α : Type} {a : Ty K α} {n : Nat} {p : α → Prop} {b c : Addr} {S : AS} {σ : St} {H : Hp} {ta tb : TE} {E : XK} {wa wb : Wp α} (hs : SmOf a n p) (ha : EvW b c S ta σ H (of a S) wa) (hb : EvW b c S tb σ H (of a S) wb) :
    EvW b c S (tCall (spSame K (n + 1)) [] E (tCons ta (tCons tb tNil))) σ H (of (K := K) tBool S) (sameW p wa wb) := fun ts P hP H1 f d hB Q q => by
  refine ha ts _ hP H1 f d hB _ fun v H2 x hx f2 d2 hB2 hv => hb ts _ hx H2 (f.trans f2) d2 hB2 _ fun w H3 y ⟨e, hp, hy⟩ f3 d3 hB3 hw => ?_
  subst e
  exact ⟨_, _, rfl, (hs (a.mono (f3.sub ts) hv) hw hp n (Nat.le_refl _)).sm, fun H' s => q _ H' true hy ((f2.trans f3).trans (Fr.same s)) (d3.same s) (hB3.same s) rfl⟩
theorem ew_sameO {α : Type} {a : Ty K α} {n : Nat} {p : List α → Prop} {b c q : Addr} {S : AS} {σ : St} {H : Hp} {ta : TE} {E : XK} {wa : Wp (List α)} {ys : List α} {i : Nat} (hs : SmOf (tL a) n p) (o : Own a S H q ys) (nt : q ∉ [b, c]) (hi : σ[i]? = some (some (.ref q))) (ha : EvW b c S ta σ H (of (tL a) S) wa) :
    EvW b c S (tCall (spSame K (n + 1)) [] E (tCons ta (tCons (tVar i) tNil))) σ H (of (K := K) tBool S) (sameW p wa (lf (some ys))) := fun ts P hP H1 f d hB Q qq => by
  refine ha ts _ hP H1 f d hB _ fun v H2 x ⟨y, ey, e, hp, hy⟩ f2 d2 hB2 hv => ⟨_, hi, ?_⟩
  cases ey
  subst e
  obtain ⟨vs, hvs, hall⟩ := (o.fr f ts nt).fr f2 ts nt
  have rp0 : (tL a).rp [] H2 (.ref q) x := ⟨q, vs, rfl, ⟨hvs, by simp⟩, hall.imp fun _ _ => a.sub fun _ m => by simp at m⟩
  exact ⟨_, _, rfl, (hs hv rp0 hp n (Nat.le_refl _)).sm, fun H' s => qq _ H' true hy (f2.trans (Fr.same s)) (d2.same s) (hB2.same s) rfl⟩

end
end G

namespace G
open PySem L2 M
section
variable {P : Program} {w : World} {K : PySem.W.Frag} {mg : Str → Option Value} {base : Heap}

def m_law_wholeU (d_law_found : (Int ⊕ Bool)) : Option Bool :=
  (bd (bd (some d_law_found) fun _ => some true) fun x => if x then (bd (bd (some d_law_found) fun x => some x.isRight) fun x => some (!x)) else some false)
abbrev sp_law_wholeU (K : PySem.W.Frag) : Sp := spF (K := K) (aCons (tU tInt tBool) aNil) (fun S => of (K := K) tBool S) (fun a => m_law_wholeU a.1)
theorem ok_law_wholeU (ev : Env P K mg) : FnOk P w K mg base CX0 1 ev.f_law_whole ev.d_law_whole p_law_whole (sp_law_wholeU K) := by
  refine ev.A_law_whole.F.ok sc_law_whole (fun vs H Q E h => ?_) (fun cdv A outer s H0 vs Q E hr h => ?_)
  · obtain ⟨S, ⟨d_law_found, _⟩, y, _, ⟨v_law_found, _, rfl, h_law_found, rfl⟩, _⟩ := h
    rfl
  obtain ⟨S, ⟨d_law_found, _⟩, y, dm, ⟨v_law_found, _, rfl, h_law_found, rfl⟩, hm, q⟩ := h
  have ts : Sub [] S := fun a m => by simp at m
  have fr0 := Fr.refl (T := []) H0
  have sub0 : Sub S S := fun a m => m
  refine ⟨_, (pss_one (ps_ret (pe_and (pe_callB call_isi (by rfl) ev.B.isinstance_ (by decide +kernel) (pa_cons (pv 0) (pa_cons (pe_bltn (v := .ty "int") (by rfl) ev.B.int_ (by decide +kernel) rfl) pa_nil))) (pe_one (pe_not (pe_callB call_isi (by rfl) ev.B.isinstance_ (by decide +kernel) (pa_cons (pv 0) (pa_cons (pe_bltn (v := .ty "bool") (by rfl) ev.B.bool_ (by decide +kernel) rfl) pa_nil)))))))), ?_⟩
  dsimp only [m_law_wholeU] at hm
  have er := hm
  exact q_ret (T := []) dm (ev_and (ev_isiUI (ev_var ts h_law_found rfl)) (ev_not (ev_isiUB (ev_var ts h_law_found rfl)))) er (fun v H1 s1 hv => q v H1 (fr0.trans (Fr.same s1)).toSame ((tBool : Ty K Bool).sub (S := S) (H := H1) sub0 hv))
def m_law_big  (P : Int → Prop) : Prop :=
  ((callBW drawW (lf (some (4 : Int)))) fun law_kind_1 => (lf (bd (some law_kind_1) fun x => bd (some (0 : Int)) fun y => some (decide (x = y))) fun c2 => if c2 then ((opW (fun x y => some (x - y)) (callBW drawW (lf (some (7 : Int)))) (lf (some (3 : Int)))) P) else (lf (bd (some law_kind_1) fun x => bd (some (1 : Int)) fun y => some (decide (x = y))) fun c3 => if c3 then ((opW (fun x y => some (x - y)) (callBW drawW (lf (some (2001 : Int)))) (lf (some (1000 : Int)))) P) else ((opW (fun x y => mul? x y) (opW (fun x y => some (x + y)) (callBW drawW (lf (bd (some ((10 : Int) ^ (9 : Int).toNat)) fun x => bd (some (7 : Int)) fun y => some (x + y)))) (lf (some (1000 : Int)))) (opW (fun x y => some (x - y)) (opW (fun x y => mul? x y) (callBW drawW (lf (some (2 : Int)))) (lf (some (2 : Int)))) (lf (some (1 : Int))))) fun law_found_4 => ((opW (fun x y => mul? x y) (lf (some law_found_4)) (opW (fun x y => some (x + y)) (lf (some (1 : Int))) (opW (fun x y => mul? x y) (callBW drawW (lf (some (3 : Int)))) (lf (some ((10 : Int) ^ (18 : Int).toNat)))))) P)))))
abbrev sp_law_big (K : PySem.W.Frag) : Sp := spB (K := K) aNil (fun S => of (K := K) tInt S) (fun a => m_law_big)
theorem ok_law_big (ev : Env P K mg) : FnOk P w K mg base CX0 2 ev.f_law_big ev.d_law_big p_law_big (sp_law_big K) := by
  refine ev.A_law_big.F.ok sc_law_big (fun vs H Q E h => ?_) (fun cdv A outer s H0 vs Q E hr h => ?_)
  · obtain ⟨S, b, c, r, _, P, rfl, _, _, _, rfl, _⟩ := h
    rfl
  obtain ⟨S, b, c, r, _, P, rfl, dm, ts, hB, rfl, hm, q⟩ := h
  have fr0 := Fr.refl (T := [b, c]) H0
  have sub0 : Sub S S := fun a m => m
  refine ⟨_, (pss_cons (ps_set (i := 1) sc_law_big.nd rfl (Or.inl rfl) (pe_call (ok_law_draw ev) (hr.mono (by decide)) (by rfl) ev.A_law_draw.m ev.A_law_draw.F.kp ev.A_law_draw.b .nil pass0 (pa_cons (pv 0) (pa_cons pe_int pa_nil))))
    (pss_cons (ps_if (pt_cmpR op_eq (pv 1) pe_int (nomark _))
    (pss_one (ps_ret (pe_op op_sub (pe_call (ok_law_draw ev) (hr.mono (by decide)) (by rfl) ev.A_law_draw.m ev.A_law_draw.F.kp ev.A_law_draw.b .nil pass0 (pa_cons (pv 0) (pa_cons pe_int pa_nil))) pe_int))) pss_nil)
    (pss_cons (ps_if (pt_cmpR op_eq (pv 1) pe_int (nomark _))
    (pss_one (ps_ret (pe_op op_sub (pe_call (ok_law_draw ev) (hr.mono (by decide)) (by rfl) ev.A_law_draw.m ev.A_law_draw.F.kp ev.A_law_draw.b .nil pass0 (pa_cons (pv 0) (pa_cons pe_int pa_nil))) pe_int))) pss_nil)
    (pss_cons (ps_set (i := 2) sc_law_big.nd rfl (Or.inl rfl) (pe_op op_mulW (pe_op op_add (pe_call (ok_law_draw ev) (hr.mono (by decide)) (by rfl) ev.A_law_draw.m ev.A_law_draw.F.kp ev.A_law_draw.b .nil pass0 (pa_cons (pv 0) (pa_cons (pe_op op_add (pe_op op_pow pe_int pe_int) pe_int) pa_nil))) pe_int) (pe_op op_sub (pe_op op_mulW (pe_call (ok_law_draw ev) (hr.mono (by decide)) (by rfl) ev.A_law_draw.m ev.A_law_draw.F.kp ev.A_law_draw.b .nil pass0 (pa_cons (pv 0) (pa_cons pe_int pa_nil))) pe_int) pe_int)))
    (pss_one (ps_ret (pe_op op_mulW (pv 2) (pe_op op_add pe_int (pe_op op_mulW (pe_call (ok_law_draw ev) (hr.mono (by decide)) (by rfl) ev.A_law_draw.m ev.A_law_draw.F.kp ev.A_law_draw.b .nil pass0 (pa_cons (pv 0) (pa_cons pe_int pa_nil))) (pe_op op_pow pe_int pe_int)))))))))), ?_⟩
  dsimp only [m_law_big] at hm
  refine qw_asg dm hB ts (ew_draw (K := K) rfl (ew_pure (ev_int (K := K)))) hm (fun v_law_kind H1 law_kind_1 hm fr1 dm1 hB1 h_law_kind => ?_)
  have fr0 := fr0.trans fr1
  have dm := dm1
  have hB := hB1
  have h_law_kind : (tInt : Ty K Int).rp S H1 v_law_kind law_kind_1 := h_law_kind
  obtain ⟨c2, e2, hm⟩ := hm
  refine q_if (T := [b, c]) dm (eb_test (K := K) (ev_op (od_eqI (K := K)) (ev_var ts h_law_kind rfl) (ev_int (K := K)))) e2 (fun hc H2 s2 => ?_) (fun hc H2 s2 => ?_)
  · skip
    subst hc
    have hm := ifp_t hm
    have fr0 := fr0.trans (Fr.same s2)
    have dm := dm.same s2
    have h_law_kind := (tInt : Ty K Int).mono (S := S) (Fr.same s2) h_law_kind
    have hB := hB.same s2
    exact qw_ret dm hB ts (ew_op (od_sub (K := K)) (ew_draw (K := K) rfl (ew_pure (ev_int (K := K)))) (ew_pure (ev_int (K := K)))) hm (fun v H5 z hm fr5 dm5 hB5 hv => q v H5 z hm (fr0.trans fr5) hB5 ((tInt : Ty K Int).sub (S := S) (H := H5) sub0 hv))
  subst hc
  have hm := ifp_f hm
  have fr0 := fr0.trans (Fr.same s2)
  have dm := dm.same s2
  have h_law_kind := (tInt : Ty K Int).mono (S := S) (Fr.same s2) h_law_kind
  have hB := hB.same s2
  refine q_next ?_
  obtain ⟨c3, e3, hm⟩ := hm
  refine q_if (T := [b, c]) dm (eb_test (K := K) (ev_op (od_eqI (K := K)) (ev_var ts h_law_kind rfl) (ev_int (K := K)))) e3 (fun hc H3 s3 => ?_) (fun hc H3 s3 => ?_)
  · skip
    subst hc
    have hm := ifp_t hm
    have fr0 := fr0.trans (Fr.same s3)
    have dm := dm.same s3
    have h_law_kind := (tInt : Ty K Int).mono (S := S) (Fr.same s3) h_law_kind
    have hB := hB.same s3
    exact qw_ret dm hB ts (ew_op (od_sub (K := K)) (ew_draw (K := K) rfl (ew_pure (ev_int (K := K)))) (ew_pure (ev_int (K := K)))) hm (fun v H6 z hm fr6 dm6 hB6 hv => q v H6 z hm (fr0.trans fr6) hB6 ((tInt : Ty K Int).sub (S := S) (H := H6) sub0 hv))
  subst hc
  have hm := ifp_f hm
  have fr0 := fr0.trans (Fr.same s3)
  have dm := dm.same s3
  have h_law_kind := (tInt : Ty K Int).mono (S := S) (Fr.same s3) h_law_kind
  have hB := hB.same s3
  refine q_next ?_
  refine qw_asg dm hB ts (ew_op (od_mul (K := K)) (ew_op (od_add (K := K)) (ew_draw (K := K) rfl (ew_pure (ev_op (od_add (K := K)) (ev_powC (K := K) ⟨by decide, by decide, by decide⟩) (ev_int (K := K))))) (ew_pure (ev_int (K := K)))) (ew_op (od_sub (K := K)) (ew_op (od_mul (K := K)) (ew_draw (K := K) rfl (ew_pure (ev_int (K := K)))) (ew_pure (ev_int (K := K)))) (ew_pure (ev_int (K := K))))) hm (fun v_law_found H4 law_found_4 hm fr4 dm4 hB4 h_law_found => ?_)
  have fr0 := fr0.trans fr4
  have h_law_kind := (tInt : Ty K Int).mono (S := S) (fr4.sub ts) h_law_kind
  have dm := dm4
  have hB := hB4
  have h_law_found : (tInt : Ty K Int).rp S H4 v_law_found law_found_4 := h_law_found
  exact qw_ret dm hB ts (ew_op (od_mul (K := K)) (ew_pure (ev_var ts h_law_found rfl)) (ew_op (od_add (K := K)) (ew_pure (ev_int (K := K))) (ew_op (od_mul (K := K)) (ew_draw (K := K) rfl (ew_pure (ev_int (K := K)))) (ew_pure (ev_powC (K := K) ⟨by decide, by decide, by decide⟩))))) hm (fun v H7 z hm fr7 dm7 hB7 hv => q v H7 z hm (fr0.trans fr7) hB7 ((tInt : Ty K Int).sub (S := S) (H := H7) sub0 hv))
def m_law_ratio (d_law_reach : Int) (P : Rat → Prop) : Prop :=
  ((callBW anyW (lf (bd (some (1 : Int)) fun x => bd (bd (some (1 : Int)) fun x => bd (bd (some (2 : Int)) fun x => bd (bd (some (2 : Int)) fun x => bd (bd (some (3 : Int)) fun x => bd (bd (some (4 : Int)) fun x => bd (bd (some (7 : Int)) fun x => bd (bd (some (60 : Int)) fun x => bd (some []) fun y => some (x :: y)) fun y => some (x :: y)) fun y => some (x :: y)) fun y => some (x :: y)) fun y => some (x :: y)) fun y => some (x :: y)) fun y => some (x :: y)) fun y => some (x :: y)))) fun law_low_1 => (lf (bd (some d_law_reach) fun x => bd (some law_low_1) fun y => mul? x y) fun law_room_2 => ((unW (fun a => ratio? a.1 a.2.1) (tup2W (opW (fun x y => some (x - y)) (callBW drawW (lf (bd (bd (some (2 : Int)) fun x => bd (some law_room_2) fun y => mul? x y) fun x => bd (some (1 : Int)) fun y => some (x + y)))) (lf (some law_room_2))) (tup2W (lf (some law_low_1)) (lf (some ()))))) P)))
abbrev sp_law_ratio (K : PySem.W.Frag) : Sp := spB (K := K) (aCons tInt aNil) (fun S => of (K := K) tRat S) (fun a => m_law_ratio a.1)
theorem ok_law_ratio (ev : Env P K mg) : FnOk P w K mg base CX0 3 ev.f_law_ratio ev.d_law_ratio p_law_ratio (sp_law_ratio K) := by
  refine ev.A_law_ratio.F.ok sc_law_ratio (fun vs H Q E h => ?_) (fun cdv A outer s H0 vs Q E hr h => ?_)
  · obtain ⟨S, b, c, r, ⟨d_law_reach, _⟩, P, rfl, _, _, _, ⟨v_law_reach, _, rfl, h_law_reach, rfl⟩, _⟩ := h
    rfl
  obtain ⟨S, b, c, r, ⟨d_law_reach, _⟩, P, rfl, dm, ts, hB, ⟨v_law_reach, _, rfl, h_law_reach, rfl⟩, hm, q⟩ := h
  have fr0 := Fr.refl (T := [b, c]) H0
  have sub0 : Sub S S := fun a m => m
  refine ⟨_, (pss_cons (ps_set (i := 2) sc_law_ratio.nd rfl (Or.inl rfl) (pe_call (ok_law_any ev) (hr.mono (by decide)) (by rfl) ev.A_law_any.m ev.A_law_any.F.kp ev.A_law_any.b .nil pass0 (pa_cons (pv 0) (pa_cons (pe_lst (pa_cons pe_int (pa_cons pe_int (pa_cons pe_int (pa_cons pe_int (pa_cons pe_int (pa_cons pe_int (pa_cons pe_int (pa_cons pe_int pa_nil))))))))) pa_nil))))
    (pss_cons (ps_set (i := 3) sc_law_ratio.nd rfl (Or.inl rfl) (pe_op op_mulW (pv 1) (pv 2)))
    (pss_one (ps_ret (pe_call (ok_law_rat ev) (hr.mono (by decide)) (by rfl) ev.A_law_rat.m ev.A_law_rat.F.kp ev.A_law_rat.b .nil pass0 (pa_cons (pe_op op_sub (pe_call (ok_law_draw ev) (hr.mono (by decide)) (by rfl) ev.A_law_draw.m ev.A_law_draw.F.kp ev.A_law_draw.b .nil pass0 (pa_cons (pv 0) (pa_cons (pe_op op_add (pe_op op_mulW pe_int (pv 3)) pe_int) pa_nil))) (pv 3)) (pa_cons (pv 2) pa_nil))))))), ?_⟩
  dsimp only [m_law_ratio] at hm
  refine qw_asg dm hB ts (ew_any rfl (ew_pure (ev_new (ev_lst (el_cons (ev_int (K := K)) (el_cons (ev_int (K := K)) (el_cons (ev_int (K := K)) (el_cons (ev_int (K := K)) (el_cons (ev_int (K := K)) (el_cons (ev_int (K := K)) (el_cons (ev_int (K := K)) (el_cons (ev_int (K := K)) el_nil)))))))) (by decide))))) hm (fun v_law_low H1 law_low_1 hm fr1 dm1 hB1 h_law_low => ?_)
  have fr0 := fr0.trans fr1
  have h_law_reach := (tInt : Ty K Int).mono (S := S) (fr1.sub ts) h_law_reach
  have dm := dm1
  have hB := hB1
  have h_law_low : (tInt : Ty K Int).rp S H1 v_law_low law_low_1 := h_law_low
  obtain ⟨law_room_2, e2, hm⟩ := hm
  refine q_asg (T := [b, c]) dm (ev_op (od_mul (K := K)) (ev_var ts h_law_reach rfl) (ev_var ts h_law_low rfl)) e2 (fun v_law_room H2 s2 h_law_room => ?_)
  have fr0 := fr0.trans (Fr.same s2)
  have dm := dm.same s2
  have h_law_reach := (tInt : Ty K Int).mono (S := S) (Fr.same s2) h_law_reach
  have h_law_low := (tInt : Ty K Int).mono (S := S) (Fr.same s2) h_law_low
  have hB := hB.same s2
  have h_law_room : (tInt : Ty K Int).rp S H2 v_law_room law_room_2 := h_law_room
  exact qw_ret dm hB ts (ew_law_rat (wa_cons (ew_op (od_sub (K := K)) (ew_draw (K := K) rfl (ew_pure (ev_op (od_add (K := K)) (ev_op (od_mul (K := K)) (ev_int (K := K)) (ev_var ts h_law_room rfl)) (ev_int (K := K))))) (ew_pure (ev_var ts h_law_room rfl))) (wa_cons (ew_pure (ev_var ts h_law_low rfl)) wa_nil))) hm (fun v H3 z hm fr3 dm3 hB3 hv => q v H3 z hm (fr0.trans fr3) hB3 ((tRat : Ty K Rat).sub (S := S) (H := H3) sub0 hv))
def m_law_pair (d_law_spot : (Rat × Rat)) (d_law_unit : Int) : Option (Int × Int) :=
  (bd (bd (bd (some d_law_spot) fun x => some [x.1, x.2]) fun xs => mapL? (fun law_one_here_1 => (bd (bd (bd (some (2 : Int)) fun x => bd (bd (some law_one_here_1) fun x => some x.num) fun y => mul? x y) fun x => bd (bd (some d_law_unit) fun x => bd (bd (some law_one_here_1) fun x => some (x.den : Int)) fun y => mul? x y) fun y => some (x + y)) fun x => bd (bd (bd (some (2 : Int)) fun x => bd (some d_law_unit) fun y => mul? x y) fun x => bd (bd (some law_one_here_1) fun x => some (x.den : Int)) fun y => mul? x y) fun y => fdiv? x y)) xs) fun law_found_2 => (bd (bd (some law_found_2) fun x => bd (some (0 : Int)) fun y => atI x y) fun x => bd (bd (some law_found_2) fun x => bd (some (1 : Int)) fun y => atI x y) fun y => some (x, y)))
abbrev sp_law_pair (K : PySem.W.Frag) : Sp := spF (K := K) (aCons (tT2 tRat tRat) (aCons tInt aNil)) (fun S => of (K := K) (tT2 tInt tInt) S) (fun a => m_law_pair a.1 a.2.1)
theorem ok_law_pair (ev : Env P K mg) : FnOk P w K mg base CX0 1 ev.f_law_pair ev.d_law_pair p_law_pair (sp_law_pair K) := by
  refine ev.A_law_pair.F.ok sc_law_pair (fun vs H Q E h => ?_) (fun cdv A outer s H0 vs Q E hr h => ?_)
  · obtain ⟨S, ⟨d_law_spot, d_law_unit, _⟩, y, _, ⟨v_law_spot, _, rfl, h_law_spot, v_law_unit, _, rfl, h_law_unit, rfl⟩, _⟩ := h
    rfl
  obtain ⟨S, ⟨d_law_spot, d_law_unit, _⟩, y, dm, ⟨v_law_spot, _, rfl, h_law_spot, v_law_unit, _, rfl, h_law_unit, rfl⟩, hm, q⟩ := h
  have ts : Sub [] S := fun a m => by simp at m
  have fr0 := Fr.refl (T := []) H0
  have sub0 : Sub S S := fun a m => m
  refine ⟨_, (pss_cons (ps_setLc (i := 2) (own := [("_law_one_here", 3)]) (g := gName 3) (tt := tYes) (by rfl) sc_law_pair.nd rfl rfl (sw_true rfl rfl rfl (by decide +kernel)) (pi_tup (pv 0)) (blkOk_by (own := [("_law_one_here", 3)]) (N := n_law_pair) (sc := defScope s_law_pair) (by decide +kernel)) (fun _ _ _ _ _ => pg_name (i := 3) sc_law_pair.nd rfl (Or.inl rfl)) (fun _ _ _ _ _ => pts_nil) (fun _ _ _ _ _ => (pe_op op_fdivZ (pe_op op_add (pe_op op_mulW pe_int (pe_ix (show IxR _ (rIxT K) from ix_tup) (pv 3) pe_int (fun _ _ => rfl))) (pe_op op_mulW (pv 1) (pe_ix (show IxR _ (rIxT K) from ix_tup) (pv 3) pe_int (fun _ _ => rfl)))) (pe_op op_mulW (pe_op op_mulW pe_int (pv 1)) (pe_ix (show IxR _ (rIxT K) from ix_tup) (pv 3) pe_int (fun _ _ => rfl))))))
    (pss_one (ps_ret (pe_tup (pa_cons (pe_ix ix_list (pv 2) pe_int (fun _ _ => rfl)) (pa_cons (pe_ix ix_list (pv 2) pe_int (fun _ _ => rfl)) pa_nil)))))), ?_⟩
  dsimp only [m_law_pair] at hm
  obtain ⟨law_found_2, e2, hm⟩ := bd_some hm
  refine q_asg (T := []) dm (ev_new (ev_lc (sr_t2 (ev_var ts h_law_spot rfl)) (fun v => by rfl) (fun law_one_here_1 v_law_one_here H2' H' p' fr' nD' sm' h_law_one_here => by have h_law_spot := ((tT2 tRat tRat) : Ty K (Rat × Rat)).mono (Fr.same sm') (((tT2 tRat tRat) : Ty K (Rat × Rat)).ext (S := S) nD' (((tT2 tRat tRat) : Ty K (Rat × Rat)).mono (Fr.sub ts fr') h_law_spot)); have h_law_unit := (tInt : Ty K Int).mono (Fr.same sm') ((tInt : Ty K Int).ext (S := S) nD' ((tInt : Ty K Int).mono (Fr.sub ts fr') h_law_unit)); have ts0' := ts; have ts : Sub [] (p' :: S) := (fun a m => by simp at m);  exact (ev_op (od_fdiv (K := K)) (ev_op (od_add (K := K)) (ev_op (od_mul (K := K)) (ev_int (K := K)) (ev_ixR0 (ev_var ts h_law_one_here rfl))) (ev_op (od_mul (K := K)) (ev_var ts h_law_unit rfl) (ev_ixR1 (ev_var ts h_law_one_here rfl)))) (ev_op (od_mul (K := K)) (ev_op (od_mul (K := K)) (ev_int (K := K)) (ev_var ts h_law_unit rfl)) (ev_ixR1 (ev_var ts h_law_one_here rfl))))))) e2 (fun v_law_found H2 s2 h_law_found => ?_)
  have fr0 := fr0.trans (Fr.same s2)
  have dm := dm.same s2
  have h_law_spot := ((tT2 tRat tRat) : Ty K (Rat × Rat)).mono (S := S) (Fr.same s2) h_law_spot
  have h_law_unit := (tInt : Ty K Int).mono (S := S) (Fr.same s2) h_law_unit
  have h_law_found : ((tL tInt) : Ty K (List Int)).rp S H2 v_law_found law_found_2 := h_law_found
  have er := hm
  exact q_ret (T := []) dm (ev_tup2 (ev_op od_ixL (ev_var ts h_law_found rfl) (ev_int (K := K))) (ev_op od_ixL (ev_var ts h_law_found rfl) (ev_int (K := K)))) er (fun v H3 s3 hv => q v H3 (fr0.trans (Fr.same s3)).toSame (((tT2 tInt tInt) : Ty K (Int × Int)).sub (S := S) (H := H3) sub0 hv))
def m_law_due (d_law_parts : (List (Int ⊕ Bool))) : Option (Option Str) :=
  (bd (bd (some ("step" : Str)) fun x => bd (bd (some ("tolerance" : Str)) fun x => bd (bd (some ("letter" : Str)) fun x => bd (bd (some ("side" : Str)) fun x => bd (some []) fun y => some (x :: y)) fun y => some (x :: y)) fun y => some (x :: y)) fun y => some (x :: y)) fun law_words_1 => (bd (bd (some (1 : Int)) fun x => bd (bd (some (0 : Int)) fun x => bd (bd (some (1 : Int)) fun x => bd (bd (some (8 : Int)) fun x => bd (some []) fun y => some (x :: y)) fun y => some (x :: y)) fun y => some (x :: y)) fun y => some (x :: y)) fun law_lows_2 => (bd (bd (some (100 : Int)) fun x => bd (bd (some (100 : Int)) fun x => bd (bd (some (9 : Int)) fun x => bd (bd (some (64 : Int)) fun x => bd (some []) fun y => some (x :: y)) fun y => some (x :: y)) fun y => some (x :: y)) fun y => some (x :: y)) fun law_highs_3 => (bd (bd (some (4 : Int)) rng1?) fun xs6 => bd (loopC (ρ := (Option Str)) (fun s_4 law_k_4 => (bd (bd (bd (bd (bd (bd (some d_law_parts) fun x => bd (some law_k_4) fun y => atI x y) fun x => bd (some ()) fun y => some (x, y)) fun a => m_law_wholeU a.1) fun x => some (!x)) fun x => if x then some true else (bd (bd (bd (some law_lows_2) fun x => bd (some law_k_4) fun y => atI x y) fun x => bd (bd (bd (some d_law_parts) fun x => bd (some law_k_4) fun y => atI x y) getL?) fun y => if decide (x ≤ y) then bd (bd (some law_highs_3) fun x => bd (some law_k_4) fun y => atI x y) fun z => some (decide (y ≤ z)) else some false) fun x => some (!x))) fun c5 => if c5 then (bd (bd (bd (some law_words_1) fun x => bd (some law_k_4) fun y => atI x y) fun x => some (some x)) fun y => some (Ct.ret y)) else some (Ct.go ()))) xs6 ()) fun r_4 => match r_4 with | .ret y => some y | .go t_4 => (bd (some ()) fun _ => some none) | .brk _ => none))))
abbrev sp_law_due (K : PySem.W.Frag) : Sp := spF (K := K) (aCons (tL (tU tInt tBool)) aNil) (fun S => of (K := K) (tOpt tStr) S) (fun a => m_law_due a.1)
theorem ok_law_due (ev : Env P K mg) : FnOk P w K mg base CX0 2 ev.f_law_due ev.d_law_due p_law_due (sp_law_due K) := by
  refine ev.A_law_due.F.ok sc_law_due (fun vs H Q E h => ?_) (fun cdv A outer s H0 vs Q E hr h => ?_)
  · obtain ⟨S, ⟨d_law_parts, _⟩, y, _, ⟨v_law_parts, _, rfl, h_law_parts, rfl⟩, _⟩ := h
    rfl
  obtain ⟨S, ⟨d_law_parts, _⟩, y, dm, ⟨v_law_parts, _, rfl, h_law_parts, rfl⟩, hm, q⟩ := h
  have ts : Sub [] S := fun a m => by simp at m
  have fr0 := Fr.refl (T := []) H0
  have sub0 : Sub S S := fun a m => m
  refine ⟨_, (pss_cons (ps_set (i := 1) sc_law_due.nd rfl (Or.inl rfl) (pe_lst (pa_cons pe_str (pa_cons pe_str (pa_cons pe_str (pa_cons pe_str pa_nil))))))
    (pss_cons (ps_set (i := 2) sc_law_due.nd rfl (Or.inl rfl) (pe_lst (pa_cons pe_int (pa_cons pe_int (pa_cons pe_int (pa_cons pe_int pa_nil))))))
    (pss_cons (ps_set (i := 3) sc_law_due.nd rfl (Or.inl rfl) (pe_lst (pa_cons pe_int (pa_cons pe_int (pa_cons pe_int (pa_cons pe_int pa_nil))))))
    (pss_cons (ps_for PassesOwn.never rfl (pi_range1 rfl ev.B.range_ (pa_cons pe_int pa_nil)) (pg_name (i := 4) sc_law_due.nd rfl (Or.inl rfl))
    (pss_one (ps_if (PW.pt (pw_or (pt_not (pt_val (pe_call (ok_law_wholeU ev) (hr.mono (by decide)) (by rfl) ev.A_law_whole.m ev.A_law_whole.F.kp ev.A_law_whole.b .nil pass0 (pa_cons (pe_ix ix_list (pv 0) (pv 4) (fun _ _ => rfl)) pa_nil)))) (pw_or1 (pt_not (pt_chain op_le op_le (pe_ix ix_list (pv 2) (pv 4) (fun _ _ => rfl)) (pe_ix ix_list (pv 0) (pv 4) (fun _ _ => rfl)) (pe_ix ix_list (pv 3) (pv 4) (fun _ _ => rfl)))))))
    (pss_one (ps_ret (pe_ix ix_list (pv 1) (pv 4) (fun _ _ => rfl)))) pss_nil)))
    (pss_one (ps_ret pe_non)))))), ?_⟩
  dsimp only [m_law_due] at hm
  obtain ⟨law_words_1, e1, hm⟩ := bd_some hm
  refine q_asg (T := []) dm (ev_new (ev_lst (el_cons (ev_str (K := K)) (el_cons (ev_str (K := K)) (el_cons (ev_str (K := K)) (el_cons (ev_str (K := K)) el_nil)))) (by decide))) e1 (fun v_law_words H1 s1 h_law_words => ?_)
  have fr0 := fr0.trans (Fr.same s1)
  have dm := dm.same s1
  have h_law_parts := ((tL (tU tInt tBool)) : Ty K (List (Int ⊕ Bool))).mono (S := S) (Fr.same s1) h_law_parts
  have h_law_words : ((tL tStr) : Ty K (List Str)).rp S H1 v_law_words law_words_1 := h_law_words
  obtain ⟨law_lows_2, e2, hm⟩ := bd_some hm
  refine q_asg (T := []) dm (ev_new (ev_lst (el_cons (ev_int (K := K)) (el_cons (ev_int (K := K)) (el_cons (ev_int (K := K)) (el_cons (ev_int (K := K)) el_nil)))) (by decide))) e2 (fun v_law_lows H2 s2 h_law_lows => ?_)
  have fr0 := fr0.trans (Fr.same s2)
  have dm := dm.same s2
  have h_law_parts := ((tL (tU tInt tBool)) : Ty K (List (Int ⊕ Bool))).mono (S := S) (Fr.same s2) h_law_parts
  have h_law_words := ((tL tStr) : Ty K (List Str)).mono (S := S) (Fr.same s2) h_law_words
  have h_law_lows : ((tL tInt) : Ty K (List Int)).rp S H2 v_law_lows law_lows_2 := h_law_lows
  obtain ⟨law_highs_3, e3, hm⟩ := bd_some hm
  refine q_asg (T := []) dm (ev_new (ev_lst (el_cons (ev_int (K := K)) (el_cons (ev_int (K := K)) (el_cons (ev_int (K := K)) (el_cons (ev_int (K := K)) el_nil)))) (by decide))) e3 (fun v_law_highs H3 s3 h_law_highs => ?_)
  have fr0 := fr0.trans (Fr.same s3)
  have dm := dm.same s3
  have h_law_parts := ((tL (tU tInt tBool)) : Ty K (List (Int ⊕ Bool))).mono (S := S) (Fr.same s3) h_law_parts
  have h_law_words := ((tL tStr) : Ty K (List Str)).mono (S := S) (Fr.same s3) h_law_words
  have h_law_lows := ((tL tInt) : Ty K (List Int)).mono (S := S) (Fr.same s3) h_law_lows
  have h_law_highs : ((tL tInt) : Ty K (List Int)).rp S H3 v_law_highs law_highs_3 := h_law_highs
  obtain ⟨xs6, e_xs6, hm⟩ := bd_some hm
  obtain ⟨r_4, el4, hm4⟩ := bd_some hm
  refine q_for_s (T := []) dm (sr_r1 (K := K) (ev_int (K := K))) e_xs6 el4 (fun s_4 σ' H' => ∃ v_law_parts : V, ∃ v_law_words : V, ∃ v_law_lows : V, ∃ v_law_highs : V, ∃ f_4 : Option V, σ' = [some v_law_parts, some v_law_words, some v_law_lows, some v_law_highs, f_4] ∧ Fr [] H0 H' ∧ Dom S H' ∧ ((tL (tU tInt tBool)) : Ty K (List (Int ⊕ Bool))).rp S H' v_law_parts d_law_parts ∧ ((tL tStr) : Ty K (List Str)).rp S H' v_law_words law_words_1 ∧ ((tL tInt) : Ty K (List Int)).rp S H' v_law_lows law_lows_2 ∧ ((tL tInt) : Ty K (List Int)).rp S H' v_law_highs law_highs_3) (fun H4 s4 => ?_) (fun hd4 s_4 law_k_4 cr4 v_law_k σ' H' hI h_law_k hx4 hm hret4 hbrk4 => ?_) (fun t_4 σ' H' er hI => ?_)
  · skip
    have fr0 := fr0.trans (Fr.same s4)
    have dm := dm.same s4
    have h_law_parts := ((tL (tU tInt tBool)) : Ty K (List (Int ⊕ Bool))).mono (S := S) (Fr.same s4) h_law_parts
    have h_law_words := ((tL tStr) : Ty K (List Str)).mono (S := S) (Fr.same s4) h_law_words
    have h_law_lows := ((tL tInt) : Ty K (List Int)).mono (S := S) (Fr.same s4) h_law_lows
    have h_law_highs := ((tL tInt) : Ty K (List Int)).mono (S := S) (Fr.same s4) h_law_highs
    exact ⟨v_law_parts, v_law_words, v_law_lows, v_law_highs, _, rfl, fr0, dm, h_law_parts, h_law_words, h_law_lows, h_law_highs⟩
  · skip
    obtain ⟨v_law_parts, v_law_words, v_law_lows, v_law_highs, f_4, rfl, fr0, dm, h_law_parts, h_law_words, h_law_lows, h_law_highs⟩ := hI
    let HL := H'
    have freshl : ∀ a ∈ S, a ∉ S → H' a = none := fun a m n => absurd m n
    have frl : Fr S HL H' := Fr.refl (T := S) H'
    have tsl := ts
    have subl : Sub S S := fun a m => m
    have h_law_k : (tInt : Ty K Int).rp S H' v_law_k law_k_4 := h_law_k
    obtain ⟨c5, e5, hm⟩ := bd_some hm
    refine l_if (T := []) dm (eb_or (eb_not (eb_B (K := K) (ev_call (ea_cons (ev_op od_ixL (ev_var ts h_law_parts rfl) (ev_var ts h_law_k rfl)) ea_nil)))) (eb_not (eb_test (K := K) (ev_chain (od_le (K := K)) (od_le (K := K)) (ev_op od_ixL (ev_var ts h_law_lows rfl) (ev_var ts h_law_k rfl)) (ev_getL (ev_op od_ixL (ev_var ts h_law_parts rfl) (ev_var ts h_law_k rfl))) (ev_op od_ixL (ev_var ts h_law_highs rfl) (ev_var ts h_law_k rfl)))))) e5 (fun hc H5 s5 => ?_) (fun hc H5 s5 => ?_)
    · skip
      subst hc
      have hm := if_t hm
      have fr0 := fr0.trans (Fr.same s5)
      have dm := dm.same s5
      have frl := frl.trans (Fr.same s5)
      have h_law_parts := ((tL (tU tInt tBool)) : Ty K (List (Int ⊕ Bool))).mono (S := S) (Fr.same s5) h_law_parts
      have h_law_words := ((tL tStr) : Ty K (List Str)).mono (S := S) (Fr.same s5) h_law_words
      have h_law_lows := ((tL tInt) : Ty K (List Int)).mono (S := S) (Fr.same s5) h_law_lows
      have h_law_highs := ((tL tInt) : Ty K (List Int)).mono (S := S) (Fr.same s5) h_law_highs
      have h_law_k := (tInt : Ty K Int).mono (S := S) (Fr.same s5) h_law_k
      obtain ⟨z9, er, hm⟩ := bd_some hm
      cases hm
      have er4 := hret4 _ rfl
      subst er4
      cases hm4
      exact q_ret (T := []) dm (ev_oS (a := (tStr : Ty K Str)) (ev_op od_ixL (ev_var ts h_law_words rfl) (ev_var ts h_law_k rfl))) er (fun v H7 s7 hv => q v H7 (fr0.trans (Fr.same s7)).toSame (((tOpt tStr) : Ty K (Option Str)).sub (S := S) (H := H7) sub0 hv))
    subst hc
    have hm := if_f hm
    have fr0 := fr0.trans (Fr.same s5)
    have dm := dm.same s5
    have frl := frl.trans (Fr.same s5)
    have h_law_parts := ((tL (tU tInt tBool)) : Ty K (List (Int ⊕ Bool))).mono (S := S) (Fr.same s5) h_law_parts
    have h_law_words := ((tL tStr) : Ty K (List Str)).mono (S := S) (Fr.same s5) h_law_words
    have h_law_lows := ((tL tInt) : Ty K (List Int)).mono (S := S) (Fr.same s5) h_law_lows
    have h_law_highs := ((tL tInt) : Ty K (List Int)).mono (S := S) (Fr.same s5) h_law_highs
    have h_law_k := (tInt : Ty K Int).mono (S := S) (Fr.same s5) h_law_k
    refine l_next ?_
    cases hm
    exact ⟨_, rfl, frl, ⟨v_law_parts, v_law_words, v_law_lows, v_law_highs, _, rfl, fr0, dm, h_law_parts, h_law_words, h_law_lows, h_law_highs⟩⟩
  subst er
  have hm := hm4
  obtain ⟨v_law_parts, v_law_words, v_law_lows, v_law_highs, f_4, rfl, fr0, dm, h_law_parts, h_law_words, h_law_lows, h_law_highs⟩ := hI
  have er := hm
  exact q_ret (T := []) dm (ev_oN (a := (tStr : Ty K Str)) (ev_none (K := K))) er (fun v H8 s8 hv => q v H8 (fr0.trans (Fr.same s8)).toSame (((tOpt tStr) : Ty K (Option Str)).sub (S := S) (H := H8) sub0 hv))
theorem mkS_R {a b c d : Int ⊕ Bool} {z : Sc} (h : getR? (mkS a b c d) = some z) : dueW a b c d = none ∧ z = (val a, val b, val c, val d) := by
  unfold mkS at h
  split at h
  · cases h
  · rename_i e
    cases h
    exact ⟨e, rfl⟩
theorem ev_mkS {S T : AS} {σ : St} {H : Hp} {C Cb : Addr} {ta tb tc td : TE} {r0 r1 r2 r3 : Option (Int ⊕ Bool)} (h0 : Ev S T ta σ H (of (K := K) (tU tInt tBool) S) r0) (h1 : Ev S T tb σ H (of (K := K) (tU tInt tBool) S) r1) (h2 : Ev S T tc σ H (of (K := K) (tU tInt tBool) S) r2) (h3 : Ev S T td σ H (of (K := K) (tU tInt tBool) S) r3) :
    Ev S T (tMakeKS C 1 3 (spInit C Cb) g0 (WE fun _ _ _ _ => False) (tCons ta tNil) (tCons tb (tCons tc (tCons td tNil)))) σ H (of (K := K) (tIn C scF) S) (bd r0 fun a => bd r1 fun b => bd r2 fun c => bd r3 fun d => getR? (mkS a b c d)) := by
  intro z e H1 f1 dm Q q
  obtain ⟨a, ea, e⟩ := bd_some e
  obtain ⟨b, eb, e⟩ := bd_some e
  obtain ⟨c, ec, e⟩ := bd_some e
  obtain ⟨d, ed, e⟩ := bd_some e
  obtain ⟨en, rfl⟩ := mkS_R e
  refine h0 a ea H1 f1 dm _ fun v0 H2 s2 k0 => h1 b eb H2 (f1.trans (Fr.same s2)) (dm.same s2) _ fun v1 H3 s3 k1 => ?_
  have t3 := s2.trans s3
  refine h2 c ec H3 (f1.trans (Fr.same t3)) (dm.same t3) _ fun v2 H4 s4 k2 => ?_
  have t4 := t3.trans s4
  refine h3 d ed H4 (f1.trans (Fr.same t4)) (dm.same t4) _ fun v3 H5 s5 k3 => ?_
  have t5 := t4.trans s5
  refine ⟨rfl, rfl, fun p dx np ndx ne => ?_⟩
  have sM : Same H5 (upd (upd H5 dx (.own p)) p (.ins C dx [])) := (same_upd ndx).trans (same_upd (by rw [upd_ne (Ne.symm ne)]; exact np))
  refine ⟨p, dx, v0, v1, v2, v3, a, b, c, d, rfl, upd_same, ib k0, ib k1, ib k2, ib k3, (fun z ez => by rw [en] at ez; cases ez), fun i0 i1 i2 i3 e0 e1 e2 e3 _ H' fr hp => ⟨rfl, q _ _ (fun a o e => fr a o (sM _ _ (t5 _ _ e)) (ne_of_none (t5 _ _ e) np)) ?_⟩⟩
  subst e0 e1 e2 e3
  exact ⟨p, dx, rfl, hp, (dm.same t5).not_mem np⟩

end
end G

namespace G
open PySem L2 M
section
variable {P : Program} {w : World} {K : PySem.W.Frag} {mg : Str → Option Value} {base : Heap}

def m_law_one  (P : Bool → Prop) : Prop :=
  (lf (some true) fun law_good_1 => ((consW (unW (fun x => some (Sum.inl x)) (opW (fun x y => some (x + y)) (lf (some (1 : Int))) (callBW drawW (lf (some (100 : Int)))))) (consW (unW (fun x => some (Sum.inl x)) (callBW drawW (lf (some (101 : Int))))) (lf (some [])))) fun law_parts_2 => ((opW (fun x y => cat? x y) (lf (some law_parts_2)) (consW (unW (fun x => some (Sum.inl x)) (opW (fun x y => some (x + y)) (lf (some (1 : Int))) (callBW drawW (lf (some (9 : Int)))))) (consW (unW (fun x => some (Sum.inl x)) (opW (fun x y => some (x + y)) (lf (some (8 : Int))) (callBW drawW (lf (some (57 : Int)))))) (lf (some []))))) fun law_parts_3 => ((unW rng1? (callBW drawW (lf (some (3 : Int))))) fun xs45 => loopW (fun s_4 law_bend_4 K4 => ((callBW drawW (lf (some (4 : Int)))) fun law_k_5 => ((opW (fun x y => some (x + y)) (lf (some (101 : Int))) (callBW drawW (lf (some ((10 : Int) ^ (9 : Int).toNat))))) fun law_far_6 => (lf (bd (bd (some (0 : Int)) fun x => some (Sum.inl x)) fun x => bd (bd (bd (bd (some (0 : Int)) fun x => bd (some (1 : Int)) fun y => some (x - y)) fun x => some (Sum.inl x)) fun x => bd (bd (bd (some (1 : Int)) fun x => some (Sum.inl x)) fun x => bd (bd (bd (some (100 : Int)) fun x => some (Sum.inl x)) fun x => bd (bd (bd (some (101 : Int)) fun x => some (Sum.inl x)) fun x => bd (bd (bd (some (9 : Int)) fun x => some (Sum.inl x)) fun x => bd (bd (bd (some (10 : Int)) fun x => some (Sum.inl x)) fun x => bd (bd (bd (some (7 : Int)) fun x => some (Sum.inl x)) fun x => bd (bd (bd (some (8 : Int)) fun x => some (Sum.inl x)) fun x => bd (bd (bd (some (64 : Int)) fun x => some (Sum.inl x)) fun x => bd (bd (bd (some (65 : Int)) fun x => some (Sum.inl x)) fun x => bd (bd (bd (some true) fun x => some (Sum.inr x)) fun x => bd (some []) fun y => some (x :: y)) fun y => some (x :: y)) fun y => some (x :: y)) fun y => some (x :: y)) fun y => some (x :: y)) fun y => some (x :: y)) fun y => some (x :: y)) fun y => some (x :: y)) fun y => some (x :: y)) fun y => some (x :: y)) fun y => some (x :: y)) fun y => some (x :: y)) fun law_odd_7 => ((callBW anyW (lf (bd (some law_odd_7) fun x => bd (bd (bd (some law_far_6) fun x => some (Sum.inl x)) fun x => bd (bd (bd (bd (some (0 : Int)) fun x => bd (some law_far_6) fun y => some (x - y)) fun x => some (Sum.inl x)) fun x => bd (some []) fun y => some (x :: y)) fun y => some (x :: y)) fun y => cat? x y))) fun a8 => lf (some law_k_5) fun i9 => lf (set? s_4 i9 a8) fun law_parts_10 => K4 (Ct.go law_parts_10)))))) xs45 law_parts_3 fun r_4 => match r_4 with | .ret y => P y | .go t_4 => ((callBW drawW (lf (some (4 : Int)))) fun law_door_11 => (jn (fun J12 => (lf (bd (some law_door_11) fun x => bd (bd (some (1 : Int)) fun x => bd (bd (some (3 : Int)) fun x => bd (some []) fun y => some (x :: y)) fun y => some (x :: y)) fun y => some (decide (x ∈ y))) fun c12 => if c12 then (lf (bd (some (0 : Int)) fun x => some (Sum.inl x)) fun a13 => (lf (some (1 : Int)) fun i14 => (lf (set? t_4 i14 a13) fun law_parts_15 => J12 law_parts_15))) else J12 t_4)) fun j16 => (jn (fun J17 => (lf (bd (some law_door_11) fun x => bd (some (3 : Int)) fun y => some (decide (x = y))) fun c17 => if c17 then (lf (bd (some (1 : Int)) fun x => some (Sum.inl x)) fun a18 => (lf (some (2 : Int)) fun i19 => (lf (set? j16 i19 a18) fun law_parts_20 => J17 law_parts_20))) else J17 j16)) fun j21 => (jn (fun J22 => (lf (bd (some law_door_11) fun x => bd (some (1 : Int)) fun y => some (decide (y < x))) fun c22 => if c22 then (lf (bd (some (16 : Int)) fun x => some (Sum.inl x)) fun a23 => (lf (some (3 : Int)) fun i24 => (lf (set? j21 i24 a23) fun law_parts_25 => J22 law_parts_25))) else J22 j21)) fun j26 => (lf (bd (bd (some j26) fun x => bd (some ()) fun y => some (x, y)) fun a => m_law_due a.1) fun law_due_here_27 => (lf (bd (bd (some j26) fun x => bd (bd (some law_door_11) fun x => bd (some ()) fun y => some (x, y)) fun y => some (x, y)) fun a => m_law_told a.1 a.2.1) fun law_made_28 => (jn (fun J29 => (optM law_due_here_27 ((lf (bd (bd (bd (some law_made_28) getR?) fun x => some x.1) fun x => bd (bd (bd (bd (some law_made_28) getR?) fun x => some x.2.1) fun x => bd (bd (bd (bd (some law_made_28) getR?) fun x => some x.2.2.1) fun x => bd (bd (bd (bd (some law_made_28) getR?) fun x => some x.2.2.2) fun x => bd (some []) fun y => some (x :: y)) fun y => some (x :: y)) fun y => some (x :: y)) fun y => some (x :: y)) fun law_found_31 => (lf (bd (some (" " : Str)) fun x => bd (bd (some j26) fun xs => mapL? (fun law_one_here_32 => (bd (bd (some law_one_here_32) getL?) shw?)) xs) fun y => join? x y) fun law_text_33 => ((andW (lf (some law_good_1)) (andW (sameW (szL noSz) (lf (some law_found_31)) (lf (bd (some j26) (mapO getL?)))) (lf (bd (bd (bd (some law_made_28) getR?) fun x => m_Scale___str__ x) fun x => bd (some law_text_33) fun y => some (decide (x = y)))))) fun law_good_34 => (lf (bd (some law_good_34) fun x => if x then (bd (bd (bd (some law_made_28) getR?) fun x => m_Scale___repr__ x) fun x => bd (bd (bd (some ("Scale(" : Str)) fun x => bd (bd (bd (bd (some j26) fun x => bd (some (0 : Int)) fun y => atI x y) getL?) shw?) fun y => catY? x y) fun x => bd (some (")" : Str)) fun y => catY? x y) fun y => some (decide (x = y))) else some false) fun law_good_35 => ((andW (lf (some law_good_35)) (sameW noSz (lf (bd (bd (some law_made_28) getR?) fun x => m_Scale_slack x)) (lf (bd (bd (bd (bd (some (2 : Int)) fun x => bd (bd (bd (some j26) fun x => bd (some (1 : Int)) fun y => atI x y) getL?) fun y => mul? x y) fun x => bd (bd (bd (some j26) fun x => bd (some (0 : Int)) fun y => atI x y) getL?) fun y => some (x + y)) fun x => bd (bd (some (2 : Int)) fun x => bd (some ()) fun y => some (x, y)) fun y => some (x, y)) fun a => ratio? a.1 a.2.1)))) fun law_good_36 => ((callBW anyW (lf (bd (bd (bd (some j26) fun x => bd (some (1 : Int)) fun y => atI x y) getL?) fun x => bd (bd (bd (some (100 : Int)) fun x => bd (bd (bd (some j26) fun x => bd (some (1 : Int)) fun y => atI x y) getL?) fun y => some (x - y)) fun x => bd (some []) fun y => some (x :: y)) fun y => some (x :: y)))) fun law_more_37 => (lf (bd (bd (some j26) fun x => bd (some (0 : Int)) fun y => atI x y) fun a => bd (bd (some law_more_37) fun x => some (Sum.inl x)) fun b => bd (bd (some j26) fun x => bd (some (2 : Int)) fun y => atI x y) fun c => bd (bd (some j26) fun x => bd (some (3 : Int)) fun y => atI x y) fun d => getR? (mkS a b c d)) fun law_two_38 => (lf (bd (some law_more_37) fun x => bd (bd (bd (some j26) fun x => bd (some (1 : Int)) fun y => atI x y) getL?) fun y => some (decide (x = y))) fun law_same_here_39 => (lf (bd (bd (bd (some law_made_28) getR?) fun x => bd (some law_two_38) fun y => m_Scale___eq__ x y) fun x => bd (bd (bd (bd (some law_made_28) getR?) fun x => bd (some law_two_38) fun y => bd (m_Scale___eq__ x y) fun k => some (!k)) fun x => bd (bd (bd (bd (some law_made_28) getR?) fun x => bd (some (3 : Int)) fun y => m_Scale___eq__i x y) fun x => bd (some []) fun y => some (x :: y)) fun y => some (x :: y)) fun y => some (x :: y)) fun law_found_40 => ((andW (lf (some law_good_36)) (sameW (szL noSz) (lf (some law_found_40)) (lf (bd (some law_same_here_39) fun x => bd (bd (bd (some law_same_here_39) fun x => some (!x)) fun x => bd (bd (some false) fun x => bd (some []) fun y => some (x :: y)) fun y => some (x :: y)) fun y => some (x :: y))))) fun law_good_41 => ((tup2W (callBW (fun a => m_law_ratio a.1) (tup2W (lf (some (999 : Int))) (lf (some ())))) (unW (fun a => ratio? a.1 a.2.1) (tup2W (callBW (fun a => m_law_big) (lf (some ()))) (tup2W (opW (fun x y => some (x + y)) (lf (some (1 : Int))) (callBW drawW (lf (some (60 : Int))))) (lf (some ())))))) fun law_spot_42 => ((andW (lf (some law_good_41)) (sameW (szT2 noSz noSz) (lf (bd (bd (some law_spot_42) fun x => bd (bd (bd (bd (some j26) fun x => bd (some (0 : Int)) fun y => atI x y) getL?) fun x => bd (some ()) fun y => some (x, y)) fun y => some (x, y)) fun a => m_drawn a.1 a.2.1)) (lf (bd (bd (some law_spot_42) fun x => bd (bd (bd (bd (some j26) fun x => bd (some (0 : Int)) fun y => atI x y) getL?) fun x => bd (some ()) fun y => some (x, y)) fun y => some (x, y)) fun a => m_law_pair a.1 a.2.1)))) fun law_good_43 => J29 law_good_43))))))))))))) fun law_due_here_29 => ((andW (lf (some law_good_1)) (sameW noSz (lf (bd (some law_made_28) getL?)) (lf (some law_due_here_29)))) fun law_good_30 => J29 law_good_30))) fun j44 => (lf (some j44) P)))))))) | .brk _ => False))))
abbrev sp_law_one (K : PySem.W.Frag) : Sp := spB (K := K) aNil (fun S => of (K := K) tBool S) (fun a => m_law_one)
theorem ok_law_one (ev : Env P K mg) : FnOk P w K mg base CX0 8 ev.f_law_one ev.d_law_one p_law_one (sp_law_one K) := by
  refine ev.A_law_one.F.ok sc_law_one (fun vs H Q E h => ?_) (fun cdv A outer s H0 vs Q E hr h => ?_)
  · obtain ⟨S, b, c, r, _, P, rfl, _, _, _, rfl, _⟩ := h
    rfl
  obtain ⟨S, b, c, r, _, P, rfl, dm, ts, hB, rfl, hm, q⟩ := h
  have fr0 := Fr.refl (T := [b, c]) H0
  have sub0 : Sub S S := fun a m => m
  refine ⟨_, (pss_cons (ps_set (i := 1) sc_law_one.nd rfl (Or.inl rfl) pe_bl)
    (pss_cons (ps_set (i := 2) sc_law_one.nd rfl (Or.inl rfl) (pe_lst (pa_cons (pe_op op_add pe_int (pe_call (ok_law_draw ev) (hr.mono (by decide)) (by rfl) ev.A_law_draw.m ev.A_law_draw.F.kp ev.A_law_draw.b .nil pass0 (pa_cons (pv 0) (pa_cons pe_int pa_nil)))) (pa_cons (pe_call (ok_law_draw ev) (hr.mono (by decide)) (by rfl) ev.A_law_draw.m ev.A_law_draw.F.kp ev.A_law_draw.b .nil pass0 (pa_cons (pv 0) (pa_cons pe_int pa_nil))) pa_nil))))
    (pss_cons (ps_set (i := 2) sc_law_one.nd rfl (Or.inl rfl) (pe_op op_cat (pv 2) (pe_lst (pa_cons (pe_op op_add pe_int (pe_call (ok_law_draw ev) (hr.mono (by decide)) (by rfl) ev.A_law_draw.m ev.A_law_draw.F.kp ev.A_law_draw.b .nil pass0 (pa_cons (pv 0) (pa_cons pe_int pa_nil)))) (pa_cons (pe_op op_add pe_int (pe_call (ok_law_draw ev) (hr.mono (by decide)) (by rfl) ev.A_law_draw.m ev.A_law_draw.F.kp ev.A_law_draw.b .nil pass0 (pa_cons (pv 0) (pa_cons pe_int pa_nil)))) pa_nil)))))
    (pss_cons (ps_for PassesOwn.never rfl (pi_range1 rfl ev.B.range_ (pa_cons (pe_call (ok_law_draw ev) (hr.mono (by decide)) (by rfl) ev.A_law_draw.m ev.A_law_draw.F.kp ev.A_law_draw.b .nil pass0 (pa_cons (pv 0) (pa_cons pe_int pa_nil))) pa_nil)) (pg_name (i := 3) sc_law_one.nd rfl (Or.inl rfl))
    (pss_cons (ps_set (i := 4) sc_law_one.nd rfl (Or.inl rfl) (pe_call (ok_law_draw ev) (hr.mono (by decide)) (by rfl) ev.A_law_draw.m ev.A_law_draw.F.kp ev.A_law_draw.b .nil pass0 (pa_cons (pv 0) (pa_cons pe_int pa_nil))))
    (pss_cons (ps_set (i := 5) sc_law_one.nd rfl (Or.inl rfl) (pe_op op_add pe_int (pe_call (ok_law_draw ev) (hr.mono (by decide)) (by rfl) ev.A_law_draw.m ev.A_law_draw.F.kp ev.A_law_draw.b .nil pass0 (pa_cons (pv 0) (pa_cons (pe_op op_pow pe_int pe_int) pa_nil)))))
    (pss_cons (ps_set (i := 6) sc_law_one.nd rfl (Or.inl rfl) (pe_lst (pa_cons pe_int (pa_cons (pe_op op_sub pe_int pe_int) (pa_cons pe_int (pa_cons pe_int (pa_cons pe_int (pa_cons pe_int (pa_cons pe_int (pa_cons pe_int (pa_cons pe_int (pa_cons pe_int (pa_cons pe_int (pa_cons pe_bl pa_nil))))))))))))))
    (pss_one (ps_asg (pe_call (ok_law_any ev) (hr.mono (by decide)) (by rfl) ev.A_law_any.m ev.A_law_any.F.kp ev.A_law_any.b .nil pass0 (pa_cons (pv 0) (pa_cons (pe_op op_cat (pv 6) (pe_lst (pa_cons (pv 5) (pa_cons (pe_op op_sub pe_int (pv 5)) pa_nil)))) pa_nil))) (pg_sub (pv 2) (pv 4) set_list)))))))
    (pss_cons (ps_set (i := 7) sc_law_one.nd rfl (Or.inl rfl) (pe_call (ok_law_draw ev) (hr.mono (by decide)) (by rfl) ev.A_law_draw.m ev.A_law_draw.F.kp ev.A_law_draw.b .nil pass0 (pa_cons (pv 0) (pa_cons pe_int pa_nil))))
    (pss_cons (ps_if (pt_cmpR op_in_seq (pv 7) (pe_lst (pa_cons pe_int (pa_cons pe_int pa_nil))) (by rfl))
    (pss_one (ps_asg pe_int (pg_sub (pv 2) pe_int set_list))) pss_nil)
    (pss_cons (ps_if (pt_cmpR op_eq (pv 7) pe_int (nomark _))
    (pss_one (ps_asg pe_int (pg_sub (pv 2) pe_int set_list))) pss_nil)
    (pss_cons (ps_if (pt_cmpR op_gt (pv 7) pe_int (nomark _))
    (pss_one (ps_asg pe_int (pg_sub (pv 2) pe_int set_list))) pss_nil)
    (pss_cons (ps_set (i := 8) sc_law_one.nd rfl (Or.inl rfl) (pe_call (ok_law_due ev) (hr.mono (by decide)) (by rfl) ev.A_law_due.m ev.A_law_due.F.kp ev.A_law_due.b .nil pass0 (pa_cons (pv 2) pa_nil)))
    (pss_cons (ps_set (i := 9) sc_law_one.nd rfl (Or.inl rfl) (pe_call (ok_law_told ev) (hr.mono (by decide)) (by rfl) ev.A_law_told.m ev.A_law_told.F.kp ev.A_law_told.b .nil pass0 (pa_cons (pv 2) (pa_cons (pv 7) pa_nil))))
    (pss_cons (ps_if (pt_cmpR op_notN (pv 8) pe_non (nomark _))
    (pss_one (ps_set (i := 1) sc_law_one.nd rfl (Or.inl rfl) (pe_and (pv 1) (pe_one (pe_call (ok_same ev 1) (hr.mono (by decide)) (by rfl) ev.A_law_same.m ev.A_law_same.F.kp ev.A_law_same.b .nil pass0 (pa_cons (pv 9) (pa_cons (pv 8) pa_nil))))))) (pss_cons (ps_set (i := 10) sc_law_one.nd rfl (Or.inl rfl) (pe_lst (pa_cons (pe_fld (pv 9) rfl) (pa_cons (pe_fld (pv 9) rfl) (pa_cons (pe_fld (pv 9) rfl) (pa_cons (pe_fld (pv 9) rfl) pa_nil))))))
    (pss_cons (ps_set (i := 11) sc_law_one.nd rfl (Or.inl rfl) (pe_join pe_str (pe_lc (own := [("_law_one_here", 16)]) (g := gName 16) (tt := tYes) (by rfl) sc_law_one.nd (pi_list (pv 2)) (blkOk_by (own := [("_law_one_here", 16)]) (N := n_law_one) (sc := defScope s_law_one) (by decide +kernel)) (fun _ _ _ _ _ => pg_name (i := 16) sc_law_one.nd rfl (Or.inl rfl)) (fun _ _ _ _ _ => pts_nil) (fun _ _ _ _ _ => (pe_callTy call_str_int (by rfl) ev.B.str_ (by decide +kernel) (pa_cons (pv 16) pa_nil))))))
    (pss_cons (ps_set (i := 1) sc_law_one.nd rfl (Or.inl rfl) (pe_and (pv 1) (pe_and (pe_call (ok_same ev 2) (hr.mono (by decide)) (by rfl) ev.A_law_same.m ev.A_law_same.F.kp ev.A_law_same.b .nil pass0 (pa_cons (pv 10) (pa_cons (pv 2) pa_nil))) (pe_one (pe_cmpR op_eq (pe_callTy (call_strI ev.A_Scale___str__.me.at_ ev.A_Scale___str__.me.fn ((ok_Scale___str__ ev).raw ev.A_Scale___str__.b .nil) (hr.mono (by decide)) pass0) (by rfl) ev.B.str_ (by decide +kernel) (pa_cons (pv 9) pa_nil)) (pv 11) (nomark _))))))
    (pss_cons (ps_set (i := 1) sc_law_one.nd rfl (Or.inl rfl) (pe_and (pv 1) (pe_one (pe_cmpR op_eq (pe_callB (call_reprI ev.A_Scale___repr__.me.at_ ev.A_Scale___repr__.me.fn ((ok_Scale___repr__ ev).raw ev.A_Scale___repr__.b .nil) (hr.mono (by decide)) pass0) (by rfl) ev.B.repr_ (by decide +kernel) (pa_cons (pv 9) pa_nil)) (pe_op op_add_str (pe_op op_add_str pe_str (pe_callTy call_str_int (by rfl) ev.B.str_ (by decide +kernel) (pa_cons (pe_ix ix_list (pv 2) pe_int (fun _ _ => rfl)) pa_nil))) pe_str) (nomark _)))))
    (pss_cons (ps_set (i := 1) sc_law_one.nd rfl (Or.inl rfl) (pe_and (pv 1) (pe_one (pe_call (ok_same ev 2) (hr.mono (by decide)) (by rfl) ev.A_law_same.m ev.A_law_same.F.kp ev.A_law_same.b .nil pass0 (pa_cons (pe_meth0 (pv 9) ev.cl_Scale ev.A_Scale_slack.me (ok_Scale_slack ev) (hr.mono (by decide)) ev.A_Scale_slack.b .nil pass0) (pa_cons (pe_call (ok_law_rat ev) (hr.mono (by decide)) (by rfl) ev.A_law_rat.m ev.A_law_rat.F.kp ev.A_law_rat.b .nil pass0 (pa_cons (pe_op op_add (pe_op op_mulW pe_int (pe_ix ix_list (pv 2) pe_int (fun _ _ => rfl))) (pe_ix ix_list (pv 2) pe_int (fun _ _ => rfl))) (pa_cons pe_int pa_nil))) pa_nil))))))
    (pss_cons (ps_set (i := 12) sc_law_one.nd rfl (Or.inl rfl) (pe_call (ok_law_any ev) (hr.mono (by decide)) (by rfl) ev.A_law_any.m ev.A_law_any.F.kp ev.A_law_any.b .nil pass0 (pa_cons (pv 0) (pa_cons (pe_lst (pa_cons (pe_ix ix_list (pv 2) pe_int (fun _ _ => rfl)) (pa_cons (pe_op op_sub pe_int (pe_ix ix_list (pv 2) pe_int (fun _ _ => rfl))) pa_nil))) pa_nil))))
    (pss_cons (ps_set (i := 13) sc_law_one.nd rfl (Or.inl rfl) (pe_makeKS ev.M_Scale (ok_Scale___init__ ev) (hr.mono (by decide)) (by rfl) ev.g_Scale ev.I_Scale.k0.choose_spec (fun σ => passAt takes0 σ) (pa_cons (pe_ix ix_list (pv 2) pe_int (fun _ _ => rfl)) pa_nil) (pk_cons (pv 12) (pk_cons (pe_ix ix_list (pv 2) pe_int (fun _ _ => rfl)) (pk_cons (pe_ix ix_list (pv 2) pe_int (fun _ _ => rfl)) pk_nil)))))
    (pss_cons (ps_set (i := 14) sc_law_one.nd rfl (Or.inl rfl) (pe_cmpR op_eq (pv 12) (pe_ix ix_list (pv 2) pe_int (fun _ _ => rfl)) (nomark _)))
    (pss_cons (ps_set (i := 10) sc_law_one.nd rfl (Or.inl rfl) (pe_lst (pa_cons (pe_cmpR (op_ownI (fun _ _ => rfl) ev.A_Scale___eq__.me.at_ ev.A_Scale___eq__.me.fn ev.nf_Scale ((ok_Scale___eq__ ev).raw ev.A_Scale___eq__.b .nil) (hr.mono (by decide)) pass0) (pv 9) (pv 13) (nomark _)) (pa_cons (pe_cmpR (op_neI ev.mro_Scale ev.ne_Scale ev.A_Scale___eq__.me.at_ ev.A_Scale___eq__.me.fn ((ok_Scale___eq__ ev).raw ev.A_Scale___eq__.b .nil) (hr.mono (by decide)) pass0) (pv 9) (pv 13) (nomark _)) (pa_cons (pe_cmpR (op_ownI (fun _ _ => rfl) ev.A_Scale___eq__.me.at_ ev.A_Scale___eq__.me.fn ev.nf_Scale ((ok_Scale___eq__i ev).raw ev.A_Scale___eq__.b .nil) (hr.mono (by decide)) pass0) (pv 9) pe_int (nomark _)) pa_nil)))))
    (pss_cons (ps_set (i := 1) sc_law_one.nd rfl (Or.inl rfl) (pe_and (pv 1) (pe_one (pe_call (ok_same ev 2) (hr.mono (by decide)) (by rfl) ev.A_law_same.m ev.A_law_same.F.kp ev.A_law_same.b .nil pass0 (pa_cons (pv 10) (pa_cons (pe_lst (pa_cons (pv 14) (pa_cons (pe_not (pv 14)) (pa_cons pe_bl pa_nil)))) pa_nil))))))
    (pss_cons (ps_set (i := 15) sc_law_one.nd rfl (Or.inl rfl) (pe_tup (pa_cons (pe_call (ok_law_ratio ev) (hr.mono (by decide)) (by rfl) ev.A_law_ratio.m ev.A_law_ratio.F.kp ev.A_law_ratio.b .nil pass0 (pa_cons (pv 0) (pa_cons pe_int pa_nil))) (pa_cons (pe_call (ok_law_rat ev) (hr.mono (by decide)) (by rfl) ev.A_law_rat.m ev.A_law_rat.F.kp ev.A_law_rat.b .nil pass0 (pa_cons (pe_call (ok_law_big ev) (hr.mono (by decide)) (by rfl) ev.A_law_big.m ev.A_law_big.F.kp ev.A_law_big.b .nil pass0 (pa_cons (pv 0) pa_nil)) (pa_cons (pe_op op_add pe_int (pe_call (ok_law_draw ev) (hr.mono (by decide)) (by rfl) ev.A_law_draw.m ev.A_law_draw.F.kp ev.A_law_draw.b .nil pass0 (pa_cons (pv 0) (pa_cons pe_int pa_nil)))) pa_nil))) pa_nil))))
    (pss_one (ps_set (i := 1) sc_law_one.nd rfl (Or.inl rfl) (pe_and (pv 1) (pe_one (pe_call (ok_same ev 2) (hr.mono (by decide)) (by rfl) ev.A_law_same.m ev.A_law_same.F.kp ev.A_law_same.b .nil pass0 (pa_cons (pe_call (ok_drawn ev) (hr.mono (by decide)) (by rfl) ev.A_drawn.m ev.A_drawn.F.kp ev.A_drawn.b .nil pass0 (pa_cons (pv 15) (pa_cons (pe_ix ix_list (pv 2) pe_int (fun _ _ => rfl)) pa_nil))) (pa_cons (pe_call (ok_law_pair ev) (hr.mono (by decide)) (by rfl) ev.A_law_pair.m ev.A_law_pair.F.kp ev.A_law_pair.b .nil pass0 (pa_cons (pv 15) (pa_cons (pe_ix ix_list (pv 2) pe_int (fun _ _ => rfl)) pa_nil))) pa_nil)))))))))))))))))))
    (pss_one (ps_ret (pv 1)))))))))))))), ?_⟩
  dsimp only [m_law_one] at hm
  obtain ⟨law_good_1, e1, hm⟩ := hm
  refine q_asg (T := [b, c]) dm (ev_bool (K := K)) e1 (fun v_law_good H1 s1 h_law_good => ?_)
  have fr0 := fr0.trans (Fr.same s1)
  have dm := dm.same s1
  have hB := hB.same s1
  have h_law_good : (tBool : Ty K Bool).rp S H1 v_law_good law_good_1 := h_law_good
  obtain ⟨Hs, frs, fr0s, dms, hs_law_good⟩ : ∃ Hs : Hp, Fr [b, c] Hs _ ∧ Fr [b, c] H0 Hs ∧ Dom S Hs ∧ (tBool : Ty K Bool).rp S Hs v_law_good law_good_1 := ⟨_, Fr.reflOf fr0, fr0, dm, h_law_good⟩
  refine qw_asg dm hB ts (ew_FL frs (ew_lst (wl_cons (ew_inl (b' := (tBool : Ty K Bool)) (ew_op (od_add (K := K)) (ew_pure (ev_int (K := K))) (ew_draw (K := K) rfl (ew_pure (ev_int (K := K)))))) (wl_cons (ew_inl (b' := (tBool : Ty K Bool)) (ew_draw (K := K) rfl (ew_pure (ev_int (K := K))))) wl_nil)) (by decide))) hm (fun v_law_parts H2 law_parts_2 hm fr2 dm2 hB2 h_law_parts => ?_)
  have fr0 := fr0.trans fr2
  have h_law_good := (tBool : Ty K Bool).mono (S := S) (fr2.sub ts) h_law_good
  have frs := frs.trans fr2
  have dm := dm2
  have hB := hB2
  have h_law_parts : ((tFL Hs (tU tInt tBool)) : Ty K (List (Int ⊕ Bool))).rp S H2 v_law_parts law_parts_2 := h_law_parts
  refine qw_asg dm hB ts (ew_FL frs (ew_op od_cat (ew_pure (ev_FL2L (ev_var ts h_law_parts rfl))) (ew_new (ew_lst (wl_cons (ew_inl (b' := (tBool : Ty K Bool)) (ew_op (od_add (K := K)) (ew_pure (ev_int (K := K))) (ew_draw (K := K) rfl (ew_pure (ev_int (K := K)))))) (wl_cons (ew_inl (b' := (tBool : Ty K Bool)) (ew_op (od_add (K := K)) (ew_pure (ev_int (K := K))) (ew_draw (K := K) rfl (ew_pure (ev_int (K := K)))))) wl_nil)) (by decide))))) hm (fun v_law_parts H3 law_parts_3 hm fr3 dm3 hB3 h_law_parts => ?_)
  have fr0 := fr0.trans fr3
  have h_law_good := (tBool : Ty K Bool).mono (S := S) (fr3.sub ts) h_law_good
  have frs := frs.trans fr3
  have dm := dm3
  have hB := hB3
  have h_law_parts : ((tFL Hs (tU tInt tBool)) : Ty K (List (Int ⊕ Bool))).rp S H3 v_law_parts law_parts_3 := h_law_parts
  obtain ⟨p_law_parts, ev_law_parts, np_law_parts, ns_law_parts, o_law_parts⟩ := h_law_parts
  subst ev_law_parts
  have dts := dms.sub ts
  have n0_law_parts := fr_back fr0s dts np_law_parts
  have nt_law_parts := dts.not_mem np_law_parts
  have nb_law_parts : p_law_parts ∉ S := fun m => ns_law_parts (sub0 _ m)
  have h_law_good := (tBool : Ty K Bool).mono (frs.sub (sub_cons ts)) ((tBool : Ty K Bool).ext (S := S) np_law_parts hs_law_good)
  have dm := dm.cons o_law_parts.choose_spec.1
  have ts := sub_cons (p := p_law_parts) ts
  have sub0 := sub_cons (p := p_law_parts) sub0
  have im_law_parts : p_law_parts ∈ p_law_parts :: S := List.mem_cons_self ..
  refine qw_for_s dm hB ts (srw_r1 (K := K) (ew_draw (K := K) rfl (ew_pure (ev_int (K := K))))) hm (fun s_4 σ' H' => ∃ v_law_good : V, ∃ f_3 : Option V, ∃ f_4 : Option V, ∃ f_5 : Option V, ∃ f_6 : Option V, ∃ f_7 : Option V, ∃ f_8 : Option V, ∃ f_9 : Option V, ∃ f_10 : Option V, ∃ f_11 : Option V, ∃ f_12 : Option V, ∃ f_13 : Option V, ∃ f_14 : Option V, ∃ f_15 : Option V, ∃ f_16 : Option V, σ' = [some (.ref b), some v_law_good, some (.ref p_law_parts), f_3, f_4, f_5, f_6, f_7, f_8, f_9, f_10, f_11, f_12, f_13, f_14, f_15, f_16] ∧ Fr [b, c] H0 H' ∧ Dom (p_law_parts :: S) H' ∧ Bag H' b c ∧ (tBool : Ty K Bool).rp (p_law_parts :: S) H' v_law_good law_good_1 ∧ Own ((tU tInt tBool) : Ty K (Int ⊕ Bool)) (p_law_parts :: S) H' p_law_parts s_4) (fun H4 fr4 dm4 hB4 => ?_) (fun hd4 s_4 law_bend_4 C4 v_law_bend σ' H' hI h_law_bend hm hret4 hbrk4 => ?_) (fun t_4 σ' H' hm hI => ?_)
  · skip
    have fr0 := fr0.trans fr4
    have h_law_good := (tBool : Ty K Bool).mono (S := (p_law_parts :: S)) (fr4.sub ts) h_law_good
    have o_law_parts := o_law_parts.fr fr4 ts nt_law_parts
    have dm := dm4
    have hB := hB4
    exact ⟨v_law_good, _, _, _, _, _, _, _, _, _, _, _, _, _, _, rfl, fr0, dm, hB, h_law_good, o_law_parts⟩
  · skip
    obtain ⟨v_law_good, f_3, f_4, f_5, f_6, f_7, f_8, f_9, f_10, f_11, f_12, f_13, f_14, f_15, f_16, rfl, fr0, dm, hB, h_law_good, o_law_parts⟩ := hI
    let HL := H'
    have freshl : ∀ a ∈ (p_law_parts :: S), a ∉ (p_law_parts :: S) → H' a = none := fun a m n => absurd m n
    have frl : Fr (p_law_parts :: S) HL H' := Fr.refl (T := (p_law_parts :: S)) H'
    have tsl := ts
    have subl : Sub (p_law_parts :: S) (p_law_parts :: S) := fun a m => m
    have iml_law_parts := im_law_parts
    have h_law_bend : (tInt : Ty K Int).rp (p_law_parts :: S) H' v_law_bend law_bend_4 := h_law_bend
    refine qw_asg dm hB ts (ew_draw (K := K) rfl (ew_pure (ev_int (K := K)))) hm (fun v_law_k H5 law_k_5 hm fr5 dm5 hB5 h_law_k => ?_)
    have fr0 := fr0.trans fr5
    have frl := frl.trans (fr5.sub tsl)
    have h_law_good := (tBool : Ty K Bool).mono (S := (p_law_parts :: S)) (fr5.sub ts) h_law_good
    have o_law_parts := o_law_parts.fr fr5 ts nt_law_parts
    have h_law_bend := (tInt : Ty K Int).mono (S := (p_law_parts :: S)) (fr5.sub ts) h_law_bend
    have dm := dm5
    have hB := hB5
    have h_law_k : (tInt : Ty K Int).rp (p_law_parts :: S) H5 v_law_k law_k_5 := h_law_k
    refine qw_asg dm hB ts (ew_op (od_add (K := K)) (ew_pure (ev_int (K := K))) (ew_draw (K := K) rfl (ew_pure (ev_powC (K := K) ⟨by decide, by decide, by decide⟩)))) hm (fun v_law_far H6 law_far_6 hm fr6 dm6 hB6 h_law_far => ?_)
    have fr0 := fr0.trans fr6
    have frl := frl.trans (fr6.sub tsl)
    have h_law_good := (tBool : Ty K Bool).mono (S := (p_law_parts :: S)) (fr6.sub ts) h_law_good
    have o_law_parts := o_law_parts.fr fr6 ts nt_law_parts
    have h_law_bend := (tInt : Ty K Int).mono (S := (p_law_parts :: S)) (fr6.sub ts) h_law_bend
    have h_law_k := (tInt : Ty K Int).mono (S := (p_law_parts :: S)) (fr6.sub ts) h_law_k
    have dm := dm6
    have hB := hB6
    have h_law_far : (tInt : Ty K Int).rp (p_law_parts :: S) H6 v_law_far law_far_6 := h_law_far
    obtain ⟨law_odd_7, e7, hm⟩ := hm
    refine q_asg (T := [b, c]) dm (ev_new (ev_lst (el_cons (ev_inl (b' := (tBool : Ty K Bool)) (ev_int (K := K))) (el_cons (ev_inl (b' := (tBool : Ty K Bool)) (ev_op (od_sub (K := K)) (ev_int (K := K)) (ev_int (K := K)))) (el_cons (ev_inl (b' := (tBool : Ty K Bool)) (ev_int (K := K))) (el_cons (ev_inl (b' := (tBool : Ty K Bool)) (ev_int (K := K))) (el_cons (ev_inl (b' := (tBool : Ty K Bool)) (ev_int (K := K))) (el_cons (ev_inl (b' := (tBool : Ty K Bool)) (ev_int (K := K))) (el_cons (ev_inl (b' := (tBool : Ty K Bool)) (ev_int (K := K))) (el_cons (ev_inl (b' := (tBool : Ty K Bool)) (ev_int (K := K))) (el_cons (ev_inl (b' := (tBool : Ty K Bool)) (ev_int (K := K))) (el_cons (ev_inl (b' := (tBool : Ty K Bool)) (ev_int (K := K))) (el_cons (ev_inl (b' := (tBool : Ty K Bool)) (ev_int (K := K))) (el_cons (ev_inr (a := (tInt : Ty K Int)) (ev_bool (K := K))) el_nil)))))))))))) (by decide))) e7 (fun v_law_odd H7 s7 h_law_odd => ?_)
    have fr0 := fr0.trans (Fr.same s7)
    have dm := dm.same s7
    have frl := frl.trans (Fr.same s7)
    have h_law_good := (tBool : Ty K Bool).mono (S := (p_law_parts :: S)) (Fr.same s7) h_law_good
    have o_law_parts := o_law_parts.same s7
    have h_law_bend := (tInt : Ty K Int).mono (S := (p_law_parts :: S)) (Fr.same s7) h_law_bend
    have h_law_k := (tInt : Ty K Int).mono (S := (p_law_parts :: S)) (Fr.same s7) h_law_k
    have h_law_far := (tInt : Ty K Int).mono (S := (p_law_parts :: S)) (Fr.same s7) h_law_far
    have hB := hB.same s7
    have h_law_odd : ((tL (tU tInt tBool)) : Ty K (List (Int ⊕ Bool))).rp (p_law_parts :: S) H7 v_law_odd law_odd_7 := h_law_odd
    refine lw_set dm hB ts o_law_parts im_law_parts nt_law_parts rfl (ew_any rfl (ew_pure (ev_new (ev_op od_cat (ev_var ts h_law_odd rfl) (ev_new (ev_lst (el_cons (ev_inl (b' := (tBool : Ty K Bool)) (ev_var ts h_law_far rfl)) (el_cons (ev_inl (b' := (tBool : Ty K Bool)) (ev_op (od_sub (K := K)) (ev_int (K := K)) (ev_var ts h_law_far rfl))) el_nil)) (by decide))))))) (ev_var ts h_law_k rfl) hm (fun law_parts_10 Hd9 H9 hm fr9 dm9 hB9 s9 frx9 ox_law_parts => ?_)
    have fr0 := fr0.trans fr9
    have frl := frl.trans (fr9.sub tsl)
    have h_law_good := (tBool : Ty K Bool).mono (S := (p_law_parts :: S)) (fr9.sub ts) h_law_good
    have o_law_parts := o_law_parts.fr fr9 ts nt_law_parts
    have h_law_bend := (tInt : Ty K Int).mono (S := (p_law_parts :: S)) (fr9.sub ts) h_law_bend
    have h_law_k := (tInt : Ty K Int).mono (S := (p_law_parts :: S)) (fr9.sub ts) h_law_k
    have h_law_far := (tInt : Ty K Int).mono (S := (p_law_parts :: S)) (fr9.sub ts) h_law_far
    have h_law_odd := ((tL (tU tInt tBool)) : Ty K (List (Int ⊕ Bool))).mono (S := (p_law_parts :: S)) (fr9.sub ts) h_law_odd
    have dm := dm9
    have hB := hB9
    have fr0 := fr0.mut hB.dom n0_law_parts s9
    have frl := frl.trans (s9.fr iml_law_parts)
    have dm := dm.fx frx9 s9
    have h_law_good := (tBool : Ty K Bool).mono (S := (p_law_parts :: S)) frx9 h_law_good
    have h_law_bend := (tInt : Ty K Int).mono (S := (p_law_parts :: S)) frx9 h_law_bend
    have h_law_k := (tInt : Ty K Int).mono (S := (p_law_parts :: S)) frx9 h_law_k
    have h_law_far := (tInt : Ty K Int).mono (S := (p_law_parts :: S)) frx9 h_law_far
    have h_law_odd := ((tL (tU tInt tBool)) : Ty K (List (Int ⊕ Bool))).mono (S := (p_law_parts :: S)) frx9 h_law_odd
    have hB := hB.mut s9 nt_law_parts
    have o_law_parts := ox_law_parts
    exact ⟨_, hm, frl, ⟨v_law_good, _, _, _, _, _, _, _, _, _, _, _, _, _, _, rfl, fr0, dm, hB, h_law_good, o_law_parts⟩⟩
  obtain ⟨v_law_good, f_3, f_4, f_5, f_6, f_7, f_8, f_9, f_10, f_11, f_12, f_13, f_14, f_15, f_16, rfl, fr0, dm, hB, h_law_good, o_law_parts⟩ := hI
  refine qw_asg dm hB ts (ew_draw (K := K) rfl (ew_pure (ev_int (K := K)))) hm (fun v_law_door H11 law_door_11 hm fr11 dm11 hB11 h_law_door => ?_)
  have fr0 := fr0.trans fr11
  have h_law_good := (tBool : Ty K Bool).mono (S := (p_law_parts :: S)) (fr11.sub ts) h_law_good
  have o_law_parts := o_law_parts.fr fr11 ts nt_law_parts
  have dm := dm11
  have hB := hB11
  have h_law_door : (tInt : Ty K Int).rp (p_law_parts :: S) H11 v_law_door law_door_11 := h_law_door
  obtain ⟨J12, hK12, hm⟩ := jn_open hm
  refine seq_by (fun σ' H' => ∃ j16, J12 j16 ∧ ∃ v_law_good : V, ∃ v_law_door : V, ∃ f_3 : Option V, ∃ f_4 : Option V, ∃ f_5 : Option V, ∃ f_6 : Option V, ∃ f_8 : Option V, ∃ f_9 : Option V, ∃ f_10 : Option V, ∃ f_11 : Option V, ∃ f_12 : Option V, ∃ f_13 : Option V, ∃ f_14 : Option V, ∃ f_15 : Option V, ∃ f_16 : Option V, σ' = [some (.ref b), some v_law_good, some (.ref p_law_parts), f_3, f_4, f_5, f_6, some v_law_door, f_8, f_9, f_10, f_11, f_12, f_13, f_14, f_15, f_16] ∧ Fr [b, c] H0 H' ∧ Dom (p_law_parts :: S) H' ∧ Bag H' b c ∧ (tBool : Ty K Bool).rp (p_law_parts :: S) H' v_law_good law_good_1 ∧ (tInt : Ty K Int).rp (p_law_parts :: S) H' v_law_door law_door_11 ∧ Own ((tU tInt tBool) : Ty K (Int ⊕ Bool)) (p_law_parts :: S) H' p_law_parts j16) (fun σ' H' hI => ?_) (fun rest12 => ?_)
  · skip
    obtain ⟨j16, hj, ⟨v_law_good, v_law_door, f_3, f_4, f_5, f_6, f_8, f_9, f_10, f_11, f_12, f_13, f_14, f_15, f_16, rfl, fr0, dm, hB, h_law_good, h_law_door, o_law_parts⟩⟩ := hI
    have hm := hK12 j16 hj
    obtain ⟨J17, hK17, hm⟩ := jn_open hm
    refine seq_by (fun σ' H' => ∃ j21, J17 j21 ∧ ∃ v_law_good : V, ∃ v_law_door : V, ∃ f_3 : Option V, ∃ f_4 : Option V, ∃ f_5 : Option V, ∃ f_6 : Option V, ∃ f_8 : Option V, ∃ f_9 : Option V, ∃ f_10 : Option V, ∃ f_11 : Option V, ∃ f_12 : Option V, ∃ f_13 : Option V, ∃ f_14 : Option V, ∃ f_15 : Option V, ∃ f_16 : Option V, σ' = [some (.ref b), some v_law_good, some (.ref p_law_parts), f_3, f_4, f_5, f_6, some v_law_door, f_8, f_9, f_10, f_11, f_12, f_13, f_14, f_15, f_16] ∧ Fr [b, c] H0 H' ∧ Dom (p_law_parts :: S) H' ∧ Bag H' b c ∧ (tBool : Ty K Bool).rp (p_law_parts :: S) H' v_law_good law_good_1 ∧ (tInt : Ty K Int).rp (p_law_parts :: S) H' v_law_door law_door_11 ∧ Own ((tU tInt tBool) : Ty K (Int ⊕ Bool)) (p_law_parts :: S) H' p_law_parts j21) (fun σ' H' hI => ?_) (fun rest17 => ?_)
    · skip
      obtain ⟨j21, hj, ⟨v_law_good, v_law_door, f_3, f_4, f_5, f_6, f_8, f_9, f_10, f_11, f_12, f_13, f_14, f_15, f_16, rfl, fr0, dm, hB, h_law_good, h_law_door, o_law_parts⟩⟩ := hI
      have hm := hK17 j21 hj
      obtain ⟨J22, hK22, hm⟩ := jn_open hm
      refine seq_by (fun σ' H' => ∃ j26, J22 j26 ∧ ∃ v_law_good : V, ∃ v_law_door : V, ∃ f_3 : Option V, ∃ f_4 : Option V, ∃ f_5 : Option V, ∃ f_6 : Option V, ∃ f_8 : Option V, ∃ f_9 : Option V, ∃ f_10 : Option V, ∃ f_11 : Option V, ∃ f_12 : Option V, ∃ f_13 : Option V, ∃ f_14 : Option V, ∃ f_15 : Option V, ∃ f_16 : Option V, σ' = [some (.ref b), some v_law_good, some (.ref p_law_parts), f_3, f_4, f_5, f_6, some v_law_door, f_8, f_9, f_10, f_11, f_12, f_13, f_14, f_15, f_16] ∧ Fr [b, c] H0 H' ∧ Dom (p_law_parts :: S) H' ∧ Bag H' b c ∧ (tBool : Ty K Bool).rp (p_law_parts :: S) H' v_law_good law_good_1 ∧ (tInt : Ty K Int).rp (p_law_parts :: S) H' v_law_door law_door_11 ∧ Own ((tU tInt tBool) : Ty K (Int ⊕ Bool)) (p_law_parts :: S) H' p_law_parts j26) (fun σ' H' hI => ?_) (fun rest22 => ?_)
      · skip
        obtain ⟨j26, hj, ⟨v_law_good, v_law_door, f_3, f_4, f_5, f_6, f_8, f_9, f_10, f_11, f_12, f_13, f_14, f_15, f_16, rfl, fr0, dm, hB, h_law_good, h_law_door, o_law_parts⟩⟩ := hI
        have hm := hK22 j26 hj
        have sbz : Sub S (p_law_parts :: S) := (sub_cons (fun a m => m))
        have nfz : p_law_parts ∉ S := by first | exact ns_law_parts | (have h := ns_law_parts; simp only [List.mem_cons, not_or] at h ⊢; grind)
        have h_law_parts := o_law_parts.frz sbz nfz
        have dm := dm.sub sbz
        have h_law_good := (tBool : Ty K Bool).sub sbz h_law_good
        have h_law_door := (tInt : Ty K Int).sub sbz h_law_door
        have ts : Sub [b, c] S := fun a m => by have h1 := ts a m; have h2 : a ≠ p_law_parts := (fun e => nt_law_parts (e ▸ m)); simp only [List.mem_cons] at h1 ⊢; grind
        have sub0 : Sub S S := fun a m => by have h1 := sub0 a m; have h2 : a ≠ p_law_parts := (fun e => nb_law_parts (e ▸ m)); simp only [List.mem_cons] at h1 ⊢; grind
        obtain ⟨law_due_here_27, e27, hm⟩ := hm
        refine q_asg (T := [b, c]) dm (ev_call (ea_cons (ev_var ts h_law_parts rfl) ea_nil)) e27 (fun v_law_due_here H27 s27 h_law_due_here => ?_)
        have fr0 := fr0.trans (Fr.same s27)
        have dm := dm.same s27
        have h_law_good := (tBool : Ty K Bool).mono (S := S) (Fr.same s27) h_law_good
        have h_law_door := (tInt : Ty K Int).mono (S := S) (Fr.same s27) h_law_door
        have h_law_parts := ((tL (tU tInt tBool)) : Ty K (List (Int ⊕ Bool))).mono (S := S) (Fr.same s27) h_law_parts
        have hB := hB.same s27
        have h_law_due_here : ((tOpt tStr) : Ty K (Option Str)).rp S H27 v_law_due_here law_due_here_27 := h_law_due_here
        obtain ⟨law_made_28, e28, hm⟩ := hm
        refine q_asg (T := [b, c]) dm (ev_call (ea_cons (ev_var ts h_law_parts rfl) (ea_cons (ev_var ts h_law_door rfl) ea_nil))) e28 (fun v_law_made H28 s28 h_law_made => ?_)
        have fr0 := fr0.trans (Fr.same s28)
        have dm := dm.same s28
        have h_law_good := (tBool : Ty K Bool).mono (S := S) (Fr.same s28) h_law_good
        have h_law_door := (tInt : Ty K Int).mono (S := S) (Fr.same s28) h_law_door
        have h_law_parts := ((tL (tU tInt tBool)) : Ty K (List (Int ⊕ Bool))).mono (S := S) (Fr.same s28) h_law_parts
        have h_law_due_here := ((tOpt tStr) : Ty K (Option Str)).mono (S := S) (Fr.same s28) h_law_due_here
        have hB := hB.same s28
        have h_law_made : ((tU tStr (tIn ev.C_Scale scF)) : Ty K (Str ⊕ Sc)).rp S H28 v_law_made law_made_28 := h_law_made
        obtain ⟨J29, hK29, hm⟩ := jn_open hm
        refine seq_by (fun σ' H' => ∃ j44, J29 j44 ∧ ∃ v_law_door : V, ∃ v_law_due_here : V, ∃ v_law_made : V, ∃ v_law_good : V, ∃ f_3 : Option V, ∃ f_4 : Option V, ∃ f_5 : Option V, ∃ f_6 : Option V, ∃ f_10 : Option V, ∃ f_11 : Option V, ∃ f_12 : Option V, ∃ f_13 : Option V, ∃ f_14 : Option V, ∃ f_15 : Option V, ∃ f_16 : Option V, σ' = [some (.ref b), some v_law_good, some (.ref p_law_parts), f_3, f_4, f_5, f_6, some v_law_door, some v_law_due_here, some v_law_made, f_10, f_11, f_12, f_13, f_14, f_15, f_16] ∧ Fr [b, c] H0 H' ∧ Dom S H' ∧ Bag H' b c ∧ (tInt : Ty K Int).rp S H' v_law_door law_door_11 ∧ ((tL (tU tInt tBool)) : Ty K (List (Int ⊕ Bool))).rp S H' (.ref p_law_parts) j26 ∧ ((tOpt tStr) : Ty K (Option Str)).rp S H' v_law_due_here law_due_here_27 ∧ ((tU tStr (tIn ev.C_Scale scF)) : Ty K (Str ⊕ Sc)).rp S H' v_law_made law_made_28 ∧ (tBool : Ty K Bool).rp S H' v_law_good j44) (fun σ' H' hI => ?_) (fun rest29 => ?_)
        · skip
          obtain ⟨j44, hj, ⟨v_law_door, v_law_due_here, v_law_made, v_law_good, f_3, f_4, f_5, f_6, f_10, f_11, f_12, f_13, f_14, f_15, f_16, rfl, fr0, dm, hB, h_law_door, h_law_parts, h_law_due_here, h_law_made, h_law_good⟩⟩ := hI
          have hm := hK29 j44 hj
          obtain ⟨z, er, hm⟩ := hm
          exact q_ret (T := [b, c]) dm (ev_var ts h_law_good rfl) er (fun v H46 s46 hv => q v H46 _ hm (fr0.trans (Fr.same s46)) (hB.same s46) ((tBool : Ty K Bool).sub (S := S) (H := H46) sub0 hv))
        rcases optp_cases hm with ⟨eo29, hm⟩ | ⟨law_due_here_29, eo29, hm⟩
        · skip
          refine l_if (T := [b, c]) (b := false) dm (eb_notN (a := (tStr : Ty K Str)) ts h_law_due_here rfl) (by rw [eo29]; rfl) (fun hc H29 s29 => by cases hc) (fun hc H29 s29 => ?_)
          have fr0 := fr0.trans (Fr.same s29)
          have dm := dm.same s29
          have h_law_good := (tBool : Ty K Bool).mono (S := S) (Fr.same s29) h_law_good
          have h_law_door := (tInt : Ty K Int).mono (S := S) (Fr.same s29) h_law_door
          have h_law_parts := ((tL (tU tInt tBool)) : Ty K (List (Int ⊕ Bool))).mono (S := S) (Fr.same s29) h_law_parts
          have h_law_due_here := ((tOpt tStr) : Ty K (Option Str)).mono (S := S) (Fr.same s29) h_law_due_here
          have h_law_made := ((tU tStr (tIn ev.C_Scale scF)) : Ty K (Str ⊕ Sc)).mono (S := S) (Fr.same s29) h_law_made
          have hB := hB.same s29
          obtain ⟨law_found_31, e31, hm⟩ := hm
          refine q_asg (T := [b, c]) dm (ev_new (ev_lst (el_cons (ev_fld (b' := (tInt : Ty K Int)) ev.cl_Scale ev.n_step (fun x => ⟨_, scF_step x, fun _ _ => rfl⟩) (ev_getR (ev_var ts h_law_made rfl))) (el_cons (ev_fld (b' := (tInt : Ty K Int)) ev.cl_Scale ev.n_tolerance (fun x => ⟨_, scF_tolerance x, fun _ _ => rfl⟩) (ev_getR (ev_var ts h_law_made rfl))) (el_cons (ev_fld (b' := (tInt : Ty K Int)) ev.cl_Scale ev.n_letter (fun x => ⟨_, scF_letter x, fun _ _ => rfl⟩) (ev_getR (ev_var ts h_law_made rfl))) (el_cons (ev_fld (b' := (tInt : Ty K Int)) ev.cl_Scale ev.n_side (fun x => ⟨_, scF_side x, fun _ _ => rfl⟩) (ev_getR (ev_var ts h_law_made rfl))) el_nil)))) (by decide))) e31 (fun v_law_found H31 s31 h_law_found => ?_)
          have fr0 := fr0.trans (Fr.same s31)
          have dm := dm.same s31
          have h_law_good := (tBool : Ty K Bool).mono (S := S) (Fr.same s31) h_law_good
          have h_law_door := (tInt : Ty K Int).mono (S := S) (Fr.same s31) h_law_door
          have h_law_parts := ((tL (tU tInt tBool)) : Ty K (List (Int ⊕ Bool))).mono (S := S) (Fr.same s31) h_law_parts
          have h_law_due_here := ((tOpt tStr) : Ty K (Option Str)).mono (S := S) (Fr.same s31) h_law_due_here
          have h_law_made := ((tU tStr (tIn ev.C_Scale scF)) : Ty K (Str ⊕ Sc)).mono (S := S) (Fr.same s31) h_law_made
          have hB := hB.same s31
          have h_law_found : ((tL tInt) : Ty K (List Int)).rp S H31 v_law_found law_found_31 := h_law_found
          obtain ⟨law_text_33, e33, hm⟩ := hm
          refine q_asg (T := [b, c]) dm (ev_join (ev_s2x (ev_str (K := K))) (ev_new (ev_lc (sr_list (ev_var ts h_law_parts rfl)) (fun v => by rfl) (fun law_one_here_32 v_law_one_here H2' H' p' fr' nD' sm' h_law_one_here => by have h_law_good := (tBool : Ty K Bool).mono (Fr.same sm') ((tBool : Ty K Bool).ext (S := S) nD' ((tBool : Ty K Bool).mono (Fr.sub ts fr') h_law_good)); have h_law_door := (tInt : Ty K Int).mono (Fr.same sm') ((tInt : Ty K Int).ext (S := S) nD' ((tInt : Ty K Int).mono (Fr.sub ts fr') h_law_door)); have h_law_parts := ((tL (tU tInt tBool)) : Ty K (List (Int ⊕ Bool))).mono (Fr.same sm') (((tL (tU tInt tBool)) : Ty K (List (Int ⊕ Bool))).ext (S := S) nD' (((tL (tU tInt tBool)) : Ty K (List (Int ⊕ Bool))).mono (Fr.sub ts fr') h_law_parts)); have h_law_due_here := ((tOpt tStr) : Ty K (Option Str)).mono (Fr.same sm') (((tOpt tStr) : Ty K (Option Str)).ext (S := S) nD' (((tOpt tStr) : Ty K (Option Str)).mono (Fr.sub ts fr') h_law_due_here)); have h_law_made := ((tU tStr (tIn ev.C_Scale scF)) : Ty K (Str ⊕ Sc)).mono (Fr.same sm') (((tU tStr (tIn ev.C_Scale scF)) : Ty K (Str ⊕ Sc)).ext (S := S) nD' (((tU tStr (tIn ev.C_Scale scF)) : Ty K (Str ⊕ Sc)).mono (Fr.sub ts fr') h_law_made)); have h_law_found := ((tL tInt) : Ty K (List Int)).mono (Fr.same sm') (((tL tInt) : Ty K (List Int)).ext (S := S) nD' (((tL tInt) : Ty K (List Int)).mono (Fr.sub ts fr') h_law_found)); have ts0' := ts; have ts : Sub [] (p' :: S) := (fun a m => by simp at m);  exact (ev_strI (ev_getL (ev_var ts h_law_one_here rfl))))))) e33 (fun v_law_text H33 s33 h_law_text => ?_)
          have fr0 := fr0.trans (Fr.same s33)
          have dm := dm.same s33
          have h_law_good := (tBool : Ty K Bool).mono (S := S) (Fr.same s33) h_law_good
          have h_law_door := (tInt : Ty K Int).mono (S := S) (Fr.same s33) h_law_door
          have h_law_parts := ((tL (tU tInt tBool)) : Ty K (List (Int ⊕ Bool))).mono (S := S) (Fr.same s33) h_law_parts
          have h_law_due_here := ((tOpt tStr) : Ty K (Option Str)).mono (S := S) (Fr.same s33) h_law_due_here
          have h_law_made := ((tU tStr (tIn ev.C_Scale scF)) : Ty K (Str ⊕ Sc)).mono (S := S) (Fr.same s33) h_law_made
          have h_law_found := ((tL tInt) : Ty K (List Int)).mono (S := S) (Fr.same s33) h_law_found
          have hB := hB.same s33
          have h_law_text : (tTx : Ty K Str).rp S H33 v_law_text law_text_33 := h_law_text
          refine qw_asg dm hB ts (ew_and (ew_pure (ev_var ts h_law_good rfl)) (ew_and (ew_same (sm_L sm_int) (ew_pure (ev_var ts h_law_found rfl)) (ew_pure (ev_mapGL (ev_var ts h_law_parts rfl)))) (ew_pure (ev_op (od_eqX (K := K)) (ev_strOf (f := fun a => m_Scale___str__ a.1) (ev_getR (ev_var ts h_law_made rfl))) (ev_var ts h_law_text rfl))))) hm (fun v_law_good H34 law_good_34 hm fr34 dm34 hB34 h_law_good => ?_)
          have fr0 := fr0.trans fr34
          have h_law_door := (tInt : Ty K Int).mono (S := S) (fr34.sub ts) h_law_door
          have h_law_parts := ((tL (tU tInt tBool)) : Ty K (List (Int ⊕ Bool))).mono (S := S) (fr34.sub ts) h_law_parts
          have h_law_due_here := ((tOpt tStr) : Ty K (Option Str)).mono (S := S) (fr34.sub ts) h_law_due_here
          have h_law_made := ((tU tStr (tIn ev.C_Scale scF)) : Ty K (Str ⊕ Sc)).mono (S := S) (fr34.sub ts) h_law_made
          have h_law_found := ((tL tInt) : Ty K (List Int)).mono (S := S) (fr34.sub ts) h_law_found
          have h_law_text := (tTx : Ty K Str).mono (S := S) (fr34.sub ts) h_law_text
          have dm := dm34
          have hB := hB34
          have h_law_good : (tBool : Ty K Bool).rp S H34 v_law_good law_good_34 := h_law_good
          obtain ⟨law_good_35, e35, hm⟩ := hm
          refine q_asg (T := [b, c]) dm (ev_and (ev_var ts h_law_good rfl) (ev_op (od_eqX (K := K)) (ev_strOf (f := fun a => m_Scale___repr__ a.1) (ev_getR (ev_var ts h_law_made rfl))) (ev_op (od_catY (K := K)) (ev_op (od_catY (K := K)) (ev_s2x (ev_str (K := K))) (ev_strI (ev_getL (ev_op od_ixL (ev_var ts h_law_parts rfl) (ev_int (K := K)))))) (ev_s2x (ev_str (K := K)))))) e35 (fun v_law_good H35 s35 h_law_good => ?_)
          have fr0 := fr0.trans (Fr.same s35)
          have dm := dm.same s35
          have h_law_door := (tInt : Ty K Int).mono (S := S) (Fr.same s35) h_law_door
          have h_law_parts := ((tL (tU tInt tBool)) : Ty K (List (Int ⊕ Bool))).mono (S := S) (Fr.same s35) h_law_parts
          have h_law_due_here := ((tOpt tStr) : Ty K (Option Str)).mono (S := S) (Fr.same s35) h_law_due_here
          have h_law_made := ((tU tStr (tIn ev.C_Scale scF)) : Ty K (Str ⊕ Sc)).mono (S := S) (Fr.same s35) h_law_made
          have h_law_found := ((tL tInt) : Ty K (List Int)).mono (S := S) (Fr.same s35) h_law_found
          have h_law_text := (tTx : Ty K Str).mono (S := S) (Fr.same s35) h_law_text
          have hB := hB.same s35
          have h_law_good : (tBool : Ty K Bool).rp S H35 v_law_good law_good_35 := h_law_good
          refine qw_asg dm hB ts (ew_and (ew_pure (ev_var ts h_law_good rfl)) (ew_same sm_rat (ew_pure (ev_meth0 (f := fun a => m_Scale_slack a.1) (fun x => scF_no x (by decide +kernel)) (ev_getR (ev_var ts h_law_made rfl)))) (ew_pure (ev_law_rat (ea_cons (ev_op (od_add (K := K)) (ev_op (od_mul (K := K)) (ev_int (K := K)) (ev_getL (ev_op od_ixL (ev_var ts h_law_parts rfl) (ev_int (K := K))))) (ev_getL (ev_op od_ixL (ev_var ts h_law_parts rfl) (ev_int (K := K))))) (ea_cons (ev_int (K := K)) ea_nil)))))) hm (fun v_law_good H36 law_good_36 hm fr36 dm36 hB36 h_law_good => ?_)
          have fr0 := fr0.trans fr36
          have h_law_door := (tInt : Ty K Int).mono (S := S) (fr36.sub ts) h_law_door
          have h_law_parts := ((tL (tU tInt tBool)) : Ty K (List (Int ⊕ Bool))).mono (S := S) (fr36.sub ts) h_law_parts
          have h_law_due_here := ((tOpt tStr) : Ty K (Option Str)).mono (S := S) (fr36.sub ts) h_law_due_here
          have h_law_made := ((tU tStr (tIn ev.C_Scale scF)) : Ty K (Str ⊕ Sc)).mono (S := S) (fr36.sub ts) h_law_made
          have h_law_found := ((tL tInt) : Ty K (List Int)).mono (S := S) (fr36.sub ts) h_law_found
          have h_law_text := (tTx : Ty K Str).mono (S := S) (fr36.sub ts) h_law_text
          have dm := dm36
          have hB := hB36
          have h_law_good : (tBool : Ty K Bool).rp S H36 v_law_good law_good_36 := h_law_good
          refine qw_asg dm hB ts (ew_any rfl (ew_pure (ev_new (ev_lst (el_cons (ev_getL (ev_op od_ixL (ev_var ts h_law_parts rfl) (ev_int (K := K)))) (el_cons (ev_op (od_sub (K := K)) (ev_int (K := K)) (ev_getL (ev_op od_ixL (ev_var ts h_law_parts rfl) (ev_int (K := K))))) el_nil)) (by decide))))) hm (fun v_law_more H37 law_more_37 hm fr37 dm37 hB37 h_law_more => ?_)
          have fr0 := fr0.trans fr37
          have h_law_door := (tInt : Ty K Int).mono (S := S) (fr37.sub ts) h_law_door
          have h_law_parts := ((tL (tU tInt tBool)) : Ty K (List (Int ⊕ Bool))).mono (S := S) (fr37.sub ts) h_law_parts
          have h_law_due_here := ((tOpt tStr) : Ty K (Option Str)).mono (S := S) (fr37.sub ts) h_law_due_here
          have h_law_made := ((tU tStr (tIn ev.C_Scale scF)) : Ty K (Str ⊕ Sc)).mono (S := S) (fr37.sub ts) h_law_made
          have h_law_found := ((tL tInt) : Ty K (List Int)).mono (S := S) (fr37.sub ts) h_law_found
          have h_law_text := (tTx : Ty K Str).mono (S := S) (fr37.sub ts) h_law_text
          have h_law_good := (tBool : Ty K Bool).mono (S := S) (fr37.sub ts) h_law_good
          have dm := dm37
          have hB := hB37
          have h_law_more : (tInt : Ty K Int).rp S H37 v_law_more law_more_37 := h_law_more
          obtain ⟨law_two_38, e38, hm⟩ := hm
          refine q_asg (T := [b, c]) dm (ev_mkS (ev_op od_ixL (ev_var ts h_law_parts rfl) (ev_int (K := K))) (ev_inl (b' := (tBool : Ty K Bool)) (ev_var ts h_law_more rfl)) (ev_op od_ixL (ev_var ts h_law_parts rfl) (ev_int (K := K))) (ev_op od_ixL (ev_var ts h_law_parts rfl) (ev_int (K := K)))) e38 (fun v_law_two H38 s38 h_law_two => ?_)
          have fr0 := fr0.trans (Fr.same s38)
          have dm := dm.same s38
          have h_law_door := (tInt : Ty K Int).mono (S := S) (Fr.same s38) h_law_door
          have h_law_parts := ((tL (tU tInt tBool)) : Ty K (List (Int ⊕ Bool))).mono (S := S) (Fr.same s38) h_law_parts
          have h_law_due_here := ((tOpt tStr) : Ty K (Option Str)).mono (S := S) (Fr.same s38) h_law_due_here
          have h_law_made := ((tU tStr (tIn ev.C_Scale scF)) : Ty K (Str ⊕ Sc)).mono (S := S) (Fr.same s38) h_law_made
          have h_law_found := ((tL tInt) : Ty K (List Int)).mono (S := S) (Fr.same s38) h_law_found
          have h_law_text := (tTx : Ty K Str).mono (S := S) (Fr.same s38) h_law_text
          have h_law_good := (tBool : Ty K Bool).mono (S := S) (Fr.same s38) h_law_good
          have h_law_more := (tInt : Ty K Int).mono (S := S) (Fr.same s38) h_law_more
          have hB := hB.same s38
          have h_law_two : ((tIn ev.C_Scale scF) : Ty K Sc).rp S H38 v_law_two law_two_38 := h_law_two
          obtain ⟨law_same_here_39, e39, hm⟩ := hm
          refine q_asg (T := [b, c]) dm (ev_op (od_eqI (K := K)) (ev_var ts h_law_more rfl) (ev_getL (ev_op od_ixL (ev_var ts h_law_parts rfl) (ev_int (K := K))))) e39 (fun v_law_same_here H39 s39 h_law_same_here => ?_)
          have fr0 := fr0.trans (Fr.same s39)
          have dm := dm.same s39
          have h_law_door := (tInt : Ty K Int).mono (S := S) (Fr.same s39) h_law_door
          have h_law_parts := ((tL (tU tInt tBool)) : Ty K (List (Int ⊕ Bool))).mono (S := S) (Fr.same s39) h_law_parts
          have h_law_due_here := ((tOpt tStr) : Ty K (Option Str)).mono (S := S) (Fr.same s39) h_law_due_here
          have h_law_made := ((tU tStr (tIn ev.C_Scale scF)) : Ty K (Str ⊕ Sc)).mono (S := S) (Fr.same s39) h_law_made
          have h_law_found := ((tL tInt) : Ty K (List Int)).mono (S := S) (Fr.same s39) h_law_found
          have h_law_text := (tTx : Ty K Str).mono (S := S) (Fr.same s39) h_law_text
          have h_law_good := (tBool : Ty K Bool).mono (S := S) (Fr.same s39) h_law_good
          have h_law_more := (tInt : Ty K Int).mono (S := S) (Fr.same s39) h_law_more
          have h_law_two := ((tIn ev.C_Scale scF) : Ty K Sc).mono (S := S) (Fr.same s39) h_law_two
          have hB := hB.same s39
          have h_law_same_here : (tBool : Ty K Bool).rp S H39 v_law_same_here law_same_here_39 := h_law_same_here
          obtain ⟨law_found_40, e40, hm⟩ := hm
          refine q_asg (T := [b, c]) dm (ev_new (ev_lst (el_cons (ev_op (od_eqI2 (f := fun a => m_Scale___eq__ a.1 a.2.1)) (ev_getR (ev_var ts h_law_made rfl)) (ev_var ts h_law_two rfl)) (el_cons (ev_op (od_neI2 (f := fun a => m_Scale___eq__ a.1 a.2.1)) (ev_getR (ev_var ts h_law_made rfl)) (ev_var ts h_law_two rfl)) (el_cons (ev_op (od_eqIi (f := fun a => m_Scale___eq__i a.1 a.2.1)) (ev_getR (ev_var ts h_law_made rfl)) (ev_int (K := K))) el_nil))) (by decide))) e40 (fun v_law_found H40 s40 h_law_found => ?_)
          have fr0 := fr0.trans (Fr.same s40)
          have dm := dm.same s40
          have h_law_door := (tInt : Ty K Int).mono (S := S) (Fr.same s40) h_law_door
          have h_law_parts := ((tL (tU tInt tBool)) : Ty K (List (Int ⊕ Bool))).mono (S := S) (Fr.same s40) h_law_parts
          have h_law_due_here := ((tOpt tStr) : Ty K (Option Str)).mono (S := S) (Fr.same s40) h_law_due_here
          have h_law_made := ((tU tStr (tIn ev.C_Scale scF)) : Ty K (Str ⊕ Sc)).mono (S := S) (Fr.same s40) h_law_made
          have h_law_text := (tTx : Ty K Str).mono (S := S) (Fr.same s40) h_law_text
          have h_law_good := (tBool : Ty K Bool).mono (S := S) (Fr.same s40) h_law_good
          have h_law_more := (tInt : Ty K Int).mono (S := S) (Fr.same s40) h_law_more
          have h_law_two := ((tIn ev.C_Scale scF) : Ty K Sc).mono (S := S) (Fr.same s40) h_law_two
          have h_law_same_here := (tBool : Ty K Bool).mono (S := S) (Fr.same s40) h_law_same_here
          have hB := hB.same s40
          have h_law_found : ((tL tBool) : Ty K (List Bool)).rp S H40 v_law_found law_found_40 := h_law_found
          refine qw_asg dm hB ts (ew_and (ew_pure (ev_var ts h_law_good rfl)) (ew_same (sm_L sm_bool) (ew_pure (ev_var ts h_law_found rfl)) (ew_pure (ev_new (ev_lst (el_cons (ev_var ts h_law_same_here rfl) (el_cons (ev_not (ev_var ts h_law_same_here rfl)) (el_cons (ev_bool (K := K)) el_nil))) (by decide)))))) hm (fun v_law_good H41 law_good_41 hm fr41 dm41 hB41 h_law_good => ?_)
          have fr0 := fr0.trans fr41
          have h_law_door := (tInt : Ty K Int).mono (S := S) (fr41.sub ts) h_law_door
          have h_law_parts := ((tL (tU tInt tBool)) : Ty K (List (Int ⊕ Bool))).mono (S := S) (fr41.sub ts) h_law_parts
          have h_law_due_here := ((tOpt tStr) : Ty K (Option Str)).mono (S := S) (fr41.sub ts) h_law_due_here
          have h_law_made := ((tU tStr (tIn ev.C_Scale scF)) : Ty K (Str ⊕ Sc)).mono (S := S) (fr41.sub ts) h_law_made
          have h_law_text := (tTx : Ty K Str).mono (S := S) (fr41.sub ts) h_law_text
          have h_law_more := (tInt : Ty K Int).mono (S := S) (fr41.sub ts) h_law_more
          have h_law_two := ((tIn ev.C_Scale scF) : Ty K Sc).mono (S := S) (fr41.sub ts) h_law_two
          have h_law_same_here := (tBool : Ty K Bool).mono (S := S) (fr41.sub ts) h_law_same_here
          have h_law_found := ((tL tBool) : Ty K (List Bool)).mono (S := S) (fr41.sub ts) h_law_found
          have dm := dm41
          have hB := hB41
          have h_law_good : (tBool : Ty K Bool).rp S H41 v_law_good law_good_41 := h_law_good
          refine qw_asg dm hB ts (ew_tup2 (ew_callB rfl (wa_cons (ew_pure (ev_int (K := K))) wa_nil)) (ew_law_rat (wa_cons (ew_callB rfl wa_nil) (wa_cons (ew_op (od_add (K := K)) (ew_pure (ev_int (K := K))) (ew_draw (K := K) rfl (ew_pure (ev_int (K := K))))) wa_nil)))) hm (fun v_law_spot H42 law_spot_42 hm fr42 dm42 hB42 h_law_spot => ?_)
          have fr0 := fr0.trans fr42
          have h_law_door := (tInt : Ty K Int).mono (S := S) (fr42.sub ts) h_law_door
          have h_law_parts := ((tL (tU tInt tBool)) : Ty K (List (Int ⊕ Bool))).mono (S := S) (fr42.sub ts) h_law_parts
          have h_law_due_here := ((tOpt tStr) : Ty K (Option Str)).mono (S := S) (fr42.sub ts) h_law_due_here
          have h_law_made := ((tU tStr (tIn ev.C_Scale scF)) : Ty K (Str ⊕ Sc)).mono (S := S) (fr42.sub ts) h_law_made
          have h_law_text := (tTx : Ty K Str).mono (S := S) (fr42.sub ts) h_law_text
          have h_law_more := (tInt : Ty K Int).mono (S := S) (fr42.sub ts) h_law_more
          have h_law_two := ((tIn ev.C_Scale scF) : Ty K Sc).mono (S := S) (fr42.sub ts) h_law_two
          have h_law_same_here := (tBool : Ty K Bool).mono (S := S) (fr42.sub ts) h_law_same_here
          have h_law_found := ((tL tBool) : Ty K (List Bool)).mono (S := S) (fr42.sub ts) h_law_found
          have h_law_good := (tBool : Ty K Bool).mono (S := S) (fr42.sub ts) h_law_good
          have dm := dm42
          have hB := hB42
          have h_law_spot : ((tT2 tRat tRat) : Ty K (Rat × Rat)).rp S H42 v_law_spot law_spot_42 := h_law_spot
          refine lw_asg dm hB ts (ew_and (ew_pure (ev_var ts h_law_good rfl)) (ew_same (sm_t2 sm_int sm_int) (ew_pure (ev_call (ea_cons (ev_var ts h_law_spot rfl) (ea_cons (ev_getL (ev_op od_ixL (ev_var ts h_law_parts rfl) (ev_int (K := K)))) ea_nil)))) (ew_pure (ev_call (ea_cons (ev_var ts h_law_spot rfl) (ea_cons (ev_getL (ev_op od_ixL (ev_var ts h_law_parts rfl) (ev_int (K := K)))) ea_nil)))))) hm (fun v_law_good H43 law_good_43 hm fr43 dm43 hB43 h_law_good => ?_)
          have fr0 := fr0.trans fr43
          have h_law_door := (tInt : Ty K Int).mono (S := S) (fr43.sub ts) h_law_door
          have h_law_parts := ((tL (tU tInt tBool)) : Ty K (List (Int ⊕ Bool))).mono (S := S) (fr43.sub ts) h_law_parts
          have h_law_due_here := ((tOpt tStr) : Ty K (Option Str)).mono (S := S) (fr43.sub ts) h_law_due_here
          have h_law_made := ((tU tStr (tIn ev.C_Scale scF)) : Ty K (Str ⊕ Sc)).mono (S := S) (fr43.sub ts) h_law_made
          have h_law_text := (tTx : Ty K Str).mono (S := S) (fr43.sub ts) h_law_text
          have h_law_more := (tInt : Ty K Int).mono (S := S) (fr43.sub ts) h_law_more
          have h_law_two := ((tIn ev.C_Scale scF) : Ty K Sc).mono (S := S) (fr43.sub ts) h_law_two
          have h_law_same_here := (tBool : Ty K Bool).mono (S := S) (fr43.sub ts) h_law_same_here
          have h_law_found := ((tL tBool) : Ty K (List Bool)).mono (S := S) (fr43.sub ts) h_law_found
          have h_law_spot := ((tT2 tRat tRat) : Ty K (Rat × Rat)).mono (S := S) (fr43.sub ts) h_law_spot
          have dm := dm43
          have hB := hB43
          have h_law_good : (tBool : Ty K Bool).rp S H43 v_law_good law_good_43 := h_law_good
          exact rest29 _ _ ⟨_, hm, ⟨v_law_door, v_law_due_here, v_law_made, v_law_good, _, _, _, _, _, _, _, _, _, _, _, rfl, fr0, dm, hB, h_law_door, h_law_parts, h_law_due_here, h_law_made, h_law_good⟩⟩
        · skip
          refine l_if (T := [b, c]) (b := true) dm (eb_notN (a := (tStr : Ty K Str)) ts h_law_due_here rfl) (by rw [eo29]; rfl) (fun hc H29 s29 => ?_) (fun hc H29 s29 => by cases hc)
          have fr0 := fr0.trans (Fr.same s29)
          have dm := dm.same s29
          have h_law_good := (tBool : Ty K Bool).mono (S := S) (Fr.same s29) h_law_good
          have h_law_door := (tInt : Ty K Int).mono (S := S) (Fr.same s29) h_law_door
          have h_law_parts := ((tL (tU tInt tBool)) : Ty K (List (Int ⊕ Bool))).mono (S := S) (Fr.same s29) h_law_parts
          have h_law_due_here := ((tOpt tStr) : Ty K (Option Str)).mono (S := S) (Fr.same s29) h_law_due_here
          have h_law_made := ((tU tStr (tIn ev.C_Scale scF)) : Ty K (Str ⊕ Sc)).mono (S := S) (Fr.same s29) h_law_made
          have hB := hB.same s29
          have h_law_due_here := opt_is (a := (tStr : Ty K Str)) (S := S) h_law_due_here eo29
          refine lw_asg dm hB ts (ew_and (ew_pure (ev_var ts h_law_good rfl)) (ew_same sm_str (ew_pure (ev_getL (ev_var ts h_law_made rfl))) (ew_pure (ev_var ts h_law_due_here rfl)))) hm (fun v_law_good H30 law_good_30 hm fr30 dm30 hB30 h_law_good => ?_)
          have fr0 := fr0.trans fr30
          have h_law_door := (tInt : Ty K Int).mono (S := S) (fr30.sub ts) h_law_door
          have h_law_parts := ((tL (tU tInt tBool)) : Ty K (List (Int ⊕ Bool))).mono (S := S) (fr30.sub ts) h_law_parts
          have h_law_due_here := (tStr : Ty K Str).mono (S := S) (fr30.sub ts) h_law_due_here
          have h_law_made := ((tU tStr (tIn ev.C_Scale scF)) : Ty K (Str ⊕ Sc)).mono (S := S) (fr30.sub ts) h_law_made
          have dm := dm30
          have hB := hB30
          have h_law_good : (tBool : Ty K Bool).rp S H30 v_law_good law_good_30 := h_law_good
          have h_law_due_here := opt_back (a := (tStr : Ty K Str)) (S := S) h_law_due_here eo29
          exact rest29 _ _ ⟨_, hm, ⟨v_law_door, v_law_due_here, v_law_made, v_law_good, _, _, _, _, _, _, _, _, _, _, _, rfl, fr0, dm, hB, h_law_door, h_law_parts, h_law_due_here, h_law_made, h_law_good⟩⟩
      obtain ⟨c22, e22, hm⟩ := hm
      refine l_if (T := [b, c]) dm (eb_test (K := K) (ev_op (od_gt (K := K)) (ev_var ts h_law_door rfl) (ev_int (K := K)))) e22 (fun hc H22 s22 => ?_) (fun hc H22 s22 => ?_)
      · skip
        subst hc
        have fr0 := fr0.trans (Fr.same s22)
        have dm := dm.same s22
        have h_law_good := (tBool : Ty K Bool).mono (S := (p_law_parts :: S)) (Fr.same s22) h_law_good
        have h_law_door := (tInt : Ty K Int).mono (S := (p_law_parts :: S)) (Fr.same s22) h_law_door
        have o_law_parts := o_law_parts.same s22
        have hB := hB.same s22
        have hm := ifp_t hm
        obtain ⟨a23, e24, hm⟩ := hm
        obtain ⟨i24, i24, hm⟩ := hm
        obtain ⟨law_parts_25, f24, hm⟩ := hm
        refine l_set (T := [b, c]) dm o_law_parts im_law_parts nt_law_parts ts rfl (ev_inl (b' := (tBool : Ty K Bool)) (ev_int (K := K))) e24 (ev_int (K := K)) i24 f24 (fun H24 s24 frx24 o_law_parts => ?_)
        have fr0 := fr0.mut hB.dom n0_law_parts s24
        have dm := dm.fx frx24 s24
        have h_law_good := (tBool : Ty K Bool).mono (S := (p_law_parts :: S)) frx24 h_law_good
        have h_law_door := (tInt : Ty K Int).mono (S := (p_law_parts :: S)) frx24 h_law_door
        have hB := hB.mut s24 nt_law_parts
        exact rest22 _ _ ⟨_, hm, ⟨v_law_good, v_law_door, _, _, _, _, _, _, _, _, _, _, _, _, _, rfl, fr0, dm, hB, h_law_good, h_law_door, o_law_parts⟩⟩
      · skip
        subst hc
        have fr0 := fr0.trans (Fr.same s22)
        have dm := dm.same s22
        have h_law_good := (tBool : Ty K Bool).mono (S := (p_law_parts :: S)) (Fr.same s22) h_law_good
        have h_law_door := (tInt : Ty K Int).mono (S := (p_law_parts :: S)) (Fr.same s22) h_law_door
        have o_law_parts := o_law_parts.same s22
        have hB := hB.same s22
        have hm := ifp_f hm
        exact rest22 _ _ ⟨_, hm, ⟨v_law_good, v_law_door, _, _, _, _, _, _, _, _, _, _, _, _, _, rfl, fr0, dm, hB, h_law_good, h_law_door, o_law_parts⟩⟩
    obtain ⟨c17, e17, hm⟩ := hm
    refine l_if (T := [b, c]) dm (eb_test (K := K) (ev_op (od_eqI (K := K)) (ev_var ts h_law_door rfl) (ev_int (K := K)))) e17 (fun hc H17 s17 => ?_) (fun hc H17 s17 => ?_)
    · skip
      subst hc
      have fr0 := fr0.trans (Fr.same s17)
      have dm := dm.same s17
      have h_law_good := (tBool : Ty K Bool).mono (S := (p_law_parts :: S)) (Fr.same s17) h_law_good
      have h_law_door := (tInt : Ty K Int).mono (S := (p_law_parts :: S)) (Fr.same s17) h_law_door
      have o_law_parts := o_law_parts.same s17
      have hB := hB.same s17
      have hm := ifp_t hm
      obtain ⟨a18, e19, hm⟩ := hm
      obtain ⟨i19, i19, hm⟩ := hm
      obtain ⟨law_parts_20, f19, hm⟩ := hm
      refine l_set (T := [b, c]) dm o_law_parts im_law_parts nt_law_parts ts rfl (ev_inl (b' := (tBool : Ty K Bool)) (ev_int (K := K))) e19 (ev_int (K := K)) i19 f19 (fun H19 s19 frx19 o_law_parts => ?_)
      have fr0 := fr0.mut hB.dom n0_law_parts s19
      have dm := dm.fx frx19 s19
      have h_law_good := (tBool : Ty K Bool).mono (S := (p_law_parts :: S)) frx19 h_law_good
      have h_law_door := (tInt : Ty K Int).mono (S := (p_law_parts :: S)) frx19 h_law_door
      have hB := hB.mut s19 nt_law_parts
      exact rest17 _ _ ⟨_, hm, ⟨v_law_good, v_law_door, _, _, _, _, _, _, _, _, _, _, _, _, _, rfl, fr0, dm, hB, h_law_good, h_law_door, o_law_parts⟩⟩
    · skip
      subst hc
      have fr0 := fr0.trans (Fr.same s17)
      have dm := dm.same s17
      have h_law_good := (tBool : Ty K Bool).mono (S := (p_law_parts :: S)) (Fr.same s17) h_law_good
      have h_law_door := (tInt : Ty K Int).mono (S := (p_law_parts :: S)) (Fr.same s17) h_law_door
      have o_law_parts := o_law_parts.same s17
      have hB := hB.same s17
      have hm := ifp_f hm
      exact rest17 _ _ ⟨_, hm, ⟨v_law_good, v_law_door, _, _, _, _, _, _, _, _, _, _, _, _, _, rfl, fr0, dm, hB, h_law_good, h_law_door, o_law_parts⟩⟩
  obtain ⟨c12, e12, hm⟩ := hm
  refine l_if (T := [b, c]) dm (eb_test (K := K) (ev_op (od_inI (K := K) (neg := false)) (ev_var ts h_law_door rfl) (ev_new (ev_lst (el_cons (ev_int (K := K)) (el_cons (ev_int (K := K)) el_nil)) (by decide))))) e12 (fun hc H12 s12 => ?_) (fun hc H12 s12 => ?_)
  · skip
    subst hc
    have fr0 := fr0.trans (Fr.same s12)
    have dm := dm.same s12
    have h_law_good := (tBool : Ty K Bool).mono (S := (p_law_parts :: S)) (Fr.same s12) h_law_good
    have o_law_parts := o_law_parts.same s12
    have h_law_door := (tInt : Ty K Int).mono (S := (p_law_parts :: S)) (Fr.same s12) h_law_door
    have hB := hB.same s12
    have hm := ifp_t hm
    obtain ⟨a13, e14, hm⟩ := hm
    obtain ⟨i14, i14, hm⟩ := hm
    obtain ⟨law_parts_15, f14, hm⟩ := hm
    refine l_set (T := [b, c]) dm o_law_parts im_law_parts nt_law_parts ts rfl (ev_inl (b' := (tBool : Ty K Bool)) (ev_int (K := K))) e14 (ev_int (K := K)) i14 f14 (fun H14 s14 frx14 o_law_parts => ?_)
    have fr0 := fr0.mut hB.dom n0_law_parts s14
    have dm := dm.fx frx14 s14
    have h_law_good := (tBool : Ty K Bool).mono (S := (p_law_parts :: S)) frx14 h_law_good
    have h_law_door := (tInt : Ty K Int).mono (S := (p_law_parts :: S)) frx14 h_law_door
    have hB := hB.mut s14 nt_law_parts
    exact rest12 _ _ ⟨_, hm, ⟨v_law_good, v_law_door, _, _, _, _, _, _, _, _, _, _, _, _, _, rfl, fr0, dm, hB, h_law_good, h_law_door, o_law_parts⟩⟩
  · skip
    subst hc
    have fr0 := fr0.trans (Fr.same s12)
    have dm := dm.same s12
    have h_law_good := (tBool : Ty K Bool).mono (S := (p_law_parts :: S)) (Fr.same s12) h_law_good
    have o_law_parts := o_law_parts.same s12
    have h_law_door := (tInt : Ty K Int).mono (S := (p_law_parts :: S)) (Fr.same s12) h_law_door
    have hB := hB.same s12
    have hm := ifp_f hm
    exact rest12 _ _ ⟨_, hm, ⟨v_law_good, v_law_door, _, _, _, _, _, _, _, _, _, _, _, _, _, rfl, fr0, dm, hB, h_law_good, h_law_door, o_law_parts⟩⟩
end
end G

namespace G
open PySem L2 M
section
variable {P : Program} {w : World} {K : PySem.W.Frag} {mg : Str → Option Value} {base : Heap}

def m_law (P : Bool → Prop) : Prop :=
  (lf (bd (some (16 : Int)) fun x => bd (some (16 : Int)) fun y => some (decide (x = y))) fun law_good_1 => ((lf (bd (some (4 : Int)) rng1?)) fun xs4 => loopW (fun s_2 law_turn_2 K2 => ((andW (lf (some s_2)) (callBW (fun a => m_law_one) (lf (some ())))) fun law_good_3 => K2 (Ct.go law_good_3))) xs4 law_good_1 fun r_2 => match r_2 with | .ret y => P y | .go t_2 => (lf (some t_2) P) | .brk _ => False))
end
end G

namespace G
open PySem L2 M
/-! ### ratios of bounded size -/
structure Bq (n : Nat) (q : Rat) : Prop where
  o : q.num.natAbs < 2 ^ n
  u : q.den < 2 ^ n
theorem pow_le {a b : Nat} (h : a ≤ b) : (2 : Nat) ^ a ≤ 2 ^ b := Nat.pow_le_pow_right (by decide) h
theorem Bq.le {a b : Nat} {q : Rat} (h : Bq a q) (l : a ≤ b) : Bq b q := ⟨Nat.lt_of_lt_of_le h.o (pow_le l), Nat.lt_of_lt_of_le h.u (pow_le l)⟩
theorem den_ne (q : Rat) : (q.den : Int) ≠ 0 := by have := q.den_nz; omega
theorem den_pos (q : Rat) : (0 : Int) < q.den := by have := q.den_nz; omega
theorem bq_divInt {n : Nat} {o u : Int} (h : u ≠ 0) (ho : o.natAbs < 2 ^ n) (hu : u.natAbs < 2 ^ n) : Bq n (Rat.divInt o u) := by
  have e := rat_rND (o := o) h
  refine ⟨?_, ?_⟩
  · rw [e.1]; exact Nat.lt_of_le_of_lt (rN_le h) ho
  · have := rD_le (o := o) h
    have := rD_pos (o := o) h
    omega
theorem nat_mul_lt {x y : Int} {n m : Nat} (hx : x.natAbs < 2 ^ n) (hy : y.natAbs < 2 ^ m) : (x * y).natAbs < 2 ^ (n + m) := wide_lt hx hy
theorem den_nat (q : Rat) : ((q.den : Int)).natAbs = q.den := by omega
theorem den_lt {n : Nat} {q : Rat} (h : Bq n q) : ((q.den : Int)).natAbs < 2 ^ n := by rw [den_nat]; exact h.u
theorem den_mul_ne (q r : Rat) : (q.den : Int) * (r.den : Int) ≠ 0 := Int.mul_ne_zero (den_ne q) (den_ne r)
theorem add_divInt (q r : Rat) : Rat.divInt (q.num * r.den + r.num * q.den) (q.den * r.den) = q + r := by
  have h := Rat.divInt_add_divInt q.num r.num (den_ne q) (den_ne r)
  rw [Rat.num_divInt_den, Rat.num_divInt_den] at h
  exact h.symm
theorem sub_divInt (q r : Rat) : Rat.divInt (q.num * r.den - r.num * q.den) (q.den * r.den) = q - r := by
  have h := add_divInt q (-r)
  rw [Rat.neg_num, Rat.neg_den] at h
  rw [Rat.sub_eq_add_neg, ← h]
  congr 1
  rw [Int.neg_mul, Int.sub_eq_add_neg]
theorem mul_divInt (q r : Rat) : Rat.divInt (q.num * r.num) (q.den * r.den) = q * r := by
  have h := Rat.divInt_mul_divInt q.num r.num (d₁ := q.den) (d₂ := r.den)
  rw [Rat.num_divInt_den, Rat.num_divInt_den] at h
  exact h.symm
theorem div_divInt (q r : Rat) : Rat.divInt (q.num * r.den) (q.den * r.num) = q / r := by
  rw [Rat.div_def, Rat.inv_def]
  have h := Rat.divInt_mul_divInt q.num (r.den : Int) (d₁ := q.den) (d₂ := r.num)
  rw [Rat.num_divInt_den] at h
  exact h.symm
theorem Bq.add {n m : Nat} {q r : Rat} (h : Bq n q) (h' : Bq m r) : Bq (n + m + 1) (q + r) := by
  rw [← add_divInt]
  have h1 := nat_mul_lt h.o (den_lt h')
  have h2 := nat_mul_lt h'.o (den_lt h)
  have h3 := nat_mul_lt (den_lt h) (den_lt h')
  rw [Nat.add_comm m n] at h2
  refine bq_divInt (den_mul_ne q r) ?_ ?_
  · rw [Nat.pow_succ]; omega
  · rw [Nat.pow_succ]; omega
theorem Bq.sub {n m : Nat} {q r : Rat} (h : Bq n q) (h' : Bq m r) : Bq (n + m + 1) (q - r) := by
  rw [← sub_divInt]
  have h1 := nat_mul_lt h.o (den_lt h')
  have h2 := nat_mul_lt h'.o (den_lt h)
  have h3 := nat_mul_lt (den_lt h) (den_lt h')
  rw [Nat.add_comm m n] at h2
  refine bq_divInt (den_mul_ne q r) ?_ ?_
  · rw [Nat.pow_succ]; omega
  · rw [Nat.pow_succ]; omega
theorem Bq.mul {n m : Nat} {q r : Rat} (h : Bq n q) (h' : Bq m r) : Bq (n + m) (q * r) := by
  rw [← mul_divInt]
  exact bq_divInt (den_mul_ne q r) (nat_mul_lt h.o h'.o) (nat_mul_lt (den_lt h) (den_lt h'))
theorem Bq.div {n m : Nat} {q r : Rat} (h : Bq n q) (h' : Bq m r) (hr : r ≠ 0) : Bq (n + m) (q / r) := by
  rw [← div_divInt]
  have hn : r.num ≠ 0 := by rw [Ne, Rat.num_eq_zero]; exact hr
  exact bq_divInt (Int.mul_ne_zero (den_ne q) hn) (nat_mul_lt h.o (den_lt h')) (nat_mul_lt (den_lt h) h'.o)
theorem mul?_g {x y : Int} {n m : Nat} (hx : x.natAbs < 2 ^ n) (hy : y.natAbs < 2 ^ m) (hl : n + m ≤ 900000) : mul? x y = some (x * y) := by
  unfold mul? mulP
  rw [if_pos]
  refine decide_eq_true ?_
  have lg : ∀ (z k : Nat), z < 2 ^ k → z.log2 ≤ k := fun z k h => by
    by_cases c : z = 0
    · subst c; simp
    · exact Nat.le_of_lt ((Nat.log2_lt c).mpr h)
  have := lg _ _ hx
  have := lg _ _ hy
  omega
theorem ratio?_eq {o u : Int} (h : u ≠ 0) (hu : u.natAbs < 2 ^ 9000) : ratio? o u = some (Rat.divInt o u) := by
  unfold ratio?
  rw [if_pos ⟨h, hu⟩]
theorem lt9g {x y : Int} {n m : Nat} (hx : x.natAbs < 2 ^ n) (hy : y.natAbs < 2 ^ m) (l : n + m ≤ 9000) : (x * y).natAbs < 2 ^ 9000 := Nat.lt_of_lt_of_le (nat_mul_lt hx hy) (pow_le l)
section
variable {q r : Rat} {n m : Nat}
theorem m_plus_g (h : Bq n q) (h' : Bq m r) (l : n + m ≤ 9000) : m_plus q r = some (q + r) := by
  simp only [m_plus, bd, Option.bind_some, mul?_g h.o (den_lt h') (by omega), mul?_g h'.o (den_lt h) (by omega), mul?_g (den_lt h) (den_lt h') (by omega)]
  rw [ratio?_eq (den_mul_ne q r) (lt9g (den_lt h) (den_lt h') l), add_divInt]
theorem m_divided_g (h : Bq n q) (h' : Bq m r) (hr : r ≠ 0) (l : n + m ≤ 9000) : m_divided q r = some (q / r) := by
  have hn : r.num ≠ 0 := by rw [Ne, Rat.num_eq_zero]; exact hr
  simp only [m_divided, bd, Option.bind_some, mul?_g h.o (den_lt h') (by omega), mul?_g (den_lt h) h'.o (by omega)]
  rw [ratio?_eq (Int.mul_ne_zero (den_ne q) hn) (lt9g (den_lt h) h'.o l), div_divInt]
end
end G

namespace G
open PySem L2 M
/-! ### texts -/
theorem shw_ok {i : Int} (h : i.natAbs ≤ 1000) : shw? i = some (Str.ofString (toString i)) ∧ (Str.ofString (toString i)).length ≤ 2000 := by
  have hl : i.natAbs.log2 < 1920 := by
    by_cases c : i.natAbs = 0
    · rw [c]; decide
    · refine Nat.lt_of_lt_of_le ((Nat.log2_lt c).mpr (show i.natAbs < 2 ^ 10 by omega)) (by decide)
  unfold shw?
  rw [if_pos hl]
  refine ⟨rfl, ?_⟩
  have e := int_text_length_le (k := 1920) (by decide) hl
  rw [ofString_length]
  omega
theorem catX_ok {x y : Str} (h : x.length + y.length ≤ 100000) : catX? x y = some (x ++ y) := by
  unfold catX?
  rw [if_pos]
  rw [Str.length_append, sizeLine_eq]
  omega
theorem catY_ok {x y : Str} (h : x.length + y.length ≤ 100000) : catY? x y = some (x ++ y) := by
  unfold catY?
  rw [if_pos]
  rw [sizeLine_eq]
  omega
theorem str_eq {a b c d : Str} (ha : a.length ≤ 2000) (hb : b.length ≤ 2000) (hc : c.length ≤ 2000) (hd : d.length ≤ 2000) : join? " " [a, b, c, d] = some (Str.empty ++ a ++ " " ++ b ++ " " ++ c ++ " " ++ d) := by
  have l1 : (" " : Str).length = 1 := by decide
  unfold join?
  rw [if_pos (by simp [l1]; omega)]
  congr 1
  unfold Txt.join
  rw [StrLaws.glued_eq_join]
  simp only [Str.join, Str.empty_append, Str.append_assoc]
theorem mstr_eq {i j k l : Int} (hi : i.natAbs ≤ 1000) (hj : j.natAbs ≤ 1000) (hk : k.natAbs ≤ 1000) (hl : l.natAbs ≤ 1000) : m_Scale___str__ (i, j, k, l) = join? " " [Str.ofString (toString i), Str.ofString (toString j), Str.ofString (toString k), Str.ofString (toString l)] := by
  have l1 : (" " : Str).length = 1 := by decide
  have l0 : Str.empty.length = 0 := rfl
  obtain ⟨a1, a2⟩ := shw_ok hi
  obtain ⟨b1, b2⟩ := shw_ok hj
  obtain ⟨c1, c2⟩ := shw_ok hk
  obtain ⟨d1, d2⟩ := shw_ok hl
  rw [str_eq a2 b2 c2 d2]
  simp only [m_Scale___str__, bd, Option.bind_some, a1, b1, c1, d1]
  rw [catX_ok (by omega), Option.bind_some, catX_ok (by simp only [Str.length_append]; omega), Option.bind_some, catX_ok (by simp only [Str.length_append]; omega), Option.bind_some, catX_ok (by simp only [Str.length_append]; omega), Option.bind_some, catX_ok (by simp only [Str.length_append]; omega), Option.bind_some, catX_ok (by simp only [Str.length_append]; omega), Option.bind_some, catX_ok (by simp only [Str.length_append]; omega), Option.bind_some]
theorem mrepr_eq {i j k l : Int} (hi : i.natAbs ≤ 1000) : ∃ z, m_Scale___repr__ (i, j, k, l) = some z ∧ ((catY? "Scale(" (Str.ofString (toString i))).bind fun x => catY? x ")") = some z := by
  have l1 : ("Scale(" : Str).length = 6 := by decide
  have l2 : (")" : Str).length = 1 := by decide
  have l0 : Str.empty.length = 0 := rfl
  obtain ⟨a1, a2⟩ := shw_ok hi
  refine ⟨"Scale(" ++ Str.ofString (toString i) ++ ")", ?_, ?_⟩
  · simp only [m_Scale___repr__, bd, Option.bind_some, a1]
    rw [catX_ok (by omega), Option.bind_some, catX_ok (by simp only [Str.length_append]; omega), Option.bind_some, catX_ok (by simp only [Str.length_append]; omega), Option.bind_some, Str.empty_append]
  · rw [catY_ok (by omega), Option.bind_some, catY_ok (by simp only [Str.length_append]; omega)]
/-! ### refusals -/
theorem wholeU_eq (x : Int ⊕ Bool) : m_law_wholeU x = some (!x.isRight) := by simp [m_law_wholeU, bd]
theorem due_eq (x0 x1 x2 x3 : Int ⊕ Bool) : m_law_due [x0, x1, x2, x3] = some (dueW x0 x1 x2 x3) := by
  have r4 : rng1? (4 : Int) = some [0, 1, 2, 3] := by decide
  have a0 : atI [x0, x1, x2, x3] 0 = some x0 := rfl
  have a1 : atI [x0, x1, x2, x3] 1 = some x1 := rfl
  have a2 : atI [x0, x1, x2, x3] 2 = some x2 := rfl
  have a3 : atI [x0, x1, x2, x3] 3 = some x3 := rfl
  have b0 : atI [(1 : Int), 0, 1, 8] 0 = some 1 := rfl
  have b1 : atI [(1 : Int), 0, 1, 8] 1 = some 0 := rfl
  have b2 : atI [(1 : Int), 0, 1, 8] 2 = some 1 := rfl
  have b3 : atI [(1 : Int), 0, 1, 8] 3 = some 8 := rfl
  have c0 : atI [(100 : Int), 100, 9, 64] 0 = some 100 := rfl
  have c1 : atI [(100 : Int), 100, 9, 64] 1 = some 100 := rfl
  have c2 : atI [(100 : Int), 100, 9, 64] 2 = some 9 := rfl
  have c3 : atI [(100 : Int), 100, 9, 64] 3 = some 64 := rfl
  have d0 : atI [("step" : Str), "tolerance", "letter", "side"] 0 = some "step" := rfl
  have d1 : atI [("step" : Str), "tolerance", "letter", "side"] 1 = some "tolerance" := rfl
  have d2 : atI [("step" : Str), "tolerance", "letter", "side"] 2 = some "letter" := rfl
  have d3 : atI [("step" : Str), "tolerance", "letter", "side"] 3 = some "side" := rfl
  have key : ∀ (x : Int ⊕ Bool) (lo hi : Int), ((some (!x.isRight)).bind fun b => some (!b)).bind (fun b => if b = true then some true else ((getL? x).bind fun y => if decide (lo ≤ y) = true then some (decide (y ≤ hi)) else some false).bind fun b => some (!b)) = some (!inB x lo hi) := by
    intro x lo hi
    cases x with
    | inl i => by_cases c : lo ≤ i <;> simp [getL?, inB, c]
    | inr k => simp [inB]
  simp only [Option.bind_some] at key
  simp only [m_law_due, bd, Option.bind_some, r4, loopC, a0, a1, a2, a3, b0, b1, b2, b3, c0, c1, c2, c3, d0, d1, d2, d3, wholeU_eq, key]
  unfold dueW
  cases inB x0 1 100 <;> cases inB x1 0 100 <;> cases inB x2 1 9 <;> cases inB x3 8 64 <;> rfl
theorem dueW_none {x0 x1 x2 x3 : Int ⊕ Bool} (h : dueW x0 x1 x2 x3 = none) : ∃ i0 i1 i2 i3 : Int, x0 = .inl i0 ∧ x1 = .inl i1 ∧ x2 = .inl i2 ∧ x3 = .inl i3 ∧ (1 ≤ i0 ∧ i0 ≤ 100) ∧ (0 ≤ i1 ∧ i1 ≤ 100) ∧ (1 ≤ i2 ∧ i2 ≤ 9) ∧ 8 ≤ i3 ∧ i3 ≤ 64 := by
  unfold dueW at h
  cases b0 : inB x0 1 100 with
  | false => simp [b0] at h
  | true =>
  cases b1 : inB x1 0 100 with
  | false => simp [b0, b1] at h
  | true =>
  cases b2 : inB x2 1 9 with
  | false => simp [b0, b1, b2] at h
  | true =>
  cases b3 : inB x3 8 64 with
  | false => simp [b0, b1, b2, b3] at h
  | true =>
  obtain ⟨i0, e0, h0⟩ := inB_inl b0
  obtain ⟨i1, e1, h1⟩ := inB_inl b1
  obtain ⟨i2, e2, h2⟩ := inB_inl b2
  obtain ⟨i3, e3, h3⟩ := inB_inl b3
  exact ⟨i0, i1, i2, i3, e0, e1, e2, e3, h0, h1, h2, h3⟩
theorem dueW_in {i0 i1 i2 i3 : Int} (h0 : 1 ≤ i0 ∧ i0 ≤ 100) (h1 : 0 ≤ i1 ∧ i1 ≤ 100) (h2 : 1 ≤ i2 ∧ i2 ≤ 9) (h3 : 8 ≤ i3 ∧ i3 ≤ 64) : dueW (.inl i0) (.inl i1) (.inl i2) (.inl i3) = none := by
  simp [dueW, inB, h0, h1, h2, h3]
/-! ### numbers -/
theorem half_p2r : p2r (1, 2) = some (Rat.divInt 1 2) := by decide +kernel
theorem p2r_int (t : Int) : p2r (t, 1) = some (t : Rat) := by
  have h := p2r_rat (t : Rat)
  simpa using h
theorem bq_int {t : Int} {n : Nat} (hn : 0 < n) (h : t.natAbs < 2 ^ n) : Bq n (t : Rat) := ⟨by simpa using h, by
  show 1 < 2 ^ n
  exact Nat.one_lt_two_pow (by omega)⟩
theorem floor_g {A B : Int} (hB : 0 < B) (hb : B.natAbs < 2 ^ 8000) : m_floor (Rat.divInt A B) = some (A.fdiv B) := by
  obtain ⟨e1, e2⟩ := rat_rND (o := A) (u := B) (by omega)
  have bq : (Rat.divInt A B).den < 2 ^ 8000 := by
    have e := rD_eq A B
    have e3 : (cOf A B).natAbs * (rD A B).natAbs = B.natAbs := by rw [← Int.natAbs_mul, e]
    have c0 : 1 ≤ (cOf A B).natAbs := by
      have := cOf_ne (o := A) (u := B) (by omega)
      omega
    have : (rD A B).natAbs ≤ B.natAbs := by
      rw [← e3]
      exact Nat.le_mul_of_pos_left _ c0
    omega
  have nz := (Rat.divInt A B).den_nz
  have hp : fdivP ((Rat.divInt A B).den : Int) = true := by
    unfold fdivP
    refine decide_eq_true ⟨by omega, ?_⟩
    rw [show ((Rat.divInt A B).den : Int).natAbs = (Rat.divInt A B).den by omega]
    exact Nat.lt_of_lt_of_le ((Nat.log2_lt nz).mpr bq) (by decide)
  simp only [m_floor, bd, Option.bind_some]
  unfold fdiv?
  rw [if_pos hp, e1, e2, rDiv hB]
theorem near_div (q : Rat) (s : Int) (hs : 1 ≤ s) : q / (s : Rat) + Rat.divInt 1 2 = Rat.divInt (2 * q.num + s * q.den) (2 * s * q.den) := by
  have dp : (0 : Int) < q.den := den_pos q
  have hq : q = (q.num : Rat) / ((q.den : Int) : Rat) := by
    have := Rat.num_divInt_den q
    rw [Rat.divInt_eq_div] at this
    exact this.symm
  have s0 : (s : Rat) ≠ 0 := by exact_mod_cast (show s ≠ 0 by omega)
  have d0 : ((q.den : Int) : Rat) ≠ 0 := by exact_mod_cast (show (q.den : Int) ≠ 0 by omega)
  rw [Rat.divInt_eq_div, Rat.divInt_eq_div]
  have e1 : ((2 * q.num + s * q.den : Int) : Rat) = 2 * (q.num : Rat) + (s : Rat) * ((q.den : Int) : Rat) := by push_cast; rfl
  have e2 : ((2 * s * q.den : Int) : Rat) = 2 * (s : Rat) * ((q.den : Int) : Rat) := by push_cast; rfl
  rw [e1, e2]
  generalize ((q.den : Int) : Rat) = d at *
  generalize (s : Rat) = t at *
  generalize (q.num : Rat) = n at *
  rw [hq]
  have k1 : ((1 : Int) : Rat) = 1 := rfl
  have k2 : ((2 : Int) : Rat) = 2 := rfl
  rw [k1, k2]
  have z : 2 * t * d ≠ 0 := by grind
  grind
end G

namespace G
open PySem L2 M
theorem dr_g {q : Rat} {s : Int} (hq : Bq 200 q) (hs : 1 ≤ s ∧ s ≤ 100) : m_divided q (s : Rat) = some (q / (s : Rat)) ∧ m_nearest (q / (s : Rat)) = some ((2 * q.num + s * q.den).fdiv (2 * s * q.den)) := by
  have bs : Bq 7 (s : Rat) := bq_int (by decide) (by have : (2 : Nat) ^ 7 = 128 := by decide
                                                     omega)
  have s0 : (s : Rat) ≠ 0 := by exact_mod_cast (show s ≠ 0 by omega)
  have bd' := hq.div bs s0
  have bh : Bq 2 (Rat.divInt 1 2) := ⟨by decide +kernel, by decide +kernel⟩
  have dp := den_pos q
  refine ⟨m_divided_g hq bs s0 (by decide), ?_⟩
  simp only [m_nearest, bd, Option.bind_some, half_p2r, m_plus_g bd' bh (by decide)]
  rw [near_div q s hs.1]
  refine floor_g (Int.mul_pos (by omega) dp) ?_
  have h1 : (2 * s).natAbs < 2 ^ 8 := by
    have : (2 : Nat) ^ 8 = 256 := by decide
    omega
  exact Nat.lt_of_lt_of_le (nat_mul_lt h1 (den_lt hq)) (pow_le (by decide))
theorem pair_g {q : Rat} {s : Int} (hq : Bq 200 q) (hs : 1 ≤ s ∧ s ≤ 100) : ((((mul? 2 q.num).bind fun x => (mul? s (q.den : Int)).bind fun y => some (x + y)).bind fun x => ((mul? 2 s).bind fun x => mul? x (q.den : Int)).bind fun y => fdiv? x y)) = some ((2 * q.num + s * q.den).fdiv (2 * s * q.den)) := by
  have e8 : (2 : Nat) ^ 8 = 256 := by decide
  have b2 : (2 : Int).natAbs < 2 ^ 8 := by decide
  have bs : s.natAbs < 2 ^ 8 := by omega
  have b3 : (2 * s).natAbs < 2 ^ 8 := by omega
  have dp := den_pos q
  have lt := nat_mul_lt b3 (den_lt hq)
  rw [mul?_g b2 hq.o (by decide), mul?_g bs (den_lt hq) (by decide), mul?_g b2 bs (by decide)]
  simp only [Option.bind_some]
  rw [mul?_g b3 (den_lt hq) (by decide)]
  simp only [Option.bind_some]
  have pos : 0 < 2 * s * (q.den : Int) := Int.mul_pos (by omega) dp
  unfold fdiv?
  rw [if_pos]
  unfold fdivP
  refine decide_eq_true ⟨by omega, ?_⟩
  exact Nat.lt_of_lt_of_le ((Nat.log2_lt (by omega)).mpr lt) (by decide)
theorem drawn_eq {z : Rat × Rat} {s : Int} (h1 : Bq 200 z.1) (h2 : Bq 200 z.2) (hs : 1 ≤ s ∧ s ≤ 100) : ∃ p, m_drawn z s = some p ∧ m_law_pair z s = some p := by
  obtain ⟨a1, a2⟩ := dr_g h1 hs
  obtain ⟨b1, b2⟩ := dr_g h2 hs
  have c1 := pair_g h1 hs
  have c2 := pair_g h2 hs
  refine ⟨((2 * z.1.num + s * z.1.den).fdiv (2 * s * z.1.den), (2 * z.2.num + s * z.2.den).fdiv (2 * s * z.2.den)), ?_, ?_⟩
  · simp only [m_drawn, bd, Option.bind_some, p2r_int, a1, a2, b1, b2]
  · simp only [m_law_pair, bd, Option.bind_some]
    unfold mapL?
    rw [if_pos (by simp)]
    simp only [mapO, bd, c1, c2, Option.bind_some]
    rfl
theorem slack_eq {i0 i1 i2 i3 : Int} (h0 : i0.natAbs ≤ 1000) (h1 : i1.natAbs ≤ 1000) : ∃ q, m_Scale_slack (i0, i1, i2, i3) = some q ∧ ((mul? 2 i1).bind fun x => some (x + i0)).bind (fun x => ratio? x 2) = some q := by
  have e10 : (2 : Nat) ^ 10 = 1024 := by decide
  have r1 : ratio? i1 1 = some (Rat.divInt i1 1) := ratio?_eq (by decide) (Nat.lt_of_lt_of_le (show (1 : Int).natAbs < 2 ^ 2 by decide) (pow_le (by decide)))
  have r2 : ∀ x, ratio? x 2 = some (Rat.divInt x 2) := fun x => ratio?_eq (by decide) (Nat.lt_of_lt_of_le (show (2 : Int).natAbs < 2 ^ 2 by decide) (pow_le (by decide)))
  have q1 : Bq 10 (Rat.divInt i1 1) := bq_divInt (by decide) (by omega) (by decide)
  have q2 : Bq 10 (Rat.divInt i0 2) := bq_divInt (by decide) (by omega) (by decide)
  refine ⟨Rat.divInt i1 1 + Rat.divInt i0 2, ?_, ?_⟩
  · simp only [m_Scale_slack, bd, Option.bind_some, r1, r2, m_plus_g q1 q2 (by decide)]
  · rw [mul?_g (show (2 : Int).natAbs < 2 ^ 10 by decide) (show i1.natAbs < 2 ^ 10 by omega) (by decide)]
    simp only [Option.bind_some, r2]
    congr 1
    rw [Rat.divInt_eq_div, Rat.divInt_eq_div, Rat.divInt_eq_div]
    push_cast
    grind
theorem bsm {x : Int} {n : Nat} (h : x.natAbs ≤ n) (k : Nat) (hk : n < 2 ^ k) : x.natAbs < 2 ^ k := Nat.lt_of_le_of_lt h hk
theorem ratio_sp {P : Rat → Prop} (h : ∀ q, Bq 30 q → P q) : m_law_ratio 999 P := by
  simp only [m_law_ratio, callBW, bd, Option.bind_some, lf_some, anyW]
  refine ⟨by simp, by decide, fun low hl => ?_⟩
  have hl' : 1 ≤ low ∧ low ≤ 60 := by
    simp only [List.mem_cons, List.not_mem_nil, or_false] at hl
    omega
  have e20 : (2 : Nat) ^ 20 = 1048576 := by decide
  rw [mul?_g (show (999 : Int).natAbs < 2 ^ 20 by decide) (show low.natAbs < 2 ^ 20 by omega) (by decide), lf_some]
  simp only [unW, tup2W, opW, callBW, bd, Option.bind_some, lf_some]
  rw [mul?_g (show (2 : Int).natAbs < 2 ^ 20 by decide) (show (999 * low).natAbs < 2 ^ 20 by omega) (by decide)]
  simp only [Option.bind_some, lf_some, drawW]
  refine ⟨by omega, by omega, fun r r0 r1 => ?_⟩
  rw [ratio?_eq (by omega) (Nat.lt_of_lt_of_le (show low.natAbs < 2 ^ 20 by omega) (pow_le (by decide))), lf_some]
  have e30 : (2 : Nat) ^ 30 = 1073741824 := by decide
  exact h _ (bq_divInt (by omega) (by omega) (by omega))
theorem big_sp {P : Int → Prop} (h : ∀ x : Int, x.natAbs < 2 ^ 120 → P x) : m_law_big P := by
  have small : ∀ x : Int, x.natAbs ≤ 1000000 → P x := fun x hx => h x (bsm hx 120 (by decide))
  simp only [m_law_big, callBW, bd, Option.bind_some, lf_some, drawW, opW]
  refine ⟨by decide, by decide, fun k k0 k1 => ?_⟩
  by_cases c0 : k = 0
  · simp only [c0, decide_true, if_true]
    exact ⟨by decide, by decide, fun r r0 r1 => small _ (by omega)⟩
  by_cases c1 : k = 1
  · simp only [c1, decide_true, if_true, show decide ((1 : Int) = 0) = false from rfl, Bool.false_eq_true, if_false]
    exact ⟨by decide, by decide, fun r r0 r1 => small _ (by omega)⟩
  simp only [c0, c1, decide_false, Bool.false_eq_true, if_false]
  have e9 : (10 : Int) ^ (9 : Int).toNat + 7 = 1000000007 := by decide
  have e18 : (10 : Int) ^ (18 : Int).toNat = 1000000000000000000 := by decide
  rw [e9]
  refine ⟨by decide, by decide, fun r r0 r1 => ⟨by decide, by decide, fun d d0 d1 => ?_⟩⟩
  have e31 : (2 : Nat) ^ 31 = 2147483648 := by decide
  have e62 : (2 : Nat) ^ 62 = 4611686018427387904 := by decide
  have br : (r + 1000).natAbs < 2 ^ 31 := by omega
  rw [mul?_g (show d.natAbs < 2 ^ 31 by omega) (show (2 : Int).natAbs < 2 ^ 31 by decide) (by decide), lf_some]
  have bd2 : (d * 2 - 1).natAbs < 2 ^ 31 := by omega
  rw [mul?_g br bd2 (by decide), lf_some]
  refine ⟨by decide, by decide, fun t t0 t1 => ?_⟩
  rw [e18, mul?_g (show t.natAbs < 2 ^ 31 by omega) (show (1000000000000000000 : Int).natAbs < 2 ^ 62 by decide) (by decide), lf_some]
  have bt : (1 + t * 1000000000000000000).natAbs < 2 ^ 62 := by omega
  have bp := nat_mul_lt br bd2
  rw [mul?_g bp bt (by decide), lf_some]
  refine h _ ?_
  have sm : (d * 2 - 1).natAbs ≤ 1 := by omega
  have e1 : ((r + 1000) * (d * 2 - 1)).natAbs < 2 ^ 31 := by
    rw [Int.natAbs_mul]
    have := Nat.mul_le_mul_left (r + 1000).natAbs sm
    omega
  exact Nat.lt_of_lt_of_le (nat_mul_lt e1 bt) (pow_le (by decide))
end G

namespace G
open PySem L2 M
def F4 (t : List (Int ⊕ Bool)) : Prop := ∃ x0 x1 x2 x3, t = [x0, x1, x2, x3]
theorem set4 {x0 x1 x2 x3 : Int ⊕ Bool} {k : Int} (y : Int ⊕ Bool) (k0 : 0 ≤ k) (k1 : k < 4) : ∃ t, set? [x0, x1, x2, x3] k y = some t ∧ F4 t := by
  have : k = 0 ∨ k = 1 ∨ k = 2 ∨ k = 3 := by omega
  rcases this with rfl | rfl | rfl | rfl
  · exact ⟨_, rfl, _, _, _, _, rfl⟩
  · exact ⟨_, rfl, _, _, _, _, rfl⟩
  · exact ⟨_, rfl, _, _, _, _, rfl⟩
  · exact ⟨_, rfl, _, _, _, _, rfl⟩
theorem told_eq {x0 x1 x2 x3 : Int ⊕ Bool} {door : Int} (d0 : 0 ≤ door) (d4 : door < 4) (h1 : door = 1 ∨ door = 3 → x1 = .inl 0) (h2 : door = 3 → x2 = .inl 1) (h3 : 1 < door → x3 = .inl 16) : m_law_told [x0, x1, x2, x3] door = some (mkS x0 x1 x2 x3) := by
  have : door = 0 ∨ door = 1 ∨ door = 2 ∨ door = 3 := by omega
  rcases this with rfl | rfl | rfl | rfl
  · rfl
  · rw [h1 (by omega)]; rfl
  · rw [h3 (by omega)]; rfl
  · rw [h1 (by omega), h2 (by omega), h3 (by omega)]; rfl
theorem one_sp {P : Bool → Prop} (h : P true) : m_law_one P := by
  have dec19 : decide ((1 : Int) ∈ [(1 : Int), 3]) = true := by decide
  unfold m_law_one
  simp only [bd, Option.bind_some, lf_some, consW, unW, opW, callBW, drawW]
  refine ⟨by decide, by decide, fun a a0 a1 => ⟨by decide, by decide, fun b b0 b1 => ⟨by decide, by decide, fun c c0 c1 => ⟨by decide, by decide, fun d e0 e1 => ?_⟩⟩⟩⟩
  rw [cat_eq (by simp), lf_some]
  refine ⟨by decide, by decide, fun n n0 n1 => ?_⟩
  obtain ⟨xs, hx⟩ : ∃ xs, rng1? n = some xs := ⟨_, rng1_eq ⟨by omega, by omega⟩⟩
  rw [hx, lf_some]
  refine loopW_all F4 _ _ ⟨_, _, _, _, rfl⟩ (fun s x C hs _ hC => ?_) (fun t ht => ?_)
  · obtain ⟨x0, x1, x2, x3, rfl⟩ := hs
    refine ⟨by decide, by decide, fun k k0 k1 => ⟨by decide, by decide, fun r r0 r1 => ?_⟩⟩
    rw [cat_eq (by simp), lf_some]
    refine ⟨by simp, by simp, fun y _ => ?_⟩
    obtain ⟨t, et, ht⟩ := set4 (x0 := x0) (x1 := x1) (x2 := x2) (x3 := x3) y k0 k1
    rw [et, lf_some]
    exact hC t ht
  dsimp only
  refine ⟨by decide, by decide, fun door d0 d4 => ?_⟩
  obtain ⟨x0, x1, x2, x3, rfl⟩ := ht
  refine jn_of (fun t => ∃ y1, t = [x0, y1, x2, x3] ∧ (door = 1 ∨ door = 3 → y1 = .inl 0)) (fun J hJ => ?_) (fun t ht => ?_)
  · split
    · exact ⟨_, rfl, hJ _ ⟨_, rfl, fun _ => rfl⟩⟩
    · rename_i hc
      exact hJ _ ⟨_, rfl, fun hd => absurd (decide_eq_true (by simpa using hd)) hc⟩
  obtain ⟨y1, rfl, h1⟩ := ht
  refine jn_of (fun t => ∃ y2, t = [x0, y1, y2, x3] ∧ (door = 3 → y2 = .inl 1)) (fun J hJ => ?_) (fun t ht => ?_)
  · split
    · exact ⟨_, rfl, hJ _ ⟨_, rfl, fun _ => rfl⟩⟩
    · rename_i hc
      exact hJ _ ⟨_, rfl, fun hd => absurd (decide_eq_true hd) hc⟩
  obtain ⟨y2, rfl, h2⟩ := ht
  refine jn_of (fun t => ∃ y3, t = [x0, y1, y2, y3] ∧ (1 < door → y3 = .inl 16)) (fun J hJ => ?_) (fun t ht => ?_)
  · split
    · exact ⟨_, rfl, hJ _ ⟨_, rfl, fun _ => rfl⟩⟩
    · rename_i hc
      exact hJ _ ⟨_, rfl, fun hd => absurd (decide_eq_true hd) hc⟩
  obtain ⟨y3, rfl, h3⟩ := ht
  rw [due_eq, lf_some, told_eq d0 d4 h1 h2 h3, lf_some]
  refine jn_of (fun z => z = true) (fun J hJ => ?_) (fun z hz => by rw [hz]; exact h)
  have J1 : J true := hJ _ rfl
  clear hJ h h1 h2 h3 hx
  cases hd : dueW x0 y1 y2 y3 with
  | some z =>
    have e : mkS x0 y1 y2 y3 = .inl z := by unfold mkS; rw [hd]
    simp only [optM, andW, lf_some, if_true, sameW, e, getL?, noSz]
    exact ⟨trivial, trivial, J1⟩
  | none =>
    have e : mkS x0 y1 y2 y3 = .inr (val x0, val y1, val y2, val y3) := by unfold mkS; rw [hd]
    obtain ⟨i0, i1, i2, i3, rfl, rfl, rfl, rfl, q0, q1, q2, q3⟩ := dueW_none hd
    have n0 : i0.natAbs ≤ 1000 := by omega
    have n1 : i1.natAbs ≤ 1000 := by omega
    have n2 : i2.natAbs ≤ 1000 := by omega
    have n3 : i3.natAbs ≤ 1000 := by omega
    have a0 : atI [(Sum.inl i0 : Int ⊕ Bool), .inl i1, .inl i2, .inl i3] 0 = some (.inl i0) := rfl
    have a1 : atI [(Sum.inl i0 : Int ⊕ Bool), .inl i1, .inl i2, .inl i3] 1 = some (.inl i1) := rfl
    have a2 : atI [(Sum.inl i0 : Int ⊕ Bool), .inl i1, .inl i2, .inl i3] 2 = some (.inl i2) := rfl
    have a3 : atI [(Sum.inl i0 : Int ⊕ Bool), .inl i1, .inl i2, .inl i3] 3 = some (.inl i3) := rfl
    obtain ⟨s0, s0'⟩ := shw_ok n0
    obtain ⟨s1, s1'⟩ := shw_ok n1
    obtain ⟨s2, s2'⟩ := shw_ok n2
    obtain ⟨s3, s3'⟩ := shw_ok n3
    have mp : mapL? (fun x : Int ⊕ Bool => (getL? x).bind shw?) [(Sum.inl i0 : Int ⊕ Bool), .inl i1, .inl i2, .inl i3] = some [Str.ofString (toString i0), Str.ofString (toString i1), Str.ofString (toString i2), Str.ofString (toString i3)] := by
      unfold mapL?
      rw [if_pos (by simp)]
      simp only [mapO, bd, getL?, Option.bind_some, s0, s1, s2, s3]
    have mg : mapO getL? [(Sum.inl i0 : Int ⊕ Bool), .inl i1, .inl i2, .inl i3] = some [i0, i1, i2, i3] := by
      simp only [mapO, bd, getL?, Option.bind_some]
    obtain ⟨zr, r1, r2⟩ := mrepr_eq (j := i1) (k := i2) (l := i3) n0
    obtain ⟨q, k1, k2⟩ := slack_eq (i2 := i2) (i3 := i3) n0 n1
    have js := str_eq s0' s1' s2' s3'
    have ms := (mstr_eq n0 n1 n2 n3).trans js
    have gl : ∀ x : Int, getL? (Sum.inl x : Int ⊕ Bool) = some x := fun _ => rfl
    have gr : ∀ x : Sc, getR? (Sum.inr x : Str ⊕ Sc) = some x := fun _ => rfl
    simp only [optM, e, val, gr, gl, Option.bind_some, lf_some, mp, js, ms, mg, a0, a1, a2, a3, s0, andW, sameW, if_true, decide_true, r1, k1, noSz, szL, List.length_cons, List.length_nil]
    refine ⟨trivial, ⟨by decide, fun _ _ => trivial⟩, ?_⟩
    rw [r2]
    simp only [Option.bind_some, decide_true, lf_some, if_true]
    have k3 : ((((mul? 2 i1).bind fun x => some (x + i0)).bind fun x => some (x, (2 : Int), ())).bind fun a => ratio? a.fst a.snd.fst) = some q := by
      rw [← k2]
      cases mul? 2 i1 <;> rfl
    rw [k3, lf_some]
    refine ⟨rfl, trivial, by simp, by simp, fun more hm => ?_⟩
    dsimp only
    have hm' : 0 ≤ more ∧ more ≤ 100 := by
      simp only [List.mem_cons, List.not_mem_nil, or_false] at hm
      omega
    have e2 : mkS (.inl i0) (.inl more) (.inl i2) (.inl i3) = .inr (i0, more, i2, i3) := by
      unfold mkS
      rw [dueW_in q0 hm' q2 q3]
      rfl
    rw [e2, gr, lf_some]
    have eq1 : m_Scale___eq__ (i0, i1, i2, i3) (i0, more, i2, i3) = some (decide (more = i1)) := by
      by_cases c : more = i1
      · subst c; simp [m_Scale___eq__, bd]
      · have c' : ¬ i1 = more := fun e => c e.symm
        simp [m_Scale___eq__, bd, c, c']
    have eq2 : m_Scale___eq__i (i0, i1, i2, i3) 3 = some false := rfl
    rw [eq1, eq2]
    simp only [Option.bind_some, lf_some]
    refine ⟨trivial, ⟨by decide, fun _ _ => trivial⟩, ?_⟩
    simp only [tup2W, callBW, unW, opW, lf_some]
    refine ratio_sp fun u bu => big_sp fun v bv => ⟨by decide, by decide, fun w w0 w1 => ?_⟩
    dsimp only
    rw [ratio?_eq (by omega) (bsm (show (1 + w).natAbs ≤ 100 by omega) 9000 (Nat.lt_of_lt_of_le (show 100 < 2 ^ 7 by decide) (pow_le (by decide)))), lf_some]
    have bw : Bq 200 (Rat.divInt v (1 + w)) := (bq_divInt (n := 120) (by omega) bv (bsm (show (1 + w).natAbs ≤ 100 by omega) 120 (by decide))).le (by decide)
    obtain ⟨p, p1, p2⟩ := drawn_eq (z := (u, Rat.divInt v (1 + w))) (bu.le (by decide)) bw q0
    rw [p1, lf_some, p2, lf_some]
    exact ⟨rfl, ⟨trivial, trivial⟩, J1⟩
theorem law_math : m_law (fun z => z = true) := by
  unfold m_law
  simp only [bd, Option.bind_some, lf_some, callBW, andW]
  obtain ⟨xs, hx⟩ : ∃ xs, rng1? (4 : Int) = some xs := ⟨_, rng1_eq ⟨by decide, by decide⟩⟩
  rw [hx, lf_some]
  refine loopW_all (fun z => z = true) _ _ (by decide) (fun s x C hs _ hC => ?_) (fun t ht => ht)
  rw [hs, if_pos rfl]
  exact one_sp (hC true rfl)
end G

namespace G
open PySem L2 M
section
variable {P : Program} {w : World} {K : PySem.W.Frag} {mg : Str → Option Value} {base : Heap}

def spLaw (K : PySem.W.Frag) : Sp := fun vs H Q _ => ∃ (a : Addr) (ns : List Int), vs = [.ref a] ∧ SqL K H a (ns.map V.int) ∧ ns.length ≤ 63 ∧ ∀ H', Q (.bl true) H'
theorem ok_law (ev : Env P K mg) : FnOk P w K mg base CX0 10 ev.f_law ev.d_law p_law (spLaw K) := by
  refine ev.A_law.F.ok sc_law (fun vs H Q E h => ?_) (fun cdv A outer s Hs vs Q E hr h => ?_)
  · obtain ⟨a, ns, rfl, _⟩ := h
    rfl
  obtain ⟨a0, ns, rfl, hS, hl, qq⟩ := h
  have hm := law_math
  refine ⟨_, (pss_cons (ps_set (i := 1) sc_law.nd rfl (Or.inl rfl) (pe_call (ok_law_bag ev) (hr.mono (by decide)) (by rfl) ev.A_law_bag.m ev.A_law_bag.F.kp ev.A_law_bag.b .nil pass0 (pa_cons (pv 0) pa_nil)))
    (pss_cons (ps_set (i := 2) sc_law.nd rfl (Or.inl rfl) (pe_cmpR op_eq (pe_glob (v := .int 16) (by rfl) ev.c_SIDE ⟨_, rfl⟩) pe_int (nomark _)))
    (pss_cons (ps_for PassesOwn.never rfl (pi_range1 rfl ev.B.range_ (pa_cons pe_int pa_nil)) (pg_name (i := 3) sc_law.nd rfl (Or.inl rfl))
    (pss_one (ps_set (i := 2) sc_law.nd rfl (Or.inl rfl) (pe_and (pv 2) (pe_one (pe_call (ok_law_one ev) (hr.mono (by decide)) (by rfl) ev.A_law_one.m ev.A_law_one.F.kp ev.A_law_one.b .nil pass0 (pa_cons (pv 1) pa_nil)))))))
    (pss_one (ps_ret (pv 2)))))), ?_⟩
  refine seq_asg ⟨_, rfl, a0, ns, rfl, hS, hl, fun b c H0 hB nb nc sm => ?_⟩
  have dm := hB.dom
  have ts : Sub [b, c] [b, c] := fun a m => m
  have sub0 : Sub [b, c] [b, c] := fun a m => m
  have fr0 := Fr.refl (T := [b, c]) H0
  have q : ∀ (u : V) (H' : Hp) (z : Bool), z = true → Fr [b, c] H0 H' → Bag H' b c → (of (K := K) tBool [b, c]).r H0 H' u z → Q u H' := fun u H' z hz _ _ hu => by
    subst hz
    cases hu
    exact qq H'
  dsimp only [m_law] at hm
  obtain ⟨law_good_1, e1, hm⟩ := hm
  refine q_asg (T := [b, c]) dm (ev_op (od_eqI (K := K)) (ev_int (K := K)) (ev_int (K := K))) e1 (fun v_law_good H1 s1 h_law_good => ?_)
  have fr0 := fr0.trans (Fr.same s1)
  have dm := dm.same s1
  have hB := hB.same s1
  have h_law_good : (tBool : Ty K Bool).rp [b, c] H1 v_law_good law_good_1 := h_law_good
  refine qw_for_s dm hB ts (srw_pure (sr_r1 (K := K) (ev_int (K := K)))) hm (fun s_2 σ' H' => ∃ v_law_good : V, ∃ f_3 : Option V, σ' = [some (.ref a0), some (.ref b), some v_law_good, f_3] ∧ Fr [b, c] H0 H' ∧ Dom [b, c] H' ∧ Bag H' b c ∧ (tBool : Ty K Bool).rp [b, c] H' v_law_good s_2) (fun H2 fr2 dm2 hB2 => ?_) (fun hd2 s_2 law_turn_2 C2 v_law_turn σ' H' hI h_law_turn hm hret2 hbrk2 => ?_) (fun t_2 σ' H' hm hI => ?_)
  · skip
    have fr0 := fr0.trans fr2
    have h_law_good := (tBool : Ty K Bool).mono (S := [b, c]) (fr2.sub ts) h_law_good
    have dm := dm2
    have hB := hB2
    exact ⟨v_law_good, _, rfl, fr0, dm, hB, h_law_good⟩
  · skip
    obtain ⟨v_law_good, f_3, rfl, fr0, dm, hB, h_law_good⟩ := hI
    let HL := H'
    have freshl : ∀ a ∈ [b, c], a ∉ [b, c] → H' a = none := fun a m n => absurd m n
    have frl : Fr [b, c] HL H' := Fr.refl (T := [b, c]) H'
    have tsl := ts
    have subl : Sub [b, c] [b, c] := fun a m => m
    have h_law_turn : (tInt : Ty K Int).rp [b, c] H' v_law_turn law_turn_2 := h_law_turn
    refine lw_asg dm hB ts (ew_and (ew_pure (ev_var ts h_law_good rfl)) (ew_callB rfl wa_nil)) hm (fun v_law_good H3 law_good_3 hm fr3 dm3 hB3 h_law_good => ?_)
    have fr0 := fr0.trans fr3
    have frl := frl.trans (fr3.sub tsl)
    have h_law_turn := (tInt : Ty K Int).mono (S := [b, c]) (fr3.sub ts) h_law_turn
    have dm := dm3
    have hB := hB3
    have h_law_good : (tBool : Ty K Bool).rp [b, c] H3 v_law_good law_good_3 := h_law_good
    exact ⟨_, hm, frl, ⟨v_law_good, _, rfl, fr0, dm, hB, h_law_good⟩⟩
  obtain ⟨v_law_good, f_3, rfl, fr0, dm, hB, h_law_good⟩ := hI
  obtain ⟨z, er, hm⟩ := hm
  exact q_ret (T := [b, c]) dm (ev_var ts h_law_good rfl) er (fun v H5 s5 hv => q v H5 _ hm (fr0.trans (Fr.same s5)) (hB.same s5) ((tBool : Ty K Bool).sub (S := [b, c]) (H := H5) sub0 hv))
end
end G

namespace G
open PySem L2 M
theorem vals0 {us : List Value} (h : Vals [] us) : us = [] := by cases h; rfl
section
variable {vs mz zs : List V} {us mv ws : List Value}
theorem g1_rel (r1 : Vals vs us) (r2 : Vals mz mv) (r3 : Vals zs ws) : Vals (g1 vs mz zs) (g1 us mv ws) := by
  cases r1 with
  | nil => exact .nil
  | cons a r1 =>
  cases r1 with
  | nil => exact .nil
  | cons b r1 =>
  cases r1 with
  | cons _ _ => exact .nil
  | nil =>
  cases r2 with
  | nil => exact .nil
  | cons t r2 =>
  cases r2 with
  | cons _ _ => exact .nil
  | nil =>
  cases r3 with
  | nil => exact .nil
  | cons s r3 =>
  cases r3 with
  | nil => exact .nil
  | cons l r3 =>
  cases r3 with
  | cons _ _ => exact .nil
  | nil => exact .cons a (.cons b (.cons t (.cons l (.cons s .nil))))
theorem g2_rel (r1 : Vals vs us) (r2 : Vals mz mv) (r3 : Vals zs ws) : Vals (g2 vs mz zs) (g2 us mv ws) := by
  cases r1 with
  | nil => exact .nil
  | cons a r1 =>
  cases r1 with
  | cons _ _ => exact .nil
  | nil =>
  cases r2 with
  | nil => exact .nil
  | cons t r2 =>
  cases r2 with
  | cons _ _ => exact .nil
  | nil =>
  cases r3 with
  | nil => exact .nil
  | cons s r3 =>
  cases r3 with
  | nil => exact .nil
  | cons l r3 =>
  cases r3 with
  | nil => exact .nil
  | cons u r3 =>
  cases r3 with
  | cons _ _ => exact .nil
  | nil => exact .cons a (.cons s (.cons u (.cons l (.cons t .nil))))
end
theorem init_mk {K : PySem.W.Frag} {f D : Addr} {oc : Value} {od an : Option Addr} {osl : Array (Option Value)} {doc pm cdv ct : Value} {ta tb tc : Tok}
    (l : K.lookup f = some ⟨oc, od, .func (PySem.W.fnOf (Str.ofString "__init__") (Str.ofString "Scale.__init__") (defArgs s_Scale___init__) (defBody s_Scale___init__) (defScope s_Scale___init__) .none (.ref D) doc pm an cdv ct), osl⟩)
    (c : PySem.W.codeIn K cdv (Str.ofString "Scale.__init__") = true) (k : PySem.W.keepIn K (.ref f) = true) (h1 : PySem.W.nsIn K D "tolerance" = some (some (.int 0 ta))) (h2 : PySem.W.nsIn K D "letter" = some (some (.int 1 tb))) (h3 : PySem.W.nsIn K D "side" = some (some (.int 16 tc))) :
    ∃ fd, InitAt K f fd := by
  have F := fun_mk (st := s_Scale___init__) l c k
  have FD : FunD K (Str.ofString "__init__") (Str.ofString "Scale.__init__") (defArgs s_Scale___init__) (defBody s_Scale___init__) (defScope s_Scale___init__) [] [("tolerance", .int 0), ("letter", .int 1), ("side", .int 16)] f _ := ⟨⟨_, _, _, _, _, _, _, _, _, _, rfl, l, c, .inl ⟨rfl, rfl⟩, .inr ⟨D, rfl, fun q hq => by
    simp only [List.mem_cons, List.not_mem_nil, or_false] at hq
    rcases hq with rfl | rfl | rfl
    · exact ⟨_, h1, _, rfl⟩
    · exact ⟨_, h2, _, rfl⟩
    · exact ⟨_, h3, _, rfl⟩⟩⟩, k⟩
  refine ⟨_, ⟨F, ?_, ?_, ?_, ?_⟩⟩
  · obtain ⟨mv, h⟩ := FD.kbinds0 (ps := p_Scale___init__) 2 ["tolerance", "letter", "side"] [] (fun vs _ zs => g0 vs zs) (by simp) (by simp) (fun r1 _ r3 => r1.append r3) (fun D doc pm an cdv ct us mv ws e1 e2 e3 => match us, mv, ws, e1, e2, e3 with | [_, _], [], [_, _, _], _, _, _ => rfl)
    exact ⟨_, h⟩
  · obtain ⟨mv, h⟩ := FD.kbinds0 (ps := p_Scale___init__) 2 ["side", "letter"] [("tolerance", .int 0)] g1 (by simp) (by simp) g1_rel (fun D doc pm an cdv ct us mv ws e1 e2 e3 => match us, mv, ws, e1, e2, e3 with | [_, _], [_], [_, _], _, _, _ => ⟨_, _, _, _, _, _, rfl, rfl, rfl⟩)
    exact ⟨_, h⟩
  · obtain ⟨mv, h⟩ := FD.kbinds0 (ps := p_Scale___init__) 1 ["step", "letter", "tolerance"] [("side", .int 16)] g2 (by simp) (by simp) g2_rel (fun D doc pm an cdv ct us mv ws e1 e2 e3 => match us, mv, ws, e1, e2, e3 with | [_], [_], [_, _, _], _, _, _ => ⟨_, _, _, _, _, _, rfl, rfl, rfl⟩)
    exact ⟨_, h⟩
  · obtain ⟨mv, h⟩ := FD.kbinds0 (ps := p_Scale___init__) 2 [] [("tolerance", .int 0), ("letter", .int 1), ("side", .int 16)] g3 (by simp) (by simp) (fun r1 r2 _ => r1.append r2) (fun D doc pm an cdv ct us mv ws e1 e2 e3 => match us, mv, ws, e1, e2, e3 with | [_, _], [_, _, _], [], _, _, _ => ⟨_, _, _, _, _, _, rfl, rfl, _, _, _, _, _, _, rfl, rfl, _, _, _, _, _, _, rfl, rfl, rfl⟩)
    exact ⟨_, h⟩
structure Put (K : PySem.W.Frag) (name : String) (st : Stmt) (f : Addr) : Prop where
  a : PySem.W.nsIn K mainGlobals (Str.ofString name) = some (some (.ref f))
  l : ∃ (oc : Value) (od : Option Addr) (kV dc pm : Value) (an : Option Addr) (cd ct : Value) (sl : Array (Option Value)), K.lookup f = some ⟨oc, od, .func (PySem.W.fnOf (Str.ofString name) (Str.ofString name) (defArgs st) (defBody st) (defScope st) .none kV dc pm an cd ct), sl⟩ ∧ PySem.W.codeIn K cd (Str.ofString name) = true
  k : PySem.W.keepIn K (.ref f) = true
theorem put_mk {K : PySem.W.Frag} {name : String} {st : Stmt} {f : Addr} {oc : Value} {od : Option Addr} {kV dc pm : Value} {an : Option Addr} {cd ct : Value} {sl : Array (Option Value)} (a : PySem.W.nsIn K mainGlobals (Str.ofString name) = some (some (.ref f)))
    (l : K.lookup f = some ⟨oc, od, .func (PySem.W.fnOf (Str.ofString name) (Str.ofString name) (defArgs st) (defBody st) (defScope st) .none kV dc pm an cd ct), sl⟩) (c : PySem.W.codeIn K cd (Str.ofString name) = true) (k : PySem.W.keepIn K (.ref f) = true) : Put K name st f :=
  ⟨a, ⟨oc, od, kV, dc, pm, an, cd, ct, sl, l, c⟩, k⟩
structure PutM (K : PySem.W.Frag) (C : Addr) (name qual : String) (st : Stmt) (f : Addr) : Prop where
  me : Meth K C (Str.ofString name) f
  l : ∃ (oc : Value) (od : Option Addr) (kV dc pm : Value) (an : Option Addr) (cd ct : Value) (sl : Array (Option Value)), K.lookup f = some ⟨oc, od, .func (PySem.W.fnOf (Str.ofString name) (Str.ofString qual) (defArgs st) (defBody st) (defScope st) .none kV dc pm an cd ct), sl⟩ ∧ PySem.W.codeIn K cd (Str.ofString qual) = true
theorem putM_mk {K : PySem.W.Frag} {C : Addr} {name qual : String} {st : Stmt} {f : Addr} {oc : Value} {od : Option Addr} {kV dc pm : Value} {an : Option Addr} {cd ct : Value} {sl : Array (Option Value)} (a : PySem.W.findIn K (.ref C) (Str.ofString name) = some (some (.ref f))) (i : PySem.W.isFn K (.ref f) = true)
    (l : K.lookup f = some ⟨oc, od, .func (PySem.W.fnOf (Str.ofString name) (Str.ofString qual) (defArgs st) (defBody st) (defScope st) .none kV dc pm an cd ct), sl⟩) (c : PySem.W.codeIn K cd (Str.ofString qual) = true) (k : PySem.W.keepIn K (.ref f) = true) : PutM K C name qual st f :=
  ⟨⟨a, i, k⟩, ⟨oc, od, kV, dc, pm, an, cd, ct, sl, l, c⟩⟩
theorem all_mk {l : PySem.W.OpenLaw} {w : World} {K : PySem.W.Frag} {h : Heap} {mg : Str → Option Value} {fa f_is_within f_greatest_common f_ratio f_plus f_divided f_floor f_nearest f_check_part f_Scale_slack f_Scale___eq__ f_Scale___str__ f_Scale___repr__ f_drawn f_law_bag f_law_draw f_law_whole f_law_same f_law_any f_law_big f_law_rat f_law_ratio f_law_pair f_law_told f_law_due f_law_one f_law C_NoRatio C_Scale C_BadScale f_Scale___init__ DI : Addr} {ocI : Value} {odI anI : Option Addr} {slI : Array (Option Value)} {dcI pmI cdI ctI : Value} {ta tb tc tSIDE : Tok} (X : K.In h) (G : h.Ns mainGlobals mg) (hfa : mg "law" = some (.ref fa))
    (p_is_within : Put K "is_within" s_is_within f_is_within)
    (p_greatest_common : Put K "greatest_common" s_greatest_common f_greatest_common)
    (p_ratio : Put K "ratio" s_ratio f_ratio)
    (p_plus : Put K "plus" s_plus f_plus)
    (p_divided : Put K "divided" s_divided f_divided)
    (p_floor : Put K "floor" s_floor f_floor)
    (p_nearest : Put K "nearest" s_nearest f_nearest)
    (p_check_part : Put K "check_part" s_check_part f_check_part)
    (p_Scale_slack : PutM K C_Scale "slack" "Scale.slack" s_Scale_slack f_Scale_slack)
    (p_Scale___eq__ : PutM K C_Scale "__eq__" "Scale.__eq__" s_Scale___eq__ f_Scale___eq__)
    (p_Scale___str__ : PutM K C_Scale "__str__" "Scale.__str__" s_Scale___str__ f_Scale___str__)
    (p_Scale___repr__ : PutM K C_Scale "__repr__" "Scale.__repr__" s_Scale___repr__ f_Scale___repr__)
    (p_drawn : Put K "drawn" s_drawn f_drawn)
    (p_law_bag : Put K "_law_bag" s_law_bag f_law_bag)
    (p_law_draw : Put K "_law_draw" s_law_draw f_law_draw)
    (p_law_whole : Put K "_law_whole" s_law_whole f_law_whole)
    (p_law_same : Put K "_law_same" s_law_same f_law_same)
    (p_law_any : Put K "_law_any" s_law_any f_law_any)
    (p_law_big : Put K "_law_big" s_law_big f_law_big)
    (p_law_rat : Put K "_law_rat" s_law_rat f_law_rat)
    (p_law_ratio : Put K "_law_ratio" s_law_ratio f_law_ratio)
    (p_law_pair : Put K "_law_pair" s_law_pair f_law_pair)
    (p_law_told : Put K "_law_told" s_law_told f_law_told)
    (p_law_due : Put K "_law_due" s_law_due f_law_due)
    (p_law_one : Put K "_law_one" s_law_one f_law_one)
    (p_law : Put K "law" s_law f_law)
    (aC : PySem.W.nsIn K mainGlobals "NoRatio" = some (some (.ref C_NoRatio)))
    (x : PySem.W.excIn K C_NoRatio [.type "ZeroDivisionError", .type "ArithmeticError", .type "Exception", .type "BaseException", .type "object"] "ZeroDivisionError.__new__" = true)
    (k : PySem.W.keepIn K (.ref C_NoRatio) = true)
    (b : PySem.W.subIn K (.ref C_NoRatio) (.type "BaseException") = some true)
    (t : PySem.W.typeIn K (.ref C_NoRatio) = some (.type "type"))
    (e4 : PySem.W.hasDictIn K C_NoRatio = true)
    (sc : PySem.W.subIn K (.ref C_NoRatio) (.ref C_NoRatio) = some true)
    (aS : PySem.W.nsIn K mainGlobals "Scale" = some (some (.ref C_Scale)))
    (pgS : PySem.W.plainGet K C_Scale Str.empty = true)
    (hdS : PySem.W.hasDictIn K C_Scale = true)
    (poS : PySem.W.plainOver K C_Scale = true)
    (saS : PySem.W.findIn K (.ref C_Scale) "__setattr__" = some (some (.builtin "object.__setattr__")))
    (mkS_ : PySem.W.makesIn K C_Scale = true)
    (kcS : PySem.W.keepIn K (.ref C_Scale) = true)
    (inI : PySem.W.findIn K (.ref C_Scale) "__init__" = some (some (.ref f_Scale___init__)))
    (fnI : PySem.W.isFn K (.ref f_Scale___init__) = true)
    (lI : K.lookup f_Scale___init__ = some ⟨ocI, odI, .func (PySem.W.fnOf (Str.ofString "__init__") (Str.ofString "Scale.__init__") (defArgs s_Scale___init__) (defBody s_Scale___init__) (defScope s_Scale___init__) .none (.ref DI) dcI pmI anI cdI ctI), slI⟩)
    (cI : PySem.W.codeIn K cdI (Str.ofString "Scale.__init__") = true)
    (kI : PySem.W.keepIn K (.ref f_Scale___init__) = true)
    (h1I : PySem.W.nsIn K DI "tolerance" = some (some (.int 0 ta)))
    (h2I : PySem.W.nsIn K DI "letter" = some (some (.int 1 tb)))
    (h3I : PySem.W.nsIn K DI "side" = some (some (.int 16 tc)))
    (n_step : PySem.W.findIn K (.ref C_Scale) "step" = some none)
    (n_tolerance : PySem.W.findIn K (.ref C_Scale) "tolerance" = some none)
    (n_letter : PySem.W.findIn K (.ref C_Scale) "letter" = some none)
    (n_side : PySem.W.findIn K (.ref C_Scale) "side" = some none)
    (neS : PySem.W.findIn K (.ref C_Scale) "__ne__" = some (some (.builtin "object.__ne__")))
    (mroS : PySem.W.mroIn K C_Scale (.type "object") = some true)
    (nfS : PySem.W.notFirst K C_Scale (.type "int") = true)
    (s1 : PySem.W.findIn K (.ref C_Scale) "__class__" = some (some (.builtin "object.__class__")))
    (s2 : PySem.W.specialIn K (.builtin "object.__class__") "__get__" = some (some (.builtin "getset_descriptor.__get__")))
    (s3 : PySem.W.takesIn K (.builtin "object.__class__") = some true)
    (isS : PySem.W.kitOne K (.ref C_Scale) (.ref C_Scale) = some true)
    (isI : PySem.W.kitOne K (.type "int") (.ref C_Scale) = some false)
    (cSIDE : PySem.W.nsIn K mainGlobals "SIDE" = some (some (.int 16 tSIDE)))
    (g_BadScale : PySem.W.nsIn K mainGlobals "BadScale" = some (some (.ref C_BadScale)))
    (e_BadScale : SupSL l.prog K "BadScale" "part" C_BadScale)
    (xm_BadScale : PySem.W.exmOne K (.ref C_BadScale) (.ref C_BadScale) = some true)
    (z_len : PySem.W.nsIn K mainGlobals "len" = some none)
    (z_list : PySem.W.nsIn K mainGlobals "list" = some none)
    (z_abs : PySem.W.nsIn K mainGlobals "abs" = some none)
    (z_isinstance : PySem.W.nsIn K mainGlobals "isinstance" = some none)
    (z_int : PySem.W.nsIn K mainGlobals "int" = some none)
    (z_bool : PySem.W.nsIn K mainGlobals "bool" = some none)
    (z_str : PySem.W.nsIn K mainGlobals "str" = some none)
    (z_dict : PySem.W.nsIn K mainGlobals "dict" = some none)
    (z_tuple : PySem.W.nsIn K mainGlobals "tuple" = some none)
    (z_all : PySem.W.nsIn K mainGlobals "all" = some none)
    (z_range : PySem.W.nsIn K mainGlobals "range" = some none)
    (z_sorted : PySem.W.nsIn K mainGlobals "sorted" = some none)
    (z_min : PySem.W.nsIn K mainGlobals "min" = some none)
    (z_max : PySem.W.nsIn K mainGlobals "max" = some none)
    (z_any : PySem.W.nsIn K mainGlobals "any" = some none)
    (z_repr : PySem.W.nsIn K mainGlobals "repr" = some none)
    (z_super : PySem.W.nsIn K mainGlobals "super" = some none) :
    ∃ fd : FuncData, (∀ (s : Shared) (v : Value), BindsTo s fd ⟨[v], []⟩ [("_law_script", v)]) ∧ ∀ base : Heap, K.In base → base.Ns mainGlobals mg → FnOk l.prog w K mg base CX0 10 fa fd ["_law_script"] (spLaw K) := by
  have e := hfa.symm.trans (PySem.W.mg_of X G p_law.a)
  cases e
  obtain ⟨a_is_within, ⟨oc_is_within, od_is_within, kV_is_within, dc_is_within, pm_is_within, an_is_within, cd_is_within, ct_is_within, sl_is_within, l_is_within, c_is_within⟩, k_is_within⟩ := p_is_within
  have F_is_within := fun_mk (st := s_is_within) l_is_within c_is_within k_is_within
  have b_is_within := F_is_within.binds (ps := p_is_within) fun _ _ _ _ _ _ us hl => match us, hl with | [_, _, _], _ => rfl
  obtain ⟨a_greatest_common, ⟨oc_greatest_common, od_greatest_common, kV_greatest_common, dc_greatest_common, pm_greatest_common, an_greatest_common, cd_greatest_common, ct_greatest_common, sl_greatest_common, l_greatest_common, c_greatest_common⟩, k_greatest_common⟩ := p_greatest_common
  have F_greatest_common := fun_mk (st := s_greatest_common) l_greatest_common c_greatest_common k_greatest_common
  have b_greatest_common := F_greatest_common.binds (ps := p_greatest_common) fun _ _ _ _ _ _ us hl => match us, hl with | [_, _], _ => rfl
  obtain ⟨a_ratio, ⟨oc_ratio, od_ratio, kV_ratio, dc_ratio, pm_ratio, an_ratio, cd_ratio, ct_ratio, sl_ratio, l_ratio, c_ratio⟩, k_ratio⟩ := p_ratio
  have F_ratio := fun_mk (st := s_ratio) l_ratio c_ratio k_ratio
  have b_ratio := F_ratio.binds (ps := p_ratio) fun _ _ _ _ _ _ us hl => match us, hl with | [_, _], _ => rfl
  obtain ⟨a_plus, ⟨oc_plus, od_plus, kV_plus, dc_plus, pm_plus, an_plus, cd_plus, ct_plus, sl_plus, l_plus, c_plus⟩, k_plus⟩ := p_plus
  have F_plus := fun_mk (st := s_plus) l_plus c_plus k_plus
  have b_plus := F_plus.binds (ps := p_plus) fun _ _ _ _ _ _ us hl => match us, hl with | [_, _], _ => rfl
  obtain ⟨a_divided, ⟨oc_divided, od_divided, kV_divided, dc_divided, pm_divided, an_divided, cd_divided, ct_divided, sl_divided, l_divided, c_divided⟩, k_divided⟩ := p_divided
  have F_divided := fun_mk (st := s_divided) l_divided c_divided k_divided
  have b_divided := F_divided.binds (ps := p_divided) fun _ _ _ _ _ _ us hl => match us, hl with | [_, _], _ => rfl
  obtain ⟨a_floor, ⟨oc_floor, od_floor, kV_floor, dc_floor, pm_floor, an_floor, cd_floor, ct_floor, sl_floor, l_floor, c_floor⟩, k_floor⟩ := p_floor
  have F_floor := fun_mk (st := s_floor) l_floor c_floor k_floor
  have b_floor := F_floor.binds (ps := p_floor) fun _ _ _ _ _ _ us hl => match us, hl with | [_], _ => rfl
  obtain ⟨a_nearest, ⟨oc_nearest, od_nearest, kV_nearest, dc_nearest, pm_nearest, an_nearest, cd_nearest, ct_nearest, sl_nearest, l_nearest, c_nearest⟩, k_nearest⟩ := p_nearest
  have F_nearest := fun_mk (st := s_nearest) l_nearest c_nearest k_nearest
  have b_nearest := F_nearest.binds (ps := p_nearest) fun _ _ _ _ _ _ us hl => match us, hl with | [_], _ => rfl
  obtain ⟨a_check_part, ⟨oc_check_part, od_check_part, kV_check_part, dc_check_part, pm_check_part, an_check_part, cd_check_part, ct_check_part, sl_check_part, l_check_part, c_check_part⟩, k_check_part⟩ := p_check_part
  have F_check_part := fun_mk (st := s_check_part) l_check_part c_check_part k_check_part
  have b_check_part := F_check_part.binds (ps := p_check_part) fun _ _ _ _ _ _ us hl => match us, hl with | [_, _, _, _], _ => rfl
  obtain ⟨me_Scale_slack, ⟨oc_Scale_slack, od_Scale_slack, kV_Scale_slack, dc_Scale_slack, pm_Scale_slack, an_Scale_slack, cd_Scale_slack, ct_Scale_slack, sl_Scale_slack, l_Scale_slack, c_Scale_slack⟩⟩ := p_Scale_slack
  have F_Scale_slack := fun_mk (st := s_Scale_slack) l_Scale_slack c_Scale_slack me_Scale_slack.kp
  have b_Scale_slack := F_Scale_slack.binds (ps := p_Scale_slack) fun _ _ _ _ _ _ us hl => match us, hl with | [_], _ => rfl
  obtain ⟨me_Scale___eq__, ⟨oc_Scale___eq__, od_Scale___eq__, kV_Scale___eq__, dc_Scale___eq__, pm_Scale___eq__, an_Scale___eq__, cd_Scale___eq__, ct_Scale___eq__, sl_Scale___eq__, l_Scale___eq__, c_Scale___eq__⟩⟩ := p_Scale___eq__
  have F_Scale___eq__ := fun_mk (st := s_Scale___eq__) l_Scale___eq__ c_Scale___eq__ me_Scale___eq__.kp
  have b_Scale___eq__ := F_Scale___eq__.binds (ps := p_Scale___eq__) fun _ _ _ _ _ _ us hl => match us, hl with | [_, _], _ => rfl
  obtain ⟨me_Scale___str__, ⟨oc_Scale___str__, od_Scale___str__, kV_Scale___str__, dc_Scale___str__, pm_Scale___str__, an_Scale___str__, cd_Scale___str__, ct_Scale___str__, sl_Scale___str__, l_Scale___str__, c_Scale___str__⟩⟩ := p_Scale___str__
  have F_Scale___str__ := fun_mk (st := s_Scale___str__) l_Scale___str__ c_Scale___str__ me_Scale___str__.kp
  have b_Scale___str__ := F_Scale___str__.binds (ps := p_Scale___str__) fun _ _ _ _ _ _ us hl => match us, hl with | [_], _ => rfl
  obtain ⟨me_Scale___repr__, ⟨oc_Scale___repr__, od_Scale___repr__, kV_Scale___repr__, dc_Scale___repr__, pm_Scale___repr__, an_Scale___repr__, cd_Scale___repr__, ct_Scale___repr__, sl_Scale___repr__, l_Scale___repr__, c_Scale___repr__⟩⟩ := p_Scale___repr__
  have F_Scale___repr__ := fun_mk (st := s_Scale___repr__) l_Scale___repr__ c_Scale___repr__ me_Scale___repr__.kp
  have b_Scale___repr__ := F_Scale___repr__.binds (ps := p_Scale___repr__) fun _ _ _ _ _ _ us hl => match us, hl with | [_], _ => rfl
  obtain ⟨a_drawn, ⟨oc_drawn, od_drawn, kV_drawn, dc_drawn, pm_drawn, an_drawn, cd_drawn, ct_drawn, sl_drawn, l_drawn, c_drawn⟩, k_drawn⟩ := p_drawn
  have F_drawn := fun_mk (st := s_drawn) l_drawn c_drawn k_drawn
  have b_drawn := F_drawn.binds (ps := p_drawn) fun _ _ _ _ _ _ us hl => match us, hl with | [_, _], _ => rfl
  obtain ⟨a_law_bag, ⟨oc_law_bag, od_law_bag, kV_law_bag, dc_law_bag, pm_law_bag, an_law_bag, cd_law_bag, ct_law_bag, sl_law_bag, l_law_bag, c_law_bag⟩, k_law_bag⟩ := p_law_bag
  have F_law_bag := fun_mk (st := s_law_bag) l_law_bag c_law_bag k_law_bag
  have b_law_bag := F_law_bag.binds (ps := p_law_bag) fun _ _ _ _ _ _ us hl => match us, hl with | [_], _ => rfl
  obtain ⟨a_law_draw, ⟨oc_law_draw, od_law_draw, kV_law_draw, dc_law_draw, pm_law_draw, an_law_draw, cd_law_draw, ct_law_draw, sl_law_draw, l_law_draw, c_law_draw⟩, k_law_draw⟩ := p_law_draw
  have F_law_draw := fun_mk (st := s_law_draw) l_law_draw c_law_draw k_law_draw
  have b_law_draw := F_law_draw.binds (ps := p_law_draw) fun _ _ _ _ _ _ us hl => match us, hl with | [_, _], _ => rfl
  obtain ⟨a_law_whole, ⟨oc_law_whole, od_law_whole, kV_law_whole, dc_law_whole, pm_law_whole, an_law_whole, cd_law_whole, ct_law_whole, sl_law_whole, l_law_whole, c_law_whole⟩, k_law_whole⟩ := p_law_whole
  have F_law_whole := fun_mk (st := s_law_whole) l_law_whole c_law_whole k_law_whole
  have b_law_whole := F_law_whole.binds (ps := p_law_whole) fun _ _ _ _ _ _ us hl => match us, hl with | [_], _ => rfl
  obtain ⟨a_law_same, ⟨oc_law_same, od_law_same, kV_law_same, dc_law_same, pm_law_same, an_law_same, cd_law_same, ct_law_same, sl_law_same, l_law_same, c_law_same⟩, k_law_same⟩ := p_law_same
  have F_law_same := fun_mk (st := s_law_same) l_law_same c_law_same k_law_same
  have b_law_same := F_law_same.binds (ps := p_law_same) fun _ _ _ _ _ _ us hl => match us, hl with | [_, _], _ => rfl
  obtain ⟨a_law_any, ⟨oc_law_any, od_law_any, kV_law_any, dc_law_any, pm_law_any, an_law_any, cd_law_any, ct_law_any, sl_law_any, l_law_any, c_law_any⟩, k_law_any⟩ := p_law_any
  have F_law_any := fun_mk (st := s_law_any) l_law_any c_law_any k_law_any
  have b_law_any := F_law_any.binds (ps := p_law_any) fun _ _ _ _ _ _ us hl => match us, hl with | [_, _], _ => rfl
  obtain ⟨a_law_big, ⟨oc_law_big, od_law_big, kV_law_big, dc_law_big, pm_law_big, an_law_big, cd_law_big, ct_law_big, sl_law_big, l_law_big, c_law_big⟩, k_law_big⟩ := p_law_big
  have F_law_big := fun_mk (st := s_law_big) l_law_big c_law_big k_law_big
  have b_law_big := F_law_big.binds (ps := p_law_big) fun _ _ _ _ _ _ us hl => match us, hl with | [_], _ => rfl
  obtain ⟨a_law_rat, ⟨oc_law_rat, od_law_rat, kV_law_rat, dc_law_rat, pm_law_rat, an_law_rat, cd_law_rat, ct_law_rat, sl_law_rat, l_law_rat, c_law_rat⟩, k_law_rat⟩ := p_law_rat
  have F_law_rat := fun_mk (st := s_law_rat) l_law_rat c_law_rat k_law_rat
  have b_law_rat := F_law_rat.binds (ps := p_law_rat) fun _ _ _ _ _ _ us hl => match us, hl with | [_, _], _ => rfl
  obtain ⟨a_law_ratio, ⟨oc_law_ratio, od_law_ratio, kV_law_ratio, dc_law_ratio, pm_law_ratio, an_law_ratio, cd_law_ratio, ct_law_ratio, sl_law_ratio, l_law_ratio, c_law_ratio⟩, k_law_ratio⟩ := p_law_ratio
  have F_law_ratio := fun_mk (st := s_law_ratio) l_law_ratio c_law_ratio k_law_ratio
  have b_law_ratio := F_law_ratio.binds (ps := p_law_ratio) fun _ _ _ _ _ _ us hl => match us, hl with | [_, _], _ => rfl
  obtain ⟨a_law_pair, ⟨oc_law_pair, od_law_pair, kV_law_pair, dc_law_pair, pm_law_pair, an_law_pair, cd_law_pair, ct_law_pair, sl_law_pair, l_law_pair, c_law_pair⟩, k_law_pair⟩ := p_law_pair
  have F_law_pair := fun_mk (st := s_law_pair) l_law_pair c_law_pair k_law_pair
  have b_law_pair := F_law_pair.binds (ps := p_law_pair) fun _ _ _ _ _ _ us hl => match us, hl with | [_, _], _ => rfl
  obtain ⟨a_law_told, ⟨oc_law_told, od_law_told, kV_law_told, dc_law_told, pm_law_told, an_law_told, cd_law_told, ct_law_told, sl_law_told, l_law_told, c_law_told⟩, k_law_told⟩ := p_law_told
  have F_law_told := fun_mk (st := s_law_told) l_law_told c_law_told k_law_told
  have b_law_told := F_law_told.binds (ps := p_law_told) fun _ _ _ _ _ _ us hl => match us, hl with | [_, _], _ => rfl
  obtain ⟨a_law_due, ⟨oc_law_due, od_law_due, kV_law_due, dc_law_due, pm_law_due, an_law_due, cd_law_due, ct_law_due, sl_law_due, l_law_due, c_law_due⟩, k_law_due⟩ := p_law_due
  have F_law_due := fun_mk (st := s_law_due) l_law_due c_law_due k_law_due
  have b_law_due := F_law_due.binds (ps := p_law_due) fun _ _ _ _ _ _ us hl => match us, hl with | [_], _ => rfl
  obtain ⟨a_law_one, ⟨oc_law_one, od_law_one, kV_law_one, dc_law_one, pm_law_one, an_law_one, cd_law_one, ct_law_one, sl_law_one, l_law_one, c_law_one⟩, k_law_one⟩ := p_law_one
  have F_law_one := fun_mk (st := s_law_one) l_law_one c_law_one k_law_one
  have b_law_one := F_law_one.binds (ps := p_law_one) fun _ _ _ _ _ _ us hl => match us, hl with | [_], _ => rfl
  obtain ⟨a_law, ⟨oc_law, od_law, kV_law, dc_law, pm_law, an_law, cd_law, ct_law, sl_law, l_law, c_law⟩, k_law⟩ := p_law
  have F_law := fun_mk (st := s_law) l_law c_law k_law
  have b_law := F_law.binds (ps := p_law) fun _ _ _ _ _ _ us hl => match us, hl with | [_], _ => rfl
  have B : Bt mg := ⟨PySem.W.mg_none_of X G z_len, PySem.W.mg_none_of X G z_list, PySem.W.mg_none_of X G z_abs, PySem.W.mg_none_of X G z_isinstance, PySem.W.mg_none_of X G z_int, PySem.W.mg_none_of X G z_bool, PySem.W.mg_none_of X G z_str, PySem.W.mg_none_of X G z_dict, PySem.W.mg_none_of X G z_tuple, PySem.W.mg_none_of X G z_all, PySem.W.mg_none_of X G z_range, PySem.W.mg_none_of X G z_sorted, PySem.W.mg_none_of X G z_min, PySem.W.mg_none_of X G z_max, PySem.W.mg_none_of X G z_any, PySem.W.mg_none_of X G z_repr, PySem.W.mg_none_of X G z_super⟩
  have XN : NoR K mg C_NoRatio := ⟨PySem.W.mg_of X G aC, x, k, b, t, PySem.W.exm_ref b e4 t sc⟩
  obtain ⟨dI, II⟩ := init_mk lI cI kI h1I h2I h3I
  let ev : Env l.prog K mg := { f_is_within := f_is_within, d_is_within := _, A_is_within := ⟨F_is_within, b_is_within, PySem.W.mg_of X G a_is_within⟩, f_greatest_common := f_greatest_common, d_greatest_common := _, A_greatest_common := ⟨F_greatest_common, b_greatest_common, PySem.W.mg_of X G a_greatest_common⟩, f_ratio := f_ratio, d_ratio := _, A_ratio := ⟨F_ratio, b_ratio, PySem.W.mg_of X G a_ratio⟩, f_plus := f_plus, d_plus := _, A_plus := ⟨F_plus, b_plus, PySem.W.mg_of X G a_plus⟩, f_divided := f_divided, d_divided := _, A_divided := ⟨F_divided, b_divided, PySem.W.mg_of X G a_divided⟩, f_floor := f_floor, d_floor := _, A_floor := ⟨F_floor, b_floor, PySem.W.mg_of X G a_floor⟩, f_nearest := f_nearest, d_nearest := _, A_nearest := ⟨F_nearest, b_nearest, PySem.W.mg_of X G a_nearest⟩, f_check_part := f_check_part, d_check_part := _, A_check_part := ⟨F_check_part, b_check_part, PySem.W.mg_of X G a_check_part⟩, f_Scale_slack := f_Scale_slack, d_Scale_slack := _, A_Scale_slack := ⟨F_Scale_slack, b_Scale_slack, me_Scale_slack⟩, f_Scale___eq__ := f_Scale___eq__, d_Scale___eq__ := _, A_Scale___eq__ := ⟨F_Scale___eq__, b_Scale___eq__, me_Scale___eq__⟩, f_Scale___str__ := f_Scale___str__, d_Scale___str__ := _, A_Scale___str__ := ⟨F_Scale___str__, b_Scale___str__, me_Scale___str__⟩, f_Scale___repr__ := f_Scale___repr__, d_Scale___repr__ := _, A_Scale___repr__ := ⟨F_Scale___repr__, b_Scale___repr__, me_Scale___repr__⟩, f_drawn := f_drawn, d_drawn := _, A_drawn := ⟨F_drawn, b_drawn, PySem.W.mg_of X G a_drawn⟩, f_law_bag := f_law_bag, d_law_bag := _, A_law_bag := ⟨F_law_bag, b_law_bag, PySem.W.mg_of X G a_law_bag⟩, f_law_draw := f_law_draw, d_law_draw := _, A_law_draw := ⟨F_law_draw, b_law_draw, PySem.W.mg_of X G a_law_draw⟩, f_law_whole := f_law_whole, d_law_whole := _, A_law_whole := ⟨F_law_whole, b_law_whole, PySem.W.mg_of X G a_law_whole⟩, f_law_same := f_law_same, d_law_same := _, A_law_same := ⟨F_law_same, b_law_same, PySem.W.mg_of X G a_law_same⟩, f_law_any := f_law_any, d_law_any := _, A_law_any := ⟨F_law_any, b_law_any, PySem.W.mg_of X G a_law_any⟩, f_law_big := f_law_big, d_law_big := _, A_law_big := ⟨F_law_big, b_law_big, PySem.W.mg_of X G a_law_big⟩, f_law_rat := f_law_rat, d_law_rat := _, A_law_rat := ⟨F_law_rat, b_law_rat, PySem.W.mg_of X G a_law_rat⟩, f_law_ratio := f_law_ratio, d_law_ratio := _, A_law_ratio := ⟨F_law_ratio, b_law_ratio, PySem.W.mg_of X G a_law_ratio⟩, f_law_pair := f_law_pair, d_law_pair := _, A_law_pair := ⟨F_law_pair, b_law_pair, PySem.W.mg_of X G a_law_pair⟩, f_law_told := f_law_told, d_law_told := _, A_law_told := ⟨F_law_told, b_law_told, PySem.W.mg_of X G a_law_told⟩, f_law_due := f_law_due, d_law_due := _, A_law_due := ⟨F_law_due, b_law_due, PySem.W.mg_of X G a_law_due⟩, f_law_one := f_law_one, d_law_one := _, A_law_one := ⟨F_law_one, b_law_one, PySem.W.mg_of X G a_law_one⟩, f_law := fa, d_law := _, A_law := ⟨F_law, b_law, PySem.W.mg_of X G a_law⟩, B := B, C_NoRatio := C_NoRatio, X_NoRatio := XN, C_Scale := C_Scale, C_BadScale := C_BadScale, f_Scale___init__ := f_Scale___init__, cl_Scale := ⟨pgS, hdS, poS, saS⟩, M_Scale := ⟨mkS_, inI, fnI, kcS⟩, g_Scale := PySem.W.mg_of X G aS, n_step := n_step, n_tolerance := n_tolerance, n_letter := n_letter, n_side := n_side, d_Scale___init__ := dI, I_Scale := II, ne_Scale := neS, mro_Scale := mroS, nf_Scale := nfS, si_Scale := ⟨s1, s2, s3, mroS⟩, isS_Scale := isS, isI_Scale := isI, tSIDE := tSIDE, c_SIDE := PySem.W.mg_of X G cSIDE, X_BadScale := e_BadScale mg (PySem.W.mg_of X G g_BadScale) (PySem.W.mg_none_of X G z_super), xm_BadScale := xm_BadScale }
  exact ⟨_, fun s v => .of_eq rfl, fun base _ _ => ok_law ev⟩
end G
open PySem PySem.W PyProof.Rows
set_option maxHeartbeats 0 in
theorem PySem.Challenge.cw_gromatic_k15_scales_and_drawn_pairs_holds : PySem.Challenge.rw_gromatic_k15_scales_and_drawn_pairs.Holds := by
  w_on; o_law; k_head; (case hw => w_witness2)
  k_fill
  refine L2.walk_of (l := PySem.Challenge.rw_gromatic_k15_scales_and_drawn_pairs) (n := 63) (k := 10) (x := "_law_script") (CX := fun _ => L2.CX0) (sp := fun w => G.spLaw _) rfl (by decide) rfl ⟨rfl, by decide, by decide⟩ (fun w h Y => PySem.W.kIn_of Y) ?F (fun _ _ a ns hl _ hS => ⟨a, ns, rfl, hS, hl, fun _ => rfl⟩) (fun _ _ _ _ _ h => h)
  case F =>
    intro w mg fa h KX GN hmg
    refine' G.all_mk KX GN hmg (G.put_mk ?a_is_within ?l_is_within ?c_is_within ?k_is_within) (G.put_mk ?a_greatest_common ?l_greatest_common ?c_greatest_common ?k_greatest_common) (G.put_mk ?a_ratio ?l_ratio ?c_ratio ?k_ratio) (G.put_mk ?a_plus ?l_plus ?c_plus ?k_plus) (G.put_mk ?a_divided ?l_divided ?c_divided ?k_divided) (G.put_mk ?a_floor ?l_floor ?c_floor ?k_floor) (G.put_mk ?a_nearest ?l_nearest ?c_nearest ?k_nearest) (G.put_mk ?a_check_part ?l_check_part ?c_check_part ?k_check_part) (G.putM_mk ?a_Scale_slack ?i_Scale_slack ?l_Scale_slack ?c_Scale_slack ?k_Scale_slack) (G.putM_mk ?a_Scale___eq__ ?i_Scale___eq__ ?l_Scale___eq__ ?c_Scale___eq__ ?k_Scale___eq__) (G.putM_mk ?a_Scale___str__ ?i_Scale___str__ ?l_Scale___str__ ?c_Scale___str__ ?k_Scale___str__) (G.putM_mk ?a_Scale___repr__ ?i_Scale___repr__ ?l_Scale___repr__ ?c_Scale___repr__ ?k_Scale___repr__) (G.put_mk ?a_drawn ?l_drawn ?c_drawn ?k_drawn) (G.put_mk ?a_law_bag ?l_law_bag ?c_law_bag ?k_law_bag) (G.put_mk ?a_law_draw ?l_law_draw ?c_law_draw ?k_law_draw) (G.put_mk ?a_law_whole ?l_law_whole ?c_law_whole ?k_law_whole) (G.put_mk ?a_law_same ?l_law_same ?c_law_same ?k_law_same) (G.put_mk ?a_law_any ?l_law_any ?c_law_any ?k_law_any) (G.put_mk ?a_law_big ?l_law_big ?c_law_big ?k_law_big) (G.put_mk ?a_law_rat ?l_law_rat ?c_law_rat ?k_law_rat) (G.put_mk ?a_law_ratio ?l_law_ratio ?c_law_ratio ?k_law_ratio) (G.put_mk ?a_law_pair ?l_law_pair ?c_law_pair ?k_law_pair) (G.put_mk ?a_law_told ?l_law_told ?c_law_told ?k_law_told) (G.put_mk ?a_law_due ?l_law_due ?c_law_due ?k_law_due) (G.put_mk ?a_law_one ?l_law_one ?c_law_one ?k_law_one) (G.put_mk ?a_law ?l_law ?c_law ?k_law) ?aC ?x ?k ?b ?t ?e4 ?sc ?aS ?pgS ?hdS ?poS ?saS ?mkS_ ?kcS ?inI ?fnI ?lI ?cI ?kI ?h1I ?h2I ?h3I ?n_step ?n_tolerance ?n_letter ?n_side ?neS ?mroS ?nfS ?s1 ?s2 ?s3 ?isS ?isI ?cSIDE ?g_BadScale (G.supSL_mk (n := "BadScale") (f := "part") (j := 0) PySem.F.excBase_ValueError PySem.W.kxs_ValueError PySem.F.store_ValueError ?iC_BadScale ?l_BadScale ?cd_BadScale ?lc_BadScale ?lk_BadScale ?hvs_BadScale ?hfile_BadScale ?hl_BadScale ?hb_BadScale ?ini_BadScale ?over_BadScale ?sa_BadScale ?tk_BadScale ?hd_BadScale ?tC_BadScale ?sub_BadScale ?mro_BadScale ?sup_BadScale ?opq_BadScale ?top_BadScale ?hd1_BadScale ?nn_BadScale ?lf_BadScale ?hz_BadScale ?kC_BadScale ?exC_BadScale ?tyC_BadScale ?xf_BadScale ?nf_BadScale) ?xm_BadScale ?z_len ?z_list ?z_abs ?z_isinstance ?z_int ?z_bool ?z_str ?z_dict ?z_tuple ?z_all ?z_range ?z_sorted ?z_min ?z_max ?z_any ?z_repr ?z_super
    (case aC => k_is)
    (case x => k_exc)
    (case k => k_is)
    (case b => k_is)
    (case t => k_is)
    (case e4 => k_is)
    (case sc => first | rfl | k_is)
    (case aS => k_is)
    (case pgS => k_is)
    (case hdS => k_is)
    (case poS => k_is)
    (case saS => k_is)
    (case mkS_ => k_is)
    (case kcS => k_is)
    (case inI => k_is)
    (case fnI => k_is)
    (case lI => k_is)
    (case cI => k_is)
    (case kI => k_is)
    (case h1I => k_is)
    (case h2I => k_is)
    (case h3I => k_is)
    (case n_step => k_is)
    (case n_tolerance => k_is)
    (case n_letter => k_is)
    (case n_side => k_is)
    (case neS => k_is)
    (case mroS => k_is)
    (case nfS => first | k_is | rfl)
    (case s1 => k_is)
    (case s2 => first | k_is | rfl)
    (case s3 => first | k_is | rfl)
    (case isS => first | k_is | rfl)
    (case isI => first | k_is | rfl)
    (case cSIDE => k_is)
    (case g_BadScale => k_is)
    (case iC_BadScale => k_is)
    (case l_BadScale => k_is)
    (case cd_BadScale => k_is)
    (case lc_BadScale => k_is)
    (case lk_BadScale => k_is)
    (case hvs_BadScale => first | rfl | kernel_rfl)
    (case hfile_BadScale => first | rfl | kernel_rfl | decide +kernel)
    (case hl_BadScale => first | rfl | decide)
    (case hb_BadScale => exact fun s x v => BindsTo.of_eq rfl)
    (case ini_BadScale => kx_is)
    (case over_BadScale => kx_is)
    (case sa_BadScale => k_is)
    (case tk_BadScale => k_is)
    (case hd_BadScale => k_is)
    (case tC_BadScale => k_is)
    (case sub_BadScale => k_is)
    (case mro_BadScale => k_is)
    (case sup_BadScale => ks_is)
    (case opq_BadScale => k_is)
    (case top_BadScale => first | rfl | kernel_rfl | decide +kernel)
    (case hd1_BadScale => first | rfl | decide)
    (case nn_BadScale => first | rfl | decide)
    (case lf_BadScale => first | rfl | decide)
    (case hz_BadScale => first | decide | decide +kernel)
    (case kC_BadScale => k_is)
    (case exC_BadScale => k_is)
    (case tyC_BadScale => k_is)
    (case xf_BadScale => exact ⟨by k_is, by k_is, by k_is, by k_is⟩)
    (case nf_BadScale => k_is)
    (case xm_BadScale => first | k_is | kx_is | rfl)
    (case a_is_within => k_is)
    (case l_is_within => k_is)
    (case c_is_within => k_is)
    (case k_is_within => k_is)
    (case a_greatest_common => k_is)
    (case l_greatest_common => k_is)
    (case c_greatest_common => k_is)
    (case k_greatest_common => k_is)
    (case a_ratio => k_is)
    (case l_ratio => k_is)
    (case c_ratio => k_is)
    (case k_ratio => k_is)
    (case a_plus => k_is)
    (case l_plus => k_is)
    (case c_plus => k_is)
    (case k_plus => k_is)
    (case a_divided => k_is)
    (case l_divided => k_is)
    (case c_divided => k_is)
    (case k_divided => k_is)
    (case a_floor => k_is)
    (case l_floor => k_is)
    (case c_floor => k_is)
    (case k_floor => k_is)
    (case a_nearest => k_is)
    (case l_nearest => k_is)
    (case c_nearest => k_is)
    (case k_nearest => k_is)
    (case a_check_part => k_is)
    (case l_check_part => k_is)
    (case c_check_part => k_is)
    (case k_check_part => k_is)
    (case a_Scale_slack => k_is)
    (case i_Scale_slack => k_is)
    (case l_Scale_slack => k_is)
    (case c_Scale_slack => k_is)
    (case k_Scale_slack => k_is)
    (case a_Scale___eq__ => k_is)
    (case i_Scale___eq__ => k_is)
    (case l_Scale___eq__ => k_is)
    (case c_Scale___eq__ => k_is)
    (case k_Scale___eq__ => k_is)
    (case a_Scale___str__ => k_is)
    (case i_Scale___str__ => k_is)
    (case l_Scale___str__ => k_is)
    (case c_Scale___str__ => k_is)
    (case k_Scale___str__ => k_is)
    (case a_Scale___repr__ => k_is)
    (case i_Scale___repr__ => k_is)
    (case l_Scale___repr__ => k_is)
    (case c_Scale___repr__ => k_is)
    (case k_Scale___repr__ => k_is)
    (case a_drawn => k_is)
    (case l_drawn => k_is)
    (case c_drawn => k_is)
    (case k_drawn => k_is)
    (case a_law_bag => k_is)
    (case l_law_bag => k_is)
    (case c_law_bag => k_is)
    (case k_law_bag => k_is)
    (case a_law_draw => k_is)
    (case l_law_draw => k_is)
    (case c_law_draw => k_is)
    (case k_law_draw => k_is)
    (case a_law_whole => k_is)
    (case l_law_whole => k_is)
    (case c_law_whole => k_is)
    (case k_law_whole => k_is)
    (case a_law_same => k_is)
    (case l_law_same => k_is)
    (case c_law_same => k_is)
    (case k_law_same => k_is)
    (case a_law_any => k_is)
    (case l_law_any => k_is)
    (case c_law_any => k_is)
    (case k_law_any => k_is)
    (case a_law_big => k_is)
    (case l_law_big => k_is)
    (case c_law_big => k_is)
    (case k_law_big => k_is)
    (case a_law_rat => k_is)
    (case l_law_rat => k_is)
    (case c_law_rat => k_is)
    (case k_law_rat => k_is)
    (case a_law_ratio => k_is)
    (case l_law_ratio => k_is)
    (case c_law_ratio => k_is)
    (case k_law_ratio => k_is)
    (case a_law_pair => k_is)
    (case l_law_pair => k_is)
    (case c_law_pair => k_is)
    (case k_law_pair => k_is)
    (case a_law_told => k_is)
    (case l_law_told => k_is)
    (case c_law_told => k_is)
    (case k_law_told => k_is)
    (case a_law_due => k_is)
    (case l_law_due => k_is)
    (case c_law_due => k_is)
    (case k_law_due => k_is)
    (case a_law_one => k_is)
    (case l_law_one => k_is)
    (case c_law_one => k_is)
    (case k_law_one => k_is)
    (case a_law => k_is)
    (case l_law => k_is)
    (case c_law => k_is)
    (case k_law => k_is)
    (case z_len => k_is)
    (case z_list => k_is)
    (case z_abs => k_is)
    (case z_isinstance => k_is)
    (case z_int => k_is)
    (case z_bool => k_is)
    (case z_str => k_is)
    (case z_dict => k_is)
    (case z_tuple => k_is)
    (case z_all => k_is)
    (case z_range => k_is)
    (case z_sorted => k_is)
    (case z_min => k_is)
    (case z_max => k_is)
    (case z_any => k_is)
    (case z_repr => k_is)
    (case z_super => k_is)

