import PyProof.Rows.All
import Wide.All
import OpenK.AllK
import Wide.FinOn
import HandS.ForMost
import HandS.ForExc
import HandS.Wide
import HandS.IsInst
import HandS.ExcIs
import HandS.More
import HandS.DictComp
import HandS.SortInts
import HandS.Style
import HandS.Defaults
import HandS.Deep
import HandS.TryOnly
import KE.DataMinMax
import KE.SortData
import HandS.Iter
import KE.KExcSuper
import KE.OsGo
import HandS.ForSpec
import HandS.HeadWalk
import HandS.SlotsOwn
import KE.KCallOwn
import HandS.OwnEq
import HandS.FStr
import HandS.Text
import KE.KxIndex
import HandS.ExcOwn
import KE.KEqDict
import HandS.WordsDict
import HandS.DictEq
import HandS.Finally
import PyProof.MinMaxWalk
import HandS.Set
import HandS.SetFor
import HandS.Strs
import KE.KDictList
import HandS.DictSubView
import HandS.Sort
import HandS.ExcField
import PySem.Challenge.RW_gromatic_k06_what_hangs_together
import KE.KExcLine
import HandS.HeadEnd
set_option Elab.async false
set_option linter.all false
set_option maxRecDepth 100000
set_option maxHeartbeats 8000000
namespace M
open PySem L2

/-! ### heaps: what is owned may change -/
abbrev AS := List Addr
def Fr (T : AS) (H H' : Hp) : Prop := ∀ a o, H a = some o → a ∉ T → H' a = some o
theorem Fr.refl {T : AS} (H : Hp) : Fr T H H := fun _ _ e _ => e
theorem Fr.trans {T : AS} {H H1 H2 : Hp} (a : Fr T H H1) (b : Fr T H1 H2) : Fr T H H2 := fun p o e n => b p o (a p o e n) n
theorem Fr.same {T : AS} {H H' : Hp} (s : Same H H') : Fr T H H' := fun p o e _ => s p o e
theorem Fr.sub {T T' : AS} {H H' : Hp} (h : ∀ a ∈ T, a ∈ T') (f : Fr T H H') : Fr T' H H' := fun p o e n => f p o e fun m => n (h p m)
theorem Fr.toSame {H H' : Hp} (f : Fr [] H H') : Same H H' := fun p o e => f p o e (by simp)
def Dom (S : AS) (H : Hp) : Prop := ∀ a ∈ S, H a ≠ none
theorem Dom.same {S : AS} {H H' : Hp} (d : Dom S H) (s : Same H H') : Dom S H' := fun a m e => by
  cases q : H a with
  | none => exact d a m q
  | some o => rw [s a o q] at e; cases e
theorem Dom.nil {H : Hp} : Dom [] H := fun a m => by simp at m
theorem Dom.not_mem {S : AS} {H : Hp} {p : Addr} (d : Dom S H) (h : H p = none) : p ∉ S := fun m => d p m h
theorem Dom.cons {S : AS} {H : Hp} {p : Addr} {o : HO} (d : Dom S H) (h : H p = some o) : Dom (p :: S) H := fun a m => by
  rcases List.mem_cons.mp m with rfl | m
  · rw [h]; intro z; cases z
  · exact d a m
theorem same_new {H : Hp} {p : Addr} {o : HO} (h : H p = none) : Same H (upd H p o) := fun b x e => by
  rw [upd_ne (ne_of_none e h)]
  exact e
theorem fr_upd {T : AS} {H : Hp} {p : Addr} {o : HO} (h : p ∈ T) : Fr T H (upd H p o) := fun b x e n => by
  rw [upd_ne (fun z => n (by rw [z]; exact h))]
  exact e
theorem Dom.upd {S : AS} {H : Hp} {p : Addr} {o : HO} (d : Dom S H) : Dom S (upd H p o) := fun a m => by
  by_cases e : a = p
  · subst e; rw [upd_same]; intro z; cases z
  · rw [upd_ne e]; exact d a m

/-! ### pairs of lists -/
abbrev All2 {α β : Type} := @Paired α β
theorem All2.imp {α β : Type} {F G : α → β → Prop} (h : ∀ a b, F a b → G a b) : ∀ {xs : List α} {ys : List β}, All2 F xs ys → All2 G xs ys
  | _, _, .nil => .nil
  | _, _, .cons a r => .cons (h _ _ a) (All2.imp h r)
theorem All2.len {α β : Type} {F : α → β → Prop} : ∀ {xs : List α} {ys : List β}, All2 F xs ys → xs.length = ys.length
  | _, _, .nil => rfl
  | _, _, .cons _ r => by simp [All2.len r]
theorem All2.get {α β : Type} {F : α → β → Prop} : ∀ {xs : List α} {ys : List β} (i : Nat) {y : β}, All2 F xs ys → ys[i]? = some y → ∃ x, xs[i]? = some x ∧ F x y
  | _, _, i, y, .nil, e => by simp at e
  | _, _, 0, y, .cons a _, e => by simp at e; subst e; exact ⟨_, rfl, a⟩
  | _, _, i + 1, y, .cons _ r, e => by
    obtain ⟨x, h1, h2⟩ := All2.get i (y := y) r (by simpa using e)
    exact ⟨x, by simpa using h1, h2⟩
theorem All2.getL {α β : Type} {F : α → β → Prop} : ∀ {xs : List α} {ys : List β} (i : Nat) {x : α}, All2 F xs ys → xs[i]? = some x → ∃ y, ys[i]? = some y ∧ F x y
  | _, _, i, y, .nil, e => by simp at e
  | _, _, 0, y, .cons a _, e => by simp at e; subst e; exact ⟨_, rfl, a⟩
  | _, _, i + 1, y, .cons _ r, e => by
    obtain ⟨x, h1, h2⟩ := All2.getL i (x := y) r (by simpa using e)
    exact ⟨x, by simpa using h1, h2⟩
theorem All2.snoc {α β : Type} {F : α → β → Prop} {x : α} {y : β} : ∀ {xs : List α} {ys : List β}, All2 F xs ys → F x y → All2 F (xs ++ [x]) (ys ++ [y])
  | _, _, .nil, h => .cons h .nil
  | _, _, .cons a r, h => .cons a (All2.snoc r h)
theorem All2.app {α β : Type} {F : α → β → Prop} : ∀ {xs xs' : List α} {ys ys' : List β}, All2 F xs ys → All2 F xs' ys' → All2 F (xs ++ xs') (ys ++ ys')
  | _, _, _, _, .nil, h => h
  | _, _, _, _, .cons a r, h => .cons a (All2.app r h)
theorem All2.drop {α β : Type} {F : α → β → Prop} : ∀ (n : Nat) {xs : List α} {ys : List β}, All2 F xs ys → All2 F (xs.drop n) (ys.drop n)
  | 0, _, _, h => h
  | _ + 1, _, _, .nil => .nil
  | n + 1, _, _, .cons _ r => All2.drop n r
theorem All2.take {α β : Type} {F : α → β → Prop} : ∀ (n : Nat) {xs : List α} {ys : List β}, All2 F xs ys → All2 F (xs.take n) (ys.take n)
  | 0, _, _, _ => .nil
  | _ + 1, _, _, .nil => .nil
  | n + 1, _, _, .cons a r => .cons a (All2.take n r)
theorem All2.set {α β : Type} {F : α → β → Prop} {x : α} {y : β} (h : F x y) : ∀ (n : Nat) {xs : List α} {ys : List β}, All2 F xs ys → All2 F (xs.set n x) (ys.set n y)
  | _, _, _, .nil => .nil
  | 0, _, _, .cons _ r => .cons h r
  | n + 1, _, _, .cons a r => .cons a (All2.set h n r)
theorem All2.at {α β : Type} {F : α → β → Prop} {xs : List α} {ys : List β} {i : Int} {y : β} (h : All2 F xs ys) (e : atI ys i = some y) : ∃ x, atI xs i = some x ∧ F x y := by
  unfold atI at e ⊢
  rw [h.len]
  cases q : ixN ys.length i with
  | none => rw [q] at e; cases e
  | some j =>
    rw [q] at e
    exact h.get j e

/-! ### codes: what a value stands for -/
def nT (K : PySem.W.Frag) (S : AS) (H : Hp) (a : Addr) (xs : List V) : Prop := (Rd H a (.tup xs) ∧ a ∉ S) ∨ SqT K (fun _ => none) a xs
def nL (K : PySem.W.Frag) (S : AS) (H : Hp) (a : Addr) (xs : List V) : Prop := H a = some (.lst xs) ∧ a ∉ S
theorem not_rd {a : Addr} {u : HO} (h : Rd (fun _ => none) a u) : False := by
  rcases h with h | ⟨_, h⟩ <;> cases h
theorem Rd.some {H : Hp} {a : Addr} {u : HO} (h : Rd H a u) : H a ≠ none := by
  rcases h with h | ⟨_, h⟩ <;> rw [h] <;> intro z <;> cases z
theorem Rd.fr {T : AS} {H H' : Hp} {a : Addr} {u : HO} (h : Rd H a u) (f : Fr T H H') (n : a ∉ T) : Rd H' a u := by
  rcases h with h | ⟨o, h⟩
  · exact .inl (f _ _ h n)
  · exact .inr ⟨o, f _ _ h n⟩
theorem nT.sq {K : PySem.W.Frag} {S : AS} {H : Hp} {a : Addr} {xs : List V} (h : nT K S H a xs) : SqT K H a xs := by
  rcases h with h | h | h
  · exact .inl h.1
  · exact (not_rd h).elim
  · exact .inr h
theorem nL.sq {K : PySem.W.Frag} {S : AS} {H : Hp} {a : Addr} {xs : List V} (h : nL K S H a xs) : SqL K H a xs := .inl (.inl h.1)
theorem nT.mono {K : PySem.W.Frag} {S : AS} {H H' : Hp} {a : Addr} {xs : List V} (f : Fr S H H') (h : nT K S H a xs) : nT K S H' a xs := by
  rcases h with h | h
  · exact .inl ⟨Rd.fr h.1 f h.2, h.2⟩
  · exact .inr h
theorem nL.mono {K : PySem.W.Frag} {S : AS} {H H' : Hp} {a : Addr} {xs : List V} (f : Fr S H H') (h : nL K S H a xs) : nL K S H' a xs := ⟨f _ _ h.1 h.2, h.2⟩
theorem not_cons {S : AS} {H : Hp} {p a : Addr} (hp : H p = none) (ha : H a ≠ none) (n : a ∉ S) : a ∉ p :: S := fun m => by
  rcases List.mem_cons.mp m with rfl | m
  · exact ha hp
  · exact n m
theorem nT.ext {K : PySem.W.Frag} {S : AS} {H : Hp} {a p : Addr} {xs : List V} (hp : H p = none) (h : nT K S H a xs) : nT K (p :: S) H a xs := by
  rcases h with h | h
  · exact .inl ⟨h.1, not_cons hp (Rd.some h.1) h.2⟩
  · exact .inr h
theorem nL.ext {K : PySem.W.Frag} {S : AS} {H : Hp} {a p : Addr} {xs : List V} (hp : H p = none) (h : nL K S H a xs) : nL K (p :: S) H a xs := ⟨h.1, not_cons hp (by rw [h.1]; intro z; cases z) h.2⟩
theorem nT.sub {K : PySem.W.Frag} {S S' : AS} {H : Hp} {a : Addr} {xs : List V} (hs : ∀ a ∈ S', a ∈ S) (h : nT K S H a xs) : nT K S' H a xs := by
  rcases h with h | h
  · exact .inl ⟨h.1, fun m => h.2 (hs _ m)⟩
  · exact .inr h
theorem nL.sub {K : PySem.W.Frag} {S S' : AS} {H : Hp} {a : Addr} {xs : List V} (hs : ∀ a ∈ S', a ∈ S) (h : nL K S H a xs) : nL K S' H a xs := ⟨h.1, fun m => h.2 (hs _ m)⟩

structure Ty (K : PySem.W.Frag) (α : Type) where
  rp : AS → Hp → V → α → Prop
  mono : ∀ {S H H' v x}, Fr S H H' → rp S H v x → rp S H' v x
  ext : ∀ {S H p v x}, H p = none → rp S H v x → rp (p :: S) H v x
  sub : ∀ {S S' H v x}, (∀ a ∈ S', a ∈ S) → rp S H v x → rp S' H v x

section
variable {K : PySem.W.Frag} {α β γ δ ε : Type}
def tInt : Ty K Int := ⟨fun _ _ v i => v = .int i, fun _ h => h, fun _ h => h, fun _ h => h⟩
def tBool : Ty K Bool := ⟨fun _ _ v i => v = .bl i, fun _ h => h, fun _ h => h, fun _ h => h⟩
def tStr : Ty K Str := ⟨fun _ _ v i => v = .str i ∧ PyData.strOk i = true, fun _ h => h, fun _ h => h, fun _ h => h⟩
def tNone : Ty K Unit := ⟨fun _ _ v _ => v = .non, fun _ h => h, fun _ h => h, fun _ h => h⟩
def tOpt (c : Ty K α) : Ty K (Option α) where
  rp S H v
    | none => v = .non
    | some x => v ≠ .non ∧ c.rp S H v x
  mono {S H H' v x} f h := by cases x with | none => exact h | some x => exact ⟨h.1, c.mono f h.2⟩
  ext {S H p v x} f h := by cases x with | none => exact h | some x => exact ⟨h.1, c.ext f h.2⟩
  sub {S S' H v x} f h := by cases x with | none => exact h | some x => exact ⟨h.1, c.sub f h.2⟩
def tT2 (c : Ty K α) (d : Ty K β) : Ty K (α × β) where
  rp S H v x := ∃ a u w, v = .ref a ∧ nT K S H a [u, w] ∧ c.rp S H u x.1 ∧ d.rp S H w x.2
  mono f := fun ⟨a, u, w, e, h, h1, h2⟩ => ⟨a, u, w, e, h.mono f, c.mono f h1, d.mono f h2⟩
  ext f := fun ⟨a, u, w, e, h, h1, h2⟩ => ⟨a, u, w, e, h.ext f, c.ext f h1, d.ext f h2⟩
  sub f := fun ⟨a, u, w, e, h, h1, h2⟩ => ⟨a, u, w, e, h.sub f, c.sub f h1, d.sub f h2⟩
def tT3 (c : Ty K α) (d : Ty K β) (g : Ty K γ) : Ty K (α × β × γ) where
  rp S H v x := ∃ a u w z, v = .ref a ∧ nT K S H a [u, w, z] ∧ c.rp S H u x.1 ∧ d.rp S H w x.2.1 ∧ g.rp S H z x.2.2
  mono f := fun ⟨a, u, w, z, e, h, h1, h2, h3⟩ => ⟨a, u, w, z, e, h.mono f, c.mono f h1, d.mono f h2, g.mono f h3⟩
  ext f := fun ⟨a, u, w, z, e, h, h1, h2, h3⟩ => ⟨a, u, w, z, e, h.ext f, c.ext f h1, d.ext f h2, g.ext f h3⟩
  sub f := fun ⟨a, u, w, z, e, h, h1, h2, h3⟩ => ⟨a, u, w, z, e, h.sub f, c.sub f h1, d.sub f h2, g.sub f h3⟩
/-- a tuple of any length; a list -/
def tTs (c : Ty K α) : Ty K (List α) where
  rp S H v xs := ∃ a vs, v = .ref a ∧ nT K S H a vs ∧ All2 (c.rp S H) vs xs
  mono f := fun ⟨a, vs, e, h, h1⟩ => ⟨a, vs, e, h.mono f, h1.imp fun _ _ => c.mono f⟩
  ext f := fun ⟨a, vs, e, h, h1⟩ => ⟨a, vs, e, h.ext f, h1.imp fun _ _ => c.ext f⟩
  sub f := fun ⟨a, vs, e, h, h1⟩ => ⟨a, vs, e, h.sub f, h1.imp fun _ _ => c.sub f⟩
def tL (c : Ty K α) : Ty K (List α) where
  rp S H v xs := ∃ a vs, v = .ref a ∧ nL K S H a vs ∧ All2 (c.rp S H) vs xs
  mono f := fun ⟨a, vs, e, h, h1⟩ => ⟨a, vs, e, h.mono f, h1.imp fun _ _ => c.mono f⟩
  ext f := fun ⟨a, vs, e, h, h1⟩ => ⟨a, vs, e, h.ext f, h1.imp fun _ _ => c.ext f⟩
  sub f := fun ⟨a, vs, e, h, h1⟩ => ⟨a, vs, e, h.sub f, h1.imp fun _ _ => c.sub f⟩
/-- a ratio: a tuple of two numbers in lowest terms -/
def tRat : Ty K Rat where
  rp S H v q := ∃ a, v = .ref a ∧ nT K S H a [.int q.num, .int (q.den : Int)]
  mono f := fun ⟨a, e, h⟩ => ⟨a, e, h.mono f⟩
  ext f := fun ⟨a, e, h⟩ => ⟨a, e, h.ext f⟩
  sub f := fun ⟨a, e, h⟩ => ⟨a, e, h.sub f⟩
abbrev tSpot : Ty K (Rat × Rat) := tT2 tRat tRat
/-- a list that is owned: at p, and p is of S -/
def Own (c : Ty K α) (S : AS) (H : Hp) (p : Addr) (xs : List α) : Prop := ∃ vs, H p = some (.lst vs) ∧ All2 (c.rp S H) vs xs
/-- a new list -/
def nwL (c : Ty K α) (S : AS) (H0 H : Hp) (v : V) (xs : List α) : Prop := ∃ p, v = .ref p ∧ H0 p = none ∧ Own c (p :: S) H p xs
theorem nwL.rp {c : Ty K α} {S : AS} {H0 H : Hp} {v : V} {xs : List α} (h : nwL c S H0 H v xs) (d : Dom S H0) : (tL c).rp S H v xs := by
  obtain ⟨p, e, hp, vs, hv, ha⟩ := h
  exact ⟨p, vs, e, ⟨hv, d.not_mem hp⟩, ha.imp fun _ _ => c.sub fun _ m => List.mem_cons_of_mem _ m⟩

/-! ### what an expression tells -/
structure Rl (α : Type) where
  r : Hp → Hp → V → α → Prop
  back : ∀ {T H0 H1 H2 v x}, Fr T H0 H1 → Dom T H1 → r H1 H2 v x → r H0 H2 v x
def of (c : Ty K α) (S : AS) : Rl α := ⟨fun _ H v x => c.rp S H v x, fun _ _ h => h⟩
theorem fr_back {T : AS} {H0 H1 : Hp} {p : Addr} (f : Fr T H0 H1) (d : Dom T H1) (n : H1 p = none) : H0 p = none := by
  cases q : H0 p with
  | none => rfl
  | some o =>
    rw [f p o q (d.not_mem n)] at n
    cases n
def nw (c : Ty K α) (S : AS) : Rl (List α) := ⟨nwL c S, fun f d ⟨p, e, n, h⟩ => ⟨p, e, fr_back f d n, h⟩⟩
theorem Rl.same (R : Rl α) {H0 H1 H2 : Hp} {v : V} {x : α} (s : Same H0 H1) (h : R.r H1 H2 v x) : R.r H0 H2 v x := R.back (T := []) (Fr.same s) Dom.nil h
/-- S: what is owned; T: what of it may change while the expression is read (the bag) -/
def Ev (S T : AS) (te : TE) (σ : St) (H : Hp) (R : Rl α) (r : Option α) : Prop :=
  ∀ x, r = some x → ∀ H1, Fr T H H1 → Dom S H1 → ∀ Q : VK, (∀ v H2, Same H1 H2 → R.r H1 H2 v x → Q v H2) → te σ H1 Q
def EvB (S T : AS) (tt : TT) (σ : St) (H : Hp) (r : Option Bool) : Prop :=
  ∀ b, r = some b → ∀ H1, Fr T H H1 → Dom S H1 → ∀ Q : Bool → Hp → Prop, (∀ H2, Same H1 H2 → Q b H2) → tt σ H1 Q
abbrev bd (r : Option α) (k : α → Option β) : Option β := Option.bind r k
theorem bd_some {r : Option α} {k : α → Option β} {y : β} (h : bd r k = some y) : ∃ x, r = some x ∧ k x = some y := by
  cases r with
  | none => cases h
  | some x => exact ⟨x, rfl, h⟩
abbrev Sub (T S : AS) : Prop := ∀ a ∈ T, a ∈ S
variable {S T : AS} {σ : St} {H : Hp} {ta tb te : TE} {tt tu : TT} {a : Ty K α} {b : Ty K β} {c : Ty K γ}
theorem ev_var (ts : Sub T S) {i : Nat} {v : V} {x : α} (h : a.rp S H v x) (e : σ[i]? = some (some v)) : Ev S T (tVar i) σ H (of a S) (some x) := by
  intro y ey H1 f d Q q
  cases ey
  exact ⟨v, e, q v H1 (Same.refl _) (a.mono (f.sub ts) h)⟩
theorem ev_c {v : V} {x : α} (h : ∀ H, a.rp S H v x) : Ev S T (tC v) σ H (of a S) (some x) := by
  intro y ey H1 f d Q q
  cases ey
  exact q v H1 (Same.refl _) (h H1)
theorem ev_int {i : Int} : Ev S T (tC (.int i)) σ H (of (K := K) tInt S) (some i) := ev_c fun _ => rfl
theorem ev_bool {i : Bool} : Ev S T (tC (.bl i)) σ H (of (K := K) tBool S) (some i) := ev_c fun _ => rfl
theorem ev_str {i : Str} (h : PyData.strOk i = true := by decide +kernel) : Ev S T (tC (.str i)) σ H (of (K := K) tStr S) (some i) := ev_c fun _ => ⟨rfl, h⟩
theorem ev_none : Ev S T (tC .non) σ H (of (K := K) tNone S) (some ()) := ev_c fun _ => rfl
/-- another code for the same value -/
theorem ev_as {R : Rl α} {R' : Rl β} {r : Option α} {g : α → Option β} (h : Ev S T te σ H R r) (k : ∀ x y, g x = some y → ∀ H1 H2 v, Dom S H1 → R.r H1 H2 v x → R'.r H1 H2 v y) : Ev S T te σ H R' (bd r g) := by
  intro y ey H1 f d Q q
  obtain ⟨x, ex, ey⟩ := bd_some ey
  exact h x ex H1 f d Q fun v H2 s hv => q v H2 s (k x y ey H1 H2 v d hv)
theorem ev_new {r : Option (List α)} (h : Ev S T te σ H (nw a S) r) : Ev S T te σ H (of (tL a) S) r := by
  intro x ex H1 f d Q q
  exact h x ex H1 f d Q fun v H2 s hv => q v H2 s (nwL.rp hv d)
def OpD (a : Ty K α) (b : Ty K β) (S : AS) (R : Rl γ) (r : R2) (f : α → β → Option γ) : Prop :=
  ∀ x y z, f x y = some z → ∀ H1 v w, Dom S H1 → a.rp S H1 v x → b.rp S H1 w y → ∀ Q : VK, (∀ u H2, Same H1 H2 → R.r H1 H2 u z → Q u H2) → r v w H1 Q
theorem ev_op {R : Rl γ} {r : R2} {f : α → β → Option γ} {ra : Option α} {rb : Option β} (h : OpD a b S R r f) (ha : Ev S T ta σ H (of a S) ra) (hb : Ev S T tb σ H (of b S) rb) :
    Ev S T (tOp r ta tb) σ H R (bd ra fun x => bd rb fun y => f x y) := by
  intro z e H1 f1 d Q q
  obtain ⟨x, ex, e⟩ := bd_some e
  obtain ⟨y, ey, e⟩ := bd_some e
  refine ha x ex H1 f1 d _ fun v H2 s2 hv => hb y ey H2 (f1.trans (Fr.same s2)) (d.same s2) _ fun w H3 s3 hw => h x y z e H3 v w ((d.same s2).same s3) (a.mono (Fr.same s3) hv) hw Q fun u H4 s4 hu => q u H4 (s2.trans (s3.trans s4)) (R.same (s2.trans s3) hu)
/-- ints -/
theorem od_I0 {g : Int → Int → V} {k : Int → Int → γ} (h : ∀ i j H, c.rp S H (g i j) (k i j)) : OpD (K := K) tInt tInt S (of c S) (rI0 g) (fun i j => some (k i j)) := by
  intro x y z e H1 v w d hv hw Q q
  cases e
  exact ⟨x, y, hv, hw, q _ H1 (Same.refl _) (h x y H1)⟩
theorem od_I {C : Int → Int → Prop} {p : Int → Int → Bool} {g : Int → Int → V} {k : Int → Int → γ} (hp : ∀ i j, p i j = true → C i j) (h : ∀ i j H, c.rp S H (g i j) (k i j)) : OpD (K := K) tInt tInt S (of c S) (rI C g) (fun i j => if p i j then some (k i j) else none) := by
  intro x y z e H1 v w d hv hw Q q
  dsimp only at e
  split at e
  · rename_i hc
    cases e
    exact ⟨x, y, hv, hw, hp _ _ hc, q _ H1 (Same.refl _) (h x y H1)⟩
  · cases e
def mulP (i j : Int) : Bool := decide (i.natAbs.log2 + j.natAbs.log2 < 1000000)
def mul? (i j : Int) : Option Int := if mulP i j then some (i * j) else none
theorem od_add : OpD (K := K) tInt tInt S (of (K := K) tInt S) (rI0 fun i j => .int (i + j)) (fun i j => some (i + j)) := od_I0 fun _ _ _ => rfl
theorem od_sub : OpD (K := K) tInt tInt S (of (K := K) tInt S) (rI0 fun i j => .int (i - j)) (fun i j => some (i - j)) := od_I0 fun _ _ _ => rfl
theorem od_mul : OpD (K := K) tInt tInt S (of (K := K) tInt S) (rI CMulW fun i j => .int (i * j)) mul? := od_I (fun i j h => show i.natAbs.log2 + j.natAbs.log2 < 1000000 from of_decide_eq_true h) fun _ _ _ => rfl
theorem od_lt : OpD (K := K) tInt tInt S (of (K := K) tBool S) (rI0 fun i j => .bl (decide (i < j))) (fun i j => some (decide (i < j))) := od_I0 fun _ _ _ => rfl
theorem od_le : OpD (K := K) tInt tInt S (of (K := K) tBool S) (rI0 fun i j => .bl (decide (i ≤ j))) (fun i j => some (decide (i ≤ j))) := od_I0 fun _ _ _ => rfl
theorem od_gt : OpD (K := K) tInt tInt S (of (K := K) tBool S) (rI0 fun i j => .bl (decide (j < i))) (fun i j => some (decide (j < i))) := od_I0 fun _ _ _ => rfl
theorem od_ge : OpD (K := K) tInt tInt S (of (K := K) tBool S) (rI0 fun i j => .bl (decide (j ≤ i))) (fun i j => some (decide (j ≤ i))) := od_I0 fun _ _ _ => rfl
theorem od_eqI : OpD (K := K) tInt tInt S (of (K := K) tBool S) rEq (fun i j => some (decide (i = j))) := by
  intro x y z e H1 v w d hv hw Q q
  cases e; cases hv; cases hw
  refine ⟨rfl, ?_⟩
  rw [show decide (V.int x = V.int y) = decide (x = y) by simp]
  exact q _ H1 (Same.refl _) rfl
theorem od_neI : OpD (K := K) tInt tInt S (of (K := K) tBool S) rNe (fun i j => some (!decide (i = j))) := by
  intro x y z e H1 v w d hv hw Q q
  cases e; cases hv; cases hw
  refine ⟨rfl, ?_⟩
  rw [show decide (V.int x = V.int y) = decide (x = y) by simp]
  exact q _ H1 (Same.refl _) rfl
theorem od_eqS : OpD (K := K) tStr tStr S (of (K := K) tBool S) rEq (fun i j => some (decide (i = j))) := by
  intro x y z e H1 v w d hv hw Q q
  obtain ⟨rfl, _⟩ := hv; obtain ⟨rfl, _⟩ := hw; cases e
  refine ⟨rfl, ?_⟩
  rw [show decide (V.str x = V.str y) = decide (x = y) by simp]
  exact q _ H1 (Same.refl _) rfl
theorem od_neS : OpD (K := K) tStr tStr S (of (K := K) tBool S) rNe (fun i j => some (!decide (i = j))) := by
  intro x y z e H1 v w d hv hw Q q
  obtain ⟨rfl, _⟩ := hv; obtain ⟨rfl, _⟩ := hw; cases e
  refine ⟨rfl, ?_⟩
  rw [show decide (V.str x = V.str y) = decide (x = y) by simp]
  exact q _ H1 (Same.refl _) rfl
/-- an item of a list, of a tuple -/
theorem od_ixL : OpD (tL a) (K := K) tInt S (of a S) (rIxL K) (fun xs i => atI xs i) := by
  intro x y z e H1 v w d hv hw Q q
  obtain ⟨p, vs, rfl, hp, ha⟩ := hv
  cases hw
  obtain ⟨u, hu, hz⟩ := ha.at e
  exact ⟨p, vs, y, u, rfl, rfl, hp.sq, hu, q u H1 (Same.refl _) hz⟩
theorem od_ixTs : OpD (tTs a) (K := K) tInt S (of a S) (rIxT K) (fun xs i => atI xs i) := by
  intro x y z e H1 v w d hv hw Q q
  obtain ⟨p, vs, rfl, hp, ha⟩ := hv
  cases hw
  obtain ⟨u, hu, hz⟩ := ha.at e
  exact ⟨p, vs, y, u, rfl, rfl, hp.sq, hu, q u H1 (Same.refl _) hz⟩
/-- an item of a pair of alike things -/
def at2 (x : α × α) (i : Int) : Option α := atI [x.1, x.2] i
theorem od_ix2 : OpD (tT2 a a) (K := K) tInt S (of a S) (rIxT K) at2 := by
  intro x y z e H1 v w d hv hw Q q
  obtain ⟨p, u1, u2, rfl, hp, h1, h2⟩ := hv
  cases hw
  obtain ⟨u, hu, hz⟩ := All2.at (F := a.rp S H1) (.cons h1 (.cons h2 .nil)) e
  exact ⟨p, _, y, u, rfl, rfl, hp.sq, hu, q u H1 (Same.refl _) hz⟩
/-- items 0, 1 of tuples by their written places -/
theorem ev_ixT {R : Rl γ} {i : Int} {ra : Option α} {g : α → γ} (ha : Ev S T ta σ H (of a S) ra) (h : ∀ x H v, a.rp S H v x → ∃ p vs u, v = .ref p ∧ SqT K H p vs ∧ atI vs i = some u ∧ R.r H H u (g x)) :
    Ev S T (tOp (rIxT K) ta (tC (.int i))) σ H R (bd ra fun x => some (g x)) := by
  intro z e H1 f1 d Q q
  obtain ⟨x, ex, e⟩ := bd_some e
  cases e
  refine ha x ex H1 f1 d _ fun v H2 s2 hv => ?_
  obtain ⟨p, vs, u, rfl, hp, hu, hz⟩ := h x H2 v hv
  exact ⟨p, vs, i, u, rfl, rfl, hp, hu, q u H2 s2 (R.same s2 hz)⟩
theorem ev_ix20 {ra : Option (α × β)} (ha : Ev S T ta σ H (of (tT2 a b) S) ra) : Ev S T (tOp (rIxT K) ta (tC (.int 0))) σ H (of a S) (bd ra fun x => some x.1) :=
  ev_ixT ha fun x H v ⟨p, u, w, e, h, h1, h2⟩ => ⟨p, _, u, e, h.sq, rfl, h1⟩
theorem ev_ix21 {ra : Option (α × β)} (ha : Ev S T ta σ H (of (tT2 a b) S) ra) : Ev S T (tOp (rIxT K) ta (tC (.int 1))) σ H (of b S) (bd ra fun x => some x.2) :=
  ev_ixT ha fun x H v ⟨p, u, w, e, h, h1, h2⟩ => ⟨p, _, w, e, h.sq, rfl, h2⟩
theorem ev_ixR0 {ra : Option Rat} (ha : Ev S T ta σ H (of (K := K) tRat S) ra) : Ev S T (tOp (rIxT K) ta (tC (.int 0))) σ H (of (K := K) tInt S) (bd ra fun x => some x.num) :=
  ev_ixT ha fun x H v ⟨p, e, h⟩ => ⟨p, _, _, e, h.sq, rfl, rfl⟩
theorem ev_ixR1 {ra : Option Rat} (ha : Ev S T ta σ H (of (K := K) tRat S) ra) : Ev S T (tOp (rIxT K) ta (tC (.int 1))) σ H (of (K := K) tInt S) (bd ra fun x => some (x.den : Int)) :=
  ev_ixT ha fun x H v ⟨p, e, h⟩ => ⟨p, _, _, e, h.sq, rfl, rfl⟩
/-! tests -/
theorem eb_test {r : Option Bool} (h : Ev S T te σ H (of (K := K) tBool S) r) : EvB S T (tTest te) σ H r := fun x ex H1 f d Q q => h x ex H1 f d _ fun v H2 s hv => ⟨x, hv, q H2 s⟩
theorem eb_B {r : Option Bool} (h : Ev S T te σ H (of (K := K) tBool S) r) : EvB S T (tB te) σ H r := fun x ex H1 f d Q q => h x ex H1 f d _ fun v H2 s hv => ⟨x, hv, q H2 s⟩
theorem eb_not {r : Option Bool} (h : EvB S T tt σ H r) : EvB S T (tNot tt) σ H (bd r fun x => some (!x)) := by
  intro z e H1 f1 d Q q
  obtain ⟨x, ex, e⟩ := bd_some e
  cases e
  exact h x ex H1 f1 d _ fun H2 s => q H2 s
theorem eb_and {r u : Option Bool} (h : EvB S T tt σ H r) (h' : EvB S T tu σ H u) : EvB S T (tAnd tt tu) σ H (bd r fun x => if x then u else some false) := by
  intro z e H1 f1 d Q q
  obtain ⟨x, ex, e⟩ := bd_some e
  refine h x ex H1 f1 d _ fun H2 s => ?_
  cases x with
  | true => exact (if_pos rfl).symm ▸ h' z e H2 (f1.trans (Fr.same s)) (d.same s) Q fun H3 s3 => q H3 (s.trans s3)
  | false => cases e; exact q H2 s
theorem eb_or {r u : Option Bool} (h : EvB S T tt σ H r) (h' : EvB S T tu σ H u) : EvB S T (tOr tt tu) σ H (bd r fun x => if x then some true else u) := by
  intro z e H1 f1 d Q q
  obtain ⟨x, ex, e⟩ := bd_some e
  refine h x ex H1 f1 d _ fun H2 s => ?_
  cases x with
  | false => exact h' z e H2 (f1.trans (Fr.same s)) (d.same s) Q fun H3 s3 => q H3 (s.trans s3)
  | true => cases e; exact q H2 s
theorem ev_if {R : Rl γ} {r : Option Bool} {ra rb : Option γ} (h : EvB S T tt σ H r) (ha : Ev S T ta σ H R ra) (hb : Ev S T tb σ H R rb) : Ev S T (tIf tt ta tb) σ H R (bd r fun x => if x then ra else rb) := by
  intro z e H1 f1 d Q q
  obtain ⟨x, ex, e⟩ := bd_some e
  refine h x ex H1 f1 d _ fun H2 s => ?_
  cases x with
  | true => exact ha z e H2 (f1.trans (Fr.same s)) (d.same s) Q fun v H3 s3 hv => q v H3 (s.trans s3) (R.same s hv)
  | false => exact hb z e H2 (f1.trans (Fr.same s)) (d.same s) Q fun v H3 s3 hv => q v H3 (s.trans s3) (R.same s hv)
theorem ev_and {r u : Option Bool} (h : Ev S T ta σ H (of (K := K) tBool S) r) (h' : Ev S T tb σ H (of (K := K) tBool S) u) : Ev S T (tAndV ta tb) σ H (of (K := K) tBool S) (bd r fun x => if x then u else some false) := by
  intro z e H1 f1 d Q q
  obtain ⟨x, ex, e⟩ := bd_some e
  refine h x ex H1 f1 d _ fun v H2 s hv => ⟨x, hv, ?_⟩
  cases x with
  | true => exact h' z e H2 (f1.trans (Fr.same s)) (d.same s) Q fun v H3 s3 hv => q v H3 (s.trans s3) hv
  | false => cases e; exact q _ H2 s rfl
theorem ev_or {r u : Option Bool} (h : Ev S T ta σ H (of (K := K) tBool S) r) (h' : Ev S T tb σ H (of (K := K) tBool S) u) : Ev S T (tOrV ta tb) σ H (of (K := K) tBool S) (bd r fun x => if x then some true else u) := by
  intro z e H1 f1 d Q q
  obtain ⟨x, ex, e⟩ := bd_some e
  refine h x ex H1 f1 d _ fun v H2 s hv => ⟨x, hv, ?_⟩
  cases x with
  | false => exact h' z e H2 (f1.trans (Fr.same s)) (d.same s) Q fun v H3 s3 hv => q v H3 (s.trans s3) hv
  | true => cases e; exact q _ H2 s rfl
theorem ev_not {r : Option Bool} (h : Ev S T ta σ H (of (K := K) tBool S) r) : Ev S T (tNotV ta) σ H (of (K := K) tBool S) (bd r fun x => some (!x)) := by
  intro z e H1 f1 d Q q
  obtain ⟨x, ex, e⟩ := bd_some e
  cases e
  exact h x ex H1 f1 d _ fun v H2 s hv => ⟨x, hv, q _ H2 s rfl⟩

/-! ### arguments and calls -/
structure TyA (K : PySem.W.Frag) (α : Type) where
  rp : AS → Hp → List V → α → Prop
  mono : ∀ {S H H' v x}, Fr S H H' → rp S H v x → rp S H' v x
def aNil : TyA K Unit := ⟨fun _ _ vs _ => vs = [], fun _ h => h⟩
def aCons (c : Ty K α) (t : TyA K β) : TyA K (α × β) := ⟨fun S H vs x => ∃ v r, vs = v :: r ∧ c.rp S H v x.1 ∧ t.rp S H r x.2, fun f ⟨v, r, e, h, h'⟩ => ⟨v, r, e, c.mono f h, t.mono f h'⟩⟩
def EvA (S T : AS) (ta : TA) (σ : St) (H : Hp) (t : TyA K α) (r : Option α) : Prop :=
  ∀ x, r = some x → ∀ H1, Fr T H H1 → Dom S H1 → ∀ Q : List V → Hp → Prop, (∀ vs H2, Same H1 H2 → t.rp S H2 vs x → Q vs H2) → ta σ H1 Q
theorem ea_nil : EvA S T tNil σ H (K := K) aNil (some ()) := fun _ e H1 f d Q q => q [] H1 (Same.refl _) rfl
theorem ea_cons {tr : TA} {t : TyA K β} {ra : Option α} {rr : Option β} (h : Ev S T ta σ H (of a S) ra) (hr : EvA S T tr σ H t rr) : EvA S T (tCons ta tr) σ H (aCons a t) (bd ra fun x => bd rr fun y => some (x, y)) := by
  intro z e H1 f1 d Q q
  obtain ⟨x, ex, e⟩ := bd_some e
  obtain ⟨y, ey, e⟩ := bd_some e
  cases e
  exact h x ex H1 f1 d _ fun v H2 s2 hv => hr y ey H2 (f1.trans (Fr.same s2)) (d.same s2) _ fun vs H3 s3 hw => q _ H3 (s2.trans s3) ⟨v, vs, rfl, a.mono (Fr.same s3) hv, hw⟩
/-- the promise of a def that changes nothing -/
def spF (t : TyA K α) (R : AS → Rl γ) (f : α → Option γ) : Sp := fun vs H Q _ => ∃ S x z, Dom S H ∧ t.rp S H vs x ∧ f x = some z ∧ ∀ u H', Same H H' → (R S).r H H' u z → Q u H'
theorem ev_call {ta : TA} {t : TyA K α} {R : AS → Rl γ} {f : α → Option γ} {r : Option α} {E : XK} (h : EvA S T ta σ H t r) : Ev S T (tCall (spF t R f) [] E ta) σ H (R S) (bd r f) := by
  intro z e H1 f1 d Q q
  obtain ⟨x, ex, e⟩ := bd_some e
  refine h x ex H1 f1 d _ fun vs H2 s2 hv => ⟨S, x, z, d.same s2, ?_, e, fun u H' s hu => q u H' (s2.trans s) ((R S).same s2 hu)⟩
  rw [List.append_nil]
  exact hv
/-! displays -/
theorem ev_tup2 {ra : Option α} {rb : Option β} (ha : Ev S T ta σ H (of a S) ra) (hb : Ev S T tb σ H (of b S) rb) : Ev S T (tTup (tCons ta (tCons tb tNil))) σ H (of (tT2 a b) S) (bd ra fun x => bd rb fun y => some (x, y)) := by
  intro z e H1 f1 d Q q
  obtain ⟨x, ex, e⟩ := bd_some e
  obtain ⟨y, ey, e⟩ := bd_some e
  cases e
  refine ha x ex H1 f1 d _ fun v H2 s2 hv => hb y ey H2 (f1.trans (Fr.same s2)) (d.same s2) _ fun w H3 s3 hw => ⟨(by show 2 ≤ sizeLine; decide), fun p hp => ?_⟩
  have s4 := same_new (o := .tup [v, w]) hp
  exact q _ _ (s2.trans (s3.trans s4)) ⟨p, v, w, rfl, .inl ⟨.inl upd_same, ((d.same s2).same s3).not_mem hp⟩, a.mono (Fr.same (s3.trans s4)) hv, b.mono (Fr.same s4) hw⟩
end
end M

namespace M
open PySem L2
section
variable {K : PySem.W.Frag} {α β γ δ ε ρ : Type} {S T : AS} {σ : St} {H : Hp} {ta tb te : TE} {tt tu : TT} {a : Ty K α} {b : Ty K β} {c : Ty K γ} {D : Ends} {u t1 t2 : TS}
theorem if_t {A B : Option α} {y : α} (h : (if true = true then A else B) = some y) : A = some y := h
theorem if_f {A B : Option α} {y : α} (h : (if false = true then A else B) = some y) : B = some y := h
theorem q_asg {R : Rl α} {r : Option α} {x : α} {i : Nat} (d : Dom S H) (h : Ev S T te σ H R r) (e : r = some x) (k : ∀ v H1, Same H H1 → R.r H H1 v x → u D (σ.set i (some v)) H1) : tSeq (tAsg te (gName i)) u D σ H := h x e H (Fr.refl _) d _ k
theorem l_asg {R : Rl α} {r : Option α} {x : α} {i : Nat} (d : Dom S H) (h : Ev S T te σ H R r) (e : r = some x) (k : ∀ v H1, Same H H1 → R.r H H1 v x → D.nx (σ.set i (some v)) H1) : tAsg te (gName i) D σ H := h x e H (Fr.refl _) d _ k
theorem q_ret {R : Rl α} {r : Option α} {x : α} (d : Dom S H) (h : Ev S T te σ H R r) (e : r = some x) (k : ∀ v H1, Same H H1 → R.r H H1 v x → D.rt v H1) : tRet te D σ H := h x e H (Fr.refl _) d _ k
theorem l_if {r : Option Bool} {b : Bool} (d : Dom S H) (h : EvB S T tt σ H r) (e : r = some b) (k1 : b = true → ∀ H1, Same H H1 → t1 D σ H1) (k2 : b = false → ∀ H1, Same H H1 → t2 D σ H1) : tIfS tt t1 t2 D σ H := h b e H (Fr.refl _) d _ fun H1 s => by
  cases b with
  | true => exact k1 rfl H1 s
  | false => exact k2 rfl H1 s
theorem q_if {r : Option Bool} {b : Bool} (d : Dom S H) (h : EvB S T tt σ H r) (e : r = some b) (k1 : b = true → ∀ H1, Same H H1 → t1 { D with nx := u D } σ H1) (k2 : b = false → ∀ H1, Same H H1 → t2 { D with nx := u D } σ H1) : tSeq (tIfS tt t1 t2) u D σ H := l_if (D := { D with nx := u D }) d h e k1 k2
theorem q_next {u : TS} {D : Ends} {σ : St} {H : Hp} (h : u D σ H) : tNext { D with nx := u D } σ H := h
theorem l_next (h : D.nx σ H) : tNext D σ H := h
theorem seq_by {t u : TS} (Pv : St → Hp → Prop) (h2 : ∀ σ H, Pv σ H → u D σ H) (h1 : (∀ σ H, Pv σ H → u D σ H) → t { D with nx := u D } σ H) : tSeq t u D σ H := h1 h2
/-- two names at once: a, b = e, f -/
theorem q_par {i j : Nat} {ra : Option α} {rb : Option β} {x : α} {y : β} (d : Dom S H) (ha : Ev S T ta σ H (of a S) ra) (ea : ra = some x) (hb : Ev S T tb σ H (of b S) rb) (eb : rb = some y) (k : ∀ v w H1, Same H H1 → a.rp S H1 v x → b.rp S H1 w y → u D ((σ.set i (some v)).set j (some w)) H1) :
    tSeq (tPar i j (tCons ta (tCons tb tNil))) u D σ H := ha x ea H (Fr.refl _) d _ fun v H1 s1 hv => hb y eb H1 (Fr.same s1) (d.same s1) _ fun w H2 s2 hw => ⟨v, w, rfl, k v w H2 (s1.trans s2) (a.mono (Fr.same s2) hv) hw⟩

theorem q_par2 {i j : Nat} {ra : Option α} {rb : Option β} {x : α} {y : β} (d : Dom S H) (ha : Ev S T ta σ H (of a S) ra) (ea : ra = some x) (hb : Ev S T tb σ H (of b S) rb) (eb : rb = some y) (k : ∀ v w H1, Same H H1 → a.rp S H1 v x → b.rp S H1 w y → u D ((σ.set i (some v)).set j (some w)) H1) :
    tSeq (tAsg (tTup (tCons ta (tCons tb tNil))) (gTup K 2 (gCons (gName i) (gCons (gName j) gNil)))) u D σ H := ha x ea H (Fr.refl _) d _ fun v H1 s1 hv => hb y eb H1 (Fr.same s1) (d.same s1) _ fun w H2 s2 hw => ⟨(by show 2 ≤ sizeLine; decide), fun p hp =>
  ⟨p, _, rfl, .inl (.inl upd_same), rfl, v, _, rfl, w, _, rfl, rfl, k v w _ ((s1.trans s2).trans (same_new hp)) (a.mono (Fr.same (s2.trans (same_new hp))) hv) (b.mono (Fr.same (same_new hp)) hw)⟩⟩
/-! ### loops -/
/-- one turn's end: go on, or tell y -/
inductive Ct (ρ σ : Type) where
  | go (s : σ) | ret (y : ρ) | brk (s : σ)
def loopC (f : δ → α → Option (Ct ρ δ)) : List α → δ → Option (Ct ρ δ)
  | [], s => some (.go s)
  | x :: xs, s => (f s x).bind fun r => match r with | .go s' => loopC f xs s' | .ret y => some (.ret y) | .brk s' => some (.go s')
def rngL (lo : Int) (n : Nat) : List Int := (List.range n).map fun (i : Nat) => lo + (i : Int)
def rngP (i : Int) : Bool := Nat.ble i.natAbs 4611686018427387903
theorem rngP_le {i : Int} (h : rngP i = true) : -(2 ^ 62) ≤ i ∧ i < 2 ^ 62 := by
  have h2 : i.natAbs ≤ 4611686018427387903 := Nat.le_of_ble_eq_true h
  omega
def rng1? (n : Int) : Option (List Int) := if rngP n then some (rngL 0 n.toNat) else none
def rng2? (lo n : Int) : Option (List Int) := if rngP lo && rngP n then some (rngL lo (n - lo).toNat) else none
/-- what is walked: xs, by their values at the heap H0, while nothing of it changes -/
structure Wk (J : It) (a : Ty K α) (S : AS) (H0 : Hp) (xs : List α) : Prop where
  go : ∀ H' i, Fr S H0 H' → i < xs.length → J.go i H'
  yl : ∀ H' i v H'', Fr S H0 H' → J.yld i H' v H'' → ∀ y, xs[i]? = some y → H'' = H' ∧ a.rp S H0 v y
  st : ∀ H' i, Fr S H0 H' → xs.length ≤ i → J.stop i H'
def Sr (S T : AS) (wi : TI) (σ : St) (H : Hp) (a : Ty K α) (r : Option (List α)) : Prop :=
  ∀ xs, r = some xs → ∀ H1, Fr T H H1 → Dom S H1 → ∀ R : It → Hp → Prop, (∀ J H2, Same H1 H2 → Wk J a S H2 xs → R J H2) → wi σ H1 R
theorem wk_list {p : Addr} {vs : List V} {xs : List α} {S : AS} {H : Hp} (hp : nL K S H p vs) (ha : All2 (a.rp S H) vs xs) : Wk (Itl K p) a S H xs where
  go H' i f hi := by
    obtain ⟨v, hv, _⟩ := ha.get i (List.getElem?_eq_getElem hi)
    exact ⟨vs, v, (hp.mono f).sq, hv⟩
  yl H' i v H'' f h y hy := by
    obtain ⟨w, hw, hr⟩ := ha.get i hy
    obtain ⟨e, hx⟩ := h
    have := hx vs (hp.mono f).sq
    rw [hw] at this
    cases this
    exact ⟨e, hr⟩
  st H' i f hi := ⟨vs, (hp.mono f).sq, by rw [ha.len]; exact hi⟩
theorem wk_tup {p : Addr} {vs : List V} {xs : List α} {S : AS} {H : Hp} (hp : nT K S H p vs) (ha : All2 (a.rp S H) vs xs) : Wk (Itt K p) a S H xs where
  go H' i f hi := by
    obtain ⟨v, hv, _⟩ := ha.get i (List.getElem?_eq_getElem hi)
    exact ⟨vs, v, (hp.mono f).sq, hv⟩
  yl H' i v H'' f h y hy := by
    obtain ⟨w, hw, hr⟩ := ha.get i hy
    obtain ⟨e, hx⟩ := h
    have := hx vs (hp.mono f).sq
    rw [hw] at this
    cases this
    exact ⟨e, hr⟩
  st H' i f hi := ⟨vs, (hp.mono f).sq, by rw [ha.len]; exact hi⟩
theorem wk_rng {lo : Int} {n : Nat} {S : AS} {H : Hp} : Wk (Itr lo n) (tInt (K := K)) S H (rngL lo n) where
  go H' i f hi := by
    show i < n
    simpa [rngL] using hi
  yl H' i v H'' f h y hy := by
    obtain ⟨e, hx⟩ := h
    refine ⟨e, ?_⟩
    unfold rngL at hy
    rw [List.getElem?_map] at hy
    cases q : (List.range n)[i]? with
    | none => rw [q] at hy; cases hy
    | some k =>
      rw [q] at hy
      cases hy
      have : k = i := by
        have := (List.getElem?_eq_some_iff.mp q).2
        simp at this
        omega
      subst this
      exact hx
  st H' i f hi := by
    show n ≤ i
    simpa [rngL] using hi
theorem sr_list {tl : TE} {r : Option (List α)} (h : Ev S T tl σ H (of (tL a) S) r) : Sr S T (iList K tl) σ H a r := fun xs e H1 f d R q =>
  h xs e H1 f d _ fun v H2 s ⟨p, vs, ev, hp, ha⟩ => ⟨p, ev, ⟨vs, hp.sq⟩, q _ H2 s (wk_list hp ha)⟩
theorem sr_tup {tl : TE} {r : Option (List α)} (h : Ev S T tl σ H (of (tTs a) S) r) : Sr S T (iTup K tl) σ H a r := fun xs e H1 f d R q =>
  h xs e H1 f d _ fun v H2 s ⟨p, vs, ev, hp, ha⟩ => ⟨p, ev, ⟨vs, hp.sq⟩, q _ H2 s (wk_tup hp ha)⟩
theorem sr_t2 {tl : TE} {r : Option (α × α)} (h : Ev S T tl σ H (of (tT2 a a) S) r) : Sr S T (iTup K tl) σ H a (bd r fun x => some [x.1, x.2]) := fun xs e H1 f d R q => by
  obtain ⟨x, ex, e⟩ := bd_some e
  cases e
  exact h x ex H1 f d _ fun v H2 s ⟨p, u, w, ev, hp, h1, h2⟩ => ⟨p, ev, ⟨_, hp.sq⟩, q _ H2 s (wk_tup hp (.cons h1 (.cons h2 .nil)))⟩
theorem sr_r1 {te : TE} {r : Option Int} (h : Ev S T te σ H (of (K := K) tInt S) r) : Sr S T (iRng1 (tCons te tNil)) σ H (tInt (K := K)) (bd r rng1?) := fun xs e H1 f d R q => by
  obtain ⟨n, en, e⟩ := bd_some e
  unfold rng1? at e
  split at e
  · rename_i hn
    cases e
    have hb := rngP_le hn
    refine h n en H1 f d _ fun v H2 s hv => ?_
    cases hv
    exact ⟨n, rfl, hb.1, hb.2, q _ H2 s wk_rng⟩
  · cases e
theorem sr_r2 {te tg : TE} {r r' : Option Int} (h : Ev S T te σ H (of (K := K) tInt S) r) (h' : Ev S T tg σ H (of (K := K) tInt S) r') : Sr S T (iRng2 (tCons te (tCons tg tNil))) σ H (tInt (K := K)) (bd r fun x => bd r' fun y => rng2? x y) := fun xs e H1 f d R q => by
  obtain ⟨lo, el, e⟩ := bd_some e
  obtain ⟨n, en, e⟩ := bd_some e
  unfold rng2? at e
  split at e
  · rename_i hn
    cases e
    rw [Bool.and_eq_true] at hn
    have hb := rngP_le hn.1
    have hc := rngP_le hn.2
    refine h lo el H1 f d _ fun v H2 s hv => h' n en H2 (f.trans (Fr.same s)) (d.same s) _ fun v' H3 s3 hv' => ?_
    cases hv
    cases hv'
    exact ⟨lo, n, rfl, ⟨hb.1, hb.2, hc.1, hc.2⟩, q _ H3 (s.trans s3) wk_rng⟩
  · cases e
/-- a walk; I: what is known of the state at each turn -/
theorem for_s {wi : TI} {j : Nat} {tb : TS} {r : Option (List α)} {xs : List α} {s0 : δ} {f : δ → α → Option (Ct ρ δ)} {res : Ct ρ δ} (d : Dom S H) (h : Sr S T wi σ H a r) (e : r = some xs) (hf : loopC f xs s0 = some res)
    (I : δ → St → Hp → Prop) (h0 : ∀ H1, Same H H1 → I s0 σ H1)
    (step : (∀ s σ' H', res = .go s → I s σ' H' → D.nx σ' H') → ∀ (s : δ) (x : α) (cr : Ct ρ δ) (v : V) (σ' : St) (H' : Hp), I s σ' H' → a.rp S H' v x → x ∈ xs → f s x = some cr → (∀ y, cr = .ret y → res = .ret y) → (∀ s', cr = .brk s' → res = .go s') →
      tb { D with nx := fun σ2 H2 => ∃ s', cr = .go s' ∧ Fr S H' H2 ∧ I s' σ2 H2, ct := fun σ2 H2 => ∃ s', cr = .go s' ∧ Fr S H' H2 ∧ I s' σ2 H2, bk := D.nx } (σ'.set j (some v)) H')
    (done : ∀ s σ' H', res = .go s → I s σ' H' → D.nx σ' H') : tFor wi (gName j) tb D σ H := by
  refine h xs e H (Fr.refl _) d _ fun J H1 s1 wk => ?_
  refine ⟨fun i m σ' H' => m = xs.length - i ∧ i ≤ xs.length ∧ Fr S H1 H' ∧ ∃ s, I s σ' H' ∧ loopC f (xs.drop i) s = some res, ⟨_, rfl, Nat.zero_le _, Fr.refl _, s0, h0 H1 s1, hf⟩, ?_⟩
  rintro i m σ' H' ⟨rfl, hi, fr, s, hI, hl⟩
  by_cases c : i < xs.length
  · right
    rw [List.drop_eq_getElem_cons c] at hl
    simp only [loopC] at hl
    cases q : f s xs[i] with
    | none => rw [q] at hl; cases hl
    | some cr =>
      rw [q] at hl
      refine ⟨wk.go H' i fr c, fun σ2 H2 => ∃ s', cr = .go s' ∧ Fr S H' H2 ∧ I s' σ2 H2, ?_, ?_⟩
      · rintro σ2 H2 ⟨s', rfl, f2, hI'⟩
        exact ⟨xs.length - (i + 1), by omega, rfl, by omega, fr.trans f2, s', hI', hl⟩
      · intro v H2 hy
        obtain ⟨rfl, hv⟩ := wk.yl H' i v H2 fr hy _ (List.getElem?_eq_getElem c)
        exact step done s xs[i] cr v σ' _ hI (a.mono fr hv) (List.getElem_mem c) q (fun y ey => by subst ey; cases hl; rfl) (fun s' ey => by subst ey; cases hl; rfl)
  · left
    refine ⟨wk.st H' i fr (by omega), ?_⟩
    rw [List.drop_eq_nil_of_le (by omega)] at hl
    cases hl
    exact done s σ' H' rfl hI
theorem q_for_s {wi : TI} {j : Nat} {tb : TS} {r : Option (List α)} {xs : List α} {s0 : δ} {f : δ → α → Option (Ct ρ δ)} {res : Ct ρ δ} (d : Dom S H) (h : Sr S T wi σ H a r) (e : r = some xs) (hf : loopC f xs s0 = some res)
    (I : δ → St → Hp → Prop) (h0 : ∀ H1, Same H H1 → I s0 σ H1)
    (step : (∀ s σ' H', res = .go s → I s σ' H' → u D σ' H') → ∀ (s : δ) (x : α) (cr : Ct ρ δ) (v : V) (σ' : St) (H' : Hp), I s σ' H' → a.rp S H' v x → x ∈ xs → f s x = some cr → (∀ y, cr = .ret y → res = .ret y) → (∀ s', cr = .brk s' → res = .go s') →
      tb { D with nx := fun σ2 H2 => ∃ s', cr = .go s' ∧ Fr S H' H2 ∧ I s' σ2 H2, ct := fun σ2 H2 => ∃ s', cr = .go s' ∧ Fr S H' H2 ∧ I s' σ2 H2, bk := u D } (σ'.set j (some v)) H')
    (done : ∀ s σ' H', res = .go s → I s σ' H' → u D σ' H') : tSeq (tFor wi (gName j) tb) u D σ H := for_s (D := { D with nx := u D }) d h e hf I h0 step done
/-! slices of lists -/
def cutD (xs : List α) (lo hi : Option Int) : List α := (xs.drop (HT.sIx xs.length 0 lo)).take (HT.sIx xs.length xs.length hi - HT.sIx xs.length 0 lo)
theorem All2.cut {F : V → α → Prop} {vs : List V} {xs : List α} (h : All2 F vs xs) (lo hi : Option Int) : All2 F (cutV vs lo hi) (cutD xs lo hi) := by
  unfold cutV cutD
  rw [h.len]
  exact (h.drop _).take _
def EvO (S T : AS) (to : TO) (σ : St) (H : Hp) (r : Option (Option Int)) : Prop :=
  ∀ x, r = some x → ∀ H1, Fr T H H1 → Dom S H1 → ∀ Q : Option Int → Hp → Prop, (∀ H2, Same H1 H2 → Q x H2) → to σ H1 Q
theorem eo_none : EvO S T tNoPart σ H (some none) := fun x e H1 f d Q q => by cases e; exact q H1 (Same.refl _)
theorem eo_some {r : Option Int} (h : Ev S T te σ H (of (K := K) tInt S) r) : EvO S T (tPart te) σ H (bd r fun i => some (some i)) := fun x e H1 f d Q q => by
  obtain ⟨i, ei, e⟩ := bd_some e
  cases e
  exact h i ei H1 f d _ fun v H2 s hv => ⟨i, hv, q H2 s⟩
theorem ev_slL {tl th : TO} {ra : Option (List α)} {rl rh : Option (Option Int)} (ha : Ev S T ta σ H (of (tL a) S) ra) (hl : EvO S T tl σ H rl) (hh : EvO S T th σ H rh) :
    Ev S T (tSl (rSlL K) ta tl th) σ H (nw a S) (bd ra fun xs => bd rl fun l => bd rh fun h => some (cutD xs l h)) := by
  intro z e H1 f1 d Q q
  obtain ⟨xs, ex, e⟩ := bd_some e
  obtain ⟨l, el, e⟩ := bd_some e
  obtain ⟨h, eh, e⟩ := bd_some e
  cases e
  refine ha xs ex H1 f1 d _ fun v H2 s2 hv => hl l el H2 (f1.trans (Fr.same s2)) (d.same s2) _ fun H3 s3 => hh h eh H3 (f1.trans (Fr.same (s2.trans s3))) (d.same (s2.trans s3)) _ fun H4 s4 => ?_
  obtain ⟨p, vs, rfl, hp, hvs⟩ := (tL a).mono (Fr.same (s3.trans s4)) hv
  refine ⟨p, vs, rfl, hp.sq, fun p' hp' => q _ _ ((s2.trans (s3.trans s4)).trans (same_new hp')) ⟨p', rfl, (s2.trans (s3.trans s4)).free hp', _, upd_same, ?_⟩⟩
  exact (hvs.cut l h).imp fun _ _ hh => a.mono (Fr.same (same_new hp')) (a.ext hp' hh)
end
end M

namespace M
open PySem L2
section
variable {K : PySem.W.Frag} {α β γ δ ε ρ : Type} {S T : AS} {σ : St} {H : Hp} {ta tb te : TE} {tt tu : TT} {a : Ty K α} {b : Ty K β} {c : Ty K γ} {D : Ends} {u t1 t2 : TS}
/-! ### ratios -/
/-- a pair of numbers as a ratio -/
def p2r (x : Int × Int) : Option Rat := if (mkRat x.1 x.2.toNat).num = x.1 ∧ ((mkRat x.1 x.2.toNat).den : Int) = x.2 then some (mkRat x.1 x.2.toNat) else none
theorem p2r_rat (q : Rat) : p2r (q.num, (q.den : Int)) = some q := by
  unfold p2r
  simp only [Int.toNat_natCast, Rat.mkRat_self, and_self, if_true]
theorem ev_p2r {r : Option (Int × Int)} (h : Ev S T te σ H (of (K := K) (tT2 tInt tInt) S) r) : Ev S T te σ H (of (K := K) tRat S) (bd r p2r) := ev_as h fun x y e H1 H2 v d ⟨p, u, w, ev, hp, h1, h2⟩ => by
  unfold p2r at e
  split at e
  · rename_i hc
    cases e
    refine ⟨p, ev, ?_⟩
    rw [hc.1, hc.2, ← h1, ← h2]
    exact hp
  · cases e
/-- a ratio as a pair of numbers -/
theorem ev_r2p {r : Option Rat} (h : Ev S T te σ H (of (K := K) tRat S) r) : Ev S T te σ H (of (K := K) (tT2 tInt tInt) S) (bd r fun q => some (q.num, (q.den : Int))) := ev_as h fun x y e H1 H2 v d ⟨p, ev, hp⟩ => by
  cases e
  exact ⟨p, _, _, ev, hp, rfl, rfl⟩
/-! ints -/
theorem ev_neg {r : Option Int} (h : Ev S T te σ H (of (K := K) tInt S) r) : Ev S T (tUn (rU fun i => .int (-i)) te) σ H (of (K := K) tInt S) (bd r fun x => some (-x)) := by
  intro z e H1 f1 d Q q
  obtain ⟨x, ex, e⟩ := bd_some e
  cases e
  exact h x ex H1 f1 d _ fun v H2 s hv => ⟨x, hv, q _ H2 s rfl⟩
theorem ev_abs {r : Option Int} (h : Ev S T te σ H (of (K := K) tInt S) r) : Ev S T (tCB (fun xs H Q => ∃ i, xs = [.int i] ∧ Q (.int (if i < 0 then -i else i)) H) (tCons te tNil)) σ H (of (K := K) tInt S) (bd r fun x => some ((x.natAbs : Nat) : Int)) := by
  intro z e H1 f1 d Q q
  obtain ⟨x, ex, e⟩ := bd_some e
  cases e
  refine h x ex H1 f1 d _ fun v H2 s hv => ?_
  cases hv
  exact ⟨x, rfl, q _ H2 s (by show V.int _ = V.int _; congr 1; split <;> omega)⟩
def fdivP (j : Int) : Bool := decide (j ≠ 0 ∧ j.natAbs.log2 < 9000)
def fdiv? (i j : Int) : Option Int := if fdivP j then some (i.fdiv j) else none
/-! len -/
theorem ev_lenL {r : Option (List α)} (h : Ev S T te σ H (of (tL a) S) r) : Ev S T (tCB (fun xs H Q => ∃ p ys, xs = [.ref p] ∧ (SqL K H p ys ∨ SqT K H p ys) ∧ Q (.int ys.length) H) (tCons te tNil)) σ H (of (K := K) tInt S) (bd r fun x => some (x.length : Int)) := by
  intro z e H1 f1 d Q q
  obtain ⟨x, ex, e⟩ := bd_some e
  cases e
  refine h x ex H1 f1 d _ fun v H2 s hv => ?_
  obtain ⟨p, vs, rfl, hp, ha⟩ := hv
  exact ⟨p, vs, rfl, .inl hp.sq, q _ H2 s (by show V.int _ = V.int _; rw [ha.len])⟩
theorem ev_lenTs {r : Option (List α)} (h : Ev S T te σ H (of (tTs a) S) r) : Ev S T (tCB (fun xs H Q => ∃ p ys, xs = [.ref p] ∧ (SqL K H p ys ∨ SqT K H p ys) ∧ Q (.int ys.length) H) (tCons te tNil)) σ H (of (K := K) tInt S) (bd r fun x => some (x.length : Int)) := by
  intro z e H1 f1 d Q q
  obtain ⟨x, ex, e⟩ := bd_some e
  cases e
  refine h x ex H1 f1 d _ fun v H2 s hv => ?_
  obtain ⟨p, vs, rfl, hp, ha⟩ := hv
  exact ⟨p, vs, rfl, .inr hp.sq, q _ H2 s (by show V.int _ = V.int _; rw [ha.len])⟩
/-! == of things by what they stand for -/
structure TyD (a : Ty K α) where
  dt : α → PyData
  dep : Nat
  dp : ∀ {S H v x}, a.rp S H v x → Dp K H v (dt x)
  shp : ∀ {S H v x}, a.rp S H v x → PyData.canLay0 (dt x) = true
  hd : ∀ x, PyData.depth (dt x) ≤ dep
  eqv : ∀ x y, PyData.eqv (dt x) (dt y) = true ↔ x = y
def dInt : TyD (K := K) tInt := ⟨.int, 0, fun h => by cases h; exact .int _, fun _ => rfl, fun _ => Nat.le_refl _, fun x y => by simp [PyData.eqv]⟩
def dBool : TyD (K := K) tBool := ⟨.bool, 0, fun h => by cases h; exact .bl _, fun _ => rfl, fun _ => Nat.le_refl _, fun x y => by simp [PyData.eqv]⟩
def dStr : TyD (K := K) tStr := ⟨.str, 0, fun h => by rw [h.1]; exact .str _, fun h => h.2, fun _ => Nat.le_refl _, fun x y => by simp [PyData.eqv]⟩
def dNone : TyD (K := K) tNone := ⟨fun _ => .none, 0, fun h => by cases h; exact .non, fun _ => rfl, fun _ => Nat.le_refl _, fun x y => by simp [PyData.eqv]⟩
theorem dpAll {a : Ty K α} (d : TyD a) {S : AS} {H : Hp} : ∀ {vs : List V} {xs : List α}, All2 (a.rp S H) vs xs → DpAll K H vs (xs.map d.dt)
  | _, _, .nil => .nil
  | _, _, .cons h r => .cons (d.dp h) (dpAll d r)
theorem shpAll {a : Ty K α} (d : TyD a) {S : AS} {H : Hp} : ∀ {vs : List V} {xs : List α}, All2 (a.rp S H) vs xs → PyData.canLayAll0 (xs.map d.dt) = true
  | _, _, .nil => rfl
  | _, x :: r, .cons h q => by
    show (PyData.canLay0 (d.dt x) && PyData.canLayAll0 (r.map d.dt)) = true
    rw [d.shp h, shpAll d q]
    rfl
theorem depAll {a : Ty K α} (d : TyD a) : ∀ xs : List α, PyData.depthAll (xs.map d.dt) ≤ d.dep
  | [] => Nat.zero_le _
  | x :: r => by
    show max (PyData.depth (d.dt x)) (PyData.depthAll (r.map d.dt)) ≤ d.dep
    exact Nat.max_le.mpr ⟨d.hd x, depAll d r⟩
theorem eqvAll {a : Ty K α} (d : TyD a) : ∀ xs ys : List α, PyData.eqvAll (xs.map d.dt) (ys.map d.dt) = true ↔ xs = ys
  | [], [] => by simp [PyData.eqvAll]
  | x :: r, [] => by simp [PyData.eqvAll]
  | [], y :: r => by simp [PyData.eqvAll]
  | x :: r, y :: q => by
    show (PyData.eqv (d.dt x) (d.dt y) && PyData.eqvAll (r.map d.dt) (q.map d.dt)) = true ↔ _
    rw [Bool.and_eq_true, d.eqv, eqvAll d r q]
    simp
def dL {a : Ty K α} (d : TyD a) : TyD (tL a) := ⟨fun xs => .list (xs.map d.dt), d.dep + 1, fun ⟨p, vs, e, hp, h⟩ => by subst e; exact .lst hp.sq (dpAll d h), fun ⟨p, vs, e, hp, h⟩ => shpAll d h, fun x => Nat.succ_le_succ (depAll d x), fun x y => eqvAll d x y⟩
def dTs {a : Ty K α} (d : TyD a) : TyD (tTs a) := ⟨fun xs => .tuple (xs.map d.dt), d.dep + 1, fun ⟨p, vs, e, hp, h⟩ => by subst e; exact .tup hp.sq (dpAll d h), fun ⟨p, vs, e, hp, h⟩ => shpAll d h, fun x => Nat.succ_le_succ (depAll d x), fun x y => eqvAll d x y⟩
def dT2 {a : Ty K α} {b : Ty K β} (d : TyD a) (e : TyD b) : TyD (tT2 a b) := ⟨fun x => .tuple [d.dt x.1, e.dt x.2], max d.dep e.dep + 1, fun ⟨p, u, w, z, hp, h1, h2⟩ => by subst z; exact .tup hp.sq (.cons (d.dp h1) (.cons (e.dp h2) .nil)),
  fun {S H v x} ⟨p, u, w, z, hp, h1, h2⟩ => by
    show (PyData.canLay0 (d.dt x.1) && (PyData.canLay0 (e.dt x.2) && true)) = true
    rw [d.shp h1, e.shp h2]
    rfl,
  fun x => by
    show max (PyData.depth (d.dt x.1)) (max (PyData.depth (e.dt x.2)) 0) + 1 ≤ _
    have h1 := d.hd x.1
    have h2 := e.hd x.2
    omega,
  fun x y => by
    show (PyData.eqv (d.dt x.1) (d.dt y.1) && (PyData.eqv (e.dt x.2) (e.dt y.2) && true)) = true ↔ _
    rw [Bool.and_true, Bool.and_eq_true, d.eqv, e.eqv]
    exact ⟨fun h => Prod.ext h.1 h.2, fun h => by subst h; exact ⟨rfl, rfl⟩⟩⟩
def dRat : TyD (K := K) tRat := ⟨fun q => .tuple [.int q.num, .int (q.den : Int)], 1, fun ⟨p, z, hp⟩ => by subst z; exact .tup hp.sq (.cons (.int _) (.cons (.int _) .nil)),
  fun _ => rfl, fun x => by show max 0 (max 0 0) + 1 ≤ 1; decide,
  fun x y => by
    show ((x.num == y.num) && (((x.den : Int) == (y.den : Int)) && true)) = true ↔ _
    rw [Bool.and_true, Bool.and_eq_true, beq_iff_eq, beq_iff_eq]
    exact ⟨fun h => Rat.ext h.1 (by omega), fun h => by subst h; exact ⟨rfl, rfl⟩⟩⟩
abbrev dSpot : TyD (K := K) tSpot := dT2 dRat dRat
theorem TyD.shaped {a : Ty K α} (d : TyD a) (h : d.dep ≤ 64) {S : AS} {H : Hp} {v : V} {x : α} (r : a.rp S H v x) : SeqAt.shaped (d.dt x) = true := by
  unfold SeqAt.shaped
  rw [d.shp r, Bool.true_and]
  exact decide_eq_true (Nat.le_trans (d.hd x) h)
theorem TyD.dec {a : Ty K α} [DecidableEq α] (d : TyD a) (x y : α) : PyData.eqv (d.dt x) (d.dt y) = decide (x = y) := by
  by_cases h : x = y
  · rw [(d.eqv x y).mpr h, decide_eq_true h]
  · rw [decide_eq_false h]
    cases q : PyData.eqv (d.dt x) (d.dt y) with
    | false => rfl
    | true => exact absurd ((d.eqv x y).mp q) h
theorem od_eqD {a : Ty K α} [DecidableEq α] (d : TyD a) (hd : d.dep ≤ 64) : OpD a a S (of (K := K) tBool S) (rEqD K) (fun x y => some (decide (x = y))) := by
  intro x y z e H1 v w dm hv hw Q q
  cases e
  refine ⟨_, _, d.dp hv, d.dp hw, d.shaped hd hv, d.shaped hd hw, ?_⟩
  rw [d.dec]
  exact q _ H1 (Same.refl _) rfl
theorem od_neD {a : Ty K α} [DecidableEq α] (d : TyD a) (hd : d.dep ≤ 64) : OpD a a S (of (K := K) tBool S) (rNeD K) (fun x y => some (!decide (x = y))) := by
  intro x y z e H1 v w dm hv hw Q q
  cases e
  refine ⟨_, _, d.dp hv, d.dp hw, d.shaped hd hv, d.shaped hd hw, ?_⟩
  rw [d.dec]
  exact q _ H1 (Same.refl _) rfl
end
end M

namespace G
open PySem L2
theorem gcd_fmod (a b : Int) : Int.gcd b (a.fmod b) = Int.gcd a b := by
  rw [Int.fmod_def, Int.sub_eq_add_neg, ← Int.mul_neg]
  rw [Int.gcd_add_mul_left_right]
  exact Int.gcd_comm b a
theorem fmod_abs_lt (a : Int) {b : Int} (h : b ≠ 0) : (a.fmod b).natAbs < b.natAbs := by
  rcases Int.lt_or_gt_of_ne h with h | h
  · have e : a.fmod b = -((-a).fmod (-b)) := by
      rw [Int.neg_fmod_neg]; omega
    have h1 := Int.fmod_nonneg_of_pos (-a) (show 0 < -b by omega)
    have h2 := Int.fmod_lt_of_pos (-a) (show 0 < -b by omega)
    omega
  · have h1 := Int.fmod_nonneg_of_pos a h
    have h2 := Int.fmod_lt_of_pos a h
    omega
theorem abs_if (x : Int) : (if x < 0 then -x else x) = ((x.natAbs : Nat) : Int) := by split <;> omega
def cOf (o u : Int) : Int := if u < 0 then -((Int.gcd o u : Nat) : Int) else ((Int.gcd o u : Nat) : Int)
def rN (o u : Int) : Int := o.fdiv (cOf o u)
def rD (o u : Int) : Int := u.fdiv (cOf o u)
def CDivZ (_ j : Int) : Prop := j ≠ 0 ∧ j.natAbs.log2 < 9000
theorem op_fdivZ {X : Cx} : OpR X (binaryOp .FloorDiv) (rI CDivZ fun i j => .int (i.fdiv j)) := opI fun _ _ _ _ _ _ _ hc q => PyProof.Rows.floordiv_int hc.1 q (.inl (PyProof.noPylong_of_log2 hc.2))
theorem cOf_ok {o u : Int} (h : u ≠ 0) (hb : u.natAbs < 2 ^ 9000) (x : Int) : CDivZ x (cOf o u) := by
  have g : 0 < Int.gcd o u := Int.gcd_pos_of_ne_zero_right o h
  have l : Int.gcd o u ≤ u.natAbs := Nat.le_of_dvd (by omega) (Int.gcd_dvd_natAbs_right o u)
  have n : (cOf o u).natAbs = Int.gcd o u := by
    unfold cOf
    split <;> omega
  refine ⟨fun z => ?_, ?_⟩
  · rw [z] at n
    simp at n
    omega
  · rw [n]
    exact PySem.Flt.log2_lt_of (by decide) (Nat.lt_of_le_of_lt l hb)
theorem pow9000 {n : Nat} (h : n < 2 ^ 200) : n < 2 ^ 9000 := Nat.lt_of_lt_of_le h (Nat.pow_le_pow_right (by decide) (by decide))
theorem small_le {n : Nat} (h : n ≤ 1000) : n ≤ sizeLine := Nat.le_of_lt (small1000 h)
theorem two {a b : V} : [a, b].length ≤ sizeLine := by
  show 2 ≤ sizeLine
  decide
theorem cOf_dl (o u : Int) : cOf o u ∣ o := by
  unfold cOf
  split
  · exact Int.neg_dvd.mpr (Int.gcd_dvd_left o u)
  · exact Int.gcd_dvd_left o u
theorem cOf_dr (o u : Int) : cOf o u ∣ u := by
  unfold cOf
  split
  · exact Int.neg_dvd.mpr (Int.gcd_dvd_right o u)
  · exact Int.gcd_dvd_right o u
theorem cOf_ne {o u : Int} (h : u ≠ 0) : cOf o u ≠ 0 := by
  have g : 0 < Int.gcd o u := Int.gcd_pos_of_ne_zero_right o h
  unfold cOf
  split <;> omega
theorem rN_eq (o u : Int) : cOf o u * rN o u = o := Int.mul_fdiv_cancel' (cOf_dl o u)
theorem rD_eq (o u : Int) : cOf o u * rD o u = u := Int.mul_fdiv_cancel' (cOf_dr o u)
theorem rD_pos {o u : Int} (h : u ≠ 0) : 0 < rD o u := by
  have e := rD_eq o u
  have g : 0 < Int.gcd o u := Int.gcd_pos_of_ne_zero_right o h
  unfold cOf at e
  generalize rD o u = d at e
  split at e
  · rename_i hu
    rcases (show 0 < d ∨ d ≤ 0 by omega) with hd | hd
    · exact hd
    · have z : 0 ≤ -((Int.gcd o u : Nat) : Int) * d := Int.mul_nonneg_of_nonpos_of_nonpos (by omega) hd
      omega
  · rcases (show 0 < d ∨ d ≤ 0 by omega) with hd | hd
    · exact hd
    · have z : ((Int.gcd o u : Nat) : Int) * d ≤ 0 := Int.mul_nonpos_of_nonneg_of_nonpos (by omega) hd
      omega
theorem le_of_mul_eq {c k o : Int} (hc : c ≠ 0) (e : c * k = o) : k.natAbs ≤ o.natAbs := by
  rw [← e, Int.natAbs_mul]
  exact Nat.le_mul_of_pos_left _ (by omega)
theorem rN_le {o u : Int} (h : u ≠ 0) : (rN o u).natAbs ≤ o.natAbs := le_of_mul_eq (cOf_ne h) (rN_eq o u)
theorem rD_le {o u : Int} (h : u ≠ 0) : (rD o u).natAbs ≤ u.natAbs := le_of_mul_eq (cOf_ne h) (rD_eq o u)
theorem rDiv {o u : Int} (h : 0 < u) : (rN o u).fdiv (rD o u) = o.fdiv u := by
  have c0 : 0 < cOf o u := by
    have g : 0 < Int.gcd o u := Int.gcd_pos_of_ne_zero_right o (by omega)
    unfold cOf
    split <;> omega
  have e := Int.mul_fdiv_mul_of_pos (rN o u) (rD o u) c0
  rw [rN_eq, rD_eq] at e
  exact e.symm
structure Bag (H : Hp) (b c : Addr) : Prop where
  ne : b ≠ c
  at_ : ∃ (ns : List Int) (slot seed : Int), H b = some (.lst [.ref c, .int slot, .int seed]) ∧ H c = some (.lst (ns.map V.int)) ∧ ns.length ≤ 63 ∧ 0 ≤ slot ∧ 0 ≤ seed ∧ seed < 2147483647
/-- all but what stands at b and c stands -/
def Kept (b c : Addr) (H H' : Hp) : Prop := ∀ p o, H p = some o → p ≠ b → p ≠ c → H' p = some o
theorem Kept.refl {b c : Addr} {H : Hp} : Kept b c H H := fun _ _ e _ _ => e
theorem Kept.trans {b c : Addr} {H H' H'' : Hp} (h : Kept b c H H') (h' : Kept b c H' H'') : Kept b c H H'' := fun p o e n m => h' p o (h p o e n m) n m
theorem kept_same {b c : Addr} {H H' : Hp} (h : Same H H') : Kept b c H H' := fun p o e _ _ => h p o e
theorem same_upd {H : Hp} {p : Addr} {o : HO} (h : H p = none) : Same H (upd H p o) := fun b x e => by
  rw [upd_ne (ne_of_none e h)]
  exact e
theorem Kept.upd {b c p : Addr} {H H' : Hp} {o : HO} (h : Kept b c H H') (hp : H' p = none) : Kept b c H (upd H' p o) := h.trans (kept_same (same_upd hp))
theorem Bag.same {H H' : Hp} {b c : Addr} (h : Bag H b c) (s : Same H H') : Bag H' b c := by
  obtain ⟨ne, ns, sl, sd, h1, h2, r⟩ := h
  exact ⟨ne, ns, sl, sd, s _ _ h1, s _ _ h2, r⟩
theorem Bag.upd {b c p : Addr} {H : Hp} {o : HO} (h : Bag H b c) (hp : H p = none) : Bag (upd H p o) b c := h.same (same_upd hp)
theorem Bag.off {H : Hp} {b c p : Addr} (h : Bag H b c) (hp : H p = none) : p ≠ b ∧ p ≠ c := by
  obtain ⟨_, ns, sl, sd, h1, h2, _⟩ := h
  exact ⟨(ne_of_none h1 hp).symm, (ne_of_none h2 hp).symm⟩
/-- a thing that is no list of the bag's -/
theorem Bag.tup {H : Hp} {b c p : Addr} {xs : List V} (h : Bag H b c) (hp : H p = some (.tup xs)) : p ≠ b ∧ p ≠ c := by
  obtain ⟨_, ns, sl, sd, h1, h2, _⟩ := h
  exact ⟨ne_of hp h1 (by intro z; cases z), ne_of hp h2 (by intro z; cases z)⟩
theorem seq_by {t u : TS} {D : Ends} {σ : St} {H : Hp} (Pv : St → Hp → Prop) (h2 : ∀ σ H, Pv σ H → u D σ H) (h1 : (∀ σ H, Pv σ H → u D σ H) → t { D with nx := u D } σ H) : tSeq t u D σ H := h1 h2
theorem seq_c {u : TS} {i : Nat} {v : V} {D : Ends} {σ : St} {H : Hp} (h : u D (σ.set i (some v)) H) : tSeq (tAsg (tC v) (gName i)) u D σ H := h
theorem seq_asg {te : TE} {u : TS} {i : Nat} {D : Ends} {σ : St} {H : Hp} (h : te σ H fun x H1 => u D (σ.set i (some x)) H1) : tSeq (tAsg te (gName i)) u D σ H := h
theorem seq_sub {te ta ti : TE} {r : TSet} {u : TS} {D : Ends} {σ : St} {H : Hp} (h : te σ H fun x H1 => gSub ta ti r x σ H1 fun σ' H' => u D σ' H') : tSeq (tAsg te (gSub ta ti r)) u D σ H := h
theorem seq_drop {te : TE} {u : TS} {D : Ends} {σ : St} {H : Hp} (h : te σ H fun _ H1 => u D σ H1) : tSeq (tDrop te) u D σ H := h
theorem next_u {u : TS} {D : Ends} {σ : St} {H : Hp} (h : u D σ H) : tNext { D with nx := u D } σ H := h
theorem nx_u {u : TS} {D : Ends} {rt : VK} {bk ct : St → Hp → Prop} {σ : St} {H : Hp} (h : u D σ H) : Ends.nx { nx := u D, rt := rt, bk := bk, ct := ct } σ H := h
theorem yes_ {σ : St} {H : Hp} {A B : Hp → Prop} (h : A H) : tYes σ H (fun b H3 => if b = true then A H3 else B H3) := by
  show if true = true then A H else B H
  exact iteT h
theorem int_at {ns : List Int} {i : Int} (h0 : 0 ≤ i) (h : i < (ns.length : Int)) : ∃ v : Int, atI (ns.map V.int) i = some (.int v) := by
  have ek : i = ((i.toNat : Nat) : Int) := by omega
  have hk : i.toNat < ns.length := by omega
  rw [ek]
  exact ⟨ns[i.toNat], atI_nat (by rw [List.getElem?_map, List.getElem?_eq_getElem hk] <;> rfl)⟩
theorem ix_at {n : Nat} {i : Int} (h0 : 0 ≤ i) (h : i < (n : Int)) : ixN n i = some i.toNat := by
  unfold ixN
  rw [if_pos h0, if_pos h]
theorem set_ints (ns : List Int) (j : Nat) (v : Int) : (ns.map V.int).set j (.int v) = (ns.set j v).map V.int := by
  rw [List.map_set]
theorem at_mem {xs : List V} {r : Int} (h0 : 0 ≤ r) (h : r < (xs.length : Int)) : ∃ v, v ∈ xs ∧ atI xs r = some v := by
  have hk : r.toNat < xs.length := by omega
  have e := atI_nat (xs := xs) (j := r.toNat) (List.getElem?_eq_getElem hk)
  rw [show ((r.toNat : Nat) : Int) = r by omega] at e
  exact ⟨_, List.getElem_mem hk, e⟩
theorem cut_ints (ns : List Int) (lo hi : Option Int) : ∃ ms : List Int, cutV (ns.map V.int) lo hi = ms.map V.int ∧ ms.length ≤ ns.length := by
  refine ⟨(ns.drop (HT.sIx (ns.map V.int).length 0 lo)).take (HT.sIx (ns.map V.int).length (ns.map V.int).length hi - HT.sIx (ns.map V.int).length 0 lo), ?_, ?_⟩
  · unfold cutV
    rw [List.map_take, List.map_drop]
  · rw [List.length_take, List.length_drop]
    omega
theorem ne_true {u : Int} (z : (!decide (V.int u = V.int 0)) = true) : u ≠ 0 := fun e => by
  subst e
  exact absurd z (by decide)
theorem ne_false {u : Int} (z : ¬ (!decide (V.int u = V.int 0)) = true) : u = 0 := by
  by_cases e : u = 0
  · exact e
  · exact absurd (show (!decide (V.int u = V.int 0)) = true by rw [decide_eq_false (fun q => e (V.int.inj q))]; rfl) z
def leS (a b : Str) : Prop := a.cps.toList ≤ b.cps.toList
theorem leS_trans {a b c : Str} (h : leS a b) (h' : leS b c) : leS a c := List.le_trans h h'
theorem leS_anti {a b : Str} (h : leS a b) (h' : leS b a) : a = b := by
  have e : a.cps.toList = b.cps.toList := List.le_antisymm h h'
  cases a
  cases b
  exact congrArg Str.mk (Array.toList_inj.mp e)
theorem ris_all : ∀ (l : List Str) (p : Str), PyProof.Rows.risingS p l = true → (∀ x ∈ l, leS p x) ∧ l.Pairwise leS
  | [], _, _ => ⟨(fun _ h => nomatch h), .nil⟩
  | x :: r, p, h => by
    unfold PyProof.Rows.risingS at h
    rw [Bool.and_eq_true, Bool.not_eq_true'] at h
    rw [PyProof.Rows.ltCps_eq] at h
    have hx : leS p x := of_decide_eq_false h.1
    obtain ⟨i1, i2⟩ := ris_all r x h.2
    refine ⟨fun y hy => ?_, List.pairwise_cons.mpr ⟨i1, i2⟩⟩
    rcases List.mem_cons.mp hy with rfl | hy
    · exact hx
    · exact leS_trans hx (i1 y hy)
theorem srt_pw : ∀ {l : List Str}, PyProof.Rows.sortedS l = true → l.Pairwise leS
  | [], _ => .nil
  | x :: r, h => List.pairwise_cons.mpr (ris_all r x h)
theorem srt_same {a b : List Str} (hp : a.Perm b) (ha : PyProof.Rows.sortedS a = true) (hb : PyProof.Rows.sortedS b = true) : a = b :=
  hp.eq_of_pairwise (fun _ _ _ _ h1 h2 => leS_anti h1 h2) (srt_pw ha) (srt_pw hb)
theorem srtI_same {a b : List Int} (hp : a.Perm b) (ha : a.Pairwise (· ≤ ·)) (hb : b.Pairwise (· ≤ ·)) : a = b :=
  hp.eq_of_pairwise (fun _ _ _ _ h1 h2 => Int.le_antisymm h1 h2) ha hb
theorem lay_all : ∀ {ds : List PyData}, (∀ d ∈ ds, d.canLay0 = true) → PyData.canLayAll0 ds = true
  | [], _ => rfl
  | d :: r, h => by
    unfold PyData.canLayAll0
    rw [h d List.mem_cons_self, lay_all fun x hx => h x (List.mem_cons_of_mem _ hx)]
    rfl
theorem depth_all : ∀ {ds : List PyData} {n : Nat}, (∀ d ∈ ds, d.depth ≤ n) → PyData.depthAll ds ≤ n
  | [], _, _ => Nat.zero_le _
  | d :: r, n, h => by
    unfold PyData.depthAll
    exact Nat.max_le.mpr ⟨h d List.mem_cons_self, depth_all fun x hx => h x (List.mem_cons_of_mem _ hx)⟩

/-! ### ratios of the program are Lean's -/
theorem gcd_rND {o u : Int} (h : u ≠ 0) : Int.gcd (rN o u) (rD o u) = 1 := by
  have g : 0 < Int.gcd o u := Int.gcd_pos_of_ne_zero_right o h
  have e : Int.gcd o u = (cOf o u).natAbs * Int.gcd (rN o u) (rD o u) := by
    rw [← Int.gcd_mul_left, rN_eq, rD_eq]
  have n : (cOf o u).natAbs = Int.gcd o u := by
    unfold cOf
    split <;> omega
  rw [n] at e
  exact (Nat.eq_of_mul_eq_mul_left g (by rw [Nat.mul_one]; exact e)).symm
theorem rat_rND {o u : Int} (h : u ≠ 0) : (Rat.divInt o u).num = rN o u ∧ ((Rat.divInt o u).den : Int) = rD o u := by
  have p := rD_pos (o := o) h
  have c : Nat.Coprime (rN o u).natAbs (rD o u).toNat := by
    have := gcd_rND (o := o) h
    unfold Int.gcd at this
    rw [show (rD o u).natAbs = (rD o u).toNat by omega] at this
    exact this
  have e : Rat.divInt o u = ⟨rN o u, (rD o u).toNat, by omega, c⟩ := by
    rw [Rat.mk_eq_divInt, Int.toNat_of_nonneg (by omega)]
    have e2 := @Rat.divInt_mul_left (rN o u) (rD o u) (cOf o u) (cOf_ne h)
    rw [rN_eq, rD_eq] at e2
    exact e2
  rw [e]
  exact ⟨rfl, by show (((rD o u).toNat : Nat) : Int) = _; omega⟩
end G


namespace M
open PySem L2
section
variable {K : PySem.W.Frag} {α β γ δ ε ρ : Type} {S T : AS} {σ : St} {H : Hp} {ta tb te : TE} {tt tu : TT} {a : Ty K α} {b : Ty K β} {c : Ty K γ} {D : Ends} {u t1 t2 : TS}
theorem if_and {g : Bool} {A : Option α} {y : α} (h : (if g then A else none) = some y) : g = true ∧ A = some y := by
  cases g with
  | true => exact ⟨rfl, h⟩
  | false => cases h
theorem sub_cons {p : Addr} {S S' : AS} (h : Sub S S') : Sub S (p :: S') := fun a m => List.mem_cons_of_mem _ (h a m)
theorem cons_sub {p : Addr} {S S' : AS} (h : p ∈ S') (h' : Sub S S') : Sub (p :: S) S' := fun a m => by
  rcases List.mem_cons.mp m with rfl | m
  · exact h
  · exact h' a m
theorem nwL.sub {c : Ty K α} {S S' T : AS} {H0 H H1 : Hp} {v : V} {xs : List α} (h : nwL c S H H1 v xs) (hs : Sub S' S) (f : Fr T H0 H) (d : Dom T H) : nwL c S' H0 H1 v xs := by
  obtain ⟨p, e, n, vs, hv, ha⟩ := h
  exact ⟨p, e, fr_back f d n, vs, hv, ha.imp fun _ _ => c.sub fun a m => by
    rcases List.mem_cons.mp m with rfl | m
    · exact List.mem_cons_self ..
    · exact List.mem_cons_of_mem _ (hs a m)⟩
theorem Own.same {c : Ty K α} {S : AS} {H H' : Hp} {p : Addr} {xs : List α} (h : Own c S H p xs) (s : Same H H') : Own c S H' p xs := by
  obtain ⟨vs, hv, ha⟩ := h
  exact ⟨vs, s _ _ hv, ha.imp fun _ _ => c.mono (Fr.same s)⟩
theorem Own.fr {c : Ty K α} {S T : AS} {H H' : Hp} {p : Addr} {xs : List α} (h : Own c S H p xs) (f : Fr T H H') (ts : Sub T S) (n : p ∉ T) : Own c S H' p xs := by
  obtain ⟨vs, hv, ha⟩ := h
  exact ⟨vs, f _ _ hv n, ha.imp fun _ _ => c.mono (f.sub ts)⟩
theorem Own.ext {c : Ty K α} {S : AS} {H : Hp} {p q : Addr} {xs : List α} (h : Own c S H p xs) (n : H q = none) : Own c (q :: S) H p xs := by
  obtain ⟨vs, hv, ha⟩ := h
  exact ⟨vs, hv, ha.imp fun _ _ => c.ext n⟩
theorem Own.ne {c : Ty K α} {S : AS} {H : Hp} {p q : Addr} {xs : List α} (h : Own c S H p xs) (n : H q = none) : p ≠ q := by
  obtain ⟨vs, hv, ha⟩ := h
  exact ne_of_none hv n
theorem Own.sub {c : Ty K α} {S S' : AS} {H : Hp} {p : Addr} {xs : List α} (h : Own c S H p xs) (hs : Sub S' S) : Own c S' H p xs := by
  obtain ⟨vs, hv, ha⟩ := h
  exact ⟨vs, hv, ha.imp fun _ _ => c.sub hs⟩
/-! items put behind an owned list -/
def app? (xs : List α) (x : α) : Option (List α) := if xs.length < 100000 then some (xs ++ [x]) else none
/-- all but p stands, and what p held is H1 p -/
structure Mut1 (p : Addr) (H H' : Hp) : Prop where
  k : ∀ a o, H a = some o → a ≠ p → H' a = some o
  p' : H' p ≠ none
theorem l_app {p : Addr} {xs ys : List α} {i : Nat} {r : Option α} {x : α} (d : Dom S H) (o : Own a S H p xs) (im : p ∈ S) (nt : p ∉ T) (ts : Sub T S) (hi : σ[i]? = some (some (.ref p))) (h : Ev S T te σ H (of a S) r) (e : r = some x) (f : app? xs x = some ys)
    (k : ∀ H1, Mut1 p H H1 → Fr S H H1 → Own a S H1 p ys → D.nx σ H1) : tDrop (tBM K "list" rAppend (tVar i) (tCons te tNil)) D σ H := by
  obtain ⟨vs, hv, ha⟩ := o
  unfold app? at f
  split at f
  · rename_i hl
    cases f
    refine ⟨_, hi, Or.inl ⟨rfl, vs, .inl (.inl hv)⟩, h x e H (Fr.refl _) d _ fun v H1 s1 hx => ?_⟩
    refine ⟨p, vs, v, rfl, rfl, s1 _ _ hv, Nat.lt_of_lt_of_le (by rw [ha.len]; exact hl) (by decide), ?_⟩
    have f1 : Fr S H1 (upd H1 p (.lst (vs ++ [v]))) := fr_upd im
    refine k _ ⟨fun b ob e n => by rw [upd_ne n]; exact s1 _ _ e, by rw [upd_same]; intro z; cases z⟩ ((Fr.same s1).trans f1) ⟨vs ++ [v], upd_same, ?_⟩
    exact ((ha.imp fun _ _ h => a.mono (Fr.same s1) h).snoc hx).imp fun _ _ h => a.mono f1 h
  · cases f
theorem q_app {p : Addr} {xs ys : List α} {i : Nat} {r : Option α} {x : α} (d : Dom S H) (o : Own a S H p xs) (im : p ∈ S) (nt : p ∉ T) (ts : Sub T S) (hi : σ[i]? = some (some (.ref p))) (h : Ev S T te σ H (of a S) r) (e : r = some x) (f : app? xs x = some ys)
    (k : ∀ H1, Mut1 p H H1 → Fr S H H1 → Own a S H1 p ys → u D σ H1) : tSeq (tDrop (tBM K "list" rAppend (tVar i) (tCons te tNil))) u D σ H := l_app (D := { D with nx := u D }) d o im nt ts hi h e f k
theorem Fr.mut {p : Addr} {H0 H H' : Hp} (f : Fr T H0 H) (d : Dom T H) (n : H0 p = none) (m : Mut1 p H H') : Fr T H0 H' := fun b o e nb => m.k b o (f b o e nb) (ne_of_none e n)
theorem Mut1.fr {p : Addr} {H H' : Hp} (m : Mut1 p H H') (h : p ∈ S) : Fr S H H' := fun b o e nb => m.k b o e fun z => nb (by rw [z]; exact h)
theorem Fr.mutN {p : Addr} {H0 H H' : Hp} (f : Fr T H0 H) (n : H0 p = none) (m : Mut1 p H H') : Fr T H0 H' := fun b o e nb => m.k b o (f b o e nb) (ne_of_none e n)
theorem Dom.sub {S' : AS} (d : Dom S H) (h : Sub S' S) : Dom S' H := fun a m => d a (h a m)
theorem Dom.fx {p : Addr} {H H' : Hp} (d : Dom S H) (f : Fr S H H') (m : Mut1 p H H') : Dom S H' := fun b mb e => by
  by_cases q : b = p
  · subst q; exact m.p' e
  · cases z : H b with
    | none => exact d b mb z
    | some o => rw [m.k b o z q] at e; cases e
theorem Own.mut {c : Ty K α} {S : AS} {H H' : Hp} {p q : Addr} {xs : List α} (h : Own c S H p xs) (f : Fr S H H') (m : Mut1 q H H') (n : p ≠ q) : Own c S H' p xs := by
  obtain ⟨vs, hv, ha⟩ := h
  exact ⟨vs, m.k _ _ hv n, ha.imp fun _ _ => c.mono f⟩
theorem seq_last {t : TS} (Pv : St → Hp → Prop) (h2 : ∀ σ H, Pv σ H → D.nx σ H) (h1 : (∀ σ H, Pv σ H → D.nx σ H) → t D σ H) : t D σ H := h1 h2
/-! lists made -/
theorem ev_lst0 : Ev S T (tLst tNil) σ H (nw a S) (some []) := fun x e H1 f d Q q => by
  cases e
  exact ⟨Nat.zero_le _, fun p hp => q _ _ (same_new hp) ⟨p, rfl, hp, [], upd_same, .nil⟩⟩
theorem ev_list {r : Option (List α)} (h : Ev S T te σ H (of (tL a) S) r) : Ev S T (tCB (fun xs H Q => ∃ p ys, xs = [.ref p] ∧ (SqL K H p ys ∨ SqT K H p ys) ∧ ∀ l, H l = none → Q (.ref l) (upd H l (.lst ys))) (tCons te tNil)) σ H (nw a S) r := fun x e H1 f d Q q => by
  refine h x e H1 f d _ fun v H2 s2 hv => ?_
  obtain ⟨p, vs, rfl, hp, ha⟩ := hv
  exact ⟨p, vs, rfl, .inl hp.sq, fun l hl => q _ _ (s2.trans (same_new hl)) ⟨l, rfl, s2.free hl, vs, upd_same, ha.imp fun _ _ h => a.mono (Fr.same (same_new hl)) (a.ext hl h)⟩⟩
def EvE (S T : AS) (ta : TA) (σ : St) (H : Hp) (a : Ty K α) (n : Nat) (r : Option (List α)) : Prop :=
  ∀ x, r = some x → ∀ H1, Fr T H H1 → Dom S H1 → ∀ Q : List V → Hp → Prop, (∀ vs H2, vs.length = n → Same H1 H2 → All2 (a.rp S H2) vs x → Q vs H2) → ta σ H1 Q
theorem el_nil : EvE S T tNil σ H a 0 (some []) := fun _ e H1 f d Q q => by cases e; exact q [] H1 rfl (Same.refl _) .nil
theorem el_cons {tr : TA} {n : Nat} {ra : Option α} {rr : Option (List α)} (h : Ev S T ta σ H (of a S) ra) (hr : EvE S T tr σ H a n rr) : EvE S T (tCons ta tr) σ H a (n + 1) (bd ra fun x => bd rr fun y => some (x :: y)) := by
  intro z e H1 f1 d Q q
  obtain ⟨x, ex, e⟩ := bd_some e
  obtain ⟨y, ey, e⟩ := bd_some e
  cases e
  exact h x ex H1 f1 d _ fun v H2 s2 hv => hr y ey H2 (f1.trans (Fr.same s2)) (d.same s2) _ fun vs H3 hl s3 hw => q _ H3 (by simp [hl]) (s2.trans s3) (.cons (a.mono (Fr.same s3) hv) hw)
theorem ev_lst {tr : TA} {n : Nat} {rr : Option (List α)} (h : EvE S T tr σ H a n rr) (hn : n ≤ sizeLine) : Ev S T (tLst tr) σ H (nw a S) rr := fun x e H1 f d Q q =>
  h x e H1 f d _ fun vs H2 hl s2 ha => ⟨by rw [hl]; exact hn, fun p hp => q _ _ (s2.trans (same_new hp)) ⟨p, rfl, s2.free hp, vs, upd_same, ha.imp fun _ _ h => a.mono (Fr.same (same_new hp)) (a.ext hp h)⟩⟩
theorem All2.bools {S : AS} {H : Hp} : ∀ {vs : List V} {xs : List Bool}, All2 ((tBool (K := K)).rp S H) vs xs → vs = xs.map V.bl
  | _, _, .nil => rfl
  | _, _, .cons h r => by rw [List.map_cons, ← All2.bools r, show _ = _ from h]
theorem ev_all {r : Option (List Bool)} (h : Ev S T te σ H (of (K := K) (tL tBool) S) r) : Ev S T (tCB (rAll K) (tCons te tNil)) σ H (of (K := K) tBool S) (bd r fun x => some (x.all id)) := by
  intro z e H1 f1 d Q q
  obtain ⟨x, ex, e⟩ := bd_some e
  cases e
  refine h x ex H1 f1 d _ fun v H2 s hv => ?_
  obtain ⟨p, vs, rfl, hp, ha⟩ := hv
  refine ⟨p, x, rfl, ?_, q _ H2 s rfl⟩
  rw [← ha.bools]
  exact hp.sq
theorem ev_intB {r : Option Bool} (h : Ev S T te σ H (of (K := K) tBool S) r) : Ev S T (tCB (fun xs H Q => (∃ i, xs = [.int i] ∧ Q (.int i) H) ∨ ∃ k, xs = [.bl k] ∧ Q (.int (if k then 1 else 0)) H) (tCons te tNil)) σ H (of (K := K) tInt S) (bd r fun x => some (if x then 1 else 0 : Int)) := by
  intro z e H1 f1 d Q q
  obtain ⟨x, ex, e⟩ := bd_some e
  cases e
  refine h x ex H1 f1 d _ fun v H2 s hv => ?_
  cases hv
  exact .inr ⟨x, rfl, q _ H2 s rfl⟩
/-! comprehensions over a list -/
def mapO (f : α → Option β) : List α → Option (List β)
  | [] => some []
  | x :: xs => bd (f x) fun y => bd (mapO f xs) fun ys => some (y :: ys)
theorem mapO_get {f : α → Option β} : ∀ {xs : List α} {ys : List β} {i : Nat} {x : α}, mapO f xs = some ys → xs[i]? = some x → ∃ y, f x = some y ∧ ys[i]? = some y
  | [], _, i, x, _, e => by simp at e
  | z :: xs, ys, i, x, h, e => by
    obtain ⟨y, hy, h⟩ := bd_some h
    obtain ⟨r, hr, h⟩ := bd_some h
    cases h
    cases i with
    | zero => simp at e; subst e; exact ⟨y, hy, rfl⟩
    | succ i =>
      obtain ⟨w, h1, h2⟩ := mapO_get (i := i) hr (by simpa using e)
      exact ⟨w, h1, by simpa using h2⟩
theorem mapO_len {f : α → Option β} : ∀ {xs : List α} {ys : List β}, mapO f xs = some ys → ys.length = xs.length
  | [], _, h => by cases h; rfl
  | z :: xs, ys, h => by
    obtain ⟨y, hy, h⟩ := bd_some h
    obtain ⟨r, hr, h⟩ := bd_some h
    cases h
    simp [mapO_len hr]
def filO (f : α → Option (Option β)) : List α → Option (List β)
  | [] => some []
  | x :: xs => bd (f x) fun o => bd (filO f xs) fun ys => match o with | some y => some (y :: ys) | none => some ys
theorem filO_map {f : α → Option β} : ∀ xs : List α, filO (fun x => bd (f x) fun y => some (some y)) xs = mapO f xs
  | [] => rfl
  | x :: r => by
    simp only [filO, mapO, bd, filO_map r]
    cases f x <;> rfl
def mapL? (f : α → Option β) (xs : List α) : Option (List β) := if xs.length < 100000 then mapO f xs else none
/-- [te for x in wi] -/
theorem lc_core2 {wi : TI} {j : Nat} {ws : List Nat} {r : Option (List α)} {f : α → Option (Option β)} (h : Sr S T wi σ H a r) (hw : ∀ x, wipe ((wipe σ ws).set j (some x)) ws = wipe σ ws)
    (he : ∀ (x : α) (v : V) (H2 H' : Hp) (p : Addr) (o : Option β), Fr T H H2 → H2 p = none → Same H2 H' → a.rp (p :: S) H' v x → Dom (p :: S) H' → f x = some o → ∀ (Q1 : V → Hp → Prop) (Q0 : Hp → Prop), (∀ y w H3, o = some y → Same H' H3 → b.rp (p :: S) H3 w y → Q1 w H3) → (∀ H3, o = none → Same H' H3 → Q0 H3) →
      tt ((wipe σ ws).set j (some v)) H' fun k H3 => if k = true then te ((wipe σ ws).set j (some v)) H3 Q1 else Q0 H3) :
    Ev S T (tLc wi (gName j) tt te ws) σ H (nw b S) (bd r fun xs => if xs.length < 100000 then filO f xs else none) := by
  intro z e H1 f1 d Q q
  obtain ⟨xs, ex, e⟩ := bd_some e
  split at e
  rotate_left
  · cases e
  rename_i hlen
  refine h xs ex H1 f1 d _ fun J H2 s2 wk => fun Dl hD => ?_
  have d2 := d.same s2
  have sD : Same H2 (upd H2 Dl (.lst [])) := same_new hD
  refine ⟨fun i m H' => m = xs.length - i ∧ i ≤ xs.length ∧ ∃ acc pre, H' Dl = some (.lst acc) ∧ Same H2 H' ∧ acc.length ≤ i ∧ All2 (b.rp (Dl :: S) H') acc pre ∧ ∃ suf, filO f (xs.drop i) = some suf ∧ z = pre ++ suf, ⟨_, rfl, Nat.zero_le _, [], [], upd_same, sD, Nat.zero_le _, .nil, z, e, rfl⟩, ?_⟩
  rintro i m H' ⟨rfl, hi, acc, pre, h1, h2, h3, h4, suf, h5, h6⟩
  by_cases c : i < xs.length
  · right
    rw [List.drop_eq_getElem_cons c] at h5
    obtain ⟨o, ho, h5⟩ := bd_some h5
    obtain ⟨suf', hs', h5⟩ := bd_some h5
    refine ⟨wk.go H' i (Fr.same h2) c, fun H3 => ∃ acc pre, H3 Dl = some (.lst acc) ∧ Same H2 H3 ∧ acc.length ≤ i + 1 ∧ All2 (b.rp (Dl :: S) H3) acc pre ∧ ∃ suf, filO f (xs.drop (i + 1)) = some suf ∧ z = pre ++ suf, ?_, ?_⟩
    · rintro H3 ⟨acc, pre, g1, g2, g3, g4, suf, g5, g6⟩
      exact ⟨xs.length - (i + 1), by omega, rfl, by omega, acc, pre, g1, g2, g3, g4, suf, g5, g6⟩
    · intro v H3 hy
      obtain ⟨rfl, hv⟩ := wk.yl H' i v H3 (Fr.same h2) hy _ (List.getElem?_eq_getElem c)
      refine ⟨hw v, ?_⟩
      refine he xs[i] v H2 _ Dl o (f1.trans (Fr.same s2)) hD h2 (a.mono (Fr.same h2) (a.ext hD hv)) ((d2.same h2).cons h1) ho _ _ (fun y w H4 eo s4 hw4 => ?_) (fun H4 eo s4 => ?_)
      · subst eo
        cases h5
        refine ⟨acc, s4 _ _ h1, Nat.lt_of_lt_of_le (by omega : acc.length < 100000) (by decide), acc ++ [w], pre ++ [y], upd_same, fun p ob eb => ?_, by simp; omega, ?_, suf', hs', by rw [h6]; simp⟩
        · rw [upd_ne (ne_of_none eb hD)]
          exact s4 _ _ (h2 _ _ eb)
        · have fD : Fr (Dl :: S) H4 (upd H4 Dl (.lst (acc ++ [w]))) := fr_upd (List.mem_cons_self ..)
          exact ((h4.imp fun _ _ h => b.mono (Fr.same s4) h).snoc hw4).imp fun _ _ h => b.mono fD h
      · subst eo
        cases h5
        exact ⟨acc, pre, s4 _ _ h1, fun p ob eb => s4 _ _ (h2 _ _ eb), by omega, h4.imp fun _ _ h => b.mono (Fr.same s4) h, _, hs', h6⟩
  · left
    rw [List.drop_eq_nil_of_le (by omega)] at h5
    cases h5
    rw [List.append_nil] at h6
    subst h6
    exact ⟨wk.st H' i (Fr.same h2) (by omega), q _ _ (s2.trans h2) ⟨Dl, rfl, s2.free hD, acc, h1, h4⟩⟩
theorem ev_lc {wi : TI} {j : Nat} {ws : List Nat} {r : Option (List α)} {f : α → Option β} (h : Sr S T wi σ H a r) (hw : ∀ x, wipe ((wipe σ ws).set j (some x)) ws = wipe σ ws)
    (he : ∀ (x : α) (v : V) (H2 H' : Hp) (p : Addr), Fr T H H2 → H2 p = none → Same H2 H' → a.rp (p :: S) H' v x → Ev (p :: S) [] te ((wipe σ ws).set j (some v)) H' (of b (p :: S)) (f x)) :
    Ev S T (tLc wi (gName j) tYes te ws) σ H (nw b S) (bd r fun xs => mapL? f xs) := by
  have k := lc_core2 (tt := tYes) (te := te) (b := b) (f := fun x => bd (f x) fun y => some (some y)) h hw fun x v H2 H' p o g1 g2 g3 g4 g5 g6 Q1 Q0 g7 g8 => by
    obtain ⟨y, hy, g6⟩ := bd_some g6
    cases g6
    refine G.yes_ ?_
    exact he x v H2 H' p g1 g2 g3 g4 y hy H' (Fr.refl _) g5 _ fun w H3 s3 hw3 => g7 y w H3 rfl s3 hw3
  intro z e
  refine k z ?_
  obtain ⟨xs, ex, e⟩ := bd_some e
  rw [ex]
  unfold mapL? at e
  show (if xs.length < 100000 then filO _ xs else none) = some z
  split at e
  · rename_i hl
    rw [if_pos hl, filO_map]
    exact e
  · cases e
/-- with a test -/
def filL? (g : α → Option Bool) (f : α → Option β) (xs : List α) : Option (List β) := if xs.length < 100000 then filO (fun x => bd (g x) fun k => if k then bd (f x) fun y => some (some y) else some none) xs else none
theorem ev_lcF {wi : TI} {j : Nat} {ws : List Nat} {r : Option (List α)} {g : α → Option Bool} {f : α → Option β} (h : Sr S T wi σ H a r) (hw : ∀ x, wipe ((wipe σ ws).set j (some x)) ws = wipe σ ws)
    (ht : ∀ (x : α) (v : V) (H2 H' : Hp) (p : Addr), Fr T H H2 → H2 p = none → Same H2 H' → a.rp (p :: S) H' v x → EvB (p :: S) [] tt ((wipe σ ws).set j (some v)) H' (g x))
    (he : ∀ (x : α) (v : V) (H2 H' : Hp) (p : Addr), Fr T H H2 → H2 p = none → Same H2 H' → a.rp (p :: S) H' v x → Ev (p :: S) [] te ((wipe σ ws).set j (some v)) H' (of b (p :: S)) (f x)) :
    Ev S T (tLc wi (gName j) tt te ws) σ H (nw b S) (bd r fun xs => filL? g f xs) :=
  lc_core2 (tt := tt) (te := te) (b := b) (f := fun x => bd (g x) fun k => if k then bd (f x) fun y => some (some y) else some none) h hw fun x v H2 H' p o g1 g2 g3 g4 g5 g6 Q1 Q0 g7 g8 => by
    obtain ⟨k, hk, g6⟩ := bd_some g6
    refine ht x v H2 H' p g1 g2 g3 g4 k hk H' (Fr.refl _) g5 _ fun H3 s3 => ?_
    cases k with
    | true =>
      obtain ⟨y, hy, g6⟩ := bd_some (if_t g6)
      cases g6
      show if true = true then _ else _
      rw [if_pos rfl]
      exact he x v H2 H' p g1 g2 g3 g4 y hy H3 (Fr.same s3) (g5.same s3) _ fun w H4 s4 hw4 => g7 y w H4 rfl (s3.trans s4) hw4
    | false =>
      cases (if_f g6)
      show if false = true then _ else _
      rw [if_neg (by decide)]
      exact g8 H3 rfl s3
end
end M

namespace M
open PySem L2 G
abbrev Wp (α : Type) := (α → Prop) → Prop
def lf {α : Type} (r : Option α) : Wp α := fun P => ∃ x, r = some x ∧ P x
def opW {α β γ : Type} (f : α → β → Option γ) (wa : Wp α) (wb : Wp β) : Wp γ := fun P => wa fun x => wb fun y => lf (f x y) P
def unW {α γ : Type} (g : α → Option γ) (wa : Wp α) : Wp γ := fun P => wa fun x => lf (g x) P
def tup2W {α β : Type} (wa : Wp α) (wb : Wp β) : Wp (α × β) := fun P => wa fun x => wb fun y => P (x, y)
def consW {α : Type} (wa : Wp α) (wb : Wp (List α)) : Wp (List α) := fun P => wa fun x => wb fun y => P (x :: y)
def andW (r v : Wp Bool) : Wp Bool := fun P => r fun x => if x then v P else P false
def orW (r v : Wp Bool) : Wp Bool := fun P => r fun x => if x then P true else v P
def callBW {α γ : Type} (m : α → Wp γ) (w : Wp α) : Wp γ := fun P => w fun a => m a P
theorem lf_some {α : Type} {x : α} {P : α → Prop} : lf (some x) P ↔ P x := ⟨fun ⟨y, e, h⟩ => by cases e; exact h, fun h => ⟨x, rfl, h⟩⟩
theorem _root_.G.Bag.dom {H : Hp} {b c : Addr} (h : Bag H b c) : Dom [b, c] H := fun a m e => by
  obtain ⟨_, ns, sl, sd, h1, h2, _⟩ := h
  simp only [List.mem_cons, List.not_mem_nil, or_false] at m
  rcases m with rfl | rfl
  · rw [h1] at e; cases e
  · rw [h2] at e; cases e
theorem dom_fr {S : AS} {H H' : Hp} {b c : Addr} (d : Dom S H) (f : Fr [b, c] H H') (h : Bag H' b c) : Dom S H' := fun a m e => by
  by_cases q : a ∈ [b, c]
  · exact h.dom a q e
  · cases z : H a with
    | none => exact d a m z
    | some o => rw [f a o z q] at e; cases e
section
variable {K : PySem.W.Frag} {α β γ δ ε ρ : Type} {S T : AS} {σ : St} {H : Hp} {ta tb te : TE} {tt tu : TT} {a : Ty K α} {b' : Ty K β} {c' : Ty K γ} {D : Ends} {u t1 t2 : TS} {b c : Addr}
def EvW (b c : Addr) (S : AS) (te : TE) (σ : St) (H : Hp) (R : Rl α) (w : Wp α) : Prop :=
  Sub [b, c] S → ∀ P, w P → ∀ H1, Fr [b, c] H H1 → Dom S H1 → Bag H1 b c → ∀ Q : VK, (∀ v H2 x, P x → Fr [b, c] H1 H2 → Dom S H2 → Bag H2 b c → R.r H1 H2 v x → Q v H2) → te σ H1 Q
def BvW (b c : Addr) (S : AS) (tt : TT) (σ : St) (H : Hp) (w : Wp Bool) : Prop :=
  Sub [b, c] S → ∀ P, w P → ∀ H1, Fr [b, c] H H1 → Dom S H1 → Bag H1 b c → ∀ Q : Bool → Hp → Prop, (∀ H2 x, P x → Fr [b, c] H1 H2 → Dom S H2 → Bag H2 b c → Q x H2) → tt σ H1 Q
theorem ew_pure {R : Rl α} {r : Option α} (h : Ev S [b, c] te σ H R r) : EvW b c S te σ H R (lf r) := fun ts P ⟨x, e, hP⟩ H1 f d hB Q q =>
  h x e H1 f d Q fun v H2 s hv => q v H2 x hP (Fr.same s) (d.same s) (hB.same s) hv
theorem ew_new {w : Wp (List α)} (h : EvW b c S te σ H (nw a S) w) : EvW b c S te σ H (of (tL a) S) w := fun ts P hP H1 f d hB Q q =>
  h ts P hP H1 f d hB Q fun v H2 x hx f2 d2 hB2 hv => q v H2 x hx f2 d2 hB2 (nwL.rp hv d)
theorem ew_op {R : Rl γ} {r : R2} {f : α → β → Option γ} {wa : Wp α} {wb : Wp β} (h : OpD a b' S R r f) (ha : EvW b c S ta σ H (of a S) wa) (hb : EvW b c S tb σ H (of b' S) wb) :
    EvW b c S (tOp r ta tb) σ H R (opW f wa wb) := fun ts P hP H1 f1 d hB Q q =>
  ha ts _ hP H1 f1 d hB _ fun v H2 x hx f2 d2 hB2 hv => hb ts _ hx H2 (f1.trans f2) d2 hB2 _ fun w H3 y ⟨z, e, hz⟩ f3 d3 hB3 hw => h x y z e H3 v w d3 (a.mono (f3.sub ts) hv) hw Q fun u H4 s4 hu => q u H4 z hz ((f2.trans f3).trans (Fr.same s4)) (d3.same s4) (hB3.same s4) (R.back (f2.trans f3) hB3.dom hu)
theorem ew_ixT {R : Rl γ} {i : Int} {wa : Wp α} {g : α → γ} (ha : EvW b c S ta σ H (of a S) wa) (h : ∀ x H v, a.rp S H v x → ∃ p vs u, v = .ref p ∧ SqT K H p vs ∧ atI vs i = some u ∧ R.r H H u (g x)) :
    EvW b c S (tOp (rIxT K) ta (tC (.int i))) σ H R (unW (fun x => some (g x)) wa) := fun ts P hP H1 f1 d hB Q q => by
  refine ha ts _ hP H1 f1 d hB _ fun v H2 x ⟨z, e, hz⟩ f2 d2 hB2 hv => ?_
  cases e
  obtain ⟨p, vs, u, rfl, hp, hu, hr⟩ := h x H2 v hv
  exact ⟨p, vs, i, u, rfl, rfl, hp, hu, q u H2 _ hz f2 d2 hB2 (R.back f2 hB2.dom hr)⟩
theorem ew_ix20 {ra : Wp (α × β)} (ha : EvW b c S ta σ H (of (tT2 a b') S) ra) : EvW b c S (tOp (rIxT K) ta (tC (.int 0))) σ H (of a S) (unW (fun x => some x.1) ra) :=
  ew_ixT ha fun x H v ⟨p, u, w, e, h, h1, h2⟩ => ⟨p, _, u, e, h.sq, rfl, h1⟩
theorem ew_ix21 {ra : Wp (α × β)} (ha : EvW b c S ta σ H (of (tT2 a b') S) ra) : EvW b c S (tOp (rIxT K) ta (tC (.int 1))) σ H (of b' S) (unW (fun x => some x.2) ra) :=
  ew_ixT ha fun x H v ⟨p, u, w, e, h, h1, h2⟩ => ⟨p, _, w, e, h.sq, rfl, h2⟩
theorem ew_tup2 {wa : Wp α} {wb : Wp β} (ha : EvW b c S ta σ H (of a S) wa) (hb : EvW b c S tb σ H (of b' S) wb) : EvW b c S (tTup (tCons ta (tCons tb tNil))) σ H (of (tT2 a b') S) (tup2W wa wb) := fun ts P hP H1 f1 d hB Q q => by
  refine ha ts _ hP H1 f1 d hB _ fun v H2 x hx f2 d2 hB2 hv => hb ts _ hx H2 (f1.trans f2) d2 hB2 _ fun w H3 y hy f3 d3 hB3 hw => ⟨(by show 2 ≤ sizeLine; decide), fun p hp => ?_⟩
  have s4 := same_new (o := .tup [v, w]) hp
  exact q _ _ (x, y) hy ((f2.trans f3).trans (Fr.same s4)) (d3.same s4) (hB3.same s4) ⟨p, v, w, rfl, .inl ⟨.inl upd_same, d3.not_mem hp⟩, a.mono (Fr.same s4) (a.mono (f3.sub ts) hv), b'.mono (Fr.same s4) hw⟩
/-! tests -/
theorem bw_pure {r : Option Bool} (h : EvB S [b, c] tt σ H r) : BvW b c S tt σ H (lf r) := fun ts P ⟨x, e, hP⟩ H1 f d hB Q q => h x e H1 f d Q fun H2 s => q H2 x hP (Fr.same s) (d.same s) (hB.same s)
theorem bw_test {w : Wp Bool} (h : EvW b c S te σ H (of (K := K) tBool S) w) : BvW b c S (tTest te) σ H w := fun ts P hP H1 f d hB Q q => h ts P hP H1 f d hB _ fun v H2 x hx f2 d2 hB2 hv => ⟨x, hv, q H2 x hx f2 d2 hB2⟩
theorem bw_B {w : Wp Bool} (h : EvW b c S te σ H (of (K := K) tBool S) w) : BvW b c S (tB te) σ H w := fun ts P hP H1 f d hB Q q => h ts P hP H1 f d hB _ fun v H2 x hx f2 d2 hB2 hv => ⟨x, hv, q H2 x hx f2 d2 hB2⟩
theorem bw_and {r v : Wp Bool} (h : BvW b c S tt σ H r) (h' : BvW b c S tu σ H v) : BvW b c S (tAnd tt tu) σ H (andW r v) := fun ts P hP H1 f1 d hB Q q => by
  refine h ts _ hP H1 f1 d hB _ fun H2 x hx f2 d2 hB2 => ?_
  cases x with
  | true => exact h' ts P hx H2 (f1.trans f2) d2 hB2 Q fun H3 y hy f3 d3 hB3 => q H3 y hy (f2.trans f3) d3 hB3
  | false => exact q H2 false hx f2 d2 hB2
theorem bw_or {r v : Wp Bool} (h : BvW b c S tt σ H r) (h' : BvW b c S tu σ H v) : BvW b c S (tOr tt tu) σ H (orW r v) := fun ts P hP H1 f1 d hB Q q => by
  refine h ts _ hP H1 f1 d hB _ fun H2 x hx f2 d2 hB2 => ?_
  cases x with
  | false => exact h' ts P hx H2 (f1.trans f2) d2 hB2 Q fun H3 y hy f3 d3 hB3 => q H3 y hy (f2.trans f3) d3 hB3
  | true => exact q H2 true hx f2 d2 hB2
theorem ew_and {r v : Wp Bool} (h : EvW b c S ta σ H (of (K := K) tBool S) r) (h' : EvW b c S tb σ H (of (K := K) tBool S) v) : EvW b c S (tAndV ta tb) σ H (of (K := K) tBool S) (andW r v) := fun ts P hP H1 f1 d hB Q q => by
  refine h ts _ hP H1 f1 d hB _ fun v H2 x hx f2 d2 hB2 hv => ⟨x, hv, ?_⟩
  cases x with
  | true => exact h' ts P hx H2 (f1.trans f2) d2 hB2 Q fun v H3 y hy f3 d3 hB3 hv => q v H3 y hy (f2.trans f3) d3 hB3 hv
  | false => exact q _ H2 false hx f2 d2 hB2 rfl
theorem ew_or {r v : Wp Bool} (h : EvW b c S ta σ H (of (K := K) tBool S) r) (h' : EvW b c S tb σ H (of (K := K) tBool S) v) : EvW b c S (tOrV ta tb) σ H (of (K := K) tBool S) (orW r v) := fun ts P hP H1 f1 d hB Q q => by
  refine h ts _ hP H1 f1 d hB _ fun v H2 x hx f2 d2 hB2 hv => ⟨x, hv, ?_⟩
  cases x with
  | false => exact h' ts P hx H2 (f1.trans f2) d2 hB2 Q fun v H3 y hy f3 d3 hB3 hv => q v H3 y hy (f2.trans f3) d3 hB3 hv
  | true => exact q _ H2 true hx f2 d2 hB2 rfl
/-! arguments, calls -/
def EvWA (b c : Addr) (S : AS) (ta : TA) (σ : St) (H : Hp) (t : TyA K α) (w : Wp α) : Prop :=
  Sub [b, c] S → ∀ P, w P → ∀ H1, Fr [b, c] H H1 → Dom S H1 → Bag H1 b c → ∀ Q : List V → Hp → Prop, (∀ vs H2 x, P x → Fr [b, c] H1 H2 → Dom S H2 → Bag H2 b c → t.rp S H2 vs x → Q vs H2) → ta σ H1 Q
theorem wa_nil : EvWA b c S tNil σ H (K := K) aNil (lf (some ())) := fun ts P ⟨x, e, hP⟩ H1 f d hB Q q => q [] H1 x hP (Fr.refl _) d hB rfl
theorem wa_cons {tr : TA} {t : TyA K β} {wa : Wp α} {wr : Wp β} (h : EvW b c S ta σ H (of a S) wa) (hr : EvWA b c S tr σ H t wr) : EvWA b c S (tCons ta tr) σ H (aCons a t) (tup2W wa wr) := fun ts P hP H1 f1 d hB Q q =>
  h ts _ hP H1 f1 d hB _ fun v H2 x hx f2 d2 hB2 hv => hr ts _ hx H2 (f1.trans f2) d2 hB2 _ fun vs H3 y hy f3 d3 hB3 hw => q _ H3 (x, y) hy (f2.trans f3) d3 hB3 ⟨v, vs, rfl, a.mono (f3.sub ts) hv, hw⟩
theorem ew_call {ta : TA} {t : TyA K α} {R : AS → Rl γ} {f : α → Option γ} {w : Wp α} {E : XK} (h : EvWA b c S ta σ H t w) : EvW b c S (tCall (spF t R f) [] E ta) σ H (R S) (unW f w) := fun ts P hP H1 f1 d hB Q q => by
  refine h ts _ hP H1 f1 d hB _ fun vs H2 x ⟨z, e, hz⟩ f2 d2 hB2 hv => ⟨S, x, z, d2, ?_, e, fun u H' s hu => q u H' z hz (f2.trans (Fr.same s)) (d2.same s) (hB2.same s) ((R S).back f2 hB2.dom hu)⟩
  rw [List.append_nil]
  exact hv
/-- the promise of a def that draws from the bag -/
def spB (t : TyA K α) (R : AS → Rl γ) (m : α → Wp γ) : Sp := fun vs H Q _ => ∃ S b c r x P, vs = .ref b :: r ∧ Dom S H ∧ Sub [b, c] S ∧ Bag H b c ∧ t.rp S H r x ∧ m x P ∧ ∀ u H' z, P z → Fr [b, c] H H' → Bag H' b c → (R S).r H H' u z → Q u H'
theorem ew_callB {ta : TA} {t : TyA K α} {R : AS → Rl γ} {m : α → Wp γ} {w : Wp α} {E : XK} {i : Nat} (hi : σ[i]? = some (some (.ref b))) (h : EvWA b c S ta σ H t w) :
    EvW b c S (tCall (spB t R m) [] E (tCons (tVar i) ta)) σ H (R S) (callBW m w) := fun ts P hP H1 f1 d hB Q q => by
  refine ⟨_, hi, h ts _ hP H1 f1 d hB _ fun vs H2 x hx f2 d2 hB2 hv => ⟨S, b, c, vs, x, P, by rw [List.append_nil], d2, ts, hB2, hv, hx, fun u H' z hz f3 hB3 hu => q u H' z hz (f2.trans f3) (dom_fr d2 f3 hB3) hB3 ((R S).back f2 hB2.dom hu)⟩⟩
/-! lists made -/
def EvWE (b c : Addr) (S : AS) (ta : TA) (σ : St) (H : Hp) (a : Ty K α) (n : Nat) (w : Wp (List α)) : Prop :=
  Sub [b, c] S → ∀ P, w P → ∀ H1, Fr [b, c] H H1 → Dom S H1 → Bag H1 b c → ∀ Q : List V → Hp → Prop, (∀ vs H2 x, P x → vs.length = n → Fr [b, c] H1 H2 → Dom S H2 → Bag H2 b c → All2 (a.rp S H2) vs x → Q vs H2) → ta σ H1 Q
theorem wl_nil : EvWE b c S tNil σ H a 0 (lf (some [])) := fun ts P ⟨x, e, hP⟩ H1 f d hB Q q => by cases e; exact q [] H1 [] hP rfl (Fr.refl _) d hB .nil
theorem wl_cons {tr : TA} {n : Nat} {wa : Wp α} {wr : Wp (List α)} (h : EvW b c S ta σ H (of a S) wa) (hr : EvWE b c S tr σ H a n wr) : EvWE b c S (tCons ta tr) σ H a (n + 1) (consW wa wr) := fun ts P hP H1 f1 d hB Q q =>
  h ts _ hP H1 f1 d hB _ fun v H2 x hx f2 d2 hB2 hv => hr ts _ hx H2 (f1.trans f2) d2 hB2 _ fun vs H3 y hy hl f3 d3 hB3 hw => q _ H3 (x :: y) hy (by simp [hl]) (f2.trans f3) d3 hB3 (.cons (a.mono (f3.sub ts) hv) hw)
theorem ew_lst {tr : TA} {n : Nat} {wr : Wp (List α)} (h : EvWE b c S tr σ H a n wr) (hn : n ≤ sizeLine) : EvW b c S (tLst tr) σ H (nw a S) wr := fun ts P hP H1 f d hB Q q =>
  h ts P hP H1 f d hB _ fun vs H2 x hx hl f2 d2 hB2 ha => ⟨by rw [hl]; exact hn, fun p hp => q _ _ x hx (f2.trans (Fr.same (same_new hp))) (d2.same (same_new hp)) (hB2.same (same_new hp)) ⟨p, rfl, fr_back f2 hB2.dom hp, vs, upd_same, ha.imp fun _ _ h => a.mono (Fr.same (same_new hp)) (a.ext hp h)⟩⟩
/-! statements -/
theorem lw_asg {R : Rl α} {w : Wp α} {P : α → Prop} {i : Nat} (d : Dom S H) (hB : Bag H b c) (ts : Sub [b, c] S) (h : EvW b c S te σ H R w) (e : w P) (k : ∀ v H1 x, P x → Fr [b, c] H H1 → Dom S H1 → Bag H1 b c → R.r H H1 v x → D.nx (σ.set i (some v)) H1) : tAsg te (gName i) D σ H := h ts P e H (Fr.refl _) d hB _ k
theorem qw_asg {R : Rl α} {w : Wp α} {P : α → Prop} {i : Nat} (d : Dom S H) (hB : Bag H b c) (ts : Sub [b, c] S) (h : EvW b c S te σ H R w) (e : w P) (k : ∀ v H1 x, P x → Fr [b, c] H H1 → Dom S H1 → Bag H1 b c → R.r H H1 v x → u D (σ.set i (some v)) H1) : tSeq (tAsg te (gName i)) u D σ H := h ts P e H (Fr.refl _) d hB _ k
theorem qw_ret {R : Rl α} {w : Wp α} {P : α → Prop} (d : Dom S H) (hB : Bag H b c) (ts : Sub [b, c] S) (h : EvW b c S te σ H R w) (e : w P) (k : ∀ v H1 x, P x → Fr [b, c] H H1 → Dom S H1 → Bag H1 b c → R.r H H1 v x → D.rt v H1) : tRet te D σ H := h ts P e H (Fr.refl _) d hB _ k
theorem lw_if {w : Wp Bool} {P : Bool → Prop} (d : Dom S H) (hB : Bag H b c) (ts : Sub [b, c] S) (h : BvW b c S tt σ H w) (e : w P) (k1 : ∀ H1, P true → Fr [b, c] H H1 → Dom S H1 → Bag H1 b c → t1 D σ H1) (k2 : ∀ H1, P false → Fr [b, c] H H1 → Dom S H1 → Bag H1 b c → t2 D σ H1) : tIfS tt t1 t2 D σ H := h ts P e H (Fr.refl _) d hB _ fun H1 x hx f d hB => by
  cases x with
  | true => exact k1 H1 hx f d hB
  | false => exact k2 H1 hx f d hB
theorem qw_if {w : Wp Bool} {P : Bool → Prop} (d : Dom S H) (hB : Bag H b c) (ts : Sub [b, c] S) (h : BvW b c S tt σ H w) (e : w P) (k1 : ∀ H1, P true → Fr [b, c] H H1 → Dom S H1 → Bag H1 b c → t1 { D with nx := u D } σ H1) (k2 : ∀ H1, P false → Fr [b, c] H H1 → Dom S H1 → Bag H1 b c → t2 { D with nx := u D } σ H1) : tSeq (tIfS tt t1 t2) u D σ H := lw_if (D := { D with nx := u D }) d hB ts h e k1 k2
theorem ifp_t {A B : Prop} (h : if true = true then A else B) : A := h
theorem ifp_f {A B : Prop} (h : if false = true then A else B) : B := h
theorem ifp_and {g : Bool} {A : Prop} (h : if g then A else False) : g = true ∧ A := by
  cases g with
  | true => exact ⟨rfl, h⟩
  | false => exact h.elim
/-! loops -/
def loopW (f : δ → α → Wp (Ct ρ δ)) : List α → δ → Wp (Ct ρ δ)
  | [], s, P => P (.go s)
  | x :: xs, s, P => f s x fun r => match r with | .go s' => loopW f xs s' P | .ret y => P (.ret y) | .brk s' => P (.go s')
def SrW (b c : Addr) (S : AS) (wi : TI) (σ : St) (H : Hp) (a : Ty K α) (w : Wp (List α)) : Prop :=
  Sub [b, c] S → ∀ P, w P → ∀ H1, Fr [b, c] H H1 → Dom S H1 → Bag H1 b c → ∀ R : It → Hp → Prop, (∀ J H2 xs, P xs → Fr [b, c] H1 H2 → Dom S H2 → Bag H2 b c → Wk J a S H2 xs → R J H2) → wi σ H1 R
theorem srw_pure {wi : TI} {r : Option (List α)} (h : Sr S [b, c] wi σ H a r) : SrW b c S wi σ H a (lf r) := fun ts P ⟨xs, e, hP⟩ H1 f d hB R q => h xs e H1 f d R fun J H2 s wk => q J H2 xs hP (Fr.same s) (d.same s) (hB.same s) wk
theorem srw_r1 {te : TE} {w : Wp Int} (h : EvW b c S te σ H (of (K := K) tInt S) w) : SrW b c S (iRng1 (tCons te tNil)) σ H (tInt (K := K)) (unW rng1? w) := fun ts P hP H1 f d hB R q => by
  refine h ts _ hP H1 f d hB _ fun v H2 n ⟨xs, e, hx⟩ f2 d2 hB2 hv => ?_
  unfold rng1? at e
  split at e
  · rename_i hn
    cases e
    have hb := rngP_le hn
    cases hv
    exact ⟨n, rfl, hb.1, hb.2, q _ H2 _ hx f2 d2 hB2 wk_rng⟩
  · cases e
theorem lw_for_s {wi : TI} {j : Nat} {tb : TS} {w : Wp (List α)} {s0 : δ} {f : δ → α → Wp (Ct ρ δ)} {P : Ct ρ δ → Prop} (d : Dom S H) (hB : Bag H b c) (ts : Sub [b, c] S) (h : SrW b c S wi σ H a w) (hf : w fun xs => loopW f xs s0 P)
    (I : δ → St → Hp → Prop) (h0 : ∀ H1, Fr [b, c] H H1 → Dom S H1 → Bag H1 b c → I s0 σ H1)
    (step : (∀ s σ' H', P (.go s) → I s σ' H' → D.nx σ' H') → ∀ (s : δ) (x : α) (C : Ct ρ δ → Prop) (v : V) (σ' : St) (H' : Hp), I s σ' H' → a.rp S H' v x → f s x C → (∀ y, C (.ret y) → P (.ret y)) → (∀ s', C (.brk s') → P (.go s')) →
      tb { D with nx := fun σ2 H2 => ∃ s', C (.go s') ∧ Fr S H' H2 ∧ I s' σ2 H2, ct := fun σ2 H2 => ∃ s', C (.go s') ∧ Fr S H' H2 ∧ I s' σ2 H2, bk := D.nx } (σ'.set j (some v)) H')
    (done : ∀ s σ' H', P (.go s) → I s σ' H' → D.nx σ' H') : tFor wi (gName j) tb D σ H := by
  refine h ts _ hf H (Fr.refl _) d hB _ fun J H1 xs hl0 f1 d1 hB1 wk => ?_
  refine ⟨fun i m σ' H' => m = xs.length - i ∧ i ≤ xs.length ∧ Fr S H1 H' ∧ ∃ s, I s σ' H' ∧ loopW f (xs.drop i) s P, ⟨_, rfl, Nat.zero_le _, Fr.refl _, s0, h0 H1 f1 d1 hB1, hl0⟩, ?_⟩
  rintro i m σ' H' ⟨rfl, hi, fr, s, hI, hl⟩
  by_cases c : i < xs.length
  · right
    rw [List.drop_eq_getElem_cons c] at hl
    simp only [loopW] at hl
    refine ⟨wk.go H' i fr c, fun σ2 H2 => ∃ s', loopW f (xs.drop (i + 1)) s' P ∧ Fr S H' H2 ∧ I s' σ2 H2, ?_, ?_⟩
    · rintro σ2 H2 ⟨s', hl', f2, hI'⟩
      exact ⟨xs.length - (i + 1), by omega, rfl, by omega, fr.trans f2, s', hI', hl'⟩
    · intro v H2 hy
      obtain ⟨rfl, hv⟩ := wk.yl H' i v H2 fr hy _ (List.getElem?_eq_getElem c)
      exact step done s xs[i] _ v σ' _ hI (a.mono fr hv) hl (fun y ey => ey) (fun s' ey => ey)
  · left
    refine ⟨wk.st H' i fr (by omega), ?_⟩
    rw [List.drop_eq_nil_of_le (by omega)] at hl
    exact done s σ' H' hl hI
theorem qw_for_s {wi : TI} {j : Nat} {tb : TS} {w : Wp (List α)} {s0 : δ} {f : δ → α → Wp (Ct ρ δ)} {P : Ct ρ δ → Prop} (d : Dom S H) (hB : Bag H b c) (ts : Sub [b, c] S) (h : SrW b c S wi σ H a w) (hf : w fun xs => loopW f xs s0 P)
    (I : δ → St → Hp → Prop) (h0 : ∀ H1, Fr [b, c] H H1 → Dom S H1 → Bag H1 b c → I s0 σ H1)
    (step : (∀ s σ' H', P (.go s) → I s σ' H' → u D σ' H') → ∀ (s : δ) (x : α) (C : Ct ρ δ → Prop) (v : V) (σ' : St) (H' : Hp), I s σ' H' → a.rp S H' v x → f s x C → (∀ y, C (.ret y) → P (.ret y)) → (∀ s', C (.brk s') → P (.go s')) →
      tb { D with nx := fun σ2 H2 => ∃ s', C (.go s') ∧ Fr S H' H2 ∧ I s' σ2 H2, ct := fun σ2 H2 => ∃ s', C (.go s') ∧ Fr S H' H2 ∧ I s' σ2 H2, bk := u D } (σ'.set j (some v)) H')
    (done : ∀ s σ' H', P (.go s) → I s σ' H' → u D σ' H') : tSeq (tFor wi (gName j) tb) u D σ H := lw_for_s (D := { D with nx := u D }) d hB ts h hf I h0 step done
theorem _root_.G.Bag.mut {p : Addr} {H H' : Hp} (h : Bag H b c) (m : Mut1 p H H') (n : p ∉ [b, c]) : Bag H' b c := by
  obtain ⟨ne, ns, sl, sd, h1, h2, r⟩ := h
  simp only [List.mem_cons, List.not_mem_nil, or_false, not_or] at n
  exact ⟨ne, ns, sl, sd, m.k _ _ h1 (Ne.symm n.1), m.k _ _ h2 (Ne.symm n.2), r⟩
def jn (f : (δ → Prop) → Prop) (k : δ → Prop) : Prop := f k
theorem jn_open {f : (δ → Prop) → Prop} {k : δ → Prop} (h : jn f k) : ∃ K_ : δ → Prop, (∀ j, K_ j → k j) ∧ f K_ := ⟨k, fun _ h => h, h⟩
/-! owned lists read -/
theorem ev_ownIx {p : Addr} {xs : List α} {i : Nat} {r : Option Int} (o : Own a S H p xs) (nt : p ∉ T) (ts : Sub T S) (hi : σ[i]? = some (some (.ref p))) (h : Ev S T te σ H (of (K := K) tInt S) r) : Ev S T (tOp (rIxL K) (tVar i) te) σ H (of a S) (bd r fun y => atI xs y) := by
  intro z e H1 f1 d Q q
  obtain ⟨y, ey, e⟩ := bd_some e
  refine ⟨_, hi, h y ey H1 f1 d _ fun v H2 s2 hv => ?_⟩
  cases hv
  obtain ⟨vs, hvs, ha⟩ := (o.fr f1 ts nt).same s2
  obtain ⟨w, hw, hz⟩ := ha.at e
  exact ⟨p, vs, y, w, rfl, rfl, .inl (.inl hvs), hw, q _ _ s2 hz⟩
theorem ev_ownLen {p : Addr} {xs : List α} {i : Nat} (o : Own a S H p xs) (nt : p ∉ T) (ts : Sub T S) (hi : σ[i]? = some (some (.ref p))) : Ev S T (tCB (fun xs H Q => ∃ p ys, xs = [.ref p] ∧ (SqL K H p ys ∨ SqT K H p ys) ∧ Q (.int ys.length) H) (tCons (tVar i) tNil)) σ H (of (K := K) tInt S) (some (xs.length : Int)) := by
  intro z e H1 f1 d Q q
  cases e
  obtain ⟨vs, hvs, ha⟩ := o.fr f1 ts nt
  exact ⟨_, hi, p, vs, rfl, .inl (.inl (.inl hvs)), q _ _ (Same.refl _) (by show V.int _ = V.int _; rw [ha.len])⟩
theorem ev_ownNe [DecidableEq α] (dt : TyD a) (hd : (dL dt).dep ≤ 64) {p : Addr} {xs : List α} {i : Nat} {r : Option (List α)} (o : Own a S H p xs) (nt : p ∉ T) (ts : Sub T S) (hi : σ[i]? = some (some (.ref p))) (h : Ev S T te σ H (of (tL a) S) r) : Ev S T (tOp (rNeD K) (tVar i) te) σ H (of (K := K) tBool S) (bd r fun y => some (!decide (xs = y))) := by
  intro z e H1 f1 d Q q
  obtain ⟨y, ey, e⟩ := bd_some e
  cases e
  refine ⟨_, hi, h y ey H1 f1 d _ fun v H2 s2 hv => ?_⟩
  obtain ⟨vs, hvs, ha⟩ := (o.fr f1 ts nt).same s2
  have rp0 : (tL a).rp [] H2 (.ref p) xs := ⟨p, vs, rfl, ⟨hvs, by simp⟩, ha.imp fun _ _ => a.sub fun _ m => by simp at m⟩
  refine ⟨_, _, (dL dt).dp rp0, (dL dt).dp hv, (dL dt).shaped hd rp0, (dL dt).shaped hd hv, ?_⟩
  rw [(dL dt).dec]
  exact q _ _ s2 rfl
end
end M

namespace M
open PySem L2 G
section
variable {K : PySem.W.Frag} {α β γ δ ε ρ : Type} {S T : AS} {σ : St} {H : Hp} {ta tb te tc td : TE} {tt tu : TT} {a : Ty K α} {b' : Ty K β} {c' : Ty K γ} {d' : Ty K δ} {D : Ends} {u t1 t2 : TS} {b c : Addr}
/-! ### None or a thing -/
def optM (o : Option α) (A : β) (B : α → β) : β := match o with | none => A | some x => B x
theorem opt_cases {o : Option α} {A : Option β} {B : α → Option β} {y : β} (h : optM o A B = some y) : (o = none ∧ A = some y) ∨ ∃ x, o = some x ∧ B x = some y := by
  cases o with
  | none => exact .inl ⟨rfl, h⟩
  | some x => exact .inr ⟨x, rfl, h⟩
theorem optp_cases {o : Option α} {A : Prop} {B : α → Prop} (h : optM o A B) : (o = none ∧ A) ∨ ∃ x, o = some x ∧ B x := by
  cases o with
  | none => exact .inl ⟨rfl, h⟩
  | some x => exact .inr ⟨x, rfl, h⟩
/-- a code whose things are never None -/
class NN (a : Ty K α) : Prop where
  h : ∀ {S H v x}, a.rp S H v x → v ≠ .non
instance : NN (K := K) tInt := ⟨fun h => by rw [show _ = _ from h]; intro z; cases z⟩
instance : NN (K := K) tBool := ⟨fun h => by rw [show _ = _ from h]; intro z; cases z⟩
instance : NN (K := K) tStr := ⟨fun h => by rw [h.1]; intro z; cases z⟩
instance : NN (K := K) tRat := ⟨fun ⟨p, e, _⟩ => by rw [e]; intro z; cases z⟩
instance : NN (tT2 a b') := ⟨fun ⟨p, u, w, e, _⟩ => by rw [e]; intro z; cases z⟩
instance : NN (tL a) := ⟨fun ⟨p, u, e, _⟩ => by rw [e]; intro z; cases z⟩
instance : NN (tTs a) := ⟨fun ⟨p, u, e, _⟩ => by rw [e]; intro z; cases z⟩
theorem ev_oN {r : Option Unit} (h : Ev S T te σ H (of (K := K) tNone S) r) : Ev S T te σ H (of (tOpt a) S) (bd r fun _ => some none) := ev_as h fun x y e H1 H2 v d hv => by
  cases e
  exact hv
theorem ev_oS [NN a] {r : Option α} (h : Ev S T te σ H (of a S) r) : Ev S T te σ H (of (tOpt a) S) (bd r fun x => some (some x)) := ev_as h fun x y e H1 H2 v d hv => by
  cases e
  exact ⟨NN.h hv, hv⟩
theorem eb_isN (ts : Sub T S) {i : Nat} {v : V} {x : Option α} (h : (tOpt a).rp S H v x) (e : σ[i]? = some (some v)) : EvB S T (tTest (tOp (fun x y H Q => y = .non ∧ Q (.bl (decide (x = .non))) H) (tVar i) (tC .non))) σ H (some x.isNone) := by
  intro z ez H1 f d Q q
  cases ez
  refine ⟨v, e, rfl, _, rfl, ?_⟩
  cases x with
  | none => rw [show v = .non from h]; exact q H1 (Same.refl _)
  | some y => rw [decide_eq_false h.1]; exact q H1 (Same.refl _)
theorem eb_notN (ts : Sub T S) {i : Nat} {v : V} {x : Option α} (h : (tOpt a).rp S H v x) (e : σ[i]? = some (some v)) : EvB S T (tTest (tOp (fun x y H Q => y = .non ∧ Q (.bl (!decide (x = .non))) H) (tVar i) (tC .non))) σ H (some x.isSome) := by
  intro z ez H1 f d Q q
  cases ez
  refine ⟨v, e, rfl, _, rfl, ?_⟩
  cases x with
  | none => rw [show v = .non from h]; exact q H1 (Same.refl _)
  | some y => rw [decide_eq_false h.1]; exact q H1 (Same.refl _)
theorem opt_is {v : V} {x : Option α} {y : α} (h : (tOpt a).rp S H v x) (e : x = some y) : a.rp S H v y := by
  subst e
  exact h.2
theorem opt_back [NN a] {v : V} {x : Option α} {y : α} (h : a.rp S H v y) (e : x = some y) : (tOpt a).rp S H v x := by
  subst e
  exact ⟨NN.h h, h⟩
/-! ### tuples of four -/
def tT4 (c1 : Ty K α) (c2 : Ty K β) (c3 : Ty K γ) (c4 : Ty K δ) : Ty K (α × β × γ × δ) where
  rp S H v x := ∃ a u1 u2 u3 u4, v = .ref a ∧ nT K S H a [u1, u2, u3, u4] ∧ c1.rp S H u1 x.1 ∧ c2.rp S H u2 x.2.1 ∧ c3.rp S H u3 x.2.2.1 ∧ c4.rp S H u4 x.2.2.2
  mono f := fun ⟨a, u1, u2, u3, u4, e, h, h1, h2, h3, h4⟩ => ⟨a, u1, u2, u3, u4, e, h.mono f, c1.mono f h1, c2.mono f h2, c3.mono f h3, c4.mono f h4⟩
  ext f := fun ⟨a, u1, u2, u3, u4, e, h, h1, h2, h3, h4⟩ => ⟨a, u1, u2, u3, u4, e, h.ext f, c1.ext f h1, c2.ext f h2, c3.ext f h3, c4.ext f h4⟩
  sub f := fun ⟨a, u1, u2, u3, u4, e, h, h1, h2, h3, h4⟩ => ⟨a, u1, u2, u3, u4, e, h.sub f, c1.sub f h1, c2.sub f h2, c3.sub f h3, c4.sub f h4⟩
theorem ev_tup4 {ra : Option α} {rb : Option β} {rc : Option γ} {rd : Option δ} (ha : Ev S T ta σ H (of a S) ra) (hb : Ev S T tb σ H (of b' S) rb) (hc : Ev S T tc σ H (of c' S) rc) (hd : Ev S T td σ H (of d' S) rd) :
    Ev S T (tTup (tCons ta (tCons tb (tCons tc (tCons td tNil))))) σ H (of (tT4 a b' c' d') S) (bd ra fun x => bd rb fun y => bd rc fun z => bd rd fun w => some (x, y, z, w)) := by
  intro z e H1 f1 d Q q
  obtain ⟨x, ex, e⟩ := bd_some e
  obtain ⟨y, ey, e⟩ := bd_some e
  obtain ⟨z3, ez, e⟩ := bd_some e
  obtain ⟨w4, ew, e⟩ := bd_some e
  cases e
  refine ha x ex H1 f1 d _ fun v1 H2 s2 h1 => hb y ey H2 (f1.trans (Fr.same s2)) (d.same s2) _ fun v2 H3 s3 h2 => hc z3 ez H3 (f1.trans (Fr.same (s2.trans s3))) (d.same (s2.trans s3)) _ fun v3 H4 s4 h3 => hd w4 ew H4 (f1.trans (Fr.same ((s2.trans s3).trans s4))) (d.same ((s2.trans s3).trans s4)) _ fun v4 H5 s5 h4 => ⟨(by show 4 ≤ sizeLine; decide), fun p hp => ?_⟩
  have sn := same_new (o := .tup [v1, v2, v3, v4]) hp
  have dd := d.same (((s2.trans s3).trans s4).trans s5)
  exact q _ _ ((((s2.trans s3).trans s4).trans s5).trans sn) ⟨p, v1, v2, v3, v4, rfl, .inl ⟨.inl upd_same, dd.not_mem hp⟩, a.mono (Fr.same (((s3.trans s4).trans s5).trans sn)) h1, b'.mono (Fr.same ((s4.trans s5).trans sn)) h2, c'.mono (Fr.same (s5.trans sn)) h3, d'.mono (Fr.same sn) h4⟩
/-! a, b = e -/
theorem q_unp2 {i j : Nat} {r : Option (α × β)} {x : α × β} (d : Dom S H) (h : Ev S T te σ H (of (tT2 a b') S) r) (e : r = some x) (k : ∀ v w H1, Same H H1 → a.rp S H1 v x.1 → b'.rp S H1 w x.2 → u D ((σ.set i (some v)).set j (some w)) H1) :
    tSeq (tAsg te (gTup K 2 (gCons (gName i) (gCons (gName j) gNil)))) u D σ H := h x e H (Fr.refl _) d _ fun v H1 s1 ⟨p, u1, u2, ev, hp, h1, h2⟩ => ⟨p, _, ev, hp.sq, rfl, u1, _, rfl, u2, _, rfl, rfl, k u1 u2 H1 s1 h1 h2⟩
theorem q_unp4 {i j l m : Nat} {r : Option (α × β × γ × δ)} {x : α × β × γ × δ} (d : Dom S H) (h : Ev S T te σ H (of (tT4 a b' c' d') S) r) (e : r = some x) (k : ∀ v1 v2 v3 v4 H1, Same H H1 → a.rp S H1 v1 x.1 → b'.rp S H1 v2 x.2.1 → c'.rp S H1 v3 x.2.2.1 → d'.rp S H1 v4 x.2.2.2 → u D ((((σ.set i (some v1)).set j (some v2)).set l (some v3)).set m (some v4)) H1) :
    tSeq (tAsg te (gTup K 4 (gCons (gName i) (gCons (gName j) (gCons (gName l) (gCons (gName m) gNil)))))) u D σ H := h x e H (Fr.refl _) d _ fun v H1 s1 ⟨p, u1, u2, u3, u4, ev, hp, h1, h2, h3, h4⟩ => ⟨p, _, ev, hp.sq, rfl, u1, _, rfl, u2, _, rfl, u3, _, rfl, u4, _, rfl, rfl, k u1 u2 u3 u4 H1 s1 h1 h2 h3 h4⟩
theorem ev_revL {r : Option (List α)} (h : Ev S T te σ H (of (tL a) S) r) : Ev S T (tRevL K te) σ H (nw a S) (bd r fun x => some x.reverse) := by
  intro z e H1 f1 d Q q
  obtain ⟨x, ex, e⟩ := bd_some e
  cases e
  refine h x ex H1 f1 d _ fun v H2 s2 hv => ?_
  obtain ⟨p, vs, rfl, hp, ha⟩ := hv
  have hr : ∀ {vs : List V} {xs : List α}, All2 (a.rp S H2) vs xs → All2 (a.rp S H2) vs.reverse xs.reverse := fun {vs xs} h => by
    induction h with
    | nil => exact .nil
    | cons h _ ih => rw [List.reverse_cons, List.reverse_cons]; exact ih.snoc h
  exact ⟨p, vs, rfl, hp.sq, fun l hl => q _ _ (s2.trans (same_new hl)) ⟨l, rfl, s2.free hl, _, upd_same, (hr ha).imp fun _ _ h => a.mono (Fr.same (same_new hl)) (a.ext hl h)⟩⟩
end
end M

namespace M
open PySem L2 G
section
variable {K : PySem.W.Frag} {α β γ δ ε ρ : Type} {S T : AS} {σ : St} {H : Hp} {ta tb te tc td : TE} {tt tu : TT} {a : Ty K α} {b' : Ty K β} {c' : Ty K γ} {d' : Ty K δ} {D : Ends} {u t1 t2 : TS} {b c : Addr}
def rLenQ (K : PySem.W.Frag) : List V → Hp → VK → Prop := fun xs H Q => ∃ p ys, xs = [.ref p] ∧ (SqL K H p ys ∨ SqT K H p ys) ∧ Q (.int ys.length) H
/-! ### lists put together -/
def cat? (xs ys : List α) : Option (List α) := if xs.length + ys.length ≤ 100000 then some (xs ++ ys) else none
theorem od_cat : OpD (tL a) (tL a) S (nw a S) rCat cat? := by
  intro x y z e H1 v w d hv hw Q q
  unfold cat? at e
  split at e
  · rename_i hl
    cases e
    obtain ⟨p, vs, rfl, hp, ha⟩ := hv
    obtain ⟨p', ws, rfl, hp', hb⟩ := hw
    refine ⟨p, p', vs, ws, rfl, rfl, hp.1, hp'.1, Nat.le_trans (by rw [ha.len, hb.len]; exact hl) (by decide), fun l hl => q _ _ (same_new hl) ⟨l, rfl, hl, _, upd_same, (ha.app hb).imp fun _ _ h => a.mono (Fr.same (same_new hl)) (a.ext hl h)⟩⟩
  · cases e
theorem ev_catO {p : Addr} {ys : List α} {i : Nat} {ra : Option (List α)} (o : Own a S H p ys) (nt : p ∉ T) (ts : Sub T S) (hi : σ[i]? = some (some (.ref p))) (ha : Ev S T ta σ H (of (tL a) S) ra) : Ev S T (tOp rCat ta (tVar i)) σ H (nw a S) (bd ra fun x => cat? x ys) := by
  intro z e H1 f1 d Q q
  obtain ⟨x, ex, e⟩ := bd_some e
  unfold cat? at e
  split at e
  · rename_i hl
    cases e
    refine ha x ex H1 f1 d _ fun v H2 s2 hv => ⟨_, hi, ?_⟩
    obtain ⟨ws, hw, hb⟩ := (o.fr f1 ts nt).same s2
    obtain ⟨p', vs, rfl, hp, hvs⟩ := hv
    exact ⟨p', p, vs, ws, rfl, rfl, hp.1, hw, Nat.le_trans (by rw [hvs.len, hb.len]; exact hl) (by decide), fun l hl => q _ _ (s2.trans (same_new hl)) ⟨l, rfl, s2.free hl, _, upd_same, (hvs.app hb).imp fun _ _ h => a.mono (Fr.same (same_new hl)) (a.ext hl h)⟩⟩
  · cases e
theorem Fr.transx {S S' : AS} {H0 H1 H2 : Hp} (f : Fr S H0 H1) (g : Fr S' H1 H2) (h : ∀ a ∈ S', a ∉ S → H0 a = none) : Fr S H0 H2 := fun a o e n => g a o (f a o e n) fun m => by rw [h a m n] at e; cases e
theorem fresh_cons {S S' : AS} {H0 : Hp} {p : Addr} (h : ∀ a ∈ S', a ∉ S → H0 a = none) (n : H0 p = none) : ∀ a ∈ p :: S', a ∉ S → H0 a = none := fun a m k => by
  rcases List.mem_cons.mp m with rfl | m
  · exact n
  · exact h a m k
def rep? (xs : List α) (k : Int) : Option (List α) := if 0 ≤ k ∧ k ≤ 1000 ∧ xs.length ≤ 100 then some (List.replicate k.toNat xs).flatten else none
theorem All2.rep {F : V → α → Prop} {vs : List V} {xs : List α} (h : All2 F vs xs) : ∀ n : Nat, All2 F (List.replicate n vs).flatten (List.replicate n xs).flatten
  | 0 => .nil
  | n + 1 => by
    rw [List.replicate_succ, List.replicate_succ, List.flatten_cons, List.flatten_cons]
    exact h.app (All2.rep h n)
theorem od_rep : OpD (tL a) (K := K) tInt S (nw a S) rRep rep? := by
  intro x y z e H1 v w d hv hw Q q
  unfold rep? at e
  split at e
  · rename_i hl
    cases e
    obtain ⟨p, vs, rfl, hp, ha⟩ := hv
    cases hw
    refine ⟨p, y, vs, rfl, rfl, hp.1, by omega, by omega, ?_, fun l hl => q _ _ (same_new hl) ⟨l, rfl, hl, _, upd_same, (ha.rep _).imp fun _ _ h => a.mono (Fr.same (same_new hl)) (a.ext hl h)⟩⟩
    refine Nat.le_trans (Nat.mul_le_mul (show vs.length ≤ 100 by rw [ha.len]; omega) (show y.toNat ≤ 1000 by omega)) (by decide)
  · cases e
/-! ### the least of several -/
theorem All2.ints {S : AS} {H : Hp} : ∀ {vs : List V} {xs : List Int}, All2 ((tInt (K := K)).rp S H) vs xs → vs = xs.map V.int
  | _, _, .nil => rfl
  | _, _, .cons h r => by rw [List.map_cons, ← All2.ints r, show _ = _ from h]
theorem ev_min {r : Option (List Int)} (h : Ev S T te σ H (of (K := K) (tL tInt) S) r) : Ev S T (tCB (rMin K) (tCons te tNil)) σ H (of (K := K) tInt S) (bd r fun x => x.min?) := by
  intro z e H1 f1 d Q q
  obtain ⟨x, ex, e⟩ := bd_some e
  have hm := List.min?_eq_some_iff.mp e
  refine h x ex H1 f1 d _ fun v H2 s hv => ?_
  obtain ⟨p, vs, rfl, hp, ha⟩ := hv
  refine ⟨p, x, rfl, by rw [← ha.ints]; exact hp.sq, List.length_pos_of_mem hm.1, fun m h1 h2 => ?_⟩
  have : m = z := Int.le_antisymm (h2 z hm.1) (hm.2 m h1)
  rw [this]
  exact q _ H2 s rfl
/-! ### in -/
theorem inV_int (i : Int) : ∀ xs : List Int, inV (.int i) (xs.map V.int) = decide (i ∈ xs)
  | [] => by simp [inV]
  | x :: r => by
    have ih := inV_int i r
    unfold inV at ih ⊢
    rw [List.map_cons, List.any_cons, ih]
    have : eqV (.int x) (.int i) = decide (x = i) := by
      simp [eqV]
      rfl
    rw [this]
    by_cases c : x = i
    · subst c; simp
    · have : ¬ i = x := fun z => c z.symm
      simp [c, this]
theorem flat_ints : ∀ xs : List Int, (xs.map V.int).all flatV = true
  | [] => rfl
  | x :: r => by rw [List.map_cons, List.all_cons, flat_ints r]; rfl
theorem od_inI {neg : Bool} : OpD (K := K) tInt (tL tInt) S (of (K := K) tBool S) (rIn K neg) (fun x xs => some (if neg then !decide (x ∈ xs) else decide (x ∈ xs))) := by
  intro x y z e H1 v w d hv hw Q q
  cases e
  obtain ⟨p, vs, rfl, hp, ha⟩ := hw
  cases hv
  refine ⟨p, vs, rfl, .inl hp.sq, rfl, by rw [ha.ints]; exact flat_ints y, ?_⟩
  rw [ha.ints, inV_int]
  exact q _ H1 (Same.refl _) rfl
theorem od_inIT {neg : Bool} : OpD (K := K) tInt (tTs tInt) S (of (K := K) tBool S) (rIn K neg) (fun x xs => some (if neg then !decide (x ∈ xs) else decide (x ∈ xs))) := by
  intro x y z e H1 v w d hv hw Q q
  cases e
  obtain ⟨p, vs, rfl, hp, ha⟩ := hw
  cases hv
  refine ⟨p, vs, rfl, .inr hp.sq, rfl, by rw [ha.ints]; exact flat_ints y, ?_⟩
  rw [ha.ints, inV_int]
  exact q _ H1 (Same.refl _) rfl
/-! ### a list or a tuple -/
def tSq (a : Ty K α) : Ty K (List α) where
  rp S H v xs := (tL a).rp S H v xs ∨ (tTs a).rp S H v xs
  mono f := fun h => h.elim (fun h => .inl ((tL a).mono f h)) (fun h => .inr ((tTs a).mono f h))
  ext f := fun h => h.elim (fun h => .inl ((tL a).ext f h)) (fun h => .inr ((tTs a).ext f h))
  sub f := fun h => h.elim (fun h => .inl ((tL a).sub f h)) (fun h => .inr ((tTs a).sub f h))
theorem ev_L2Sq {r : Option (List α)} (h : Ev S T te σ H (of (tL a) S) r) : Ev S T te σ H (of (tSq a) S) r := fun x e H1 f d Q q => h x e H1 f d Q fun v H2 s hv => q v H2 s (.inl hv)
theorem ev_T2Sq {r : Option (List α)} (h : Ev S T te σ H (of (tTs a) S) r) : Ev S T te σ H (of (tSq a) S) r := fun x e H1 f d Q q => h x e H1 f d Q fun v H2 s hv => q v H2 s (.inr hv)
theorem od_inISq {neg : Bool} : OpD (K := K) tInt (tSq tInt) S (of (K := K) tBool S) (rIn K neg) (fun x xs => some (if neg then !decide (x ∈ xs) else decide (x ∈ xs))) := by
  intro x y z e H1 v w d hv hw Q q
  rcases hw with hw | hw
  · exact od_inI x y z e H1 v w d hv hw Q q
  · exact od_inIT x y z e H1 v w d hv hw Q q
theorem ev_listSq {r : Option (List α)} (h : Ev S T te σ H (of (tSq a) S) r) : Ev S T (tCB (fun xs H Q => ∃ p ys, xs = [.ref p] ∧ (SqL K H p ys ∨ SqT K H p ys) ∧ ∀ l, H l = none → Q (.ref l) (upd H l (.lst ys))) (tCons te tNil)) σ H (nw a S) r := fun x e H1 f d Q q => by
  refine h x e H1 f d _ fun v H2 s2 hv => ?_
  rcases hv with ⟨p, vs, rfl, hp, ha⟩ | ⟨p, vs, rfl, hp, ha⟩
  · exact ⟨p, vs, rfl, .inl hp.sq, fun l hl => q _ _ (s2.trans (same_new hl)) ⟨l, rfl, s2.free hl, vs, upd_same, ha.imp fun _ _ h => a.mono (Fr.same (same_new hl)) (a.ext hl h)⟩⟩
  · exact ⟨p, vs, rfl, .inr hp.sq, fun l hl => q _ _ (s2.trans (same_new hl)) ⟨l, rfl, s2.free hl, vs, upd_same, ha.imp fun _ _ h => a.mono (Fr.same (same_new hl)) (a.ext hl h)⟩⟩
/-! ### tuple(xs) -/
theorem ev_tupleL {r : Option (List α)} (h : Ev S T te σ H (of (tL a) S) r) : Ev S T (tCB (fun xs H Q => ∃ p ys, xs = [.ref p] ∧ ((SqL K H p ys ∧ ∀ l, H l = none → Q (.ref l) (upd H l (.tup ys))) ∨ (SqT K H p ys ∧ Q (.ref p) H))) (tCons te tNil)) σ H (of (tTs a) S) r := fun x e H1 f d Q q => by
  refine h x e H1 f d _ fun v H2 s2 hv => ?_
  obtain ⟨p, vs, rfl, hp, ha⟩ := hv
  exact ⟨p, vs, rfl, .inl ⟨hp.sq, fun l hl => q _ _ (s2.trans (same_new hl)) ⟨l, vs, rfl, .inl ⟨.inl upd_same, (d.same s2).not_mem hl⟩, ha.imp fun _ _ h => a.mono (Fr.same (same_new hl)) h⟩⟩⟩
/-! ### xs[i] = e of an owned list -/
def set? (xs : List α) (i : Int) (x : α) : Option (List α) := (ixN xs.length i).bind fun j => some (xs.set j x)
theorem l_set {p : Addr} {xs ys : List α} {i : Nat} {r : Option α} {ri : Option Int} {x : α} {k : Int} (d : Dom S H) (o : Own a S H p xs) (im : p ∈ S) (nt : p ∉ T) (ts : Sub T S) (hi : σ[i]? = some (some (.ref p))) (h : Ev S T te σ H (of a S) r) (e : r = some x) (hk : Ev S T td σ H (of (K := K) tInt S) ri) (ek : ri = some k) (f : set? xs k x = some ys)
    (q : ∀ H1, Mut1 p H H1 → Fr S H H1 → Own a S H1 p ys → D.nx σ H1) : tAsg te (gSub (tVar i) td rSetL) D σ H := by
  obtain ⟨vs, hv, ha⟩ := o
  obtain ⟨j, ej, f⟩ := bd_some f
  cases f
  refine h x e H (Fr.refl _) d _ fun v H1 s1 hx => ⟨_, hi, hk k ek H1 (Fr.same s1) (d.same s1) _ fun w H2 s2 hw => ?_⟩
  cases hw
  refine ⟨p, vs, k, j, rfl, rfl, s2 _ _ (s1 _ _ hv), by rw [ha.len]; exact ej, ?_⟩
  have f1 : Fr S H2 (upd H2 p (.lst (vs.set j v))) := fr_upd im
  refine q _ ⟨fun b ob e n => by rw [upd_ne n]; exact s2 _ _ (s1 _ _ e), by rw [upd_same]; intro z; cases z⟩ ((Fr.same (s1.trans s2)).trans f1) ⟨_, upd_same, ?_⟩
  exact (All2.set (a.mono (Fr.same s2) hx) j (ha.imp fun _ _ h => a.mono (Fr.same (s1.trans s2)) h)).imp fun _ _ h => a.mono f1 h
theorem q_set {p : Addr} {xs ys : List α} {i : Nat} {r : Option α} {ri : Option Int} {x : α} {k : Int} (d : Dom S H) (o : Own a S H p xs) (im : p ∈ S) (nt : p ∉ T) (ts : Sub T S) (hi : σ[i]? = some (some (.ref p))) (h : Ev S T te σ H (of a S) r) (e : r = some x) (hk : Ev S T td σ H (of (K := K) tInt S) ri) (ek : ri = some k) (f : set? xs k x = some ys)
    (q : ∀ H1, Mut1 p H H1 → Fr S H H1 → Own a S H1 p ys → u D σ H1) : tSeq (tAsg te (gSub (tVar i) td rSetL)) u D σ H := l_set (D := { D with nx := u D }) d o im nt ts hi h e hk ek f q
/-! ### range(a, b, -1) -/
def dnL (i : Int) (n : Nat) : List Int := (List.range n).map fun (k : Nat) => i - (k : Int)
def rng3? (i j : Int) : Option (List Int) := if rngP i && rngP j then some (dnL i (i - j).toNat) else none
theorem wk_dn {i : Int} {n : Nat} : Wk (Itc i (-1) n) (tInt (K := K)) S H (dnL i n) where
  go H' k f hi := by
    show k < n
    simpa [dnL] using hi
  yl H' k v H'' f h y hy := by
    obtain ⟨e, hx⟩ := h
    refine ⟨e, ?_⟩
    unfold dnL at hy
    rw [List.getElem?_map] at hy
    cases q : (List.range n)[k]? with
    | none => rw [q] at hy; cases hy
    | some m =>
      rw [q] at hy
      cases hy
      have : m = k := by
        have := (List.getElem?_eq_some_iff.mp q).2
        simp at this
        omega
      subst this
      rw [hx]
      show V.int (i + ((m : Nat) : Int) * -1) = V.int (i - (m : Int))
      congr 1
      omega
  st H' k f hi := by
    show n ≤ k
    simpa [dnL] using hi
theorem sr_r3 {te tg : TE} {r r' : Option Int} (h : Ev S T te σ H (of (K := K) tInt S) r) (h' : Ev S T tg σ H (of (K := K) tInt S) r') : Sr S T (iRng3 (tCons te (tCons tg (tCons (tUn (rU fun i => .int (-i)) (tC (.int 1))) tNil)))) σ H (tInt (K := K)) (bd r fun x => bd r' fun y => rng3? x y) := fun xs e H1 f d R q => by
  obtain ⟨lo, el, e⟩ := bd_some e
  obtain ⟨n, en, e⟩ := bd_some e
  unfold rng3? at e
  split at e
  · rename_i hn
    cases e
    rw [Bool.and_eq_true] at hn
    have hb := rngP_le hn.1
    have hc := rngP_le hn.2
    refine h lo el H1 f d _ fun v H2 s hv => h' n en H2 (f.trans (Fr.same s)) (d.same s) _ fun v' H3 s3 hv' => ?_
    cases hv
    cases hv'
    exact ⟨1, rfl, lo, n, -1, _, rfl, RgC.neg hb.1 hb.2 hc.1 hc.2, q _ H3 (s.trans s3) wk_dn⟩
  · cases e
end
end M

namespace M
open PySem L2 G
section
variable {K : PySem.W.Frag} {α β γ δ ε ρ : Type} {S T : AS} {σ : St} {H : Hp} {ta tb te tc td : TE} {tt tu : TT} {a : Ty K α} {b' : Ty K β} {D : Ends} {u t1 t2 : TS} {b c : Addr}
/-! ### comprehensions that draw -/
def filW (f : α → Wp (Option β)) : List α → Wp (List β)
  | [], P => P []
  | x :: xs, P => f x fun o => filW f xs fun ys => P (o.toList ++ ys)
def lcW (w : Wp (List α)) (f : α → Wp (Option β)) : Wp (List β) := fun P => w fun xs => if xs.length < 100000 then filW f xs P else False
theorem ew_lcCore {wi : TI} {j : Nat} {ws : List Nat} {w : Wp (List α)} {f : α → Wp (Option β)} (h : SrW b c S wi σ H a w) (hw : ∀ x, wipe ((wipe σ ws).set j (some x)) ws = wipe σ ws)
    (he : ∀ (x : α) (v : V) (H2 H' : Hp) (p : Addr) (Po : Option β → Prop), Sub [b, c] S → Fr [b, c] H H2 → H2 p = none → Fr [b, c] H2 H' → a.rp (p :: S) H' v x → Dom (p :: S) H' → Bag H' b c → f x Po → ∀ (Q1 : V → Hp → Prop) (Q0 : Hp → Prop),
      (∀ y w H3, Po (some y) → Fr [b, c] H' H3 → Dom (p :: S) H3 → Bag H3 b c → b'.rp (p :: S) H3 w y → Q1 w H3) → (∀ H3, Po none → Fr [b, c] H' H3 → Dom (p :: S) H3 → Bag H3 b c → Q0 H3) →
      tt ((wipe σ ws).set j (some v)) H' fun k H3 => if k = true then te ((wipe σ ws).set j (some v)) H3 Q1 else Q0 H3) :
    EvW b c S (tLc wi (gName j) tt te ws) σ H (nw b' S) (lcW w f) := fun ts P hP H1 f1 d hB Q q => by
  refine h ts _ hP H1 f1 d hB _ fun J H2 xs hx f2 d2 hB2 wk => fun Dl hD => ?_
  split at hx
  rotate_left
  · exact hx.elim
  rename_i hlen
  have nD : Dl ∉ [b, c] := hB2.dom.not_mem hD
  have sD : Same H2 (upd H2 Dl (.lst [])) := same_new hD
  refine ⟨fun i m H' => m = xs.length - i ∧ i ≤ xs.length ∧ ∃ acc pre, H' Dl = some (.lst acc) ∧ Fr [b, c] H2 H' ∧ Dom (Dl :: S) H' ∧ Bag H' b c ∧ acc.length ≤ i ∧ All2 (b'.rp (Dl :: S) H') acc pre ∧ filW f (xs.drop i) fun suf => P (pre ++ suf),
    ⟨_, rfl, Nat.zero_le _, [], [], upd_same, Fr.same sD, (d2.same sD).cons upd_same, hB2.same sD, Nat.zero_le _, .nil, hx⟩, ?_⟩
  rintro i m H' ⟨rfl, hi, acc, pre, h1, h2, h3, h4, h5, h6, h7⟩
  have g2 : Fr S H2 H' := h2.sub ts
  by_cases cc : i < xs.length
  · right
    rw [List.drop_eq_getElem_cons cc] at h7
    simp only [filW] at h7
    refine ⟨wk.go H' i g2 cc, fun H3 => ∃ acc pre, H3 Dl = some (.lst acc) ∧ Fr [b, c] H2 H3 ∧ Dom (Dl :: S) H3 ∧ Bag H3 b c ∧ acc.length ≤ i + 1 ∧ All2 (b'.rp (Dl :: S) H3) acc pre ∧ filW f (xs.drop (i + 1)) fun suf => P (pre ++ suf), ?_, ?_⟩
    · rintro H3 ⟨acc, pre, k⟩
      exact ⟨xs.length - (i + 1), by omega, rfl, by omega, acc, pre, k⟩
    · intro v H3 hy
      obtain ⟨rfl, hv⟩ := wk.yl H' i v H3 g2 hy _ (List.getElem?_eq_getElem cc)
      refine ⟨hw v, ?_⟩
      refine he xs[i] v H2 _ Dl _ ts (f1.trans f2) hD h2 (a.mono (h2.sub (sub_cons ts)) (a.ext hD hv)) h3 h4 h7 _ _ (fun y w H4 hPo f4 d4 hB4 hw4 => ?_) (fun H4 hPo f4 d4 hB4 => ?_)
      · have fD : Fr (Dl :: S) H4 (upd H4 Dl (.lst (acc ++ [w]))) := fr_upd (List.mem_cons_self ..)
        refine ⟨acc, f4 _ _ h1 nD, Nat.lt_of_lt_of_le (by omega : acc.length < 100000) (by decide), acc ++ [w], pre ++ [y], upd_same, fun p ob eb nb => ?_, d4.upd, ?_, by simp; omega, ?_, ?_⟩
        · rw [upd_ne (ne_of_none eb hD)]
          exact f4 _ _ (h2 _ _ eb nb) nb
        · obtain ⟨ne, ns, sl, sd, e1, e2, r⟩ := hB4
          simp only [List.mem_cons, List.not_mem_nil, or_false, not_or] at nD
          exact ⟨ne, ns, sl, sd, by rw [upd_ne (Ne.symm nD.1)]; exact e1, by rw [upd_ne (Ne.symm nD.2)]; exact e2, r⟩
        · exact ((h6.imp fun _ _ h => b'.mono (f4.sub (sub_cons ts)) h).snoc hw4).imp fun _ _ h => b'.mono fD h
        · simpa using hPo
      · refine ⟨acc, pre, f4 _ _ h1 nD, h2.trans f4, d4, hB4, by omega, h6.imp fun _ _ h => b'.mono (f4.sub (sub_cons ts)) h, ?_⟩
        simpa using hPo
  · left
    rw [List.drop_eq_nil_of_le (by omega)] at h7
    refine ⟨wk.st H' i g2 (by omega), q _ _ pre (by simpa [filW] using h7) (f2.trans h2) (h3.sub (sub_cons fun a m => m)) h4 ⟨Dl, rfl, fr_back f2 hB2.dom hD, acc, h1, h6⟩⟩
theorem ew_lc {wi : TI} {j : Nat} {ws : List Nat} {w : Wp (List α)} {f : α → Wp β} (h : SrW b c S wi σ H a w) (hw : ∀ x, wipe ((wipe σ ws).set j (some x)) ws = wipe σ ws)
    (he : ∀ (x : α) (v : V) (H2 H' : Hp) (p : Addr), Sub [b, c] S → Fr [b, c] H H2 → H2 p = none → Fr [b, c] H2 H' → a.rp (p :: S) H' v x → EvW b c (p :: S) te ((wipe σ ws).set j (some v)) H' (of b' (p :: S)) (f x)) :
    EvW b c S (tLc wi (gName j) tYes te ws) σ H (nw b' S) (lcW w fun x Po => f x fun y => Po (some y)) :=
  ew_lcCore h hw fun x v H2 H' p Po ts g1 g2 g3 g4 g5 g6 g7 Q1 Q0 q1 q0 => by
    refine G.yes_ ?_
    exact he x v H2 H' p ts g1 g2 g3 g4 (sub_cons ts) _ g7 H' (Fr.refl _) g5 g6 _ fun w H3 y hy f3 d3 hB3 hw3 => q1 y w H3 hy f3 d3 hB3 hw3
theorem ew_lcF {wi : TI} {j : Nat} {ws : List Nat} {w : Wp (List α)} {t : α → Wp Bool} {f : α → Wp β} (h : SrW b c S wi σ H a w) (hw : ∀ x, wipe ((wipe σ ws).set j (some x)) ws = wipe σ ws)
    (ht : ∀ (x : α) (v : V) (H2 H' : Hp) (p : Addr), Sub [b, c] S → Fr [b, c] H H2 → H2 p = none → Fr [b, c] H2 H' → a.rp (p :: S) H' v x → BvW b c (p :: S) tt ((wipe σ ws).set j (some v)) H' (t x))
    (he : ∀ (x : α) (v : V) (H2 H' : Hp) (p : Addr), Sub [b, c] S → Fr [b, c] H H2 → H2 p = none → Fr [b, c] H2 H' → a.rp (p :: S) H' v x → EvW b c (p :: S) te ((wipe σ ws).set j (some v)) H' (of b' (p :: S)) (f x)) :
    EvW b c S (tLc wi (gName j) tt te ws) σ H (nw b' S) (lcW w fun x Po => t x fun k => if k then f x fun y => Po (some y) else Po none) :=
  ew_lcCore h hw fun x v H2 H' p Po ts g1 g2 g3 g4 g5 g6 g7 Q1 Q0 q1 q0 => by
    refine ht x v H2 H' p ts g1 g2 g3 g4 (sub_cons ts) _ g7 H' (Fr.refl _) g5 g6 _ fun H3 k hk f3 d3 hB3 => ?_
    cases k with
    | true =>
      have hk := ifp_t hk
      show if true = true then _ else _
      rw [if_pos rfl]
      refine he x v H2 H' p ts g1 g2 g3 g4 (sub_cons ts) _ hk H3 f3 d3 hB3 _ fun w H4 y hy f4 d4 hB4 hw4 => q1 y w H4 hy (f3.trans f4) d4 hB4 hw4
    | false =>
      have hk := ifp_f hk
      show if false = true then _ else _
      rw [if_neg (by decide)]
      exact q0 H3 hk f3 d3 hB3
end
end M

namespace M
open PySem L2 G
/-! ### a def with one keyword-only parameter that has a default -/
structure AtK (K : PySem.W.Frag) (mg : Str → Option Value) (name : String) (st : Stmt) (ps : List Str) (n : Nat) (kw : Str) (dv : V) (f : Addr) (fd : FuncData) : Prop where
  F : Fun K (Str.ofString name) (Str.ofString name) st f fd
  m : mg (Str.ofString name) = some (.ref f)
  kb : KBn K fd ps n [kw] (fun us ws => us ++ ws) (fun vs zs => vs ++ zs)
  b0 : ∃ ds, Vals [dv] ds ∧ Binds K fd ps ds
theorem kb_of {K : PySem.W.Frag} {x : Str} {st : Stmt} {f : Addr} {fd : FuncData} {ps : List Str} {n : Nat} {kw : Str} (F : Fun K x x st f fd)
    (h : ∀ (kV doc pm : Value) (an : Option Addr) (cdv ct : Value) (us ws : List Value), us.length = n → ws.length = 1 → bindArgs (PySem.W.fnOf x x (defArgs st) (defBody st) (defScope st) .none kV doc pm an cdv ct) ⟨us, [kw].zip ws⟩ = pure (ps.zip (us ++ ws))) :
    KBn K fd ps n [kw] (fun us ws => us ++ ws) (fun vs zs => vs ++ zs) := by
  obtain ⟨oc, od, kV, doc, pm, an, cdv, ct, osl, rfl, lk, hcd⟩ := F.ex
  exact ⟨fun s us ws X h1 h2 => .of_eq (h kV doc pm an cdv ct us ws h1 h2), fun r1 r2 => r1.append r2⟩
section
variable {K : PySem.W.Frag} {α β γ δ ε ρ : Type} {S T : AS} {σ : St} {H : Hp} {t1 t2 t3 t4 t5 : TE} {a1 : Ty K α} {a2 : Ty K β} {a3 : Ty K γ} {R : AS → Rl ρ} {E : XK}
theorem ev_callK {f : α × β × γ × Unit → Option ρ} {r1 : Option α} {r2 : Option β} {r3 : Option γ} (h1 : Ev S T t1 σ H (of a1 S) r1) (h2 : Ev S T t2 σ H (of a2 S) r2) (h3 : Ev S T t3 σ H (of a3 S) r3) :
    Ev S T (tCallN 2 1 (spF (aCons a1 (aCons a2 (aCons a3 aNil))) R f) (fun vs zs => vs ++ zs) E (tCons t1 (tCons t2 tNil)) (tCons t3 tNil)) σ H (R S) (bd r1 fun x => bd r2 fun y => bd r3 fun z => f (x, y, z, ())) := by
  intro o e H1 f1 d Q q
  obtain ⟨x, ex, e⟩ := bd_some e
  obtain ⟨y, ey, e⟩ := bd_some e
  obtain ⟨z, ez, e⟩ := bd_some e
  refine h1 x ex H1 f1 d _ fun v1 H2 s2 g1 => h2 y ey H2 (f1.trans (Fr.same s2)) (d.same s2) _ fun v2 H3 s3 g2 => h3 z ez H3 (f1.trans (Fr.same (s2.trans s3))) (d.same (s2.trans s3)) _ fun v3 H4 s4 g3 => ⟨rfl, rfl, S, (x, y, z, ()), o, d.same ((s2.trans s3).trans s4), ⟨v1, _, rfl, a1.mono (Fr.same (s3.trans s4)) g1, v2, _, rfl, a2.mono (Fr.same s4) g2, v3, _, rfl, g3, rfl⟩, e, fun u H' s hu => q u H' (((s2.trans s3).trans s4).trans s) ((R S).same ((s2.trans s3).trans s4) hu)⟩
theorem ev_callD {f : α × β × γ × Unit → Option ρ} {r1 : Option α} {r2 : Option β} {dv : V} {z : γ} (hz : ∀ S H, a3.rp S H dv z) (h1 : Ev S T t1 σ H (of a1 S) r1) (h2 : Ev S T t2 σ H (of a2 S) r2) :
    Ev S T (tCall (spF (aCons a1 (aCons a2 (aCons a3 aNil))) R f) [dv] E (tCons t1 (tCons t2 tNil))) σ H (R S) (bd r1 fun x => bd r2 fun y => f (x, y, z, ())) := by
  intro o e H1 f1 d Q q
  obtain ⟨x, ex, e⟩ := bd_some e
  obtain ⟨y, ey, e⟩ := bd_some e
  refine h1 x ex H1 f1 d _ fun v1 H2 s2 g1 => h2 y ey H2 (f1.trans (Fr.same s2)) (d.same s2) _ fun v2 H3 s3 g2 => ⟨S, (x, y, z, ()), o, d.same (s2.trans s3), ⟨v1, _, rfl, a1.mono (Fr.same s3) g1, v2, _, rfl, g2, dv, _, rfl, hz S H3, rfl⟩, e, fun u H' s hu => q u H' ((s2.trans s3).trans s) ((R S).same (s2.trans s3) hu)⟩
end
end M

namespace M
open PySem L2 G
section
variable {K : PySem.W.Frag} {α β γ δ ε ρ : Type} {S T : AS} {σ : St} {H : Hp} {ta tb te tc : TE} {tt tu : TT} {a : Ty K α} {b' : Ty K β} {c' : Ty K γ} {D : Ends} {u t1 t2 : TS} {b c : Addr}
/-! ### while -/
def whileC (t : δ → Option Bool) (f : δ → Option (Ct ρ δ)) : Nat → δ → Option (Ct ρ δ)
  | 0, _ => none
  | n + 1, s => (t s).bind fun k => if k then (f s).bind fun r => match r with | .go s' => whileC t f n s' | .ret y => some (.ret y) | .brk s' => some (.go s') else some (.go s)
theorem while_s {tb : TS} {n : Nat} {s0 : δ} {t : δ → Option Bool} {f : δ → Option (Ct ρ δ)} {res : Ct ρ δ} (hf : whileC t f n s0 = some res)
    (I : δ → St → Hp → Prop) (h0 : I s0 σ H)
    (test : ∀ s σ' H', I s σ' H' → ∃ S', Dom S' H' ∧ EvB S' T tt σ' H' (t s))
    (step : (∀ s σ' H' H1, res = .go s → I s σ' H' → Same H' H1 → D.nx σ' H1) → ∀ (s : δ) (cr : Ct ρ δ) (σ' : St) (H' H1 : Hp), I s σ' H' → Same H' H1 → f s = some cr → (∀ y, cr = .ret y → res = .ret y) → (∀ s', cr = .brk s' → res = .go s') →
      tb { D with nx := fun σ2 H2 => ∃ s', cr = .go s' ∧ Fr S H1 H2 ∧ I s' σ2 H2, ct := fun σ2 H2 => ∃ s', cr = .go s' ∧ Fr S H1 H2 ∧ I s' σ2 H2, bk := D.nx } σ' H1)
    (done : ∀ s σ' H' H1, res = .go s → I s σ' H' → Same H' H1 → D.nx σ' H1) : tWhile tt tb D σ H := by
  refine ⟨fun m σ' H' => ∃ s, I s σ' H' ∧ whileC t f m s = some res, ⟨n, s0, h0, hf⟩, ?_⟩
  rintro m σ' H' ⟨s, hI, hw⟩
  cases m with
  | zero => cases hw
  | succ m =>
    simp only [whileC] at hw
    cases q : t s with
    | none => rw [q] at hw; cases hw
    | some k =>
      rw [q] at hw
      obtain ⟨S', dm, hev⟩ := test s σ' H' hI
      refine hev k q H' (Fr.refl _) dm _ fun H1 s1 => ?_
      cases k with
      | false =>
        cases hw
        rw [if_neg (by decide)]
        exact done s σ' H' H1 rfl hI s1
      | true =>
        rw [if_pos rfl]
        simp only [Option.bind_some, if_true] at hw
        cases q2 : f s with
        | none => rw [q2] at hw; cases hw
        | some cr =>
          rw [q2] at hw
          refine ⟨fun σ2 H2 => ∃ s', cr = .go s' ∧ Fr S H1 H2 ∧ I s' σ2 H2, ?_, ?_⟩
          · rintro σ2 H2 ⟨s', rfl, f2, hI'⟩
            exact ⟨m, Nat.lt_succ_self _, s', hI', hw⟩
          · exact step done s cr σ' H' H1 hI s1 q2 (fun y ey => by subst ey; cases hw; rfl) (fun s' ey => by subst ey; cases hw; rfl)
theorem q_while_s {tb : TS} {n : Nat} {s0 : δ} {t : δ → Option Bool} {f : δ → Option (Ct ρ δ)} {res : Ct ρ δ} (hf : whileC t f n s0 = some res)
    (I : δ → St → Hp → Prop) (h0 : I s0 σ H)
    (test : ∀ s σ' H', I s σ' H' → ∃ S', Dom S' H' ∧ EvB S' T tt σ' H' (t s))
    (step : (∀ s σ' H' H1, res = .go s → I s σ' H' → Same H' H1 → u D σ' H1) → ∀ (s : δ) (cr : Ct ρ δ) (σ' : St) (H' H1 : Hp), I s σ' H' → Same H' H1 → f s = some cr → (∀ y, cr = .ret y → res = .ret y) → (∀ s', cr = .brk s' → res = .go s') →
      tb { D with nx := fun σ2 H2 => ∃ s', cr = .go s' ∧ Fr S H1 H2 ∧ I s' σ2 H2, ct := fun σ2 H2 => ∃ s', cr = .go s' ∧ Fr S H1 H2 ∧ I s' σ2 H2, bk := u D } σ' H1)
    (done : ∀ s σ' H' H1, res = .go s → I s σ' H' → Same H' H1 → u D σ' H1) : tSeq (tWhile tt tb) u D σ H := while_s (D := { D with nx := u D }) (S := S) (T := T) hf I h0 test step done
theorem whileC_go {t : δ → Option Bool} {f : δ → Option (Ct ρ δ)} {n : Nat} {s s' : δ} (h : t s = some true) (h' : f s = some (.go s')) : whileC t f (n + 1) s = whileC t f n s' := by simp [whileC, h, h']
theorem whileC_stop {t : δ → Option Bool} {f : δ → Option (Ct ρ δ)} {n : Nat} {s : δ} (h : t s = some false) : whileC t f (n + 1) s = some (.go s) := by simp [whileC, h]
/-! ### chains of comparisons -/
theorem ev_chain {r r' : R2} {f g : α → α → Bool} {ra rb rc : Option α} (h : OpD a a S (of (K := K) tBool S) r (fun x y => some (f x y))) (h' : OpD a a S (of (K := K) tBool S) r' (fun x y => some (g x y)))
    (ha : Ev S T ta σ H (of a S) ra) (hb : Ev S T tb σ H (of a S) rb) (hc : Ev S T tc σ H (of a S) rc) :
    Ev S T (tChain r r' ta tb tc) σ H (of (K := K) tBool S) (bd ra fun x => bd rb fun y => if f x y then bd rc fun z => some (g y z) else some false) := by
  intro z e H1 f1 d Q q
  obtain ⟨x, ex, e⟩ := bd_some e
  obtain ⟨y, ey, e⟩ := bd_some e
  refine ha x ex H1 f1 d _ fun v H2 s2 hv => hb y ey H2 (f1.trans (Fr.same s2)) (d.same s2) _ fun w H3 s3 hw => ?_
  have d3 := (d.same s2).same s3
  refine h x y _ rfl H3 v w d3 (a.mono (Fr.same s3) hv) hw _ fun k H4 s4 hk => ⟨_, hk, ?_⟩
  by_cases c1 : f x y = true
  · rw [if_pos c1] at e
    rw [if_pos c1]
    obtain ⟨z', ez, e⟩ := bd_some e
    cases e
    refine hc z' ez H4 (f1.trans (Fr.same ((s2.trans s3).trans s4))) (d3.same s4) _ fun w' H5 s5 hw' => ?_
    refine h' y z' _ rfl H5 w w' ((d3.same s4).same s5) (a.mono (Fr.same (s4.trans s5)) hw) hw' Q fun u' H6 s6 hu => q u' H6 (((s2.trans s3).trans (s4.trans s5)).trans s6) hu
  · rw [if_neg c1] at e
    rw [if_neg c1]
    cases e
    exact q _ H4 ((s2.trans s3).trans s4) rfl
/-! ### x in l by data -/
def memD [DecidableEq α] (x : α) (xs : List α) : Bool := decide (x ∈ xs)
theorem _root_.L2.Room.units65 {k : Nat} {A : Around} (r : Room k A) : A.units + 65 < cLine := by have := r.un; omega
theorem any_eqv {a : Ty K α} [DecidableEq α] (d : TyD a) (x : α) : ∀ xs : List α, ((xs.map d.dt).any fun z => PyData.eqv z (d.dt x)) = memD x xs
  | [] => by simp [memD]
  | y :: ys => by
    rw [List.map_cons, List.any_cons, d.dec, any_eqv d x ys]
    unfold memD
    by_cases h : y = x
    · subst h; simp
    · by_cases h2 : x ∈ ys
      · simp [h2]
      · simp [h, h2, Ne.symm h]
theorem od_inD [DecidableEq α] (d : TyD a) (hd : d.dep ≤ 63) : OpD a (tL a) S (of (K := K) tBool S) (rInD K) (fun x xs => some (memD x xs)) := by
  intro x xs z e H1 v w dm hv hw Q q
  cases e
  have h2 := (dL d).dp hw
  refine ⟨d.dt x, xs.map d.dt, d.dp hv, h2, d.shaped (by omega) hv, (dL d).shaped (by show d.dep + 1 ≤ 64; omega) hw, ?_⟩
  rw [any_eqv]
  exact q _ H1 (Same.refl _) rfl
theorem od_notInD [DecidableEq α] (d : TyD a) (hd : d.dep ≤ 63) : OpD a (tL a) S (of (K := K) tBool S) (rNotInD K) (fun x xs => some (!memD x xs)) := by
  intro x xs z e H1 v w dm hv hw Q q
  cases e
  have h2 := (dL d).dp hw
  refine ⟨d.dt x, xs.map d.dt, d.dp hv, h2, d.shaped (by omega) hv, (dL d).shaped (by show d.dep + 1 ≤ 64; omega) hw, ?_⟩
  rw [any_eqv]
  exact q _ H1 (Same.refl _) rfl
/-! ### powers of constants -/
theorem ev_powC {i j : Int} (hc : 0 ≤ j ∧ j ≤ 1000000 ∧ i.natAbs < 2 ^ 64) : Ev S T (tOp (rI (fun i j => 0 ≤ j ∧ j ≤ 1000000 ∧ i.natAbs < 2 ^ 64) fun i j => .int (i ^ j.toNat)) (tC (.int i)) (tC (.int j))) σ H (of (K := K) tInt S) (some (i ^ j.toNat)) := by
  intro y ey H1 f d Q q
  cases ey
  exact ⟨i, j, rfl, rfl, hc, q _ H1 (Same.refl _) rfl⟩
/-! ### None or not, of any expression -/
theorem eb_isNe {r : Option (Option α)} (h : Ev S T te σ H (of (tOpt a) S) r) : EvB S T (tTest (tOp (fun x y H Q => y = .non ∧ Q (.bl (decide (x = .non))) H) te (tC .non))) σ H (bd r fun x => some x.isNone) := by
  intro z ez H1 f d Q q
  obtain ⟨x, ex, ez⟩ := bd_some ez
  cases ez
  refine h x ex H1 f d _ fun v H2 s hv => ⟨rfl, _, rfl, ?_⟩
  cases x with
  | none => rw [show v = .non from hv]; exact q H2 s
  | some y => rw [decide_eq_false hv.1]; exact q H2 s
theorem eb_notNe {r : Option (Option α)} (h : Ev S T te σ H (of (tOpt a) S) r) : EvB S T (tTest (tOp (fun x y H Q => y = .non ∧ Q (.bl (!decide (x = .non))) H) te (tC .non))) σ H (bd r fun x => some x.isSome) := by
  intro z ez H1 f d Q q
  obtain ⟨x, ex, ez⟩ := bd_some ez
  cases ez
  refine h x ex H1 f d _ fun v H2 s hv => ⟨rfl, _, rfl, ?_⟩
  cases x with
  | none => rw [show v = .non from hv]; exact q H2 s
  | some y => rw [decide_eq_false hv.1]; exact q H2 s
/-! ### max of two -/
theorem ev_max2 {ra rb : Option Int} (ha : Ev S T ta σ H (of (K := K) tInt S) ra) (hb : Ev S T tb σ H (of (K := K) tInt S) rb) :
    Ev S T (tCB (fun xs H Q => ∃ i j, xs = [.int i, .int j] ∧ Q (.int (if j > i then j else i)) H) (tCons ta (tCons tb tNil))) σ H (of (K := K) tInt S) (bd ra fun x => bd rb fun y => some (max x y)) := by
  intro z e H1 f1 d Q q
  obtain ⟨x, ex, e⟩ := bd_some e
  obtain ⟨y, ey, e⟩ := bd_some e
  cases e
  refine ha x ex H1 f1 d _ fun v H2 s2 hv => hb y ey H2 (f1.trans (Fr.same s2)) (d.same s2) _ fun w H3 s3 hw => ?_
  cases hv
  cases hw
  refine ⟨x, y, rfl, q _ H3 (s2.trans s3) ?_⟩
  show V.int _ = V.int _
  congr 1
  omega
/-! ### calls with keywords -/
def EvAn (S T : AS) (ta : TA) (σ : St) (H : Hp) (n : Nat) (t : TyA K α) (r : Option α) : Prop :=
  ∀ x, r = some x → ∀ H1, Fr T H H1 → Dom S H1 → ∀ Q : List V → Hp → Prop, (∀ vs H2, vs.length = n → Same H1 H2 → t.rp S H2 vs x → Q vs H2) → ta σ H1 Q
theorem en_nil : EvAn S T tNil σ H 0 (K := K) aNil (some ()) := fun _ e H1 f d Q q => q [] H1 rfl (Same.refl _) rfl
theorem en_cons {n : Nat} {tr : TA} {t : TyA K β} {ra : Option α} {rr : Option β} (h : Ev S T ta σ H (of a S) ra) (hr : EvAn S T tr σ H n t rr) : EvAn S T (tCons ta tr) σ H (n + 1) (aCons a t) (bd ra fun x => bd rr fun y => some (x, y)) := by
  intro z e H1 f1 d Q q
  obtain ⟨x, ex, e⟩ := bd_some e
  obtain ⟨y, ey, e⟩ := bd_some e
  cases e
  exact h x ex H1 f1 d _ fun v H2 s2 hv => hr y ey H2 (f1.trans (Fr.same s2)) (d.same s2) _ fun vs H3 l s3 hvs => q (v :: vs) H3 (by simp [l]) (s2.trans s3) ⟨v, vs, rfl, a.mono (Fr.same s3) hv, hvs⟩
/-- first t, then tk: together they are the arguments -/
def EvA2 (S T : AS) (ta tk : TA) (σ : St) (H : Hp) (n m : Nat) (t : TyA K α) (r : Option α) : Prop :=
  ∀ x, r = some x → ∀ H1, Fr T H H1 → Dom S H1 → ∀ Q : List V → List V → Hp → Prop, (∀ vs zs H2, vs.length = n → zs.length = m → Same H1 H2 → t.rp S H2 (vs ++ zs) x → Q vs zs H2) → ta σ H1 fun vs H2 => tk σ H2 fun zs H3 => Q vs zs H3
theorem e2_nil {tk : TA} {m : Nat} {t : TyA K α} {r : Option α} (h : EvAn S T tk σ H m t r) : EvA2 S T tNil tk σ H 0 m t r := fun x e H1 f d Q q => h x e H1 f d _ fun vs H2 l s hv => q [] vs H2 rfl l s hv
theorem e2_cons {n m : Nat} {tr tk : TA} {t : TyA K β} {ra : Option α} {rr : Option β} (h : Ev S T ta σ H (of a S) ra) (hr : EvA2 S T tr tk σ H n m t rr) : EvA2 S T (tCons ta tr) tk σ H (n + 1) m (aCons a t) (bd ra fun x => bd rr fun y => some (x, y)) := by
  intro z e H1 f1 d Q q
  obtain ⟨x, ex, e⟩ := bd_some e
  obtain ⟨y, ey, e⟩ := bd_some e
  cases e
  exact h x ex H1 f1 d _ fun v H2 s2 hv => hr y ey H2 (f1.trans (Fr.same s2)) (d.same s2) _ fun vs zs H3 l l' s3 hvs => q (v :: vs) zs H3 (by simp [l]) l' (s2.trans s3) ⟨v, vs ++ zs, rfl, a.mono (Fr.same s3) hv, hvs⟩
theorem ev_callN {n m : Nat} {ta tk : TA} {t : TyA K α} {R : AS → Rl γ} {f : α → Option γ} {r : Option α} {E : XK} (h : EvA2 S T ta tk σ H n m t r) : Ev S T (tCallN n m (spF t R f) (fun vs zs => vs ++ zs) E ta tk) σ H (R S) (bd r f) := by
  intro z e H1 f1 d Q q
  obtain ⟨x, ex, e⟩ := bd_some e
  exact h x ex H1 f1 d _ fun vs zs H2 l l' s2 hv => ⟨l, l', S, x, z, d.same s2, hv, e, fun u H' s hu => q u H' (s2.trans s) ((R S).same s2 hu)⟩
/-- .. with a default behind -/
def EvAd (S T : AS) (ta : TA) (σ : St) (H : Hp) (ds : List V) (t : TyA K α) (r : Option α) : Prop :=
  ∀ x, r = some x → ∀ H1, Fr T H H1 → Dom S H1 → ∀ Q : List V → Hp → Prop, (∀ vs H2, Same H1 H2 → t.rp S H2 (vs ++ ds) x → Q vs H2) → ta σ H1 Q
theorem edd_nil {dv : V} {z : α} (hz : ∀ S H, a.rp S H dv z) : EvAd S T tNil σ H [dv] (aCons a aNil) (some (z, ())) := fun _ e H1 f d Q q => by cases e; exact q [] H1 (Same.refl _) ⟨dv, [], rfl, hz S H1, rfl⟩
theorem edd_cons {ds : List V} {tr : TA} {t : TyA K β} {ra : Option α} {rr : Option β} (h : Ev S T ta σ H (of a S) ra) (hr : EvAd S T tr σ H ds t rr) : EvAd S T (tCons ta tr) σ H ds (aCons a t) (bd ra fun x => bd rr fun y => some (x, y)) := by
  intro z e H1 f1 d Q q
  obtain ⟨x, ex, e⟩ := bd_some e
  obtain ⟨y, ey, e⟩ := bd_some e
  cases e
  exact h x ex H1 f1 d _ fun v H2 s2 hv => hr y ey H2 (f1.trans (Fr.same s2)) (d.same s2) _ fun vs H3 s3 hvs => q (v :: vs) H3 (s2.trans s3) ⟨v, vs ++ ds, rfl, a.mono (Fr.same s3) hv, hvs⟩
theorem ev_callDn {ds : List V} {ta : TA} {t : TyA K α} {R : AS → Rl γ} {f : α → Option γ} {r : Option α} {E : XK} (h : EvAd S T ta σ H ds t r) : Ev S T (tCall (spF t R f) ds E ta) σ H (R S) (bd r f) := by
  intro z e H1 f1 d Q q
  obtain ⟨x, ex, e⟩ := bd_some e
  exact h x ex H1 f1 d _ fun vs H2 s2 hv => ⟨S, x, z, d.same s2, hv, e, fun u H' s hu => q u H' (s2.trans s) ((R S).same s2 hu)⟩
/-! .. while drawing -/
def EvWAn (b c : Addr) (S : AS) (ta : TA) (σ : St) (H : Hp) (n : Nat) (t : TyA K α) (w : Wp α) : Prop :=
  Sub [b, c] S → ∀ P, w P → ∀ H1, Fr [b, c] H H1 → Dom S H1 → Bag H1 b c → ∀ Q : List V → Hp → Prop, (∀ vs H2 x, vs.length = n → P x → Fr [b, c] H1 H2 → Dom S H2 → Bag H2 b c → t.rp S H2 vs x → Q vs H2) → ta σ H1 Q
theorem wn_nil : EvWAn b c S tNil σ H 0 (K := K) aNil (lf (some ())) := fun ts P ⟨x, e, hP⟩ H1 f d hB Q q => by cases e; exact q [] H1 () rfl hP (Fr.refl _) d hB rfl
theorem wn_cons {n : Nat} {tr : TA} {t : TyA K β} {wa : Wp α} {wr : Wp β} (h : EvW b c S ta σ H (of a S) wa) (hr : EvWAn b c S tr σ H n t wr) : EvWAn b c S (tCons ta tr) σ H (n + 1) (aCons a t) (tup2W wa wr) := fun ts P hP H1 f1 d hB Q q =>
  h ts _ hP H1 f1 d hB _ fun v H2 x hx f2 d2 hB2 hv => hr ts _ hx H2 (f1.trans f2) d2 hB2 _ fun vs H3 y l hy f3 d3 hB3 hvs => q (v :: vs) H3 (x, y) (by simp [l]) hy (f2.trans f3) d3 hB3 ⟨v, vs, rfl, a.mono (f3.sub ts) hv, hvs⟩
def EvWA2 (b c : Addr) (S : AS) (ta tk : TA) (σ : St) (H : Hp) (n m : Nat) (t : TyA K α) (w : Wp α) : Prop :=
  Sub [b, c] S → ∀ P, w P → ∀ H1, Fr [b, c] H H1 → Dom S H1 → Bag H1 b c → ∀ Q : List V → List V → Hp → Prop, (∀ vs zs H2 x, vs.length = n → zs.length = m → P x → Fr [b, c] H1 H2 → Dom S H2 → Bag H2 b c → t.rp S H2 (vs ++ zs) x → Q vs zs H2) → ta σ H1 fun vs H2 => tk σ H2 fun zs H3 => Q vs zs H3
theorem w2_nil {tk : TA} {m : Nat} {t : TyA K α} {w : Wp α} (h : EvWAn b c S tk σ H m t w) : EvWA2 b c S tNil tk σ H 0 m t w := fun ts P hP H1 f d hB Q q => h ts P hP H1 f d hB _ fun vs H2 x l hx f2 d2 hB2 hv => q [] vs H2 x rfl l hx f2 d2 hB2 hv
theorem w2_cons {n m : Nat} {tr tk : TA} {t : TyA K β} {wa : Wp α} {wr : Wp β} (h : EvW b c S ta σ H (of a S) wa) (hr : EvWA2 b c S tr tk σ H n m t wr) : EvWA2 b c S (tCons ta tr) tk σ H (n + 1) m (aCons a t) (tup2W wa wr) := fun ts P hP H1 f1 d hB Q q =>
  h ts _ hP H1 f1 d hB _ fun v H2 x hx f2 d2 hB2 hv => hr ts _ hx H2 (f1.trans f2) d2 hB2 _ fun vs zs H3 y l l' hy f3 d3 hB3 hvs => q (v :: vs) zs H3 (x, y) (by simp [l]) l' hy (f2.trans f3) d3 hB3 ⟨v, vs ++ zs, rfl, a.mono (f3.sub ts) hv, hvs⟩
theorem ew_callN {n m : Nat} {ta tk : TA} {t : TyA K α} {R : AS → Rl γ} {f : α → Option γ} {w : Wp α} {E : XK} (h : EvWA2 b c S ta tk σ H n m t w) : EvW b c S (tCallN n m (spF t R f) (fun vs zs => vs ++ zs) E ta tk) σ H (R S) (unW f w) := fun ts P hP H1 f1 d hB Q q =>
  h ts _ hP H1 f1 d hB _ fun vs zs H2 x l l' ⟨z, e, hz⟩ f2 d2 hB2 hv => ⟨l, l', S, x, z, d2, hv, e, fun u H' s hu => q u H' z hz (f2.trans (Fr.same s)) (d2.same s) (hB2.same s) ((R S).back f2 hB2.dom hu)⟩
/-! ### any; truth of a list -/
theorem ev_any {r : Option (List Bool)} (h : Ev S T te σ H (of (K := K) (tL tBool) S) r) : Ev S T (tCB (rAny K) (tCons te tNil)) σ H (of (K := K) tBool S) (bd r fun x => some (x.any id)) := by
  intro z e H1 f1 d Q q
  obtain ⟨x, ex, e⟩ := bd_some e
  cases e
  refine h x ex H1 f1 d _ fun v H2 s hv => ?_
  obtain ⟨p, vs, rfl, hp, ha⟩ := hv
  refine ⟨p, x, rfl, ?_, q _ H2 s rfl⟩
  rw [← ha.bools]
  exact hp.sq
theorem All2.empty {F : V → α → Prop} {vs : List V} {xs : List α} (h : All2 F vs xs) : vs.isEmpty = xs.isEmpty := by cases h <;> rfl
theorem eb_truL {r : Option (List α)} (h : Ev S T te σ H (of (tL a) S) r) : EvB S T (fun σ H Q => te σ H fun x H' => ∃ k, TruV K x H' k ∧ Q k H') σ H (bd r fun x => some (!x.isEmpty)) := by
  intro z ez H1 f d Q q
  obtain ⟨x, ex, ez⟩ := bd_some ez
  cases ez
  refine h x ex H1 f d _ fun v H2 s ⟨p, vs, ev, hp, ha⟩ => ⟨_, ?_, q H2 s⟩
  subst ev
  exact .inl ⟨vs, hp.sq, by rw [ha.empty]⟩
/-! ### an owned list that is owned no more -/
theorem sub_keep {p : Addr} {S S' : AS} (h : Sub S S') : Sub (p :: S) (p :: S') := fun a m => by
  rcases List.mem_cons.mp m with rfl | m
  · exact List.mem_cons_self ..
  · exact List.mem_cons_of_mem _ (h a m)
theorem nmc {p q : Addr} {S : AS} (h : p ≠ q) (n : p ∉ S) : p ∉ q :: S := fun m => by
  rcases List.mem_cons.mp m with e | m
  · exact h e
  · exact n m
theorem Own.frz {p : Addr} {xs : List α} {S' : AS} (o : Own a S H p xs) (hs : Sub S' S) (n : p ∉ S') : (tL a).rp S' H (.ref p) xs := by
  obtain ⟨vs, hv, ha⟩ := o
  exact ⟨p, vs, rfl, ⟨hv, n⟩, ha.imp fun _ _ => a.sub hs⟩
/-! ### walks that unpack pairs -/
theorem for_s2 {wi : TI} {j j2 : Nat} {tb : TS} {r : Option (List (α × β))} {xs : List (α × β)} {s0 : δ} {f : δ → α × β → Option (Ct ρ δ)} {res : Ct ρ δ} (d : Dom S H) (h : Sr S T wi σ H (tT2 a b') r) (e : r = some xs) (hf : loopC f xs s0 = some res)
    (I : δ → St → Hp → Prop) (h0 : ∀ H1, Same H H1 → I s0 σ H1)
    (step : (∀ s σ' H', res = .go s → I s σ' H' → D.nx σ' H') → ∀ (s : δ) (x : α × β) (cr : Ct ρ δ) (v w : V) (σ' : St) (H' : Hp), I s σ' H' → a.rp S H' v x.1 → b'.rp S H' w x.2 → x ∈ xs → f s x = some cr → (∀ y, cr = .ret y → res = .ret y) → (∀ s', cr = .brk s' → res = .go s') →
      tb { D with nx := fun σ2 H2 => ∃ s', cr = .go s' ∧ Fr S H' H2 ∧ I s' σ2 H2, ct := fun σ2 H2 => ∃ s', cr = .go s' ∧ Fr S H' H2 ∧ I s' σ2 H2, bk := D.nx } ((σ'.set j (some v)).set j2 (some w)) H')
    (done : ∀ s σ' H', res = .go s → I s σ' H' → D.nx σ' H') : tFor wi (gTup K 2 (gCons (gName j) (gCons (gName j2) gNil))) tb D σ H := by
  refine h xs e H (Fr.refl _) d _ fun J H1 s1 wk => ?_
  refine ⟨fun i m σ' H' => m = xs.length - i ∧ i ≤ xs.length ∧ Fr S H1 H' ∧ ∃ s, I s σ' H' ∧ loopC f (xs.drop i) s = some res, ⟨_, rfl, Nat.zero_le _, Fr.refl _, s0, h0 H1 s1, hf⟩, ?_⟩
  rintro i m σ' H' ⟨rfl, hi, fr, s, hI, hl⟩
  by_cases c : i < xs.length
  · right
    rw [List.drop_eq_getElem_cons c] at hl
    simp only [loopC] at hl
    cases q : f s xs[i] with
    | none => rw [q] at hl; cases hl
    | some cr =>
      rw [q] at hl
      refine ⟨wk.go H' i fr c, fun σ2 H2 => ∃ s', cr = .go s' ∧ Fr S H' H2 ∧ I s' σ2 H2, ?_, ?_⟩
      · rintro σ2 H2 ⟨s', rfl, f2, hI'⟩
        exact ⟨xs.length - (i + 1), by omega, rfl, by omega, fr.trans f2, s', hI', hl⟩
      · intro v H2 hy
        obtain ⟨rfl, hv⟩ := wk.yl H' i v H2 fr hy _ (List.getElem?_eq_getElem c)
        obtain ⟨p, v1, v2, rfl, hp, h1, h2⟩ := (tT2 a b').mono fr hv
        exact ⟨p, _, rfl, hp.sq, rfl, v1, _, rfl, v2, _, rfl, rfl, step done s xs[i] cr v1 v2 σ' _ hI h1 h2 (List.getElem_mem c) q (fun y ey => by subst ey; cases hl; rfl) (fun s' ey => by subst ey; cases hl; rfl)⟩
  · left
    refine ⟨wk.st H' i fr (by omega), ?_⟩
    rw [List.drop_eq_nil_of_le (by omega)] at hl
    cases hl
    exact done s σ' H' rfl hI
theorem q_for_s2 {wi : TI} {j j2 : Nat} {tb : TS} {r : Option (List (α × β))} {xs : List (α × β)} {s0 : δ} {f : δ → α × β → Option (Ct ρ δ)} {res : Ct ρ δ} (d : Dom S H) (h : Sr S T wi σ H (tT2 a b') r) (e : r = some xs) (hf : loopC f xs s0 = some res)
    (I : δ → St → Hp → Prop) (h0 : ∀ H1, Same H H1 → I s0 σ H1)
    (step : (∀ s σ' H', res = .go s → I s σ' H' → u D σ' H') → ∀ (s : δ) (x : α × β) (cr : Ct ρ δ) (v w : V) (σ' : St) (H' : Hp), I s σ' H' → a.rp S H' v x.1 → b'.rp S H' w x.2 → x ∈ xs → f s x = some cr → (∀ y, cr = .ret y → res = .ret y) → (∀ s', cr = .brk s' → res = .go s') →
      tb { D with nx := fun σ2 H2 => ∃ s', cr = .go s' ∧ Fr S H' H2 ∧ I s' σ2 H2, ct := fun σ2 H2 => ∃ s', cr = .go s' ∧ Fr S H' H2 ∧ I s' σ2 H2, bk := u D } ((σ'.set j (some v)).set j2 (some w)) H')
    (done : ∀ s σ' H', res = .go s → I s σ' H' → u D σ' H') : tSeq (tFor wi (gTup K 2 (gCons (gName j) (gCons (gName j2) gNil))) tb) u D σ H := for_s2 (D := { D with nx := u D }) d h e hf I h0 step done
end
end M

namespace M
open PySem L2 G
section
variable {K : PySem.W.Frag} {α β γ δ ε ρ : Type} {S T : AS} {σ : St} {H : Hp} {ta tb te tc : TE} {tt tu : TT} {a : Ty K α} {b' : Ty K β} {c' : Ty K γ} {D : Ends} {u t1 t2 : TS} {b c : Addr}
/-! ### isinstance, by the code -/
theorem tyTm {H : Hp} {a : Addr} {xs : List V} (h : SqT K H a xs) : TyX K H (.ref a) (.type "tuple") := by
  rcases h with (h | ⟨o, h⟩) | ⟨o, _, _, h, hc, _⟩
  · exact .base (.tup h)
  · exact .fTuple h
  · exact .kTuple h hc
theorem tyLm {H : Hp} {a : Addr} {xs : List V} (h : SqL K H a xs) : TyX K H (.ref a) (.type "list") := by
  rcases h with (h | ⟨o, h⟩) | ⟨o, _, _, h, hc, _⟩
  · exact .base (.lst h)
  · exact .base (.frz h)
  · exact .kList h hc
class IsTy (a : Ty K α) (t : outParam String) : Prop where
  h : ∀ {S H v x}, a.rp S H v x → TyX K H v (.type t)
instance : IsTy (K := K) tInt "int" := ⟨fun h => by rw [show _ = _ from h]; exact .base (.int _)⟩
instance : IsTy (K := K) tBool "bool" := ⟨fun h => by rw [show _ = _ from h]; exact .base (.bl _)⟩
instance : IsTy (K := K) tStr "str" := ⟨fun h => by rw [h.1]; exact .base (.str _)⟩
instance : IsTy (K := K) tRat "tuple" := ⟨fun ⟨p, e, h⟩ => by rw [e]; exact tyTm h.sq⟩
instance : IsTy (tT2 a b') "tuple" := ⟨fun ⟨p, _, _, e, h, _⟩ => by rw [e]; exact tyTm h.sq⟩
instance : IsTy (tTs a) "tuple" := ⟨fun ⟨p, _, e, h, _⟩ => by rw [e]; exact tyTm h.sq⟩
instance : IsTy (tL a) "list" := ⟨fun ⟨p, _, e, h, _⟩ => by rw [e]; exact tyLm h.sq⟩
theorem ev_isi {r : Option α} {t n : String} {k : Bool} [hi : IsTy a t] (h : Ev S T te σ H (of a S) r) (hk : kitB t n = some k) :
    Ev S T (tCB (rIsi K) (tCons te (tCons (tC (.ty n)) tNil))) σ H (of (K := K) tBool S) (bd r fun _ => some k) := by
  intro z e H1 f1 d Q q
  obtain ⟨x, ex, e⟩ := bd_some e
  cases e
  exact h x ex H1 f1 d _ fun v H2 s hv => ⟨v, _, _, _, k, rfl, .ty _, hi.h hv, kit_ty hk, q _ H2 s rfl⟩
theorem ev_lenR {r : Option Rat} (h : Ev S T te σ H (of (K := K) tRat S) r) : Ev S T (tCB (fun xs H Q => ∃ p ys, xs = [.ref p] ∧ (SqL K H p ys ∨ SqT K H p ys) ∧ Q (.int ys.length) H) (tCons te tNil)) σ H (of (K := K) tInt S) (bd r fun _ => some (2 : Int)) := by
  intro z e H1 f1 d Q q
  obtain ⟨x, ex, e⟩ := bd_some e
  cases e
  exact h x ex H1 f1 d _ fun v H2 s ⟨p, ev, hp⟩ => by subst ev; exact ⟨p, _, rfl, .inr hp.sq, q _ H2 s rfl⟩
/-! ### pairs as tuples of any length -/
theorem ev_t2Sq {r : Option (α × α)} (h : Ev S T te σ H (of (tT2 a a) S) r) : Ev S T te σ H (of (tSq a) S) (bd r fun x => some [x.1, x.2]) := ev_as h fun x y e H1 H2 v d ⟨p, u, w, ev, hp, h1, h2⟩ => by
  cases e
  exact .inr ⟨p, _, ev, hp, .cons h1 (.cons h2 .nil)⟩
theorem sr_t4 {tl : TE} {r : Option (α × α × α × α)} (h : Ev S T tl σ H (of (tT4 a a a a) S) r) : Sr S T (iTup K tl) σ H a (bd r fun x => some [x.1, x.2.1, x.2.2.1, x.2.2.2]) := fun xs e H1 f d R q => by
  obtain ⟨x, ex, e⟩ := bd_some e
  cases e
  exact h x ex H1 f d _ fun v H2 s ⟨p, u1, u2, u3, u4, ev, hp, h1, h2, h3, h4⟩ => ⟨p, ev, ⟨_, hp.sq⟩, q _ H2 s (wk_tup hp (.cons h1 (.cons h2 (.cons h3 (.cons h4 .nil)))))⟩
/-! ### targets that take lists and tuples -/
def gOr (g g' : TG) : TG := fun v σ H Q => g v σ H Q ∨ g' v σ H Q
theorem pg_or {X : Cx} {e : Expr} {g g' : TG} (h : PG X e g) (h' : PG X e g') : PG X e (gOr g g') := ⟨fun pins s σ H v u Q I r hw => by
  rcases hw with hw | hw
  · exact h.run pins s σ H v u Q I r hw
  · exact h'.run pins s σ H v u Q I r hw⟩
def two? : List α → Option (α × α)
  | [x, y] => some (x, y)
  | _ => none
theorem two_some {xs : List α} {p : α × α} (h : two? xs = some p) : xs = [p.1, p.2] := by
  match xs, h with
  | [x, y], h => cases h; rfl
theorem for_s2q {wi : TI} {j j2 : Nat} {tb : TS} {r : Option (List (List α))} {xs : List (List α)} {ps : List (α × α)} {s0 : δ} {f : δ → α × α → Option (Ct ρ δ)} {res : Ct ρ δ} (d : Dom S H) (h : Sr S T wi σ H (tSq a) r) (e : r = some xs) (e2 : mapO two? xs = some ps) (hf : loopC f ps s0 = some res)
    (I : δ → St → Hp → Prop) (h0 : ∀ H1, Same H H1 → I s0 σ H1)
    (step : (∀ s σ' H', res = .go s → I s σ' H' → D.nx σ' H') → ∀ (s : δ) (x : α × α) (cr : Ct ρ δ) (v w : V) (σ' : St) (H' : Hp), I s σ' H' → a.rp S H' v x.1 → a.rp S H' w x.2 → x ∈ ps → f s x = some cr → (∀ y, cr = .ret y → res = .ret y) → (∀ s', cr = .brk s' → res = .go s') →
      tb { D with nx := fun σ2 H2 => ∃ s', cr = .go s' ∧ Fr S H' H2 ∧ I s' σ2 H2, ct := fun σ2 H2 => ∃ s', cr = .go s' ∧ Fr S H' H2 ∧ I s' σ2 H2, bk := D.nx } ((σ'.set j (some v)).set j2 (some w)) H')
    (done : ∀ s σ' H', res = .go s → I s σ' H' → D.nx σ' H') : tFor wi (gOr (gTup K 2 (gCons (gName j) (gCons (gName j2) gNil))) (gLst K 2 (gCons (gName j) (gCons (gName j2) gNil)))) tb D σ H := by
  refine h xs e H (Fr.refl _) d _ fun J H1 s1 wk => ?_
  have ln := mapO_len e2
  refine ⟨fun i m σ' H' => m = ps.length - i ∧ i ≤ ps.length ∧ Fr S H1 H' ∧ ∃ s, I s σ' H' ∧ loopC f (ps.drop i) s = some res, ⟨_, rfl, Nat.zero_le _, Fr.refl _, s0, h0 H1 s1, hf⟩, ?_⟩
  rintro i m σ' H' ⟨rfl, hi, fr, s, hI, hl⟩
  by_cases c : i < ps.length
  · right
    rw [List.drop_eq_getElem_cons c] at hl
    simp only [loopC] at hl
    cases q : f s ps[i] with
    | none => rw [q] at hl; cases hl
    | some cr =>
      rw [q] at hl
      refine ⟨wk.go H' i fr (by omega), fun σ2 H2 => ∃ s', cr = .go s' ∧ Fr S H' H2 ∧ I s' σ2 H2, ?_, ?_⟩
      · rintro σ2 H2 ⟨s', rfl, f2, hI'⟩
        exact ⟨ps.length - (i + 1), by omega, rfl, by omega, fr.trans f2, s', hI', hl⟩
      · intro v H2 hy
        have hx : i < xs.length := by omega
        obtain ⟨rfl, hv⟩ := wk.yl H' i v H2 fr hy _ (List.getElem?_eq_getElem hx)
        obtain ⟨p, ep, ep2⟩ := mapO_get e2 (List.getElem?_eq_getElem hx)
        have : p = ps[i] := by rw [List.getElem?_eq_getElem c] at ep2; exact (Option.some.inj ep2).symm
        subst this
        have hv := (tSq a).mono fr hv
        rw [two_some ep] at hv
        rcases hv with ⟨p, vs, ev, hp, ha⟩ | ⟨p, vs, ev, hp, ha⟩
        · subst ev
          cases ha with
          | cons g1 ha => cases ha with
            | cons g2 ha => cases ha with
              | nil =>
                right
                refine ⟨p, _, rfl, hp.sq, rfl, _, _, rfl, _, _, rfl, rfl, ?_⟩
                exact step done s ps[i] cr _ _ σ' _ hI g1 g2 (List.getElem_mem c) q (fun y ey => by subst ey; cases hl; rfl) (fun s' ey => by subst ey; cases hl; rfl)
        · subst ev
          cases ha with
          | cons g1 ha => cases ha with
            | cons g2 ha => cases ha with
              | nil =>
                left
                refine ⟨p, _, rfl, hp.sq, rfl, _, _, rfl, _, _, rfl, rfl, ?_⟩
                exact step done s ps[i] cr _ _ σ' _ hI g1 g2 (List.getElem_mem c) q (fun y ey => by subst ey; cases hl; rfl) (fun s' ey => by subst ey; cases hl; rfl)
  · left
    refine ⟨wk.st H' i fr (by omega), ?_⟩
    rw [List.drop_eq_nil_of_le (by omega)] at hl
    cases hl
    exact done s σ' H' rfl hI
theorem q_for_s2q {wi : TI} {j j2 : Nat} {tb : TS} {r : Option (List (List α))} {xs : List (List α)} {ps : List (α × α)} {s0 : δ} {f : δ → α × α → Option (Ct ρ δ)} {res : Ct ρ δ} (d : Dom S H) (h : Sr S T wi σ H (tSq a) r) (e : r = some xs) (e2 : mapO two? xs = some ps) (hf : loopC f ps s0 = some res)
    (I : δ → St → Hp → Prop) (h0 : ∀ H1, Same H H1 → I s0 σ H1)
    (step : (∀ s σ' H', res = .go s → I s σ' H' → u D σ' H') → ∀ (s : δ) (x : α × α) (cr : Ct ρ δ) (v w : V) (σ' : St) (H' : Hp), I s σ' H' → a.rp S H' v x.1 → a.rp S H' w x.2 → x ∈ ps → f s x = some cr → (∀ y, cr = .ret y → res = .ret y) → (∀ s', cr = .brk s' → res = .go s') →
      tb { D with nx := fun σ2 H2 => ∃ s', cr = .go s' ∧ Fr S H' H2 ∧ I s' σ2 H2, ct := fun σ2 H2 => ∃ s', cr = .go s' ∧ Fr S H' H2 ∧ I s' σ2 H2, bk := u D } ((σ'.set j (some v)).set j2 (some w)) H')
    (done : ∀ s σ' H', res = .go s → I s σ' H' → u D σ' H') : tSeq (tFor wi (gOr (gTup K 2 (gCons (gName j) (gCons (gName j2) gNil))) (gLst K 2 (gCons (gName j) (gCons (gName j2) gNil)))) tb) u D σ H := for_s2q (D := { D with nx := u D }) d h e e2 hf I h0 step done
/-! ### slices, two names at once, while drawing -/
def EvWO (b c : Addr) (S : AS) (to : TO) (σ : St) (H : Hp) (w : Wp (Option Int)) : Prop :=
  Sub [b, c] S → ∀ P, w P → ∀ H1, Fr [b, c] H H1 → Dom S H1 → Bag H1 b c → ∀ Q : Option Int → Hp → Prop, (∀ H2 x, P x → Fr [b, c] H1 H2 → Dom S H2 → Bag H2 b c → Q x H2) → to σ H1 Q
theorem wo_pure {to : TO} {r : Option (Option Int)} (h : EvO S [b, c] to σ H r) : EvWO b c S to σ H (lf r) := fun ts P ⟨x, e, hP⟩ H1 f d hB Q q => h x e H1 f d Q fun H2 s => q H2 x hP (Fr.same s) (d.same s) (hB.same s)
theorem wo_some {w : Wp Int} (h : EvW b c S te σ H (of (K := K) tInt S) w) : EvWO b c S (tPart te) σ H (unW (fun i => some (some i)) w) := fun ts P hP H1 f d hB Q q =>
  h ts _ hP H1 f d hB _ fun v H2 i ⟨z, e, hz⟩ f2 d2 hB2 hv => ⟨i, hv, q H2 _ (by cases e; exact hz) f2 d2 hB2⟩
def slW (wa : Wp (List α)) (wl wh : Wp (Option Int)) : Wp (List α) := fun P => wa fun xs => wl fun l => wh fun h => P (cutD xs l h)
theorem ew_slL {tl th : TO} {wa : Wp (List α)} {wl wh : Wp (Option Int)} (ha : EvW b c S ta σ H (of (tL a) S) wa) (hl : EvWO b c S tl σ H wl) (hh : EvWO b c S th σ H wh) :
    EvW b c S (tSl (rSlL K) ta tl th) σ H (nw a S) (slW wa wl wh) := fun ts P hP H1 f1 d hB Q q => by
  refine ha ts _ hP H1 f1 d hB _ fun v H2 xs hx f2 d2 hB2 hv => hl ts _ hx H2 (f1.trans f2) d2 hB2 _ fun H3 l hl' f3 d3 hB3 => hh ts _ hl' H3 ((f1.trans f2).trans f3) d3 hB3 _ fun H4 h hh' f4 d4 hB4 => ?_
  obtain ⟨p, vs, rfl, hp, hvs⟩ := (tL a).mono ((f3.trans f4).sub ts) hv
  refine ⟨p, vs, rfl, hp.sq, fun p' hp' => q _ _ _ hh' (((f2.trans f3).trans f4).trans (Fr.same (same_new hp'))) (d4.same (same_new hp')) (hB4.same (same_new hp')) ⟨p', rfl, fr_back ((f2.trans f3).trans f4) hB4.dom hp', _, upd_same, ?_⟩⟩
  exact (hvs.cut l h).imp fun _ _ hh => a.mono (Fr.same (same_new hp')) (a.ext hp' hh)
theorem qw_par {i j : Nat} {wa : Wp α} {wb : Wp β} {P : α → β → Prop} (d : Dom S H) (hB : Bag H b c) (ts : Sub [b, c] S) (ha : EvW b c S ta σ H (of a S) wa) (hb : EvW b c S tb σ H (of b' S) wb) (e : wa fun x => wb fun y => P x y)
    (k : ∀ v w H1 x y, P x y → Fr [b, c] H H1 → Dom S H1 → Bag H1 b c → a.rp S H1 v x → b'.rp S H1 w y → u D ((σ.set i (some v)).set j (some w)) H1) :
    tSeq (tPar i j (tCons ta (tCons tb tNil))) u D σ H := ha ts _ e H (Fr.refl _) d hB _ fun v H1 x hx f1 d1 hB1 hv => hb ts _ hx H1 f1 d1 hB1 _ fun w H2 y hy f2 d2 hB2 hw => ⟨v, w, rfl, k v w H2 x y hy (f1.trans f2) d2 hB2 (a.mono (f2.sub ts) hv) hw⟩
theorem qw_par2 {i j : Nat} {wa : Wp α} {wb : Wp β} {P : α → β → Prop} (d : Dom S H) (hB : Bag H b c) (ts : Sub [b, c] S) (ha : EvW b c S ta σ H (of a S) wa) (hb : EvW b c S tb σ H (of b' S) wb) (e : wa fun x => wb fun y => P x y)
    (k : ∀ v w H1 x y, P x y → Fr [b, c] H H1 → Dom S H1 → Bag H1 b c → a.rp S H1 v x → b'.rp S H1 w y → u D ((σ.set i (some v)).set j (some w)) H1) :
    tSeq (tAsg (tTup (tCons ta (tCons tb tNil))) (gTup K 2 (gCons (gName i) (gCons (gName j) gNil)))) u D σ H := ha ts _ e H (Fr.refl _) d hB _ fun v H1 x hx f1 d1 hB1 hv => hb ts _ hx H1 f1 d1 hB1 _ fun w H2 y hy f2 d2 hB2 hw => ⟨(by show 2 ≤ sizeLine; decide), fun p hp =>
  ⟨p, _, rfl, .inl (.inl upd_same), rfl, v, _, rfl, w, _, rfl, rfl, k v w _ x y hy ((f1.trans f2).trans (Fr.same (same_new hp))) (d2.same (same_new hp)) (hB2.same (same_new hp)) (a.mono (Fr.same (same_new hp)) (a.mono (f2.sub ts) hv)) (b'.mono (Fr.same (same_new hp)) hw)⟩⟩
end
end M

namespace M
open PySem L2 G
theorem mapO_all {α β : Type} {f : α → Option β} {g : α → β} : ∀ {xs : List α}, (∀ x ∈ xs, f x = some (g x)) → mapO f xs = some (xs.map g)
  | [], _ => rfl
  | x :: r, h => by
    simp only [mapO, bd, h x (List.mem_cons_self ..), Option.bind_some, mapO_all (fun y hy => h y (List.mem_cons_of_mem _ hy)), List.map_cons]
theorem cut_mem {α : Type} {xs : List α} {lo hi : Option Int} {x : α} (h : x ∈ cutD xs lo hi) : x ∈ xs := by
  unfold cutD at h
  exact List.mem_of_mem_drop (List.mem_of_mem_take h)
theorem cut_len {α : Type} (xs : List α) (lo hi : Option Int) : (cutD xs lo hi).length ≤ xs.length := by
  unfold cutD
  rw [List.length_take, List.length_drop]
  omega
theorem at_in {α : Type} {xs : List α} {i : Int} (h0 : 0 ≤ i) (h : i < xs.length) : ∃ x, atI xs i = some x ∧ x ∈ xs := by
  have hk : i.toNat < xs.length := by omega
  have e := atI_nat (xs := xs) (j := i.toNat) (List.getElem?_eq_getElem hk)
  rw [show ((i.toNat : Nat) : Int) = i by omega] at e
  exact ⟨_, e, List.getElem_mem hk⟩
theorem rngP_of {n : Int} (h : -1000000 ≤ n ∧ n ≤ 1000000) : rngP n = true := by
  unfold rngP
  exact Nat.ble_eq_true_of_le (by omega)
theorem rng2_eq {a b : Int} (ha : -1000000 ≤ a ∧ a ≤ 1000000) (hb : -1000000 ≤ b ∧ b ≤ 1000000) : rng2? a b = some (rngL a (b - a).toNat) := by
  unfold rng2?
  rw [rngP_of ha, rngP_of hb]
  rfl
theorem rng1_eq {b : Int} (hb : -1000000 ≤ b ∧ b ≤ 1000000) : rng1? b = some (rngL 0 b.toNat) := by
  unfold rng1?
  rw [rngP_of hb]
  rfl
theorem rngL_succ (a : Int) (m : Nat) : rngL a (m + 1) = a :: rngL (a + 1) m := by
  unfold rngL
  rw [List.range_succ_eq_map, List.map_cons, List.map_map]
  congr 1
  · simp
  · apply List.map_congr_left
    intro k _
    simp only [Function.comp_apply]
    omega
theorem app_eq {α : Type} {xs : List α} (x : α) (h : xs.length < 100000) : app? xs x = some (xs ++ [x]) := by
  unfold app?
  rw [if_pos h]
theorem rng_len (lo : Int) (n : Nat) : (rngL lo n).length = n := by simp [rngL]
theorem rng_mem {lo x : Int} {n : Nat} (h : x ∈ rngL lo n) : lo ≤ x ∧ x < lo + n := by
  unfold rngL at h
  obtain ⟨i, hi, rfl⟩ := List.mem_map.mp h
  have := List.mem_range.mp hi
  omega
theorem mapL_eq {α β : Type} {f : α → Option β} {g : α → β} {xs : List α} (hl : xs.length ≤ 1000) (h : ∀ x ∈ xs, f x = some (g x)) : mapL? f xs = some (xs.map g) := by
  have h2 : xs.length < 100000 := Nat.lt_of_le_of_lt hl (by decide)
  have e : mapL? f xs = mapO f xs := if_pos h2
  rw [e]
  exact mapO_all h
theorem atI_toNat {α : Type} {xs : List α} {j : Int} (h0 : 0 ≤ j) (h : j < xs.length) : atI xs j = xs[j.toNat]? := by
  have hk : j.toNat < xs.length := by omega
  have e := atI_nat (xs := xs) (j := j.toNat) (List.getElem?_eq_getElem hk)
  rw [show ((j.toNat : Nat) : Int) = j by omega] at e
  rw [e, List.getElem?_eq_getElem hk]
theorem cut_nat {α : Type} {xs : List α} {a b : Nat} (ha : a ≤ b) (hb : b ≤ xs.length) : cutD xs (some (a : Int)) (some (b : Int)) = (xs.drop a).take (b - a) := by
  unfold cutD
  rw [HT.sIx_nat, HT.sIx_nat, show min a xs.length = a by omega, show min b xs.length = b by omega]
theorem cut_from {α : Type} {xs : List α} {a : Nat} (ha : a ≤ xs.length) : cutD xs (some (a : Int)) none = xs.drop a := by
  unfold cutD
  rw [HT.sIx_nat, show min a xs.length = a by omega]
  rw [show HT.sIx xs.length xs.length none = xs.length from rfl]
  exact List.take_of_length_le (by rw [List.length_drop]; omega)
theorem loopW_ix {α δ ρ : Type} {f : δ → α → Wp (Ct ρ δ)} {P : Ct ρ δ → Prop} (J : Nat → δ → Prop) : ∀ (xs : List α) (i : Nat) (s : δ), J i s →
    (∀ (k : Nat) (s : δ) (x : α) (C : Ct ρ δ → Prop), i ≤ k → k < i + xs.length → J k s → x ∈ xs → (∀ s', J (k + 1) s' → C (.go s')) → f s x C) → (∀ s, J (i + xs.length) s → P (.go s)) → loopW f xs s P
  | [], i, s, h, _, e => e s h
  | x :: r, i, s, h, st, e => by
    unfold loopW
    refine st i s x _ (Nat.le_refl _) (by simp) h (List.mem_cons_self ..) fun s' h' => ?_
    show loopW f r s' P
    refine loopW_ix J r (i + 1) s' h' (fun k s x C h1 h2 hJ hx hC => st k s x C (by omega) (by simp at h2 ⊢; omega) hJ (List.mem_cons_of_mem _ hx) hC) fun s hs => e s ?_
    rw [List.length_cons, show i + (r.length + 1) = i + 1 + r.length by omega]
    exact hs
theorem loopW_all {α δ ρ : Type} {f : δ → α → Wp (Ct ρ δ)} {P : Ct ρ δ → Prop} (J : δ → Prop) (xs : List α) (s : δ) (h : J s) (st : ∀ (s : δ) (x : α) (C : Ct ρ δ → Prop), J s → x ∈ xs → (∀ s', J s' → C (.go s')) → f s x C) (e : ∀ s, J s → P (.go s)) : loopW f xs s P :=
  loopW_ix (fun _ => J) xs 0 s h (fun _ s x C _ _ hJ hx hC => st s x C hJ hx hC) (fun s hs => e s hs)
theorem last_at {α : Type} {xs : List α} (h : xs ≠ []) : ∃ x, atI xs (-1) = some x ∧ x ∈ xs := by
  have l := List.length_pos_iff.mpr h
  have hk : xs.length - 1 < xs.length := by omega
  refine ⟨xs[xs.length - 1], ?_, List.getElem_mem hk⟩
  unfold atI ixN
  rw [if_neg (by decide), if_pos (by omega), Option.bind_some, show ((-1 : Int) + (xs.length : Int)).toNat = xs.length - 1 by omega]
  exact List.getElem?_eq_getElem hk
theorem jn_of {δ : Type} {f : (δ → Prop) → Prop} {k : δ → Prop} (Gd : δ → Prop) (h1 : ∀ K : δ → Prop, (∀ j, Gd j → K j) → f K) (h2 : ∀ j, Gd j → k j) : jn f k := h1 k h2
theorem filW_all {α β : Type} {f : α → Wp (Option β)} {p : β → Prop} : ∀ {xs : List α} {P : List β → Prop}, (∀ x ∈ xs, ∀ Po : Option β → Prop, (∀ y, p y → Po (some y)) → Po none → f x Po) → (∀ ys, ys.length ≤ xs.length → (∀ y ∈ ys, p y) → P ys) → filW f xs P
  | [], P, _, h => h [] (by simp) (fun y hy => by simp at hy)
  | x :: r, P, hf, h => by
    unfold filW
    refine hf x (List.mem_cons_self ..) _ (fun y hy => ?_) ?_
    · refine filW_all (fun z hz => hf z (List.mem_cons_of_mem _ hz)) fun ys hl hp => h _ (by simp; omega) fun z hz => ?_
      simp at hz
      rcases hz with rfl | hz
      · exact hy
      · exact hp z hz
    · refine filW_all (fun z hz => hf z (List.mem_cons_of_mem _ hz)) fun ys hl hp => h _ (by simp; omega) fun z hz => hp z (by simpa using hz)
theorem loopW_rng {δ ρ : Type} {f : δ → Int → Wp (Ct ρ δ)} {P : Ct ρ δ → Prop} (J : Nat → δ → Prop) : ∀ (n : Nat) {a : Nat} (s : δ), J a s → (∀ (k : Nat) (s : δ) (C : Ct ρ δ → Prop), a ≤ k → k < a + n → J k s → (∀ s', J (k + 1) s' → C (.go s')) → f s (k : Int) C) → (∀ s, J (a + n) s → P (.go s)) → loopW f (rngL (a : Int) n) s P
  | 0, a, s, h, _, e => e s h
  | n + 1, a, s, h, st, e => by
    rw [rngL_succ]
    unfold loopW
    refine st a s _ (Nat.le_refl _) (by omega) h fun s' h' => ?_
    show loopW f (rngL ((a : Int) + 1) n) s' P
    have := loopW_rng (f := f) (P := P) J n (a := a + 1) s' h' (fun k s C h1 h2 hJ hC => st k s C (by omega) (by omega) hJ hC) (fun s hs => e s (by rw [show a + (n + 1) = a + 1 + n by omega]; exact hs))
    simpa using this
theorem loopC_chk {α : Type} {f : Unit → α → Option (Ct Bool Unit)} {g : α → Bool} : ∀ (xs : List α), (∀ x ∈ xs, f () x = some (if g x then .ret false else .go ())) → loopC f xs () = some (if xs.any g then .ret false else .go ())
  | [], _ => rfl
  | x :: r, h => by
    have hx := h x (List.mem_cons_self ..)
    have hr := loopC_chk r fun y hy => h y (List.mem_cons_of_mem _ hy)
    unfold loopC
    rw [hx, Option.bind_some]
    by_cases c : g x = true
    · simp [c]
    · simp only [c, Bool.false_eq_true, if_false, List.any_cons, Bool.false_or]
      exact hr
theorem loopC_app {α β ρ : Type} {f : List β → α → Option (Ct ρ (List β))} {g : α → List β} {M c : Nat} : ∀ (xs : List α) (s : List β), (∀ x ∈ xs, (g x).length ≤ c ∧ ∀ s, s.length + c ≤ M → f s x = some (.go (s ++ g x))) → s.length + xs.length * c ≤ M → loopC f xs s = some (.go (s ++ xs.flatMap g))
  | [], s, _, _ => by simp [loopC]
  | x :: r, s, h, hb => by
    have hx := h x (List.mem_cons_self ..)
    have e : (x :: r).length * c = c + r.length * c := by rw [List.length_cons, Nat.succ_mul, Nat.add_comm]
    rw [e] at hb
    unfold loopC
    rw [hx.2 s (by omega), Option.bind_some]
    refine (loopC_app r (s ++ g x) (fun y hy => h y (List.mem_cons_of_mem _ hy)) ?_).trans ?_
    · rw [List.length_append]
      have := hx.1
      omega
    · simp
theorem filO_gen {α : Type} {g : α → Option Bool} {p : α → Bool} : ∀ (xs : List α), (∀ x ∈ xs, g x = some (p x)) → filO (fun x => bd (g x) fun k => if k then bd (some x) fun y => some (some y) else some none) xs = some (xs.filter p)
  | [], _ => rfl
  | x :: r, h => by
    have hr := filO_gen r fun y hy => h y (List.mem_cons_of_mem _ hy)
    simp only [filO, h x (List.mem_cons_self ..), bd, Option.bind_some] at hr ⊢
    by_cases c : p x = true
    · simp [c, hr]
    · simp [c, hr]
theorem fil_gen {α : Type} {g : α → Option Bool} {p : α → Bool} {xs : List α} (hl : xs.length ≤ 1000) (h : ∀ x ∈ xs, g x = some (p x)) : filL? g (fun x => some x) xs = some (xs.filter p) := by
  unfold filL?
  rw [if_pos (by omega)]
  exact filO_gen xs h
theorem at_get {α : Type} {xs : List α} {j : Int} (d : α) (h0 : 0 ≤ j) (h : j < xs.length) : atI xs j = some (xs.getD j.toNat d) := by
  rw [atI_toNat h0 h, List.getD_eq_getElem?_getD, List.getElem?_eq_getElem (by omega)]
  rfl
theorem at_lastD {α : Type} {xs : List α} (d : α) (h : xs ≠ []) : atI xs (-1) = some (xs.getD (xs.length - 1) d) := by
  have hl := List.length_pos_iff.mpr h
  unfold atI ixN
  rw [if_neg (by decide), if_pos (by omega), Option.bind_some, show ((-1 : Int) + (xs.length : Int)).toNat = xs.length - 1 by omega, List.getD_eq_getElem?_getD, List.getElem?_eq_getElem (by omega)]
  rfl
theorem rng_memI {lo x : Int} {n : Nat} (h : lo ≤ x ∧ x < lo + n) : x ∈ rngL lo n := by
  unfold rngL
  rw [List.mem_map]
  exact ⟨(x - lo).toNat, by simp; omega, by omega⟩
theorem memD_iff {α : Type} [DecidableEq α] {x : α} {xs : List α} : memD x xs = true ↔ x ∈ xs := by simp [memD]
theorem flatMap_len {α β : Type} {g : α → List β} {c : Nat} : ∀ xs : List α, (∀ x ∈ xs, (g x).length ≤ c) → (xs.flatMap g).length ≤ xs.length * c
  | [], _ => by simp
  | x :: r, h => by
    have := flatMap_len r fun y hy => h y (List.mem_cons_of_mem _ hy)
    have := h x (List.mem_cons_self ..)
    rw [List.flatMap_cons, List.length_append, List.length_cons, Nat.succ_mul]
    omega
theorem whileC_meas {δ ρ : Type} {t : δ → Option Bool} {f : δ → Option (Ct ρ δ)} (J : δ → Prop) (μ : δ → Nat) (h : ∀ s, J s → t s = some false ∨ (t s = some true ∧ ∃ s', f s = some (.go s') ∧ J s' ∧ μ s' < μ s)) : ∀ (n : Nat) (s : δ), J s → μ s < n → ∃ s', whileC t f n s = some (.go s') ∧ J s' ∧ t s' = some false
  | 0, s, _, hm => by omega
  | n + 1, s, hJ, hm => by
    rcases h s hJ with h1 | ⟨h1, s', h2, h3, h4⟩
    · exact ⟨s, whileC_stop h1, hJ, h1⟩
    · obtain ⟨z, e1, e2, e3⟩ := whileC_meas J μ h n s' h3 (by omega)
      exact ⟨z, by rw [whileC_go h1 h2, e1], e2, e3⟩
theorem min_mem {xs : List Int} (h : xs ≠ []) : ∃ m, xs.min? = some m ∧ m ∈ xs := by
  cases e : xs.min? with
  | none => exact absurd (List.min?_eq_none_iff.mp e) h
  | some m => exact ⟨m, rfl, List.min?_mem e⟩
theorem cat_eq {α : Type} {xs ys : List α} (h : xs.length + ys.length ≤ 1000) : cat? xs ys = some (xs ++ ys) := by
  unfold cat?
  rw [if_pos (by omega)]
end M

namespace M
open PySem L2 G
section
variable {K : PySem.W.Frag} {α β γ δ ε ρ : Type} {S T : AS} {σ : St} {H : Hp} {ta tb te tc : TE} {tt tu : TT} {a : Ty K α} {b' : Ty K β} {c' : Ty K γ} {D : Ends} {u t1 t2 : TS} {b c : Addr}
theorem kitAny2 {t n1 n2 : String} {k1 k2 : Bool} (h1 : kitB t n1 = some k1) (h2 : kitB t n2 = some k2) : PySem.W.kitAny K (.type t) [.type n1, .type n2] = some (k1 || k2) := by
  cases k1 with
  | true => exact kitAny_cons (b := true) (kit_ty h1) (fun z => nomatch z) (fun _ => rfl)
  | false =>
    refine kitAny_cons (b := false) (kit_ty h1) (fun _ => ?_) (fun z => nomatch z)
    cases k2 with
    | true => exact kitAny_cons (b := true) (kit_ty h2) (fun z => nomatch z) (fun _ => rfl)
    | false => exact kitAny_cons (b := false) (kit_ty h2) (fun _ => rfl) (fun z => nomatch z)
theorem ev_isi2 {r : Option α} {t n1 n2 : String} {k1 k2 : Bool} [hi : IsTy a t] (h : Ev S T te σ H (of a S) r) (h1 : kitB t n1 = some k1) (h2 : kitB t n2 = some k2) :
    Ev S T (tCB (rIsiT K) (tCons te (tCons (tTup (tCons (tC (.ty n1)) (tCons (tC (.ty n2)) tNil))) tNil))) σ H (of (K := K) tBool S) (bd r fun _ => some (k1 || k2)) := by
  intro z e H1 f1 d Q q
  obtain ⟨x, ex, e⟩ := bd_some e
  cases e
  exact h x ex H1 f1 d _ fun v H2 s hv => ⟨(by show 2 ≤ sizeLine; decide), fun p hp => ⟨v, p, _, _, _, _, rfl, upd_same, .cons (.ty _) (.cons (.ty _) .nil), hi.h (a.mono (Fr.same (same_new hp)) hv), kitAny2 h1 h2, q _ _ (s.trans (same_new hp)) rfl⟩⟩
theorem ev_isNv [NN a] {r : Option α} (h : Ev S T te σ H (of a S) r) : Ev S T (tOp (fun x y H Q => y = .non ∧ Q (.bl (decide (x = .non))) H) te (tC .non)) σ H (of (K := K) tBool S) (bd r fun _ => some false) := by
  intro z e H1 f1 d Q q
  obtain ⟨x, ex, e⟩ := bd_some e
  cases e
  exact h x ex H1 f1 d _ fun v H2 s hv => ⟨rfl, q _ H2 s (by show V.bl _ = V.bl false; rw [decide_eq_false (NN.h hv)])⟩
theorem ev_slO {p : Addr} {xs : List α} {i : Nat} {tl th : TO} {rl rh : Option (Option Int)} (o : Own a S H p xs) (nt : p ∉ T) (ts : Sub T S) (hi : σ[i]? = some (some (.ref p))) (hl : EvO S T tl σ H rl) (hh : EvO S T th σ H rh) :
    Ev S T (tSl (rSlL K) (tVar i) tl th) σ H (nw a S) (bd rl fun l => bd rh fun h => some (cutD xs l h)) := by
  intro z e H1 f1 d Q q
  obtain ⟨l, el, e⟩ := bd_some e
  obtain ⟨h, eh, e⟩ := bd_some e
  cases e
  refine ⟨_, hi, hl l el H1 f1 d _ fun H2 s2 => hh h eh H2 (f1.trans (Fr.same s2)) (d.same s2) _ fun H3 s3 => ?_⟩
  obtain ⟨vs, hv, ha⟩ := ((o.fr f1 ts nt).same s2).same s3
  refine ⟨p, vs, rfl, .inl (.inl hv), fun p' hp' => q _ _ ((s2.trans s3).trans (same_new hp')) ⟨p', rfl, (s2.trans s3).free hp', _, upd_same, ?_⟩⟩
  exact (ha.cut l h).imp fun _ _ hh => a.mono (Fr.same (same_new hp')) (a.ext hp' hh)
theorem lw_set {p : Addr} {xs : List α} {i : Nat} {w : Wp α} {td : TE} {ri : Option Int} {R : List α → Prop} (d : Dom S H) (hB : Bag H b c) (ts : Sub [b, c] S) (o : Own a S H p xs) (im : p ∈ S) (nt : p ∉ [b, c]) (hi : σ[i]? = some (some (.ref p))) (h : EvW b c S te σ H (of a S) w) (hk : Ev S [b, c] td σ H (of (K := K) tInt S) ri)
    (e : w fun x => lf ri fun k => lf (set? xs k x) R)
    (q : ∀ ys H1 H2, R ys → Fr [b, c] H H1 → Dom S H1 → Bag H1 b c → Mut1 p H1 H2 → Fr S H1 H2 → Own a S H2 p ys → D.nx σ H2) : tAsg te (gSub (tVar i) td rSetL) D σ H := by
  refine h ts _ e H (Fr.refl _) d hB _ fun v H1 x ⟨k, ek, ys, ey, hR⟩ f1 d1 hB1 hx => ⟨_, hi, hk k ek H1 f1 d1 _ fun w H2 s2 hw => ?_⟩
  cases hw
  obtain ⟨vs, hv, ha⟩ := o.fr f1 ts nt
  obtain ⟨j, ej, ey⟩ := bd_some ey
  cases ey
  refine ⟨p, vs, k, j, rfl, rfl, s2 _ _ hv, by rw [ha.len]; exact ej, ?_⟩
  have g1 : Fr S H2 (upd H2 p (.lst (vs.set j v))) := fr_upd im
  refine q _ H1 _ hR f1 d1 hB1 ⟨fun b ob e n => by rw [upd_ne n]; exact s2 _ _ e, by rw [upd_same]; intro z; cases z⟩ ((Fr.same s2).trans g1) ⟨_, upd_same, ?_⟩
  exact (All2.set (a.mono (Fr.same s2) hx) j (ha.imp fun _ _ h => a.mono (Fr.same s2) h)).imp fun _ _ h => a.mono g1 h
theorem qw_set {p : Addr} {xs : List α} {i : Nat} {w : Wp α} {td : TE} {ri : Option Int} {R : List α → Prop} (d : Dom S H) (hB : Bag H b c) (ts : Sub [b, c] S) (o : Own a S H p xs) (im : p ∈ S) (nt : p ∉ [b, c]) (hi : σ[i]? = some (some (.ref p))) (h : EvW b c S te σ H (of a S) w) (hk : Ev S [b, c] td σ H (of (K := K) tInt S) ri)
    (e : w fun x => lf ri fun k => lf (set? xs k x) R)
    (q : ∀ ys H1 H2, R ys → Fr [b, c] H H1 → Dom S H1 → Bag H1 b c → Mut1 p H1 H2 → Fr S H1 H2 → Own a S H2 p ys → u D σ H2) : tSeq (tAsg te (gSub (tVar i) td rSetL)) u D σ H := lw_set (D := { D with nx := u D }) d hB ts o im nt hi h hk e q
end
end M

namespace M
open PySem L2 G
open PyProof.Rows (itemOrd)
open PySem.W (dataLt alike alikeAll AlikeAll minD min_list_data alike_unique)
/-! ### min of a list of data -/
theorem fold_mem {α : Type} (f : α → α → Bool) : ∀ (xs : List α) (x : α), xs.foldl (fun a y => if f y a then y else a) x ∈ x :: xs
  | [], x => by simp
  | y :: r, x => by
    rw [List.foldl_cons]
    have := fold_mem f r (if f y x then y else x)
    rcases List.mem_cons.mp this with e | m
    · rw [e]
      split <;> simp
    · exact List.mem_cons_of_mem _ (List.mem_cons_of_mem _ m)
def rMinA (K : PySem.W.Frag) : List V → Hp → VK → Prop := fun vs H Q => ∃ (a : Addr) (xs : List V) (d : PyData) (ds : List PyData), vs = [.ref a] ∧ SqL K H a xs ∧ DpAll K H xs (d :: ds) ∧ AlikeAll (d :: ds) ∧ PyData.depthAll (d :: ds) ≤ 60 ∧
  ∀ (i : Nat) (v : V), xs[i]? = some v → (d :: ds)[i]? = some (minD d ds) → Q v H
theorem cr_minA {X : Cx} (hc : X.calm = true) (hu : X.A.units + 65 < cLine) : CallR X (.builtin "min") (rMinA X.K) := by
  intro pins s σ H vs us Q I r h
  obtain ⟨a, xs, d, ds, rfl, hs, hd, hal, hdp, q⟩ := h
  obtain ⟨its, rv, hl, _⟩ := I.list hs
  rw [Vals.ref1 r]
  obtain ⟨as, hr⟩ := Dp.readsAll I (d :: ds) xs its hd rv
  refine min_list_data (I.ok.hd hc) hl.isList (by simpa using hr) hal (by omega) fun i v h' tk bs hv hr' hk => ?_
  have hv' : its[i]? = some v := by simpa using hv
  have hlen := rv.length
  have hi : i < its.length := (List.getElem?_eq_some_iff.mp hv').1
  obtain ⟨x, hx⟩ : ∃ x, xs[i]? = some x := ⟨_, List.getElem?_eq_getElem (by omega)⟩
  have rx : RelV x v := by
    obtain ⟨u, hu', ru⟩ := Vals.get rv hx
    rw [hv'] at hu'
    cases hu'
    exact ru
  obtain ⟨cs, rc, hin, _, _⟩ := PySem.W.readsAll_at hr i v hv'
  have e : (d :: ds).getD i .none = minD d ds := by
    have r1 := PySem.W.reads_keeps hk rc
    refine alike_unique _ _ v _ _ ?_ r1 hr'
    refine hal.1 _ ?_ _ ?_
    · rw [List.getD_eq_getElem?_getD, List.getElem?_eq_getElem hin]
      exact List.getElem_mem _
    · exact fold_mem _ _ _
  refine ⟨x, H, I.kept hk, rx, q i x hx ?_⟩
  rw [← e, List.getD_eq_getElem?_getD, List.getElem?_eq_getElem hin]
  rfl
/-- codes whose things can be ordered -/
structure TyLt {K : PySem.W.Frag} {α : Type} {a : Ty K α} (d : TyD a) (lt : α → α → Bool) : Prop where
  al : ∀ x y, alike (d.dt x) (d.dt y) = true
  nn : ∀ x, d.dt x ≠ .none
  lt : ∀ x y, dataLt (d.dt x) (d.dt y) = lt x y
def minBy? {α : Type} (lt : α → α → Bool) : List α → Option α
  | [] => none
  | x :: xs => some (xs.foldl (fun a y => if lt y a then y else a) x)
theorem minD_map {K : PySem.W.Frag} {α : Type} {a : Ty K α} {d : TyD a} {lt : α → α → Bool} (h : TyLt d lt) : ∀ (xs : List α) (x : α), minD (d.dt x) (xs.map d.dt) = d.dt (xs.foldl (fun a y => if lt y a then y else a) x)
  | [], x => rfl
  | y :: r, x => by
    have ih := minD_map h r (if lt y x then y else x)
    unfold minD at ih ⊢
    rw [List.map_cons, List.foldl_cons, List.foldl_cons, h.lt, ← ih]
    congr 1
    split <;> rfl
theorem ev_minBy {K : PySem.W.Frag} {α : Type} {S T : AS} {σ : St} {H : Hp} {te : TE} {a : Ty K α} [DecidableEq α] {d : TyD a} {lt : α → α → Bool} {r : Option (List α)} (hd : d.dep ≤ 60) (hl : TyLt d lt) (h : Ev S T te σ H (of (tL a) S) r) :
    Ev S T (tCB (rMinA K) (tCons te tNil)) σ H (of a S) (bd r fun x => minBy? lt x) := by
  intro z e H1 f1 dm Q q
  obtain ⟨x, ex, e⟩ := bd_some e
  refine h x ex H1 f1 dm _ fun v H2 s ⟨p, vs, ev, hp, ha⟩ => ?_
  subst ev
  cases x with
  | nil => cases e
  | cons y ys =>
    cases e
    have da := dpAll d ha
    rw [List.map_cons] at da
    refine ⟨p, vs, d.dt y, ys.map d.dt, rfl, hp.sq, da, ⟨fun u hu w hw => ?_, fun u hu => ?_⟩, ?_, fun i w hw he => ?_⟩
    · rw [← List.map_cons] at hu hw
      obtain ⟨u', _, rfl⟩ := List.mem_map.mp hu
      obtain ⟨w', _, rfl⟩ := List.mem_map.mp hw
      exact hl.al _ _
    · rw [← List.map_cons] at hu
      obtain ⟨u', _, rfl⟩ := List.mem_map.mp hu
      exact hl.nn _
    · rw [← List.map_cons]
      exact Nat.le_trans (depAll d (y :: ys)) hd
    · rw [← List.map_cons, List.getElem?_map, minD_map hl] at he
      obtain ⟨c, hc, rc⟩ := ha.getL i hw
      rw [hc] at he
      have ec : c = ys.foldl (fun a y => if lt y a then y else a) y := by
        have := Option.some.inj he
        have e2 := d.dec c (ys.foldl (fun a y => if lt y a then y else a) y)
        rw [this, d.dec] at e2
        simpa using e2.symm
      subst ec
      exact q w H2 s rc
/-! lists of ints, as Python orders them -/
def lexI : List Int → List Int → Bool
  | [], [] => false
  | [], _ :: _ => true
  | _ :: _, [] => false
  | x :: xs, y :: ys => if x = y then lexI xs ys else decide (x < y)
theorem lexI_toks : ∀ xs ys : List Int, PyProof.Rows.lexLt itemOrd (PySem.W.keyToksAll (xs.map .int)) (PySem.W.keyToksAll (ys.map .int)) = lexI xs ys
  | [], [] => by rfl
  | [], y :: ys => by rfl
  | x :: xs, [] => by rfl
  | x :: xs, y :: ys => by
    rw [List.map_cons, List.map_cons]
    have al : alike (.int x) (.int y) = true := rfl
    unfold lexI
    by_cases c : x = y
    · rw [if_pos c, PySem.W.dataLt_all_yes al (by simp [PyData.eqv, c])]
      exact lexI_toks xs ys
    · rw [if_neg c, PySem.W.dataLt_all_no al (by simp [PyData.eqv, c]), PySem.W.dataLt_int]
theorem alike_ints' : ∀ xs ys : List Int, alikeAll (xs.map .int) (ys.map .int) = true
  | [], ys => by simp [alikeAll]
  | x :: xs, [] => by simp [alikeAll]
  | x :: xs, y :: ys => by simp [alikeAll, alike, alike_ints' xs ys]
theorem lt_LI {K : PySem.W.Frag} : TyLt (K := K) (dL dInt) lexI := ⟨fun x y => by show alike (.list _) (.list _) = true; rw [alike]; exact alike_ints' x y, fun x z => (by cases z), fun x y => by show dataLt (.list _) (.list _) = _; rw [PySem.W.dataLt_list]; exact lexI_toks x y⟩
/-! one taken out of a list -/
def popAt? {α : Type} (xs : List α) (i : Int) : Option (α × List α) := if 0 ≤ i then (xs[i.toNat]?).map fun y => (y, xs.eraseIdx i.toNat) else none
theorem All2.erase {α β : Type} {F : α → β → Prop} : ∀ (n : Nat) {xs : List α} {ys : List β}, All2 F xs ys → All2 F (xs.eraseIdx n) (ys.eraseIdx n)
  | _, _, _, .nil => .nil
  | 0, _, _, .cons _ r => r
  | n + 1, _, _, .cons a r => .cons a (All2.erase n r)
end M

namespace M
open PySem L2 G
open PyProof.Rows (itemOrd)
open PySem.W (dataLt alike alikeAll AllAlike Sortable dataLe sorted_data EachIs)
/-! ### sorted of a list of data -/
def rSortA (K : PySem.W.Frag) : List V → Hp → VK → Prop := fun vs H Q => ∃ (a : Addr) (bs : List (V × PyData)), vs = [.ref a] ∧ SqL K H a (bs.map (·.1)) ∧ (∀ b ∈ bs, Dp K H b.1 b.2) ∧ AllAlike (bs.map (·.2)) ∧ Sortable (bs.map (·.2)) ∧ (∀ b ∈ bs, b.2.depth ≤ 60) ∧
  ∀ p, H p = none → Q (.ref p) (upd H p (.lst ((bs.mergeSort (dataLe false (·.2))).map (·.1))))
theorem each_vals {X : Cx} {pins : List (Addr × Obj)} {σ : St} {H : Hp} {s : Shared} (I : Inv X pins σ H s) : ∀ {bs : List (V × PyData)} {its : List Value}, Vals (bs.map (·.1)) its → (∀ b ∈ bs, Dp X.K H b.1 b.2) →
    EachIs (fun v (b : V × PyData) => RelV b.1 v) its bs ∧ EachIs (fun v (b : V × PyData) => ∃ as, Reads s.heap v b.2 as) its bs
  | [], _, .nil, _ => ⟨.nil, .nil⟩
  | b :: r, _, .cons h t, hd => by
    obtain ⟨e1, e2⟩ := each_vals I t fun x hx => hd x (List.mem_cons_of_mem _ hx)
    exact ⟨.cons h e1, .cons (Dp.reads I b.2 b.1 _ (hd b (List.mem_cons_self ..)) h) e2⟩
theorem vals_each : ∀ {out : List Value} {bs : List (V × PyData)}, EachIs (fun v (b : V × PyData) => RelV b.1 v) out bs → Vals (bs.map (·.1)) out
  | _, _, .nil => .nil
  | _, _, .cons h t => .cons h (vals_each t)
theorem cr_sortA {X : Cx} (hu : X.A.units + 65 < cLine) : CallR X (.builtin "sorted") (rSortA X.K) := by
  intro pins s σ H vs us Q I r h
  obtain ⟨a, bs, rfl, hs, hd, hal, hk, hdp, q⟩ := h
  obtain ⟨its, rv, hl, hz⟩ := I.list hs
  rw [Vals.ref1 r]
  obtain ⟨e1, e2⟩ := each_vals I rv hd
  have hz' : bs.length ≤ sizeLine := by simpa using hz
  refine sorted_data (bs := bs) (enc := (·.2)) hl.isList e1 e2 hal hk hz' (fun b hb => by have := hdp b hb; omega) fun out ho he => ?_
  obtain ⟨ep, he'⟩ := PyProof.Rows.sortedAll_at s.heap its out.toArray
  have hlen : ((bs.mergeSort (dataLe false (·.2))).map (·.1)).length ≤ sizeLine := by rw [List.length_map, List.length_mergeSort]; exact hz'
  exact ⟨.ref _, upd H (s.heap.objs.size + 1) (.lst ((bs.mergeSort (dataLe false (·.2))).map (·.1))), I.laid (t' := s.toks) (fun _ _ => PyProof.Rows.sortedAll_old) (Nat.le_succ _) ⟨hlen, out, ep, vals_each he, by simpa using he'⟩, rfl, q _ (I.hok.fresh (Nat.le_succ _))⟩
def sortBy {α : Type} (lt : α → α → Bool) (xs : List α) : List α := xs.mergeSort fun x y => !lt y x
theorem dataLe_not {β : Type} (k : β → PyData) (x y : β) : dataLe false k x y = !dataLt (k y) (k x) := by
  first | rfl | (unfold dataLe dataLt; rfl)
/-- codes of which all are tuples with an item, or none is -/
def Srt {K : PySem.W.Frag} {α : Type} {a : Ty K α} (d : TyD a) : Prop := (∀ x, ∃ y r, d.dt x = .tuple (y :: r)) ∨ ∀ x ys, d.dt x ≠ .tuple ys
theorem ev_sortBy {K : PySem.W.Frag} {α : Type} {S T : AS} {σ : St} {H : Hp} {te : TE} {a : Ty K α} {d : TyD a} {lt : α → α → Bool} {r : Option (List α)} (hd : d.dep ≤ 60) (hl : TyLt d lt) (hs : Srt d) (h : Ev S T te σ H (of (tL a) S) r) :
    Ev S T (tCB (rSortA K) (tCons te tNil)) σ H (nw a S) (bd r fun x => some (sortBy lt x)) := by
  intro z e H1 f1 dm Q q
  obtain ⟨xs, ex, e⟩ := bd_some e
  cases e
  refine h xs ex H1 f1 dm _ fun v H2 s ⟨p, vs, ev, hp, ha⟩ => ?_
  subst ev
  have len := ha.len
  have m1 : ((vs.zip xs).map fun t : V × α => (t.1, d.dt t.2)).map (·.1) = vs := by
    rw [List.map_map]
    exact List.map_fst_zip (by omega)
  have m2 : (vs.zip xs).map Prod.snd = xs := List.map_snd_zip (by omega)
  have hz : ∀ t ∈ vs.zip xs, a.rp S H2 t.1 t.2 := fun t ht => by
    obtain ⟨i, hi, rfl⟩ := List.mem_iff_getElem.mp ht
    rw [List.length_zip] at hi
    rw [List.getElem_zip]
    obtain ⟨w, hw, hr⟩ := ha.get i (List.getElem?_eq_getElem (show i < xs.length by omega))
    rw [List.getElem?_eq_getElem (by omega)] at hw
    cases hw
    exact hr
  refine ⟨p, (vs.zip xs).map fun t => (t.1, d.dt t.2), rfl, by rw [m1]; exact hp.sq, fun b hb => ?_, ?_, ?_, fun b hb => ?_, fun p' hp' => ?_⟩
  · obtain ⟨t, ht, rfl⟩ := List.mem_map.mp hb
    exact d.dp (hz t ht)
  · intro u hu w hw
    rw [List.map_map] at hu hw
    obtain ⟨t, _, rfl⟩ := List.mem_map.mp hu
    obtain ⟨t', _, rfl⟩ := List.mem_map.mp hw
    exact hl.al _ _
  · rcases hs with hs | hs
    · left
      intro u hu
      rw [List.map_map] at hu
      obtain ⟨t, _, rfl⟩ := List.mem_map.mp hu
      exact hs _
    · right
      intro u hu
      rw [List.map_map] at hu
      obtain ⟨t, _, rfl⟩ := List.mem_map.mp hu
      exact ⟨hl.nn _, hs _⟩
  · obtain ⟨t, _, rfl⟩ := List.mem_map.mp hb
    exact Nat.le_trans (d.hd _) hd
  · have k1 := List.map_mergeSort (r := fun t t' : V × α => !lt t'.2 t.2) (s := dataLe false (fun b : V × PyData => b.2)) (f := fun t : V × α => (t.1, d.dt t.2)) (l := vs.zip xs) (fun t _ t' _ => by rw [dataLe_not, hl.lt])
    have k2 := List.map_mergeSort (r := fun t t' : V × α => !lt t'.2 t.2) (s := fun x y => !lt y x) (f := Prod.snd) (l := vs.zip xs) (fun t _ t' _ => rfl)
    rw [m2] at k2
    rw [← k1, List.map_map]
    have s4 := same_new (o := .lst (((vs.zip xs).mergeSort fun t t' : V × α => !lt t'.2 t.2).map fun t => t.1)) hp'
    refine q _ _ (s.trans s4) ⟨p', rfl, s.free hp', _, upd_same, ?_⟩
    unfold sortBy
    rw [← k2]
    have al : ∀ ts : List (V × α), (∀ t ∈ ts, a.rp S H2 t.1 t.2) → All2 (a.rp (p' :: S) (upd H2 p' (.lst (((vs.zip xs).mergeSort fun t t' : V × α => !lt t'.2 t.2).map fun t => t.1)))) (ts.map fun t => t.1) (ts.map Prod.snd) := by
      intro ts
      induction ts with
      | nil => exact fun _ => .nil
      | cons t r ih => exact fun ht => .cons (a.mono (Fr.same s4) (a.ext hp' (ht t (List.mem_cons_self ..)))) (ih fun x hx => ht x (List.mem_cons_of_mem _ hx))
    exact al _ fun t ht => hz t (List.mem_mergeSort.mp ht)
/-! pairs of a number and a list of numbers; texts -/
def ltPL (x y : Int × List Int) : Bool := if x.1 = y.1 then lexI x.2 y.2 else decide (x.1 < y.1)
theorem lt_PL {K : PySem.W.Frag} : TyLt (K := K) (dT2 dInt (dL dInt)) ltPL := by
  have al1 : ∀ n m : Int, alike (.int n) (.int m) = true := fun _ _ => rfl
  have al2 : ∀ x y : List Int, alike (.list (x.map .int)) (.list (y.map .int)) = true := fun x y => by rw [alike]; exact alike_ints' x y
  refine ⟨fun x y => ?_, fun x z => (by cases z), fun x y => ?_⟩
  · show alike (.tuple [.int x.1, .list (x.2.map .int)]) (.tuple [.int y.1, .list (y.2.map .int)]) = true
    rw [alike, alikeAll, alikeAll, al1, al2, alikeAll]
    rfl
  · show dataLt (.tuple [.int x.1, .list (x.2.map .int)]) (.tuple [.int y.1, .list (y.2.map .int)]) = ltPL x y
    rw [PySem.W.dataLt_tuple]
    unfold ltPL
    by_cases c : x.1 = y.1
    · rw [if_pos c, PySem.W.dataLt_all_yes (al1 _ _) (by simp [PyData.eqv, c])]
      have e2 : PyData.eqv (.list (x.2.map .int)) (.list (y.2.map .int)) = decide (x.2 = y.2) := (dL (K := K) dInt).dec x.2 y.2
      by_cases c2 : x.2 = y.2
      · rw [PySem.W.dataLt_all_yes (al2 _ _) (by rw [e2]; exact decide_eq_true c2), c2]
        have irr : ∀ l : List Int, lexI l l = false := fun l => by induction l with | nil => rfl | cons a r ih => simp [lexI, ih]
        rw [irr]
        rfl
      · rw [PySem.W.dataLt_all_no (al2 _ _) (by rw [e2]; exact decide_eq_false c2), PySem.W.dataLt_list]
        exact lexI_toks _ _
    · rw [if_neg c, PySem.W.dataLt_all_no (al1 _ _) (by simp [PyData.eqv, c]), PySem.W.dataLt_int]
theorem srt_PL {K : PySem.W.Frag} : Srt (K := K) (dT2 dInt (dL dInt)) := .inl fun x => ⟨_, _, rfl⟩
def ltS (x y : Str) : Bool := decide (x.cps.toList < y.cps.toList)
theorem lt_S {K : PySem.W.Frag} : TyLt (K := K) dStr ltS := ⟨fun x y => rfl, fun x z => (by cases z), fun x y => PySem.W.dataLt_str x y⟩
theorem srt_S {K : PySem.W.Frag} : Srt (K := K) dStr := .inr fun x ys z => (by cases z)
def ltI (x y : Int) : Bool := decide (x < y)
theorem lt_I {K : PySem.W.Frag} : TyLt (K := K) dInt ltI := ⟨fun x y => rfl, fun x z => (by cases z), fun x y => PySem.W.dataLt_int x y⟩
theorem srt_I {K : PySem.W.Frag} : Srt (K := K) dInt := .inr fun x ys z => (by cases z)
end M

namespace M
open PySem L2 G
/-! ### dicts -/
/-- what can be a key: ints and texts -/
class KeyC (κ : Type) where
  kk : κ → Key
  ok : κ → Prop
  inj : ∀ {x y}, kk x = kk y → x = y
instance : KeyC Int := ⟨Sum.inl, fun _ => True, fun h => by cases h; rfl⟩
instance : KeyC Str := ⟨Sum.inr, fun z => PyData.strOk z = true, fun h => by cases h; rfl⟩
section
variable {K : PySem.W.Frag} {α β γ δ ε ρ κ : Type} [KeyC κ] [DecidableEq κ] {S T : AS} {σ : St} {H : Hp} {ta tb te tc td ty tv : TE} {tt tu : TT} {a : Ty K α} {b' : Ty K β} {c' : Ty K γ} {D : Ends} {u t1 t2 : TS} {b c : Addr}
open KeyC
/-- the codes of keys -/
class KeyT (c : Ty K κ) : Prop where
  to : ∀ {S H v x}, c.rp S H v x → v = kV (kk x) ∧ ok x
  of_ : ∀ {S H x}, ok x → c.rp S H (kV (kk x)) x
instance : KeyT (K := K) (κ := Int) tInt := ⟨fun h => ⟨h, trivial⟩, fun _ => rfl⟩
instance : KeyT (K := K) (κ := Str) tStr := ⟨fun h => ⟨h.1, h.2⟩, fun h => ⟨rfl, h⟩⟩
def KvP (b' : Ty K β) (S : AS) (H : Hp) (kv : Key × V) (x : κ × β) : Prop := kv.1 = kk x.1 ∧ ok x.1 ∧ b'.rp S H kv.2 x.2
def nDk (S : AS) (H : Hp) (a : Addr) (kvs : List (Key × V)) : Prop := H a = some (.dK kvs) ∧ a ∉ S
variable (κ) in
def tD (b' : Ty K β) : Ty K (List (κ × β)) where
  rp S H v xs := ∃ a kvs, v = .ref a ∧ nDk S H a kvs ∧ All2 (KvP b' S H) kvs xs ∧ (xs.map Prod.fst).Nodup
  mono f := fun ⟨a, kvs, e, h, h1, h2⟩ => ⟨a, kvs, e, ⟨f _ _ h.1 h.2, h.2⟩, h1.imp fun _ _ ⟨p, q, r⟩ => ⟨p, q, b'.mono f r⟩, h2⟩
  ext f := fun ⟨a, kvs, e, h, h1, h2⟩ => ⟨a, kvs, e, ⟨h.1, not_cons f (by rw [h.1]; intro z; cases z) h.2⟩, h1.imp fun _ _ ⟨p, q, r⟩ => ⟨p, q, b'.ext f r⟩, h2⟩
  sub f := fun ⟨a, kvs, e, h, h1, h2⟩ => ⟨a, kvs, e, ⟨h.1, fun m => h.2 (f _ m)⟩, h1.imp fun _ _ ⟨p, q, r⟩ => ⟨p, q, b'.sub f r⟩, h2⟩
/-- an owned dict -/
def OwnD (b' : Ty K β) (S : AS) (H : Hp) (p : Addr) (xs : List (κ × β)) : Prop := ∃ kvs, H p = some (.dK kvs) ∧ All2 (KvP b' S H) kvs xs ∧ (xs.map Prod.fst).Nodup
def nwD (b' : Ty K β) (S : AS) (H0 H : Hp) (v : V) (xs : List (κ × β)) : Prop := ∃ p, v = .ref p ∧ H0 p = none ∧ OwnD b' (p :: S) H p xs
def nwd (b' : Ty K β) (S : AS) : Rl (List (κ × β)) := ⟨nwD b' S, fun f d ⟨p, e, n, h⟩ => ⟨p, e, fr_back f d n, h⟩⟩
theorem nwD.rp {S : AS} {H0 H : Hp} {v : V} {xs : List (κ × β)} (h : nwD b' S H0 H v xs) (d : Dom S H0) : (tD κ b').rp S H v xs := by
  obtain ⟨p, e, hp, kvs, hv, ha, hn⟩ := h
  exact ⟨p, kvs, e, ⟨hv, d.not_mem hp⟩, ha.imp fun _ _ ⟨q, r, s⟩ => ⟨q, r, b'.sub (fun _ m => List.mem_cons_of_mem _ m) s⟩, hn⟩
theorem ev_newD {r : Option (List (κ × β))} (h : Ev S T te σ H (nwd b' S) r) : Ev S T te σ H (of (tD κ b') S) r := by
  intro x ex H1 f d Q q
  exact h x ex H1 f d Q fun v H2 s hv => q v H2 s (nwD.rp hv d)
/-! what a dict tells -/
def getK (xs : List (κ × β)) (k : κ) : Option β := (xs.find? fun p => decide (p.1 = k)).map (·.2)
theorem val_get {S : AS} {H : Hp} {k : κ} : ∀ {kvs : List (Key × V)} {xs : List (κ × β)}, All2 (KvP b' S H) kvs xs → (getK xs k = none ∧ valV kvs (kk k) = none) ∨ ∃ x v, getK xs k = some x ∧ valV kvs (kk k) = some v ∧ b'.rp S H v x
  | _, _, .nil => .inl ⟨rfl, rfl⟩
  | kv :: kvs, x :: xs, .cons h r => by
    by_cases e : x.1 = k
    · right
      refine ⟨x.2, kv.2, ?_, ?_, h.2.2⟩
      · simp [getK, List.find?_cons, e]
      · exact valV_pos (by rw [h.1, e])
    · have e' : ¬ kv.1 = kk k := fun z => e (inj (h.1.symm.trans z))
      have g1 : getK (x :: xs) k = getK xs k := by simp [getK, List.find?_cons, e]
      have g2 := valV_neg (p := kv) (r := kvs) (k := kk k) e'
      rw [g1, g2]
      exact val_get r
theorem ev_dget {ck : Ty K κ} [KeyT ck] {rd : Option (List (κ × β))} {rk : Option κ} (hd : Ev S T td σ H (of (tD κ b') S) rd) (hk : Ev S T ty σ H (of ck S) rk) :
    Ev S T (tDGet td ty) σ H (of b' S) (bd rd fun d => bd rk fun k => getK d k) := by
  intro z e H1 f1 d Q q
  obtain ⟨xs, ex, e⟩ := bd_some e
  obtain ⟨k, ek, e⟩ := bd_some e
  refine hd xs ex H1 f1 d _ fun v H2 s2 hv => hk k ek H2 (f1.trans (Fr.same s2)) (d.same s2) _ fun w H3 s3 hw => ?_
  obtain ⟨p, kvs, rfl, hp, ha, hn⟩ := (tD κ b').mono (Fr.same s3) hv
  obtain ⟨rfl, hok⟩ := KeyT.to hw
  rcases val_get (k := k) ha with ⟨g1, _⟩ | ⟨x, u, g1, g2, g3⟩
  · rw [g1] at e; cases e
  · rw [g1] at e
    cases e
    exact ⟨p, u, rfl, .inl ⟨kvs, kk k, .inl hp.1, rfl, g2.symm⟩, q u H3 (s2.trans s3) g3⟩
theorem ev_din {ck : Ty K κ} [KeyT ck] {rd : Option (List (κ × β))} {rk : Option κ} (hk : Ev S T ty σ H (of ck S) rk) (hd : Ev S T td σ H (of (tD κ b') S) rd) :
    Ev S T (tDIn ty td) σ H (of (K := K) tBool S) (bd rk fun k => bd rd fun d => some (getK d k).isSome) := by
  intro z e H1 f1 d Q q
  obtain ⟨k, ek, e⟩ := bd_some e
  obtain ⟨xs, ex, e⟩ := bd_some e
  cases e
  refine hk k ek H1 f1 d _ fun w H2 s2 hw => hd xs ex H2 (f1.trans (Fr.same s2)) (d.same s2) _ fun v H3 s3 hv => ?_
  obtain ⟨p, kvs, rfl, hp, ha, hn⟩ := hv
  obtain ⟨rfl, hok⟩ := KeyT.to hw
  refine ⟨p, _, rfl, .inl ⟨kvs, kk k, .inl hp.1, rfl, rfl⟩, q _ H3 (s2.trans s3) ?_⟩
  rcases val_get (k := k) ha with ⟨g1, g2⟩ | ⟨x, u, g1, g2, g3⟩
  · rw [g1, g2]; rfl
  · rw [g1, g2]; rfl
theorem ev_dnotin {ck : Ty K κ} [KeyT ck] {rd : Option (List (κ × β))} {rk : Option κ} (hk : Ev S T ty σ H (of ck S) rk) (hd : Ev S T td σ H (of (tD κ b') S) rd) :
    Ev S T (tDNotIn ty td) σ H (of (K := K) tBool S) (bd rk fun k => bd rd fun d => some (!(getK d k).isSome)) := by
  intro z e H1 f1 d Q q
  obtain ⟨k, ek, e⟩ := bd_some e
  obtain ⟨xs, ex, e⟩ := bd_some e
  cases e
  refine hk k ek H1 f1 d _ fun w H2 s2 hw => hd xs ex H2 (f1.trans (Fr.same s2)) (d.same s2) _ fun v H3 s3 hv => ?_
  obtain ⟨p, kvs, rfl, hp, ha, hn⟩ := hv
  obtain ⟨rfl, hok⟩ := KeyT.to hw
  refine ⟨p, _, rfl, .inl ⟨kvs, kk k, .inl hp.1, rfl, rfl⟩, q _ H3 (s2.trans s3) ?_⟩
  rcases val_get (k := k) ha with ⟨g1, g2⟩ | ⟨x, u, g1, g2, g3⟩
  · rw [g1, g2]; rfl
  · rw [g1, g2]; rfl
theorem ev_dnew : Ev S T tDNewK σ H (nwd (κ := κ) b' S) (some []) := fun x e H1 f d Q q => by
  cases e
  exact fun p hp => q _ _ (same_new hp) ⟨p, rfl, hp, [], upd_same, .nil, by simp⟩
/-! put -/
def putL (xs : List (κ × β)) (k : κ) (x : β) : List (κ × β) := if xs.any (fun p => decide (p.1 = k)) then xs.map fun p => if p.1 = k then (p.1, x) else p else xs ++ [(k, x)]
def putL? (xs : List (κ × β)) (k : κ) (x : β) : Option (List (κ × β)) := if xs.length < 100000 then some (putL xs k x) else none
theorem any_kk {S : AS} {H : Hp} {k : κ} : ∀ {kvs : List (Key × V)} {xs : List (κ × β)}, All2 (KvP b' S H) kvs xs → (kvs.any fun kv => decide (kv.1 = kk k)) = xs.any fun p => decide (p.1 = k)
  | _, _, .nil => rfl
  | kv :: kvs, x :: xs, .cons h r => by
    rw [List.any_cons, List.any_cons, any_kk r, h.1]
    congr 1
    by_cases e : x.1 = k
    · rw [e]; simp
    · have : ¬ (kk x.1 : Key) = kk k := fun z => e (inj z)
      simp [e, this]
theorem put_all {S : AS} {H : Hp} {k : κ} {v : V} {x : β} (hk : ok k) (hv : b'.rp S H v x) {kvs : List (Key × V)} {xs : List (κ × β)} (h : All2 (KvP b' S H) kvs xs) : All2 (KvP b' S H) (putK kvs (kk k) v) (putL xs k x) := by
  unfold putK putL
  rw [any_kk h]
  split
  · have : ∀ {kvs : List (Key × V)} {xs : List (κ × β)}, All2 (KvP b' S H) kvs xs → All2 (KvP b' S H) (kvs.map fun kv => if kv.1 = kk k then (kv.1, v) else kv) (xs.map fun p => if p.1 = k then (p.1, x) else p) := by
      intro kvs xs h
      induction h with
      | nil => exact .nil
      | @cons kv y kvs xs h r ih =>
        refine .cons ?_ ih
        dsimp only
        by_cases e : y.1 = k
        · rw [if_pos e, if_pos (by rw [h.1, e])]
          exact ⟨h.1, h.2.1, hv⟩
        · rw [if_neg e, if_neg (fun z => e (inj (h.1.symm.trans z)))]
          exact h
    exact this h
  · exact h.snoc ⟨rfl, hk, hv⟩
theorem put_nd {k : κ} {x : β} {xs : List (κ × β)} (h : (xs.map Prod.fst).Nodup) : ((putL xs k x).map Prod.fst).Nodup := by
  unfold putL
  split
  · rw [List.map_map]
    have : (Prod.fst ∘ fun p : κ × β => if p.1 = k then (p.1, x) else p) = Prod.fst := by
      funext p
      simp only [Function.comp_apply]
      split <;> rfl
    rw [this]
    exact h
  · rename_i hn
    rw [List.map_append, List.map_singleton]
    refine List.nodup_append.mpr ⟨h, by simp, fun y hy z hz e => ?_⟩
    rw [List.mem_singleton] at hz
    subst hz
    subst e
    obtain ⟨p, hp, e⟩ := List.mem_map.mp hy
    exact hn (List.any_eq_true.mpr ⟨p, hp, decide_eq_true e⟩)
end
end M

namespace M
open PySem L2 G
section
variable {K : PySem.W.Frag} {α β γ δ ε ρ κ : Type} [KeyC κ] [DecidableEq κ] {S T : AS} {σ : St} {H : Hp} {ta tb te tc td ty tv : TE} {tt tu : TT} {a : Ty K α} {b' : Ty K β} {c' : Ty K γ} {D : Ends} {u t1 t2 : TS} {b c : Addr}
open KeyC
theorem KvP.mono {S : AS} {H H' : Hp} {kv : Key × V} {x : κ × β} (f : Fr S H H') (h : KvP b' S H kv x) : KvP b' S H' kv x := ⟨h.1, h.2.1, b'.mono f h.2.2⟩
theorem KvP.ext {S : AS} {H : Hp} {q : Addr} {kv : Key × V} {x : κ × β} (n : H q = none) (h : KvP b' S H kv x) : KvP b' (q :: S) H kv x := ⟨h.1, h.2.1, b'.ext n h.2.2⟩
theorem KvP.sub {S S' : AS} {H : Hp} {kv : Key × V} {x : κ × β} (f : Sub S' S) (h : KvP b' S H kv x) : KvP b' S' H kv x := ⟨h.1, h.2.1, b'.sub f h.2.2⟩
theorem OwnD.same {S : AS} {H H' : Hp} {p : Addr} {xs : List (κ × β)} (h : OwnD b' S H p xs) (s : Same H H') : OwnD b' S H' p xs := by
  obtain ⟨kvs, hv, ha, hn⟩ := h
  exact ⟨kvs, s _ _ hv, ha.imp fun _ _ => KvP.mono (Fr.same s), hn⟩
theorem OwnD.fr {S T : AS} {H H' : Hp} {p : Addr} {xs : List (κ × β)} (h : OwnD b' S H p xs) (f : Fr T H H') (ts : Sub T S) (n : p ∉ T) : OwnD b' S H' p xs := by
  obtain ⟨kvs, hv, ha, hn⟩ := h
  exact ⟨kvs, f _ _ hv n, ha.imp fun _ _ => KvP.mono (f.sub ts), hn⟩
theorem OwnD.ext {S : AS} {H : Hp} {p q : Addr} {xs : List (κ × β)} (h : OwnD b' S H p xs) (n : H q = none) : OwnD b' (q :: S) H p xs := by
  obtain ⟨kvs, hv, ha, hn⟩ := h
  exact ⟨kvs, hv, ha.imp fun _ _ => KvP.ext n, hn⟩
theorem OwnD.ne {S : AS} {H : Hp} {p q : Addr} {xs : List (κ × β)} (h : OwnD b' S H p xs) (n : H q = none) : p ≠ q := by
  obtain ⟨kvs, hv, _⟩ := h
  exact ne_of_none hv n
theorem OwnD.sub {S S' : AS} {H : Hp} {p : Addr} {xs : List (κ × β)} (h : OwnD b' S H p xs) (hs : Sub S' S) : OwnD b' S' H p xs := by
  obtain ⟨kvs, hv, ha, hn⟩ := h
  exact ⟨kvs, hv, ha.imp fun _ _ => KvP.sub hs, hn⟩
theorem OwnD.mut {S : AS} {H H' : Hp} {p q : Addr} {xs : List (κ × β)} (h : OwnD b' S H p xs) (f : Fr S H H') (m : Mut1 q H H') (n : p ≠ q) : OwnD b' S H' p xs := by
  obtain ⟨kvs, hv, ha, hn⟩ := h
  exact ⟨kvs, m.k _ _ hv n, ha.imp fun _ _ => KvP.mono f, hn⟩
theorem OwnD.frz {p : Addr} {xs : List (κ × β)} {S' : AS} (o : OwnD b' S H p xs) (hs : Sub S' S) (n : p ∉ S') : (tD κ b').rp S' H (.ref p) xs := by
  obtain ⟨kvs, hv, ha, hn⟩ := o
  exact ⟨p, kvs, rfl, ⟨hv, n⟩, ha.imp fun _ _ => KvP.sub hs, hn⟩
/-! an owned dict is read -/
theorem ev_ownDGet {ck : Ty K κ} [KeyT ck] {p : Addr} {xs : List (κ × β)} {i : Nat} {rk : Option κ} (o : OwnD b' S H p xs) (nt : p ∉ T) (ts : Sub T S) (hi : σ[i]? = some (some (.ref p))) (hk : Ev S T ty σ H (of ck S) rk) :
    Ev S T (tDGet (tVar i) ty) σ H (of b' S) (bd rk fun k => getK xs k) := by
  intro z e H1 f1 d Q q
  obtain ⟨k, ek, e⟩ := bd_some e
  refine ⟨_, hi, hk k ek H1 f1 d _ fun w H2 s2 hw => ?_⟩
  obtain ⟨kvs, hv, ha, hn⟩ := (o.fr f1 ts nt).same s2
  obtain ⟨rfl, hok⟩ := KeyT.to hw
  rcases val_get (k := k) ha with ⟨g1, _⟩ | ⟨x, v, g1, g2, g3⟩
  · rw [g1] at e; cases e
  · rw [g1] at e
    cases e
    exact ⟨p, v, rfl, .inl ⟨kvs, kk k, .inl hv, rfl, g2.symm⟩, q v H2 s2 g3⟩
theorem ev_ownDIn {ck : Ty K κ} [KeyT ck] {p : Addr} {xs : List (κ × β)} {i : Nat} {rk : Option κ} (o : OwnD b' S H p xs) (nt : p ∉ T) (ts : Sub T S) (hi : σ[i]? = some (some (.ref p))) (hk : Ev S T ty σ H (of ck S) rk) :
    Ev S T (tDIn ty (tVar i)) σ H (of (K := K) tBool S) (bd rk fun k => some (getK xs k).isSome) := by
  intro z e H1 f1 d Q q
  obtain ⟨k, ek, e⟩ := bd_some e
  cases e
  refine hk k ek H1 f1 d _ fun w H2 s2 hw => ⟨_, hi, ?_⟩
  obtain ⟨kvs, hv, ha, hn⟩ := (o.fr f1 ts nt).same s2
  obtain ⟨rfl, hok⟩ := KeyT.to hw
  refine ⟨p, _, rfl, .inl ⟨kvs, kk k, .inl hv, rfl, rfl⟩, q _ H2 s2 ?_⟩
  rcases val_get (k := k) ha with ⟨g1, g2⟩ | ⟨x, v, g1, g2, g3⟩
  · rw [g1, g2]; rfl
  · rw [g1, g2]; rfl
theorem ev_ownDNotIn {ck : Ty K κ} [KeyT ck] {p : Addr} {xs : List (κ × β)} {i : Nat} {rk : Option κ} (o : OwnD b' S H p xs) (nt : p ∉ T) (ts : Sub T S) (hi : σ[i]? = some (some (.ref p))) (hk : Ev S T ty σ H (of ck S) rk) :
    Ev S T (tDNotIn ty (tVar i)) σ H (of (K := K) tBool S) (bd rk fun k => some (!(getK xs k).isSome)) := by
  intro z e H1 f1 d Q q
  obtain ⟨k, ek, e⟩ := bd_some e
  cases e
  refine hk k ek H1 f1 d _ fun w H2 s2 hw => ⟨_, hi, ?_⟩
  obtain ⟨kvs, hv, ha, hn⟩ := (o.fr f1 ts nt).same s2
  obtain ⟨rfl, hok⟩ := KeyT.to hw
  refine ⟨p, _, rfl, .inl ⟨kvs, kk k, .inl hv, rfl, rfl⟩, q _ H2 s2 ?_⟩
  rcases val_get (k := k) ha with ⟨g1, g2⟩ | ⟨x, v, g1, g2, g3⟩
  · rw [g1, g2]; rfl
  · rw [g1, g2]; rfl
/-! d[k] = e -/
theorem l_dput {ck : Ty K κ} [KeyT ck] {p : Addr} {xs ys : List (κ × β)} {i : Nat} {r : Option β} {rk : Option κ} {x : β} {k : κ} (d : Dom S H) (o : OwnD b' S H p xs) (im : p ∈ S) (nt : p ∉ T) (ts : Sub T S) (hi : σ[i]? = some (some (.ref p))) (h : Ev S T tv σ H (of b' S) r) (e : r = some x) (hk : Ev S T ty σ H (of ck S) rk) (ek : rk = some k) (f : putL? xs k x = some ys)
    (q : ∀ H1, Mut1 p H H1 → Fr S H H1 → OwnD b' S H1 p ys → D.nx σ H1) : sDPut (tVar i) ty tv D σ H := by
  obtain ⟨kvs, hv, ha, hn⟩ := o
  unfold putL? at f
  split at f
  · rename_i hl
    cases f
    refine h x e H (Fr.refl _) d _ fun v H1 s1 hx => ⟨_, hi, hk k ek H1 (Fr.same s1) (d.same s1) _ fun w H2 s2 hw => ?_⟩
    obtain ⟨rfl, hok⟩ := KeyT.to hw
    have f1 : Fr S H2 (upd H2 p (.dK (putK kvs (kk k) v))) := fr_upd im
    refine ⟨p, _, rfl, .inl ⟨kvs, kk k, s2 _ _ (s1 _ _ hv), rfl, Nat.lt_of_lt_of_le (by rw [ha.len]; exact hl) (by decide), rfl⟩, ?_⟩
    refine q _ ⟨fun b ob e n => by rw [upd_ne n]; exact s2 _ _ (s1 _ _ e), by rw [upd_same]; intro z; cases z⟩ ((Fr.same (s1.trans s2)).trans f1) ⟨_, upd_same, ?_, put_nd hn⟩
    exact (put_all hok (b'.mono (Fr.same s2) hx) (ha.imp fun _ _ => KvP.mono (Fr.same (s1.trans s2)))).imp fun _ _ => KvP.mono f1
  · cases f
theorem q_dput {ck : Ty K κ} [KeyT ck] {p : Addr} {xs ys : List (κ × β)} {i : Nat} {r : Option β} {rk : Option κ} {x : β} {k : κ} (d : Dom S H) (o : OwnD b' S H p xs) (im : p ∈ S) (nt : p ∉ T) (ts : Sub T S) (hi : σ[i]? = some (some (.ref p))) (h : Ev S T tv σ H (of b' S) r) (e : r = some x) (hk : Ev S T ty σ H (of ck S) rk) (ek : rk = some k) (f : putL? xs k x = some ys)
    (q : ∀ H1, Mut1 p H H1 → Fr S H H1 → OwnD b' S H1 p ys → u D σ H1) : tSeq (sDPut (tVar i) ty tv) u D σ H := l_dput (D := { D with nx := u D }) d o im nt ts hi h e hk ek f q
theorem lw_dput {ck : Ty K κ} [KeyT ck] {p : Addr} {xs : List (κ × β)} {i : Nat} {w : Wp β} {rk : Option κ} {R : List (κ × β) → Prop} (d : Dom S H) (hB : Bag H b c) (ts : Sub [b, c] S) (o : OwnD b' S H p xs) (im : p ∈ S) (nt : p ∉ [b, c]) (hi : σ[i]? = some (some (.ref p))) (h : EvW b c S tv σ H (of b' S) w) (hk : Ev S [b, c] ty σ H (of ck S) rk)
    (e : w fun x => lf rk fun k => lf (putL? xs k x) R)
    (q : ∀ ys H1 H2, R ys → Fr [b, c] H H1 → Dom S H1 → Bag H1 b c → Mut1 p H1 H2 → Fr S H1 H2 → OwnD b' S H2 p ys → D.nx σ H2) : sDPut (tVar i) ty tv D σ H := by
  refine h ts _ e H (Fr.refl _) d hB _ fun v H1 x ⟨k, ek, ys, ey, hR⟩ f1 d1 hB1 hx => ⟨_, hi, hk k ek H1 f1 d1 _ fun z H2 s2 hw => ?_⟩
  obtain ⟨kvs, hv, ha, hn⟩ := (o.fr f1 ts nt).same s2
  obtain ⟨rfl, hok⟩ := KeyT.to hw
  unfold putL? at ey
  split at ey
  · rename_i hl
    cases ey
    have g1 : Fr S H2 (upd H2 p (.dK (putK kvs (kk k) v))) := fr_upd im
    refine ⟨p, _, rfl, .inl ⟨kvs, kk k, hv, rfl, Nat.lt_of_lt_of_le (by rw [ha.len]; exact hl) (by decide), rfl⟩, ?_⟩
    refine q _ H1 _ hR f1 d1 hB1 ⟨fun b ob e n => by rw [upd_ne n]; exact s2 _ _ e, by rw [upd_same]; intro z; cases z⟩ ((Fr.same s2).trans g1) ⟨_, upd_same, ?_, put_nd hn⟩
    exact (put_all hok (b'.mono (Fr.same s2) hx) ha).imp fun _ _ => KvP.mono g1
  · cases ey
theorem qw_dput {ck : Ty K κ} [KeyT ck] {p : Addr} {xs : List (κ × β)} {i : Nat} {w : Wp β} {rk : Option κ} {R : List (κ × β) → Prop} (d : Dom S H) (hB : Bag H b c) (ts : Sub [b, c] S) (o : OwnD b' S H p xs) (im : p ∈ S) (nt : p ∉ [b, c]) (hi : σ[i]? = some (some (.ref p))) (h : EvW b c S tv σ H (of b' S) w) (hk : Ev S [b, c] ty σ H (of ck S) rk)
    (e : w fun x => lf rk fun k => lf (putL? xs k x) R)
    (q : ∀ ys H1 H2, R ys → Fr [b, c] H H1 → Dom S H1 → Bag H1 b c → Mut1 p H1 H2 → Fr S H1 H2 → OwnD b' S H2 p ys → u D σ H2) : tSeq (sDPut (tVar i) ty tv) u D σ H := lw_dput (D := { D with nx := u D }) d hB ts o im nt hi h hk e q
/-! len, dict(d), list(d) -/
theorem ev_lenD {r : Option (List (κ × β))} (h : Ev S T te σ H (of (tD κ b') S) r) : Ev S T (tCB (fun xs H Q => ∃ a kvs, xs = [V.ref a] ∧ H a = some (.dK kvs) ∧ Q (.int kvs.length) H) (tCons te tNil)) σ H (of (K := K) tInt S) (bd r fun x => some (x.length : Int)) := by
  intro z e H1 f1 d Q q
  obtain ⟨x, ex, e⟩ := bd_some e
  cases e
  refine h x ex H1 f1 d _ fun v H2 s ⟨p, kvs, ev, hp, ha, hn⟩ => ?_
  subst ev
  exact ⟨p, kvs, rfl, hp.1, q _ H2 s (by rw [ha.len]; rfl)⟩
theorem ev_dictD {r : Option (List (κ × β))} (h : Ev S T te σ H (of (tD κ b') S) r) : Ev S T (tCB (fun xs H Q => ∃ (a : Addr) (kvs : List (Key × V)), xs = [.ref a] ∧ Rd H a (.dK kvs) ∧ ∀ p, H p = none → Q (.ref p) (upd H p (.dK kvs))) (tCons te tNil)) σ H (nwd b' S) r := by
  intro x ex H1 f1 d Q q
  refine h x ex H1 f1 d _ fun v H2 s ⟨p, kvs, ev, hp, ha, hn⟩ => ?_
  subst ev
  refine ⟨p, kvs, rfl, .inl hp.1, fun p' hp' => q _ _ (s.trans (same_new hp')) ⟨p', rfl, s.free hp', kvs, upd_same, ?_, hn⟩⟩
  exact ha.imp fun _ _ h => KvP.mono (Fr.same (same_new hp')) (KvP.ext hp' h)
end
/-! sorted(d): the keys, rising -/
section
variable {K : PySem.W.Frag} {β : Type} {S T : AS} {σ : St} {H : Hp} {te : TE} {b' : Ty K β}
theorem keys_S {S : AS} {H : Hp} : ∀ {kvs : List (Key × V)} {xs : List (Str × β)}, All2 (KvP b' S H) kvs xs → kvs.map (·.1) = (xs.map Prod.fst).map Sum.inr ∧ ∀ z ∈ xs.map Prod.fst, PyData.strOk z = true
  | _, _, .nil => ⟨rfl, fun z hz => by simp at hz⟩
  | kv :: kvs, x :: xs, .cons h r => by
    obtain ⟨e1, e2⟩ := keys_S r
    refine ⟨by rw [List.map_cons, List.map_cons, List.map_cons, e1, h.1]; rfl, fun z hz => ?_⟩
    rw [List.map_cons] at hz
    rcases List.mem_cons.mp hz with rfl | hz
    · exact h.2.1
    · exact e2 z hz
end
end M

namespace M
open PySem L2 G
section
variable {K : PySem.W.Frag} {α β γ δ ε ρ : Type} {S T : AS} {σ : St} {H : Hp} {ta tb te : TE} {tt tu : TT} {a : Ty K α} {b : Ty K β} {c : Ty K γ}
/-! ### a list of two things of two kinds -/
def tL2 (c : Ty K α) (d : Ty K β) : Ty K (α × β) where
  rp S H v x := ∃ a u w, v = .ref a ∧ nL K S H a [u, w] ∧ c.rp S H u x.1 ∧ d.rp S H w x.2
  mono f := fun ⟨a, u, w, e, h, h1, h2⟩ => ⟨a, u, w, e, h.mono f, c.mono f h1, d.mono f h2⟩
  ext f := fun ⟨a, u, w, e, h, h1, h2⟩ => ⟨a, u, w, e, h.ext f, c.ext f h1, d.ext f h2⟩
  sub f := fun ⟨a, u, w, e, h, h1, h2⟩ => ⟨a, u, w, e, h.sub f, c.sub f h1, d.sub f h2⟩
theorem ev_lst2 {ra : Option α} {rb : Option β} (ha : Ev S T ta σ H (of a S) ra) (hb : Ev S T tb σ H (of b S) rb) : Ev S T (tLst (tCons ta (tCons tb tNil))) σ H (of (tL2 a b) S) (bd ra fun x => bd rb fun y => some (x, y)) := by
  intro z e H1 f1 d Q q
  obtain ⟨x, ex, e⟩ := bd_some e
  obtain ⟨y, ey, e⟩ := bd_some e
  cases e
  refine ha x ex H1 f1 d _ fun v H2 s2 hv => hb y ey H2 (f1.trans (Fr.same s2)) (d.same s2) _ fun w H3 s3 hw => ⟨(by show 2 ≤ sizeLine; decide), fun p hp => ?_⟩
  have s4 := same_new (o := .lst [v, w]) hp
  exact q _ _ (s2.trans (s3.trans s4)) ⟨p, v, w, rfl, ⟨upd_same, ((d.same s2).same s3).not_mem hp⟩, a.mono (Fr.same (s3.trans s4)) hv, b.mono (Fr.same s4) hw⟩
theorem ev_ixL_ {R : Rl γ} {i : Int} {ra : Option α} {g : α → γ} (ha : Ev S T ta σ H (of a S) ra) (h : ∀ x H v, a.rp S H v x → ∃ p vs u, v = .ref p ∧ SqL K H p vs ∧ atI vs i = some u ∧ R.r H H u (g x)) :
    Ev S T (tOp (rIxL K) ta (tC (.int i))) σ H R (bd ra fun x => some (g x)) := by
  intro z e H1 f1 d Q q
  obtain ⟨x, ex, e⟩ := bd_some e
  cases e
  refine ha x ex H1 f1 d _ fun v H2 s2 hv => ?_
  obtain ⟨p, vs, u, rfl, hp, hu, hz⟩ := h x H2 v hv
  exact ⟨p, vs, i, u, rfl, rfl, hp, hu, q u H2 s2 (R.same s2 hz)⟩
theorem ev_ixL20 {ra : Option (α × β)} (ha : Ev S T ta σ H (of (tL2 a b) S) ra) : Ev S T (tOp (rIxL K) ta (tC (.int 0))) σ H (of a S) (bd ra fun x => some x.1) :=
  ev_ixL_ ha fun x H v ⟨p, u, w, e, h, h1, h2⟩ => ⟨p, _, u, e, h.sq, rfl, h1⟩
theorem ev_ixL21 {ra : Option (α × β)} (ha : Ev S T ta σ H (of (tL2 a b) S) ra) : Ev S T (tOp (rIxL K) ta (tC (.int 1))) σ H (of b S) (bd ra fun x => some x.2) :=
  ev_ixL_ ha fun x H v ⟨p, u, w, e, h, h1, h2⟩ => ⟨p, _, w, e, h.sq, rfl, h2⟩
def dL2 {a : Ty K α} {b : Ty K β} (d : TyD a) (e : TyD b) : TyD (tL2 a b) := ⟨fun x => .list [d.dt x.1, e.dt x.2], max d.dep e.dep + 1, fun ⟨p, u, w, z, hp, h1, h2⟩ => by subst z; exact .lst hp.sq (.cons (d.dp h1) (.cons (e.dp h2) .nil)),
  fun {S H v x} ⟨p, u, w, z, hp, h1, h2⟩ => by
    show (PyData.canLay0 (d.dt x.1) && (PyData.canLay0 (e.dt x.2) && true)) = true
    rw [d.shp h1, e.shp h2]
    rfl,
  fun x => by
    show max (PyData.depth (d.dt x.1)) (max (PyData.depth (e.dt x.2)) 0) + 1 ≤ _
    have h1 := d.hd x.1
    have h2 := e.hd x.2
    omega,
  fun x y => by
    show (PyData.eqv (d.dt x.1) (d.dt y.1) && (PyData.eqv (e.dt x.2) (e.dt y.2) && true)) = true ↔ _
    rw [Bool.and_true, Bool.and_eq_true, d.eqv, e.eqv]
    exact ⟨fun h => Prod.ext h.1 h.2, fun h => by subst h; exact ⟨rfl, rfl⟩⟩⟩
/-! ### // and % -/
theorem od_fdiv : OpD (K := K) tInt tInt S (of (K := K) tInt S) (rI CDivZ fun i j => .int (i.fdiv j)) fdiv? := od_I (p := fun _ j => fdivP j) (fun i j h => show j ≠ 0 ∧ j.natAbs.log2 < 9000 from of_decide_eq_true h) fun _ _ _ => rfl
def fmod? (i j : Int) : Option Int := if decide (j ≠ 0) then some (i.fmod j) else none
theorem od_fmod : OpD (K := K) tInt tInt S (of (K := K) tInt S) (rI (fun _ j => j ≠ 0) fun i j => .int (i.fmod j)) fmod? := od_I (p := fun _ j => decide (j ≠ 0)) (fun i j h => of_decide_eq_true h) fun _ _ _ => rfl
/-! ### is not True -/
theorem od_isB : OpD (K := K) tBool tBool S (of (K := K) tBool S) rIsB (fun i j => some (decide (i = j))) := by
  intro x y z e H1 v w d hv hw Q q
  cases e; cases hv; cases hw
  exact ⟨x, y, rfl, rfl, q _ H1 (Same.refl _) rfl⟩
theorem od_notB : OpD (K := K) tBool tBool S (of (K := K) tBool S) rNotB (fun i j => some (!decide (i = j))) := by
  intro x y z e H1 v w d hv hw Q q
  cases e; cases hv; cases hw
  exact ⟨x, y, rfl, rfl, q _ H1 (Same.refl _) rfl⟩
/-! ### a test over fewer owned lists -/
theorem eb_shr {S' : AS} {r : Option Bool} (hs : Sub S' S) (h : EvB S' T tt σ H r) : EvB S T tt σ H r := fun x ex H1 f d Q q => h x ex H1 f (d.sub hs) Q q
/-! ### [te for x, y in zip(xs, ys)] -/
theorem ev_lcZ {tl tm : TE} {j j2 : Nat} {ws : List Nat} {r : Option (List α)} {r' : Option (List β)} {f : α × β → Option γ} (h : Ev S T tl σ H (of (tL a) S) r) (h' : Ev S T tm σ H (of (tL b) S) r') (hw : ∀ x y, wipe (((wipe σ ws).set j (some x)).set j2 (some y)) ws = wipe σ ws)
    (he : ∀ (x : α × β) (v w : V) (H2 H' : Hp) (p : Addr), Fr T H H2 → H2 p = none → Same H2 H' → a.rp (p :: S) H' v x.1 → b.rp (p :: S) H' w x.2 → Ev (p :: S) [] te (((wipe σ ws).set j (some v)).set j2 (some w)) H' (of c (p :: S)) (f x)) :
    Ev S T (tLc (iZip K (tCons tl (tCons tm tNil))) (gTup K 2 (gCons (gName j) (gCons (gName j2) gNil))) tYes te ws) σ H (nw c S) (bd r fun xs => bd r' fun ys => mapL? f (xs.zip ys)) := by
  intro z e H1 f1 d Q q
  obtain ⟨xs, ex, e⟩ := bd_some e
  obtain ⟨ys, ey, e⟩ := bd_some e
  unfold mapL? at e
  split at e
  rotate_left
  · cases e
  rename_i hlen
  refine h xs ex H1 f1 d _ fun v H2 s2 ⟨p, vs, ev, hp, ha⟩ => h' ys ey H2 (f1.trans (Fr.same s2)) (d.same s2) _ fun v' H3 s3 ⟨p', vs', ev', hp', ha'⟩ => ?_
  subst ev
  subst ev'
  have hp := hp.mono (Fr.same s3)
  have ha := ha.imp fun _ _ => a.mono (Fr.same s3)
  have la := ha.len
  have la' := ha'.len
  refine ⟨p, p', vs, vs', rfl, hp.sq, hp'.sq, fun Dl hD => ?_⟩
  have d3 := (d.same s2).same s3
  have sD : Same H3 (upd H3 Dl (.lst [])) := same_new hD
  refine ⟨fun i m H' => m = (xs.zip ys).length - i ∧ i ≤ (xs.zip ys).length ∧ ∃ acc pre, H' Dl = some (.lst acc) ∧ Same H3 H' ∧ acc.length ≤ i ∧ All2 (c.rp (Dl :: S) H') acc pre ∧ ∃ suf, mapO f ((xs.zip ys).drop i) = some suf ∧ z = pre ++ suf, ⟨_, rfl, Nat.zero_le _, [], [], upd_same, sD, Nat.zero_le _, .nil, z, e, rfl⟩, ?_⟩
  rintro i m H' ⟨rfl, hi, acc, pre, h1, h2, h3, h4, suf, h5, h6⟩
  by_cases k : i < (xs.zip ys).length
  · right
    have k' := k
    rw [List.length_zip] at k'
    rw [List.drop_eq_getElem_cons k] at h5
    obtain ⟨o, ho, h5⟩ := bd_some h5
    obtain ⟨suf', hs', h5⟩ := bd_some h5
    cases h5
    obtain ⟨u, hu, ru⟩ := ha.get i (List.getElem?_eq_getElem (show i < xs.length by omega))
    obtain ⟨u', hu', ru'⟩ := ha'.get i (List.getElem?_eq_getElem (show i < ys.length by omega))
    have q1 : SqL K H' p vs := (hp.mono (Fr.same h2)).sq
    have q2 : SqL K H' p' vs' := (hp'.mono (Fr.same h2)).sq
    refine ⟨⟨vs, vs', u, u', q1, q2, hu, hu'⟩, fun H4 => ∃ acc pre, H4 Dl = some (.lst acc) ∧ Same H3 H4 ∧ acc.length ≤ i + 1 ∧ All2 (c.rp (Dl :: S) H4) acc pre ∧ ∃ suf, mapO f ((xs.zip ys).drop (i + 1)) = some suf ∧ z = pre ++ suf, ?_, ?_⟩
    · rintro H4 ⟨acc, pre, g1, g2, g3, g4, suf, g5, g6⟩
      exact ⟨(xs.zip ys).length - (i + 1), by omega, rfl, by omega, acc, pre, g1, g2, g3, g4, suf, g5, g6⟩
    · intro v H4 hy
      obtain ⟨T', x', y', rfl, hT, rfl, e1, e2⟩ := hy
      have := e1 vs q1
      rw [hu] at this
      cases this
      have := e2 vs' q2
      rw [hu'] at this
      cases this
      have sT : Same H' (upd H' T' (.tup [u, u'])) := same_new hT
      refine ⟨T', [u, u'], rfl, .inl (.inl upd_same), rfl, u, _, rfl, u', _, rfl, rfl, hw _ _, G.yes_ ?_⟩
      have hs4 := h2.trans sT
      have gz : (xs.zip ys)[i] = (xs[i]'(by omega), ys[i]'(by omega)) := by rw [List.getElem_zip]
      refine he (xs.zip ys)[i] u u' H3 _ Dl (f1.trans (Fr.same (s2.trans s3))) hD hs4 (by rw [gz]; exact a.mono (Fr.same hs4) (a.ext hD ru)) (by rw [gz]; exact b.mono (Fr.same hs4) (b.ext hD ru')) o ho _ (Fr.refl _) ((d3.same hs4).cons (sT _ _ h1)) _ fun w H5 s5 hw5 => ?_
      have s6 := sT.trans s5
      refine ⟨acc, s6 _ _ h1, Nat.lt_of_lt_of_le (by omega : acc.length < 100000) (by decide), acc ++ [w], pre ++ [o], upd_same, fun p ob eb => ?_, by simp; omega, ?_, suf', hs', by rw [h6]; simp⟩
      · rw [upd_ne (ne_of_none eb hD)]
        exact s6 _ _ (h2 _ _ eb)
      · have fD : Fr (Dl :: S) H5 (upd H5 Dl (.lst (acc ++ [w]))) := fr_upd (List.mem_cons_self ..)
        exact ((h4.imp fun _ _ h => c.mono (Fr.same s6) h).snoc hw5).imp fun _ _ h => c.mono fD h
  · left
    rw [List.drop_eq_nil_of_le (by omega)] at h5
    cases h5
    rw [List.append_nil] at h6
    subst h6
    refine ⟨⟨vs, vs', (hp.mono (Fr.same h2)).sq, (hp'.mono (Fr.same h2)).sq, ?_⟩, q _ _ ((s2.trans s3).trans h2) ⟨Dl, rfl, (s2.trans s3).free hD, acc, h1, h4⟩⟩
    rw [List.length_zip] at k
    omega
end
end M

namespace M
open PySem L2 G
section
variable {K : PySem.W.Frag} {α β γ δ ε ρ : Type} {S T : AS} {σ : St} {H : Hp} {b c : Addr} {ta tb te : TE} {tt tu : TT} {a : Ty K α} {b' : Ty K β} {c' : Ty K γ} {D : Ends} {u : TS}
/-! ### a list that was made behind the heap Hs: it may be owned later -/
theorem Own.sub2 {p : Addr} {xs : List α} {S' : AS} (o : Own a S H p xs) (h : ∀ q ∈ S', q ∈ S) : Own a S' H p xs := by
  obtain ⟨vs, hv, ha⟩ := o
  exact ⟨vs, hv, ha.imp fun _ _ => a.sub h⟩
def tFL (Hs : Hp) (a : Ty K α) : Ty K (List α) where
  rp S H v xs := ∃ p, v = .ref p ∧ Hs p = none ∧ p ∉ S ∧ Own a (p :: S) H p xs
  mono {S H H' v x} f := fun ⟨p, e, n, ns, vs, hv, ha⟩ => ⟨p, e, n, ns, vs, f _ _ hv ns, ha.imp fun _ _ => a.mono (Fr.sub (fun q m => List.mem_cons_of_mem _ m) f)⟩
  ext {S H q v x} hq := fun ⟨p, e, n, ns, vs, hv, ha⟩ => ⟨p, e, n, not_cons hq (by rw [hv]; intro z; cases z) ns, vs, hv, ha.imp fun _ _ h => a.sub (fun r m => by simp only [List.mem_cons] at m ⊢; grind) (a.ext hq h)⟩
  sub {S S' H v x} hs := fun ⟨p, e, n, ns, vs, hv, ha⟩ => ⟨p, e, n, fun m => ns (hs _ m), vs, hv, ha.imp fun _ _ => a.sub fun r m => by
    rcases List.mem_cons.mp m with e | m
    · rw [e]; exact List.mem_cons_self ..
    · exact List.mem_cons_of_mem _ (hs _ m)⟩
theorem ev_FL {Hs : Hp} {r : Option (List α)} (ts : Sub T S) (fs : Fr T Hs H) (h : Ev S T te σ H (nw a S) r) : Ev S T te σ H (of (tFL Hs a) S) r := by
  intro x ex H1 f d Q q
  exact h x ex H1 f d Q fun v H2 s ⟨p, e, n, o⟩ => q v H2 s ⟨p, e, fr_back (fs.trans f) (d.sub ts) n, d.not_mem n, o⟩
theorem ew_FL {Hs : Hp} {w : Wp (List α)} (fs : Fr [b, c] Hs H) (h : EvW b c S te σ H (nw a S) w) : EvW b c S te σ H (of (tFL Hs a) S) w := fun ts P hP H1 f d hB Q q =>
  h ts P hP H1 f d hB Q fun v H2 x hx f2 d2 hB2 ⟨p, e, n, o⟩ => q v H2 x hx f2 d2 hB2 ⟨p, e, fr_back (fs.trans f) hB.dom n, d.not_mem n, o⟩
theorem ev_FL2L {Hs : Hp} {r : Option (List α)} (h : Ev S T te σ H (of (tFL Hs a) S) r) : Ev S T te σ H (of (tL a) S) r := by
  intro x ex H1 f d Q q
  exact h x ex H1 f d Q fun v H2 s ⟨p, e, n, ns, vs, hv, ha⟩ => q v H2 s ⟨p, vs, e, ⟨hv, ns⟩, ha.imp fun _ _ => a.sub fun r m => List.mem_cons_of_mem _ m⟩
theorem Fr.reflOf {H0 : Hp} (f : Fr T H0 H) : Fr T H H := Fr.refl _
/-! ### a value that is not None -/
theorem ev_unopt {r : Option (Option α)} (h : Ev S T te σ H (of (tOpt a) S) r) : Ev S T te σ H (of a S) (bd r fun x => x) := by
  intro y ey H1 f d Q q
  obtain ⟨x, ex, ey⟩ := bd_some ey
  exact h x ex H1 f d Q fun v H2 s hv => q v H2 s (by subst ey; exact hv.2)
/-! ### walks over what a draw tells; list(xs) of an owned list -/
theorem srw_list {tl : TE} {w : Wp (List α)} (h : EvW b c S tl σ H (of (tL a) S) w) : SrW b c S (iList K tl) σ H a w := fun ts P hP H1 f d hB R q =>
  h ts P hP H1 f d hB _ fun v H2 x hx f2 d2 hB2 ⟨p, vs, ev, hp, ha⟩ => ⟨p, ev, ⟨vs, hp.sq⟩, q _ H2 x hx f2 d2 hB2 (wk_list hp ha)⟩
theorem ev_listO {p : Addr} {xs : List α} {i : Nat} (o : Own a S H p xs) (nt : p ∉ T) (ts : Sub T S) (hi : σ[i]? = some (some (.ref p))) : Ev S T (tCB (fun xs H Q => ∃ p ys, xs = [.ref p] ∧ (SqL K H p ys ∨ SqT K H p ys) ∧ ∀ l, H l = none → Q (.ref l) (upd H l (.lst ys))) (tCons (tVar i) tNil)) σ H (nw a S) (some xs) := by
  intro z e H1 f1 d Q q
  cases e
  obtain ⟨vs, hv, ha⟩ := o.fr f1 ts nt
  exact ⟨_, hi, p, vs, rfl, .inl (.inl (.inl hv)), fun l hl => q _ _ (same_new hl) ⟨l, rfl, hl, vs, upd_same, ha.imp fun _ _ h => a.mono (Fr.same (same_new hl)) (a.ext hl h)⟩⟩
/-! ### two new lists at once -/
theorem q_par0 {i j : Nat} (a : Ty K α) (b' : Ty K β) (k : ∀ v w Hm H1, Same H Hm → nwL a S H Hm v [] → Same Hm H1 → (∀ p, v = .ref p → nwL b' (p :: S) Hm H1 w []) → u D ((σ.set i (some v)).set j (some w)) H1) : tSeq (tPar i j (tCons (tLst tNil) (tCons (tLst tNil) tNil))) u D σ H :=
  ⟨Nat.zero_le _, fun p hp => ⟨Nat.zero_le _, fun q hq => ⟨.ref p, .ref q, rfl, k _ _ _ _ (same_new hp) ⟨p, rfl, hp, [], upd_same, .nil⟩ (same_new hq) fun p' e => ⟨q, rfl, hq, [], upd_same, .nil⟩⟩⟩⟩
theorem ev_lenT2 {r : Option (α × β)} (h : Ev S T te σ H (of (tT2 a b') S) r) : Ev S T (tCB (fun xs H Q => ∃ p ys, xs = [.ref p] ∧ (SqL K H p ys ∨ SqT K H p ys) ∧ Q (.int ys.length) H) (tCons te tNil)) σ H (of (K := K) tInt S) (bd r fun _ => some (2 : Int)) := by
  intro z e H1 f1 d Q q
  obtain ⟨x, ex, e⟩ := bd_some e
  cases e
  refine h x ex H1 f1 d _ fun v H2 s hv => ?_
  obtain ⟨p, u, w, rfl, hp, _, _⟩ := hv
  exact ⟨p, _, rfl, .inr hp.sq, q _ H2 s rfl⟩
end
end M

namespace PySem
namespace SupX
open PySem.W PySem.Calls PyProof.Rows PySem.HandSPX
def sS (f : Str) : Scope := { kind := .function, names := [(PySem.Str.ofString "self", .local), (f, .local), (PySem.Str.ofString "__class__", .free), (PySem.Str.ofString "super", .globalImplicit)], isGenerator := false, isCoroutine := false, more := [] }
/-- the body: super().__init__(msg); self.f = f -/
def sB (f : Str) (ws : List Expr) (pj p0 p1 p2 p3 p4 q1 q2 q3 q4 : Pos) : List Stmt :=
  [.Expr (.Call (.Attribute (.Call (.Name "super" p0) [] [] p1) "__init__" p2) [.JoinedStr ws pj] [] p3) p4, .Assign [.Attribute (.Name "self" q1) f q2] (.Name f q3) q4]
structure SupTxt (prog : Program) (K : Frag) (mg : Str → Option Value) (B newId i : String) (bmB : List Value) (C fI : Addr) (f : Str) (qual : Str) (params : Arguments) (ws : List Expr) : Prop where
  FB : ExcBaseFacts B newId i bmB
  KF : KxsFacts B i
  SF : StoreFacts B bmB "object.__setattr__" "object"
  ini : excInitIn K C bmB newId = true
  over : excOver K C bmB = true
  sa : findIn K (.ref C) "__setattr__" = some (some (.builtin "object.__setattr__"))
  tk : takerIn K C f = some none
  hd : hasDictIn K C = true
  iC : findIn K (.ref C) "__init__" = some (some (.ref fI))
  tC : typeIn K (.ref fI) = some (.type "function")
  sub : subIn K (.ref C) (.type B) = some true
  mro : mroIn K C (.ref C) = some true
  sup : ks_superIn K C C "__init__" = some (some (.builtin i))
  opq : nsIn K cStatics "thirdparty.any" = some none
  nos : mg "super" = none
  top : (prog.main.scope.names.lookup ("super" : Str)).isSome = false
  hd1 : (params.posonlyargs ++ params.args).head?.map (·.arg) = some "self"
  dbg : (f == ("__debug__" : Str)) = false
  nself : f ≠ "self"
  ncls : f ≠ "__class__"
  nsup : f ≠ "super"
  fn : ∃ (oc : Value) (od : Option Addr) (doc pm : Value) (an : Option Addr) (cda : Addr) (ct : Value) (osl : Array (Option Value)) (cc : Addr) (cl : Value) (cld : Option Addr) (csl : Array (Option Value)) (ccl : Value) (cdd : Option Addr) (vs : Array Value) (ccs : Array (Option Value)) (file : Str) (tf : Tok) (pj p0 p1 p2 p3 p4 q1 q2 q3 q4 : Pos),
    K.lookup fI = some ⟨oc, od, .func (ksFn "__init__" qual params (sB f ws pj p0 p1 p2 p3 p4 q1 q2 q3 q4) (sS f) .none .none doc pm an (.ref cda) ct cc), osl⟩ ∧ codeIn K (.ref cda) qual = true ∧
    K.lookup cc = some ⟨cl, cld, .cell (some (.ref C)), csl⟩ ∧ K.lookup cda = some ⟨ccl, cdd, .fields vs, ccs⟩ ∧ vs[2]? = some (.str file tf) ∧ ((prog.main.file : Str) == file) = true ∧
    (p2.endLine == p3.line) = true ∧ ∀ (s : Shared) (x v : Value), BindsTo s (ksFn "__init__" qual params (sB f ws pj p0 p1 p2 p3 p4 q1 q2 q3 q4) (sS f) .none .none doc pm an (.ref cda) ct cc) ⟨[x, v], []⟩ [("self", x), (f, v)]
/-- the message is told, and nothing else is done -/
def Tells (prog : Program) (w : World) (ws : List Expr) (f : Str) (qual : Str) (v : Value) : Prop :=
  ∀ (A : Around) (E : Value → Shared → Prop) (s : Shared) (pj : Pos) (L a : Addr) (cd : Value) (cc : Addr) (m : Str → Option Value) (Q : Value → Shared → Prop), s.heap.Ns L m → m f = some v → (∀ y tk tk', Q (.str y tk) { s with toks := tk' }) →
    wpAny (model prog w) A (eval (.JoinedStr ws pj) (ksEnv qual (sS f) L a cd cc)) Q E s
structure Made (h h' : Heap) (e C d : Addr) (f : Str) (v : Value) : Prop where
  keep : ∀ b o, h.get? b = some o → h'.get? b = some o
  new : h.objs.size ≤ e
  obj : ∃ oe vs, h'.get? e = some oe ∧ oe.cls = .ref C ∧ oe.dict = some d ∧ oe.data = .fields vs ∧ vs[1]? = some .none
  dbig : h.objs.size ≤ d
  dne : d ≠ e
  ns : h'.Ns1 d (fun y => if y = f then some v else none)
theorem one_size (v : Value) : [v].length ≤ sizeLine := by
  rw [sizeLine_eq]
  exact (by decide : 1 ≤ 16777216)
theorem ns1_one {h : Heap} {d : Addr} {f : Str} {v : Value} {hsh : Int} {tk : Tok} {n : Nat} (e : h.get? d = some (dictOf [⟨hsh, .str f tk, v⟩] n)) : h.Ns1 d (fun y => if y = f then some v else none) := by
  refine ⟨_, _, _, e, rfl, ?_, ?_, fun y => ?_⟩
  · intro b hb
    simp at hb
    subst hb
    exact ⟨_, _, rfl⟩
  · unfold UniqKeys
    simp
  · by_cases hy : y = f
    · subst hy
      simp [nsFind, findBy, Value.isStr]
    · have : ¬ f = y := fun z => hy z.symm
      simp [nsFind, findBy, Value.isStr, hy, this]
section
variable {prog : Program} {w : World} {A : Around} {E : Value → Shared → Prop} {R : Result → Shared → Prop} {s : Shared} {K : Frag} {mg : Str → Option Value} {B newId i : String} {bmB : List Value} {C fI : Addr} {f qual : Str} {params : Arguments} {ws : List Expr}
theorem cls_at {D : Addr} {cd : ClassData} {g : Heap} (X : K.In g) (e : clsIn K D = some cd) : ∃ o, g.get? D = some o ∧ o.data = .cls cd := by
  unfold clsIn at e
  split at e
  case h_1 c d cd' sl z => exact ⟨⟨c, d, .cls cd', sl⟩, X _ _ z, by cases e; rfl⟩
  case h_2 => cases e
theorem inst_no {x : Addr} {ox : Obj} {odx : Option Obj} {g : Heap} (I : InstAt g x ox C odx) (c : ClassData) : ox.data ≠ .cls c := fun e => by
  have no := I.no
  simp [notCls, e] at no
/-- what super() looks at: the def's own file, its cell of the class, its first parameter -/
structure SupAt (prog : Program) (K : Frag) (mg m : Str → Option Value) (sc : Scope) (fd : FuncData) (fu cda cc C D x : Addr) : Prop where
  fn : ∃ c d sl, K.lookup fu = some ⟨c, d, .func fd, sl⟩
  first : ∃ ar, (fd.params.posonlyargs ++ fd.params.args).head? = some ar ∧ m ar.arg = some (.ref x) ∧ sc.names.lookup ar.arg = some .local
  code : ∃ c d vs sl file tf, K.lookup cda = some ⟨c, d, .fields vs, sl⟩ ∧ vs[2]? = some (.str file tf) ∧ ((prog.main.file : Str) == file) = true
  cell : ∃ c d sl, K.lookup cc = some ⟨c, d, .cell (some (.ref D)), sl⟩
  cls : ∃ cd, clsIn K D = some cd
  below : mroIn K C (.ref D) = some true
  nos : mg "super" = none
  names : sc.names.lookup ("super" : Str) = some .globalImplicit ∧ sc.names.lookup ("__class__" : Str) = some .free
  kind : sc.kind = .function
  top : (prog.main.scope.names.lookup ("super" : Str)).isSome = false
theorem sup_node {sc : Scope} {base h₀ : Heap} {L : Addr} {m : Str → Option Value} {news : List (Addr × Obj)} {body : List Stmt} {q : Str} {p0 p1 : Pos} {attr : Str} {whole : Sem Value} {fd : FuncData} {Q : Value → Shared → Prop} {x D fu cc cda : Addr} {ox : Obj} {odx : Option Obj}
    (F : Fr h₀ L s.heap m) (Mb : L2.Mod K mg base) (kb : ∀ b o, base.get? b = some o → h₀.get? b = some o) (N : News h₀ L s.heap news) (S : SupAt prog K mg m sc fd fu cda cc C D x) (I : InstAt s.heap x ox C odx) (hat : (attr == ("__class__" : Str)) = false)
    (h : ∀ so g, Fr h₀ L g m → News h₀ L g ((so, ks_superObj D x C) :: news) → (∀ p ∈ news, p.1 < so) → Q (.ref so) { s with heap := g }) :
    _root_.PySem.wpAt (model prog w) A (.func body (ksEnv q sc L fu (.ref cda) cc)) (attributeBase (.Call (.Name "super" p0) [] [] p1) attr (ksEnv q sc L fu (.ref cda) cc) whole) Q E s := by
  have all : ∀ b o, base.get? b = some o → s.heap.get? b = some o := fun b o e => F.keep b o (kb b o e)
  have X : K.In s.heap := (Mb.kin.keeps kb).keeps F.keep
  obtain ⟨⟨_, _, _, e1⟩, ⟨ar, e2, e3, e4⟩, ⟨_, _, _, _, _, _, e5, e6, e7⟩, ⟨_, _, _, e8⟩, ⟨cd, e9⟩, sub, nos, ⟨ns, nc⟩, kd, tp⟩ := S
  have ⟨mb, hmb, std⟩ := Mb.blt
  have sup : mb "super" = some (.type "super") := (std _ (by decide +kernel)).trans (by kernel_rfl)
  have ⟨oD, d1, d2⟩ := cls_at X e9
  obtain ⟨hp, gs, dr, tk, os⟩ := s
  apply ks_wpAt_super_base (env := ksEnv q sc L fu (.ref cda) cc) ns nc hat rfl (X _ _ e1) rfl e2 rfl (X _ _ e5) rfl e6 e7 tp
  refine ks_loadName_global kd ns (loadGlobal_builtin (env := ksEnv q sc L fu (.ref cda) cc) (Mb.glob.keeps all) nos (hmb.keeps all) sup ⟨rfl, ?_⟩)
  refine wpAny_loadName_free kd nc rfl ⟨_, X _ _ e8, rfl⟩ (wpAny_loadName_local kd e4 F.ns e3 ?_)
  refine ks_wpAny_isType_cls d1 d2 ⟨rfl, ?_⟩
  apply ks_wpAny_call_super d1 d2 I.at_ I.cls (fun c => inst_no I c) (looks_mroIn X sub)
  intro g e k
  have ⟨F', N', l'⟩ := ks_newsPush (s := ⟨hp, gs, dr, tk, os⟩) F N rfl e k
  exact h _ g F' N' l'
theorem spl_one {M : Model} {pos : Pos} {env : Env} {e : Expr} {Q : List Value → Shared → Prop} (h : wpAny M A (eval e env) (fun v s' => Q [v] s') E s) (he : starEach [e] env = [(false, eval e env)] := by rfl) : wpAny M A (spliced (backTo pos (starEach [e] env))) Q E s := by
  rw [he]
  show wpAny M A (spliced ((false, eval e env) :: backTo pos [])) Q E s
  refine Calls.spliced_cons (wpAny_mono h (fun v s₁ h₁ => ?_) fun _ _ z => z)
  exact wpAny_pure h₁
theorem sup_init {base : Heap} (T : SupTxt prog K mg B newId i bmB C fI f qual params ws) {x t0 : Addr} {v : Value} (hT : Tells prog w ws f qual v) (hp : Heap) (Mb : L2.Mod K mg base) (kb : ∀ b o, base.get? b = some o → hp.get? b = some o)
    (k0 : ∀ b o, hp.get? b = some o → s.heap.get? b = some o) (hz : hp.objs.size ≤ s.heap.objs.size) (hx : s.heap.get? x = some (excO C t0)) (hx0 : hp.get? x = none) (hroom : A.depth < recursionLimit)
    (hq : ∀ h' tk dx t1, (∀ b o, hp.get? b = some o → h'.get? b = some o) → h'.get? x = some (excObj C t1 (some dx) .none) → x < dx → h'.Ns1 dx (fun y => if y = f then some v else none) → R (.ok (.ret .none)) { s with heap := h', toks := tk }) :
    codeAny (model prog w) A (.call (.ref fI) ⟨[.ref x, v], []⟩) R s := by
  obtain ⟨oc, od, doc, pm, an, cda, ct, osl, cc, cl, cld, csl, ccl, cdd, vs, ccs, file, tf, pj, p0, p1, p2, p3, p4, q1, q2, q3, q4, ho, hcd, hcc, hcda, hvs, hfile, hl, hb⟩ := T.fn
  have X₀ : K.In hp := Mb.kin.keeps kb
  have Xs : K.In s.heap := X₀.keeps k0
  refine ks_codeAny_call_defAt (fd := ksFn "__init__" qual params (sB f ws pj p0 p1 p2 p3 p4 q1 q2 q3 q4) (sS f) .none .none doc pm an (.ref cda) ct cc) (body := sB f ws pj p0 p1 p2 p3 p4 q1 q2 q3 q4) (binds := [("self", .ref x), (f, v)]) hroom (Xs _ _ ho) rfl
    ((Mb.nolimit.keeps kb).keeps k0) (codeRec_of Xs hcd) rfl (hb s (.ref x) v) ?_ ?_ (fun h₁ hns hk₁ => ?_) rfl rfl rfl
  · intro y hy
    simp only [sS, List.mem_cons, List.not_mem_nil, or_false] at hy
    rcases hy with rfl | rfl | rfl | rfl <;> exact fun z => by cases z
  · intro y hy
    simp only [List.mem_cons, List.not_mem_nil, or_false] at hy
    rcases hy with rfl | rfl
    · rfl
    · have e : (f == ("self" : Str)) = false := by simpa using T.nself
      show List.lookup f [(("self" : Str), NameKind.local), (f, .local), ("__class__", .free), ("super", .globalImplicit)] = some .local
      simp [List.lookup, e]
  have FR : Fr hp s.heap.objs.size h₁ _ := ⟨hns, fun b o e => hk₁ b o (k0 b o e), hz⟩
  have N0 : News hp s.heap.objs.size h₁ [(x, excObj C t0 none .none)] := fun p hp' => by
    simp only [List.mem_cons, List.not_mem_nil, or_false] at hp'
    subst hp'
    exact ⟨hk₁ _ _ hx, Nat.ne_of_lt (Heap.lt_size hx), hx0⟩
  have ms : (fun y => List.lookup y ([("self", Value.ref x), (f, v)] : List (Str × Value)).reverse) "self" = some (.ref x) := by
    have e : (("self" : Str) == f) = false := by simpa using fun z => T.nself z.symm
    simp [List.lookup, e]
  have mf : (fun y => List.lookup y ([("self", Value.ref x), (f, v)] : List (Str × Value)).reverse) f = some v := by
    simp [List.lookup]
  revert ms mf FR
  generalize (fun y => List.lookup y ([("self", Value.ref x), (f, v)] : List (Str × Value)).reverse) = m
  intro FR ms mf
  obtain ⟨ar, har, hara⟩ : ∃ ar, (params.posonlyargs ++ params.args).head? = some ar ∧ ar.arg = "self" := by
    have := T.hd1
    cases z : (params.posonlyargs ++ params.args).head? with
    | none => rw [z] at this; cases this
    | some ar => rw [z] at this; exact ⟨ar, rfl, Option.some.inj this⟩
  obtain ⟨cdD, hD⟩ : ∃ cd, clsIn K C = some cd := by
    have := T.sup
    unfold ks_superIn at this
    cases z : clsIn K C with
    | none => rw [z] at this; cases this
    | some cd => exact ⟨cd, rfl⟩
  generalize s.heap.objs.size = L at *
  have hed : callEnv (ksFn "__init__" qual params (sB f ws pj p0 p1 p2 p3 p4 q1 q2 q3 q4) (sS f) .none .none doc pm an (.ref cda) ct cc) L fI = ksEnv qual (sS f) L fI (.ref cda) cc := rfl
  rw [hed]
  have lc : (sS f).names.lookup ("__class__" : Str) = some .free := by
    have e : (("__class__" : Str) == f) = false := by simpa using fun z => T.ncls z.symm
    show List.lookup ("__class__" : Str) [(("self" : Str), NameKind.local), (f, .local), ("__class__", .free), ("super", .globalImplicit)] = some .free
    rw [List.lookup_cons, show (("__class__" : Str) == "self") = false by decide]
    simp only [List.lookup_cons, e]
    rfl
  have lp : (sS f).names.lookup ("super" : Str) = some .globalImplicit := by
    have e : (("super" : Str) == f) = false := by simpa using fun z => T.nsup z.symm
    show List.lookup ("super" : Str) [(("self" : Str), NameKind.local), (f, .local), ("__class__", .free), ("super", .globalImplicit)] = some .globalImplicit
    rw [List.lookup_cons, show (("super" : Str) == "self") = false by decide]
    simp only [List.lookup_cons, e]
    rfl
  have lf : (sS f).names.lookup f = some .local := by
    have e : (f == ("self" : Str)) = false := by simpa using T.nself
    show List.lookup f [(("self" : Str), NameKind.local), (f, .local), ("__class__", .free), ("super", .globalImplicit)] = some .local
    simp [List.lookup, e]
  have X1 : ∀ {h : Heap}, Fr hp L h m → K.In h := fun F => X₀.keeps F.keep
  refine ks_wpAt_execs_cons (ks_wpAt_Expr_any ?_ rfl rfl)
  refine ks_wpAt_MethodCall (pl := L2.plainOf (.Call (.Name "super" p0) [] [] p1) (ksEnv qual (sS f) L fI (.ref cda) cc)) ?_ ?_
  · refine sup_node (D := C) FR Mb kb N0 ⟨⟨_, _, _, ho⟩, ⟨ar, har, by rw [hara]; exact ms, by rw [hara]; rfl⟩, ⟨_, _, _, _, _, _, hcda, hvs, hfile⟩, ⟨_, _, _, hcc⟩, ⟨_, hD⟩, T.mro, T.nos, ⟨lp, lc⟩, rfl, T.top⟩ (InstAt.of_exc0 N0 (List.mem_cons_self ..)) (by decide) fun so h₂ F2 N2 l2 => ?_
    refine kxs_method T.KF F2 X₀ N2 (List.mem_cons_self ..) (InstAt.of_exc0 N2 (List.mem_cons_of_mem _ (List.mem_cons_self ..))) T.opq T.sup T.sub (by decide) fun u h₃ F3 N3 l3 => ?_
    refine kxs_callWith1 N3 (List.mem_cons_self ..) ?_ rfl rfl
    refine spl_one ?_
    refine hT _ _ _ pj L fI _ cc m _ F3.ns mf fun y tk tk' => ⟨kxs_at N3 (List.mem_cons_self ..), ?_⟩
    refine kxs_call (t := t0) (dv := none) (c2 := .none) (nw := fun o => [(u, kxs_mw i x), (so, ks_superObj C x C), (x, o)]) F3 X₀ N3 T.FB T.ini (List.mem_cons_self ..) ?_ (one_size _) fun t1 h₄ F4 N4 l4 => ?_
    · exact .tail (Nat.ne_of_gt (l3 (x, _) (List.mem_cons_of_mem _ (List.mem_cons_self ..)))) (.tail (Nat.ne_of_gt (l2 (x, _) (List.mem_cons_self ..))) (.head fun p z => by cases z))
    (try dsimp only at N4)
    have l4x : x < t1 := l4 (x, _) (List.mem_cons_of_mem _ (List.mem_cons_of_mem _ (List.mem_cons_self ..)))
    refine ks_wpAt_execs_cons (ks_wpAt_Assign_Attr (wpAt_of_wpAny ?_) rfl)
    refine wpAny_Name (wpAny_loadName_local rfl lf F4.ns mf ?_) T.dbg
    refine wpAny_Name (wpAny_loadName_local rfl rfl F4.ns ms ?_) (by decide)
    refine set_exc0 (t := t1) (c2 := .none) (nw := fun o => [(t1, excTup [.str y tk]), (u, kxs_mw i x), (so, ks_superObj C x C), (x, o)]) T.SF F4 X₀ N4 (List.mem_cons_of_mem _ (List.mem_cons_of_mem _ (List.mem_cons_of_mem _ (List.mem_cons_self ..)))) T.sa T.over T.tk T.hd rfl ?_ (by show 1 ≤ 1000; decide) fun dx h₅ F5 N5 l5 => ?_
    · exact .tail (Nat.ne_of_gt l4x) (.tail (Nat.ne_of_gt (l3 (x, _) (List.mem_cons_of_mem _ (List.mem_cons_self ..)))) (.tail (Nat.ne_of_gt (l2 (x, _) (List.mem_cons_self ..))) (.head fun p z => by cases z)))
    (try dsimp only at N5)
    have l5x : x < dx := l5 (x, _) (List.mem_cons_of_mem _ (List.mem_cons_of_mem _ (List.mem_cons_of_mem _ (List.mem_cons_self ..))))
    refine wpAt_of_wpAny (wpAny_execs_nil ?_)
    exact hq h₅ _ dx t1 F5.keep (N5 (x, _) (List.mem_cons_of_mem _ (List.mem_cons_of_mem _ (List.mem_cons_of_mem _ (List.mem_cons_of_mem _ (List.mem_cons_self ..)))))).1 l5x (ns1_one (N5 (dx, _) (List.mem_cons_self ..)).1)
  · rw [arm_eval_Call]
    refine congrArg _ (funext fun ov => congrArg _ (funext fun _ => ?_))
    rw [L2.mcall_line rfl hl]
    rfl
theorem sup_made {base : Heap} (T : SupTxt prog K mg B newId i bmB C fI f qual params ws) {v : Value} (hT : Tells prog w ws f qual v) (Mb : L2.Mod K mg base) (kb : ∀ b o, base.get? b = some o → s.heap.get? b = some o) (hroom : A.depth + 1 < recursionLimit)
    (hq : ∀ h' tk e d, Made s.heap h' e C d f v → R (.ok (.ret (.ref e))) { s with heap := h', toks := tk }) :
    codeAny (model prog w) A (.call (.ref C) ⟨[v], []⟩) R s := by
  have X : K.In s.heap := Mb.kin.keeps kb
  obtain ⟨nm, N', qn, bs, bm, hdct, sn, sub, ab, col, dd, k0, k1, k2, k3, k5, hC, hbm⟩ := excInit_of X T.ini
  obtain ⟨hp, g, dr, tk, os⟩ := s
  have k : ∀ b o, hp.get? b = some o → ((hp.push (kdv_tup [v])).push (excO C hp.objs.size)).get? b = some o := fun b o e => Heap.get?_push_of_some _ (Heap.get?_push_of_some _ e)
  have hget : ((hp.push (kdv_tup [v])).push (excO C hp.objs.size)).get? (hp.objs.size + 1) = some (excO C hp.objs.size) := by heap_get
  have hnx : hp.get? (hp.objs.size + 1) = none := by
    cases e : hp.get? (hp.objs.size + 1) with
    | none => rfl
    | some o => exact absurd (Nat.lt_of_succ_lt (Heap.lt_size e)) (Nat.lt_irrefl _)
  refine call_own T.FB hbm hC (looks_findIn X T.iC) (fun self => bind_fn X self T.tC) (one_size v) ?_
  refine sup_init (s := ⟨(hp.push (kdv_tup [v])).push (excO C hp.objs.size), g, dr, tk, os⟩) (t0 := hp.objs.size) T hT hp Mb kb k ?_ hget hnx ?_ fun h' tk' dx t1 kk hx hlt hns => ?_
  · show hp.objs.size ≤ ((hp.push (kdv_tup [v])).push (excO C hp.objs.size)).objs.size
    rw [Heap.size_push, Heap.size_push]
    omega
  · show A.depth + 1 < recursionLimit
    exact hroom
  · exact ⟨rfl, hq h' tk' (hp.objs.size + 1) dx ⟨kk, Nat.le_succ _, ⟨_, _, hx, rfl, rfl, rfl, rfl⟩, Nat.le_of_lt (Nat.lt_of_succ_lt hlt), Nat.ne_of_gt hlt, hns⟩⟩
end
end SupX
end PySem
namespace L2
open PySem PySem.Spec PyProof.Rows
theorem relO_one {v : V} {v' : Value} (n : Str) (r : RelV v v') (f : Str) : RelO (List.lookup f [(n, v)]) (if f = n then some v' else none) := by
  by_cases hw : f = n
  · subst hw
    rw [if_pos rfl]
    have q : List.lookup f [(f, v)] = some v := by simp [List.lookup]
    rw [q]
    exact r
  · rw [if_neg hw]
    have qw : (f == n) = false := by simpa using hw
    have q2 : List.lookup f [(n, v)] = none := by simp [List.lookup, qw]
    rw [q2]
    trivial
/-- C(e), an own error whose __init__ says super().__init__(f"..") and keeps e as the field f -/
def tMkSup (C : Addr) (f : Str) (ok : V → Prop) (ta : TA) : St → Hp → XK → Prop := fun σ H Q => ta σ H fun vs H1 => ∃ v, vs = [v] ∧ ok v ∧ ∀ d, H1 d = none → Q (.ref C) (some d) (upd H1 d (.xd [(f, v)]))
/-- what is read of the class beside its __init__ -/
structure SupC (K : PySem.W.Frag) (mg : Str → Option Value) (n : Str) (C : Addr) : Prop where
  gC : mg n = some (.ref C)
  kC : PySem.W.keepIn K (.ref C) = true
  exC : PySem.W.subIn K (.ref C) (.type "BaseException") = some true
  tyC : PySem.W.typeIn K (.ref C) = some (.type "type")
section
variable {X : Cx} {C fI : Addr} {B newId i : String} {bmB : List Value} {f qual n : Str} {params : Arguments} {ws : List Expr} {ok : V → Prop}
theorem pmk_sup {a : Expr} {ta : TA} {p pos : Pos} {k : Nat} (T : PySem.SupX.SupTxt X.prog X.K X.mg B newId i bmB C fI f qual params ws) (S : SupC X.K X.mg n C) (hT : ∀ v v', ok v → RelV v v' → PySem.SupX.Tells X.prog X.w ws f qual v') (hr : Room k X.A) (ha : PA X [a] ta) (hg : Gl X n)
    (hdb : (n == ("__debug__" : Str)) = false := by decide) (he : starEach (a :: []) X.env = (false, eval a X.env) :: starEach [] X.env := by rfl) (hpl : (backTo pos (starEach [] X.env)).any (·.1) = false := by rfl) :
    PMk X (.Call (.Name n p) [a] [] pos) (tMkSup C f ok ta) := by
  intro pins s σ H Q I h
  refine wpAny_Call_Name_kw (ld_glob I hg S.gC ?_ hdb)
  refine PySem.W.callWith_K (h₀ := X.base) I.ok.mod.kin S.kC (thn (ha.run pos pins s σ H _ I h) fun us s1 hh => ?_) he hpl
  obtain ⟨vs, H1, I1, r1, v, ev, okv, q1⟩ := hh
  subst ev
  refine ⟨I1.kIn, ?_⟩
  cases r1 with
  | cons rv rn =>
    rename_i v' us'
    cases rn
    show wpAny _ _ (call (.ref C) [v']) _ _ _
    have kb := I1.bk
    obtain ⟨hp, g, dr, tk, os⟩ := s1
    refine wpAny_call (PySem.SupX.sup_made T (hT v v' okv rv) I1.mod kb (by have := hr.dp; omega) fun h' tk' e d M => ?_)
    show MkP X pins σ Q (.ref e) ⟨h', g, dr, tk', os⟩
    obtain ⟨oe, fv, hoe, hc, hd, hdat, h1⟩ := M.obj
    have hns := M.ns
    obtain ⟨G', g1, g2⟩ := restrict h' fun b => decide (b ≠ e)
    have gk : ∀ b, b ≠ e → G'.get? b = h'.get? b := fun b hb => g1 b (decide_eq_true hb)
    have ge : G'.get? e = none := g2 e (by simp)
    have old : ∀ b o, hp.get? b = some o → G'.get? b = some o := fun b o q => (gk b (Nat.ne_of_lt (Nat.lt_of_lt_of_le (Heap.lt_size q) M.new))).trans (M.keep b o q)
    have ob : ObjOk X.prog X.w (upd H1 d (.xd [(f, v)])) G' d (.xd [(f, v)]) := ⟨_, hns.at (fun o q => (gk d M.dne).trans q), fun y => relO_one f rv y⟩
    have J : Inv X pins σ (upd H1 d (.xd [(f, v)])) ⟨G', g, dr, tk', os⟩ := I1.laid (t' := tk') old M.dbig ob
    refine ⟨e, oe, fv, ⟨G', g, dr, tk', os⟩, _, .ref C, some d, rfl, J, fun b o q => ?_, ge, hoe, ⟨hc, hd⟩, hdat, h1, ?_, rfl, I1.bare, raises_own S.exC S.tyC, q1 d (I1.hok.fresh M.dbig)⟩
    · by_cases hb : b = e
      · have q' : G'.get? b = some o := q
        rw [hb, ge] at q'; cases q'
      · exact (gk b hb).symm.trans q
    · rw [upd_ne (Ne.symm M.dne)]
      exact I1.hok.fresh M.new
/-- raise C(e) -/
def tRaiseSup (C : Addr) (f : Str) (ok : V → Prop) (W : WX) (ta : TA) : TS := fun _ σ H => tMkSup C f ok ta σ H fun cls d H' => W cls d σ H'
theorem ps_raiseSup {a : Expr} {ta : TA} {W : WX} {p pos pos2 : Pos} {k : Nat} (hc : X.calm = true) (T : PySem.SupX.SupTxt X.prog X.K X.mg B newId i bmB C fI f qual params ws) (S : SupC X.K X.mg n C) (hT : ∀ v v', ok v → RelV v v' → PySem.SupX.Tells X.prog X.w ws f qual v') (hr : Room k X.A) (tk : Takes X W) (ha : PA X [a] ta) (hg : Gl X n)
    (hdb : (n == ("__debug__" : Str)) = false := by decide) (he : starEach (a :: []) X.env = (false, eval a X.env) :: starEach [] X.env := by rfl) (hpl : (backTo pos (starEach [] X.env)).any (·.1) = false := by rfl) :
    PS X (.Raise (some (.Call (.Name n p) [a] [] pos)) none pos2) (tRaiseSup C f ok W ta) := ps_raise hc tk (pmk_sup T S hT hr ha hg hdb he hpl)
end
end L2
namespace PySem
namespace SupX
open PySem.W PySem.Calls PyProof.Rows PySem.HandSPX
/-- what repr tells of plain things, and how long it is at most -/
def Shows (v : Value) : Prop := (∃ x t, v = .str x t ∧ (reprText x).length ≤ 1000000) ∨ (∃ i t, v = .int i t ∧ i.natAbs.log2 < 1920) ∨ (∃ b, v = .bool b) ∨ v = .none
section
variable {prog : Program} {w : World} {A : Around} {E : Value → Shared → Prop} {s : Shared}
theorem shown_repr {v : Value} {Q : Value → Shared → Prop} (hv : Shows v) (h : ∀ y t tk, y.length ≤ 1000000 → Q (.str y t) { s with toks := tk }) : wpAny (model prog w) A (pyReprObj v) (fun r s₂ => wpAny (model prog w) A (formatField r Str.empty) Q E s₂) E s := by
  rcases hv with ⟨x, t, rfl, hx⟩ | ⟨i, t, rfl, hi⟩ | ⟨b, rfl⟩ | rfl
  · have hz : (reprText x).length ≤ sizeLine := by rw [sizeLine_eq]; omega
    exact pyReprObj_str (wpAny_formatField_str (h _ _ _ hx) (h _ _ _ hx) hz) hz
  · have hx : (Str.ofString (toString i)).length ≤ 1000000 := by
      have e := int_text_length_le (k := 1920) (by decide) hi
      rw [ofString_length]
      omega
    exact pyReprObj_int hi (wpAny_formatField_str (h _ _ _ hx) (h _ _ _ hx) (int_text_fits hi))
  · have hx : (if b = true then Str.ofString "True" else Str.ofString "False").length ≤ 1000000 := by cases b <;> decide
    exact pyReprObj_bool (wpAny_formatField_str (h _ _ _ hx) (h _ _ _ hx) (by rw [sizeLine_eq]; exact Nat.le_trans hx (by decide)))
  · have hx : (Str.ofString "None").length ≤ 1000000 := by decide
    exact pyReprObj_none (wpAny_formatField_str (h _ _ _ hx) (h _ _ _ hx) (by rw [sizeLine_eq]; exact Nat.le_trans hx (by decide)))
/-- f"pre{x!r}" -/
theorem tells_r {pre f qual : Str} {j : Nat} {p1 p2 p3 : Pos} {v : Value} (hv : Shows v) (hl : (sS f).names.lookup f = some .local) (hd : (f == ("__debug__" : Str)) = false) (hz : pre.length ≤ 1000) : Tells prog w [.Constant (.str pre) j p1, .FormattedValue (.Name f p2) 114 none p3] f qual v := by
  intro A E s pj L a cd cc m Q hn hm hq
  have e0 : Str.empty.length = 0 := rfl
  refine wpAny_JoinedStr ?_
  show wpAny _ _ _ _ _ _
  refine Calls.Constant_str ⟨pre, _, rfl, ?_, ?_⟩
  · simp only [Str.length_append, sizeLine_eq, e0]; omega
  refine wpAny_FormattedValue_repr (wpAny_Name (wpAny_loadName_local rfl hl hn hm ?_) hd)
  refine shown_repr hv fun y t tk hy => ⟨y, t, rfl, ?_, ?_⟩
  · simp only [Str.length_append, sizeLine_eq, e0]; omega
  · exact ⟨by simp only [Str.length_append, sizeLine_eq, e0]; omega, hq _ _ _⟩
/-- f"pre{x!r}post" -/
theorem tells_rp {pre post f qual : Str} {j j2 : Nat} {p1 p2 p3 p4 : Pos} {v : Value} (hv : Shows v) (hl : (sS f).names.lookup f = some .local) (hd : (f == ("__debug__" : Str)) = false) (hz : pre.length ≤ 1000) (hz2 : post.length ≤ 1000) : Tells prog w [.Constant (.str pre) j p1, .FormattedValue (.Name f p2) 114 none p3, .Constant (.str post) j2 p4] f qual v := by
  intro A E s pj L a cd cc m Q hn hm hq
  have e0 : Str.empty.length = 0 := rfl
  refine wpAny_JoinedStr ?_
  show wpAny _ _ _ _ _ _
  refine Calls.Constant_str ⟨pre, _, rfl, ?_, ?_⟩
  · simp only [Str.length_append, sizeLine_eq, e0]; omega
  refine wpAny_FormattedValue_repr (wpAny_Name (wpAny_loadName_local rfl hl hn hm ?_) hd)
  refine shown_repr hv fun y t tk hy => ⟨y, t, rfl, ?_, ?_⟩
  · simp only [Str.length_append, sizeLine_eq, e0]; omega
  refine Calls.Constant_str ⟨post, _, rfl, ?_, ?_⟩
  · simp only [Str.length_append, sizeLine_eq, e0]; omega
  · exact ⟨by simp only [Str.length_append, sizeLine_eq, e0]; omega, hq _ _ _⟩
end
end SupX
end PySem

namespace L2
open PySem PySem.Spec PyProof.Rows
section
variable {X : Cx} {CX : CXT} {pins : List (Addr × Obj)} {σ : L2.St} {H : Hp} {s : Shared} {a C dx p g : Addr} {f : Str} {n : Nat} {sp : Sp} {E : XK} {v : V} {u : Value}
/-- str(x) of an own instance -/
def rStrI (C : Addr) (sp : Sp) (E : XK) : List V → Hp → VK → Prop := fun xs H Q => ∃ a dx fs, xs = [V.ref a] ∧ H a = some (.ins C dx fs) ∧ sp [.ref a] H (fun z H' => ∃ i, z = .str i ∧ Q z H') E
theorem call_strI (hs : PySem.W.findIn X.K (.ref C) "__str__" = some (some (.ref g))) (hf : PySem.W.isFn X.K (.ref g) = true) (F : FnR X.prog X.w X.K X.mg X.base CX n g sp) (hr : Room (n + 2) X.A) (hx : Passes CX X E) : CallR X (.type "str") (rStrI C sp E) := by
  intro pins s σ H xs us Q I r h
  obtain ⟨a, dx, fs, rfl, hsl, q⟩ := h
  obtain ⟨u, rfl, ru⟩ := r.one
  cases (show u = Value.ref a from ru)
  obtain ⟨mA, J, _⟩ := ins_get I.hok hsl
  obtain ⟨od, J, _⟩ := J.look
  have hr1 : Room (n + 1) X.A.in1 := Room.in1 hr
  have hr2 := Room.in1 hr1
  refine PySem.W.kso_call hr2.units0 I.kIn J hs hf (wpAny_mono (wpAny_call (SlX.run_at (us := [.ref a]) (ws := [.ref a]) F hr2 I.env0.in1.in1 hx I (.cons rfl .nil) q)) (fun w s' z => ?_) fun _ _ x => x)
  obtain ⟨z', H', I', rz, i, ei, qz⟩ := z
  subst ei
  obtain ⟨t, e⟩ := (show ∃ t, w = Value.str i t from rz)
  cases e
  exact ⟨.str i, H', I', ⟨t, rfl⟩, qz⟩
/-- repr(x) of an own instance -/
theorem call_reprI (hs : PySem.W.findIn X.K (.ref C) "__repr__" = some (some (.ref g))) (hf : PySem.W.isFn X.K (.ref g) = true) (F : FnR X.prog X.w X.K X.mg X.base CX n g sp) (hr : Room (n + 1) X.A) (hx : Passes CX X E) : CallR X (.builtin "repr") (rStrI C sp E) := by
  intro pins s σ H xs us Q I r h
  obtain ⟨a, dx, fs, rfl, hsl, q⟩ := h
  obtain ⟨u, rfl, ru⟩ := r.one
  cases (show u = Value.ref a from ru)
  obtain ⟨mA, J, _⟩ := ins_get I.hok hsl
  obtain ⟨od, J, _⟩ := J.look
  have hr2 : Room n X.A.in1 := Room.in1 hr
  obtain ⟨m, hF⟩ := I.fr
  refine PySem.W.repr_K hr2.units0 hF I.ok.mod.kin J hs hf (wpAny_mono (wpAny_call (SlX.run_at (us := [.ref a]) (ws := [.ref a]) F hr2 I.env0.in1 hx I (.cons rfl .nil) q)) (fun w s' z => ?_) fun _ _ x => x)
  obtain ⟨z', H', I', rz, i, ei, qz⟩ := z
  subst ei
  obtain ⟨t, e⟩ := (show ∃ t, w = Value.str i t from rz)
  cases e
  exact ⟨.str i, H', I', ⟨t, rfl⟩, qz⟩
/-- x op y, x an own instance whose def for op is at g; y an instance of the same class or a number -/
def rOwnI (C : Addr) (sp : Sp) (E : XK) : R2 := fun x y H Q => ∃ a dx fs, x = .ref a ∧ H a = some (.ins C dx fs) ∧ ((∃ b dy gs, y = .ref b ∧ H b = some (.ins C dy gs)) ∨ ∃ i, y = .int i) ∧ sp [x, y] H Q E
theorem op_ownI {op : CmpOp} (hop : ∀ a b, compareOp op a b = richCompare op a b) (hs : PySem.W.findIn X.K (.ref C) (cmpInfo op).2.1 = some (some (.ref g))) (hf : PySem.W.isFn X.K (.ref g) = true) (hi : PySem.W.notFirst X.K C (.type "int") = true) (F : FnR X.prog X.w X.K X.mg X.base CX n g sp)
    (hr : Room n X.A) (hx : Passes CX X E) : OpR X (compareOp op) (rOwnI C sp E) := by
  intro pins s σ H x y v u Q I rx ry h
  obtain ⟨a, dx, fs, rfl, ha, hy, q⟩ := h
  cases (show v = Value.ref a from rx)
  obtain ⟨mA, J, _⟩ := ins_get I.hok ha
  obtain ⟨od, J, _⟩ := J.look
  obtain ⟨m, hF⟩ := I.fr
  rw [hop]
  rcases hy with ⟨b, dy, gs, rfl, hb⟩ | ⟨i, rfl⟩
  · cases (show u = Value.ref b from ry)
    obtain ⟨mB, J', _⟩ := ins_get I.hok hb
    obtain ⟨od', J', _⟩ := J'.look
    refine PySem.W.cmp_K (op := op) (tb := .ref C) hr.units0 hF I.ok.mod.kin J J'.type (by simp [PySem.W.notFirst]) hs hf ?_
    have go := run_fnR (us := [.ref a, .ref b]) (vs := [.ref a, .ref b]) F hr hx I (.cons rfl (.cons rfl .nil)) q
    exact wpAny_mono (wpAny_call go) (fun _ _ ⟨z', G, J2, rz, qz⟩ => SlX.cmpback rz ⟨z', G, J2, rz, qz⟩) fun _ _ x => x
  · obtain ⟨t, e⟩ := (show ∃ t, u = Value.int i t from ry)
    subst e
    refine PySem.W.cmp_K (op := op) (tb := .type "int") hr.units0 hF I.ok.mod.kin J (fun _ _ _ _ _ q => by first | exact wpAny_pure q | exact (typeIs_int _ _ _).here q | (show wpAny _ _ (pure _) _ _ _; exact wpAny_pure q)) hi hs hf ?_
    refine wpAny_mono (wpAny_call (run_fnR (us := [.ref a, .int i t]) (vs := [.ref a, .int i]) F hr hx I (.cons rfl (.cons ⟨t, rfl⟩ .nil)) q)) (fun w s' z => ?_) fun _ _ x => x
    obtain ⟨z', H', I', rz, qz⟩ := z
    exact SlX.cmpback rz ⟨z', H', I', rz, qz⟩
end
end L2

namespace OwY
open PySem PySem.Spec PyProof.Rows PySem.SeqAt
section
variable {M : Model} {prog : Program} {w : World} {A : Around} {E : Value → Shared → Prop} {s : Shared} {K : PySem.W.Frag} {x C f : Addr} {ox : Obj} {od : Option Obj} {b : Value}
theorem ifBound_objNe {args : List Value} {Q : Option Value → Shared → Prop} (X : K.In s.heap) (I : PySem.W.InstAt s.heap x ox C od) (hs : PySem.W.findIn K (.ref C) "__ne__" = some (some (.builtin "object.__ne__")))
    (h : wpAny M A (call (.builtin "object.__ne__") (.ref x :: args)) (fun v => Q (some v)) E s) : wpAny M A (callSpecialIfBound? (.ref x) "__ne__" args) Q E s := by
  simp only [callSpecialIfBound?, bindSpecialIfBound?]
  refine wpAny_holding (wpAny_bind (wpAny_bind (wpAny_bind (I.type.here ((PySem.W.looks_findIn X hs).here ?_)))))
  refine wpAny_bind (wpAny_askSetting (wpAny_ite ?_))
  have fin : wpAny M A (call (.builtin "object.__ne__") ([.ref x] ++ args) >>= fun v => pure (some v)) Q E s := wpAny_bind (wpAny_mono h (fun v s' h' => wpAny_pure h') fun _ _ h' => h')
  split
  · exact wpAny_bind (wpAny_of_eq (F.cmp_object.ne.bind _) (wpAny_pure (by exact fin)))
  · exact wpAny_tryCatch (wpAny_bind (wpAny_of_eq (F.cmp_object.ne.bind _) (wpAny_pure (by exact fin))))
theorem entry_ne {Q : Fin → Shared → Prop} (hu : A.units < cLine) (X : K.In s.heap) (I : PySem.W.InstAt s.heap x ox C od) (hs : PySem.W.findIn K (.ref C) "__eq__" = some (some (.ref f))) (hf : PySem.W.isFn K (.ref f) = true)
    (h : wpAny (model prog w) A (call (.ref f) [.ref x, b]) (fun v s' => ∃ k, v = .bool k ∧ Q (.done (.ret (.bool (!k)))) s') E s) : wpAny (model prog w) A (Builtin.«object.__ne__» ⟨[.ref x, b], []⟩) Q E s := by
  unfold Builtin.«object.__ne__»
  repeat (first
    | with_reducible refine wpAny_cRoomFor hu ?_
    | (refine wpAny_bind (m := callSpecialIfBound? (.ref x) (Str.ofString "__eq__") [b])
        (PySem.W.ifBound_K X I hs hf (wpAny_mono h (fun r s' hr => by
          obtain ⟨k, rfl, hq⟩ := hr
          repeat (first | exact hq | exact wpAny_pure hq | exact wpAny_truthy_bool hq | (refine wpAny_bind (m := truthy (.bool _)) (wpAny_truthy_bool ?_)) | wp_step)) fun _ _ e => e)))
    | wp_step)
theorem call_objNe {Q : Value → Shared → Prop} (hu : A.in1.units < cLine) (X : K.In s.heap) (I : PySem.W.InstAt s.heap x ox C od) (hm : PySem.W.mroIn K C (.type "object") = some true) (hs : PySem.W.findIn K (.ref C) "__eq__" = some (some (.ref f))) (hf : PySem.W.isFn K (.ref f) = true)
    (h : wpAny (model prog w) A.in1 (call (.ref f) [.ref x, b]) (fun v s' => ∃ k, v = .bool k ∧ Q (.bool (!k)) s') E s) :
    wpAny (model prog w) A (call (.builtin "object.__ne__") [.ref x, b]) Q E s :=
  wpAny_call (codeAny_call_builtin F.cmp_object.ne.plain F.cmpEntry_ne (PySem.W.check_slot F.cmpKind_ne F.cmpSplit_ne (I.type.andThen (PySem.W.looks_mroIn X hm)) (F.cmpArgs_ne _ _) (entry_ne hu X I hs hf h)))
theorem ne_K {tb : Value} {Q : Value → Shared → Prop} (hu : A.units < cLine) (hu1 : A.in1.units < cLine) (X : K.In s.heap) (I : PySem.W.InstAt s.heap x ox C od) (hb : PySem.W.Looks (model prog w) s.heap (typeOf b) tb) (hn : PySem.W.notFirst K C tb = true) (hm : PySem.W.mroIn K C (.type "object") = some true)
    (hne : PySem.W.findIn K (.ref C) "__ne__" = some (some (.builtin "object.__ne__"))) (hs : PySem.W.findIn K (.ref C) "__eq__" = some (some (.ref f))) (hf : PySem.W.isFn K (.ref f) = true)
    (h : wpAny (model prog w) A.in1 (call (.ref f) [.ref x, b]) (fun v s' => ∃ k, v = .bool k ∧ Q (.bool (!k)) s') E s) : wpAny (model prog w) A (richCompare .NotEq (.ref x) b) Q E s := by
  have asked : wpAny (model prog w) A (tryCompare (.ref x) "__ne__" b) (fun r t => ∃ v, r = some v ∧ Q v t) E s := by
    unfold tryCompare
    apply wpAny_bind
    exact ifBound_objNe X I hne (call_objNe hu1 X I hm hs hf (wpAny_mono h (fun _ _ ⟨k, e, q⟩ => ⟨k, e, wpAny_pure ⟨_, rfl, q⟩⟩) fun _ _ e => e))
  have first : ∀ {T : Option Value → Sem Value}, (∀ v, T (some v) = pure v) → wpAny (model prog w) A (tryCompare (.ref x) "__ne__" b >>= T) Q E s := fun hT =>
    wpAny_bind (wpAny_mono asked (fun _ _ ⟨v, e, q⟩ => by rw [e, hT]; exact wpAny_pure q) fun _ _ e => e)
  unfold richCompare
  simp only [oneThing_ref, cmpInfo_NotEq]
  apply wpAny_holding
  apply wpAny_bind
  apply wpAny_cRoomFor hu
  apply wpAny_bind
  apply I.type.here
  apply wpAny_bind
  apply hb.here
  split
  case isTrue q =>
    have e : PySem.W.subIn K tb (.ref C) = some false := by
      rcases Bool.or_eq_true_iff.mp hn with e | e
      · simp [beq_iff_eq.mp e] at q
      · exact beq_iff_eq.mp e
    apply wpAny_bind
    apply (PySem.W.looks_subIn X e).here
    simp only [Bool.false_eq_true, if_false]
    exact first fun _ => rfl
  case isFalse =>
    apply wpAny_bind
    apply wpAny_pure
    simp only [Bool.false_eq_true, if_false]
    exact first fun _ => rfl
end
end OwY
namespace L2
open PySem PySem.Spec PyProof.Rows
section
variable {X : Cx} {CX : CXT} {pins : List (Addr × Obj)} {σ : L2.St} {H : Hp} {s : Shared} {a C dx p g : Addr} {f : Str} {n : Nat} {sp : Sp} {E : XK} {v : V} {u : Value}
/-- x != y by an own __eq__ -/
def rNeI (C : Addr) (sp : Sp) (E : XK) : R2 := fun x y H Q => ∃ a dx fs b dy gs, x = .ref a ∧ H a = some (.ins C dx fs) ∧ y = .ref b ∧ H b = some (.ins C dy gs) ∧ sp [x, y] H (fun z H' => ∃ k, z = .bl k ∧ Q (.bl (!k)) H') E
theorem op_neI (hm : PySem.W.mroIn X.K C (.type "object") = some true) (hne : PySem.W.findIn X.K (.ref C) "__ne__" = some (some (.builtin "object.__ne__"))) (hs : PySem.W.findIn X.K (.ref C) "__eq__" = some (some (.ref g))) (hf : PySem.W.isFn X.K (.ref g) = true) (F : FnR X.prog X.w X.K X.mg X.base CX n g sp)
    (hr : Room (n + 1) X.A) (hx : Passes CX X E) : OpR X (compareOp .NotEq) (rNeI C sp E) := by
  intro pins s σ H x y v u Q I rx ry h
  obtain ⟨a, dx, fs, b, dy, gs, rfl, ha, rfl, hb, q⟩ := h
  cases (show v = Value.ref a from rx)
  cases (show u = Value.ref b from ry)
  obtain ⟨mA, J, _⟩ := ins_get I.hok ha
  obtain ⟨od, J, _⟩ := J.look
  obtain ⟨mB, J', _⟩ := ins_get I.hok hb
  obtain ⟨od', J', _⟩ := J'.look
  have hr2 : Room n X.A.in1 := Room.in1 hr
  show wpAny _ _ (richCompare .NotEq _ _) _ _ _
  refine OwY.ne_K (tb := .ref C) hr.units0 hr2.units0 I.kIn J J'.type (by simp [PySem.W.notFirst]) hm hne hs hf (wpAny_mono (wpAny_call (SlX.run_at (us := [.ref a, .ref b]) (ws := [.ref a, .ref b]) F hr2 I.env0.in1 hx I (.cons rfl (.cons rfl .nil)) q)) (fun w s' z => ?_) fun _ _ x => x)
  obtain ⟨z', H', I', rz, k, ek, qz⟩ := z
  subst ek
  cases (show w = Value.bool k from rz)
  exact ⟨k, rfl, .bl (!k), H', I', rfl, qz⟩
end
end L2

namespace M
open PySem L2 G
section
variable {K : PySem.W.Frag} {α β γ δ ε ρ : Type} {S T : AS} {σ : St} {H : Hp} {b c : Addr} {ta tb te : TE} {tt tu : TT} {a : Ty K α} {b' : Ty K β} {c' : Ty K γ} {D : Ends} {u : TS}
/-! ### one of two kinds -/
def tU (c : Ty K α) (d : Ty K β) : Ty K (α ⊕ β) where
  rp S H v x := match x with | .inl y => c.rp S H v y | .inr y => d.rp S H v y
  mono {S H H' v x} f h := by cases x with | inl y => exact c.mono f h | inr y => exact d.mono f h
  ext {S H p v x} f h := by cases x with | inl y => exact c.ext f h | inr y => exact d.ext f h
  sub {S S' H v x} f h := by cases x with | inl y => exact c.sub f h | inr y => exact d.sub f h
theorem ev_inl {r : Option α} (h : Ev S T te σ H (of a S) r) : Ev S T te σ H (of (tU a b') S) (bd r fun x => some (.inl x)) := ev_as h fun x y e H1 H2 v d hv => by cases e; exact hv
theorem ev_inr {r : Option β} (h : Ev S T te σ H (of b' S) r) : Ev S T te σ H (of (tU a b') S) (bd r fun x => some (.inr x)) := ev_as h fun x y e H1 H2 v d hv => by cases e; exact hv
def getL? : α ⊕ β → Option α
  | .inl x => some x
  | .inr _ => none
def getR? : α ⊕ β → Option β
  | .inr x => some x
  | .inl _ => none
theorem ev_getL {r : Option (α ⊕ β)} (h : Ev S T te σ H (of (tU a b') S) r) : Ev S T te σ H (of a S) (bd r getL?) := ev_as h fun x y e H1 H2 v d hv => by cases x with | inl z => cases e; exact hv | inr z => cases e
theorem ev_getR {r : Option (α ⊕ β)} (h : Ev S T te σ H (of (tU a b') S) r) : Ev S T te σ H (of b' S) (bd r getR?) := ev_as h fun x y e H1 H2 v d hv => by cases x with | inr z => cases e; exact hv | inl z => cases e
theorem all_getL {S : AS} {H : Hp} : ∀ {vs : List V} {xs : List (α ⊕ β)} {ys : List α}, All2 ((tU a b').rp S H) vs xs → mapO getL? xs = some ys → All2 (a.rp S H) vs ys
  | _, _, _, .nil, e => by cases e; exact .nil
  | _, x :: xs, ys, .cons h r, e => by
    obtain ⟨y, hy, e⟩ := bd_some e
    obtain ⟨zs, hz, e⟩ := bd_some e
    cases e
    cases x with
    | inl z => cases hy; exact .cons h (all_getL r hz)
    | inr z => cases hy
theorem ev_mapGL {r : Option (List (α ⊕ β))} (h : Ev S T te σ H (of (tL (tU a b')) S) r) : Ev S T te σ H (of (tL a) S) (bd r (mapO getL?)) := ev_as h fun x y e H1 H2 v d ⟨p, vs, ev, hp, ha⟩ => ⟨p, vs, ev, hp, all_getL ha e⟩
/-- a number or a truth -/
theorem ev_isiUB {r : Option (Int ⊕ Bool)} (h : Ev S T te σ H (of (K := K) (tU tInt tBool) S) r) : Ev S T (tCB (rIsi K) (tCons te (tCons (tC (.ty "bool")) tNil))) σ H (of (K := K) tBool S) (bd r fun x => some x.isRight) := by
  intro z e H1 f1 d Q q
  obtain ⟨x, ex, e⟩ := bd_some e
  cases e
  refine h x ex H1 f1 d _ fun v H2 s hv => ?_
  cases x with
  | inl i => cases hv; exact ⟨_, _, _, _, false, rfl, .ty _, .base (.int i), kit_ty (by decide +kernel), q _ H2 s rfl⟩
  | inr k => cases hv; exact ⟨_, _, _, _, true, rfl, .ty _, .base (.bl k), kit_ty (by decide +kernel), q _ H2 s rfl⟩
theorem ev_isiUI {r : Option (Int ⊕ Bool)} (h : Ev S T te σ H (of (K := K) (tU tInt tBool) S) r) : Ev S T (tCB (rIsi K) (tCons te (tCons (tC (.ty "int")) tNil))) σ H (of (K := K) tBool S) (bd r fun _ => some true) := by
  intro z e H1 f1 d Q q
  obtain ⟨x, ex, e⟩ := bd_some e
  cases e
  refine h x ex H1 f1 d _ fun v H2 s hv => ?_
  cases x with
  | inl i => cases hv; exact ⟨_, _, _, _, true, rfl, .ty _, .base (.int i), kit_ty (by decide +kernel), q _ H2 s rfl⟩
  | inr k => cases hv; exact ⟨_, _, _, _, true, rfl, .ty _, .base (.bl k), kit_ty (by decide +kernel), q _ H2 s rfl⟩
/-! ### texts, however they were made -/
def tTx : Ty K Str := ⟨fun _ _ v i => v = .str i, fun _ h => h, fun _ h => h, fun _ h => h⟩
theorem ev_s2x {r : Option Str} (h : Ev S T te σ H (of (K := K) tStr S) r) : Ev S T te σ H (of (K := K) tTx S) r := fun x ex H1 f d Q q => h x ex H1 f d Q fun v H2 s hv => q v H2 s hv.1
theorem ev_tx {z : Str} : Ev S T (tC (.str z)) σ H (of (K := K) tTx S) (some z) := fun x e H1 f d Q q => by cases e; exact q _ H1 (Same.refl _) rfl
theorem od_eqX : OpD (K := K) tTx tTx S (of (K := K) tBool S) rEq (fun i j => some (decide (i = j))) := by
  intro x y z e H1 v w d hv hw Q q
  cases hv; cases hw; cases e
  refine ⟨rfl, ?_⟩
  rw [show decide (V.str x = V.str y) = decide (x = y) by simp]
  exact q _ H1 (Same.refl _) rfl
def shw? (i : Int) : Option Str := if i.natAbs.log2 < 1920 then some (toString i) else none
theorem ev_strI {r : Option Int} (h : Ev S T te σ H (of (K := K) tInt S) r) : Ev S T (tCB (fun xs H Q => ∃ i, xs = [.int i] ∧ i.natAbs.log2 < 1920 ∧ Q (.str (toString i)) H) (tCons te tNil)) σ H (of (K := K) tTx S) (bd r shw?) := by
  intro z e H1 f1 d Q q
  obtain ⟨x, ex, e⟩ := bd_some e
  unfold shw? at e
  split at e
  · rename_i hx
    cases e
    refine h x ex H1 f1 d _ fun v H2 s hv => ?_
    cases hv
    exact ⟨x, rfl, hx, q _ H2 s rfl⟩
  · cases e
/-! f-strings of numbers and texts -/
theorem ev_fmtI {r : Option Int} (h : Ev S T te σ H (of (K := K) tInt S) r) : Ev S T (tFmt te) σ H (of (K := K) tTx S) (bd r shw?) := by
  intro z e H1 f1 d Q q
  obtain ⟨x, ex, e⟩ := bd_some e
  unfold shw? at e
  split at e
  · rename_i hx
    cases e
    refine h x ex H1 f1 d _ fun v H2 s hv => ?_
    cases hv
    exact .inr ⟨x, rfl, hx, q _ H2 s rfl⟩
  · cases e
def catX? (x y : Str) : Option Str := if (x ++ y).length ≤ sizeLine then some (x ++ y) else none
/-- the parts of an f-string -/
def EvJ (S T : AS) (ts : List TE) (σ : St) (H : Hp) (r : Str → Option Str) : Prop :=
  ∀ acc x, r acc = some x → ∀ H1, Fr T H H1 → Dom S H1 → ∀ Q : Str → Hp → Prop, (∀ H2, Same H1 H2 → Q x H2) → tJs ts acc σ H1 Q
theorem ej_nil : EvJ S T [] σ H some := fun acc x e H1 f d Q q => by cases e; exact q H1 (Same.refl _)
theorem ej_cons {ts : List TE} {ra : Option Str} {rr : Str → Option Str} (h : Ev S T te σ H (of (K := K) tTx S) ra) (hr : EvJ S T ts σ H rr) : EvJ S T (te :: ts) σ H (fun acc => bd ra fun y => bd (catX? acc y) rr) := by
  intro acc x e H1 f1 d Q q
  obtain ⟨y, ey, e⟩ := bd_some e
  obtain ⟨z, ez, e⟩ := bd_some e
  unfold catX? at ez
  split at ez
  · rename_i hz
    cases ez
    refine h y ey H1 f1 d _ fun v H2 s hv => ⟨y, hv, hz, ?_⟩
    exact hr _ x e H2 (f1.trans (Fr.same s)) (d.same s) Q fun H3 s3 => q H3 (s.trans s3)
  · cases ez
theorem ev_joined {ts : List TE} {rr : Str → Option Str} (h : EvJ S T ts σ H rr) : Ev S T (fun σ H Q => tJs ts Str.empty σ H fun out H1 => Q (.str out) H1) σ H (of (K := K) tTx S) (rr Str.empty) := fun x e H1 f d Q q => h _ x e H1 f d _ fun H2 s => q _ H2 s rfl
/-! ### instances of an own class by their fields -/
/-- an instance of the class at C, its fields by F -/
def tIn (C : Addr) (F : α → List (Str × V)) : Ty K α where
  rp S H v x := ∃ p dx, v = .ref p ∧ H p = some (.ins C dx (F x)) ∧ p ∉ S
  mono f := fun ⟨p, dx, e, h, n⟩ => ⟨p, dx, e, f _ _ h n, n⟩
  ext f := fun ⟨p, dx, e, h, n⟩ => ⟨p, dx, e, h, not_cons f (by rw [h]; intro z; cases z) n⟩
  sub f := fun ⟨p, dx, e, h, n⟩ => ⟨p, dx, e, h, fun m => n (f _ m)⟩
theorem ev_fld {C : Addr} {F : α → List (Str × V)} {f : Str} {r : Option α} {g : α → β} (c : Cls K C) (na : NoAttr K C f) (hf : ∀ x, ∃ v, (F x).lookup f = some v ∧ ∀ S H, b'.rp S H v (g x)) (h : Ev S T te σ H (of (tIn (K := K) C F) S) r) : Ev S T (tFld K te f) σ H (of b' S) (bd r fun x => some (g x)) := by
  intro z e H1 f1 d Q q
  obtain ⟨x, ex, e⟩ := bd_some e
  cases e
  refine h x ex H1 f1 d _ fun v H2 s ⟨p, dx, ev, hp, n⟩ => ?_
  obtain ⟨v, hv, hr⟩ := hf x
  exact ⟨p, C, dx, F x, v, ev, hp, c, na, hv, q v H2 s (hr S H2)⟩
/-- x.m() -/
theorem ev_meth0 {C : Addr} {F : α → List (Str × V)} {m : Str} {r : Option α} {R : AS → Rl γ} {f : α × Unit → Option γ} {E : XK} (hf : ∀ x, (F x).lookup m = none) (h : Ev S T te σ H (of (tIn (K := K) C F) S) r) : Ev S T (tMeth C m (spF (aCons (tIn (K := K) C F) aNil) R f) [] E te tNil) σ H (R S) (bd r fun x => f (x, ())) := by
  intro z e H1 f1 d Q q
  obtain ⟨x, ex, e⟩ := bd_some e
  refine h x ex H1 f1 d _ fun v H2 s ⟨p, dx, ev, hp, n⟩ => ⟨p, dx, F x, ev, hp, hf x, ?_⟩
  exact ⟨S, (x, ()), z, d.same s, ⟨v, [], by simp, ⟨p, dx, ev, hp, n⟩, rfl⟩, e, fun u H' s' hu => q u H' (s.trans s') ((R S).same s hu)⟩
/-- str(x), repr(x) -/
theorem ev_strOf {C : Addr} {F : α → List (Str × V)} {r : Option α} {f : α × Unit → Option Str} {E : XK} (h : Ev S T te σ H (of (tIn (K := K) C F) S) r) : Ev S T (tCB (rStrI C (spF (aCons (tIn (K := K) C F) aNil) (fun S => of (K := K) tTx S) f) E) (tCons te tNil)) σ H (of (K := K) tTx S) (bd r fun x => f (x, ())) := by
  intro z e H1 f1 d Q q
  obtain ⟨x, ex, e⟩ := bd_some e
  refine h x ex H1 f1 d _ fun v H2 s ⟨p, dx, ev, hp, n⟩ => ⟨p, dx, F x, by rw [ev], hp, ?_⟩
  exact ⟨S, (x, ()), z, d.same s, ⟨.ref p, [], rfl, ⟨p, dx, rfl, hp, n⟩, rfl⟩, e, fun u H' s' hu => ⟨z, hu, q u H' (s.trans s') hu⟩⟩
/-- x == y, x != y, x == a number, by the own __eq__ -/
theorem od_eqI2 {C : Addr} {F : α → List (Str × V)} {f : α × α × Unit → Option Bool} {E : XK} : OpD (tIn (K := K) C F) (tIn (K := K) C F) S (of (K := K) tBool S) (rOwnI C (spF (aCons (tIn (K := K) C F) (aCons (tIn (K := K) C F) aNil)) (fun S => of (K := K) tBool S) f) E) (fun x y => f (x, y, ())) := by
  intro x y z e H1 v w d ⟨p, dx, ev, hp, n⟩ ⟨p', dx', ev', hp', n'⟩ Q q
  exact ⟨p, dx, F x, ev, hp, .inl ⟨p', dx', F y, ev', hp'⟩, S, (x, y, ()), z, d, ⟨v, [w], rfl, ⟨p, dx, ev, hp, n⟩, w, [], rfl, ⟨p', dx', ev', hp', n'⟩, rfl⟩, e, fun u H' s hu => q u H' s hu⟩
theorem od_neI2 {C : Addr} {F : α → List (Str × V)} {f : α × α × Unit → Option Bool} {E : XK} : OpD (tIn (K := K) C F) (tIn (K := K) C F) S (of (K := K) tBool S) (rNeI C (spF (aCons (tIn (K := K) C F) (aCons (tIn (K := K) C F) aNil)) (fun S => of (K := K) tBool S) f) E) (fun x y => bd (f (x, y, ())) fun k => some (!k)) := by
  intro x y z e H1 v w d ⟨p, dx, ev, hp, n⟩ ⟨p', dx', ev', hp', n'⟩ Q q
  obtain ⟨k, ek, e⟩ := bd_some e
  cases e
  exact ⟨p, dx, F x, p', dx', F y, ev, hp, ev', hp', S, (x, y, ()), k, d, ⟨v, [w], rfl, ⟨p, dx, ev, hp, n⟩, w, [], rfl, ⟨p', dx', ev', hp', n'⟩, rfl⟩, ek, fun u H' s hu => ⟨k, hu, q _ H' s rfl⟩⟩
theorem od_eqIi {C : Addr} {F : α → List (Str × V)} {f : α × Int × Unit → Option Bool} {E : XK} : OpD (tIn (K := K) C F) (K := K) tInt S (of (K := K) tBool S) (rOwnI C (spF (aCons (tIn (K := K) C F) (aCons (K := K) tInt aNil)) (fun S => of (K := K) tBool S) f) E) (fun x y => f (x, y, ())) := by
  intro x y z e H1 v w d ⟨p, dx, ev, hp, n⟩ hw Q q
  exact ⟨p, dx, F x, ev, hp, .inr ⟨y, hw⟩, S, (x, y, ()), z, d, ⟨v, [w], rfl, ⟨p, dx, ev, hp, n⟩, w, [], rfl, hw, rfl⟩, e, fun u H' s hu => q u H' s hu⟩
/-- isinstance(x, C) of an instance, of a number -/
theorem ev_isiC {C C' : Addr} {F : α → List (Str × V)} {r : Option α} {k : Bool} (hk : PySem.W.kitOne K (.ref C) (.ref C') = some k) (hc : ∀ H p dx fs, H p = some (.ins C dx fs) → TyX K H (.ref p) (.ref C)) (h : Ev S T te σ H (of (tIn (K := K) C F) S) r) (hv : ClsV (V.ref C') (.ref C')) :
    Ev S T (tCB (rIsi K) (tCons te (tCons (tC (.ref C')) tNil))) σ H (of (K := K) tBool S) (bd r fun _ => some k) := by
  intro z e H1 f1 d Q q
  obtain ⟨x, ex, e⟩ := bd_some e
  cases e
  exact h x ex H1 f1 d _ fun v H2 s ⟨p, dx, ev, hp, n⟩ => ⟨v, _, _, _, k, rfl, hv, by rw [ev]; exact hc H2 p dx _ hp, hk, q _ H2 s rfl⟩
end
end M
namespace M
open PySem L2 G
section
variable {K : PySem.W.Frag} {α β γ δ ε ρ : Type} {S T : AS} {σ : St} {H : Hp} {b c : Addr} {ta tb te : TE} {a : Ty K α} {b' : Ty K β}
theorem ew_inl {w : Wp α} (h : EvW b c S te σ H (of a S) w) : EvW b c S te σ H (of (tU a b') S) (unW (fun x => some (Sum.inl x)) w) := fun ts P hP H1 f d hB Q q => h ts _ hP H1 f d hB Q fun v H2 x ⟨y, e, hy⟩ f2 d2 hB2 hv => q v H2 y hy f2 d2 hB2 (by cases e; exact hv)
theorem ew_inr {w : Wp β} (h : EvW b c S te σ H (of b' S) w) : EvW b c S te σ H (of (tU a b') S) (unW (fun x => some (Sum.inr x)) w) := fun ts P hP H1 f d hB Q q => h ts _ hP H1 f d hB Q fun v H2 x ⟨y, e, hy⟩ f2 d2 hB2 hv => q v H2 y hy f2 d2 hB2 (by cases e; exact hv)
theorem ev_isiIC {C : Addr} {r : Option Int} (hk : PySem.W.kitOne K (.type "int") (.ref C) = some false) (h : Ev S T te σ H (of (K := K) tInt S) r) : Ev S T (tCB (rIsi K) (tCons te (tCons (tC (.ref C)) tNil))) σ H (of (K := K) tBool S) (bd r fun _ => some false) := by
  intro z e H1 f1 d Q q
  obtain ⟨x, ex, e⟩ := bd_some e
  cases e
  exact h x ex H1 f1 d _ fun v H2 s hv => by cases hv; exact ⟨_, _, _, _, false, rfl, .own _, .base (.int x), hk, q _ H2 s rfl⟩
end
end M
namespace M
open PySem L2 G
section
variable {K : PySem.W.Frag} {S T : AS} {σ : St} {H : Hp} {ta tb te : TE}
def catY? (x y : Str) : Option Str := if x.length + y.length ≤ sizeLine then some (x ++ y) else none
theorem od_catY : OpD (K := K) tTx tTx S (of (K := K) tTx S) (fun x y H Q => ∃ i j, x = .str i ∧ y = .str j ∧ i.length + j.length ≤ sizeLine ∧ Q (.str (i ++ j)) H) catY? := by
  intro x y z e H1 v w d hv hw Q q
  unfold catY? at e
  split at e
  · rename_i hz
    cases e; cases hv; cases hw
    exact ⟨x, y, rfl, rfl, hz, q _ H1 (Same.refl _) rfl⟩
  · cases e
def join? (x : Str) (ys : List Str) : Option Str := if (ys.map (·.length)).sum + ys.length * x.length ≤ 16777216 then some (Txt.join x ys) else none
theorem All2.txs {S : AS} {H : Hp} : ∀ {vs : List V} {xs : List Str}, All2 ((tTx (K := K)).rp S H) vs xs → vs = xs.map V.str
  | _, _, .nil => rfl
  | _, _, .cons h r => by rw [List.map_cons, ← All2.txs r, show _ = _ from h]
theorem ev_join {rx : Option Str} {ry : Option (List Str)} (hx : Ev S T ta σ H (of (K := K) tTx S) rx) (hy : Ev S T tb σ H (of (K := K) (tL tTx) S) ry) : Ev S T (tM1 (fun x xs H Q => ∃ a p, ∃ ys : List Str, x = .str a ∧ xs = [.ref p] ∧ (SqL K H p (ys.map V.str) ∨ SqT K H p (ys.map V.str)) ∧
      (ys.map (·.length)).sum + ys.length * a.length ≤ 16777216 ∧ Q (.str (Txt.join a ys)) H) ta tb) σ H (of (K := K) tTx S) (bd rx fun x => bd ry fun y => join? x y) := by
  intro z e H1 f1 d Q q
  obtain ⟨x, ex, e⟩ := bd_some e
  obtain ⟨ys, ey, e⟩ := bd_some e
  unfold join? at e
  split at e
  · rename_i hz
    cases e
    refine hx x ex H1 f1 d _ fun v H2 s hv => ⟨⟨x, hv⟩, hy ys ey H2 (f1.trans (Fr.same s)) (d.same s) _ fun w H3 s3 ⟨p, vs, ew, hp, ha⟩ => ?_⟩
    refine ⟨x, p, ys, hv, by rw [ew], .inl ?_, hz, q _ H3 (s.trans s3) rfl⟩
    rw [← ha.txs]
    exact hp.sq
  · cases e
end
end M
namespace M
open PySem L2 G
theorem pe_neverE {X : Cx} {e : Expr} : PE X e (fun _ _ _ => False) := ⟨fun _ _ _ _ _ _ h => h.elim⟩
theorem ev_never {S T : AS} {σ : St} {H : Hp} {α : Type} {R : Rl α} : Ev S T (fun _ _ _ => False) σ H R none := fun x e => by cases e
end M

namespace M
open PySem L2 G
/-! ### sorted(d): keys that are texts -/
section
variable {K : PySem.W.Frag} {α β : Type} {S T : AS} {σ : St} {H : Hp} {te : TE} {a : Ty K α} {b' : Ty K β}
def leT (a b : Str) : Prop := a.cps.toList ≤ b.cps.toList
theorem leT_trans {a b c : Str} (h : leT a b) (h' : leT b c) : leT a c := List.le_trans h h'
theorem leT_anti {a b : Str} (h : leT a b) (h' : leT b a) : a = b := by
  have e : a.cps.toList = b.cps.toList := List.le_antisymm h h'
  cases a
  cases b
  exact congrArg Str.mk (Array.toList_inj.mp e)
theorem ris_allT : ∀ (l : List Str) (p : Str), PyProof.Rows.risingS p l = true → (∀ x ∈ l, leT p x) ∧ l.Pairwise leT
  | [], _, _ => ⟨(fun _ h => nomatch h), .nil⟩
  | x :: r, p, h => by
    unfold PyProof.Rows.risingS at h
    rw [Bool.and_eq_true, Bool.not_eq_true'] at h
    rw [PyProof.Rows.ltCps_eq] at h
    have hx : leT p x := of_decide_eq_false h.1
    obtain ⟨i1, i2⟩ := ris_allT r x h.2
    refine ⟨fun y hy => ?_, List.pairwise_cons.mpr ⟨i1, i2⟩⟩
    rcases List.mem_cons.mp hy with rfl | hy
    · exact hx
    · exact leT_trans hx (i1 y hy)
theorem srt_pwT : ∀ {l : List Str}, PyProof.Rows.sortedS l = true → l.Pairwise leT
  | [], _ => .nil
  | x :: r, h => List.pairwise_cons.mpr (ris_allT r x h)
theorem ltS_le {x y : Str} : (!ltS y x) = true ↔ leT x y := by
  unfold ltS leT
  rw [Bool.not_eq_true', decide_eq_false_iff_not]
  exact Iff.rfl
theorem sortS_pw (l : List Str) : (sortBy ltS l).Pairwise leT := by
  unfold sortBy
  have := List.pairwise_mergeSort (le := fun x y : Str => !ltS y x) (fun a b c h1 h2 => ltS_le.mpr (leT_trans (ltS_le.mp h1) (ltS_le.mp h2))) (fun a b => by
    rw [Bool.or_eq_true]
    rcases List.le_total a.cps.toList b.cps.toList with h | h
    · exact .inl (ltS_le.mpr h)
    · exact .inr (ltS_le.mpr h)) l
  exact this.imp fun h => ltS_le.mp h
theorem sortS_perm (l : List Str) : (sortBy ltS l).Perm l := List.mergeSort_perm ..
theorem sortS_eq {ys l : List Str} (hp : ys.Perm l) (hs : PyProof.Rows.sortedS ys = true) : ys = sortBy ltS l :=
  (hp.trans (sortS_perm l).symm).eq_of_pairwise (fun _ _ _ _ h1 h2 => leT_anti h1 h2) (srt_pwT hs) (sortS_pw l)
def ksS? (xs : List (Str × β)) : Option (List Str) := if xs.length < 64 then some (sortBy ltS (xs.map Prod.fst)) else none
def rSrtD : List V → Hp → VK → Prop := fun xs H Q => ∃ (a : Addr) (kvs : List (Key × V)) (ks : List Str), xs = [.ref a] ∧ Rd H a (.dK kvs) ∧ kvs.map (·.1) = ks.map Sum.inr ∧ ks.length < 64 ∧
    ∀ ys p, ys.Perm ks → PyProof.Rows.sortedS ys = true → H p = none → Q (.ref p) (upd H p (.lst (ys.map V.str)))
theorem cr_srtD {X : Cx} (hc : X.calm = true) : CallR X (.builtin "sorted") rSrtD := call_sortedD hc
theorem all_strs {S : AS} {H : Hp} : ∀ {ys : List Str}, (∀ z ∈ ys, PyData.strOk z = true) → All2 ((tStr (K := K)).rp S H) (ys.map V.str) ys
  | [], _ => .nil
  | y :: ys, h => .cons ⟨rfl, h y (List.mem_cons_self ..)⟩ (all_strs fun z hz => h z (List.mem_cons_of_mem _ hz))
theorem srt_core {p : Addr} {kvs : List (Key × V)} {xs : List (Str × β)} {ys : List Str} {Q : VK} (hp : Rd H p (.dK kvs)) (ha : All2 (KvP b' S H) kvs xs) (d : Dom S H) (e : ksS? xs = some ys) (q : ∀ v H2, Same H H2 → nwL (tStr (K := K)) S H H2 v ys → Q v H2) : rSrtD [.ref p] H Q := by
  unfold ksS? at e
  split at e
  · rename_i hl
    cases e
    obtain ⟨k1, k2⟩ := keys_S ha
    refine ⟨p, kvs, xs.map Prod.fst, rfl, hp, k1, by rw [List.length_map]; exact hl, fun ys a hy hs na => ?_⟩
    rw [sortS_eq hy hs]
    refine q _ _ (same_new na) ⟨a, rfl, na, _, upd_same, all_strs fun z hz => k2 z ((sortS_perm _).mem_iff.mp hz)⟩
  · cases e
theorem ev_srtD {r : Option (List (Str × β))} (h : Ev S T te σ H (of (tD Str b') S) r) : Ev S T (tCB rSrtD (tCons te tNil)) σ H (nw (tStr (K := K)) S) (bd r ksS?) := by
  intro z e H1 f1 d Q q
  obtain ⟨xs, ex, e⟩ := bd_some e
  refine h xs ex H1 f1 d _ fun v H2 s ⟨p, kvs, ev, hp, ha, hn⟩ => ?_
  subst ev
  exact srt_core (.inl hp.1) ha (d.same s) e fun v H3 s3 ⟨p, e1, e2, e3⟩ => q v H3 (s.trans s3) ⟨p, e1, s.free e2, e3⟩
theorem ev_ownSrtD {p : Addr} {xs : List (Str × β)} {i : Nat} (o : OwnD b' S H p xs) (nt : p ∉ T) (ts : Sub T S) (hi : σ[i]? = some (some (.ref p))) : Ev S T (tCB rSrtD (tCons (tVar i) tNil)) σ H (nw (tStr (K := K)) S) (ksS? xs) := by
  intro z e H1 f1 d Q q
  refine ⟨_, hi, ?_⟩
  obtain ⟨kvs, hv, ha, hn⟩ := o.fr f1 ts nt
  exact srt_core (.inl hv) ha d e q
end
/-! ### {k: v for x in xs} -/
section
variable {K : PySem.W.Frag} {α β γ κ : Type} [KeyC κ] [DecidableEq κ] {S T : AS} {σ : St} {H : Hp} {te tv tk : TE} {a : Ty K α} {b' : Ty K β} {b c : Addr} {D : Ends} {u : TS}
open KeyC
def dcO (fk : α → Option κ) (fv : α → Option β) : List (κ × β) → List α → Option (List (κ × β))
  | acc, [] => some acc
  | acc, x :: xs => bd (fk x) fun k => bd (fv x) fun y => dcO fk fv (putL acc k y) xs
def dcL? (fk : α → Option κ) (fv : α → Option β) (xs : List α) : Option (List (κ × β)) := if xs.length < 100000 then dcO fk fv [] xs else none
theorem putL_len {xs : List (κ × β)} {k : κ} {x : β} : (putL xs k x).length ≤ xs.length + 1 := by
  unfold putL
  split
  · rw [List.length_map]; omega
  · rw [List.length_append, List.length_singleton]; exact Nat.le_refl _
theorem ev_dc {ck : Ty K κ} [KeyT ck] {wi : TI} {j : Nat} {ws : List Nat} {r : Option (List α)} {fk : α → Option κ} {fv : α → Option β} (h : Sr S T wi σ H a r) (hw : ∀ x, wipe ((wipe σ ws).set j (some x)) ws = wipe σ ws)
    (hk : ∀ (x : α) (v : V) (H2 H' : Hp) (p : Addr), Fr T H H2 → H2 p = none → Same H2 H' → a.rp (p :: S) H' v x → Ev (p :: S) [] tk ((wipe σ ws).set j (some v)) H' (of ck (p :: S)) (fk x))
    (he : ∀ (x : α) (v : V) (H2 H' : Hp) (p : Addr), Fr T H H2 → H2 p = none → Same H2 H' → a.rp (p :: S) H' v x → Ev (p :: S) [] tv ((wipe σ ws).set j (some v)) H' (of b' (p :: S)) (fv x)) :
    Ev S T (tDc wi (gName j) tYes tk tv ws) σ H (nwd b' S) (bd r fun xs => dcL? fk fv xs) := by
  intro z e H1 f1 d Q q
  obtain ⟨xs, ex, e⟩ := bd_some e
  unfold dcL? at e
  split at e
  rotate_left
  · cases e
  rename_i hlen
  refine h xs ex H1 f1 d _ fun J H2 s2 wk => fun Dl hD => ?_
  have d2 := d.same s2
  have sD : Same H2 (upd H2 Dl (.dK [])) := same_new hD
  refine ⟨fun i m H' => m = xs.length - i ∧ i ≤ xs.length ∧ ∃ kvs acc, H' Dl = some (.dK kvs) ∧ Same H2 H' ∧ acc.length ≤ i ∧ All2 (KvP b' (Dl :: S) H') kvs acc ∧ (acc.map Prod.fst).Nodup ∧ dcO fk fv acc (xs.drop i) = some z, ⟨_, rfl, Nat.zero_le _, [], [], upd_same, sD, Nat.zero_le _, .nil, by simp, e⟩, ?_⟩
  rintro i m H' ⟨rfl, hi, kvs, acc, h1, h2, h3, h4, hn, h5⟩
  by_cases cc : i < xs.length
  · right
    rw [List.drop_eq_getElem_cons cc] at h5
    obtain ⟨k, ek, h5⟩ := bd_some h5
    obtain ⟨y, ey, h5⟩ := bd_some h5
    refine ⟨wk.go H' i (Fr.same h2) cc, fun H3 => ∃ kvs acc, H3 Dl = some (.dK kvs) ∧ Same H2 H3 ∧ acc.length ≤ i + 1 ∧ All2 (KvP b' (Dl :: S) H3) kvs acc ∧ (acc.map Prod.fst).Nodup ∧ dcO fk fv acc (xs.drop (i + 1)) = some z, ?_, ?_⟩
    · rintro H3 ⟨kvs, acc, g1, g2, g3, g4, g5, g6⟩
      exact ⟨xs.length - (i + 1), by omega, rfl, by omega, kvs, acc, g1, g2, g3, g4, g5, g6⟩
    · intro v H3 hy
      obtain ⟨rfl, hv⟩ := wk.yl H' i v H3 (Fr.same h2) hy _ (List.getElem?_eq_getElem cc)
      refine ⟨hw v, ?_⟩
      have hx := a.mono (Fr.same h2) (a.ext hD hv)
      have dD := (d2.same h2).cons h1
      refine G.yes_ ?_
      refine hk xs[i] v H2 _ Dl (f1.trans (Fr.same s2)) hD h2 hx k ek _ (Fr.refl _) dD _ fun w H4 s4 hw4 => ?_
      refine he xs[i] v H2 _ Dl (f1.trans (Fr.same s2)) hD h2 hx y ey H4 (Fr.same s4) (dD.same s4) _ fun w2 H5 s5 hw5 => ?_
      obtain ⟨rfl, hok⟩ := KeyT.to hw4
      have t5 := s4.trans s5
      refine ⟨kvs, kk k, rfl, t5 _ _ h1, Nat.lt_of_lt_of_le (by rw [h4.len]; omega : kvs.length < 100000) (by decide), putK kvs (kk k) w2, putL acc k y, upd_same, fun p ob eb => ?_, ?_, ?_, put_nd hn, h5⟩
      · rw [upd_ne (ne_of_none eb hD)]
        exact t5 _ _ (h2 _ _ eb)
      · exact Nat.le_trans putL_len (by omega)
      · have fD : Fr (Dl :: S) H5 (upd H5 Dl (.dK (putK kvs (kk k) w2))) := fr_upd (List.mem_cons_self ..)
        exact (put_all hok hw5 (h4.imp fun _ _ => KvP.mono (Fr.same t5))).imp fun _ _ => KvP.mono fD
  · left
    rw [List.drop_eq_nil_of_le (by omega)] at h5
    cases h5
    exact ⟨wk.st H' i (Fr.same h2) (by omega), q _ _ (s2.trans h2) ⟨Dl, rfl, s2.free hD, kvs, h1, h4, hn⟩⟩
/-! drawn keys -/
theorem ew_ownDGet {ck : Ty K κ} [KeyT ck] {p : Addr} {xs : List (κ × β)} {i : Nat} {w : Wp κ} (o : OwnD b' S H p xs) (nt : p ∉ [b, c]) (hi : σ[i]? = some (some (.ref p))) (hk : EvW b c S tk σ H (of ck S) w) :
    EvW b c S (tDGet (tVar i) tk) σ H (of b' S) (unW (fun k => getK xs k) w) := by
  intro ts P hP H1 f1 d hB Q q
  refine ⟨_, hi, hk ts _ hP H1 f1 d hB _ fun v H2 k hk2 f2 d2 hB2 hv => ?_⟩
  obtain ⟨x, ex, hx⟩ := hk2
  dsimp only at ex
  obtain ⟨kvs, hkv, ha, hn⟩ := o.fr (f1.trans f2) ts nt
  obtain ⟨rfl, hok⟩ := KeyT.to hv
  rcases val_get (k := k) ha with ⟨g1, _⟩ | ⟨y, u, g1, g2, g3⟩
  · rw [g1] at ex; cases ex
  · rw [g1] at ex
    cases ex
    exact ⟨p, u, rfl, .inl ⟨kvs, kk k, .inl hkv, rfl, g2.symm⟩, q u H2 _ hx f2 d2 hB2 g3⟩
theorem ew_dget {ck : Ty K κ} [KeyT ck] {td : TE} {rd : Option (List (κ × β))} {w : Wp κ} (hd : Ev S [b, c] td σ H (of (tD κ b') S) rd) (hk : EvW b c S tk σ H (of ck S) w) :
    EvW b c S (tDGet td tk) σ H (of b' S) (fun P => lf rd fun d => w fun k => lf (getK d k) P) := by
  intro ts P hP H1 f1 d hB Q q
  obtain ⟨xs, ex, hP⟩ := hP
  refine hd xs ex H1 f1 d _ fun v0 H2 s2 hv0 => hk ts _ hP H2 (f1.trans (Fr.same s2)) (d.same s2) (hB.same s2) _ fun v H3 k hk2 f3 d3 hB3 hv => ?_
  obtain ⟨x, ex, hx⟩ := hk2
  obtain ⟨p, kvs, rfl, hp, ha, hn⟩ := (tD κ b').mono (f3.sub ts) hv0
  obtain ⟨rfl, hok⟩ := KeyT.to hv
  rcases val_get (k := k) ha with ⟨g1, _⟩ | ⟨y, u, g1, g2, g3⟩
  · rw [g1] at ex; cases ex
  · rw [g1] at ex
    cases ex
    exact ⟨p, u, rfl, .inl ⟨kvs, kk k, .inl hp.1, rfl, g2.symm⟩, q u H3 _ hx ((Fr.same s2).trans f3) d3 hB3 g3⟩
/-- d[k] = e, both drawn: the value first -/
theorem lw_dputK {ck : Ty K κ} [KeyT ck] {p : Addr} {xs : List (κ × β)} {i : Nat} {w : Wp β} {wk : Wp κ} {R : List (κ × β) → Prop} (d : Dom S H) (hB : Bag H b c) (ts : Sub [b, c] S) (o : OwnD b' S H p xs) (im : p ∈ S) (nt : p ∉ [b, c]) (hi : σ[i]? = some (some (.ref p))) (h : EvW b c S tv σ H (of b' S) w)
    (hk : EvW b c S tk σ H (of ck S) wk) (e : w fun x => wk fun k => lf (putL? xs k x) R)
    (q : ∀ ys H1 H2, R ys → Fr [b, c] H H1 → Dom S H1 → Bag H1 b c → Mut1 p H1 H2 → Fr S H1 H2 → OwnD b' S H2 p ys → D.nx σ H2) : sDPut (tVar i) tk tv D σ H := by
  refine h ts _ e H (Fr.refl _) d hB _ fun v H1 x hx f1 d1 hB1 hv => ⟨_, hi, ?_⟩
  refine hk ts _ hx H1 f1 d1 hB1 _ fun z H2 k hk2 f2 d2 hB2 hw => ?_
  obtain ⟨ys, ey, hR⟩ := hk2
  obtain ⟨kvs, hkv, ha, hn⟩ := o.fr (f1.trans f2) ts nt
  obtain ⟨rfl, hok⟩ := KeyT.to hw
  unfold putL? at ey
  split at ey
  · rename_i hl
    cases ey
    have g1 : Fr S H2 (upd H2 p (.dK (putK kvs (kk k) v))) := fr_upd im
    refine ⟨p, _, rfl, .inl ⟨kvs, kk k, hkv, rfl, Nat.lt_of_lt_of_le (by rw [ha.len]; exact hl) (by decide), rfl⟩, ?_⟩
    refine q _ H2 _ hR (f1.trans f2) d2 hB2 ⟨fun b ob e n => by rw [upd_ne n]; exact e, by rw [upd_same]; intro z; cases z⟩ g1 ⟨_, upd_same, ?_, put_nd hn⟩
    exact (put_all hok (b'.mono (f2.sub ts) hv) ha).imp fun _ _ => KvP.mono g1
  · cases ey
theorem qw_dputK {ck : Ty K κ} [KeyT ck] {p : Addr} {xs : List (κ × β)} {i : Nat} {w : Wp β} {wk : Wp κ} {R : List (κ × β) → Prop} (d : Dom S H) (hB : Bag H b c) (ts : Sub [b, c] S) (o : OwnD b' S H p xs) (im : p ∈ S) (nt : p ∉ [b, c]) (hi : σ[i]? = some (some (.ref p))) (h : EvW b c S tv σ H (of b' S) w)
    (hk : EvW b c S tk σ H (of ck S) wk) (e : w fun x => wk fun k => lf (putL? xs k x) R)
    (q : ∀ ys H1 H2, R ys → Fr [b, c] H H1 → Dom S H1 → Bag H1 b c → Mut1 p H1 H2 → Fr S H1 H2 → OwnD b' S H2 p ys → u D σ H2) : tSeq (sDPut (tVar i) tk tv) u D σ H := lw_dputK (D := { D with nx := u D }) d hB ts o im nt hi h hk e q
end
end M

namespace M
open PySem L2 G
/-! ### instances whose fields have codes -/
structure FT (K : PySem.W.Frag) (α : Type) where
  rp : AS → Hp → List (Str × V) → α → Prop
  mono : ∀ {S H H' fs x}, Fr S H H' → rp S H fs x → rp S H' fs x
  ext : ∀ {S H q fs x}, H q = none → rp S H fs x → rp (q :: S) H fs x
  sub : ∀ {S S' H fs x}, Sub S' S → rp S H fs x → rp S' H fs x
section
variable {K : PySem.W.Frag} {α β γ δ : Type} {S T : AS} {σ : St} {H : Hp} {te tv : TE} {a : Ty K α} {b' : Ty K β} {ft : FT K α}
def fNil : FT K Unit := ⟨fun _ _ fs _ => fs = [], fun _ h => h, fun _ h => h, fun _ h => h⟩
def fCons (f : Str) (a : Ty K α) (r : FT K β) : FT K (α × β) where
  rp S H fs x := ∃ v fs', fs = (f, v) :: fs' ∧ a.rp S H v x.1 ∧ r.rp S H fs' x.2
  mono g := fun ⟨v, fs', e, h1, h2⟩ => ⟨v, fs', e, a.mono g h1, r.mono g h2⟩
  ext g := fun ⟨v, fs', e, h1, h2⟩ => ⟨v, fs', e, a.ext g h1, r.ext g h2⟩
  sub g := fun ⟨v, fs', e, h1, h2⟩ => ⟨v, fs', e, a.sub g h1, r.sub g h2⟩
def tO (C : Addr) (ft : FT K α) : Ty K α where
  rp S H v x := ∃ p dx fs, v = .ref p ∧ H p = some (.ins C dx fs) ∧ p ∉ S ∧ ft.rp S H fs x
  mono f := fun ⟨p, dx, fs, e, h, n, r⟩ => ⟨p, dx, fs, e, f _ _ h n, n, ft.mono f r⟩
  ext f := fun ⟨p, dx, fs, e, h, n, r⟩ => ⟨p, dx, fs, e, h, not_cons f (by rw [h]; intro z; cases z) n, ft.ext f r⟩
  sub f := fun ⟨p, dx, fs, e, h, n, r⟩ => ⟨p, dx, fs, e, h, fun m => n (f _ m), ft.sub f r⟩
/-- a field of it -/
def Fget (ft : FT K α) (f : Str) (b' : Ty K β) (g : α → β) : Prop := ∀ S H fs x, ft.rp S H fs x → ∃ v, fs.lookup f = some v ∧ b'.rp S H v (g x)
def Fno (ft : FT K α) (f : Str) : Prop := ∀ S H fs x, ft.rp S H fs x → fs.lookup f = none
theorem fget_here {f : Str} {a : Ty K α} {r : FT K β} : Fget (fCons f a r) f a (fun x => x.1) := by
  rintro S H fs x ⟨v, fs', rfl, h1, h2⟩
  exact ⟨v, by simp [List.lookup], h1⟩
theorem fget_there {f f' : Str} {a : Ty K α} {r : FT K β} {c : Ty K γ} {g : β → γ} (n : (f == f') = false) (h : Fget r f c g) : Fget (fCons f' a r) f c (fun x => g x.2) := by
  rintro S H fs x ⟨v, fs', rfl, h1, h2⟩
  obtain ⟨w, e, hw⟩ := h S H fs' x.2 h2
  exact ⟨w, by rw [List.lookup_cons, n]; exact e, hw⟩
theorem fno_nil {f : Str} : Fno (K := K) fNil f := fun S H fs x h => by cases h; rfl
theorem fno_cons {f f' : Str} {a : Ty K α} {r : FT K β} (n : (f == f') = false) (h : Fno r f) : Fno (fCons f' a r) f := by
  rintro S H fs x ⟨v, fs', rfl, h1, h2⟩
  rw [List.lookup_cons, n]
  exact h S H fs' x.2 h2
theorem ev_fldO {C : Addr} {f : Str} {r : Option α} {g : α → β} (c : Cls K C) (na : NoAttr K C f) (hf : Fget ft f b' g) (h : Ev S T te σ H (of (tO C ft) S) r) : Ev S T (tFld K te f) σ H (of b' S) (bd r fun x => some (g x)) := by
  intro z e H1 f1 d Q q
  obtain ⟨x, ex, e⟩ := bd_some e
  cases e
  refine h x ex H1 f1 d _ fun v H2 s ⟨p, dx, fs, ev, hp, n, hr⟩ => ?_
  obtain ⟨w, hw, hr⟩ := hf S H2 fs x hr
  exact ⟨p, C, dx, fs, w, ev, hp, c, na, hw, q w H2 s hr⟩
/-- x.m() -/
theorem ev_methO0 {C : Addr} {m : Str} {r : Option α} {R : AS → Rl γ} {f : α × Unit → Option γ} {E : XK} (hf : Fno ft m) (h : Ev S T te σ H (of (tO C ft) S) r) : Ev S T (tMeth C m (spF (aCons (tO C ft) aNil) R f) [] E te tNil) σ H (R S) (bd r fun x => f (x, ())) := by
  intro z e H1 f1 d Q q
  obtain ⟨x, ex, e⟩ := bd_some e
  refine h x ex H1 f1 d _ fun v H2 s ⟨p, dx, fs, ev, hp, n, hr⟩ => ⟨p, dx, fs, ev, hp, hf S H2 fs x hr, ?_⟩
  exact ⟨S, (x, ()), z, d.same s, ⟨v, [], by simp, ⟨p, dx, fs, ev, hp, n, hr⟩, rfl⟩, e, fun u H' s' hu => q u H' (s.trans s') ((R S).same s hu)⟩
/-- x.m(y) -/
theorem ev_methO1 {C : Addr} {m : Str} {r : Option α} {ry : Option β} {R : AS → Rl γ} {f : α × β × Unit → Option γ} {E : XK} (hf : Fno ft m) (h : Ev S T te σ H (of (tO C ft) S) r) (hy : Ev S T tv σ H (of b' S) ry) : Ev S T (tMeth C m (spF (aCons (tO C ft) (aCons b' aNil)) R f) [] E te (tCons tv tNil)) σ H (R S) (bd r fun x => bd ry fun y => f (x, y, ())) := by
  intro z e H1 f1 d Q q
  obtain ⟨x, ex, e⟩ := bd_some e
  obtain ⟨y, ey, e⟩ := bd_some e
  refine h x ex H1 f1 d _ fun v H2 s ⟨p, dx, fs, ev, hp, n, hr⟩ => ⟨p, dx, fs, ev, hp, hf S H2 fs x hr, ?_⟩
  refine hy y ey H2 (f1.trans (Fr.same s)) (d.same s) _ fun w H3 s3 hw => ?_
  have hv := (tO C ft).mono (Fr.same s3) (⟨p, dx, fs, ev, hp, n, hr⟩ : (tO C ft).rp S H2 v x)
  exact ⟨S, (x, y, ()), z, (d.same s).same s3, ⟨v, [w], by simp, hv, w, [], rfl, hw, rfl⟩, e, fun u H' s' hu => q u H' ((s.trans s3).trans s') ((R S).same (s.trans s3) hu)⟩
end
end M

namespace M
open PySem L2 G
section
variable {K : PySem.W.Frag} {α β γ δ ε ρ : Type} {S T : AS} {σ : St} {H : Hp} {ta tb tc te : TE} {a : Ty K α} {b : Ty K β} {c : Ty K γ} {D : Ends} {u : TS}
/-! ### a list of three things of three kinds -/
def tL3 (c : Ty K α) (d : Ty K β) (e : Ty K γ) : Ty K (α × β × γ) where
  rp S H v x := ∃ a u w y, v = .ref a ∧ nL K S H a [u, w, y] ∧ c.rp S H u x.1 ∧ d.rp S H w x.2.1 ∧ e.rp S H y x.2.2
  mono f := fun ⟨a, u, w, y, ev, h, h1, h2, h3⟩ => ⟨a, u, w, y, ev, h.mono f, c.mono f h1, d.mono f h2, e.mono f h3⟩
  ext f := fun ⟨a, u, w, y, ev, h, h1, h2, h3⟩ => ⟨a, u, w, y, ev, h.ext f, c.ext f h1, d.ext f h2, e.ext f h3⟩
  sub f := fun ⟨a, u, w, y, ev, h, h1, h2, h3⟩ => ⟨a, u, w, y, ev, h.sub f, c.sub f h1, d.sub f h2, e.sub f h3⟩
theorem ev_lst3 {ra : Option α} {rb : Option β} {rc : Option γ} (ha : Ev S T ta σ H (of a S) ra) (hb : Ev S T tb σ H (of b S) rb) (hc : Ev S T tc σ H (of c S) rc) : Ev S T (tLst (tCons ta (tCons tb (tCons tc tNil)))) σ H (of (tL3 a b c) S) (bd ra fun x => bd rb fun y => bd rc fun z => some (x, y, z)) := by
  intro z e H1 f1 d Q q
  obtain ⟨x, ex, e⟩ := bd_some e
  obtain ⟨y, ey, e⟩ := bd_some e
  obtain ⟨t, et, e⟩ := bd_some e
  cases e
  refine ha x ex H1 f1 d _ fun v H2 s2 hv => hb y ey H2 (f1.trans (Fr.same s2)) (d.same s2) _ fun w H3 s3 hw => hc t et H3 (f1.trans (Fr.same (s2.trans s3))) (d.same (s2.trans s3)) _ fun r H4 s4 hr => ⟨(by show 3 ≤ sizeLine; decide), fun p hp => ?_⟩
  have s5 := same_new (o := .lst [v, w, r]) hp
  exact q _ _ (s2.trans (s3.trans (s4.trans s5))) ⟨p, v, w, r, rfl, ⟨upd_same, (d.same (s2.trans (s3.trans s4))).not_mem hp⟩, a.mono (Fr.same (s3.trans (s4.trans s5))) hv, b.mono (Fr.same (s4.trans s5)) hw, c.mono (Fr.same s5) hr⟩
theorem ev_ixL30 {ra : Option (α × β × γ)} (ha : Ev S T ta σ H (of (tL3 a b c) S) ra) : Ev S T (tOp (rIxL K) ta (tC (.int 0))) σ H (of a S) (bd ra fun x => some x.1) :=
  ev_ixL_ ha fun x H v ⟨p, u, w, y, e, h, h1, h2, h3⟩ => ⟨p, _, u, e, h.sq, rfl, h1⟩
theorem ev_ixL31 {ra : Option (α × β × γ)} (ha : Ev S T ta σ H (of (tL3 a b c) S) ra) : Ev S T (tOp (rIxL K) ta (tC (.int 1))) σ H (of b S) (bd ra fun x => some x.2.1) :=
  ev_ixL_ ha fun x H v ⟨p, u, w, y, e, h, h1, h2, h3⟩ => ⟨p, _, w, e, h.sq, rfl, h2⟩
theorem ev_ixL32 {ra : Option (α × β × γ)} (ha : Ev S T ta σ H (of (tL3 a b c) S) ra) : Ev S T (tOp (rIxL K) ta (tC (.int 2))) σ H (of c S) (bd ra fun x => some x.2.2) :=
  ev_ixL_ ha fun x H v ⟨p, u, w, y, e, h, h1, h2, h3⟩ => ⟨p, _, y, e, h.sq, rfl, h3⟩
theorem q_unpL3 {i j l : Nat} {r : Option (α × β × γ)} {x : α × β × γ} (d : Dom S H) (h : Ev S T te σ H (of (tL3 a b c) S) r) (e : r = some x) (k : ∀ v w y H1, Same H H1 → a.rp S H1 v x.1 → b.rp S H1 w x.2.1 → c.rp S H1 y x.2.2 → u D (((σ.set i (some v)).set j (some w)).set l (some y)) H1) :
    tSeq (tAsg te (gLst K 3 (gCons (gName i) (gCons (gName j) (gCons (gName l) gNil))))) u D σ H := h x e H (Fr.refl _) d _ fun v H1 s1 ⟨p, u1, u2, u3, ev, hp, h1, h2, h3⟩ => ⟨p, _, ev, hp.sq, rfl, u1, _, rfl, u2, _, rfl, u3, _, rfl, rfl, k u1 u2 u3 H1 s1 h1 h2 h3⟩
theorem ew_as {b1 c1 : Addr} {w : Wp α} {f : α → Option β} (h : EvW b1 c1 S te σ H (of a S) w) (k : ∀ x y, f x = some y → ∀ H1 v, a.rp S H1 v x → b.rp S H1 v y) : EvW b1 c1 S te σ H (of b S) (unW f w) :=
  fun ts P hP H1 f1 d hB Q q => h ts _ hP H1 f1 d hB Q fun v H2 x ⟨y, e, hy⟩ f2 d2 hB2 hv => q v H2 y hy f2 d2 hB2 (k x y e H2 v hv)
theorem ew_p2r {b1 c1 : Addr} {w : Wp (Int × Int)} (h : EvW b1 c1 S te σ H (of (K := K) (tT2 tInt tInt) S) w) : EvW b1 c1 S te σ H (of (K := K) tRat S) (unW p2r w) := ew_as h fun x y e H2 v ⟨p, u, w, ev, hp, h1, h2⟩ => by
  unfold p2r at e
  split at e
  · rename_i hc
    cases e
    refine ⟨p, ev, ?_⟩
    rw [hc.1, hc.2, ← h1, ← h2]
    exact hp
  · cases e

/-! ### texts -/
def ixS? (z : Str) (i : Int) : Option Str := if z.length ≤ 100000 then (atI z.cps.toList i).map fun c => ⟨#[c]⟩ else none
theorem strOk_all {z : Str} (h : PyData.strOk z = true) : ∀ c ∈ z.cps.toList, c < 1114112 := by
  unfold PyData.strOk at h
  rw [← Array.all_toList, List.all_eq_true] at h
  exact fun c hc => of_decide_eq_true (h c hc)
theorem strOk_of {z : Str} (h : ∀ c ∈ z.cps.toList, c < 1114112) : PyData.strOk z = true := by
  unfold PyData.strOk
  rw [← Array.all_toList, List.all_eq_true]
  exact fun c hc => decide_eq_true (h c hc)
theorem atI_mem' {α : Type} {xs : List α} {i : Int} {x : α} (h : atI xs i = some x) : x ∈ xs := by
  unfold atI at h
  cases e : ixN xs.length i with
  | none => rw [e] at h; cases h
  | some j => rw [e] at h; exact List.mem_of_getElem? h
theorem od_ixS : OpD (K := K) tStr tInt S (of (K := K) tStr S) rIxS ixS? := by
  intro x y z e H1 v w d hv hw Q q
  obtain ⟨rfl, ok⟩ := hv
  cases hw
  unfold ixS? at e
  split at e
  · rename_i hl
    cases ha : atI x.cps.toList y with
    | none => rw [ha] at e; cases e
    | some ch =>
      rw [ha] at e
      cases e
      refine ⟨x, y, ch, rfl, rfl, Nat.le_trans hl (by decide), ha, q _ H1 (Same.refl _) ⟨rfl, strOk_of fun c hc => ?_⟩⟩
      have : c = ch := by simpa using hc
      rw [this]
      exact strOk_all ok ch (atI_mem' ha)
  · cases e
def rMulS : R2 := fun x y H Q => ∃ z i, x = .str z ∧ y = .int i ∧ z.length ≤ 16 ∧ 0 ≤ i ∧ i ≤ 1000 ∧ Q (.str (Txt.mul z i)) H
theorem op_mulS {X : Cx} : OpR X (binaryOp .Mult) rMulS := by
  intro pins s σ H x y v u Q I rx ry h
  obtain ⟨z, i, rfl, rfl, h1, h2, h3, q⟩ := h
  obtain ⟨t, rfl⟩ := rx
  obtain ⟨t', rfl⟩ := ry
  exact PySem.W.KXi.mul rfl h1 (by omega) (by omega) fun t' k _ _ => ⟨.str (Txt.mul z i), H, I.tok _, ⟨_, rfl⟩, q⟩
def mulS? (z : Str) (i : Int) : Option Str := if z.length ≤ 16 ∧ 0 ≤ i ∧ i ≤ 1000 then some (Txt.mul z i) else none
theorem strOk_mul {z : Str} {i : Int} (h : PyData.strOk z = true) : PyData.strOk (Txt.mul z i) = true := by
  unfold Txt.mul
  split
  · decide +kernel
  split
  · exact h
  · refine strOk_of fun c hc => ?_
    have key : ∀ (n : Nat) (acc : Array Nat), (∀ c ∈ acc.toList, c < 1114112) → ∀ c ∈ ((List.replicate n z.cps).foldl (· ++ ·) acc).toList, c < 1114112 := by
      intro n
      induction n with
      | zero => exact fun acc ha => ha
      | succ n ih =>
        intro acc ha
        rw [List.replicate_succ, List.foldl_cons]
        refine ih _ fun c hc => ?_
        rw [Array.toList_append] at hc
        rcases List.mem_append.mp hc with hc | hc
        · exact ha c hc
        · exact strOk_all h c hc
    exact key _ #[] (by simp) c hc
theorem od_mulS : OpD (K := K) tStr tInt S (of (K := K) tStr S) rMulS mulS? := by
  intro x y z e H1 v w d hv hw Q q
  obtain ⟨rfl, ok⟩ := hv
  cases hw
  unfold mulS? at e
  split at e
  · rename_i hl
    cases e
    exact ⟨x, y, rfl, rfl, hl.1, hl.2.1, hl.2.2, q _ H1 (Same.refl _) ⟨rfl, strOk_mul ok⟩⟩
  · cases e
end
end M

namespace M
open PySem L2 G
section
variable {K : PySem.W.Frag} {α β γ δ ε ρ : Type} {S T : AS} {σ : St} {H : Hp} {ta tv te : TE} {a : Ty K α} {b' : Ty K β} {D : Ends} {u : TS} {ft : FT K α}
/-! ### fields of an instance that is being made -/
theorem putF_ne {f g : Str} {v x : V} {r : List (Str × V)} (h : (g == f) = false) : putF f v ((g, x) :: r) = (g, x) :: putF f v r := by
  have : ¬ g = f := fun e => by subst e; simp at h
  show (if g = f then _ else _) = _
  rw [if_neg this]
theorem putF_lt {f : Str} {v : V} : ∀ {fs : List (Str × V)} {n : Nat}, fs.length < n → (putF f v fs).length < n + 1
  | [], n, h => by show 1 < n + 1; simp at h; omega
  | (g, x) :: r, n, h => by
    show (if g = f then (g, v) :: r else (g, x) :: putF f v r).length < n + 1
    simp only [List.length_cons] at h
    split
    · simp only [List.length_cons]; omega
    · obtain ⟨k, rfl⟩ : ∃ k, n = k + 1 := ⟨n - 1, by omega⟩
      have := putF_lt (f := f) (v := v) (fs := r) (n := k) (by omega)
      simp only [List.length_cons]
      omega
theorem putF_nil {f : Str} {v : V} : putF f v [] = [(f, v)] := rfl
theorem l_fldO {p dx C : Addr} {fs : List (Str × V)} {i : Nat} {f : Str} {r : Option β} {y : β} (d : Dom S H) (im : p ∈ S) (hp : H p = some (.ins C dx fs)) (hi : σ[i]? = some (some (.ref p))) (cl : Cls K C) (na : NoAttr K C f) (hl : fs.length < 1000) (h : Ev S [] tv σ H (of b' S) r) (e : r = some y)
    (q : ∀ H1 v, Fr S H H1 → (∀ q o, H q = some o → q ≠ p → H1 q = some o) → Dom S H1 → H1 p = some (.ins C dx (putF f v fs)) → b'.rp S H1 v y → D.nx σ H1) : sFld K (tVar i) tv f D σ H := by
  refine h y e H (Fr.refl _) d _ fun v H1 s1 hv => ⟨_, hi, p, C, dx, fs, rfl, s1 _ _ hp, cl, na, hl, ?_⟩
  have f1 : Fr S H1 (upd H1 p (.ins C dx (putF f v fs))) := fr_upd im
  refine q _ v ((Fr.same s1).trans f1) (fun q o eq n => by rw [upd_ne n]; exact s1 _ _ eq) (fun x hx ex => ?_) upd_same (b'.mono f1 hv)
  by_cases c : x = p
  · subst c; rw [upd_same] at ex; cases ex
  · rw [upd_ne c] at ex; exact d.same s1 x hx ex
theorem q_fldO {p dx C : Addr} {fs : List (Str × V)} {i : Nat} {f : Str} {r : Option β} {y : β} (d : Dom S H) (im : p ∈ S) (hp : H p = some (.ins C dx fs)) (hi : σ[i]? = some (some (.ref p))) (cl : Cls K C) (na : NoAttr K C f) (hl : fs.length < 1000) (h : Ev S [] tv σ H (of b' S) r) (e : r = some y)
    (q : ∀ H1 v, Fr S H H1 → (∀ q o, H q = some o → q ≠ p → H1 q = some o) → Dom S H1 → H1 p = some (.ins C dx (putF f v fs)) → b'.rp S H1 v y → u D σ H1) : tSeq (sFld K (tVar i) tv f) u D σ H := l_fldO (D := { D with nx := u D }) d im hp hi cl na hl h e q
/-- C(..): the fields are told by the arguments -/
def spInitO (C : Addr) (ar : TyA K β) (ft : FT K α) (m : β → Option α) : Sp := fun vs H Q _ => ∃ (S : AS) (p dx : Addr) (ws : List V) (x : β) (y : α), vs = .ref p :: ws ∧ H p = some (.ins C dx []) ∧ Dom (p :: S) H ∧ ar.rp (p :: S) H ws x ∧ m x = some y ∧
  ∀ H' fs, (∀ q o, H q = some o → q ≠ p → H' q = some o) → H' p = some (.ins C dx fs) → ft.rp S H' fs y → Q .non H'
theorem ev_makeO {ta : TA} {C : Addr} {ar : TyA K β} {m : β → Option α} {r : Option β} {E : XK} (ext : ∀ {S H q vs x}, H q = none → ar.rp S H vs x → ar.rp (q :: S) H vs x) (h : EvA S T ta σ H ar r) : Ev S T (tMake C (spInitO C ar ft m) [] E ta) σ H (of (tO C ft) S) (bd r m) := by
  intro z e H1 f1 d Q q
  obtain ⟨x, ex, e⟩ := bd_some e
  refine h x ex H1 f1 d _ fun vs H2 s2 hvs => fun p dx np ndx ne => ?_
  have sM : Same H2 (upd (upd H2 dx (.own p)) p (.ins C dx [])) := (same_upd ndx).trans (same_upd (by rw [upd_ne (Ne.symm ne)]; exact np))
  have d2 := d.same s2
  refine ⟨S, p, dx, vs, x, z, by simp, upd_same, ((d2.same sM).cons upd_same), ar.mono (Fr.same sM) (ext np hvs), e, fun H' fs fr hp hf => ⟨rfl, q _ H' (fun a o ea => fr a o (sM _ _ (s2 _ _ ea)) (ne_of_none (s2 _ _ ea) np)) ⟨p, dx, fs, rfl, hp, d2.not_mem np, hf⟩⟩⟩
theorem ax_nil {S : AS} {H : Hp} {q : Addr} {vs : List V} {x : Unit} (n : H q = none) (h : (aNil (K := K)).rp S H vs x) : (aNil (K := K)).rp (q :: S) H vs x := h
theorem ax_cons {ar : TyA K β} (hx : ∀ {S H q vs x}, H q = none → ar.rp S H vs x → ar.rp (q :: S) H vs x) {S : AS} {H : Hp} {q : Addr} {vs : List V} {x : α × β} (n : H q = none) (h : (aCons a ar).rp S H vs x) : (aCons a ar).rp (q :: S) H vs x := by
  obtain ⟨v, r, e, h1, h2⟩ := h
  exact ⟨v, r, e, a.ext n h1, hx n h2⟩
end
end M

namespace M
open PySem L2 G
/-- o.m(e) -/
def tMethX (C : Addr) (m : Str) (sp : Sp) (E : St → XK) (ta : TE) (t : TA) : TE := fun σ H Q => ta σ H fun x H1 => ∃ a dx fs, x = .ref a ∧ H1 a = some (.ins C dx fs) ∧ fs.lookup m = none ∧ t σ H1 fun vs H2 => sp (x :: vs) H2 Q (E σ)
section
variable {K : PySem.W.Frag} {α β γ δ ε ρ : Type} {S T : AS} {σ : St} {H : Hp} {ta tb tv te : TE} {a : Ty K α} {b' : Ty K β} {D : Ends} {u : TS} {ft : FT K α}
/-! ### defs that may refuse: what is told is one of two: which refusal and its text, or a value -/
abbrev Rf : Type := Nat × Str
/-- an exception of the class (cl k).1, with the one field (cl k).2 -/
def Xq (cl : Nat → Addr × Str) (E : XK) (H : Hp) (e : Rf) : Prop := ∀ H' d, Same H H' → H' d = none → E (.ref (cl e.1).1) (some d) (upd H' d (.xd [((cl e.1).2, .str e.2)]))
def spX (ar : TyA K α) (R : AS → Rl γ) (cl : Nat → Addr × Str) (f : α → Option (Rf ⊕ γ)) : Sp := fun vs H Q E => ∃ (S : AS) (x : α) (y : Rf ⊕ γ), Dom S H ∧ ar.rp S H vs x ∧ f x = some y ∧ (∀ z, y = .inr z → ∀ v H', Same H H' → (R S).r H H' v z → Q v H') ∧ (∀ e, y = .inl e → Xq cl E H e)
def rfs? (z : Str) : Option Str := if (PySem.reprText z).length ≤ 1000000 then some z else none
/-- raise C(z) -/
theorem l_raiseE {r : Option Str} {z : Str} {C : Addr} {f : Str} {W : WX} {ok : V → Prop} (hok : ∀ z, (PySem.reprText z).length ≤ 1000000 → ok (.str z)) (d : Dom S H) (h : Ev S T te σ H (of (K := K) tStr S) r) (e : bd r rfs? = some z) (q : ∀ H1 d, Same H H1 → H1 d = none → W (.ref C) (some d) σ (upd H1 d (.xd [(f, .str z)]))) : tRaiseSup C f ok W (tCons te tNil) D σ H := by
  obtain ⟨z', ez, e⟩ := bd_some e
  unfold rfs? at e
  split at e
  · rename_i hl
    cases e
    refine h z ez H (Fr.refl _) d _ fun v H1 s hv => ?_
    obtain ⟨rfl, _⟩ := hv
    exact ⟨_, rfl, hok z hl, fun dd hd => q H1 dd s hd⟩
  · cases e
/-- what a call that may refuse tells -/
def EvX (S T : AS) (te : TE) (σ : St) (H : Hp) (R : Rl γ) (cl : Nat → Addr × Str) (E : XK) (r : Option (Rf ⊕ γ)) : Prop :=
  ∀ y, r = some y → ∀ H1, Fr T H H1 → Dom S H1 → ∀ Q : VK, (∀ z, y = .inr z → ∀ v H2, Same H1 H2 → R.r H1 H2 v z → Q v H2) → (∀ e, y = .inl e → Xq cl E H1 e) → te σ H1 Q
theorem Xq.same {cl : Nat → Addr × Str} {E : XK} {H H1 : Hp} {e : Rf} (s : Same H H1) (h : Xq cl E H e) : Xq cl E H1 e := fun H' d s' nd => h H' d (s.trans s') nd
theorem ev_fnX1 {C : Addr} {m : Str} {r : Option α} {ry : Option β} {R : AS → Rl γ} {cl : Nat → Addr × Str} {f : α × β × Unit → Option (Rf ⊕ γ)} {E : St → XK} (hf : Fno ft m) (h : Ev S T te σ H (of (tO C ft) S) r) (hy : Ev S T tv σ H (of b' S) ry) :
    EvX S T (tMethX C m (spX (aCons (tO C ft) (aCons b' aNil)) R cl f) E te (tCons tv tNil)) σ H (R S) cl (E σ) (bd r fun x => bd ry fun y => f (x, y, ())) := by
  intro z e H1 f1 d Q q qx
  obtain ⟨x, ex, e⟩ := bd_some e
  obtain ⟨y, ey, e⟩ := bd_some e
  refine h x ex H1 f1 d _ fun v H2 s ⟨p, dx, fs, ev, hp, n, hr⟩ => ⟨p, dx, fs, ev, hp, hf S H2 fs x hr, ?_⟩
  refine hy y ey H2 (f1.trans (Fr.same s)) (d.same s) _ fun w H3 s3 hw => ?_
  have hv := (tO C ft).mono (Fr.same s3) (⟨p, dx, fs, ev, hp, n, hr⟩ : (tO C ft).rp S H2 v x)
  exact ⟨S, (x, y, ()), z, (d.same s).same s3, ⟨v, [w], rfl, hv, w, [], rfl, hw, rfl⟩, e, fun z' e' u H' s' hu => q z' e' u H' ((s.trans s3).trans s') ((R S).same (s.trans s3) hu), fun e' ee => (qx e' ee).same (s.trans s3)⟩
theorem q_asgX {i : Nat} {R : Rl γ} {cl : Nat → Addr × Str} {E : XK} {r : Option (Rf ⊕ γ)} {y : Rf ⊕ γ} (d : Dom S H) (h : EvX S T te σ H R cl E r) (e : r = some y) (k : ∀ z, y = .inr z → ∀ v H1, Same H H1 → R.r H H1 v z → u D (σ.set i (some v)) H1) (kx : ∀ e, y = .inl e → Xq cl E H e) : tSeq (tAsg te (gName i)) u D σ H :=
  h y e H (Fr.refl _) d _ (fun z ez v H1 s hv => k z ez v H1 s hv) kx
end
/-- o.m(e): it may refuse -/
theorem pe_methX {X : Cx} {CX : CXT} {k : Nat} {f C : Addr} {fd : FuncData} {ps : List Str} {sp : Sp} {E : St → XK} {m : Str} {pos apos : Pos} {e o : Expr} {es : List Expr} {ta : TE} {t : TA} {pl : Sem Bool} (he : PE X o ta) (c : Cls X.K C) (hm : Meth X.K C m f) (F : FnOk X.prog X.w X.K X.mg X.base CX k f fd ps sp) (hr : Room k X.A) (hb : Binds X.K fd ps []) (hx : ∀ σ, PassesAt CX X σ (E σ)) (ha : PA X (e :: es) t)
    (hst : starEach (e :: es) X.env = (false, eval e X.env) :: starEach es X.env := by rfl) (hpl : (backTo pos (starEach es X.env)).any (·.1) = false := by rfl)
    (ht : eval (.Call (.Attribute o m apos) (e :: es) [] pos) X.env = (do
      let ov ← eval o X.env
      standAt apos.atName
      let (f, first) ← holding [ov] (getMethod ov m pl)
      callWith pos f first (backTo pos (starEach (e :: es) X.env)) (backToKw pos (keywordEach [] X.env))) := by rfl) :
    PE X (.Call (.Attribute o m apos) (e :: es) [] pos) (tMethX C m sp E ta t) := by
  refine ⟨fun pins s σ H Q I h => ?_⟩
  refine PySem.W.methodCall_KW (pl := pl) (thn (he.run pins s σ H _ I h) fun u s1 ⟨x, H1, I1, rx, a, dx, fs, ex, ea, l, q⟩ => ?_) ht
  subst ex
  obtain rfl : u = Value.ref a := rx
  refine getmeth_ok I1 ea c hm l ?_
  refine PySem.W.callWith_K (first := [.ref a]) (h₀ := X.base) I.ok.mod.kin hm.kp (thn (ha.run pos pins s1 σ H1 _ I1 q) fun us s2 ⟨vs, H2, I2, r, q2⟩ => ⟨I2.kIn, ?_⟩) hst hpl
  exact run_fnS (us := .ref a :: us) (vs := .ref a :: vs) F hr hb (hx σ) I2 (.cons rfl r) q2
end M

namespace M
open PySem L2 G
section
variable {K : PySem.W.Frag} {α β γ : Type} {S T : AS} {σ : St} {H : Hp} {a : Ty K α} {b' : Ty K β}
/-- a written tuple of things of one kind -/
theorem ev_tupTs {tr : TA} {n : Nat} {rr : Option (List α)} (h : EvE S T tr σ H a n rr) (hn : n ≤ sizeLine) : Ev S T (tTup tr) σ H (of (tTs a) S) rr := fun x e H1 f d Q q =>
  h x e H1 f d _ fun vs H2 hl s2 ha => ⟨by rw [hl]; exact hn, fun p hp => q _ _ (s2.trans (same_new hp)) ⟨p, vs, rfl, .inl ⟨.inl upd_same, (d.same s2).not_mem hp⟩, ha.imp fun _ _ h => a.mono (Fr.same (same_new hp)) h⟩⟩
end
end M

namespace GQ
open PySem PySem.SeqAt
open AutoSeq1 (wpAny_loadPart')
open MeetsSeq MeetsSeq2 MeetsSeq3 SeqRoads2
section
variable {prog : Program} {w : World} {A : Around} {R : Result → Shared → Prop}
theorem in_loop0 {l : Addr} {x : Value} {items : Array Value} {n : Nat} {s : Shared} (hl1 : s.heap.get? l = some { cls := .type "list", data := .seq items n }) (hz : items.size = 1) (hR : R (.ok (.ret (.bool false))) s) :
    wpAny (model prog w) A.in1 (Builtin.«list.__contains__.loop» ⟨[.ref l, x, rawInt 1], []⟩) (FinOf prog w A R) (fun e s' => R (.error e) s') s := by
  obtain ⟨hp, g, d, tk, os⟩ := s
  wp_walk using wpAny_loadPart' hl1
  have hi : items[(1 : Int).toNat]? = none := by simp [hz]
  rw [hi]
  wp_walk
  exact hR
theorem in_loop1 {l : Addr} {x y : Value} {items : Array Value} {n : Nat} {s : Shared} (hl1 : s.heap.get? l = some { cls := .type "list", data := .seq items n }) (hi : items[(0 : Int).toNat]? = some y)
    (ht : wpAny (model prog w) A.in1 (eqBool y x) (fun r s' => (r = true ∧ R (.ok (.ret (.bool true))) s') ∨ (r = false ∧ (∃ n items, s'.heap.get? l = some { cls := .type "list", data := .seq items n } ∧ items.size = 1) ∧ R (.ok (.ret (.bool false))) s')) (fun e s' => R (.error e) s') s) :
    wpAny (model prog w) A.in1 (Builtin.«list.__contains__» ⟨[.ref l, x], []⟩) (FinOf prog w A R) (fun e s' => R (.error e) s') s := by
  obtain ⟨hp, g, d, tk, os⟩ := s
  wp_walk using wpAny_loadPart' hl1
  refine ⟨plainId_quiet plain_contains_loop _, codeAny_builtin entry_contains_loop (by
    rw [Around.under_plainId plain_contains_loop _]
    show wpAny (model prog w) A.in1 (Builtin.«list.__contains__.loop» ⟨[.ref l, x, rawInt 0], []⟩) (FinOf prog w A R) (fun e s' => R (.error e) s') _
    wp_walk using wpAny_loadPart' hl1
    rw [hi]
    refine wpAny_bind (wpAny_mono ht (fun r s2 h2 => ?_) fun _ _ x => x)
    rcases h2 with ⟨rfl, h2⟩ | ⟨rfl, ⟨n2, it2, hl2, hz2⟩, h2⟩
    · obtain ⟨hp2, g2, d2, tk2, os2⟩ := s2
      wp_walk
      exact h2
    · have k := in_loop0 (prog := prog) (w := w) (A := A) (R := R) (x := x) hl2 hz2 h2
      obtain ⟨hp2, g2, d2, tk2, os2⟩ := s2
      wp_walk
      exact ⟨plainId_quiet plain_contains_loop _, codeAny_builtin entry_contains_loop (by
        rw [Around.under_plainId plain_contains_loop _]
        exact k)⟩)⟩
end
end GQ
theorem L2.getD_mem {l : List Int} {i : Nat} (h : i < l.length) : l.getD i 0 ∈ l := by
  have e : l.getD i 0 = l[i] := by simp [List.getD, h]
  exact e ▸ List.getElem_mem h
/-! ### == and != of dicts whose values are data; len, in, == of own instances; max of a dict -/
namespace L2
open PySem PySem.Spec PyProof.Rows
inductive HitsD (K : PySem.W.Frag) (H : Hp) (ls : List (Key × V)) : List (Key × V) → Bool → Prop
  | nil : HitsD K H ls [] true
  | miss {k : Key} {v : V} {r : List (Key × V)} : valV ls k = none → HitsD K H ls ((k, v) :: r) false
  | hit {k : Key} {v u : V} {r : List (Key × V)} {d e : PyData} {b : Bool} : valV ls k = some u → Dp K H v d → Dp K H u e → SeqAt.shaped d = true → SeqAt.shaped e = true → HitsD K H ls r b → HitsD K H ls ((k, v) :: r) (PyData.eqv d e && b)
section
variable {X : Cx} {pins : List (Addr × Obj)} {σ : St} {H : Hp} {s : Shared}
theorem HitsD.run (I : Inv X pins σ H s) {A : Around} (hu : A.units + 64 < cLine) {ls : List (Key × V)} {vb : List (Key × Value)} (rb : KV ls vb) {ks : List (Key × V)} {r : Bool} (h : HitsD X.K H ls ks r) : ∀ {va : List (Key × Value)}, KV ks va → PySem.W.KeqHits A s vb va r := by
  induction h with
  | nil =>
    intro va ra
    unfold KV at ra
    cases ra
    exact .nil
  | @miss k v r hn =>
    intro va ra
    unfold KV at ra
    cases ra with
    | @cons _ q _ qs h t =>
      obtain ⟨h1, h2⟩ := h
      obtain ⟨key, w⟩ := q
      have h1' : k = key := h1
      have rr := rb.val k
      rw [hn] at rr
      subst h1'
      refine .miss ?_
      cases e : valueAt vb k with
      | none => rfl
      | some y => rw [e] at rr; exact absurd rr (by simp [RelO])
  | @hit k v u r d e b hv hd he sd se hr ih =>
    intro va ra
    unfold KV at ra
    cases ra with
    | @cons _ q _ qs h t =>
      obtain ⟨h1, h2⟩ := h
      obtain ⟨key, w⟩ := q
      have h1' : k = key := h1
      have rr : RelO (some u) (valueAt vb k) := by rw [← hv]; exact rb.val k
      obtain ⟨y, hy, ry⟩ := rr.some_of
      subst h1'
      obtain ⟨as, r1⟩ := Dp.reads I d v w hd h2
      obtain ⟨bs, r2⟩ := Dp.reads I e u y he ry
      exact .hit hy (SeqAt.eqAt_reads d e A s w y as bs r1 r2 (SeqAt.canLay_of_shaped sd) (SeqAt.canLay_of_shaped se) (SeqAt.room_of_shaped sd hu)) (ih t)
end
section
variable {X : Cx} {CX : CXT} {C g : Addr} {n : Nat} {sp : Sp} {E : XK}
def rEqDD (K : PySem.W.Frag) : R2 := fun x y H Q => ∃ a b ks ls r, x = .ref a ∧ y = .ref b ∧ Rd H a (.dK ks) ∧ Rd H b (.dK ls) ∧ HitsD K H ls ks r ∧ Q (.bl (ks.length == ls.length && r)) H
def rNeDD (K : PySem.W.Frag) : R2 := fun x y H Q => ∃ a b ks ls r, x = .ref a ∧ y = .ref b ∧ Rd H a (.dK ks) ∧ Rd H b (.dK ls) ∧ HitsD K H ls ks r ∧ Q (.bl (!(ks.length == ls.length && r))) H
theorem op_eqDD (hu : X.A.units + 65 < cLine) : OpR X (compareOp .Eq) (rEqDD X.K) := by
  intro pins s σ H x y v u Q I rx ry h
  obtain ⟨a, b, ks, ls, r, rfl, rfl, ea, eb, hh, q⟩ := h
  obtain rfl : v = Value.ref a := rx
  obtain rfl : u = Value.ref b := ry
  obtain ⟨_, ya, va, ra, da⟩ := dk_rd I.hok ea
  obtain ⟨_, yb, vb, rb, db⟩ := dk_rd I.hok eb
  have hl : (va.length == vb.length) = (ks.length == ls.length) := by rw [← ra.length, ← rb.length]
  refine PySem.W.keq_eq (knd := mixKind X.prog X.w) (r := r) ya yb da db (by omega) (fun _ => hh.run I (A := X.A.in1) (by show X.A.units + 1 + 64 < cLine; omega) rb ra) ?_
  rw [hl]
  exact ⟨.bl _, H, I, rfl, q⟩
theorem op_neDD (hu : X.A.units + 65 < cLine) : OpR X (compareOp .NotEq) (rNeDD X.K) := by
  intro pins s σ H x y v u Q I rx ry h
  obtain ⟨a, b, ks, ls, r, rfl, rfl, ea, eb, hh, q⟩ := h
  obtain rfl : v = Value.ref a := rx
  obtain rfl : u = Value.ref b := ry
  obtain ⟨_, ya, va, ra, da⟩ := dk_rd I.hok ea
  obtain ⟨_, yb, vb, rb, db⟩ := dk_rd I.hok eb
  have hl : (va.length == vb.length) = (ks.length == ls.length) := by rw [← ra.length, ← rb.length]
  refine PySem.W.keq_ne (knd := mixKind X.prog X.w) (r := r) ya yb da db (by omega) (fun _ => hh.run I (A := X.A.in1) (by show X.A.units + 1 + 64 < cLine; omega) rb ra) ?_
  rw [hl]
  exact ⟨.bl _, H, I, rfl, q⟩
/-- len(x) of an own instance -/
def rLenI (C : Addr) (sp : Sp) (E : XK) : List V → Hp → VK → Prop := fun xs H Q => ∃ a dx fs, xs = [V.ref a] ∧ H a = some (.ins C dx fs) ∧ sp [.ref a] H (fun z H' => ∃ i : Int, z = .int i ∧ 0 ≤ i ∧ i < 2 ^ 63 ∧ Q z H') E
theorem call_lenI (hs : PySem.W.findIn X.K (.ref C) "__len__" = some (some (.ref g))) (hf : PySem.W.isFn X.K (.ref g) = true) (F : FnR X.prog X.w X.K X.mg X.base CX n g sp) (hr : Room (n + 1) X.A) (hx : Passes CX X E) : CallR X (.builtin "len") (rLenI C sp E) := by
  intro pins s σ H xs us Q I r h
  obtain ⟨a, dx, fs, rfl, hsl, q⟩ := h
  obtain ⟨u, rfl, ru⟩ := r.one
  cases (show u = Value.ref a from ru)
  obtain ⟨mA, J, _⟩ := ins_get I.hok hsl
  obtain ⟨od, J, _⟩ := J.look
  have hr2 : Room n X.A.in1 := Room.in1 hr
  obtain ⟨m, hF⟩ := I.fr
  refine PySem.W.len_K hF I.ok.mod.kin J hs hf (wpAny_mono (wpAny_call (SlX.run_at (us := [.ref a]) (ws := [.ref a]) F hr2 I.env0.in1 hx I (.cons rfl .nil) q)) (fun w s' z => ?_) fun _ _ x => x)
  obtain ⟨z', H', I', rz, i, ei, i0, i1, qz⟩ := z
  subst ei
  obtain ⟨t, e⟩ := (show ∃ t, w = Value.int i t from rz)
  cases e
  exact ⟨⟨i0, i1⟩, .int i, H', I'.tok _, ⟨_, rfl⟩, qz⟩
/-- what else may stand behind == -/
def YTy (H : Hp) (y : V) (T : String) : Prop := (T = "str" ∧ ∃ z, y = .str z) ∨ (T = "dict" ∧ ∃ b kvs, y = .ref b ∧ Rd H b (.dK kvs)) ∨ (T = "int" ∧ ∃ i, y = .int i) ∨ (T = "list" ∧ ∃ b xs, y = .ref b ∧ Rd H b (.lst xs))
theorem YTy.typeIs {pins : List (Addr × Obj)} {σ : St} {H : Hp} {s : Shared} {y : V} {T : String} {u : Value} (I : Inv X pins σ H s) (h : YTy H y T) (r : RelV y u) : s.TypeIs u T := by
  rcases h with ⟨rfl, z, rfl⟩ | ⟨rfl, b, kvs, rfl, hb⟩ | ⟨rfl, i, rfl⟩ | ⟨rfl, b, xs, rfl, hb⟩
  · obtain ⟨t, e⟩ := (show ∃ t, u = Value.str z t from r)
    subst e
    exact typeIs_str _ _ _
  · cases (show u = Value.ref b from r)
    obtain ⟨_, _, vs, _, d⟩ := dk_rd I.hok hb
    exact d.typeIs
  · obtain ⟨t, e⟩ := (show ∃ t, u = Value.int i t from r)
    subst e
    exact typeIs_int _ _ _
  · cases (show u = Value.ref b from r)
    obtain ⟨us, r1, p1, _⟩ := I.list (.inl hb)
    exact p1.isList.typeIs
theorem typeIs_keep {s s2 : Shared} {u : Value} {T : String} (h : s.TypeIs u T) (k : ∀ b o, s.heap.get? b = some o → s2.heap.get? b = some o) : s2.TypeIs u T := by
  cases u with
  | ref a => obtain ⟨o, ho, e⟩ := h; exact ⟨o, k _ _ ho, e⟩
  | _ => exact h
def rOwnT (C : Addr) (T : String) (sp : Sp) (E : XK) : R2 := fun x y H Q => ∃ a dx fs, x = .ref a ∧ H a = some (.ins C dx fs) ∧ YTy H y T ∧ sp [x, y] H Q E
theorem op_ownT {op : CmpOp} {T : String} (hop : ∀ a b, compareOp op a b = richCompare op a b) (hs : PySem.W.findIn X.K (.ref C) (cmpInfo op).2.1 = some (some (.ref g))) (hf : PySem.W.isFn X.K (.ref g) = true) (hi : PySem.W.notFirst X.K C (.type T) = true) (F : FnR X.prog X.w X.K X.mg X.base CX n g sp)
    (hr : Room n X.A) (hx : Passes CX X E) : OpR X (compareOp op) (rOwnT C T sp E) := by
  intro pins s σ H x y v u Q I rx ry h
  obtain ⟨a, dx, fs, rfl, ha, hy, q⟩ := h
  cases (show v = Value.ref a from rx)
  obtain ⟨mA, J, _⟩ := ins_get I.hok ha
  obtain ⟨od, J, _⟩ := J.look
  obtain ⟨m, hF⟩ := I.fr
  rw [hop]
  have hT := hy.typeIs I ry
  refine PySem.W.cmp_K (op := op) (tb := .type T) hr.units0 hF I.ok.mod.kin J (fun _ _ _ s2 k q => wpAny_typeOf (s := s2) (typeIs_keep hT k) q) hi hs hf ?_
  refine wpAny_mono (wpAny_call (run_fnR (us := [.ref a, u]) (vs := [.ref a, y]) F hr hx I (.cons rfl (.cons ry .nil)) q)) (fun w s' z => ?_) fun _ _ x => x
  obtain ⟨z', H', I', rz, qz⟩ := z
  exact SlX.cmpback rz ⟨z', H', I', rz, qz⟩
/-- x in [y], both own instances of one class -/
def rInI (C : Addr) (sp : Sp) (E : XK) : R2 := fun x y H Q => ∃ a dx fs p b dy gs, x = .ref a ∧ H a = some (.ins C dx fs) ∧ y = .ref p ∧ H p = some (.lst [.ref b]) ∧ H b = some (.ins C dy gs) ∧ a ≠ b ∧ sp [.ref b, .ref a] H (fun z H' => ∃ k, z = .bl k ∧ Ext H H' ∧ Q (.bl k) H') E
theorem op_inI (hs : PySem.W.findIn X.K (.ref C) "__eq__" = some (some (.ref g))) (hf : PySem.W.isFn X.K (.ref g) = true) (F : FnR X.prog X.w X.K X.mg X.base CX n g sp)
    (hr : Room (n + 1) X.A) (hx : Passes CX X E) : OpR X (compareOp .In) (rInI C sp E) := by
  intro pins s σ H x y v u Q I rx ry h
  obtain ⟨a, dx, fs, p, b, dy, gs, rfl, ha, rfl, hp, hb, nab, q⟩ := h
  cases (show v = Value.ref a from rx)
  cases (show u = Value.ref p from ry)
  obtain ⟨mA, J, _⟩ := ins_get I.hok ha
  obtain ⟨od, J, _⟩ := J.look
  obtain ⟨mB, J', _⟩ := ins_get I.hok hb
  obtain ⟨od', J', _⟩ := J'.look
  have hr2 : Room n X.A.in1 := Room.in1 hr
  obtain ⟨m, hF⟩ := I.fr
  obtain ⟨us, r1, p1, _⟩ := I.list (.inl (.inl hp))
  obtain ⟨u1, rfl, ru⟩ := vals1 r1
  cases (show u1 = Value.ref b from ru)
  have hT : s.TypeIs (.ref p) "list" := p1.isList.typeIs
  have fin : wpAny (model X.prog X.w) X.A (call (.builtin "list.__contains__") [.ref p, .ref a]) (fun v s' => ∃ k, v = .bool k ∧ EP X pins σ Q (.bool k) s') X.xe s := by
    obtain ⟨z, its, kk, r, e⟩ := I.hok p _ hp
    obtain ⟨u2, rfl, ru2⟩ := vals1 r
    cases (show u2 = Value.ref b from ru2)
    refine GQ.call_here PySem.F.slot_list_contains hT PySem.F.entry_list_contains (PySem.F.args_list_contains_2 _ _) (GQ.in_loop1 (n := kk) (y := .ref b) e (by rfl) (GQ.eqBool_refG (Ne.symm nab) ?_))
    refine PySem.W.cmp_K (op := .Eq) (tb := .ref C) hr2.units0 hF I.ok.mod.kin J' J.type (by simp [PySem.W.notFirst]) hs hf ?_
    refine wpAny_mono (wpAny_call (SlX.run_at (us := [.ref b, .ref a]) (ws := [.ref b, .ref a]) F hr2 I.env0.in1 hx I (.cons rfl (.cons rfl .nil)) q)) (fun w s' z => ?_) fun _ _ x => x
    obtain ⟨z', H', I', rz, k, ek, ext, qz⟩ := z
    subst ek
    refine SlX.cmpback rz ?_
    cases (show w = Value.bool k from rz)
    refine ⟨k, rfl, ?_⟩
    cases k with
    | true => exact .inl ⟨rfl, true, rfl, .bl true, H', I', rfl, qz⟩
    | false =>
      obtain ⟨z, its, kk, r, e⟩ := I'.hok p _ (ext _ _ hp)
      obtain ⟨u2, rfl, ru2⟩ := vals1 r
      cases (show u2 = Value.ref b from ru2)
      exact .inr ⟨rfl, ⟨kk, _, e, rfl⟩, false, rfl, .bl false, H', I', rfl, qz⟩
  show wpAny _ _ (contains (.ref p) (.ref a) >>= fun b => pure (Value.bool b)) _ _ s
  refine wpAny_bind (wpAny_contains_slot hT PySem.F.slot_list_contains (wpAny_mono fin (fun v s' hv => ?_) fun _ _ x => x))
  obtain ⟨k, rfl, hk⟩ := hv
  exact wpAny_truthy_bool (wpAny_pure hk)
/-- max(d), a dict with numbers for keys -/
def rMaxDI : List V → Hp → VK → Prop := fun xs H Q => ∃ (a : Addr) (kvs : List (Key × V)) (ks : List Int), xs = [.ref a] ∧ Rd H a (.dK kvs) ∧ kvs.map (·.1) = ks.map Sum.inl ∧ ks ≠ [] ∧ ∀ m, m ∈ ks → (∀ j ∈ ks, j ≤ m) → Q (.int m) H
theorem call_maxDI (hc : X.calm = true) : CallR X (.builtin "max") rMaxDI := by
  intro pins s σ H xs us Q I r h
  obtain ⟨a, kvs, ks, rfl, ha, hk, hne, q⟩ := h
  obtain ⟨u, rfl, ru⟩ := vals1 r
  cases (show u = Value.ref a from ru)
  obtain ⟨_, hsys, vs, rel, dof⟩ := dk_rd I.hok ha
  obtain ⟨ep, dat⟩ := dof.dictAt
  have hkeys : vs.map (·.1) = ks.map Sum.inl := rel.keys.symm.trans hk
  have hl : vs.length = ks.length := by
    have e := congrArg List.length hkeys
    rw [List.length_map, List.length_map] at e
    exact e
  have hlen : 0 < vs.length := by rw [hl]; exact List.length_pos_iff.mpr hne
  have hval : ∀ (i : Nat) (v : Value), (∃ k x, vs[i]? = some (k, x) ∧ (mixKind X.prog X.w).is k v = true) → ∃ t, v = Value.int (ks.getD i 0) t := fun i v ⟨k, x, h1, h2⟩ => by
    have e1 : (vs.map (·.1))[i]? = some k := by rw [List.getElem?_map, h1]; rfl
    rw [hkeys, List.getElem?_map] at e1
    obtain ⟨j, hj, e2⟩ := Option.map_eq_some_iff.mp e1
    subst e2
    rw [List.getD_eq_getElem?_getD, hj]
    rcases keyIs_shape (show keyIs (Sum.inl j) v = true from h2) with ⟨i, t, ek, ev⟩ | ⟨z, t, ek, ev⟩
    · cases ek
      exact ⟨t, ev⟩
    · cases ek
  have hlt : a < s.heap.objs.size := by
    obtain ⟨ob, es, ho, _⟩ := dat
    exact Heap.lt_size ho
  refine call_max_walk (wpAny_pyIter_dict hsys dat ?_)
  refine ⟨_, _, _, _, _, _, _, rfl, Walks.dictKeys (knd := mixKind X.prog X.w) (A := X.A.in1) (I.ok.hd hc) s.heap.objs.size a (Nat.ne_of_lt hlt) vs ep, ?_, fun b hb => ?_, hlen, CmpOf.ints_gt (fun i => ks.getD i 0) hval, fun v h' tk hP hk => ?_⟩
  · exact ⟨⟨_, Heap.get?_push_size _ rfl, rfl, rfl⟩, dat.keep fun b u e => Heap.get?_push_of_some _ e⟩
  · show b < (s.heap.push _).objs.size
    rw [Heap.size_push]
    rcases List.mem_cons.mp hb with e | hb
    · rw [e]
      exact Nat.lt_succ_self _
    · have e : b = a := List.mem_singleton.mp hb
      rw [e]
      exact Nat.lt_succ_of_lt hlt
  · obtain ⟨t, rfl⟩ := hval _ v hP
    obtain ⟨b1, b2⟩ := argBest_gt (fun i => ks.getD i 0) (vs.length - 1)
    have lt : argBest (fun i j => decide (ks.getD i 0 > ks.getD j 0)) (vs.length - 1) < ks.length := by omega
    have apart : ∀ b u, s.heap.get? b = some u → b ∉ [s.heap.objs.size] := fun b u e z => by
      have c := Heap.lt_size e
      rw [List.mem_singleton.mp z] at c
      exact Nat.lt_irrefl _ c
    refine ⟨.int _, H, I.kept (t' := tk) fun b u e => hk b u (apart b u e) (Heap.get?_push_of_some _ e), ⟨t, rfl⟩, q _ ?_ fun j hj => ?_⟩
    · exact getD_mem lt
    · obtain ⟨i, hi, e⟩ := List.mem_iff_getElem.mp hj
      have e2 : ks.getD i 0 = j := by rw [List.getD_eq_getElem?_getD, List.getElem?_eq_getElem hi, ← e] <;> rfl
      rw [← e2]
      exact b2 i (by omega)
end
end L2

namespace M
open PySem L2 G
/-! ### tuples of several kinds, told by a row of codes -/
section
variable {K : PySem.W.Frag} {α β γ δ ε ρ : Type} {S T : AS} {σ : St} {H : Hp} {ta tb te : TE} {a : Ty K α} {b' : Ty K β} {D : Ends} {u : TS} {b c : Addr}
class XA (t : TyA K α) : Prop where
  ext : ∀ {S H p vs x}, H p = none → t.rp S H vs x → t.rp (p :: S) H vs x
  sub : ∀ {S S' H vs x}, (∀ a ∈ S', a ∈ S) → t.rp S H vs x → t.rp S' H vs x
instance : XA (K := K) aNil := ⟨fun _ h => h, fun _ h => h⟩
instance {t : TyA K β} [XA t] : XA (aCons a t) := ⟨fun n ⟨v, r, e, h, h'⟩ => ⟨v, r, e, a.ext n h, XA.ext n h'⟩, fun n ⟨v, r, e, h, h'⟩ => ⟨v, r, e, a.sub n h, XA.sub n h'⟩⟩
def tTu (t : TyA K α) [XA t] : Ty K α where
  rp S H v x := ∃ a vs, v = .ref a ∧ nT K S H a vs ∧ t.rp S H vs x
  mono f := fun ⟨a, vs, e, h, h1⟩ => ⟨a, vs, e, h.mono f, t.mono f h1⟩
  ext f := fun ⟨a, vs, e, h, h1⟩ => ⟨a, vs, e, h.ext f, XA.ext f h1⟩
  sub f := fun ⟨a, vs, e, h, h1⟩ => ⟨a, vs, e, h.sub f, XA.sub f h1⟩
instance {t : TyA K α} [XA t] : NN (tTu t) := ⟨fun ⟨p, u, e, _⟩ => by rw [e]; intro z; cases z⟩
/-- how many -/
class LA (t : TyA K α) (n : outParam Nat) : Prop where
  len : ∀ {S H vs x}, t.rp S H vs x → vs.length = n
instance : LA (K := K) aNil 0 := ⟨fun h => by rw [show _ = _ from h]; rfl⟩
instance {t : TyA K β} {n : Nat} [LA t n] : LA (aCons a t) (n + 1) := ⟨fun ⟨v, r, e, h, h'⟩ => by rw [e, List.length_cons, LA.len h']⟩
theorem ev_tu {tr : TA} {t : TyA K α} [XA t] {n : Nat} [LA t n] {r : Option α} (hn : n ≤ 1000) (h : EvA S T tr σ H t r) : Ev S T (tTup tr) σ H (of (tTu t) S) r := fun x e H1 f d Q q =>
  h x e H1 f d _ fun vs H2 s hv => ⟨by rw [LA.len hv]; exact Nat.le_trans hn (by decide), fun p hp => q _ _ (s.trans (same_new hp)) ⟨p, vs, rfl, .inl ⟨.inl upd_same, (d.same s).not_mem hp⟩, t.mono (Fr.same (same_new hp)) hv⟩⟩
theorem ew_tu {tr : TA} {t : TyA K α} [XA t] {n : Nat} [LA t n] {w : Wp α} (hn : n ≤ 1000) (h : EvWA b c S tr σ H t w) : EvW b c S (tTup tr) σ H (of (tTu t) S) w := fun ts P hP H1 f d hB Q q =>
  h ts P hP H1 f d hB _ fun vs H2 x hx f2 d2 hB2 hv => ⟨by rw [LA.len hv]; exact Nat.le_trans hn (by decide), fun p hp => q _ _ x hx (f2.trans (Fr.same (same_new hp))) (d2.same (same_new hp)) (hB2.same (same_new hp)) ⟨p, vs, rfl, .inl ⟨.inl upd_same, d2.not_mem hp⟩, t.mono (Fr.same (same_new hp)) hv⟩⟩
/-- the k-th of them -/
def Nth (t : TyA K α) (k : Nat) (b' : Ty K β) (g : α → β) : Prop := ∀ S H vs x, t.rp S H vs x → ∃ v, vs[k]? = some v ∧ b'.rp S H v (g x)
theorem nth_here {t : TyA K β} : Nth (aCons a t) 0 a (fun x => x.1) := by
  rintro S H vs x ⟨v, r, rfl, h, _⟩
  exact ⟨v, rfl, h⟩
theorem nth_there {t : TyA K β} {c : Ty K γ} {k : Nat} {g : β → γ} (h : Nth t k c g) : Nth (aCons a t) (k + 1) c (fun x => g x.2) := by
  rintro S H vs x ⟨v, r, rfl, _, hr⟩
  obtain ⟨w, e, hw⟩ := h S H r x.2 hr
  exact ⟨w, by simpa using e, hw⟩
theorem ev_ixTu {t : TyA K α} [XA t] {k : Nat} {g : α → β} {r : Option α} (hn : Nth t k b' g) (h : Ev S T te σ H (of (tTu t) S) r) : Ev S T (tOp (rIxT K) te (tC (.int (k : Int)))) σ H (of b' S) (bd r fun x => some (g x)) := by
  intro z e H1 f1 d Q q
  obtain ⟨x, ex, e⟩ := bd_some e
  cases e
  refine h x ex H1 f1 d _ fun v H2 s ⟨p, vs, ev, hp, hv⟩ => ?_
  obtain ⟨w, hw, hr⟩ := hn S H2 vs x hv
  exact ⟨p, vs, (k : Int), w, ev, rfl, hp.sq, atI_nat hw, q w H2 s hr⟩
/-- the first n of them -/
def Tk (t : TyA K α) (n : Nat) (t' : TyA K β) (g : α → β) : Prop := ∀ S H vs x, t.rp S H vs x → n < vs.length ∧ t'.rp S H (vs.take n) (g x)
theorem tk_0 {t : TyA K β} : Tk (aCons a t) 0 (aNil (K := K)) (fun _ => ()) := by
  rintro S H vs x ⟨v, r, rfl, h, _⟩
  exact ⟨by simp, rfl⟩
theorem tk_s {t : TyA K β} {t' : TyA K γ} {n : Nat} {g : β → γ} (h : Tk t n t' g) : Tk (aCons a t) (n + 1) (aCons a t') (fun x => (x.1, g x.2)) := by
  rintro S H vs x ⟨v, r, rfl, h1, hr⟩
  obtain ⟨l, hw⟩ := h S H r x.2 hr
  exact ⟨by simp; omega, v, _, rfl, h1, hw⟩
theorem cutV_take {vs : List V} {n : Nat} (h : n < vs.length) : cutV vs none (some (n : Int)) = vs.take n := by
  unfold cutV
  rw [HT.sIx_none, HT.sIx_nat, List.drop_zero, Nat.sub_zero, Nat.min_eq_left (by omega)]
theorem ev_slTu {t : TyA K α} [XA t] {t' : TyA K β} [XA t'] {n : Nat} {g : α → β} {r : Option α} (hn : Tk t n t' g) (h : Ev S T te σ H (of (tTu t) S) r) : Ev S T (tSl (rSlT K) te tNoPart (tPart (tC (.int (n : Int))))) σ H (of (tTu t') S) (bd r fun x => some (g x)) := by
  intro z e H1 f1 d Q q
  obtain ⟨x, ex, e⟩ := bd_some e
  cases e
  refine h x ex H1 f1 d _ fun v H2 s ⟨p, vs, ev, hp, hv⟩ => ?_
  obtain ⟨hl, hv'⟩ := hn S H2 vs x hv
  subst ev
  refine ⟨(n : Int), rfl, p, vs, rfl, hp.sq, fun z => ?_, fun p' hp' => q _ _ (s.trans (same_new hp')) ⟨p', _, rfl, .inl ⟨.inl upd_same, (d.same s).not_mem hp'⟩, ?_⟩⟩
  · rw [HT.sIx_nat] at z
    have := z.2
    omega
  · rw [cutV_take hl]
    exact t'.mono (Fr.same (same_new hp')) hv'
/-- one row behind another -/
def Cc (t : TyA K α) (t' : TyA K β) (t2 : TyA K γ) (g : α → β → γ) : Prop := ∀ S H vs ws x y, t.rp S H vs x → t'.rp S H ws y → t2.rp S H (vs ++ ws) (g x y)
theorem cc_nil {t' : TyA K β} : Cc (aNil (K := K)) t' t' (fun _ y => y) := fun S H vs ws x y h h' => by
  rw [show vs = [] from h]
  exact h'
theorem cc_cons {t : TyA K β} {t' : TyA K γ} {t2 : TyA K δ} {g : β → γ → δ} (h : Cc t t' t2 g) : Cc (aCons a t) t' (aCons a t2) (fun x y => (x.1, g x.2 y)) := by
  rintro S H vs ws x y ⟨v, r, rfl, h1, hr⟩ h'
  exact ⟨v, _, rfl, h1, h S H r ws x.2 y hr h'⟩
theorem od_catTu {t : TyA K α} [XA t] {t' : TyA K β} [XA t'] {t2 : TyA K γ} [XA t2] {n m : Nat} [LA t (n + 1)] [LA t' (m + 1)] {g : α → β → γ} (hn : n + m ≤ 1000) (h : Cc t t' t2 g) : OpD (tTu t) (tTu t') S (of (tTu t2) S) (rCatT K) (fun x y => some (g x y)) := by
  rintro x y z e H1 v w d ⟨p, vs, rfl, hp, hv⟩ ⟨p', ws, rfl, hp', hw⟩ Q q
  cases e
  have l1 := LA.len hv
  have l2 := LA.len hw
  refine ⟨p, p', vs, ws, rfl, rfl, hp.sq, hp'.sq, fun z => (by rw [z] at l1; simp at l1), by rw [l1, l2]; exact Nat.le_trans (show n + 1 + (m + 1) ≤ 1002 by omega) (by decide), fun z => (by rw [z] at l2; simp at l2), fun _ r hr => q _ _ (same_new hr) ⟨r, _, rfl, .inl ⟨.inl upd_same, d.not_mem hr⟩, t2.mono (Fr.same (same_new hr)) (h S H1 vs ws x y hv hw)⟩⟩
/-- data of rows -/
structure TyAD (t : TyA K α) where
  dt : α → List PyData
  dep : Nat
  dp : ∀ {S H vs x}, t.rp S H vs x → DpAll K H vs (dt x)
  shp : ∀ {S H vs x}, t.rp S H vs x → PyData.canLayAll0 (dt x) = true
  hd : ∀ x, PyData.depthAll (dt x) ≤ dep
  eqv : ∀ x y, PyData.eqvAll (dt x) (dt y) = true ↔ x = y
def daNil : TyAD (K := K) aNil := ⟨fun _ => [], 0, fun h => by rw [show _ = _ from h]; exact .nil, fun _ => rfl, fun _ => Nat.zero_le _, fun x y => by simp [PyData.eqvAll]⟩
def daCons {a : Ty K α} {t : TyA K β} (d : TyD a) (e : TyAD t) : TyAD (aCons a t) := ⟨fun x => d.dt x.1 :: e.dt x.2, max d.dep e.dep, fun ⟨v, r, z, h1, h2⟩ => by subst z; exact .cons (d.dp h1) (e.dp h2),
  fun {S H vs x} ⟨v, r, z, h1, h2⟩ => by
    show (PyData.canLay0 (d.dt x.1) && PyData.canLayAll0 (e.dt x.2)) = true
    rw [d.shp h1, e.shp h2]
    rfl,
  fun x => by
    show max (PyData.depth (d.dt x.1)) (PyData.depthAll (e.dt x.2)) ≤ _
    have h1 := d.hd x.1
    have h2 := e.hd x.2
    omega,
  fun x y => by
    show (PyData.eqv (d.dt x.1) (d.dt y.1) && PyData.eqvAll (e.dt x.2) (e.dt y.2)) = true ↔ _
    rw [Bool.and_eq_true, d.eqv, e.eqv]
    exact ⟨fun h => Prod.ext h.1 h.2, fun h => by subst h; exact ⟨rfl, rfl⟩⟩⟩
def dTu {t : TyA K α} [XA t] (d : TyAD t) : TyD (tTu t) := ⟨fun x => .tuple (d.dt x), d.dep + 1, fun ⟨p, vs, e, hp, h⟩ => by subst e; exact .tup hp.sq (d.dp h), fun ⟨p, vs, e, hp, h⟩ => d.shp h, fun x => Nat.succ_le_succ (d.hd x), fun x y => d.eqv x y⟩
/-- None or another thing that is never None -/
def dOpt {a : Ty K α} (d : TyD a) (hn : ∀ x, PyData.eqv .none (d.dt x) = false ∧ PyData.eqv (d.dt x) .none = false) : TyD (tOpt a) := ⟨fun o => match o with | none => .none | some x => d.dt x, d.dep,
  fun {S H v x} h => by cases x with | none => rw [show v = _ from h]; exact .non | some x => exact d.dp h.2,
  fun {S H v x} h => by cases x with | none => rfl | some x => exact d.shp h.2,
  fun x => by cases x with | none => exact Nat.zero_le _ | some x => exact d.hd x,
  fun x y => by
    cases x with
    | none => cases y with
      | none => simp [PyData.eqv]
      | some y => simp [(hn y).1]
    | some x => cases y with
      | none => simp [(hn x).2]
      | some y => simp [d.eqv]⟩
theorem opt_tu {t : TyA K α} [XA t] (d : TyAD t) (x : α) : PyData.eqv .none ((dTu d).dt x) = false ∧ PyData.eqv ((dTu d).dt x) .none = false := by
  show PyData.eqv .none (.tuple _) = false ∧ PyData.eqv (.tuple _) .none = false
  constructor <;> simp [PyData.eqv]
theorem opt_t2 {a : Ty K α} {b' : Ty K β} (d : TyD a) (e : TyD b') (x : α × β) : PyData.eqv .none ((dT2 d e).dt x) = false ∧ PyData.eqv ((dT2 d e).dt x) .none = false := by
  show PyData.eqv .none (.tuple _) = false ∧ PyData.eqv (.tuple _) .none = false
  constructor <;> simp [PyData.eqv]
/-- drawn things that may be None -/
theorem ew_oN {w : Wp Unit} (h : EvW b c S te σ H (of (K := K) tNone S) w) : EvW b c S te σ H (of (tOpt a) S) (unW (fun _ => some none) w) := ew_as h fun x y e H1 v hv => by cases e; exact hv
theorem ew_oS [NN a] {w : Wp α} (h : EvW b c S te σ H (of a S) w) : EvW b c S te σ H (of (tOpt a) S) (unW (fun x => some (some x)) w) := ew_as h fun x y e H1 v hv => by cases e; exact ⟨NN.h hv, hv⟩
/-- a statement that is an expression -/
theorem l_drop {R : Rl α} {r : Option α} {x : α} (d : Dom S H) (h : Ev S T te σ H R r) (e : r = some x) (k : ∀ v H1, Same H H1 → R.r H H1 v x → D.nx σ H1) : tDrop te D σ H := h x e H (Fr.refl _) d _ k
theorem q_drop {R : Rl α} {r : Option α} {x : α} (d : Dom S H) (h : Ev S T te σ H R r) (e : r = some x) (k : ∀ v H1, Same H H1 → R.r H H1 v x → u D σ H1) : tSeq (tDrop te) u D σ H := h x e H (Fr.refl _) d _ k
/-- two names at once, both new things -/
theorem q_parS {i j : Nat} {Ra : Rl α} {ra : Option α} {x : α} (d : Dom S H) (ha : Ev S T ta σ H Ra ra) (ea : ra = some x) (k : ∀ v H1, Same H H1 → Ra.r H H1 v x → ∃ (β : Type) (S2 : AS) (Rb : Rl β) (rb : Option β) (y : β), Dom S2 H1 ∧ Ev S2 T tb σ H1 Rb rb ∧ rb = some y ∧ ∀ w H2, Same H1 H2 → Rb.r H1 H2 w y → u D ((σ.set i (some v)).set j (some w)) H2) :
    tSeq (tPar i j (tCons ta (tCons tb tNil))) u D σ H := ha x ea H (Fr.refl _) d _ fun v H1 s1 hv => by
  obtain ⟨β, S2, Rb, rb, y, d2, hb, eb, kk⟩ := k v H1 s1 hv
  exact hb y eb H1 (Fr.refl _) d2 _ fun w H2 s2 hw => ⟨v, w, rfl, kk w H2 s2 hw⟩
end
end M

namespace M
open PySem L2 G
section
variable {K : PySem.W.Frag} {α β γ δ ε ρ κ : Type} [KeyC κ] [DecidableEq κ] {S T : AS} {σ : St} {H : Hp} {ta tb te tc td ty tv : TE} {a : Ty K α} {b' : Ty K β} {D : Ends} {u : TS} {b c : Addr}
open KeyC
/-! ### == of dicts -/
def hitB [DecidableEq β] (ys : List (κ × β)) (p : κ × β) : Bool := match getK ys p.1 with
  | none => false
  | some z => decide (p.2 = z)
def dEq [DecidableEq β] (xs ys : List (κ × β)) : Bool := xs.length == ys.length && xs.all (hitB ys)
theorem hits_of [DecidableEq β] {S S' : AS} {H : Hp} (d : TyD b') (hd : d.dep ≤ 64) {ls : List (Key × V)} {ys : List (κ × β)} (hl : All2 (KvP b' S' H) ls ys) : ∀ {ks : List (Key × V)} {xs : List (κ × β)}, All2 (KvP b' S H) ks xs → HitsD K H ls ks (xs.all (hitB ys))
  | _, _, .nil => .nil
  | kv :: ks, x :: xs, .cons h r => by
    obtain ⟨k, v⟩ := kv
    have ih := hits_of d hd hl r
    have e1 : k = kk x.1 := h.1
    subst e1
    rcases val_get (k := x.1) hl with ⟨g1, g2⟩ | ⟨z, w, g1, g2, g3⟩
    · rw [show ((x :: xs).all (hitB ys)) = false by simp [hitB, g1]]
      exact .miss g2
    · rw [show ((x :: xs).all (hitB ys)) = (PyData.eqv (d.dt x.2) (d.dt z) && xs.all (hitB ys)) by rw [List.all_cons, d.dec]; simp [hitB, g1]]
      exact .hit g2 (d.dp h.2.2) (d.dp g3) (d.shaped hd h.2.2) (d.shaped hd g3) ih
theorem od_eqDict [DecidableEq β] (d : TyD b') (hd : d.dep ≤ 64) : OpD (tD κ b') (tD κ b') S (of (K := K) tBool S) (rEqDD K) (fun x y => some (dEq x y)) := by
  rintro x y z e H1 v w dm ⟨p, ks, rfl, hp, ha, hn⟩ ⟨p', ls, rfl, hp', ha', hn'⟩ Q q
  cases e
  refine ⟨p, p', ks, ls, _, rfl, rfl, .inl hp.1, .inl hp'.1, hits_of d hd ha' ha, q _ H1 (Same.refl _) ?_⟩
  rw [ha.len, ha'.len]
  rfl
theorem od_neDict [DecidableEq β] (d : TyD b') (hd : d.dep ≤ 64) : OpD (tD κ b') (tD κ b') S (of (K := K) tBool S) (rNeDD K) (fun x y => some (!dEq x y)) := by
  rintro x y z e H1 v w dm ⟨p, ks, rfl, hp, ha, hn⟩ ⟨p', ls, rfl, hp', ha', hn'⟩ Q q
  cases e
  refine ⟨p, p', ks, ls, _, rfl, rfl, .inl hp.1, .inl hp'.1, hits_of d hd ha' ha, q _ H1 (Same.refl _) ?_⟩
  rw [ha.len, ha'.len]
  rfl
/-! ### dict([(k, v), ..]) -/
def mergeL (acc : List (κ × β)) : List (κ × β) → List (κ × β)
  | [] => acc
  | p :: r => mergeL (putL acc p.1 p.2) r
end
section
variable {K : PySem.W.Frag} {β : Type} {S T : AS} {σ : St} {H : Hp} {te : TE} {b' : Ty K β}
/-! ### sorted(d), max(d): keys that are numbers -/
theorem keys_I {S : AS} {H : Hp} : ∀ {kvs : List (Key × V)} {xs : List (Int × β)}, All2 (KvP b' S H) kvs xs → kvs.map (·.1) = (xs.map Prod.fst).map Sum.inl
  | _, _, .nil => rfl
  | kv :: kvs, x :: xs, .cons h r => by rw [List.map_cons, List.map_cons, List.map_cons, keys_I r, h.1]; rfl
def leI (a b : Int) : Bool := decide (a ≤ b)
def sortI (l : List Int) : List Int := l.mergeSort leI
theorem sortI_pw (l : List Int) : (sortI l).Pairwise (· ≤ ·) := by
  have := List.pairwise_mergeSort (le := leI) (fun a b c h1 h2 => by simp [leI] at *; omega) (fun a b => by simp [leI]; omega) l
  exact this.imp fun h => by simpa [leI] using h
theorem sortI_perm (l : List Int) : (sortI l).Perm l := List.mergeSort_perm ..
theorem sortI_eq {ys l : List Int} (hp : ys.Perm l) (hs : ys.Pairwise (· ≤ ·)) : ys = sortI l :=
  (hp.trans (sortI_perm l).symm).eq_of_pairwise (fun _ _ _ _ h1 h2 => Int.le_antisymm h1 h2) hs (sortI_pw l)
def ksI? (xs : List (Int × β)) : Option (List Int) := if xs.length < 64 then some (sortI (xs.map Prod.fst)) else none
def rSrtDI : List V → Hp → VK → Prop := fun xs H Q => ∃ (a : Addr) (kvs : List (Key × V)) (ks : List Int), xs = [.ref a] ∧ Rd H a (.dK kvs) ∧ kvs.map (·.1) = ks.map Sum.inl ∧ ks.length < 64 ∧
    ∀ (ys : List Int) (p : Addr), ys.Perm ks → ys.Pairwise (· ≤ ·) → H p = none → Q (.ref p) (upd H p (.lst (ys.map V.int)))
theorem cr_srtDI {X : Cx} (hc : X.calm = true) : CallR X (.builtin "sorted") rSrtDI := call_sortedDI hc
theorem all_ints {S : AS} {H : Hp} : ∀ {ys : List Int}, All2 ((tInt (K := K)).rp S H) (ys.map V.int) ys
  | [] => .nil
  | y :: ys => .cons rfl all_ints
theorem srtI_core {p : Addr} {kvs : List (Key × V)} {xs : List (Int × β)} {ys : List Int} {Q : VK} (hp : Rd H p (.dK kvs)) (ha : All2 (KvP b' S H) kvs xs) (d : Dom S H) (e : ksI? xs = some ys) (q : ∀ v H2, Same H H2 → nwL (tInt (K := K)) S H H2 v ys → Q v H2) : rSrtDI [.ref p] H Q := by
  unfold ksI? at e
  split at e
  · rename_i hl
    cases e
    refine ⟨p, kvs, xs.map Prod.fst, rfl, hp, keys_I ha, by rw [List.length_map]; exact hl, fun ys a hy hs na => ?_⟩
    rw [sortI_eq hy hs]
    exact q _ _ (same_new na) ⟨a, rfl, na, _, upd_same, all_ints⟩
  · cases e
theorem ev_srtDI {r : Option (List (Int × β))} (h : Ev S T te σ H (of (tD Int b') S) r) : Ev S T (tCB rSrtDI (tCons te tNil)) σ H (nw (tInt (K := K)) S) (bd r ksI?) := by
  intro z e H1 f1 d Q q
  obtain ⟨xs, ex, e⟩ := bd_some e
  refine h xs ex H1 f1 d _ fun v H2 s ⟨p, kvs, ev, hp, ha, hn⟩ => ?_
  subst ev
  exact srtI_core (.inl hp.1) ha (d.same s) e fun v H3 s3 ⟨p, e1, e2, e3⟩ => q v H3 (s.trans s3) ⟨p, e1, s.free e2, e3⟩
theorem ev_ownSrtDI {p : Addr} {xs : List (Int × β)} {i : Nat} (o : OwnD b' S H p xs) (nt : p ∉ T) (ts : Sub T S) (hi : σ[i]? = some (some (.ref p))) : Ev S T (tCB rSrtDI (tCons (tVar i) tNil)) σ H (nw (tInt (K := K)) S) (ksI? xs) := by
  intro z e H1 f1 d Q q
  refine ⟨_, hi, ?_⟩
  obtain ⟨kvs, hv, ha, hn⟩ := o.fr f1 ts nt
  exact srtI_core (.inl hv) ha d e q
def maxK? (xs : List (Int × β)) : Option Int := (xs.map Prod.fst).max?
theorem ev_ownMaxD {p : Addr} {xs : List (Int × β)} {i : Nat} (o : OwnD b' S H p xs) (nt : p ∉ T) (ts : Sub T S) (hi : σ[i]? = some (some (.ref p))) : Ev S T (tCB rMaxDI (tCons (tVar i) tNil)) σ H (of (K := K) tInt S) (maxK? xs) := by
  intro z e H1 f1 d Q q
  refine ⟨_, hi, ?_⟩
  obtain ⟨kvs, hv, ha, hn⟩ := o.fr f1 ts nt
  unfold maxK? at e
  obtain ⟨m1, m2⟩ := List.max?_eq_some_iff.mp e
  refine ⟨p, kvs, _, rfl, .inl hv, keys_I ha, fun z => (by rw [z] at m1; simp at m1), fun m hm hj => ?_⟩
  have : m = z := Int.le_antisymm (m2 m hm) (hj z m1)
  subst this
  exact q _ H1 (Same.refl _) rfl
end
section
variable {K : PySem.W.Frag} {α β γ δ ε ρ κ : Type} [KeyC κ] [DecidableEq κ] {S T : AS} {σ : St} {H : Hp} {ta tb te tc td ty tv : TE} {a : Ty K α} {b' : Ty K β} {D : Ends} {u : TS} {b c : Addr}
open KeyC
def rDictP (K : PySem.W.Frag) : List V → Hp → VK → Prop := fun xs H Q => ∃ (a : Addr) (ps : List Addr) (kvs : List (Key × V)), xs = [.ref a] ∧ SqL K H a (ps.map V.ref) ∧ Paired (fun p kv => SqT K H p [kV kv.1, kv.2]) ps kvs ∧ ∀ p, H p = none → Q (.ref p) (upd H p (.dK (mergeK [] kvs)))
theorem cr_dictP {X : Cx} (hc : X.calm = true) : CallR X (.type "dict") (rDictP X.K) := call_dictP hc
theorem pairs_of {ck : Ty K κ} [KeyT ck] {S : AS} {H : Hp} : ∀ {vs : List V} {xs : List (κ × β)}, All2 ((tT2 ck b').rp S H) vs xs → ∃ (ps : List Addr) (kvs : List (Key × V)), vs = ps.map V.ref ∧ Paired (fun p (kv : Key × V) => SqT K H p [kV kv.1, kv.2]) ps kvs ∧ All2 (KvP b' S H) kvs xs
  | _, _, .nil => ⟨[], [], rfl, .nil, .nil⟩
  | v :: vs, x :: xs, .cons h r => by
    obtain ⟨p, u, w, rfl, hp, h1, h2⟩ := h
    obtain ⟨ps, kvs, rfl, h3, h4⟩ := pairs_of r
    obtain ⟨rfl, hok⟩ := KeyT.to h1
    exact ⟨p :: ps, (kk x.1, w) :: kvs, rfl, .cons hp.sq h3, .cons ⟨rfl, hok, h2⟩ h4⟩
theorem merge_all {S : AS} {H : Hp} : ∀ {kvs : List (Key × V)} {xs : List (κ × β)}, All2 (KvP b' S H) kvs xs → ∀ {ac : List (Key × V)} {acc : List (κ × β)}, All2 (KvP b' S H) ac acc → (acc.map Prod.fst).Nodup → All2 (KvP b' S H) (mergeK ac kvs) (mergeL acc xs) ∧ ((mergeL acc xs).map Prod.fst).Nodup
  | _, _, .nil, ac, acc, h, n => ⟨h, n⟩
  | kv :: kvs, x :: xs, .cons h r, ac, acc, h', n => by
    have e : mergeK ac (kv :: kvs) = mergeK (putK ac kv.1 kv.2) kvs := rfl
    rw [e, h.1]
    exact merge_all r (put_all h.2.1 h.2.2 h') (put_nd n)
theorem ev_dictP {ck : Ty K κ} [KeyT ck] {r : Option (List (κ × β))} (h : Ev S T te σ H (of (tL (tT2 ck b')) S) r) : Ev S T (tCB (rDictP K) (tCons te tNil)) σ H (nwd (κ := κ) b' S) (bd r fun x => some (mergeL [] x)) := by
  intro z e H1 f1 d Q q
  obtain ⟨xs, ex, e⟩ := bd_some e
  cases e
  refine h xs ex H1 f1 d _ fun v H2 s ⟨p, vs, ev, hp, ha⟩ => ?_
  subst ev
  obtain ⟨ps, kvs, rfl, h3, h4⟩ := pairs_of ha
  obtain ⟨m1, m2⟩ := merge_all h4 (ac := []) (acc := []) .nil (by simp)
  refine ⟨p, ps, kvs, rfl, hp.sq, h3, fun p' hp' => q _ _ (s.trans (same_new hp')) ⟨p', rfl, s.free hp', _, upd_same, m1.imp fun _ _ h => KvP.mono (Fr.same (same_new hp')) (KvP.ext hp' h), m2⟩⟩
/-! ### d.pop(k), a statement -/
def popL? (xs : List (κ × β)) (k : κ) : Option (List (κ × β)) := if (getK xs k).isSome then some (xs.filter fun p => !decide (p.1 = k)) else none
theorem drop_all {S : AS} {H : Hp} {k : κ} : ∀ {kvs : List (Key × V)} {xs : List (κ × β)}, All2 (KvP b' S H) kvs xs → All2 (KvP b' S H) (dropK kvs (kk k)) (xs.filter fun p => !decide (p.1 = k))
  | _, _, .nil => .nil
  | kv :: kvs, x :: xs, .cons h r => by
    have ih := drop_all (k := k) r
    unfold dropK at ih ⊢
    by_cases e : x.1 = k
    · have e' : kv.1 = kk k := by rw [h.1, e]
      rw [List.filter_cons, List.filter_cons, if_neg (by simp [e']), if_neg (by simp [e])]
      exact ih
    · have e' : ¬ kv.1 = kk k := fun z => e (inj (h.1.symm.trans z))
      rw [List.filter_cons, List.filter_cons, if_pos (by simp [e']), if_pos (by simp [e])]
      exact .cons h ih
theorem l_dpop {ck : Ty K κ} [KeyT ck] {p : Addr} {xs ys : List (κ × β)} {i : Nat} {rk : Option κ} {k : κ} (d : Dom S H) (o : OwnD b' S H p xs) (im : p ∈ S) (nt : p ∉ T) (ts : Sub T S) (hi : σ[i]? = some (some (.ref p))) (hk : Ev S T ty σ H (of ck S) rk) (ek : rk = some k) (f : popL? xs k = some ys)
    (q : ∀ H1, Mut1 p H H1 → Fr S H H1 → OwnD b' S H1 p ys → D.nx σ H1) : tDrop (tDPop1 (tVar i) ty) D σ H := by
  obtain ⟨kvs, hv, ha, hn⟩ := o
  unfold popL? at f
  split at f
  · rename_i hs
    cases f
    refine ⟨_, hi, p, rfl, .inl ⟨kvs, .inl hv⟩, hk k ek H (Fr.refl _) d _ fun w H1 s1 hw => ?_⟩
    obtain ⟨rfl, hok⟩ := KeyT.to hw
    have ha1 := ha.imp fun _ _ => KvP.mono (Fr.same s1)
    rcases val_get (k := k) ha1 with ⟨g1, _⟩ | ⟨x, v, g1, g2, g3⟩
    · rw [g1] at hs; cases hs
    · have f1 : Fr S H1 (upd H1 p (.dK (dropK kvs (kk k)))) := fr_upd im
      refine ⟨kvs, kk k, v, s1 _ _ hv, rfl, g2, ?_⟩
      refine q _ ⟨fun b ob e n => by rw [upd_ne n]; exact s1 _ _ e, by rw [upd_same]; intro z; cases z⟩ ((Fr.same s1).trans f1) ⟨_, upd_same, (drop_all ha1).imp fun _ _ => KvP.mono f1, ?_⟩
      exact hn.sublist ((List.filter_sublist (l := xs)).map Prod.fst)
  · cases f
theorem q_dpop {ck : Ty K κ} [KeyT ck] {p : Addr} {xs ys : List (κ × β)} {i : Nat} {rk : Option κ} {k : κ} (d : Dom S H) (o : OwnD b' S H p xs) (im : p ∈ S) (nt : p ∉ T) (ts : Sub T S) (hi : σ[i]? = some (some (.ref p))) (hk : Ev S T ty σ H (of ck S) rk) (ek : rk = some k) (f : popL? xs k = some ys)
    (q : ∀ H1, Mut1 p H H1 → Fr S H H1 → OwnD b' S H1 p ys → u D σ H1) : tSeq (tDrop (tDPop1 (tVar i) ty)) u D σ H := l_dpop (D := { D with nx := u D }) d o im nt ts hi hk ek f q
end
end M

namespace M
open PySem L2 G
theorem tyD' {K : PySem.W.Frag} {H : Hp} {a : Addr} {xs : List (Key × V)} (h : Rd H a (.dK xs)) : TyX K H (.ref a) (.type "dict") := by
  rcases h with h | ⟨o, h⟩
  · exact .base (.dK h)
  · exact .fDict h
theorem tyL' {K : PySem.W.Frag} {H : Hp} {a : Addr} {xs : List V} (h : Rd H a (.lst xs)) : TyX K H (.ref a) (.type "list") := by
  rcases h with h | ⟨o, h⟩
  · exact .base (.lst h)
  · exact .base (.frz h)
section
variable {K : PySem.W.Frag} {α β γ δ ε ρ : Type} {S T : AS} {σ : St} {H : Hp} {ta tb te tv : TE} {a : Ty K α} {b' : Ty K β} {ft : FT K α} {D : Ends} {u : TS} {b c : Addr}
/-! ### own instances: repr, len, ==, != -/
theorem ev_strO {C : Addr} {r : Option α} {f : α × Unit → Option Str} {E : XK} (h : Ev S T te σ H (of (tO C ft) S) r) : Ev S T (tCB (rStrI C (spF (aCons (tO C ft) aNil) (fun S => of (K := K) tTx S) f) E) (tCons te tNil)) σ H (of (K := K) tTx S) (bd r fun x => f (x, ())) := by
  intro z e H1 f1 d Q q
  obtain ⟨x, ex, e⟩ := bd_some e
  refine h x ex H1 f1 d _ fun v H2 s ⟨p, dx, fs, ev, hp, n, hr⟩ => ⟨p, dx, fs, by rw [ev], hp, ?_⟩
  exact ⟨S, (x, ()), z, d.same s, ⟨.ref p, [], rfl, ⟨p, dx, fs, rfl, hp, n, hr⟩, rfl⟩, e, fun u H' s' hu => ⟨z, hu, q u H' (s.trans s') hu⟩⟩
def len? (i : Int) : Option Int := if 0 ≤ i ∧ i < 2 ^ 63 then some i else none
theorem ev_lenO {C : Addr} {r : Option α} {f : α × Unit → Option Int} {E : XK} (h : Ev S T te σ H (of (tO C ft) S) r) : Ev S T (tCB (rLenI C (spF (aCons (tO C ft) aNil) (fun S => of (K := K) tInt S) f) E) (tCons te tNil)) σ H (of (K := K) tInt S) (bd r fun x => bd (f (x, ())) len?) := by
  intro z e H1 f1 d Q q
  obtain ⟨x, ex, e⟩ := bd_some e
  obtain ⟨i, ei, e⟩ := bd_some e
  unfold len? at e
  split at e
  · rename_i hi
    cases e
    refine h x ex H1 f1 d _ fun v H2 s ⟨p, dx, fs, ev, hp, n, hr⟩ => ⟨p, dx, fs, by rw [ev], hp, ?_⟩
    exact ⟨S, (x, ()), z, d.same s, ⟨.ref p, [], rfl, ⟨p, dx, fs, rfl, hp, n, hr⟩, rfl⟩, ei, fun u H' s' hu => ⟨z, hu, hi.1, hi.2, q u H' (s.trans s') hu⟩⟩
  · cases e
theorem od_eqO {C : Addr} {f : α × α × Unit → Option Bool} {E : XK} : OpD (tO C ft) (tO C ft) S (of (K := K) tBool S) (rOwnI C (spF (aCons (tO C ft) (aCons (tO C ft) aNil)) (fun S => of (K := K) tBool S) f) E) (fun x y => f (x, y, ())) := by
  rintro x y z e H1 v w d ⟨p, dx, fs, rfl, hp, n, hr⟩ ⟨p', dx', fs', rfl, hp', n', hr'⟩ Q q
  exact ⟨p, dx, fs, rfl, hp, .inl ⟨p', dx', fs', rfl, hp'⟩, S, (x, y, ()), z, d, ⟨_, _, rfl, ⟨p, dx, fs, rfl, hp, n, hr⟩, _, [], rfl, ⟨p', dx', fs', rfl, hp', n', hr'⟩, rfl⟩, e, fun u H' s hu => q u H' s hu⟩
theorem od_neO {C : Addr} {f : α × α × Unit → Option Bool} {E : XK} : OpD (tO C ft) (tO C ft) S (of (K := K) tBool S) (rNeI C (spF (aCons (tO C ft) (aCons (tO C ft) aNil)) (fun S => of (K := K) tBool S) f) E) (fun x y => bd (f (x, y, ())) fun k => some (!k)) := by
  rintro x y z e H1 v w d ⟨p, dx, fs, rfl, hp, n, hr⟩ ⟨p', dx', fs', rfl, hp', n', hr'⟩ Q q
  obtain ⟨k, ek, e⟩ := bd_some e
  cases e
  exact ⟨p, dx, fs, p', dx', fs', rfl, hp, rfl, hp', S, (x, y, ()), k, d, ⟨_, _, rfl, ⟨p, dx, fs, rfl, hp, n, hr⟩, _, [], rfl, ⟨p', dx', fs', rfl, hp', n', hr'⟩, rfl⟩, ek, fun u H' s hu => ⟨k, hu, q _ H' s rfl⟩⟩
/-- what a code's values are, for Python -/
class YT (b' : Ty K β) (T : outParam String) : Prop where
  h : ∀ {S H v x}, b'.rp S H v x → YTy H v T
instance : YT (K := K) tInt "int" := ⟨fun h => .inr (.inr (.inl ⟨rfl, _, h⟩))⟩
instance : YT (K := K) tStr "str" := ⟨fun h => .inl ⟨rfl, _, h.1⟩⟩
instance : YT (K := K) tTx "str" := ⟨fun h => .inl ⟨rfl, _, h⟩⟩
instance : YT (tL b') "list" := ⟨fun ⟨p, vs, e, hp, _⟩ => .inr (.inr (.inr ⟨rfl, p, vs, e, .inl hp.1⟩))⟩
instance {κ : Type} [KeyC κ] [DecidableEq κ] : YT (tD κ b') "dict" := ⟨fun ⟨p, kvs, e, hp, _⟩ => .inr (.inl ⟨rfl, p, kvs, e, .inl hp.1⟩)⟩
instance {c1 : Ty K γ} {d1 : Ty K δ} : YT (tL3 b' c1 d1) "list" := ⟨fun ⟨p, u, w, y, e, hp, _⟩ => .inr (.inr (.inr ⟨rfl, p, _, e, .inl hp.1⟩))⟩
theorem od_eqOT {C : Addr} {t : String} [YT b' t] {f : α × β × Unit → Option Bool} {E : XK} : OpD (tO C ft) b' S (of (K := K) tBool S) (rOwnT C t (spF (aCons (tO C ft) (aCons b' aNil)) (fun S => of (K := K) tBool S) f) E) (fun x y => f (x, y, ())) := by
  rintro x y z e H1 v w d ⟨p, dx, fs, rfl, hp, n, hr⟩ hw Q q
  exact ⟨p, dx, fs, rfl, hp, YT.h hw, S, (x, y, ()), z, d, ⟨_, _, rfl, ⟨p, dx, fs, rfl, hp, n, hr⟩, _, [], rfl, hw, rfl⟩, e, fun u H' s hu => q u H' s hu⟩
theorem ev_isiOC {C C' : Addr} {r : Option α} {k : Bool} (hk : PySem.W.kitOne K (.ref C) (.ref C') = some k) (hc : ∀ H p dx fs, H p = some (.ins C dx fs) → TyX K H (.ref p) (.ref C)) (h : Ev S T te σ H (of (tO C ft) S) r) (hv : ClsV (V.ref C') (.ref C')) :
    Ev S T (tCB (rIsi K) (tCons te (tCons (tC (.ref C')) tNil))) σ H (of (K := K) tBool S) (bd r fun _ => some k) := by
  intro z e H1 f1 d Q q
  obtain ⟨x, ex, e⟩ := bd_some e
  cases e
  exact h x ex H1 f1 d _ fun v H2 s ⟨p, dx, fs, ev, hp, n, _⟩ => ⟨v, _, _, _, k, rfl, hv, by rw [ev]; exact hc H2 p dx _ hp, hk, q _ H2 s rfl⟩
theorem ev_isiTC {C : Addr} {r : Option β} {t : String} [YT b' t] (hk : PySem.W.kitOne K (.type t) (.ref C) = some false) (h : Ev S T te σ H (of b' S) r) : Ev S T (tCB (rIsi K) (tCons te (tCons (tC (.ref C)) tNil))) σ H (of (K := K) tBool S) (bd r fun _ => some false) := by
  intro z e H1 f1 d Q q
  obtain ⟨x, ex, e⟩ := bd_some e
  cases e
  refine h x ex H1 f1 d _ fun v H2 s hv => ⟨v, _, _, _, false, rfl, .own _, ?_, hk, q _ H2 s rfl⟩
  rcases YT.h hv with ⟨rfl, z, rfl⟩ | ⟨rfl, b, kvs, rfl, hb⟩ | ⟨rfl, i, rfl⟩ | ⟨rfl, b, xs, rfl, hb⟩
  · exact .base (.str z)
  · exact tyD' hb
  · exact .base (.int i)
  · exact tyL' hb
/-- x in [y]: two instances that are two -/
theorem ev_inO {C : Addr} {f : α × α × Unit → Option Bool} {E : XK} {i j : Nat} {v w : V} {x y : α} (ts : Sub T S) (hx : (tO C ft).rp S H v x) (hy : (tO C ft).rp S H w y) (hi : σ[i]? = some (some v)) (hj : σ[j]? = some (some w)) (ne : v ≠ w) :
    Ev S T (tOp (rInI C (spF (aCons (tO C ft) (aCons (tO C ft) aNil)) (fun S => of (K := K) tBool S) f) E) (tVar i) (tLst (tCons (tVar j) tNil))) σ H (of (K := K) tBool S) (f (y, x, ())) := by
  intro z e H1 f1 d Q q
  have hx := (tO C ft).mono (f1.sub ts) hx
  have hy := (tO C ft).mono (f1.sub ts) hy
  refine ⟨_, hi, _, hj, (by show 1 ≤ sizeLine; decide), fun p0 np => ?_⟩
  have s4 := same_new (o := .lst [w]) np
  obtain ⟨p, dx, fs, rfl, hp, n, hr⟩ := (tO C ft).mono (Fr.same s4) hx
  obtain ⟨p', dx', fs', rfl, hp', n', hr'⟩ := (tO C ft).mono (Fr.same s4) hy
  exact ⟨p, dx, fs, p0, p', dx', fs', rfl, hp, rfl, upd_same, hp', fun z => ne (by rw [z]), S, (y, x, ()), z, d.same s4, ⟨_, _, rfl, ⟨p', dx', fs', rfl, hp', n', hr'⟩, _, [], rfl, ⟨p, dx, fs, rfl, hp, n, hr⟩, rfl⟩, e, fun u H' s hu => ⟨z, hu, s, q _ H' (s4.trans s) rfl⟩⟩
/-! ### what stays when a dict is changed: data -/
class DK (a : Ty K α) : Prop where
  h : ∀ {S H p kvs o v x}, H p = some (.dK kvs) → a.rp S H v x → a.rp S (upd H p o) v x
theorem nT.dk {S : AS} {H : Hp} {p q : Addr} {kvs : List (Key × V)} {o : HO} {xs : List V} (hp : H p = some (.dK kvs)) (h : nT K S H q xs) : nT K S (upd H p o) q xs := by
  rcases h with ⟨h, n⟩ | h
  · refine .inl ⟨?_, n⟩
    rcases h with h | ⟨w, h⟩
    · exact .inl (by rw [upd_ne (fun z => by subst z; rw [hp] at h; cases h)]; exact h)
    · exact .inr ⟨w, by rw [upd_ne (fun z => by subst z; rw [hp] at h; cases h)]; exact h⟩
  · exact .inr h
instance : DK (K := K) tInt := ⟨fun _ h => h⟩
instance : DK (K := K) tBool := ⟨fun _ h => h⟩
instance : DK (K := K) tStr := ⟨fun _ h => h⟩
instance : DK (K := K) tNone := ⟨fun _ h => h⟩
instance : DK (K := K) tRat := ⟨fun hp ⟨q, e, h⟩ => ⟨q, e, h.dk hp⟩⟩
instance [DK a] : DK (tOpt a) := ⟨fun {S H p kvs o v x} hp h => by cases x with | none => exact h | some x => exact ⟨h.1, DK.h hp h.2⟩⟩
instance [DK a] [DK b'] : DK (tT2 a b') := ⟨fun hp ⟨q, u, w, e, h, h1, h2⟩ => ⟨q, u, w, e, h.dk hp, DK.h hp h1, DK.h hp h2⟩⟩
instance [DK a] : DK (tTs a) := ⟨fun hp ⟨q, vs, e, h, h1⟩ => ⟨q, vs, e, h.dk hp, h1.imp fun _ _ => DK.h hp⟩⟩
class DKA (t : TyA K α) : Prop where
  h : ∀ {S H p kvs o vs x}, H p = some (.dK kvs) → t.rp S H vs x → t.rp S (upd H p o) vs x
instance : DKA (K := K) aNil := ⟨fun _ h => h⟩
instance {t : TyA K β} [DK a] [DKA t] : DKA (aCons a t) := ⟨fun hp ⟨v, r, e, h, h'⟩ => ⟨v, r, e, DK.h hp h, DKA.h hp h'⟩⟩
instance {t : TyA K α} [XA t] [DKA t] : DK (tTu t) := ⟨fun hp ⟨q, vs, e, h, h1⟩ => ⟨q, vs, e, h.dk hp, DKA.h hp h1⟩⟩
/-! ### instances whose fields are new dicts -/
structure FR (K : PySem.W.Frag) (ft : FT K α) where
  r : AS → Hp → Hp → List (Str × V) → α → Prop
  back : ∀ {S T H0 H1 H2 fs x}, Fr T H0 H1 → Dom T H1 → r S H1 H2 fs x → r S H0 H2 fs x
  sub : ∀ {S S' H0 H fs x}, Sub S' S → r S H0 H fs x → r S' H0 H fs x
  rp : ∀ {S H0 H fs x}, Dom S H0 → r S H0 H fs x → ft.rp S H fs x
  mono : ∀ {S H0 H H' fs x}, (∀ q o, H0 q = none → H q = some o → H' q = some o) → Fr S H H' → r S H0 H fs x → r S H0 H' fs x
  keep : ∀ {S H0 H fs x p kvs o}, H0 p ≠ none → H p = some (.dK kvs) → r S H0 H fs x → r S H0 (upd H p o) fs x
def frNil : FR K (fNil (K := K)) := ⟨fun _ _ _ fs _ => fs = [], fun _ _ h => h, fun _ h => h, fun _ h => h, fun _ _ h => h, fun _ _ h => h⟩
theorem OwnD.dk {κ : Type} [KeyC κ] [DecidableEq κ] [DK b'] {S : AS} {H : Hp} {p q : Addr} {kvs : List (Key × V)} {o : HO} {xs : List (κ × β)} (hp : H p = some (.dK kvs)) (n : q ≠ p) (h : OwnD b' S H q xs) : OwnD b' S (upd H p o) q xs := by
  obtain ⟨ks, hk, ha, hn⟩ := h
  exact ⟨ks, by rw [upd_ne n]; exact hk, ha.imp fun _ _ ⟨h1, h2, h3⟩ => ⟨h1, h2, DK.h hp h3⟩, hn⟩
def frD (f : Str) {κ : Type} [KeyC κ] [DecidableEq κ] (b' : Ty K β) [DK b'] {ft : FT K γ} (r : FR K ft) : FR K (fCons f (tD κ b') ft) where
  r S H0 H fs x := ∃ q fs', fs = (f, .ref q) :: fs' ∧ H0 q = none ∧ OwnD b' (q :: S) H q x.1 ∧ r.r S H0 H fs' x.2
  back g d := fun ⟨q, fs', e, n, o, h⟩ => ⟨q, fs', e, fr_back g d n, o, r.back g d h⟩
  sub g := fun ⟨q, fs', e, n, o, h⟩ => ⟨q, fs', e, n, o.sub (sub_keep g), r.sub g h⟩
  rp d := fun ⟨q, fs', e, n, o, h⟩ => ⟨.ref q, fs', e, nwD.rp ⟨q, rfl, n, o⟩ d, r.rp d h⟩
  mono g f := fun ⟨q, fs', e, n, o, h⟩ => ⟨q, fs', e, n, by
    obtain ⟨ks, hk, ha, hn⟩ := o
    exact ⟨ks, g _ _ n hk, ha.imp fun _ _ => KvP.mono (f.sub fun _ m => List.mem_cons_of_mem _ m), hn⟩, r.mono g f h⟩
  keep hn hp := fun ⟨q, fs', e, n, o, h⟩ => ⟨q, fs', e, n, o.dk hp (fun z => hn (z ▸ n)), r.keep hn hp h⟩
def spInitN (C : Addr) (ar : TyA K β) {ft : FT K α} (fr : FR K ft) (m : β → Option α) : Sp := fun vs H Q _ => ∃ (S : AS) (p dx : Addr) (ws : List V) (x : β) (y : α), vs = .ref p :: ws ∧ H p = some (.ins C dx []) ∧ Dom (p :: S) H ∧ ar.rp (p :: S) H ws x ∧ m x = some y ∧
  ∀ H' fs, (∀ q o, H q = some o → q ≠ p → H' q = some o) → H' p = some (.ins C dx fs) → fr.r S H H' fs y → Q .non H'
/-- a new instance -/
def nwO (C : Addr) {ft : FT K α} (fr : FR K ft) (S : AS) (H0 H : Hp) (v : V) (x : α) : Prop := ∃ p dx fs, v = .ref p ∧ H0 p = none ∧ H p = some (.ins C dx fs) ∧ fr.r S H0 H fs x
def nwo (C : Addr) {ft : FT K α} (fr : FR K ft) (S : AS) : Rl α := ⟨nwO C fr S, fun f d ⟨p, dx, fs, e, n, h, hf⟩ => ⟨p, dx, fs, e, fr_back f d n, h, fr.back f d hf⟩⟩
theorem nwO.rp {C : Addr} {fr : FR K ft} {S : AS} {H0 H : Hp} {v : V} {x : α} (h : nwO C fr S H0 H v x) (d : Dom S H0) : (tO C ft).rp S H v x := by
  obtain ⟨p, dx, fs, e, n, h, hf⟩ := h
  exact ⟨p, dx, fs, e, h, d.not_mem n, fr.rp d hf⟩
theorem ev_newO {C : Addr} {fr : FR K ft} {r : Option α} (h : Ev S T te σ H (nwo C fr S) r) : Ev S T te σ H (of (tO C ft) S) r := by
  intro x ex H1 f d Q q
  exact h x ex H1 f d Q fun v H2 s hv => q v H2 s (nwO.rp hv d)
theorem ev_makeN {ta : TA} {C : Addr} {ar : TyA K β} {fr : FR K ft} {m : β → Option α} {r : Option β} {E : XK} [XA ar] (h : EvA S T ta σ H ar r) : Ev S T (tMake C (spInitN C ar fr m) [] E ta) σ H (nwo C fr S) (bd r m) := by
  intro z e H1 f1 d Q q
  obtain ⟨x, ex, e⟩ := bd_some e
  refine h x ex H1 f1 d _ fun vs H2 s2 hvs => fun p dx np ndx ne => ?_
  have sM : Same H2 (upd (upd H2 dx (.own p)) p (.ins C dx [])) := (same_upd ndx).trans (same_upd (by rw [upd_ne (Ne.symm ne)]; exact np))
  have d2 := d.same s2
  refine ⟨S, p, dx, vs, x, z, by simp, upd_same, ((d2.same sM).cons upd_same), ar.mono (Fr.same sM) (XA.ext np hvs), e, fun H' fs fr' hp hf => ⟨rfl, q _ H' (fun a o ea => fr' a o (sM _ _ (s2 _ _ ea)) (ne_of_none (s2 _ _ ea) np)) ⟨p, dx, fs, rfl, s2.free np, hp, fr.back (Fr.same (T := []) (s2.trans sM)) Dom.nil hf⟩⟩⟩
/-- self.f = e, e a new dict -/
theorem l_fldD {κ : Type} [KeyC κ] [DecidableEq κ] {p dx C : Addr} {fs : List (Str × V)} {i : Nat} {f : Str} {r : Option (List (κ × β))} {y : List (κ × β)} (d : Dom S H) (im : p ∈ S) (hp : H p = some (.ins C dx fs)) (hi : σ[i]? = some (some (.ref p))) (cl : Cls K C) (na : NoAttr K C f) (hl : fs.length < 1000) (h : Ev S [] tv σ H (nwd b' S) r) (e : r = some y)
    (q : ∀ H1 w, Fr S H H1 → (∀ q o, H q = some o → q ≠ p → H1 q = some o) → Dom S H1 → H1 p = some (.ins C dx (putF f (.ref w) fs)) → H w = none → w ≠ p → OwnD b' (w :: S) H1 w y → D.nx σ H1) : sFld K (tVar i) tv f D σ H := by
  refine h y e H (Fr.refl _) d _ fun v H1 s1 ⟨w, ev, nw, o⟩ => ⟨_, hi, p, C, dx, fs, rfl, s1 _ _ hp, cl, na, hl, ?_⟩
  subst ev
  have f1 : Fr S H1 (upd H1 p (.ins C dx (putF f (.ref w) fs))) := fr_upd im
  have nwp : w ≠ p := fun z => by subst z; rw [hp] at nw; cases nw
  refine q _ w ((Fr.same s1).trans f1) (fun q o eq n => by rw [upd_ne n]; exact s1 _ _ eq) (fun x hx ex => ?_) upd_same nw nwp ?_
  · by_cases c : x = p
    · subst c; rw [upd_same] at ex; cases ex
    · rw [upd_ne c] at ex; exact d.same s1 x hx ex
  · obtain ⟨ks, hk, ha, hn⟩ := o
    exact ⟨ks, by rw [upd_ne nwp]; exact hk, ha.imp fun _ _ => KvP.mono (f1.sub fun _ m => List.mem_cons_of_mem _ m), hn⟩
theorem q_fldD {κ : Type} [KeyC κ] [DecidableEq κ] {p dx C : Addr} {fs : List (Str × V)} {i : Nat} {f : Str} {r : Option (List (κ × β))} {y : List (κ × β)} (d : Dom S H) (im : p ∈ S) (hp : H p = some (.ins C dx fs)) (hi : σ[i]? = some (some (.ref p))) (cl : Cls K C) (na : NoAttr K C f) (hl : fs.length < 1000) (h : Ev S [] tv σ H (nwd b' S) r) (e : r = some y)
    (q : ∀ H1 w, Fr S H H1 → (∀ q o, H q = some o → q ≠ p → H1 q = some o) → Dom S H1 → H1 p = some (.ins C dx (putF f (.ref w) fs)) → H w = none → w ≠ p → OwnD b' (w :: S) H1 w y → u D σ H1) : tSeq (sFld K (tVar i) tv f) u D σ H := l_fldD (D := { D with nx := u D }) d im hp hi cl na hl h e q
end
end M

namespace M
open PySem L2 G
section
variable {K : PySem.W.Frag} {α β γ δ ε ρ : Type} {S T : AS} {σ : St} {H : Hp} {ta tb te tv : TE} {a : Ty K α} {b' : Ty K β} {c' : Ty K γ} {d' : Ty K δ} {e' : Ty K ε} {ft : FT K α} {D : Ends} {u : TS} {b c : Addr}
theorem q_unpTu2 {i j : Nat} {r : Option (α × β × Unit)} {x : α × β × Unit} (d : Dom S H) (h : Ev S T te σ H (of (tTu (aCons a (aCons b' aNil))) S) r) (e : r = some x) (k : ∀ v w H1, Same H H1 → a.rp S H1 v x.1 → b'.rp S H1 w x.2.1 → u D ((σ.set i (some v)).set j (some w)) H1) :
    tSeq (tAsg te (gTup K 2 (gCons (gName i) (gCons (gName j) gNil)))) u D σ H := h x e H (Fr.refl _) d _ fun v H1 s1 ⟨p, vs, ev, hp, u1, r1, e1, h1, u2, r2, e2, h2, e3⟩ => by
  subst e3; subst e2; subst e1
  exact ⟨p, _, ev, hp.sq, rfl, u1, _, rfl, u2, _, rfl, rfl, k u1 u2 H1 s1 h1 h2⟩
theorem q_unpTu5 {i j l m n : Nat} {r : Option (α × β × γ × δ × ε × Unit)} {x : α × β × γ × δ × ε × Unit} (d : Dom S H) (h : Ev S T te σ H (of (tTu (aCons a (aCons b' (aCons c' (aCons d' (aCons e' aNil)))))) S) r) (e : r = some x) (k : ∀ v1 v2 v3 v4 v5 H1, Same H H1 → a.rp S H1 v1 x.1 → b'.rp S H1 v2 x.2.1 → c'.rp S H1 v3 x.2.2.1 → d'.rp S H1 v4 x.2.2.2.1 → e'.rp S H1 v5 x.2.2.2.2.1 → u D (((((σ.set i (some v1)).set j (some v2)).set l (some v3)).set m (some v4)).set n (some v5)) H1) :
    tSeq (tAsg te (gTup K 5 (gCons (gName i) (gCons (gName j) (gCons (gName l) (gCons (gName m) (gCons (gName n) gNil))))))) u D σ H := h x e H (Fr.refl _) d _ fun v H1 s1 ⟨p, vs, ev, hp, u1, r1, e1, h1, u2, r2, e2, h2, u3, r3, e3, h3, u4, r4, e4, h4, u5, r5, e5, h5, e6⟩ => by
  subst e6; subst e5; subst e4; subst e3; subst e2; subst e1
  exact ⟨p, _, ev, hp.sq, rfl, u1, _, rfl, u2, _, rfl, u3, _, rfl, u4, _, rfl, u5, _, rfl, rfl, k u1 u2 u3 u4 u5 H1 s1 h1 h2 h3 h4 h5⟩
/-! ### what is new is spoilt: all else stays -/
theorem tyV_D {H : Hp} {p : Addr} {kvs : List (Key × V)} (h : H p = some (.dK kvs)) : tyV K "dict" (.ref p) H := .inr (.inr (.inl ⟨rfl, .inl ⟨_, h⟩⟩))
theorem q_clearN {κ : Type} [KeyC κ] [DecidableEq κ] {r : Option (List (κ × β))} {y : List (κ × β)} (d : Dom S H) (h : Ev S T te σ H (nwd b' S) r) (e : r = some y) (k : ∀ H1, Same H H1 → u D σ H1) : tSeq (tDrop (tBM0 K "dict" rDClear te)) u D σ H :=
  h y e H (Fr.refl _) d _ fun v H1 s1 ⟨p, ev, np, ks, hk, _⟩ => by
    subst ev
    exact ⟨tyV_D hk, p, ks, rfl, rfl, hk, k _ fun q o eq => by rw [upd_ne (ne_of_none eq np)]; exact s1 _ _ eq⟩
def rm? {α : Type} (y : List α) : Option Unit := if y.length < 100000 then some () else none
theorem rm_lt {α : Type} {y : List α} (h : rm? y = some ()) : y.length < 100000 := by
  unfold rm? at h
  split at h
  · assumption
  · cases h
theorem q_putN {κ : Type} [KeyC κ] [DecidableEq κ] {i : Nat} {n : Int} {r : Option (List (κ × β))} {y : List (κ × β)} (d : Dom S H) (h : Ev S T te σ H (nwd b' S) r) (e : r = some y) (el : rm? y = some ()) (hi : ∀ v, (σ.set i (some v))[i]? = some (some v)) (k : ∀ v H1, Same H H1 → u D (σ.set i (some v)) H1) : tSeq (tAsg te (gName i)) (tSeq (sDPut (tVar i) (tC (.int n)) (tC .non)) u) D σ H :=
  h y e H (Fr.refl _) d _ fun v H1 s1 ⟨p, ev, np, ks, hk, ha, _⟩ => by
    subst ev
    refine ⟨_, hi _, p, _, rfl, .inl ⟨ks, Sum.inl n, hk, rfl, Nat.lt_of_lt_of_le (by rw [ha.len]; exact rm_lt el) (by decide), rfl⟩, k _ _ fun q o eq => by rw [upd_ne (ne_of_none eq np)]; exact s1 _ _ eq⟩
abbrev rDictD : List V → Hp → VK → Prop := fun xs H Q => ∃ (a : Addr) (kvs : List (Key × V)), xs = [.ref a] ∧ Rd H a (.dK kvs) ∧ ∀ p, H p = none → Q (.ref p) (upd H p (.dK kvs))
/-- hs = [dict(x), dict(y)]; o = C(hs[0], hs[1]); hs[0]['q'] = None; hs[1].clear() -/
theorem q_handed2 {κ κ2 : Type} [KeyC κ] [DecidableEq κ] [KeyC κ2] [DecidableEq κ2] {b1 : Ty K β} {b2 : Ty K γ} {C : Addr} {fr : FR K ft} {m : List (κ × β) × List (κ2 × γ) × Unit → Option α} {E : XK} {i1 i2 ih is : Nat} {z : Str} {v1 v2 : V} {x1 : List (κ × β)} {x2 : List (κ2 × γ)} {y : α}
    (d : Dom S H) (h1 : (tD κ b1).rp S H v1 x1) (h2 : (tD κ2 b2).rp S H v2 x2) (e1 : σ[i1]? = some (some v1)) (e2 : σ[i2]? = some (some v2)) (hih : ∀ v, (σ.set ih (some v))[ih]? = some (some v)) (his : ∀ v w, ((σ.set ih (some v)).set is (some w))[ih]? = some (some v)) (em : m (x1, x2, ()) = some y) (el : rm? x1 = some ())
    (k : ∀ v w H1, Same H H1 → (tO C ft).rp S H1 w y → (∀ p, w = .ref p → H p = none) → u D ((σ.set ih (some v)).set is (some w)) H1) :
    tSeq (tAsg (tLst (tCons (tCB rDictD (tCons (tVar i1) tNil)) (tCons (tCB rDictD (tCons (tVar i2) tNil)) tNil))) (gName ih))
      (tSeq (tAsg (tMake C (spInitN C (aCons (tD κ b1) (aCons (tD κ2 b2) aNil)) fr m) [] E (tCons (tOp (rIxL K) (tVar ih) (tC (.int 0))) (tCons (tOp (rIxL K) (tVar ih) (tC (.int 1))) tNil))) (gName is))
        (tSeq (sDPut (tOp (rIxL K) (tVar ih) (tC (.int 0))) (tC (.str z)) (tC .non))
          (tSeq (tDrop (tBM0 K "dict" rDClear (tOp (rIxL K) (tVar ih) (tC (.int 1))))) u))) D σ H := by
  obtain ⟨a1, k1, rfl, hp1, ha1, hn1⟩ := h1
  obtain ⟨a2, k2, rfl, hp2, ha2, hn2⟩ := h2
  refine ⟨_, e1, a1, k1, rfl, .inl hp1.1, fun p np => ⟨_, e2, a2, k2, rfl, .inl (same_new np _ _ hp2.1), fun q nq => ⟨(by show 2 ≤ sizeLine; decide), fun l nl => ?_⟩⟩⟩
  have s1 : Same H (upd H p (.dK k1)) := same_new np
  have s2 : Same (upd H p (.dK k1)) (upd (upd H p (.dK k1)) q (.dK k2)) := same_new nq
  have s3 : Same (upd (upd H p (.dK k1)) q (.dK k2)) (upd (upd (upd H p (.dK k1)) q (.dK k2)) l (.lst [.ref p, .ref q])) := same_new nl
  have hpP := s3 _ _ (s2 _ _ (upd_same (H := H) (a := p) (o := .dK k1)))
  have hpQ := s3 _ _ (upd_same (H := upd H p (.dK k1)) (a := q) (o := .dK k2))
  have hpL := upd_same (H := upd (upd H p (.dK k1)) q (.dK k2)) (a := l) (o := .lst [.ref p, .ref q])
  have sA := (s1.trans s2).trans s3
  generalize upd (upd (upd H p (.dK k1)) q (.dK k2)) l (.lst [.ref p, .ref q]) = HA at hpP hpQ hpL sA
  have dA := d.same sA
  have nqp : q ≠ p := fun z => by subst z; rw [upd_same] at nq; cases nq
  have nq0 : H q = none := by rw [upd_ne nqp] at nq; exact nq
  have pS : p ∉ S := d.not_mem np
  have qS : q ∉ S := d.not_mem nq0
  have sq : SqL K HA l [.ref p, .ref q] := .inl (.inl hpL)
  refine ⟨_, hih _, l, _, 0, .ref p, rfl, rfl, sq, rfl, _, hih _, l, _, 1, .ref q, rfl, rfl, sq, rfl, fun o dx no ndx ne => ?_⟩
  have sM : Same HA (upd (upd HA dx (.own o)) o (.ins C dx [])) := (same_upd ndx).trans (same_upd (by rw [upd_ne (Ne.symm ne)]; exact no))
  have hx1 : (tD κ b1).rp (o :: S) HA (.ref p) x1 := (tD κ b1).ext no ⟨p, k1, rfl, ⟨hpP, pS⟩, ha1.imp fun _ _ => KvP.mono (Fr.same sA), hn1⟩
  have hx2 : (tD κ2 b2).rp (o :: S) HA (.ref q) x2 := (tD κ2 b2).ext no ⟨q, k2, rfl, ⟨hpQ, qS⟩, ha2.imp fun _ _ => KvP.mono (Fr.same sA), hn2⟩
  refine ⟨S, o, dx, _, (x1, x2, ()), y, rfl, upd_same, (dA.same sM).cons upd_same, ⟨_, _, rfl, (tD κ b1).mono (Fr.same sM) hx1, _, _, rfl, (tD κ2 b2).mono (Fr.same sM) hx2, rfl⟩, em, fun H' fs fr' ho hf => ⟨rfl, ?_⟩⟩
  have keep : ∀ q' o', HA q' = some o' → H' q' = some o' := fun q' o' e' => fr' _ _ (sM _ _ e') (ne_of_none e' no)
  have hf := fr.back (Fr.same (T := []) sM) Dom.nil hf
  have sq' : SqL K H' l [.ref p, .ref q] := .inl (.inl (keep _ _ hpL))
  have hP' := keep _ _ hpP
  have hQ' := keep _ _ hpQ
  refine ⟨_, his _ _, l, _, 0, .ref p, rfl, rfl, sq', rfl, p, _, rfl, .inl ⟨k1, Sum.inr z, hP', rfl, Nat.lt_of_lt_of_le (by rw [ha1.len]; exact rm_lt el) (by decide), rfl⟩, ?_⟩
  have nlp : l ≠ p := fun z => by subst z; rw [hpL] at hpP; cases hpP
  have nop : o ≠ p := fun z => by subst z; rw [hpP] at no; cases no
  have noq : o ≠ q := fun z => by subst z; rw [hpQ] at no; cases no
  have hQ2 : upd H' p (.dK (putK k1 (Sum.inr z) .non)) q = some (.dK k2) := by rw [upd_ne nqp]; exact hQ'
  refine ⟨_, his _ _, l, _, 1, .ref q, rfl, rfl, .inl (.inl (by rw [upd_ne nlp]; exact keep _ _ hpL)), rfl, tyV_D hQ2, q, k2, rfl, rfl, hQ2, ?_⟩
  have hf2 := fr.keep (o := .dK (putK k1 (Sum.inr z) .non)) (by rw [hpP]; intro w; cases w) hP' hf
  have hf3 := fr.keep (o := .dK []) (by rw [hpQ]; intro w; cases w) hQ2 hf2
  refine k _ _ _ (fun q' o' e' => ?_) ⟨o, dx, fs, rfl, ?_, dA.not_mem no, fr.rp dA hf3⟩ (fun p' e' => by cases e'; exact sA.free no)
  · have np' : q' ≠ p := ne_of_none e' np
    have nq' : q' ≠ q := ne_of_none e' nq0
    rw [upd_ne nq', upd_ne np']
    exact keep _ _ (sA _ _ e')
  · rw [upd_ne noq, upd_ne nop]
    exact ho
end
end M
namespace M
open PySem L2 G
section
variable {K : PySem.W.Frag} {β : Type} {b' : Ty K β}
/-- a thing that stands at p -/
def tRef (p : Addr) : Ty K Unit := ⟨fun _ _ v x => v = .ref p ∧ x = (), fun _ h => h, fun _ h => h, fun _ h => h⟩
theorem OwnD.kp {κ : Type} [KeyC κ] [DecidableEq κ] {S : AS} {H H' : Hp} {p q : Addr} {xs : List (κ × β)} (f : Fr S H H') (k : ∀ a o, H a = some o → a ≠ p → H' a = some o) (n : q ≠ p) (h : OwnD b' (q :: S) H q xs) : OwnD b' (q :: S) H' q xs := by
  obtain ⟨ks, hk, ha, hn⟩ := h
  exact ⟨ks, k _ _ hk n, ha.imp fun _ _ => KvP.mono (f.sub fun _ m => List.mem_cons_of_mem _ m), hn⟩
theorem nwD.sub {κ : Type} [KeyC κ] [DecidableEq κ] {S S' T : AS} {H0 H H1 : Hp} {v : V} {xs : List (κ × β)} (h : nwD b' S H H1 v xs) (hs : Sub S' S) (f : Fr T H0 H) (d : Dom T H) : nwD b' S' H0 H1 v xs := by
  obtain ⟨p, e, n, o⟩ := h
  exact ⟨p, e, fr_back f d n, o.sub (sub_keep hs)⟩
theorem q_parS2 {α : Type} {S T : AS} {σ : St} {H : Hp} {ta tb : TE} {D : Ends} {u : TS} {i j : Nat} {Ra : Rl α} {ra : Option α} {x : α} (d : Dom S H) (ha : Ev S T ta σ H Ra ra) (ea : ra = some x) (k : ∀ v H1, Same H H1 → Ra.r H H1 v x → ∃ (β : Type) (S2 : AS) (Rb : Rl β) (rb : Option β) (y : β), Dom S2 H1 ∧ Ev S2 T tb σ H1 Rb rb ∧ rb = some y ∧ ∀ w H2, Same H1 H2 → (∃ Hm, Same H1 Hm ∧ Rb.r H1 Hm w y ∧ Same Hm H2) → u D ((σ.set i (some v)).set j (some w)) H2) :
    tSeq (tAsg (tTup (tCons ta (tCons tb tNil))) (gTup K 2 (gCons (gName i) (gCons (gName j) gNil)))) u D σ H := ha x ea H (Fr.refl _) d _ fun v H1 s1 hv => by
  obtain ⟨β, S2, Rb, rb, y, d2, hb, eb, kk⟩ := k v H1 s1 hv
  exact hb y eb H1 (Fr.refl _) d2 _ fun w H2 s2 hw => ⟨(by show 2 ≤ sizeLine; decide), fun p hp => ⟨p, _, rfl, .inl (.inl upd_same), rfl, v, _, rfl, w, _, rfl, rfl, kk w _ (s2.trans (same_new hp)) ⟨H2, s2, hw, same_new hp⟩⟩⟩
theorem nwD.later {κ : Type} [KeyC κ] [DecidableEq κ] {S : AS} {H0 H1 : Hp} {v : V} {xs : List (κ × β)} (h : ∃ Hm, Same H0 Hm ∧ nwD b' S H0 Hm v xs ∧ Same Hm H1) : nwD b' S H0 H1 v xs := by
  obtain ⟨Hm, _, ⟨p, e, n, o⟩, s⟩ := h
  exact ⟨p, e, n, o.same s⟩
theorem nwO.ne {α : Type} {C C' : Addr} {γ : Type} {ft : FT K α} {fr : FR K ft} {ft' : FT K γ} {S S' : AS} {H0 H : Hp} {v w : V} {x : α} {y : γ} (h : nwO C fr S H0 H v x) (h' : (tO C' ft').rp S' H0 w y) : w ≠ v := by
  obtain ⟨p, dx, fs, rfl, n, _⟩ := h
  obtain ⟨p', dx', fs', rfl, hp', _⟩ := h'
  intro z
  cases z
  rw [hp'] at n
  cases n
theorem ew_newD {κ : Type} [KeyC κ] [DecidableEq κ] {b c : Addr} {S : AS} {σ : St} {H : Hp} {te : TE} {w : Wp (List (κ × β))} (h : EvW b c S te σ H (nwd b' S) w) : EvW b c S te σ H (of (tD κ b') S) w := fun ts P hP H1 f d hB Q q =>
  h ts P hP H1 f d hB Q fun v H2 x hx f2 d2 hB2 hv => q v H2 x hx f2 d2 hB2 (nwD.rp hv d)
theorem fresh_b {H0 H H1 : Hp} {p w : Addr} (f : Fr [] H0 H) (k : ∀ q o, H q = some o → q ≠ p → H1 q = some o) (n : H1 w = none) (np : w ≠ p) : H0 w = none := by
  cases e : H0 w with
  | none => rfl
  | some o =>
    have := k w o (f w o e (by simp)) np
    rw [this] at n
    cases n
end
end M

namespace M
open PySem L2 G
/-! ### the mathematics of dicts, any keys -/
section
variable {κ β : Type} [DecidableEq κ]
theorem dgetK_iff {k : κ} {v : β} : ∀ {xs : List (κ × β)}, (xs.map Prod.fst).Nodup → (getK xs k = some v ↔ (k, v) ∈ xs)
  | [], _ => by simp [getK]
  | x :: r, n => by
    rw [List.map_cons, List.nodup_cons] at n
    have ih := dgetK_iff (k := k) (v := v) n.2
    by_cases e : x.1 = k
    · have e1 : getK (x :: r) k = some x.2 := by simp [getK, List.find?_cons, e]
      rw [e1]
      constructor
      · intro h
        cases h
        subst e
        exact List.mem_cons_self ..
      · intro h
        rcases List.mem_cons.mp h with h | h
        · rw [← h]
        · exact absurd (List.mem_map.mpr ⟨_, h, rfl⟩) (e ▸ n.1)
    · have e1 : getK (x :: r) k = getK r k := by simp [getK, List.find?_cons, e]
      rw [e1, ih]
      constructor
      · exact List.mem_cons_of_mem _
      · intro h
        rcases List.mem_cons.mp h with h | h
        · exact absurd (by rw [← h]) e
        · exact h
theorem dget_none {r : List (κ × β)} {k : κ} : getK r k = none ↔ k ∉ r.map Prod.fst := by
  unfold getK
  rw [Option.map_eq_none_iff, List.find?_eq_none]
  constructor
  · intro h c
    obtain ⟨p, hp, e⟩ := List.mem_map.mp c
    exact h p hp (decide_eq_true e)
  · intro h p hp c
    exact h (List.mem_map.mpr ⟨p, hp, of_decide_eq_true c⟩)
theorem dget_mem {xs : List (κ × β)} {k : κ} {y : β} (h : getK xs k = some y) : (k, y) ∈ xs := by
  unfold getK at h
  obtain ⟨p, hp, e⟩ := Option.map_eq_some_iff.mp h
  have h1 : p.1 = k := of_decide_eq_true (List.find?_some (p := fun (p : κ × β) => decide (p.1 = k)) hp)
  have h2 := List.mem_of_find?_eq_some hp
  subst h1
  subst e
  exact h2
theorem dget_some {r : List (κ × β)} {k : κ} (h : k ∈ r.map Prod.fst) : ∃ y, getK r k = some y ∧ (k, y) ∈ r := by
  cases e : getK r k with
  | none => exact absurd h (dget_none.mp e)
  | some y => exact ⟨y, rfl, dget_mem e⟩
theorem dget_perm {xs ys : List (κ × β)} (h : xs.Perm ys) (n : (xs.map Prod.fst).Nodup) (k : κ) : getK xs k = getK ys k := by
  have n' : (ys.map Prod.fst).Nodup := (h.map Prod.fst).nodup_iff.mp n
  cases e : getK xs k with
  | some v => exact (((dgetK_iff n').mpr (h.mem_iff.mp ((dgetK_iff n).mp e)))).symm
  | none =>
    symm
    rw [dget_none] at e ⊢
    exact fun c => e ((h.map Prod.fst).mem_iff.mpr c)
theorem dput_new {acc : List (κ × β)} {k : κ} {y : β} (h : k ∉ acc.map Prod.fst) : putL acc k y = acc ++ [(k, y)] := by
  unfold putL
  rw [if_neg]
  intro c
  obtain ⟨p, hp, e⟩ := List.any_eq_true.mp c
  exact h (List.mem_map.mpr ⟨p, hp, of_decide_eq_true e⟩)
theorem dput_old {acc : List (κ × β)} {k : κ} {y : β} (h : k ∈ acc.map Prod.fst) : putL acc k y = acc.map fun p => if p.1 = k then (p.1, y) else p := by
  unfold putL
  rw [if_pos]
  obtain ⟨p, hp, e⟩ := List.mem_map.mp h
  exact List.any_eq_true.mpr ⟨p, hp, decide_eq_true e⟩
theorem dput_keys_old {acc : List (κ × β)} {k : κ} {y : β} (h : k ∈ acc.map Prod.fst) : (putL acc k y).map Prod.fst = acc.map Prod.fst := by
  rw [dput_old h, List.map_map]
  refine List.map_congr_left fun p _ => ?_
  simp only [Function.comp_apply]
  split <;> rfl
theorem dput_mem {xs : List (κ × β)} {k : κ} {x : β} {p : κ × β} (h : p ∈ putL xs k x) : p ∈ xs ∨ p = (k, x) := by
  unfold putL at h
  split at h
  · obtain ⟨q, hq, e⟩ := List.mem_map.mp h
    split at e
    · rename_i c; subst e; subst c; exact .inr rfl
    · subst e; exact .inl hq
  · rcases List.mem_append.mp h with h | h
    · exact .inl h
    · rw [List.mem_singleton.mp h]; exact .inr rfl
theorem dput_get {acc : List (κ × β)} {k j : κ} {y : β} : getK (putL acc k y) j = if j = k then some y else getK acc j := by
  by_cases h : k ∈ acc.map Prod.fst
  · have h0 := h
    rw [dput_old h]
    clear h
    have key : ∀ acc : List (κ × β), getK (acc.map fun p => if p.1 = k then (p.1, y) else p) j = if j = k then (getK acc j).map fun _ => y else getK acc j := by
      intro acc
      induction acc with
      | nil => simp [getK]
      | cons p r ih =>
        unfold getK at ih ⊢
        rw [List.map_cons, List.find?_cons, List.find?_cons]
        by_cases c : p.1 = k
        · by_cases d : k = j
          · simp [c, d]
          · have d' : ¬ j = k := fun z => d z.symm
            have d2 : ¬ p.1 = j := fun z => d (c ▸ z)
            simp only [c, if_true, d, decide_false, d', if_false] at ih ⊢
            rw [ih]
        · simp only [c, if_false]
          by_cases d : p.1 = j
          · have d' : ¬ j = k := fun z => c (d.trans z)
            simp [d, d']
          · simp only [d, decide_false]
            exact ih
    rw [key]
    split
    · rename_i h2
      subst h2
      obtain ⟨z, hz, _⟩ := dget_some h0
      rw [hz]
      rfl
    · rfl
  · rw [dput_new h]
    unfold getK
    rw [List.find?_append]
    by_cases c : j = k
    · subst c
      have : acc.find? (fun p => decide (p.1 = j)) = none := by
        rw [List.find?_eq_none]
        intro p hp c
        exact h (List.mem_map.mpr ⟨p, hp, of_decide_eq_true c⟩)
      simp [this]
    · have c' : ¬ k = j := fun z => c z.symm
      simp [c, c']
theorem put_eq? {xs : List (κ × β)} {k : κ} {x : β} (h : xs.length < 100000) : putL? xs k x = some (putL xs k x) := by
  unfold putL?
  rw [if_pos h]
theorem dc_new {f : κ → Option β} : ∀ (xs : List κ) (acc : List (κ × β)), xs.Nodup → (∀ x ∈ xs, x ∉ acc.map Prod.fst) → (∀ x ∈ xs, ∃ y, f x = some y) → ∃ r, dcO (fun n => some n) f acc xs = some (acc ++ r) ∧ r.map Prod.fst = xs ∧ ∀ p ∈ r, f p.1 = some p.2
  | [], acc, _, _, _ => ⟨[], by simp [dcO], rfl, fun p hp => by simp at hp⟩
  | x :: xs, acc, hn, ha, hf => by
    obtain ⟨y, hy⟩ := hf x List.mem_cons_self
    obtain ⟨n1, n2⟩ := List.nodup_cons.mp hn
    obtain ⟨r, e, h1, h2⟩ := dc_new xs (putL acc x y) n2 (fun z hz => by
      rw [dput_new (ha x List.mem_cons_self), List.map_append, List.mem_append]
      rintro (c | c)
      · exact ha z (List.mem_cons_of_mem _ hz) c
      · simp only [List.map_cons, List.map_nil, List.mem_singleton] at c
        subst c
        exact n1 hz) (fun z hz => hf z (List.mem_cons_of_mem _ hz))
    refine ⟨(x, y) :: r, ?_, by rw [List.map_cons, h1], fun p hp => ?_⟩
    · show (bd (some x) fun k => bd (f x) fun y => dcO _ f (putL acc k y) xs) = _
      rw [hy]
      show dcO _ f (putL acc x y) xs = _
      rw [e, dput_new (ha x List.mem_cons_self)]
      simp
    · rcases List.mem_cons.mp hp with rfl | hp
      · exact hy
      · exact h2 p hp
/-- two dicts with the same keys and the same values are the same, but for the order -/
theorem perm_of_get {xs ys : List (κ × β)} (n : (xs.map Prod.fst).Nodup) (n' : (ys.map Prod.fst).Nodup) (h : ∀ k, getK xs k = getK ys k) : xs.Perm ys := by
  have nd : ∀ {l : List (κ × β)}, (l.map Prod.fst).Nodup → l.Nodup := fun {l} hn => by
    induction l with
    | nil => exact List.nodup_nil
    | cons p r ih =>
      rw [List.map_cons, List.nodup_cons] at hn
      exact List.nodup_cons.mpr ⟨fun m => hn.1 (List.mem_map.mpr ⟨p, m, rfl⟩), ih hn.2⟩
  refine (List.perm_ext_iff_of_nodup (nd n) (nd n')).mpr fun p => ?_
  rw [show p = (p.1, p.2) from rfl, ← dgetK_iff n, ← dgetK_iff n', h]
/-- made anew over its keys in another order -/
theorem dc_anew {d : List (κ × β)} {xs : List κ} (hn : (d.map Prod.fst).Nodup) (hp : xs.Perm (d.map Prod.fst)) (hl : d.length < 100000) : ∃ d', dcL? (fun n => some n) (fun n => getK d n) xs = some d' ∧ d'.Perm d ∧ d'.map Prod.fst = xs := by
  have nx : xs.Nodup := hp.nodup_iff.mpr hn
  obtain ⟨r, e, h1, h2⟩ := dc_new (f := fun n => getK d n) xs [] nx (fun x _ => by simp) (fun x hx => by
    obtain ⟨y, hy, _⟩ := dget_some (hp.mem_iff.mp hx)
    exact ⟨y, hy⟩)
  refine ⟨r, ?_, perm_of_get (by rw [h1]; exact nx) hn fun k => ?_, h1⟩
  · unfold dcL?
    rw [if_pos (by rw [hp.length_eq, List.length_map]; exact hl), e]
    rfl
  · by_cases c : k ∈ d.map Prod.fst
    · obtain ⟨y, hy, hm⟩ := dget_some (r := r) (k := k) (by rw [h1]; exact hp.mem_iff.mpr c)
      rw [hy]
      exact (h2 _ hm).symm
    · rw [dget_none.mpr c, dget_none]
      rw [h1]
      exact fun z => c (hp.mem_iff.mp z)
theorem merge_new : ∀ (xs acc : List (κ × β)), (xs.map Prod.fst).Nodup → (∀ x ∈ xs, x.1 ∉ acc.map Prod.fst) → mergeL acc xs = acc ++ xs
  | [], acc, _, _ => by simp [mergeL]
  | x :: xs, acc, hn, ha => by
    rw [List.map_cons, List.nodup_cons] at hn
    show mergeL (putL acc x.1 x.2) xs = _
    rw [dput_new (ha x List.mem_cons_self), merge_new xs _ hn.2 fun z hz => ?_]
    · simp
    · rw [List.map_append, List.mem_append]
      rintro (c | c)
      · exact ha z (List.mem_cons_of_mem _ hz) c
      · simp only [List.map_cons, List.map_nil, List.mem_singleton] at c
        exact hn.1 (List.mem_map.mpr ⟨z, hz, c⟩)
theorem perm_of_sub {γ : Type} [DecidableEq γ] : ∀ {xs ys : List γ}, xs.Nodup → (∀ p ∈ xs, p ∈ ys) → ys.length ≤ xs.length → xs.Perm ys
  | [], ys, _, _, hl => by
    have : ys = [] := List.length_eq_zero_iff.mp (by simpa using hl)
    subst this
    exact .nil
  | x :: r, ys, hn, hs, hl => by
    obtain ⟨n1, n2⟩ := List.nodup_cons.mp hn
    have hx := hs x List.mem_cons_self
    have h1 := List.perm_cons_erase hx
    refine (List.Perm.cons x (perm_of_sub n2 (fun p hp => ?_) ?_)).trans h1.symm
    · exact (List.mem_erase_of_ne (fun z : p = x => n1 (by rw [← z]; exact hp))).mpr (hs p (List.mem_cons_of_mem _ hp))
    · have := h1.length_eq
      simp only [List.length_cons] at this hl
      omega
variable [DecidableEq β]
theorem dEq_iff {xs ys : List (κ × β)} (n : (xs.map Prod.fst).Nodup) (n' : (ys.map Prod.fst).Nodup) : dEq xs ys = true ↔ xs.Perm ys := by
  unfold dEq
  rw [Bool.and_eq_true, beq_iff_eq, List.all_eq_true]
  constructor
  · rintro ⟨hl, h⟩
    have sub : ∀ p ∈ xs, p ∈ ys := fun p hp => by
      have := h p hp
      unfold hitB at this
      cases e : getK ys p.1 with
      | none => rw [e] at this; cases this
      | some z =>
        rw [e] at this
        have e2 : p.2 = z := of_decide_eq_true this
        have := dget_mem e
        rw [← e2] at this
        exact this
    have ndx : xs.Nodup := by
      clear h sub hl n'
      induction xs with
      | nil => exact List.nodup_nil
      | cons p r ih =>
        rw [List.map_cons, List.nodup_cons] at n
        exact List.nodup_cons.mpr ⟨fun m => n.1 (List.mem_map.mpr ⟨p, m, rfl⟩), ih n.2⟩
    exact perm_of_sub ndx sub (by omega)
  · intro h
    refine ⟨h.length_eq, fun p hp => ?_⟩
    unfold hitB
    rw [(dgetK_iff n').mpr (show (p.1, p.2) ∈ ys from h.mem_iff.mp hp)]
    simp
theorem dEq_perm {xs xs' ys ys' : List (κ × β)} (n : (xs.map Prod.fst).Nodup) (n' : (ys.map Prod.fst).Nodup) (h : xs.Perm xs') (h' : ys.Perm ys') : dEq xs ys = dEq xs' ys' := by
  have m := (h.map Prod.fst).nodup_iff.mp n
  have m' := (h'.map Prod.fst).nodup_iff.mp n'
  rw [Bool.eq_iff_iff, dEq_iff n n', dEq_iff m m']
  exact ⟨fun p => h.symm.trans (p.trans h'), fun p => h.trans (p.trans h'.symm)⟩
theorem dEq_comm {xs ys : List (κ × β)} (n : (xs.map Prod.fst).Nodup) (n' : (ys.map Prod.fst).Nodup) : dEq xs ys = dEq ys xs := by
  rw [Bool.eq_iff_iff, dEq_iff n n', dEq_iff n' n]
  exact ⟨fun p => p.symm, fun p => p.symm⟩
end
end M

namespace M
open PySem L2 G
/-! ### while a dict is walked it is locked: what stays -/
def isDk : HO → Bool
  | .dK _ => true
  | .frz _ (.dK _) => true
  | _ => false
section
variable {K : PySem.W.Frag} {α β γ δ ε ρ : Type} {S T : AS} {σ : St} {H : Hp} {ta tb te tv : TE} {a : Ty K α} {b' : Ty K β} {c' : Ty K γ} {D : Ends} {u : TS} {b c : Addr}
class DL (a : Ty K α) : Prop where
  h : ∀ {S H p w o v x}, H p = some w → isDk w = true → a.rp S H v x → a.rp (p :: S) (upd H p o) v x
theorem rd_dl {H : Hp} {p q : Addr} {w o u : HO} (hp : H p = some w) (hw : isDk w = true) (hu : ∀ kvs, u ≠ .dK kvs) (h : Rd H q u) (hu2 : isDk u = false) : q ≠ p ∧ Rd (upd H p o) q u := by
  have ne : q ≠ p := fun z => by
    subst z
    rcases h with h | ⟨w', h⟩
    · rw [hp] at h; cases h; rw [hw] at hu2; cases hu2
    · rw [hp] at h
      cases h
      cases u with
      | dK kvs => exact hu kvs rfl
      | _ => simp [isDk] at hw
  refine ⟨ne, ?_⟩
  rcases h with h | ⟨w', h⟩
  · exact .inl (by rw [upd_ne ne]; exact h)
  · exact .inr ⟨w', by rw [upd_ne ne]; exact h⟩
theorem nT.dl {S : AS} {H : Hp} {p q : Addr} {w o : HO} {xs : List V} (hp : H p = some w) (hw : isDk w = true) (h : nT K S H q xs) : nT K (p :: S) (upd H p o) q xs := by
  rcases h with ⟨h, n⟩ | h
  · obtain ⟨ne, h⟩ := rd_dl (o := o) hp hw (fun _ z => by cases z) h rfl
    exact .inl ⟨h, fun m => by rcases List.mem_cons.mp m with e | m; exact ne e; exact n m⟩
  · exact .inr h
theorem nL.dl {S : AS} {H : Hp} {p q : Addr} {w o : HO} {xs : List V} (hp : H p = some w) (hw : isDk w = true) (h : nL K S H q xs) : nL K (p :: S) (upd H p o) q xs := by
  have ne : q ≠ p := fun z => by
    obtain ⟨h1, _⟩ := h
    subst z
    rw [hp] at h1
    cases h1
    cases hw
  exact ⟨by rw [upd_ne ne]; exact h.1, fun m => by rcases List.mem_cons.mp m with e | m; exact ne e; exact h.2 m⟩
instance : DL (K := K) tInt := ⟨fun _ _ h => h⟩
instance : DL (K := K) tBool := ⟨fun _ _ h => h⟩
instance : DL (K := K) tStr := ⟨fun _ _ h => h⟩
instance : DL (K := K) tTx := ⟨fun _ _ h => h⟩
instance : DL (K := K) tNone := ⟨fun _ _ h => h⟩
instance : DL (K := K) tRat := ⟨fun hp hw ⟨q, e, h⟩ => ⟨q, e, h.dl hp hw⟩⟩
instance [DL a] : DL (tOpt a) := ⟨fun {S H p w o v x} hp hw h => by cases x with | none => exact h | some x => exact ⟨h.1, DL.h hp hw h.2⟩⟩
instance [DL a] [DL b'] : DL (tT2 a b') := ⟨fun hp hw ⟨q, u, w, e, h, h1, h2⟩ => ⟨q, u, w, e, h.dl hp hw, DL.h hp hw h1, DL.h hp hw h2⟩⟩
instance [DL a] : DL (tTs a) := ⟨fun hp hw ⟨q, vs, e, h, h1⟩ => ⟨q, vs, e, h.dl hp hw, h1.imp fun _ _ => DL.h hp hw⟩⟩
instance [DL a] : DL (tL a) := ⟨fun hp hw ⟨q, vs, e, h, h1⟩ => ⟨q, vs, e, h.dl hp hw, h1.imp fun _ _ => DL.h hp hw⟩⟩
class DLA (t : TyA K α) : Prop where
  h : ∀ {S H p w o vs x}, H p = some w → isDk w = true → t.rp S H vs x → t.rp (p :: S) (upd H p o) vs x
instance : DLA (K := K) aNil := ⟨fun _ _ h => h⟩
instance {t : TyA K β} [DL a] [DLA t] : DLA (aCons a t) := ⟨fun hp hw ⟨v, r, e, h, h'⟩ => ⟨v, r, e, DL.h hp hw h, DLA.h hp hw h'⟩⟩
instance {t : TyA K α} [XA t] [DLA t] : DL (tTu t) := ⟨fun hp hw ⟨q, vs, e, h, h1⟩ => ⟨q, vs, e, h.dl hp hw, DLA.h hp hw h1⟩⟩
theorem DL.at [DL a] {S : AS} {H : Hp} {p : Addr} {w o : HO} {v : V} {x : α} (hp : H p = some w) (hw : isDk w = true) (h : a.rp S H v x) : a.rp S (upd H p o) v x := a.sub (fun _ m => List.mem_cons_of_mem _ m) (DL.h hp hw h)
theorem cons_swap {p q : Addr} {S : AS} : Sub (p :: q :: S) (q :: p :: S) := fun a m => by simp only [List.mem_cons] at m ⊢; grind
variable {κ : Type} [KeyC κ] [DecidableEq κ]
open KeyC
theorem KvP.dl [DL b'] {S : AS} {H : Hp} {p : Addr} {w o : HO} {kv : Key × V} {x : κ × β} (hp : H p = some w) (hw : isDk w = true) (h : KvP b' S H kv x) : KvP b' (p :: S) (upd H p o) kv x := ⟨h.1, h.2.1, DL.h hp hw h.2.2⟩
theorem OwnD.dl [DL b'] {S : AS} {H : Hp} {p q : Addr} {w o : HO} {xs : List (κ × β)} (hp : H p = some w) (hw : isDk w = true) (n : q ≠ p) (h : OwnD b' S H q xs) : OwnD b' (p :: S) (upd H p o) q xs := by
  obtain ⟨ks, hk, ha, hn⟩ := h
  exact ⟨ks, by rw [upd_ne n]; exact hk, ha.imp fun _ _ => KvP.dl hp hw, hn⟩
theorem Own.dl [DL a] {S : AS} {H : Hp} {p q : Addr} {w o : HO} {xs : List α} (hp : H p = some w) (hw : isDk w = true) (h : Own a S H q xs) : Own a (p :: S) (upd H p o) q xs := by
  obtain ⟨ks, hk, ha⟩ := h
  have n : q ≠ p := fun z => by subst z; rw [hp] at hk; cases hk; cases hw
  exact ⟨ks, by rw [upd_ne n]; exact hk, ha.imp fun _ _ => DL.h hp hw⟩
/-- a dict that is being walked -/
def LkD (b' : Ty K β) (S : AS) (H : Hp) (p : Addr) (od : Obj) (kvs : List (Key × V)) (xs : List (κ × β)) : Prop := H p = some (.frz od (.dK kvs)) ∧ All2 (KvP b' S H) kvs xs ∧ (xs.map Prod.fst).Nodup
section
variable {p q : Addr} {od : Obj} {kvs : List (Key × V)} {xs : List (κ × β)} {H' : Hp} {S' : AS}
theorem LkD.same (h : LkD b' S H p od kvs xs) (s : Same H H') : LkD b' S H' p od kvs xs := ⟨s _ _ h.1, h.2.1.imp fun _ _ => KvP.mono (Fr.same s), h.2.2⟩
theorem LkD.fr (h : LkD b' S H p od kvs xs) (f : Fr T H H') (ts : Sub T S) (n : p ∉ T) : LkD b' S H' p od kvs xs := ⟨f _ _ h.1 n, h.2.1.imp fun _ _ => KvP.mono (f.sub ts), h.2.2⟩
theorem LkD.ext (h : LkD b' S H p od kvs xs) (n : H q = none) : LkD b' (q :: S) H p od kvs xs := ⟨h.1, h.2.1.imp fun _ _ => KvP.ext n, h.2.2⟩
theorem LkD.ne (h : LkD b' S H p od kvs xs) (n : H q = none) : p ≠ q := ne_of_none h.1 n
theorem LkD.sub (h : LkD b' S H p od kvs xs) (hs : Sub S' S) : LkD b' S' H p od kvs xs := ⟨h.1, h.2.1.imp fun _ _ => KvP.sub hs, h.2.2⟩
theorem LkD.mut (h : LkD b' S H p od kvs xs) (f : Fr S H H') (m : Mut1 q H H') (n : p ≠ q) : LkD b' S H' p od kvs xs := ⟨m.k _ _ h.1 n, h.2.1.imp fun _ _ => KvP.mono f, h.2.2⟩
theorem ev_lkGet {ck : Ty K κ} [KeyT ck] {ty : TE} {i : Nat} {rk : Option κ} (o : LkD b' S H p od kvs xs) (nt : p ∉ T) (ts : Sub T S) (hi : σ[i]? = some (some (.ref p))) (hk : Ev S T ty σ H (of ck S) rk) :
    Ev S T (tDGet (tVar i) ty) σ H (of b' S) (bd rk fun k => getK xs k) := by
  intro z e H1 f1 d Q q
  obtain ⟨k, ek, e⟩ := bd_some e
  refine ⟨_, hi, hk k ek H1 f1 d _ fun w H2 s2 hw => ?_⟩
  obtain ⟨hv, ha, hn⟩ := (o.fr f1 ts nt).same s2
  obtain ⟨rfl, hok⟩ := KeyT.to hw
  rcases val_get (k := k) ha with ⟨g1, _⟩ | ⟨x, v, g1, g2, g3⟩
  · rw [g1] at e; cases e
  · rw [g1] at e
    cases e
    exact ⟨p, v, rfl, .inl ⟨kvs, kk k, .inr ⟨_, hv⟩, rfl, g2.symm⟩, q v H2 s2 g3⟩
theorem ev_lkIn {ck : Ty K κ} [KeyT ck] {ty : TE} {i : Nat} {rk : Option κ} (o : LkD b' S H p od kvs xs) (nt : p ∉ T) (ts : Sub T S) (hi : σ[i]? = some (some (.ref p))) (hk : Ev S T ty σ H (of ck S) rk) :
    Ev S T (tDIn ty (tVar i)) σ H (of (K := K) tBool S) (bd rk fun k => some (getK xs k).isSome) := by
  intro z e H1 f1 d Q q
  obtain ⟨k, ek, e⟩ := bd_some e
  cases e
  refine hk k ek H1 f1 d _ fun w H2 s2 hw => ⟨_, hi, ?_⟩
  obtain ⟨hv, ha, hn⟩ := (o.fr f1 ts nt).same s2
  obtain ⟨rfl, hok⟩ := KeyT.to hw
  refine ⟨p, _, rfl, .inl ⟨kvs, kk k, .inr ⟨_, hv⟩, rfl, rfl⟩, q _ H2 s2 ?_⟩
  rcases val_get (k := k) ha with ⟨g1, g2⟩ | ⟨x, v, g1, g2, g3⟩
  · rw [g1, g2]; rfl
  · rw [g1, g2]; rfl
theorem all2_key {H : Hp} {S : AS} {j : Nat} {k : κ} : ∀ {kvs : List (Key × V)} {xs : List (κ × β)}, All2 (KvP b' S H) kvs xs → ∀ {j : Nat} {x : κ × β}, xs[j]? = some x → ∃ kv, kvs[j]? = some kv ∧ KvP b' S H kv x := fun h j x e => h.get j e
/-- the keys of a locked dict -/
theorem sr_keysK {ck : Ty K κ} [KeyT ck] {i : Nat} (o : LkD b' S H p od kvs xs) (np : p ∉ S) (hi : σ[i]? = some (some (.ref p))) : Sr S [] (iKeys (tVar i)) σ H ck (some (xs.map Prod.fst)) := by
  intro ys e H1 f d R q
  cases e
  have hp := f _ _ o.1 (by simp)
  refine ⟨_, hi, p, od, rfl, .inl ⟨kvs, hp, q _ H1 (Same.refl _) ⟨fun H' j g hj => ?_, fun H' j v H'' g hy y ey => ?_, fun H' j g hj => ?_⟩⟩⟩
  · exact ⟨g _ _ hp np, by rw [o.2.1.len]; simpa using hj⟩
  · obtain ⟨rfl, k, w, ek, rfl⟩ := hy
    rw [List.getElem?_map] at ey
    obtain ⟨x, ex, rfl⟩ := Option.map_eq_some_iff.mp ey
    obtain ⟨kv, ekv, h1, h2, h3⟩ := o.2.1.get j ex
    rw [ek] at ekv
    cases ekv
    have h1' : k = kk x.1 := h1
    subst h1'
    exact ⟨rfl, KeyT.of_ h2⟩
  · exact ⟨g _ _ hp np, by rw [o.2.1.len]; simpa using hj⟩
end
/-- what a new thing is, also when a lock is gone -/
class RU (R : Rl α) (S : outParam AS) : Prop where
  h : ∀ {H1 H2 p od kvs v x}, H1 p = some (.dK kvs) → H2 p = some (.frz od (.dK kvs)) → R.r (upd H1 p (.frz od (.dK kvs))) H2 v x → R.r H1 (upd H2 p (.dK kvs)) v x
theorem upd_none {H : Hp} {p q : Addr} {o : HO} (h : upd H p o q = none) : q ≠ p ∧ H q = none := by
  have n : q ≠ p := fun z => by subst z; rw [upd_same] at h; cases h
  rw [upd_ne n] at h
  exact ⟨n, h⟩
instance [DL a] : RU (nw a S) S := ⟨fun {H1 H2 p od kvs v x} h1 h2 ⟨q, e, n, o⟩ => by
  obtain ⟨nq, n'⟩ := upd_none n
  obtain ⟨vs, hv, ha⟩ := o
  exact ⟨q, e, n', vs, by rw [upd_ne nq]; exact hv, ha.imp fun _ _ h => DL.at h2 rfl h⟩⟩
instance [DL b'] : RU (nwd (κ := κ) b' S) S := ⟨fun {H1 H2 p od kvs v x} h1 h2 ⟨q, e, n, o⟩ => by
  obtain ⟨nq, n'⟩ := upd_none n
  obtain ⟨vs, hv, ha, hn⟩ := o
  exact ⟨q, e, n', vs, by rw [upd_ne nq]; exact hv, ha.imp fun _ _ ⟨p1, p2, p3⟩ => ⟨p1, p2, DL.at h2 rfl p3⟩, hn⟩⟩
theorem ev_lock [DL b'] {R : Rl α} [RU R S] {r : Option α} {v : V} {xs : List (κ × β)} (ts : Sub T S) (h : (tD κ b').rp S H v xs)
    (k : ∀ (p : Addr) (od : Obj) (kvs : List (Key × V)) (H1 Hl : Hp), Fr T H H1 → v = .ref p → H1 p = some (.dK kvs) → Hl = upd H1 p (.frz od (.dK kvs)) → p ∉ S → LkD b' S Hl p od kvs xs → Ev S [] te σ Hl R r) : Ev S T (tLockE te) σ H R r := by
  intro x ex H1 f d Q q
  obtain ⟨p, kvs, rfl, hp, ha, hn⟩ := (tD κ b').mono (f.sub ts) h
  refine ⟨p, .dK kvs, hp.1, trivial, fun od => ?_⟩
  have hl : LkD b' S (upd H1 p (.frz od (.dK kvs))) p od kvs xs := ⟨upd_same, ha.imp fun _ _ ⟨p1, p2, p3⟩ => ⟨p1, p2, DL.at hp.1 rfl p3⟩, hn⟩
  refine k p od kvs H1 _ f rfl hp.1 rfl hp.2 hl x ex _ (Fr.refl _) d.upd _ fun w H2 s hw => ?_
  have h2 : H2 p = some (.frz od (.dK kvs)) := s _ _ upd_same
  refine ⟨h2, q w _ (fun q' o' e' => ?_) (RU.h hp.1 h2 hw)⟩
  by_cases cq : q' = p
  · subst cq
    rw [hp.1] at e'
    cases e'
    exact upd_same
  · rw [upd_ne cq]
    exact s _ _ (by rw [upd_ne cq]; exact e')
/-- behind a lock: what has stayed -/
theorem fr_unl {T : AS} {H0 H H' : Hp} {p : Addr} {kvs : List (Key × V)} (f : Fr T H0 H) (hp : H p = some (.dK kvs)) (np : p ∉ T) (g : Fr (p :: T) H0 H') : Fr T H0 (upd H' p (.dK kvs)) := fun q o e n => by
  by_cases cq : q = p
  · subst cq
    rw [f _ _ e np] at hp
    cases hp
    exact upd_same
  · rw [upd_ne cq]
    exact g _ _ e fun m => by rcases List.mem_cons.mp m with z | m; exact cq z; exact n m
theorem fr_lock {T : AS} {H0 H : Hp} {p : Addr} {o : HO} (f : Fr T H0 H) : Fr (p :: T) H0 (upd H p o) := fun q u e n => by
  rw [upd_ne (fun z => n (by rw [z]; exact List.mem_cons_self ..))]
  exact f _ _ e fun m => n (List.mem_cons_of_mem _ m)
theorem OwnD.unl [DL b'] {S : AS} {H : Hp} {p q : Addr} {od : Obj} {kvs : List (Key × V)} {xs : List (κ × β)} (hp : H p = some (.frz od (.dK kvs))) (n : q ≠ p) (h : OwnD b' (p :: S) H q xs) : OwnD b' S (upd H p (.dK kvs)) q xs := (OwnD.dl hp rfl n h).sub fun _ m => List.mem_cons_of_mem _ (List.mem_cons_of_mem _ m)
theorem Own.unl [DL a] {S : AS} {H : Hp} {p q : Addr} {od : Obj} {kvs : List (Key × V)} {xs : List α} (hp : H p = some (.frz od (.dK kvs))) (h : Own a (p :: S) H q xs) : Own a S (upd H p (.dK kvs)) q xs := (Own.dl hp rfl h).sub fun _ m => List.mem_cons_of_mem _ (List.mem_cons_of_mem _ m)
theorem DL.unl [DL a] {S : AS} {H : Hp} {p : Addr} {od : Obj} {kvs : List (Key × V)} {v : V} {x : α} (hp : H p = some (.frz od (.dK kvs))) (h : a.rp (p :: S) H v x) : a.rp S (upd H p (.dK kvs)) v x := a.sub (fun _ m => List.mem_cons_of_mem _ m) (DL.at hp rfl h)
/-- for k in d, with draws -/
theorem lw_for_k {i j : Nat} {tb : TS} {ck : Ty K κ} [KeyT ck] [DL b'] {v : V} {xs : List (κ × β)} {s0 : δ} {f : δ → κ → Wp (Ct ρ δ)} {P : Ct ρ δ → Prop} (d : Dom S H) (h : (tD κ b').rp S H v xs) (hi : σ[i]? = some (some v)) (hf : loopW f (xs.map Prod.fst) s0 P)
    (I : Addr → Obj → List (Key × V) → δ → St → Hp → Prop)
    (h0 : ∀ p od kvs Hl, v = .ref p → H p = some (.dK kvs) → p ∉ S → Hl = upd H p (.frz od (.dK kvs)) → LkD b' (p :: S) Hl p od kvs xs → I p od kvs s0 σ Hl)
    (iv : ∀ p od kvs s σ' H', I p od kvs s σ' H' → H' p = some (.frz od (.dK kvs)))
    (step : ∀ p od kvs (s : δ) (x : κ) (C : Ct ρ δ → Prop) (w : V) (σ' : St) (H' : Hp), v = .ref p → p ∉ S → I p od kvs s σ' H' → ck.rp (p :: S) H' w x → f s x C →
      tb ⟨fun σ2 H2 => ∃ s', C (.go s') ∧ Fr (p :: S) H' H2 ∧ I p od kvs s' σ2 H2, fun v' H2 => H2 p = some (.frz od (.dK kvs)) ∧ D.rt v' (upd H2 p (.dK kvs)), fun σ2 H2 => H2 p = some (.frz od (.dK kvs)) ∧ D.nx σ2 (upd H2 p (.dK kvs)), fun σ2 H2 => ∃ s', C (.go s') ∧ Fr (p :: S) H' H2 ∧ I p od kvs s' σ2 H2⟩ (σ'.set j (some w)) H')
    (done : ∀ p od kvs s σ' H', v = .ref p → p ∉ S → H p = some (.dK kvs) → Fr S H (upd H' p (.dK kvs)) → H' p = some (.frz od (.dK kvs)) → P (.go s) → I p od kvs s σ' H' → D.nx σ' (upd H' p (.dK kvs))) : tLock (tFor (iKeys (tVar i)) (gName j) tb) D σ H := by
  obtain ⟨p, kvs, rfl, hp, ha, hn⟩ := h
  refine ⟨p, .dK kvs, hp.1, trivial, fun od => ?_⟩
  have hl : LkD b' (p :: S) (upd H p (.frz od (.dK kvs))) p od kvs xs := ⟨upd_same, ha.imp fun _ _ => KvP.dl hp.1 rfl, hn⟩
  refine ⟨_, hi, p, od, rfl, .inl ⟨kvs, upd_same, ?_⟩⟩
  refine ⟨fun i m σ' H' => m = xs.length - i ∧ i ≤ xs.length ∧ Fr (p :: S) (upd H p (.frz od (.dK kvs))) H' ∧ ∃ s, I p od kvs s σ' H' ∧ loopW f ((xs.map Prod.fst).drop i) s P, ⟨_, rfl, Nat.zero_le _, Fr.refl _, s0, h0 p od kvs _ rfl hp.1 hp.2 rfl hl, hf⟩, ?_⟩
  rintro i m σ' H' ⟨rfl, hi', fr, s, hI, hlp⟩
  have hpk := iv p od kvs s σ' H' hI
  have hlen := ha.len
  by_cases cc : i < xs.length
  · right
    have cc' : i < (xs.map Prod.fst).length := by simpa using cc
    rw [List.drop_eq_getElem_cons cc'] at hlp
    simp only [loopW] at hlp
    refine ⟨⟨hpk, by omega⟩, fun σ2 H2 => ∃ s', loopW f ((xs.map Prod.fst).drop (i + 1)) s' P ∧ Fr (p :: S) H' H2 ∧ I p od kvs s' σ2 H2, ?_, ?_⟩
    · rintro σ2 H2 ⟨s', hl', f2, hI'⟩
      exact ⟨xs.length - (i + 1), by omega, rfl, by omega, fr.trans f2, s', hI', hl'⟩
    · intro w H2 hy
      obtain ⟨rfl, k, w', ek, rfl⟩ := hy
      obtain ⟨kv, ekv, h1, h2, h3⟩ := ha.get i (List.getElem?_eq_getElem cc)
      rw [ek] at ekv
      cases ekv
      have h1' : k = kk xs[i].1 := h1
      subst h1'
      exact step p od kvs s xs[i].1 _ (kV (kk xs[i].1)) σ' _ rfl hp.2 hI (KeyT.of_ h2) (by simpa using hlp)
  · left
    refine ⟨⟨hpk, by omega⟩, hpk, ?_⟩
    rw [List.drop_eq_nil_of_le (by simp; omega)] at hlp
    exact done p od kvs s σ' H' rfl hp.2 hp.1 (fr_unl (Fr.refl _) hp.1 hp.2 (fun q o e n => fr _ _ (by rw [upd_ne (fun z => n (by rw [z]; exact List.mem_cons_self ..))]; exact e) n)) hpk hlp hI
theorem qw_for_k {i j : Nat} {tb : TS} {ck : Ty K κ} [KeyT ck] [DL b'] {v : V} {xs : List (κ × β)} {s0 : δ} {f : δ → κ → Wp (Ct ρ δ)} {P : Ct ρ δ → Prop} (d : Dom S H) (h : (tD κ b').rp S H v xs) (hi : σ[i]? = some (some v)) (hf : loopW f (xs.map Prod.fst) s0 P)
    (I : Addr → Obj → List (Key × V) → δ → St → Hp → Prop)
    (h0 : ∀ p od kvs Hl, v = .ref p → H p = some (.dK kvs) → p ∉ S → Hl = upd H p (.frz od (.dK kvs)) → LkD b' (p :: S) Hl p od kvs xs → I p od kvs s0 σ Hl)
    (iv : ∀ p od kvs s σ' H', I p od kvs s σ' H' → H' p = some (.frz od (.dK kvs)))
    (step : ∀ p od kvs (s : δ) (x : κ) (C : Ct ρ δ → Prop) (w : V) (σ' : St) (H' : Hp), v = .ref p → p ∉ S → I p od kvs s σ' H' → ck.rp (p :: S) H' w x → f s x C →
      tb ⟨fun σ2 H2 => ∃ s', C (.go s') ∧ Fr (p :: S) H' H2 ∧ I p od kvs s' σ2 H2, fun v' H2 => H2 p = some (.frz od (.dK kvs)) ∧ D.rt v' (upd H2 p (.dK kvs)), fun σ2 H2 => H2 p = some (.frz od (.dK kvs)) ∧ (u D) σ2 (upd H2 p (.dK kvs)), fun σ2 H2 => ∃ s', C (.go s') ∧ Fr (p :: S) H' H2 ∧ I p od kvs s' σ2 H2⟩ (σ'.set j (some w)) H')
    (done : ∀ p od kvs s σ' H', v = .ref p → p ∉ S → H p = some (.dK kvs) → Fr S H (upd H' p (.dK kvs)) → H' p = some (.frz od (.dK kvs)) → P (.go s) → I p od kvs s σ' H' → u D σ' (upd H' p (.dK kvs))) : tSeq (tLock (tFor (iKeys (tVar i)) (gName j) tb)) u D σ H := lw_for_k (D := { D with nx := u D }) d h hi hf I h0 iv step done
end
end M

namespace M
open PySem L2 G
section
variable {K : PySem.W.Frag} {α α1 α2 β γ δ ε ρ : Type} {S T : AS} {σ : St} {H : Hp} {ta tb te tv : TE} {tt : TT} {a : Ty K α} {a1 : Ty K α1} {a2 : Ty K α2} {b : Ty K β}
/-! ### [te for x, y in xs] over pairs -/
theorem lc_core2P {wi : TI} {j j2 : Nat} {ws : List Nat} {r : Option (List (α1 × α2))} {f : α1 × α2 → Option (Option β)} (h : Sr S T wi σ H (tT2 a1 a2) r) (hw : ∀ x y, wipe (((wipe σ ws).set j (some x)).set j2 (some y)) ws = wipe σ ws)
    (he : ∀ (x : α1 × α2) (v v2 : V) (H2 H' : Hp) (p : Addr) (o : Option β), Fr T H H2 → H2 p = none → Same H2 H' → a1.rp (p :: S) H' v x.1 → a2.rp (p :: S) H' v2 x.2 → Dom (p :: S) H' → f x = some o → ∀ (Q1 : V → Hp → Prop) (Q0 : Hp → Prop), (∀ y w H3, o = some y → Same H' H3 → b.rp (p :: S) H3 w y → Q1 w H3) → (∀ H3, o = none → Same H' H3 → Q0 H3) →
      tt (((wipe σ ws).set j (some v)).set j2 (some v2)) H' fun k H3 => if k = true then te (((wipe σ ws).set j (some v)).set j2 (some v2)) H3 Q1 else Q0 H3) :
    Ev S T (tLc wi (gTup K 2 (gCons (gName j) (gCons (gName j2) gNil))) tt te ws) σ H (nw b S) (bd r fun xs => if xs.length < 100000 then filO f xs else none) := by
  intro z e H1 f1 d Q q
  obtain ⟨xs, ex, e⟩ := bd_some e
  split at e
  rotate_left
  · cases e
  rename_i hlen
  refine h xs ex H1 f1 d _ fun J H2 s2 wk => fun Dl hD => ?_
  have d2 := d.same s2
  have sD : Same H2 (upd H2 Dl (.lst [])) := same_new hD
  refine ⟨fun i m H' => m = xs.length - i ∧ i ≤ xs.length ∧ ∃ acc pre, H' Dl = some (.lst acc) ∧ Same H2 H' ∧ acc.length ≤ i ∧ All2 (b.rp (Dl :: S) H') acc pre ∧ ∃ suf, filO f (xs.drop i) = some suf ∧ z = pre ++ suf, ⟨_, rfl, Nat.zero_le _, [], [], upd_same, sD, Nat.zero_le _, .nil, z, e, rfl⟩, ?_⟩
  rintro i m H' ⟨rfl, hi, acc, pre, h1, h2, h3, h4, suf, h5, h6⟩
  by_cases c : i < xs.length
  · right
    rw [List.drop_eq_getElem_cons c] at h5
    obtain ⟨o, ho, h5⟩ := bd_some h5
    obtain ⟨suf', hs', h5⟩ := bd_some h5
    refine ⟨wk.go H' i (Fr.same h2) c, fun H3 => ∃ acc pre, H3 Dl = some (.lst acc) ∧ Same H2 H3 ∧ acc.length ≤ i + 1 ∧ All2 (b.rp (Dl :: S) H3) acc pre ∧ ∃ suf, filO f (xs.drop (i + 1)) = some suf ∧ z = pre ++ suf, ?_, ?_⟩
    · rintro H3 ⟨acc, pre, g1, g2, g3, g4, suf, g5, g6⟩
      exact ⟨xs.length - (i + 1), by omega, rfl, by omega, acc, pre, g1, g2, g3, g4, suf, g5, g6⟩
    · intro v H3 hy
      obtain ⟨rfl, hv⟩ := wk.yl H' i v H3 (Fr.same h2) hy _ (List.getElem?_eq_getElem c)
      obtain ⟨q0, v1, v2, rfl, hq0, hv1, hv2⟩ := (tT2 a1 a2).mono (Fr.same h2) ((tT2 a1 a2).ext hD hv)
      refine ⟨q0, _, rfl, hq0.sq, rfl, v1, _, rfl, v2, _, rfl, rfl, hw v1 v2, ?_⟩
      refine he xs[i] v1 v2 H2 _ Dl o (f1.trans (Fr.same s2)) hD h2 hv1 hv2 ((d2.same h2).cons h1) ho _ _ (fun y w H4 eo s4 hw4 => ?_) (fun H4 eo s4 => ?_)
      · subst eo
        cases h5
        refine ⟨acc, s4 _ _ h1, Nat.lt_of_lt_of_le (by omega : acc.length < 100000) (by decide), acc ++ [w], pre ++ [y], upd_same, fun p ob eb => ?_, by simp; omega, ?_, suf', hs', by rw [h6]; simp⟩
        · rw [upd_ne (ne_of_none eb hD)]
          exact s4 _ _ (h2 _ _ eb)
        · have fD : Fr (Dl :: S) H4 (upd H4 Dl (.lst (acc ++ [w]))) := fr_upd (List.mem_cons_self ..)
          exact ((h4.imp fun _ _ h => b.mono (Fr.same s4) h).snoc hw4).imp fun _ _ h => b.mono fD h
      · subst eo
        cases h5
        exact ⟨acc, pre, s4 _ _ h1, fun p ob eb => s4 _ _ (h2 _ _ eb), by omega, h4.imp fun _ _ h => b.mono (Fr.same s4) h, _, hs', h6⟩
  · left
    rw [List.drop_eq_nil_of_le (by omega)] at h5
    cases h5
    rw [List.append_nil] at h6
    subst h6
    exact ⟨wk.st H' i (Fr.same h2) (by omega), q _ _ (s2.trans h2) ⟨Dl, rfl, s2.free hD, acc, h1, h4⟩⟩
theorem ev_lcP {wi : TI} {j j2 : Nat} {ws : List Nat} {r : Option (List (α1 × α2))} {f : α1 × α2 → Option β} (h : Sr S T wi σ H (tT2 a1 a2) r) (hw : ∀ x y, wipe (((wipe σ ws).set j (some x)).set j2 (some y)) ws = wipe σ ws)
    (he : ∀ (x : α1 × α2) (v v2 : V) (H2 H' : Hp) (p : Addr), Fr T H H2 → H2 p = none → Same H2 H' → a1.rp (p :: S) H' v x.1 → a2.rp (p :: S) H' v2 x.2 → Ev (p :: S) [] te (((wipe σ ws).set j (some v)).set j2 (some v2)) H' (of b (p :: S)) (f x)) :
    Ev S T (tLc wi (gTup K 2 (gCons (gName j) (gCons (gName j2) gNil))) tYes te ws) σ H (nw b S) (bd r fun xs => mapL? f xs) := by
  have k := lc_core2P (tt := tYes) (te := te) (b := b) (f := fun x => bd (f x) fun y => some (some y)) h hw fun x v v2 H2 H' p o g1 g2 g3 g4 g42 g5 g6 Q1 Q0 g7 g8 => by
    obtain ⟨y, hy, g6⟩ := bd_some g6
    cases g6
    refine G.yes_ ?_
    exact he x v v2 H2 H' p g1 g2 g3 g4 g42 y hy H' (Fr.refl _) g5 _ fun w H3 s3 hw3 => g7 y w H3 rfl s3 hw3
  intro z e
  refine k z ?_
  obtain ⟨xs, ex, e⟩ := bd_some e
  rw [ex]
  unfold mapL? at e
  show (if xs.length < 100000 then filO _ xs else none) = some z
  split at e
  · rename_i hl
    rw [if_pos hl, filO_map]
    exact e
  · cases e
theorem ev_lcPF {wi : TI} {j j2 : Nat} {ws : List Nat} {r : Option (List (α1 × α2))} {g : α1 × α2 → Option Bool} {f : α1 × α2 → Option β} (h : Sr S T wi σ H (tT2 a1 a2) r) (hw : ∀ x y, wipe (((wipe σ ws).set j (some x)).set j2 (some y)) ws = wipe σ ws)
    (ht : ∀ (x : α1 × α2) (v v2 : V) (H2 H' : Hp) (p : Addr), Fr T H H2 → H2 p = none → Same H2 H' → a1.rp (p :: S) H' v x.1 → a2.rp (p :: S) H' v2 x.2 → EvB (p :: S) [] tt (((wipe σ ws).set j (some v)).set j2 (some v2)) H' (g x))
    (he : ∀ (x : α1 × α2) (v v2 : V) (H2 H' : Hp) (p : Addr), Fr T H H2 → H2 p = none → Same H2 H' → a1.rp (p :: S) H' v x.1 → a2.rp (p :: S) H' v2 x.2 → Ev (p :: S) [] te (((wipe σ ws).set j (some v)).set j2 (some v2)) H' (of b (p :: S)) (f x)) :
    Ev S T (tLc wi (gTup K 2 (gCons (gName j) (gCons (gName j2) gNil))) tt te ws) σ H (nw b S) (bd r fun xs => filL? g f xs) :=
  lc_core2P (tt := tt) (te := te) (b := b) (f := fun x => bd (g x) fun k => if k then bd (f x) fun y => some (some y) else some none) h hw fun x v v2 H2 H' p o g1 g2 g3 g4 g42 g5 g6 Q1 Q0 g7 g8 => by
    obtain ⟨k, hk, g6⟩ := bd_some g6
    refine ht x v v2 H2 H' p g1 g2 g3 g4 g42 k hk H' (Fr.refl _) g5 _ fun H3 s3 => ?_
    cases k with
    | true =>
      obtain ⟨y, hy, g6⟩ := bd_some (if_t g6)
      cases g6
      show if true = true then _ else _
      rw [if_pos rfl]
      exact he x v v2 H2 H' p g1 g2 g3 g4 g42 y hy H3 (Fr.same s3) (g5.same s3) _ fun w H4 s4 hw4 => g7 y w H4 rfl (s3.trans s4) hw4
    | false =>
      cases (if_f g6)
      show if false = true then _ else _
      rw [if_neg (by decide)]
      exact g8 H3 rfl s3
end
section
variable {K : PySem.W.Frag} {α β γ δ ε ρ : Type} {S T : AS} {σ : St} {H : Hp} {ta tb te tv : TE} {tt : TT} {a : Ty K α} {b' : Ty K β} {c' : Ty K γ} {D : Ends} {u : TS} {b c : Addr}
/-! ### for x, y, z in xs -/
theorem for_s3 {wi : TI} {j j2 j3 : Nat} {tb : TS} {r : Option (List (α × β × γ × Unit))} {xs : List (α × β × γ × Unit)} {s0 : δ} {f : δ → α × β × γ × Unit → Option (Ct ρ δ)} {res : Ct ρ δ} (d : Dom S H) (h : Sr S T wi σ H (tTu (aCons a (aCons b' (aCons c' aNil)))) r) (e : r = some xs) (hf : loopC f xs s0 = some res)
    (I : δ → St → Hp → Prop) (h0 : ∀ H1, Same H H1 → I s0 σ H1)
    (step : (∀ s σ' H', res = .go s → I s σ' H' → D.nx σ' H') → ∀ (s : δ) (x : α × β × γ × Unit) (cr : Ct ρ δ) (v w w3 : V) (σ' : St) (H' : Hp), I s σ' H' → a.rp S H' v x.1 → b'.rp S H' w x.2.1 → c'.rp S H' w3 x.2.2.1 → x ∈ xs → f s x = some cr → (∀ y, cr = .ret y → res = .ret y) → (∀ s', cr = .brk s' → res = .go s') →
      tb { D with nx := fun σ2 H2 => ∃ s', cr = .go s' ∧ Fr S H' H2 ∧ I s' σ2 H2, ct := fun σ2 H2 => ∃ s', cr = .go s' ∧ Fr S H' H2 ∧ I s' σ2 H2, bk := D.nx } (((σ'.set j (some v)).set j2 (some w)).set j3 (some w3)) H')
    (done : ∀ s σ' H', res = .go s → I s σ' H' → D.nx σ' H') : tFor wi (gTup K 3 (gCons (gName j) (gCons (gName j2) (gCons (gName j3) gNil)))) tb D σ H := by
  refine h xs e H (Fr.refl _) d _ fun J H1 s1 wk => ?_
  refine ⟨fun i m σ' H' => m = xs.length - i ∧ i ≤ xs.length ∧ Fr S H1 H' ∧ ∃ s, I s σ' H' ∧ loopC f (xs.drop i) s = some res, ⟨_, rfl, Nat.zero_le _, Fr.refl _, s0, h0 H1 s1, hf⟩, ?_⟩
  rintro i m σ' H' ⟨rfl, hi, fr, s, hI, hl⟩
  by_cases c : i < xs.length
  · right
    rw [List.drop_eq_getElem_cons c] at hl
    simp only [loopC] at hl
    cases q : f s xs[i] with
    | none => rw [q] at hl; cases hl
    | some cr =>
      rw [q] at hl
      refine ⟨wk.go H' i fr c, fun σ2 H2 => ∃ s', cr = .go s' ∧ Fr S H' H2 ∧ I s' σ2 H2, ?_, ?_⟩
      · rintro σ2 H2 ⟨s', rfl, f2, hI'⟩
        exact ⟨xs.length - (i + 1), by omega, rfl, by omega, fr.trans f2, s', hI', hl⟩
      · intro v H2 hy
        obtain ⟨rfl, hv⟩ := wk.yl H' i v H2 fr hy _ (List.getElem?_eq_getElem c)
        obtain ⟨p, vs, rfl, hp, v1, r1, e1, h1, v2, r2, e2, h2, v3, r3, e3, h3, e4⟩ := (tTu (aCons a (aCons b' (aCons c' aNil)))).mono fr hv
        subst e4; subst e3; subst e2; subst e1
        exact ⟨p, _, rfl, hp.sq, rfl, v1, _, rfl, v2, _, rfl, v3, _, rfl, rfl, step done s xs[i] cr v1 v2 v3 σ' _ hI h1 h2 h3 (List.getElem_mem c) q (fun y ey => by subst ey; cases hl; rfl) (fun s' ey => by subst ey; cases hl; rfl)⟩
  · left
    refine ⟨wk.st H' i fr (by omega), ?_⟩
    rw [List.drop_eq_nil_of_le (by omega)] at hl
    cases hl
    exact done s σ' H' rfl hI
theorem q_for_s3 {wi : TI} {j j2 j3 : Nat} {tb : TS} {r : Option (List (α × β × γ × Unit))} {xs : List (α × β × γ × Unit)} {s0 : δ} {f : δ → α × β × γ × Unit → Option (Ct ρ δ)} {res : Ct ρ δ} (d : Dom S H) (h : Sr S T wi σ H (tTu (aCons a (aCons b' (aCons c' aNil)))) r) (e : r = some xs) (hf : loopC f xs s0 = some res)
    (I : δ → St → Hp → Prop) (h0 : ∀ H1, Same H H1 → I s0 σ H1)
    (step : (∀ s σ' H', res = .go s → I s σ' H' → u D σ' H') → ∀ (s : δ) (x : α × β × γ × Unit) (cr : Ct ρ δ) (v w w3 : V) (σ' : St) (H' : Hp), I s σ' H' → a.rp S H' v x.1 → b'.rp S H' w x.2.1 → c'.rp S H' w3 x.2.2.1 → x ∈ xs → f s x = some cr → (∀ y, cr = .ret y → res = .ret y) → (∀ s', cr = .brk s' → res = .go s') →
      tb { D with nx := fun σ2 H2 => ∃ s', cr = .go s' ∧ Fr S H' H2 ∧ I s' σ2 H2, ct := fun σ2 H2 => ∃ s', cr = .go s' ∧ Fr S H' H2 ∧ I s' σ2 H2, bk := u D } (((σ'.set j (some v)).set j2 (some w)).set j3 (some w3)) H')
    (done : ∀ s σ' H', res = .go s → I s σ' H' → u D σ' H') : tSeq (tFor wi (gTup K 3 (gCons (gName j) (gCons (gName j2) (gCons (gName j3) gNil)))) tb) u D σ H := for_s3 (D := { D with nx := u D }) d h e hf I h0 step done
/-! ### x += e -/
theorem l_aug {i : Nat} {r : Option Int} {x y : Int} (d : Dom S H) (hi : σ[i]? = some (some (.int x))) (h : Ev S T te σ H (of (K := K) tInt S) r) (e : r = some y) (k : ∀ H1, Same H H1 → D.nx (σ.set i (some (.int (x + y)))) H1) : tAug i te (ipI fun i j => i + j) D σ H :=
  ⟨_, hi, h y e H (Fr.refl _) d _ fun v H1 s hv => ⟨x, y, rfl, hv, k H1 s⟩⟩
theorem q_aug {i : Nat} {r : Option Int} {x y : Int} (d : Dom S H) (hi : σ[i]? = some (some (.int x))) (h : Ev S T te σ H (of (K := K) tInt S) r) (e : r = some y) (k : ∀ H1, Same H H1 → u D (σ.set i (some (.int (x + y)))) H1) : tSeq (tAug i te (ipI fun i j => i + j)) u D σ H := l_aug (D := { D with nx := u D }) d hi h e k
/-! ### x = xs.pop() -/
def popB? (xs : List α) : Option (α × List α) := match xs.getLast? with
  | none => none
  | some x => some (x, xs.dropLast)
theorem All2.dropLast {F : V → α → Prop} : ∀ {vs : List V} {xs : List α}, All2 F vs xs → All2 F vs.dropLast xs.dropLast
  | _, _, .nil => .nil
  | _, _, .cons h .nil => .nil
  | _, _, .cons h (.cons h2 r) => .cons h (All2.dropLast (.cons h2 r))
theorem q_popA {p : Addr} {xs ys : List α} {x : α} {i j : Nat} (d : Dom S H) (o : Own a S H p xs) (im : p ∈ S) (hi : σ[i]? = some (some (.ref p))) (e : popB? xs = some (x, ys))
    (k : ∀ v H1, Mut1 p H H1 → Fr S H H1 → Own a S H1 p ys → a.rp S H1 v x → u D (σ.set j (some v)) H1) : tSeq (tAsg (tBM0 K "list" rPop (tVar i)) (gName j)) u D σ H := by
  obtain ⟨vs, hv, ha⟩ := o
  unfold popB? at e
  cases el : xs.getLast? with
  | none => rw [el] at e; cases e
  | some z =>
    rw [el] at e
    cases e
    rw [List.getLast?_eq_getElem?] at el
    obtain ⟨w, ew, hw⟩ := ha.get _ el
    have f1 : Fr S H (upd H p (.lst vs.dropLast)) := fr_upd im
    refine ⟨_, hi, .inl ⟨rfl, vs, .inl (.inl hv)⟩, p, vs, w, rfl, rfl, hv, by rw [ha.len]; exact ew, ?_⟩
    exact k w _ ⟨fun b ob e n => by rw [upd_ne n]; exact e, by rw [upd_same]; intro z; cases z⟩ f1 ⟨_, upd_same, ha.dropLast.imp fun _ _ => a.mono f1⟩ (a.mono f1 hw)
/-! ### {k: v} -/
theorem ev_disp1 {κ : Type} [KeyC κ] [DecidableEq κ] {ck : Ty K κ} [KeyT ck] {tk : TE} {rk : Option κ} {rv : Option β} (hk : ∀ {p : Addr} {H1 : Hp}, Fr T H H1 → H1 p = none → Ev (p :: S) [] tk σ (upd H1 p (.dK [])) (of ck (p :: S)) rk) (hv : ∀ {p : Addr} {H1 : Hp}, Fr T H H1 → H1 p = none → Ev (p :: S) [] tv σ (upd H1 p (.dK [])) (of b' (p :: S)) rv) :
    Ev S T (tDisp [(tk, tv)]) σ H (nwd (κ := κ) b' S) (bd rk fun k => bd rv fun v => some [(k, v)]) := by
  intro z e H1 f1 d Q q
  obtain ⟨k, ek, e⟩ := bd_some e
  obtain ⟨x, ex, e⟩ := bd_some e
  cases e
  intro p hp
  have s0 : Same H1 (upd H1 p (.dK [])) := same_new hp
  have d0 : Dom (p :: S) (upd H1 p (.dK [])) := (d.same s0).cons upd_same
  refine hk f1 hp k ek _ (Fr.refl _) d0 _ fun w H2 s2 hw => ?_
  refine hv f1 hp x ex H2 (Fr.same s2) (d0.same s2) _ fun w2 H3 s3 hw2 => ?_
  obtain ⟨rfl, hok⟩ := KeyT.to hw
  have hp3 : H3 p = some (.dK []) := s3 _ _ (s2 _ _ upd_same)
  refine ⟨hp3, [(KeyC.kk k, w2)], rfl, by simp, q _ _ (fun q' o' e' => ?_) ⟨p, rfl, hp, _, upd_same, ?_, by simp⟩⟩
  · have nq : q' ≠ p := ne_of_none e' hp
    rw [upd_ne nq]
    exact s3 _ _ (s2 _ _ (s0 _ _ e'))
  · have f1 : Fr (p :: S) H3 (upd H3 p (.dK (mergeK [] [(KeyC.kk k, w2)]))) := fr_upd (List.mem_cons_self ..)
    exact .cons ⟨rfl, hok, b'.mono f1 hw2⟩ .nil
/-! ### sum -/
theorem ints_of {S : AS} {H : Hp} : ∀ {vs : List V} {xs : List Int}, All2 ((tInt (K := K)).rp S H) vs xs → vs = xs.map V.int
  | _, _, .nil => rfl
  | _, _, .cons h r => by rw [List.map_cons, ← ints_of r, show _ = _ from h]
theorem ev_sum {r : Option (List Int)} (h : Ev S T te σ H (of (tL (tInt (K := K))) S) r) : Ev S T (tCB (rSum K) (tCons te tNil)) σ H (of (K := K) tInt S) (bd r fun x => some x.sum) := by
  intro z e H1 f1 d Q q
  obtain ⟨x, ex, e⟩ := bd_some e
  cases e
  refine h x ex H1 f1 d _ fun v H2 s ⟨p, vs, ev, hp, ha⟩ => ?_
  subst ev
  have ev := ints_of ha
  subst ev
  exact ⟨p, x, rfl, hp.sq, q _ H2 s rfl⟩
/-! ### refusals with a number -/
def XqI (C : Addr) (f : Str) (E : XK) (H : Hp) (e : Int) : Prop := ∀ H' d, Same H H' → H' d = none → E (.ref C) (some d) (upd H' d (.xd [(f, .int e)]))
theorem XqI.same {C : Addr} {f : Str} {E : XK} {H H1 : Hp} {e : Int} (s : Same H H1) (h : XqI C f E H e) : XqI C f E H1 e := fun H' d s' nd => h H' d (s.trans s') nd
def spXI (ar : TyA K α) (R : AS → Rl γ) (C : Addr) (fl : Str) (f : α → Option (Int ⊕ γ)) : Sp := fun vs H Q E => ∃ (S : AS) (x : α) (y : Int ⊕ γ), Dom S H ∧ ar.rp S H vs x ∧ f x = some y ∧ (∀ z, y = .inr z → ∀ v H', Same H H' → (R S).r H H' v z → Q v H') ∧ (∀ e, y = .inl e → XqI C fl E H e)
def rfi? (i : Int) : Option Int := if i.natAbs.log2 < 1920 then some i else none
theorem l_raiseI {r : Option Int} {z : Int} {C : Addr} {f : Str} {W : WX} {ok : V → Prop} (hok : ∀ z : Int, z.natAbs.log2 < 1920 → ok (.int z)) (d : Dom S H) (h : Ev S T te σ H (of (K := K) tInt S) r) (e : bd r rfi? = some z) (q : ∀ H1 d, Same H H1 → H1 d = none → W (.ref C) (some d) σ (upd H1 d (.xd [(f, .int z)]))) : tRaiseSup C f ok W (tCons te tNil) D σ H := by
  obtain ⟨z', ez, e⟩ := bd_some e
  unfold rfi? at e
  split at e
  · rename_i hl
    cases e
    refine h z ez H (Fr.refl _) d _ fun v H1 s hv => ?_
    cases hv
    exact ⟨_, rfl, hok z hl, fun dd hd => q H1 dd s hd⟩
  · cases e
def EvXI (S T : AS) (te : TE) (σ : St) (H : Hp) (R : Rl γ) (C : Addr) (f : Str) (E : XK) (r : Option (Int ⊕ γ)) : Prop :=
  ∀ y, r = some y → ∀ H1, Fr T H H1 → Dom S H1 → ∀ Q : VK, (∀ z, y = .inr z → ∀ v H2, Same H1 H2 → R.r H1 H2 v z → Q v H2) → (∀ e, y = .inl e → XqI C f E H1 e) → te σ H1 Q
theorem ev_callXI {tr : TA} {ar : TyA K α} {r : Option α} {R : AS → Rl γ} {C : Addr} {fl : Str} {f : α → Option (Int ⊕ γ)} {E : St → XK} (h : EvA S T tr σ H ar r) : EvXI S T (tCallS (spXI ar R C fl f) E tr) σ H (R S) C fl (E σ) (bd r f) := by
  intro z e H1 f1 d Q q qx
  obtain ⟨x, ex, e⟩ := bd_some e
  exact h x ex H1 f1 d _ fun vs H2 s hv => ⟨S, x, z, d.same s, hv, e, fun z' e' u H' s' hu => q z' e' u H' (s.trans s') ((R S).same s hu), fun e' ee => (qx e' ee).same s⟩
theorem q_asgXI {i : Nat} {R : Rl γ} {C : Addr} {f : Str} {E : XK} {r : Option (Int ⊕ γ)} {y : Int ⊕ γ} (d : Dom S H) (h : EvXI S T te σ H R C f E r) (e : r = some y) (k : ∀ z, y = .inr z → ∀ v H1, Same H H1 → R.r H H1 v z → u D (σ.set i (some v)) H1) (kx : ∀ e, y = .inl e → XqI C f E H e) : tSeq (tAsg te (gName i)) u D σ H :=
  h y e H (Fr.refl _) d _ (fun z ez v H1 s hv => k z ez v H1 s hv) kx
end
end M
namespace M
open PySem L2 G
theorem mut_upd {H : Hp} {p : Addr} {o : HO} : Mut1 p H (upd H p o) := ⟨fun b ob e n => by rw [upd_ne n]; exact e, by rw [upd_same]; intro z; cases z⟩
end M

namespace M
open PySem L2 G
/-! ### a dict of lists that are its own: d = {x: [] for x in xs}, d[k].append(e) -/
section
variable {K : PySem.W.Frag} {α β γ δ : Type} {S T : AS} {σ : St} {H : Hp} {ta tb te tv ty : TE} {a : Ty K α} {b' : Ty K β} {D : Ends} {u : TS}
theorem Ty.extN (a : Ty K α) {S : AS} {H : Hp} {v : V} {x : α} (h : a.rp S H v x) : ∀ {qs : List Addr}, (∀ q ∈ qs, H q = none) → a.rp (qs ++ S) H v x
  | [], _ => h
  | q :: qs, hq => a.ext (hq q List.mem_cons_self) (Ty.extN a h fun p hp => hq p (List.mem_cons_of_mem _ hp))
def kvq (xs : List Str) (qs : List Addr) : List (Key × V) := (xs.zip qs).map fun p => (Sum.inr p.1, .ref p.2)
theorem kvq_keys {xs : List Str} {qs : List Addr} (h : xs.length = qs.length) : (kvq xs qs).map (·.1) = xs.map Sum.inr := by
  unfold kvq
  rw [List.map_map]
  have : (xs.zip qs).map (fun p => p.1) = xs := by rw [List.map_fst_zip (by omega)]
  calc (xs.zip qs).map ((fun x : Key × V => x.1) ∘ fun p => (Sum.inr p.1, V.ref p.2)) = ((xs.zip qs).map (fun p => p.1)).map Sum.inr := by rw [List.map_map]; rfl
    _ = _ := by rw [this]
theorem kvq_snoc {xs : List Str} {qs : List Addr} {x : Str} {q : Addr} (h : xs.length = qs.length) : kvq (xs ++ [x]) (qs ++ [q]) = kvq xs qs ++ [(Sum.inr x, .ref q)] := by
  unfold kvq
  rw [List.zip_append h, List.map_append]
  rfl
/-- {x: [] for x in xs} -/
theorem dc_empty {wi : TI} {j : Nat} {ws : List Nat} {r : Option (List Str)} {xs : List Str} {Q : VK} (d : Dom S H) (h : Sr S T wi σ H (tStr (K := K)) r) (e : r = some xs) (hn : xs.Nodup) (hl : xs.length < 100000) (hw : ∀ x, wipe ((wipe σ ws).set j (some x)) ws = wipe σ ws) (hj : ∀ x, ((wipe σ ws).set j (some x))[j]? = some (some x))
    (q : ∀ (p : Addr) (qs : List Addr) (H' : Hp), Same H H' → H p = none → xs.length = qs.length → (p :: qs).Nodup → (∀ q ∈ qs, H q = none ∧ H' q = some (.lst [])) → H' p = some (.dK (kvq xs qs)) → (∀ z ∈ xs, PyData.strOk z = true) → Q (.ref p) H') :
    tDc wi (gName j) tYes (tVar j) (tLst tNil) ws σ H Q := by
  refine h xs e H (Fr.refl _) d _ fun J H2 s2 wk => fun Dl hD => ?_
  refine ⟨fun i m H' => m = xs.length - i ∧ i ≤ xs.length ∧ ∃ qs : List Addr, qs.length = i ∧ (Dl :: qs).Nodup ∧ (∀ q ∈ qs, H2 q = none ∧ H' q = some (.lst [])) ∧ H' Dl = some (.dK (kvq (xs.take i) qs)) ∧ Same H2 H' ∧ ∀ z ∈ xs.take i, PyData.strOk z = true, ⟨_, rfl, Nat.zero_le _, [], rfl, by simp, by simp, upd_same, same_new hD, by simp⟩, ?_⟩
  rintro i m H' ⟨rfl, hi, qs, hql, hqn, hqs, hDl, hs, hok⟩
  by_cases cc : i < xs.length
  · right
    refine ⟨wk.go H' i (Fr.same hs) cc, fun H3 => ∃ qs : List Addr, qs.length = i + 1 ∧ (Dl :: qs).Nodup ∧ (∀ q ∈ qs, H2 q = none ∧ H3 q = some (.lst [])) ∧ H3 Dl = some (.dK (kvq (xs.take (i + 1)) qs)) ∧ Same H2 H3 ∧ ∀ z ∈ xs.take (i + 1), PyData.strOk z = true, ?_, ?_⟩
    · rintro H3 ⟨qs, h1, h2, h3, h4, h5, h6⟩
      exact ⟨xs.length - (i + 1), by omega, rfl, by omega, qs, h1, h2, h3, h4, h5, h6⟩
    · intro v H3 hy
      obtain ⟨rfl, hv⟩ := wk.yl H' i v H3 (Fr.same hs) hy _ (List.getElem?_eq_getElem cc)
      obtain ⟨rfl, okx⟩ := hv
      refine ⟨hw _, G.yes_ ⟨_, hj _, Nat.zero_le _, fun q nq => ?_⟩⟩
      have nqD : q ≠ Dl := fun z => by subst z; rw [hDl] at nq; cases nq
      have nqq : q ∉ qs := fun z => by have := (hqs q z).2; rw [this] at nq; cases nq
      have tl : (xs.take i).length = qs.length := by rw [List.length_take, hql]; omega
      have hD3 : upd H3 q (.lst []) Dl = some (.dK (kvq (xs.take i) qs)) := by rw [upd_ne (Ne.symm nqD)]; exact hDl
      have nk : ¬ ((kvq (xs.take i) qs).any fun kv => decide (kv.1 = Sum.inr xs[i])) = true := fun z => by
        obtain ⟨kv, hkv, ek⟩ := List.any_eq_true.mp z
        have hm : kv.1 ∈ (kvq (xs.take i) qs).map (·.1) := List.mem_map.mpr ⟨kv, hkv, rfl⟩
        rw [kvq_keys tl, of_decide_eq_true ek] at hm
        obtain ⟨z, hz, ez⟩ := List.mem_map.mp hm
        cases ez
        have : xs[i] ∈ xs.take i := hz
        rw [List.mem_take_iff_getElem] at this
        obtain ⟨k, hk, ek2⟩ := this
        have := (List.getElem_inj (h₀ := by omega) (h₁ := cc) hn).mp ek2
        omega
      refine ⟨_, Sum.inr xs[i], rfl, hD3, ?_, qs ++ [q], by simp [hql], ?_, fun q' hq' => ?_, ?_, fun b o eb => ?_, ?_⟩
      · unfold kvq
        rw [List.length_map, List.length_zip]
        exact Nat.lt_of_le_of_lt (Nat.le_trans (Nat.min_le_right _ _) (by omega : qs.length ≤ 100000)) (by decide)
      · rw [List.nodup_cons] at hqn ⊢
        refine ⟨fun m => ?_, List.nodup_append.mpr ⟨hqn.2, by simp, fun y hy w hw ee => ?_⟩⟩
        · rcases List.mem_append.mp m with m | m
          · exact hqn.1 m
          · exact nqD (List.mem_singleton.mp m).symm
        · rw [List.mem_singleton] at hw
          subst hw
          subst ee
          exact nqq hy
      · rcases List.mem_append.mp hq' with hq' | hq'
        · have hne : q' ≠ q := fun z => nqq (z ▸ hq')
          have hnD : q' ≠ Dl := fun z => (List.nodup_cons.mp hqn).1 (z ▸ hq')
          rw [upd_ne hnD, upd_ne hne]
          exact hqs q' hq'
        · rw [List.mem_singleton] at hq'
          subst hq'
          rw [upd_ne nqD, upd_same]
          exact ⟨hs.free nq, rfl⟩
      · rw [upd_same]
        unfold putK
        rw [if_neg nk, List.take_add_one, List.getElem?_eq_getElem cc, Option.toList_some, kvq_snoc tl]
      · have nb : b ≠ q := ne_of_none eb (hs.free nq)
        have nD : b ≠ Dl := ne_of_none eb hD
        rw [upd_ne nD, upd_ne nb]
        exact hs _ _ eb
      · intro z hz
        rw [List.take_add_one, List.getElem?_eq_getElem cc, Option.toList_some] at hz
        rcases List.mem_append.mp hz with hz | hz
        · exact hok z hz
        · rw [List.mem_singleton.mp hz]; exact okx
  · left
    have hix : i = xs.length := by omega
    subst hix
    rw [List.take_length] at hDl hok
    refine ⟨wk.st H' _ (Fr.same hs) (Nat.le_refl _), q Dl qs H' (s2.trans hs) (s2.free hD) hql.symm hqn (fun q hq => ⟨s2.free (hqs q hq).1, (hqs q hq).2⟩) hDl hok⟩
/-- the dict stands at p, its lists at qs -/
structure DLs (a : Ty K α) (S : AS) (H : Hp) (p : Addr) (qs : List Addr) (xs : List (Str × List α)) : Prop where
  at_ : H p = some (.dK (kvq (xs.map Prod.fst) qs))
  len : xs.length = qs.length
  ls : All2 (fun q (x : Str × List α) => ∃ vs, H q = some (.lst vs) ∧ All2 (a.rp S H) vs x.2) qs xs
  nd : (p :: qs).Nodup
  kd : (xs.map Prod.fst).Nodup
  ok : ∀ x ∈ xs, PyData.strOk x.1 = true
end
end M

namespace M
open PySem L2 G
section
variable {K : PySem.W.Frag} {α β γ δ : Type} {S T : AS} {σ : St} {H : Hp} {ta tb te tv ty : TE} {a : Ty K α} {b' : Ty K β} {D : Ends} {u : TS}
def LsR (a : Ty K α) (S : AS) (H : Hp) (q : Addr) (x : Str × List α) : Prop := ∃ vs, H q = some (.lst vs) ∧ All2 (a.rp S H) vs x.2
theorem dls_find {k : Str} {l : List α} {H : Hp} : ∀ {qs : List Addr} {xs : List (Str × List α)}, All2 (LsR a S H) qs xs → (xs.map Prod.fst).Nodup → qs.Nodup → getK xs k = some l →
    ∃ q ∈ qs, valV (kvq (xs.map Prod.fst) qs) (Sum.inr k) = some (.ref q) ∧ LsR a S H q (k, l) ∧
      ∀ H' l', Fr S H H' → (∀ b o, b ≠ q → H b = some o → H' b = some o) → LsR a S H' q (k, l') → All2 (LsR a S H') qs (xs.map fun p => if p.1 = k then (p.1, l') else p)
  | _, _, .nil, _, _, e => by cases e
  | q0 :: qs, x0 :: xs, .cons h r, hn, hq, e => by
    rw [List.map_cons, List.nodup_cons] at hn
    rw [List.nodup_cons] at hq
    by_cases c : x0.1 = k
    · have e1 : getK (x0 :: xs) k = some x0.2 := by simp [getK, c]
      rw [e1] at e
      cases e
      refine ⟨q0, List.mem_cons_self, ?_, h, fun H' l' f m hl => ?_⟩
      · simp [kvq, valV, c]
      · rw [List.map_cons, if_pos c]
        refine .cons hl ?_
        have : xs.map (fun p => if p.1 = k then (p.1, l') else p) = xs := by
          conv => rhs; rw [← List.map_id xs]
          refine List.map_congr_left fun p hp => ?_
          rw [if_neg]
          · rfl
          · exact fun z => hn.1 (c ▸ z ▸ List.mem_map.mpr ⟨p, hp, rfl⟩)
        rw [this]
        clear this e1
        have aux : ∀ {qs : List Addr} {xs : List (Str × List α)}, All2 (LsR a S H) qs xs → q0 ∉ qs → All2 (LsR a S H') qs xs := by
          intro qs xs r
          induction r with
          | nil => exact fun _ => .nil
          | cons h r ih =>
            intro nq
            obtain ⟨vs, hv, ha⟩ := h
            exact .cons ⟨vs, m _ _ (fun z => nq (z ▸ List.mem_cons_self)) hv, ha.imp fun _ _ => a.mono f⟩ (ih fun z => nq (List.mem_cons_of_mem _ z))
        exact aux r hq.1
    · have e1 : getK (x0 :: xs) k = getK xs k := by simp [getK, c]
      rw [e1] at e
      obtain ⟨q, hm, hv, hl, hh⟩ := dls_find r hn.2 hq.2 e
      refine ⟨q, List.mem_cons_of_mem _ hm, ?_, hl, fun H' l' f m hl => ?_⟩
      · rw [← hv]
        simp [kvq, valV, c]
      · rw [List.map_cons, if_neg c]
        obtain ⟨vs, hv, ha⟩ := h
        exact .cons ⟨vs, m _ _ (fun z => hq.1 (z ▸ hm)) hv, ha.imp fun _ _ => a.mono f⟩ (hh H' l' f m hl)
theorem DLs.same {H' : Hp} {p : Addr} {qs : List Addr} {xs : List (Str × List α)} (h : DLs a S H p qs xs) (s : Same H H') : DLs a S H' p qs xs :=
  ⟨s _ _ h.at_, h.len, h.ls.imp fun _ _ ⟨vs, hv, ha⟩ => ⟨vs, s _ _ hv, ha.imp fun _ _ => a.mono (Fr.same s)⟩, h.nd, h.kd, h.ok⟩
/-- d[k].append(x) -/
def appK? (xs : List (Str × List α)) (k : Str) (x : α) : Option (List (Str × List α)) := bd (getK xs k) fun l => bd (app? l x) fun l' => some (putL xs k l')
theorem l_appK {p : Addr} {qs : List Addr} {xs ys : List (Str × List α)} {i : Nat} {rk : Option Str} {k : Str} {r : Option α} {x : α} (d : Dom S H) (o : DLs a S H p qs xs) (iq : ∀ q ∈ qs, q ∈ S) (hi : σ[i]? = some (some (.ref p)))
    (hk : Ev S T ty σ H (of (K := K) tStr S) rk) (ek : rk = some k) (h : Ev S T te σ H (of a S) r) (e : r = some x) (f : appK? xs k x = some ys)
    (kk : ∀ H1, Fr qs H H1 → (∀ q ∈ qs, H1 q ≠ none) → DLs a S H1 p qs ys → D.nx σ H1) : tDrop (tBM K "list" rAppend (tDGet (tVar i) ty) (tCons te tNil)) D σ H := by
  unfold appK? at f
  obtain ⟨l, el, f⟩ := bd_some f
  obtain ⟨l', el', f⟩ := bd_some f
  cases f
  unfold app? at el'
  split at el'
  · rename_i hl
    cases el'
    refine ⟨_, hi, ?_⟩
    refine hk k ek H (Fr.refl _) d _ fun w H2 s2 hw => ?_
    obtain ⟨rfl, hok⟩ : w = .str k ∧ PyData.strOk k = true := hw
    have o2 := o.same s2
    obtain ⟨q, hq, hv, ⟨vs, hvs, ha⟩, hh⟩ := dls_find o2.ls o2.kd (List.nodup_cons.mp o2.nd).2 el
    refine ⟨p, .ref q, rfl, .inl ⟨_, _, .inl o2.at_, rfl, hv.symm⟩, ?_⟩
    refine ⟨Or.inl ⟨rfl, vs, .inl (.inl hvs)⟩, h x e H2 (Fr.same s2) (d.same s2) _ fun v H3 s3 hx => ?_⟩
    refine ⟨q, vs, v, rfl, rfl, s3 _ _ hvs, Nat.lt_of_lt_of_le (by rw [ha.len]; exact hl) (by decide), ?_⟩
    have im := iq q hq
    have f1 : Fr S H3 (upd H3 q (.lst (vs ++ [v]))) := fr_upd im
    have hp : p ≠ q := fun z => (List.nodup_cons.mp o2.nd).1 (z ▸ hq)
    have hmem : k ∈ xs.map Prod.fst := List.mem_map.mpr ⟨(k, l), dget_mem el, rfl⟩
    have fq : Fr qs H3 (upd H3 q (.lst (vs ++ [v]))) := fr_upd hq
    refine kk _ (((Fr.same s2).trans (Fr.same s3)).trans fq) (fun b hb => ?_) ⟨?_, ?_, ?_, o.nd, ?_, ?_⟩
    · by_cases c : b = q
      · subst c; rw [upd_same]; intro z; cases z
      · rw [upd_ne c]
        exact ((d.same s2).same s3) b (iq b hb)
    · rw [dput_keys_old hmem, upd_ne hp]
      exact s3 _ _ o2.at_
    · rw [dput_old hmem, List.length_map]; exact o.len
    · rw [dput_old hmem]
      refine hh _ _ ((Fr.same s3).trans f1) (fun b o nb eb => by rw [upd_ne nb]; exact s3 _ _ eb) ⟨vs ++ [v], upd_same, ?_⟩
      exact ((ha.imp fun _ _ h => a.mono (Fr.same s3) h).snoc hx).imp fun _ _ h => a.mono f1 h
    · rw [dput_keys_old hmem]; exact o.kd
    · intro y hy
      rw [dput_old hmem] at hy
      obtain ⟨z, hz, ez⟩ := List.mem_map.mp hy
      have := o.ok z hz
      split at ez <;> subst ez <;> exact this
  · cases el'
theorem q_appK {p : Addr} {qs : List Addr} {xs ys : List (Str × List α)} {i : Nat} {rk : Option Str} {k : Str} {r : Option α} {x : α} (d : Dom S H) (o : DLs a S H p qs xs) (iq : ∀ q ∈ qs, q ∈ S) (hi : σ[i]? = some (some (.ref p)))
    (hk : Ev S T ty σ H (of (K := K) tStr S) rk) (ek : rk = some k) (h : Ev S T te σ H (of a S) r) (e : r = some x) (f : appK? xs k x = some ys)
    (kk : ∀ H1, Fr qs H H1 → (∀ q ∈ qs, H1 q ≠ none) → DLs a S H1 p qs ys → u D σ H1) : tSeq (tDrop (tBM K "list" rAppend (tDGet (tVar i) ty) (tCons te tNil))) u D σ H := l_appK (D := { D with nx := u D }) d o iq hi hk ek h e f kk
theorem DLs.rp {p : Addr} {qs : List Addr} {S' : AS} {xs : List (Str × List α)} (h : DLs a S H p qs xs) (np : p ∉ S') (nq : ∀ q ∈ qs, q ∉ S') (sb : Sub S' S) : (tD Str (tL a)).rp S' H (.ref p) xs := by
  refine ⟨p, _, rfl, ⟨h.at_, np⟩, ?_, h.kd⟩
  have aux : ∀ {qs : List Addr} {xs : List (Str × List α)}, All2 (LsR a S H) qs xs → (∀ x ∈ xs, PyData.strOk x.1 = true) → (∀ q ∈ qs, q ∉ S') → All2 (KvP (tL a) S' H) (kvq (xs.map Prod.fst) qs) xs := by
    intro qs xs r
    induction r with
    | nil => exact fun _ _ => .nil
    | cons h r ih =>
      intro hk hq
      obtain ⟨vs, hv, ha⟩ := h
      refine .cons ⟨rfl, hk _ List.mem_cons_self, _, vs, rfl, ⟨hv, hq _ List.mem_cons_self⟩, ha.imp fun _ _ => a.sub sb⟩ (ih (fun x hx => hk x (List.mem_cons_of_mem _ hx)) fun q hq' => hq q (List.mem_cons_of_mem _ hq'))
  exact aux h.ls h.ok nq
theorem DLs.empty {p : Addr} {qs : List Addr} {xs : List Str} (hl : xs.length = qs.length) (nd : (p :: qs).Nodup) (hn : xs.Nodup) (hq : ∀ q ∈ qs, H q = some (.lst [])) (hp : H p = some (.dK (kvq xs qs))) (ok : ∀ z ∈ xs, PyData.strOk z = true) : DLs a S H p qs (xs.map fun x => (x, [])) := by
  have em : (xs.map fun x => (x, ([] : List α))).map Prod.fst = xs := by rw [List.map_map]; exact List.map_id _
  refine ⟨by rw [em]; exact hp, by rw [List.length_map]; exact hl, ?_, nd, by rw [em]; exact hn, fun x hx => ?_⟩
  · have aux : ∀ {qs : List Addr} {xs : List Str}, xs.length = qs.length → (∀ q ∈ qs, H q = some (.lst [])) → All2 (LsR a S H) qs (xs.map fun x => (x, [])) := by
      intro qs
      induction qs with
      | nil => intro xs h _; cases xs with | nil => exact .nil | cons => simp at h
      | cons q qs ih =>
        intro xs h hq
        cases xs with
        | nil => simp at h
        | cons x xs => exact .cons ⟨[], hq _ List.mem_cons_self, .nil⟩ (ih (by simpa using h) fun q hq' => hq q (List.mem_cons_of_mem _ hq'))
    exact aux hl hq
  · obtain ⟨z, hz, rfl⟩ := List.mem_map.mp hx
    exact ok z hz
end
section
variable {K : PySem.W.Frag} {S T : AS} {σ : St} {H : Hp} {D : Ends} {u : TS}
theorem q_dcE {wi : TI} {i j : Nat} {ws : List Nat} {r : Option (List Str)} {xs : List Str} (d : Dom S H) (h : Sr S T wi σ H (tStr (K := K)) r) (e : r = some xs) (hn : xs.Nodup) (hl : xs.length < 100000) (hw : ∀ x, wipe ((wipe σ ws).set j (some x)) ws = wipe σ ws) (hj : ∀ x, ((wipe σ ws).set j (some x))[j]? = some (some x))
    (q : ∀ (p : Addr) (qs : List Addr) (H' : Hp), Same H H' → H p = none → xs.length = qs.length → (p :: qs).Nodup → (∀ q ∈ qs, H q = none ∧ H' q = some (.lst [])) → H' p = some (.dK (kvq xs qs)) → (∀ z ∈ xs, PyData.strOk z = true) → u D (σ.set i (some (.ref p))) H') :
    tSeq (tAsg (tDc wi (gName j) tYes (tVar j) (tLst tNil) ws) (gName i)) u D σ H :=
  dc_empty (Q := fun v H1 => gName i v σ H1 (u D)) d h e hn hl hw hj q
end
section
open PySem.Spec PyProof.Rows
variable {X : Cx}
/-- p holds wherever the block of a comprehension may stand -/
def InBlk (X : Cx) (scope : Scope) (p : Cx → Prop) : Prop := ∀ s H C cl fp, p (X.blk s H scope (compEnvC scope cl C X.env) fp)
/-- x = {k: v for t in xs}, x a plain local of the def: the dict goes into its slot while the block ends -/
theorem ps_setDc {i : Nat} {x : Str} {px : Pos} {ke ve t xs : Expr} {fs : List Expr} {scope : Scope} {own : List (Str × Nat)} {q sq : Pos} {ws : TI} {g : TG} {tf : TT} {tk tv : TE} (calm : X.calm = true) (nd : X.N.Nodup) (at_ : X.N[i]? = some x) (loc : X.env.scope.names.lookup x = some .local)
    (sw : swapsWith (.DictComp ke ve [⟨t, xs, fs, 0⟩] scope q) (some (.Name x px)) sq.line X.env = pure true) (src : PI X t xs ws) (blk : BlkOk X.N X.env.scope scope own)
    (pt : InBlk X scope fun Y => PG Y t g) (pf : InBlk X scope fun Y => PTs Y fs tf) (pk : InBlk X scope fun Y => PE Y ke tk) (pv' : InBlk X scope fun Y => PE Y ve tv) (fo : ∀ z, foldedSetIterable xs X.env z = pure z := by intro _; rfl) :
    PS X (.Assign [.Name x px] (.DictComp ke ve [⟨t, xs, fs, 0⟩] scope q) sq) (tAsg (tDc ws g tf tk tv (own.map (·.2))) (gName i)) := by
  constructor
  intro pins s σ H D inv goal
  rw [exec_Assign_Name_used x px _ sq sw]
  apply wpAny_bind
  apply wpAny_standAt
  apply wpAny_bind
  apply wpAny_bind
  refine thn (dc_core (Q := fun v H1 => gName i v σ H1 D.nx) (Qf := fun _ s' => SP X pins D .next s') calm nd inv src blk pt pf pk pv' fo goal ?_) (fun _ _ done => wpAny_pure (wpAny_pure done))
  intro L C s' n H' inv' put ns fp
  apply wpAny_assign_Name
  apply store_ok2 (v := V.ref L) inv' nd at_ (.inl loc) rfl ?_ (.inr loc)
  rintro s2 inv2 ⟨a, sb, ha⟩
  obtain ⟨e0, e1, _, e3, e4, e5⟩ := fp
  have away : C ≠ a := fun e => ha.elim (fun z => e1 (e.trans z)) fun z => e4 x a z e.symm
  refine ⟨n, ns.sameBut sb away, fun s3 sb3 => ⟨_, H', ?_, put⟩⟩
  exact inv2.turned (t' := s2.toks) (fun b o ne eb => (sb3.2 b ne).trans eb) e0 e1 e3 e4 e5
theorem sw_trueD {ke ve : Expr} {cs : List Comprehension} {scope : Scope} {q px : Pos} {x : Str} {l : Nat} {env : PySem.Env} (fn : env.scope.kind = .function) (loc : env.scope.names.lookup x = some .local) (line : (px.line == q.line) = true)
    (free : (scope.names.any fun (n, k) => n == x && (k == .local || k == .cell)) = false) : swapsWith (.DictComp ke ve cs scope q) (some (.Name x px)) l env = pure true := by
  have kx : env.kindOf x = some .local := loc
  have bk : env.blockKind = .function := by simp only [Env.blockKind, fn]; rfl
  simp only [swapsWith, bk, kx, free, Expr.pos, line]
  rfl
end
end M

namespace M
open PySem L2 G
section
variable {K : PySem.W.Frag} {α : Type} {S T : AS} {σ : St} {H : Hp} {te : TE} {a : Ty K α} {D : Ends} {u : TS} {b c : Addr}
/-- xs.append(e), e drawn -/
theorem lw_app {p : Addr} {xs : List α} {i : Nat} {w : Wp α} {R : List α → Prop} (d : Dom S H) (hB : Bag H b c) (ts : Sub [b, c] S) (o : Own a S H p xs) (im : p ∈ S) (nt : p ∉ [b, c]) (hi : σ[i]? = some (some (.ref p))) (h : EvW b c S te σ H (of a S) w)
    (e : w fun x => lf (app? xs x) R)
    (q : ∀ ys H1 H2, R ys → Fr [b, c] H H1 → Dom S H1 → Bag H1 b c → Mut1 p H1 H2 → Fr S H1 H2 → Own a S H2 p ys → D.nx σ H2) : tDrop (tBM K "list" rAppend (tVar i) (tCons te tNil)) D σ H := by
  obtain ⟨vs0, hv0, ha0⟩ := id o
  refine ⟨_, hi, Or.inl ⟨rfl, vs0, .inl (.inl hv0)⟩, h ts _ e H (Fr.refl _) d hB _ fun v H1 x ⟨ys, ey, hR⟩ f1 d1 hB1 hx => ?_⟩
  obtain ⟨vs, hv, ha⟩ := o.fr f1 ts nt
  unfold app? at ey
  split at ey
  · rename_i hl
    cases ey
    have g1 : Fr S H1 (upd H1 p (.lst (vs ++ [v]))) := fr_upd im
    refine ⟨p, vs, v, rfl, rfl, hv, Nat.lt_of_lt_of_le (by rw [ha.len]; exact hl) (by decide), ?_⟩
    refine q _ H1 _ hR f1 d1 hB1 ⟨fun b ob e n => by rw [upd_ne n]; exact e, by rw [upd_same]; intro z; cases z⟩ g1 ⟨_, upd_same, ?_⟩
    exact (ha.snoc hx).imp fun _ _ h => a.mono g1 h
  · cases ey
theorem qw_app {p : Addr} {xs : List α} {i : Nat} {w : Wp α} {R : List α → Prop} (d : Dom S H) (hB : Bag H b c) (ts : Sub [b, c] S) (o : Own a S H p xs) (im : p ∈ S) (nt : p ∉ [b, c]) (hi : σ[i]? = some (some (.ref p))) (h : EvW b c S te σ H (of a S) w)
    (e : w fun x => lf (app? xs x) R)
    (q : ∀ ys H1 H2, R ys → Fr [b, c] H H1 → Dom S H1 → Bag H1 b c → Mut1 p H1 H2 → Fr S H1 H2 → Own a S H2 p ys → u D σ H2) : tSeq (tDrop (tBM K "list" rAppend (tVar i) (tCons te tNil))) u D σ H := lw_app (D := { D with nx := u D }) d hB ts o im nt hi h e q
end
end M

/-! ### defs that refuse with a number, several classes -/
namespace M
open PySem L2 G
abbrev Rf2 : Type := Nat × Int
section
variable {K : PySem.W.Frag} {α β γ : Type} {S T : AS} {σ : L2.St} {H : Hp} {te : TE} {D : Ends} {u : TS}
def Xq2 (cl : Nat → Addr × Str) (E : XK) (H : Hp) (e : Rf2) : Prop := ∀ G d, Same H G → G d = none → E (.ref (cl e.1).1) (some d) (upd G d (.xd [((cl e.1).2, .int e.2)]))
theorem Xq2.same {cl : Nat → Addr × Str} {E : XK} {H G : Hp} {e : Rf2} (s : Same H G) (h : Xq2 cl E H e) : Xq2 cl E G e := fun G' d s' nd => h G' d (s.trans s') nd
def spX2 (ar : TyA K α) (R : AS → Rl γ) (cl : Nat → Addr × Str) (f : α → Option (Rf2 ⊕ γ)) : Sp := fun vs H Q E => ∃ (S : AS) (x : α) (y : Rf2 ⊕ γ), Dom S H ∧ ar.rp S H vs x ∧ f x = some y ∧
  (∀ z, y = .inr z → ∀ v G, Same H G → (R S).r H G v z → Q v G) ∧ (∀ e, y = .inl e → Xq2 cl E H e)
def EvX2 (S T : AS) (te : TE) (σ : L2.St) (H : Hp) (R : Rl γ) (cl : Nat → Addr × Str) (E : XK) (r : Option (Rf2 ⊕ γ)) : Prop :=
  ∀ y, r = some y → ∀ G, Fr T H G → Dom S G → ∀ Q : VK, (∀ z, y = .inr z → ∀ v G', Same G G' → R.r G G' v z → Q v G') → (∀ e, y = .inl e → Xq2 cl E G e) → te σ G Q
theorem ev_callX2 {tr : TA} {ar : TyA K α} {r : Option α} {R : AS → Rl γ} {cl : Nat → Addr × Str} {f : α → Option (Rf2 ⊕ γ)} {E : L2.St → XK} (h : EvA S T tr σ H ar r) : EvX2 S T (tCallS (spX2 ar R cl f) E tr) σ H (R S) cl (E σ) (bd r f) := by
  intro y e G fr d Q q qx
  have ⟨x, ex, ey⟩ := bd_some e
  exact h x ex G fr d _ fun vs G' s hv => ⟨S, x, y, d.same s, hv, ey, fun z ez v G2 s2 hz => q z ez v G2 (s.trans s2) ((R S).same s hz), fun e' ee => (qx e' ee).same s⟩
theorem q_asgX2 {i : Nat} {R : Rl γ} {cl : Nat → Addr × Str} {E : XK} {r : Option (Rf2 ⊕ γ)} {y : Rf2 ⊕ γ} (d : Dom S H) (h : EvX2 S T te σ H R cl E r) (e : r = some y) (k : ∀ z, y = .inr z → ∀ v G, Same H G → R.r H G v z → u D (σ.set i (some v)) G) (kx : ∀ e, y = .inl e → Xq2 cl E H e) :
    tSeq (tAsg te (gName i)) u D σ H := h y e H (Fr.refl _) d _ (fun z ez v G s hv => k z ez v G s hv) kx
end
end M

/-! ### min of two texts; int of a truth; in a written list; a list but for its first -/
namespace M
open PySem L2 G
open PySem.Spec PyProof.Rows in
theorem min_texts {prog : Program} {w : World} {A : Around} {E : Value → Shared → Prop} {s : Shared} {Q : Value → Shared → Prop} {x y : Str} {t u : Tok} (hh : A.handled = none)
    (h : ∀ g k, (∀ c o, s.heap.get? c = some o → g.get? c = some o) → Q (if ltS y x then .str y u else .str x t) { s with heap := g, toks := k }) : wpAny (model prog w) A (call (.builtin "min") [.str x t, .str y u]) Q E s := by
  let its : Array Value := #[.str x t, .str y u]
  let ob : Obj := { cls := .type "tuple", data := .seq its }
  have tup : (s.heap.push ob).IsTuple s.heap.objs.size its := ⟨_, Heap.get?_push_size _ rfl, rfl, 0, rfl⟩
  have n1 : ∀ ob : Obj, (s.heap.push ob).objs.size = s.heap.objs.size + 1 := fun _ => Heap.size_push ..
  let pick : Nat → Str := fun i => if i = 0 then x else y
  have lt : CmpOf prog w A.in1 .Lt (fun i v => its[i]? = some v) (fun i j => ltS (pick i) (pick j)) := by
    intro i j vi vj s' Q' E' hi hj q
    have one : ∀ {i : Nat} {v : Value}, its[i]? = some v → ∃ t, v = .str (pick i) t := by
      intro i v e
      match i, e with
      | 0, e => exact ⟨t, (Option.some.inj e).symm⟩
      | 1, e => exact ⟨u, (Option.some.inj e).symm⟩
      | n + 2, e => simp [its] at e
    obtain ⟨ti, rfl⟩ := one hi
    obtain ⟨tj, rfl⟩ := one hj
    exact P.lt_str q
  apply call_min_two
  apply wpAny_pyIter_tuple tup
  refine ⟨_, [_, s.heap.objs.size], [_], 2, _, _, _, rfl, Walks.tuple (A := A.in1) hh _ s.heap.objs.size (by rw [n1]; exact Nat.ne_of_lt (Nat.lt_succ_self _)) its, ⟨⟨_, Heap.get?_push_size _ rfl, rfl, rfl⟩, tup.push _⟩, ?_, by decide, lt, ?_⟩
  · intro c hc
    show c < ((s.heap.push _).push _).objs.size
    rw [Heap.size_push, n1]
    rcases List.mem_cons.mp hc with e | hc
    · rw [e]
      exact (n1 _).symm ▸ Nat.lt_succ_self _
    · rw [List.mem_singleton.mp hc]
      exact Nat.lt_succ_of_lt (Nat.lt_succ_self _)
  · intro v g k best keep
    have res := h g k fun c o e => keep c o (fun m => by
      have l := Heap.lt_size e
      rw [List.mem_singleton.mp m, n1] at l
      exact Nat.lt_irrefl _ (Nat.lt_of_succ_lt l)) (Heap.get?_push_of_some _ (Heap.get?_push_of_some _ e))
    have ev : v = if ltS y x then .str y u else .str x t := by
      cases c : ltS y x <;> simp [argBest, pick, its, c] at best <;> simp [best]
    exact ev ▸ res
theorem call_minT {X : Cx} (hc : X.calm = true) : CallR X (.builtin "min") (fun xs H Q => ∃ x y : Str, xs = [.str x, .str y] ∧ Q (.str (if ltS y x then y else x)) H) := by
  intro pins s σ H xs us Q I r h
  obtain ⟨x, y, rfl, q⟩ := h
  obtain ⟨_, _, rfl, ⟨t, rfl⟩, u, rfl⟩ := vals2 r
  refine min_texts (I.ok.hd hc) fun g k keep => ⟨_, H, I.kept keep, ?_, q⟩
  split <;> exact ⟨_, rfl⟩
def minS (x y : Str) : Str := if ltS y x then y else x
section
variable {K : PySem.W.Frag} {S T : AS} {σ : L2.St} {H : Hp} {ta tb : TE} {α : Type} {a : Ty K α}
theorem ev_minT {r q : Option Str} (h : Ev S T ta σ H (of (K := K) tStr S) r) (h' : Ev S T tb σ H (of (K := K) tStr S) q) :
    Ev S T (tCB (fun xs H Q => ∃ x y : Str, xs = [.str x, .str y] ∧ Q (.str (if ltS y x then y else x)) H) (tCons ta (tCons tb tNil))) σ H (of (K := K) tStr S) (bd r fun x => bd q fun y => some (minS x y)) := by
  intro z e H1 f1 d Q k
  obtain ⟨x, ex, e⟩ := bd_some e
  obtain ⟨y, ey, e⟩ := bd_some e
  cases e
  refine h x ex H1 f1 d _ fun v H2 s2 hv => h' y ey H2 (f1.trans (Fr.same s2)) (d.same s2) _ fun w H3 s3 hw => ?_
  have e1 := hv.1
  have e2 := hw.1
  subst e1
  subst e2
  refine ⟨x, y, rfl, k _ H3 (s2.trans s3) ⟨rfl, ?_⟩⟩
  unfold minS
  split
  · exact hw.2
  · exact hv.2
/-- len of a pair -/
theorem ev_len2 {β : Type} {b' : Ty K β} {r : Option (α × β)} (h : Ev S T ta σ H (of (tT2 a b') S) r) : Ev S T (tCB (fun xs H Q => ∃ p ys, xs = [.ref p] ∧ (SqL K H p ys ∨ SqT K H p ys) ∧ Q (.int ys.length) H) (tCons ta tNil)) σ H (of (K := K) tInt S) (bd r fun _ => some (2 : Int)) := by
  intro z e H1 f1 d Q k
  obtain ⟨x, ex, e⟩ := bd_some e
  cases e
  refine h x ex H1 f1 d _ fun v H2 s2 hv => ?_
  obtain ⟨p, y, w, rfl, hp, _⟩ := hv
  exact ⟨p, _, rfl, .inr hp.sq, k _ H2 s2 rfl⟩
end
/-! ### list(d) -/
def rListDk : List V → Hp → VK → Prop := fun xs H Q => ∃ (a : Addr) (kvs : List (Key × V)), xs = [.ref a] ∧ Rd H a (.dK kvs) ∧ ∀ p, H p = none → Q (.ref p) (upd H p (.lst (kvs.map fun kv => kV kv.1)))
theorem cr_listDk {X : Cx} (hc : X.calm = true) : CallR X (.type "list") rListDk := call_listD hc
theorem ev_listDS {K : PySem.W.Frag} {β : Type} {b' : Ty K β} {S T : AS} {σ : L2.St} {H : Hp} {te : TE} {r : Option (List (Str × β))} (h : Ev S T te σ H (of (tD Str b') S) r) :
    Ev S T (tCB rListDk (tCons te tNil)) σ H (nw (tStr (K := K)) S) (bd r fun x => some (x.map Prod.fst)) := by
  intro z e H1 f1 d Q q
  obtain ⟨x, ex, e⟩ := bd_some e
  cases e
  refine h x ex H1 f1 d _ fun v H2 s ⟨p, kvs, ev, hp, ha, hn⟩ => ?_
  subst ev
  obtain ⟨k1, k2⟩ := keys_S ha
  refine ⟨p, kvs, rfl, .inl hp.1, fun l nl => q _ _ (s.trans (same_new nl)) ⟨l, rfl, s.free nl, _, upd_same, ?_⟩⟩
  have e1 : (kvs.map fun kv => kV kv.1) = (x.map Prod.fst).map V.str := by
    have := congrArg (List.map kV) k1
    rw [List.map_map, List.map_map] at this
    exact this
  rw [e1]
  exact all_strs fun z hz => k2 z hz
theorem dom_back {S S' : AS} {G : Hp} {p : Addr} {o : HO} (d : Dom S' G) (e : G p = some o) (h : ∀ a ∈ S, a = p ∨ a ∈ S') : Dom S G := fun a m => by
  rcases h a m with rfl | m
  · rw [e]; exact fun z => nomatch z
  · exact d a m
end M

/-! ### sets of texts -/
namespace TxS
open PySem PySem.Spec PyProof.Rows L2
/-- rows that go together, one by one -/
inductive Two {α β : Type} (R : α → β → Prop) : List α → List β → Prop
  | nil : Two R [] []
  | cons {a b l m} : R a b → Two R l m → Two R (a :: l) (b :: m)
section
variable {α β : Type} {R : α → β → Prop}
theorem Two.len {l : List α} {m : List β} (h : Two R l m) : l.length = m.length := by
  induction h with
  | nil => rfl
  | cons _ _ ih => simp [ih]
theorem Two.app {l l' : List α} {m m' : List β} (h : Two R l m) (h' : Two R l' m') : Two R (l ++ l') (m ++ m') := by
  induction h with
  | nil => exact h'
  | cons a _ ih => exact .cons a ih
theorem Two.perm {l l' : List α} (p : l'.Perm l) : ∀ {m : List β}, Two R l m → ∃ m', m'.Perm m ∧ Two R l' m' := by
  induction p with
  | nil => intro m h; exact ⟨m, .refl _, h⟩
  | cons x _ ih =>
    intro m h
    cases h with
    | cons a r =>
      obtain ⟨m', q, t⟩ := ih r
      exact ⟨_, q.cons _, .cons a t⟩
  | swap x y l =>
    intro m h
    cases h with
    | cons a r =>
      cases r with
      | cons b r => exact ⟨_, .swap .., .cons b (.cons a r)⟩
  | trans _ _ ih1 ih2 =>
    intro m h
    obtain ⟨m1, q1, t1⟩ := ih2 h
    obtain ⟨m2, q2, t2⟩ := ih1 t1
    exact ⟨m2, q2.trans q1, t2⟩
theorem Two.left {l : List α} {m : List β} (h : Two R l m) {x : α} (hx : x ∈ l) : ∃ y ∈ m, R x y := by
  induction h with
  | nil => cases hx
  | cons a _ ih =>
    rcases List.mem_cons.mp hx with rfl | hx
    · exact ⟨_, .head _, a⟩
    · obtain ⟨y, hy, r⟩ := ih hx
      exact ⟨y, .tail _ hy, r⟩
theorem Two.right {l : List α} {m : List β} (h : Two R l m) {y : β} (hy : y ∈ m) : ∃ x ∈ l, R x y := by
  induction h with
  | nil => cases hy
  | cons a _ ih =>
    rcases List.mem_cons.mp hy with rfl | hy
    · exact ⟨_, .head _, a⟩
    · obtain ⟨x, hx, r⟩ := ih hy
      exact ⟨x, .tail _ hx, r⟩
end
def Ent (w : World) (e : Int × Value) (k : Str) : Prop := ∃ tk, e = (hashStr w k, .str k tk)
/-- the set at a: its texts one by one in L, its table fit to be walked -/
structure Has (w : World) (h : Heap) (a : Addr) (L : List Str) (o : Obj) (es : Array (Int × Value)) (ep : Nat) (t : SetTable) : Prop where
  at_ : h.get? a = some o
  ex : o.ExactSet
  dat : o.data = .set es ep t
  two : Two (Ent w) es.toList L
  nd : L.Nodup
  few : es.size < scanBound
  fit : t.fits es.size = true
  ris : Ris t.place.toList
  led : w.params.followText "set-order" = true ∨ t.led = true
def Tx (w : World) (h : Heap) (a : Addr) (L : List Str) : Prop := ∃ o es ep t, Has w h a L o es ep t
section
variable {P : Program} {w : World} {A : Around} {E : Value → Shared → Prop} {s : Shared} {a : Addr} {L : List Str}
theorem isIt (k : Str) (t : Tok) : (PySem.strKind P w).is k (.str k t) = true := by simp [PySem.strKind, Value.isStrOf]
theorem elems {l : List (Int × Value)} (h : Two (Ent w) l L) : ElemsOf (PySem.strKind P w) l := fun e he => by
  obtain ⟨k, _, tk, rfl⟩ := h.left he
  exact ⟨⟨k, isIt k tk, rfl⟩, rfl⟩
theorem keyIn {l : List (Int × Value)} (h : Two (Ent w) l L) (k : Str) : k ∈ L ↔ ∃ e ∈ l, (PySem.strKind P w).is k e.2 = true := by
  constructor
  · intro m
    obtain ⟨e, he, tk, rfl⟩ := h.right m
    exact ⟨_, he, isIt k tk⟩
  · rintro ⟨e, he, q⟩
    obtain ⟨k', m, tk, rfl⟩ := h.left he
    exact (PySem.strKind P w).inj _ _ _ q (isIt k' tk) ▸ m
/-- what is laid into the set's object -/
theorem Has.laid {o : Obj} {es : Array (Int × Value)} {ep : Nat} {t : SetTable} (H : Has w s.heap a L o es ep t) {es' : Array (Int × Value)} {t' : SetTable} {L' : List Str} (two : Two (Ent w) es'.toList L') (nd : L'.Nodup) (few : es'.size < scanBound) (fit : t'.fits es'.size = true) (ris : Ris t'.place.toList)
    (led : w.params.followText "set-order" = true ∨ t'.led = true) : Has w (s.heap.update a (Obj.putSet es' t')) a L' { o with data := .set es' (ep + 1) t' } es' (ep + 1) t' :=
  ⟨store_at H.at_ H.dat, H.ex, rfl, two, nd, few, fit, ris, led⟩
theorem few_fits {n : Nat} (h : n < scanBound) : n ≤ sizeLine := fits_of_scanBound h
/-- behind the laying of a new text: the table may have to grow -/
theorem grows {o : Obj} {es : Array (Int × Value)} {ep : Nat} {t : SetTable} (H : Has w s.heap a L o es ep t) {g : Bool → Sem Unit} (hg : ∀ (b : Bool) (s₁ : Shared) (Q' : Unit → Shared → Prop), Q' () s₁ → wpAny (model P w) A (g b) Q' E s₁)
    {es' : Array (Int × Value)} {t' : SetTable} {L' : List Str} (two : Two (Ent w) es'.toList L') (nd : L'.Nodup) (few : es'.size < scanBound) (fit : t'.fits es'.size = true) (ris : Ris t'.place.toList) (led : w.params.followText "set-order" = true ∨ t'.led = true) {dummy : Bool}
    {R : Option Bool → Shared → Prop} (hR : ∀ h' M, Heap.SameBut a s.heap h' → M.Perm L' → Tx w h' a M → R (some true) { s with heap := h' }) :
    wpAny (model P w) A (do
        storeSet a es' t'
        if (!dummy && t'.tooFull) = true then do
            g (relayAll t' es' (SetTable.grown es'.size)).2.2
            storeSet a (relayAll t' es' (SetTable.grown es'.size)).1 (relayAll t' es' (SetTable.grown es'.size)).2.1
            pure (some true)
          else pure (some true)) R E s := by
  have H1 := H.laid two nd few fit ris led
  have sb := Heap.SameBut.update s.heap a (Obj.putSet es' t')
  apply wpAny_bind
  refine wpAny_storeSet_of H.at_ H.dat ?_ (few_fits few)
  by_cases full : (!dummy && t'.tooFull) = true
  · rw [if_pos full]
    have pm := relayAll_perm t' es' (SetTable.grown es'.size)
    obtain ⟨M, pM, tM⟩ := Two.perm pm two
    have sz : (relayAll t' es' (SetTable.grown es'.size)).1.size = es'.size := by
      have := pm.length_eq
      rwa [Array.length_toList, Array.length_toList] at this
    have H2 := Has.laid (s := { s with heap := s.heap.update a (Obj.putSet es' t') }) H1 tM (pM.nodup_iff.mpr nd) (by rw [sz]; exact few) (relayAll_fits t' es' _) (relayAll_ris t' es' _) (led.imp id fun z => (relayAll_led t' es' _).trans z)
    apply wpAny_bind
    apply hg
    apply wpAny_bind
    refine wpAny_storeSet_of H1.at_ H1.dat ?_ (few_fits (by rw [sz]; exact few))
    exact wpAny_pure (hR _ M (sb.trans (Heap.SameBut.update _ a _)) pM ⟨_, _, _, _, H2⟩)
  · rw [if_neg full]
    exact wpAny_pure (hR _ L' sb (.refl _) ⟨_, _, _, _, H1⟩)
/-- a text is added -/
theorem add_tx {k : Str} {tk : Tok} {Q : Bool → Shared → Prop} (H : Tx w s.heap a L) (room : L.length + 1 < scanBound)
    (hQ : ∀ h' M b, Heap.SameBut a s.heap h' → Tx w h' a M → (∀ j, j ∈ M ↔ j = k ∨ j ∈ L) → M.length ≤ L.length + 1 → Q b { s with heap := h' }) :
    wpAny (model P w) A (setAddHashed a (.str k tk) ((PySem.strKind P w).hash k)) Q E s := by
  obtain ⟨o, es, ep, t, H⟩ := H
  have key := isIt (P := P) (w := w) k tk
  have el := elems (P := P) H.two
  have sc : (Value.str k tk).scannable = true := rfl
  unfold setAddHashed setAddHashedIn
  apply wpAny_holding
  apply wpAny_bind
  apply wpAny_setState_of H.at_ H.dat H.fit
  dsimp only
  rw [byScan_of sc H.few el]
  simp only [↓reduceIte]
  unfold setAddByScan
  apply wpAny_bind
  apply wpAny_bind
  apply wpAny_rule
  apply wpAny_bind
  apply wpAny_setScan_of key H.at_ H.dat H.fit el
  cases found : List.findIdx? (fun e => (PySem.strKind P w).is k e.2) es.toList with
  | some j =>
    obtain ⟨lt, yes, _⟩ := List.findIdx?_eq_some_iff_getElem.mp found
    have here : k ∈ L := (keyIn (P := P) H.two k).mpr ⟨_, List.getElem_mem lt, yes⟩
    exact wpAny_pure (wpAny_pure (hQ s.heap L _ (Heap.SameBut.refl a s.heap) ⟨o, es, ep, t, H⟩ (fun i => ⟨.inr, fun z => z.elim (fun e => e ▸ here) id⟩) (Nat.le_succ _)))
  | none =>
    have gone : k ∉ L := fun m => by
      obtain ⟨e, he, yes⟩ := (keyIn (P := P) H.two k).mp m
      have no := List.findIdx?_eq_none_iff.mp found e he
      rw [yes] at no
      cases no
    have says : ∀ (b : Bool) {s₁ : Shared} {Q' : Unit → Shared → Prop}, Q' () s₁ → wpAny (model P w) A (match b with | true => rule "set.scan.the-table-gave-way" | false => pure ()) Q' E s₁ := by
      intro b s₁ Q' q
      cases b
      · exact wpAny_pure q
      · exact wpAny_rule q
    dsimp only
    have pm := layNew_perm t es ((PySem.strKind P w).hash k) (.str k tk)
    have ft := layNew_fits t es ((PySem.strKind P w).hash k) (.str k tk)
    have rs := layNew_ris t es ((PySem.strKind P w).hash k) (.str k tk) H.ris
    have ld := layNew_led t es ((PySem.strKind P w).hash k) (.str k tk)
    generalize layNew t es ((PySem.strKind P w).hash k) (.str k tk) = Z at pm ft rs ld ⊢
    obtain ⟨es1, t1, dummy, gave⟩ := Z
    dsimp only at pm ft rs ld ⊢
    rw [Array.toList_push] at pm
    obtain ⟨M, pM, tM⟩ := Two.perm pm (H.two.app (.cons ⟨tk, rfl⟩ .nil))
    have nM : M.Nodup := pM.nodup_iff.mpr (List.nodup_append.mpr ⟨H.nd, by simp, fun x hx y hy e => gone (by rw [List.mem_singleton.mp hy] at e; exact e ▸ hx)⟩)
    have sz : es1.size = L.length + 1 := by
      rw [← Array.length_toList, tM.len, pM.length_eq]
      simp
    have fw : es1.size < scanBound := by rw [sz]; exact room
    have ldd : w.params.followText "set-order" = true ∨ t1.led = true := H.led.imp id fun z => ld.trans z
    have fin : ∀ h' N, Heap.SameBut a s.heap h' → N.Perm M → Tx w h' a N → Q true { s with heap := h' } := fun h' N sb pN T =>
      hQ h' N _ sb T (fun j => by rw [pN.mem_iff, pM.mem_iff, List.mem_append, List.mem_singleton]; exact Or.comm) (by rw [pN.length_eq, pM.length_eq]; simp)
    apply wpAny_bind
    apply says
    split
    · apply wpAny_bind
      rw [hashByValue_scannable 8 sc]
      apply wpAny_pure
      refine grows H (fun b s₁ Q' q => by cases b <;> first | exact wpAny_pure q | exact wpAny_rule q) tM nM fw ?_ ?_ ?_ fun h' N sb pN T => ?_
      · first | (split <;> first | exact ft | exact SetTable.fits_plain_off ft) | exact ft
      · first | (split <;> exact rs) | exact rs
      · first | (split <;> exact ldd) | exact ldd
      · dsimp only
        exact wpAny_pure (fin h' N sb pN T)
    · apply wpAny_bind
      apply wpAny_pure
      simp only [↓reduceIte]
      refine grows H (fun b s₁ Q' q => by cases b <;> first | exact wpAny_pure q | exact wpAny_rule q) tM nM fw ft rs ldd fun h' N sb pN T => ?_
      dsimp only
      exact wpAny_pure (fin h' N sb pN T)
end
section
variable {P : Program} {w : World} {A : Around} {E : Value → Shared → Prop} {s : Shared} {a : Addr} {L : List Str}
theorem Tx.keep {h h' : Heap} (T : Tx w h a L) (k : ∀ o, h.get? a = some o → h'.get? a = some o) : Tx w h' a L := by
  obtain ⟨o, es, ep, t, H⟩ := T
  exact ⟨o, es, ep, t, { H with at_ := k o H.at_ }⟩
/-- the texts of xs are added, one by one -/
theorem adds_tx {I : Addr} {fp wr : List Addr} {G : Array GenState → Array GenState → Prop} {n : Nat} {Pv : Nat → Value → Prop} {St : Nat → Shared → Prop} {R : Result → Shared → Prop} (W : WalksS P w A.in1 I fp wr G n Pv St) {S : Addr} (nf : S ∉ fp) {xs : List Str} (nx : n = xs.length) (few : xs.length + 1 < scanBound)
    (val : ∀ i v, Pv i v → ∃ k t, xs[i]? = some k ∧ v = .str k t) : ∀ (left i : Nat) (s : Shared), i + left = n → St i s → (∃ L, Tx w s.heap S L ∧ (∀ j, j ∈ L ↔ j ∈ xs.take i) ∧ L.length ≤ i) →
      (∀ s' L, Moved (S :: wr) G s s' → Tx w s'.heap S L → (∀ j, j ∈ L ↔ j ∈ xs) → L.length ≤ n → R (.ok (.ret .none)) s') → codeAny (model P w) A (.builtin "set.update.loop" ⟨[.ref S, .ref I], []⟩) R s := by
  have nw : S ∉ wr := fun m => nf (W.sub _ m)
  have wide : ∀ b ∈ wr, b ∈ S :: wr := fun b m => .tail _ m
  intro left
  induction left with
  | zero =>
    rintro i s e st ⟨L, T, mem, len⟩ fin
    obtain rfl : i = n := e
    apply codeAny_builtin F.entry_set_update_loop
    rw [Around.under_plainId F.plain_set_update_loop _]
    show wpAny _ A.in1 (pyNext (.ref I) >>= _) _ _ s
    apply wpAny_bind
    apply W.done s _ _ st
    intro s' mv
    show wpAny _ A.in1 (ret Value.none) _ _ s'
    exact wpAny_pure (fin s' L (mv.mono wide) (T.keep fun o q => mv.heap S o nw q) (fun j => by rw [mem, nx, List.take_length]) len)
  | succ left ih =>
    rintro i s e st ⟨L, T, mem, len⟩ fin
    apply codeAny_builtin F.entry_set_update_loop
    rw [Around.under_plainId F.plain_set_update_loop _]
    show wpAny _ A.in1 (pyNext (.ref I) >>= _) _ _ s
    apply wpAny_bind
    apply W.item i s _ _ (by omega) st
    intro v s' pv st' mv
    obtain ⟨k, t, hk, rfl⟩ := val i v pv
    have T' : Tx w s'.heap S L := T.keep fun o q => mv.heap S o nw q
    show wpAny _ A.in1 (holding [Value.str k t] (setAdd S (.str k t)) >>= _) _ _ s'
    apply wpAny_bind
    apply wpAny_holding
    unfold setAdd
    apply wpAny_holding
    apply wpAny_bind
    apply (PySem.strKind P w).pyHash (isIt k t)
    refine add_tx (s := { s' with toks := s'.toks + 1 }) T' (by omega) fun h' M b sb T2 mem2 len2 => ?_
    have old : ∀ c, c ≠ S → h'.get? c = s'.heap.get? c := fun c ne => sb.2 c ne
    refine wpAny_pure ⟨plainId_quiet F.plain_set_update_loop _, ih (i + 1) _ (by omega) (W.frame _ s' _ _ st' (Nat.le_succ _) fun c hc o q => (old c fun z => nf (z ▸ hc)).trans q) ⟨M, T2, fun j => ?_, by omega⟩ fun s'' M' mv2 T3 mem3 len3 => ?_⟩
    · rw [mem2, mem, List.take_succ, hk, Option.toList_some, List.mem_append, List.mem_singleton]
      exact Or.comm
    · exact fin s'' M' (Moved.trans W.gtrans ((mv.mono wide).then_heap (Nat.le_succ _) fun c o hc q => (old c fun z => hc (z ▸ .head _)).trans q) mv2) T3 mem3 len3
end
section
variable {s : Shared} {P : Program} {w : World} {A : Around} {E : Value → Shared → Prop}
/-- the empty set as it is made -/
abbrev nil0 (w : World) : Obj := { cls := .type "set", dict := none, data := .set #[] 0 (.fresh 0 0 (!w.params.followText "set-order")) }
theorem nil_tx {h : Heap} {a : Addr} (e : h.get? a = some (nil0 w)) : Tx w h a [] := by
  refine ⟨_, #[], 0, _, e, ⟨rfl, rfl, rfl⟩, rfl, .nil, .nil, (by unfold scanBound; decide), rfl, List.Pairwise.nil, ?_⟩
  show _ ∨ (!w.params.followText "set-order") = true
  cases w.params.followText "set-order" <;> simp
theorem getNone {h : Heap} {b : Addr} (le : h.objs.size ≤ b) : h.get? b = none := by
  cases e : h.get? b with
  | none => rfl
  | some o => exact absurd (Nat.lt_of_lt_of_le (Heap.lt_size e) le) (Nat.lt_irrefl _)
set_option maxHeartbeats 8000000 in
/-- set(xs), xs a list of texts -/
theorem make_tx {l : Addr} {its : Array Value} {xs : List Str} {Q : Value → Shared → Prop} (hh : A.handled = none) (hl : s.heap.IsList l its) (vs : StrsAre its.toList xs) (few : xs.length + 1 < scanBound)
    (q : ∀ h' tk L, Tx w h' s.heap.objs.size L → (∀ j, j ∈ L ↔ j ∈ xs) → L.length ≤ xs.length → (∀ b o, s.heap.get? b = some o → h'.get? b = some o) → Q (.ref s.heap.objs.size) { s with heap := h', toks := tk }) :
    wpAny (model P w) A
      (call (.type "set") [.ref l]) Q E s := by
  have nits : its.size = xs.length := by rw [← StrsAre.len_eq vs, Array.length_toList]
  have S0 : (s.heap.push (nil0 w)).get? s.heap.objs.size = some (nil0 w) := Heap.get?_push_size _ rfl
  have n1 : (s.heap.push (nil0 w)).objs.size = s.heap.objs.size + 1 := Heap.size_push ..
  have ty : Shared.TypeIs { s with heap := s.heap.push (nil0 w) } (.ref s.heap.objs.size) "set" := ⟨_, S0, rfl⟩
  obtain ⟨c, tl, hmro⟩ := F.called_set.mro
  have hmade := F.called_set.made
  have hsub := F.called_set.sub
  apply wpAny_call
  apply codeAny_of_tree
  show wpAny _ _ (callAny (.type "set") _) _ _ _
  apply wpAny_pure
  constructor
  · exact Code.quiet_builtin _ (by decide +kernel)
  apply codeAny_builtin F.entry_type_call
  rw [Around.under_plain (weight_type_call_type "set" [.ref l] []) rfl]
  have h1 := F.called_set.notType
  have h2 := F.called_set.canCreate
  have hct := F.typeCall_set_1 (.ref l)
  repeat (any_goals (first | assumption | wp_step))
  refine codeAny_mono (code_set_led1 (.ref l) (E := E) (Q₁ := fun v t => v = .ref s.heap.objs.size ∧ t = { s with heap := s.heap.push (nil0 w) }) ⟨rfl, rfl⟩) fun r t told => ?_
  rcases r with e | fl
  · exact told
  cases fl
  case ret obj =>
    obtain ⟨rfl, rfl⟩ := told
    have hli := F.called_set.init.lookup
    have hbi := F.called_set.init.bind (.ref s.heap.objs.size)
    repeat (any_goals (first | assumption | wp_step))
    refine codeAny_mono (codeAny_call_builtin (R := wants (fun r t => r = .none ∧ ∃ h' tk L, t = { s with heap := h', toks := tk } ∧ Tx w h' s.heap.objs.size L ∧ (∀ j, j ∈ L ↔ j ∈ xs) ∧ L.length ≤ xs.length ∧ ∀ b o, s.heap.get? b = some o → h'.get? b = some o) E)
      F.called_set.init.plain F.entry_set_init (check_set_init_1 ty ?_)) fun r2 t2 told2 => ?_
    · obtain ⟨⟨ocls, odict, odata, oslots⟩, hol, hcl, nl, hdl⟩ := hl
      simp only at hcl hdl
      subst hcl
      subst hdl
      have hol' : (s.heap.push (nil0 w)).get? l = some { cls := .type "list", dict := odict, data := .seq its nl, slots := oslots } := Heap.get?_push_of_some _ hol
      have isl : (s.heap.push (nil0 w)).IsList l its := ⟨_, hol', rfl, nl, rfl⟩
      have hsls := F.sub_list_set
      have hslf := F.sub_list_frozenset
      have noDict : (Value.type "list" == Value.type "dict") = false := by decide
      unfold Builtin.«set.__init__»
      unfold noKeywords Builtin.Frozenset.updateFrom
      generalize hPI : pyIter = PI
      wp_walk
      subst hPI
      apply wpAny_pyIter_list isl
      apply wpAny_bind
      apply wpAny_runValue
      have below : l < s.heap.objs.size := Heap.lt_size hol
      have hh3 : A.in1.in1.in1.handled = none := by simp [hh]
      refine adds_tx ((Walks.list hh3 _ l (by rw [n1]; exact Nat.ne_of_lt (Nat.lt_succ_of_lt below)) its).toS) (S := s.heap.objs.size) ?_ nits few (fun i v e => ?_) its.size 0 _ (Nat.zero_add _) ⟨⟨_, Heap.get?_push_size _ rfl, rfl, rfl⟩, isl.push _⟩
        ⟨[], nil_tx (Heap.get?_push_of_some _ S0), by simp, Nat.le_refl _⟩ ?_
      · rw [n1]
        intro m
        rcases List.mem_cons.mp m with z | z
        · exact Nat.ne_of_lt (Nat.lt_succ_self _) z
        · exact Nat.ne_of_gt below (List.mem_singleton.mp z)
      · have lt : i < xs.length := nits ▸ (Array.getElem?_eq_some_iff.mp e).1
        obtain ⟨tk, et⟩ := StrsAre.at vs (List.getElem?_eq_getElem lt)
        rw [Array.getElem?_toList, e] at et
        exact ⟨xs[i], tk, List.getElem?_eq_getElem lt, Option.some.inj et⟩
      · rintro ⟨h', g', d', tk', os'⟩ L mv T mem len
        have e1 : g' = s.gens := mv.gens
        have e2 : d' = s.drawn := mv.drawn
        have e3 : os' = s.os := mv.os
        subst e1 e2 e3
        show wpAny _ _ _ _ _ _
        apply wpAny_pure
        show wpAny _ _ (ret Value.none) _ _ _
        refine wpAny_pure ⟨rfl, h', tk', L, rfl, T, mem, by rw [← nits]; exact len, fun b o e => ?_⟩
        have lb := Heap.lt_size e
        refine mv.heap b o (fun m => ?_) (Heap.get?_push_of_some _ (Heap.get?_push_of_some _ e))
        rcases List.mem_cons.mp m with z | z
        · exact Nat.ne_of_lt lb z
        · rw [List.mem_singleton.mp z, n1] at lb
          exact Nat.lt_irrefl _ (Nat.lt_of_succ_lt lb)
    · rcases r2 with e | fl2
      · exact told2
      cases fl2
      case ret r =>
        obtain ⟨rfl, h', tk, L, rfl, T, mem, len, keep⟩ := told2
        repeat (any_goals (first | assumption | wp_step))
        exact q h' tk L T mem len keep
      all_goals exact told2.elim
  all_goals exact told.elim
end
section
variable {P : Program} {w : World} {A : Around} {E : Value → Shared → Prop} {s : Shared} {a : Addr} {L : List Str}
theorem strs_two : ∀ {vs : List Value} {M : List Str}, Two (fun v k => ∃ tk, v = Value.str k tk) vs M → StrsAre vs M
  | _, _, .nil => .nil
  | _, _, .cons ⟨tk, e⟩ r => by
    subst e
    exact .cons _ tk (strs_two r)
theorem vals_two {l : List (Int × Value)} (h : Two (Ent w) l L) : Two (fun v k => ∃ tk, v = Value.str k tk) (l.map (·.2)) L := by
  induction h with
  | nil => exact .nil
  | cons e _ ih =>
    obtain ⟨tk, rfl⟩ := e
    exact .cons ⟨tk, rfl⟩ ih
/-- sorted(S), S a set of texts -/
theorem sort_tx {Q : Value → Shared → Prop} (T : Tx w s.heap a L) (hh : A.handled = none) (few : L.length ≤ 1000)
    (q : ∀ s' p (out : Array Value) (c : Nat) (ys : List Str), (∀ b o, s.heap.get? b = some o → s'.heap.get? b = some o) → s'.gens = s.gens → s'.os = s.os → s.heap.objs.size ≤ p → s'.heap.get? p = some (seqObj "list" out c) → StrsAre out.toList ys → ys.Perm L → sortedS ys = true → Q (.ref p) s') :
    wpAny (model P w) A
      (call (.builtin "sorted") [.ref a]) Q E s := by
  obtain ⟨o, es, ep, t, H⟩ := T
  apply Calls.call_function_entry kind_sorted plain_sorted entry_sorted (args_sorted1 _)
  unfold Builtin.«sorted»
  apply wpAny_bind (m := checkCount "sorted" 1 1 _)
  apply wpAny_pure
  apply wpAny_bind
  refine collect_set (A := A.in1) hh ⟨o, H.at_, H.ex.1, H.dat⟩ H.fit H.few H.ris H.led fun s1 vs keep le g1 o1 pm => ?_
  obtain ⟨M, pM, tM⟩ := Two.perm pm (vals_two H.two)
  have sM := strs_two tM
  have lv : vs.length ≤ sizeLine := by
    rw [tM.len, pM.length_eq, sizeLine_eq]
    omega
  apply wpAny_bind
  refine wpAny_newList ?_ lv
  have oL : (s1.heap.push (seqObj "list" vs.toArray 0)).get? s1.heap.objs.size = some (seqObj "list" vs.toArray 0) := Heap.get?_push_size _ rfl
  apply wpAny_bind
  apply wpAny_holding
  refine wpAny_call_entry slot_list_sort ⟨_, oL, rfl⟩ entry_list_sort (list_sort_treeKAny strKind_oneLt oL sM.keysOf (fun v₁ v₂ rest e => keyKind_strs (by rw [← e]; exact sM)) lv fun st p1 p2 => ⟨_, rfl, ?_⟩) (args_list_sort _)
  obtain ⟨ys, y1, y2, y3⟩ := sorted_out_str sM p1 p2
  obtain ⟨c, hc⟩ := sortedHeap_at (vs := vs) (out := (arrOf st).map (·.2)) oL
  refine wpAny_pure ⟨_, rfl, q _ s1.heap.objs.size _ c ys (fun b u e => ?_) g1 o1 le hc y1 (y2.trans pM) y3⟩
  have e1 := keep b u e
  have lt := Heap.lt_size e1
  show (sortedHeap (s1.heap.push (seqObj "list" vs.toArray 0)) s1.heap.objs.size vs _).get? b = some u
  rw [sortedHeap_old (Nat.ne_of_lt lt) (by rw [size_push']; exact Nat.lt_succ_of_lt lt)]
  exact Heap.get?_push_of_some _ e1
end
/-- the set of texts as a thing of the told heap -/
def TxO (w : World) (a : Addr) (L : List Str) : HO := .ext fun h => Tx w h a L
theorem txO_ok {P : Program} {w : World} {H : Hp} {h : Heap} {a : Addr} {L : List Str} (T : Tx w h a L) : ObjOk P w H h a (TxO w a L) := by
  have ⟨o, es, ep, t, Ha⟩ := T
  exact ⟨T, ⟨o, Ha.at_⟩, fun h1 h2 p k => Tx.keep p k⟩
section
variable {X : Cx}
theorem txO_get {pins : List (Addr × Obj)} {σ : L2.St} {H : Hp} {s : Shared} {a : Addr} {L : List Str} (I : Inv X pins σ H s) (e : H a = some (TxO X.w a L)) : Tx X.w s.heap a L := (I.hok a _ e).1
def rSetTx (K : PySem.W.Frag) (w : World) : List V → Hp → VK → Prop := fun vs H Q => ∃ (l : Addr) (xs : List Str), vs = [.ref l] ∧ SqL K H l (xs.map V.str) ∧ xs.length ≤ 1000 ∧
  ∀ p L, H p = none → (∀ j, j ∈ L ↔ j ∈ xs) → L.Nodup → L.length ≤ xs.length → Q (.ref p) (upd H p (TxO w p L))
theorem cr_setTx (hc : X.calm = true) : CallR X (.type "set") (rSetTx X.K X.w) := by
  intro pins s σ H vs us Q I r h
  obtain ⟨l, xs, rfl, hl, few, q⟩ := h
  rw [Vals.ref1 r]
  obtain ⟨its, rv, pl, hz⟩ := I.list hl
  refine make_tx (P := X.prog) (w := X.w) (I.ok.hd hc) pl.isList (by simpa using strsAre_of rv) (by unfold scanBound; omega) fun h' tk L T mem len keep => ?_
  have nd : L.Nodup := by
    obtain ⟨o, es, ep, t, Ha⟩ := T
    exact Ha.nd
  exact ⟨.ref s.heap.objs.size, upd H s.heap.objs.size (TxO X.w s.heap.objs.size L), I.laid (t' := tk) keep (Nat.le_refl _) (txO_ok T), rfl, q _ L (I.hok.fresh (Nat.le_refl _)) mem nd len⟩
def rSrtTx (w : World) : List V → Hp → VK → Prop := fun vs H Q => ∃ (a : Addr) (L : List Str), vs = [.ref a] ∧ H a = some (TxO w a L) ∧ L.length ≤ 1000 ∧
  ∀ ys p, ys.Perm L → sortedS ys = true → H p = none → Q (.ref p) (upd H p (.lst (ys.map V.str)))
theorem cr_srtTx (hc : X.calm = true) : CallR X (.builtin "sorted") (rSrtTx X.w) := by
  intro pins s σ H vs us Q I r h
  obtain ⟨a, L, rfl, e, few, q⟩ := h
  rw [Vals.ref1 r]
  refine sort_tx (txO_get I e) (I.ok.hd hc) few fun s' p out c ys keep g o le hp st pm so => ?_
  have np : H p = none := I.hok.fresh le
  have lay : (ys.map V.str).length ≤ sizeLine := by rw [List.length_map, pm.length_eq, sizeLine_eq]; omega
  have J : Inv X pins σ (upd H p (.lst (ys.map V.str))) { s with heap := s'.heap, gens := s'.gens, drawn := s'.drawn, toks := s'.toks } :=
    I.call (ch := []) (Un.laid keep le np) (I.hok.laid keep le ⟨lay, out.toList, c, vals_of_strs st, hp⟩) (by rw [g]; exact I.bare) (fun _ z => nomatch z)
  have e' : s' = { s with heap := s'.heap, gens := s'.gens, drawn := s'.drawn, toks := s'.toks } := by
    cases s'
    cases s
    cases o
    rfl
  rw [e']
  exact ⟨.ref p, _, J, rfl, q ys p pm so np⟩
end
end TxS
namespace M
open PySem L2 G TxS
/-- each thing once -/
def once {α : Type} [DecidableEq α] : List α → List α
  | [] => []
  | x :: r => if x ∈ once r then once r else x :: once r
theorem once_mem {α : Type} [DecidableEq α] {x : α} : ∀ {l : List α}, x ∈ once l ↔ x ∈ l
  | [] => Iff.rfl
  | y :: r => by
    have ih := once_mem (x := x) (l := r)
    unfold once
    split
    · rename_i m
      rw [ih, List.mem_cons]
      exact ⟨.inr, fun z => z.elim (fun e => e ▸ once_mem.mp m) id⟩
    · rw [List.mem_cons, List.mem_cons, ih]
theorem once_nd {α : Type} [DecidableEq α] : ∀ l : List α, (once l).Nodup
  | [] => .nil
  | y :: r => by
    unfold once
    split
    · exact once_nd r
    · rename_i m
      exact List.nodup_cons.mpr ⟨m, once_nd r⟩
theorem once_len {α : Type} [DecidableEq α] : ∀ l : List α, (once l).length ≤ l.length
  | [] => Nat.le_refl _
  | y :: r => by
    unfold once
    have := once_len r
    split <;> simp <;> omega
def setS? (xs : List Str) : Option (List Str) := if xs.length ≤ 1000 then some (sortBy ltS (once xs)) else none
section
variable {K : PySem.W.Frag} {S T : AS} {σ : L2.St} {H : Hp} {te : TE} {w : World}
theorem strs_at {vs : List V} {xs : List Str} {S : AS} {H : Hp} (h : All2 ((tStr (K := K)).rp S H) vs xs) : vs = xs.map V.str ∧ ∀ z ∈ xs, PyData.strOk z = true := by
  induction h with
  | nil => exact ⟨rfl, fun z hz => by simp at hz⟩
  | cons a _ ih =>
    refine ⟨by rw [List.map_cons, ← ih.1, a.1], fun z hz => ?_⟩
    rcases List.mem_cons.mp hz with rfl | hz
    · exact a.2
    · exact ih.2 z hz
/-- sorted(set(xs)) -/
theorem ev_srtSet {r : Option (List Str)} (h : Ev S T te σ H (of (K := K) (tL tStr) S) r) : Ev S T (tCB (rSrtTx w) (tCons (tCB (rSetTx K w) (tCons te tNil)) tNil)) σ H (nw (tStr (K := K)) S) (bd r setS?) := by
  intro z e H1 f1 d Q q
  obtain ⟨xs, ex, e⟩ := bd_some e
  unfold setS? at e
  split at e
  case isFalse => cases e
  rename_i few
  cases e
  refine h xs ex H1 f1 d _ fun v H2 s ⟨p, vs, ev, hp, ha⟩ => ?_
  subst ev
  obtain ⟨e1, ok⟩ := strs_at ha
  subst e1
  refine ⟨p, xs, rfl, hp.sq, few, fun l L nl mem nd len => ⟨l, L, rfl, upd_same, by omega, fun ys c pm so nc => ?_⟩⟩
  have pe : ys.Perm (once xs) := pm.trans ((List.perm_ext_iff_of_nodup nd (once_nd xs)).mpr fun j => (mem j).trans once_mem.symm)
  rw [sortS_eq pe so]
  have s2 : Same H2 (upd H2 l (TxO w l L)) := same_new nl
  refine q _ _ (s.trans (s2.trans (same_new nc))) ⟨c, rfl, s.free (s2.free nc), _, upd_same, all_strs fun z hz => ok z (once_mem.mp ((sortS_perm _).mem_iff.mp hz))⟩
end
end M

/-! ### {x: [] for x in d}; for v in d.values(): .. -/
namespace M
open PySem L2 G
section
variable {K : PySem.W.Frag} {α β κ δ ρ : Type} {b' : Ty K β} {S T : AS} {σ : L2.St} {H : Hp} {D : Ends} {u : TS}
theorem q_dcK [DL b'] {v : V} {m : List (Str × β)} {a i j : Nat} {ws : List Nat} (d : Dom S H) (h : (tD Str b').rp S H v m) (ha : σ[a]? = some (some v)) (hl : m.length < 100000) (hw : ∀ x, wipe ((wipe σ ws).set j (some x)) ws = wipe σ ws) (hj : ∀ x, ((wipe σ ws).set j (some x))[j]? = some (some x))
    (q : ∀ (p : Addr) (qs : List Addr) (G : Hp), Same H G → H p = none → m.length = qs.length → (p :: qs).Nodup → (∀ q ∈ qs, H q = none ∧ G q = some (.lst [])) → G p = some (.dK (kvq (m.map Prod.fst) qs)) → (∀ z ∈ m.map Prod.fst, PyData.strOk z = true) → u D (σ.set i (some (.ref p))) G) :
    tSeq (tLock (tAsg (tDc (iKeys (tVar a)) (gName j) tYes (tVar j) (tLst tNil) ws) (gName i))) u D σ H := by
  obtain ⟨pm, kvs, rfl, hp, hk, hn⟩ := h
  have keys := keys_S hk
  refine ⟨pm, .dK kvs, hp.1, trivial, fun od => ?_⟩
  have lk : LkD b' S (upd H pm (.frz od (.dK kvs))) pm od kvs m := ⟨upd_same, hk.imp fun _ _ z => (KvP.dl hp.1 rfl z).sub fun _ x => List.mem_cons_of_mem _ x, hn⟩
  refine dc_empty (K := K) (xs := m.map Prod.fst) (T := []) (Q := fun v G => gName i v σ G (_)) (d.upd) (sr_keysK (ck := (tStr : Ty K Str)) lk hp.2 ha) rfl hn (by rw [List.length_map]; exact hl) hw hj fun p qs G s np hql hqn hqs hG ok => ?_
  obtain ⟨n1, np'⟩ := upd_none np
  have hqs' : ∀ q ∈ qs, q ≠ pm ∧ H q = none := fun q hq => upd_none (hqs q hq).1
  have gm : G pm = some (.frz od (.dK kvs)) := s _ _ upd_same
  refine ⟨gm, q p qs (upd G pm (.dK kvs)) (fun c o e => ?_) np' (by rw [List.length_map] at hql; exact hql) hqn (fun q hq => ⟨(hqs' q hq).2, by rw [upd_ne (hqs' q hq).1]; exact (hqs q hq).2⟩) (by rw [upd_ne n1]; exact hG) ok⟩
  by_cases c' : c = pm
  · subst c'
    rw [upd_same, ← e]
    exact hp.1.symm
  · rw [upd_ne c']
    exact s c o (by rw [upd_ne c']; exact e)
/-- for w in d.values(): turns that only go on -/
theorem q_for_v [KeyC κ] [DecidableEq κ] [DL b'] {i j : Nat} {tb : TS} {v : V} {xs : List (κ × β)} {s0 : δ} {f : δ → β → Option (Ct ρ δ)} {sn : δ} (h : (tD κ b').rp S H v xs) (hi : σ[i]? = some (some v)) (hf : loopC f (xs.map Prod.snd) s0 = some (.go sn)) (nb : ∀ s x c, f s x = some c → ∃ s', c = .go s')
    (I : Addr → Obj → List (Key × V) → δ → L2.St → Hp → Prop)
    (h0 : ∀ p od kvs G, v = .ref p → H p = some (.dK kvs) → p ∉ S → G = upd H p (.frz od (.dK kvs)) → I p od kvs s0 σ G)
    (iv : ∀ p od kvs s σ' G, I p od kvs s σ' G → G p = some (.frz od (.dK kvs)))
    (step : ∀ p od kvs (s s' : δ) (x : β) (w : V) (σ' : L2.St) (G : Hp), v = .ref p → p ∉ S → I p od kvs s σ' G → b'.rp (p :: S) G w x → f s x = some (.go s') → ∀ D' : Ends, (∀ σ2 G2, Fr (p :: S) G G2 → I p od kvs s' σ2 G2 → D'.nx σ2 G2) → tb D' (σ'.set j (some w)) G)
    (done : ∀ p od kvs σ' G, v = .ref p → p ∉ S → H p = some (.dK kvs) → Fr S H (upd G p (.dK kvs)) → G p = some (.frz od (.dK kvs)) → I p od kvs sn σ' G → u D σ' (upd G p (.dK kvs))) : tSeq (tLock (tFor (iVals (tVar i)) (gName j) tb)) u D σ H := by
  obtain ⟨p, kvs, rfl, hp, ha, hn⟩ := h
  refine ⟨p, .dK kvs, hp.1, trivial, fun od => ?_⟩
  have hl : All2 (KvP b' (p :: S) (upd H p (.frz od (.dK kvs)))) kvs xs := ha.imp fun _ _ => KvP.dl hp.1 rfl
  refine ⟨_, hi, p, od, kvs, rfl, upd_same, ?_⟩
  refine ⟨fun k m σ' G => k + m = xs.length ∧ Fr (p :: S) (upd H p (.frz od (.dK kvs))) G ∧ ∃ s, I p od kvs s σ' G ∧ loopC f ((xs.map Prod.snd).drop k) s = some (.go sn), ⟨xs.length, Nat.zero_add _, Fr.refl _, s0, h0 p od kvs _ rfl hp.1 hp.2 rfl, hf⟩, ?_⟩
  rintro k m σ' G ⟨e, fr, s, hI, hlp⟩
  have hpk := iv p od kvs s σ' G hI
  have hlen := ha.len
  cases m with
  | zero =>
    left
    have ek : k = xs.length := e
    rw [List.drop_eq_nil_of_le (by simp; omega)] at hlp
    cases hlp
    exact ⟨⟨hpk, by omega⟩, hpk, done p od kvs σ' G rfl hp.2 hp.1 (fr_unl (Fr.refl _) hp.1 hp.2 (fun q o e n => fr _ _ (by rw [upd_ne (fun z => n (by rw [z]; exact List.mem_cons_self ..))]; exact e) n)) hpk hI⟩
  | succ m =>
    right
    have lt : k < xs.length := by omega
    have lt' : k < (xs.map Prod.snd).length := by simpa using lt
    rw [List.drop_eq_getElem_cons lt'] at hlp
    obtain ⟨c, ec, hc⟩ := Option.bind_eq_some_iff.mp (show (f s (xs.map Prod.snd)[k]).bind _ = some (Ct.go sn) from hlp)
    obtain ⟨s', rfl⟩ := nb _ _ _ ec
    refine ⟨⟨hpk, by omega⟩, fun σ2 G2 => ∃ s', loopC f ((xs.map Prod.snd).drop (k + 1)) s' = some (.go sn) ∧ Fr (p :: S) G G2 ∧ I p od kvs s' σ2 G2, fun σ2 G2 ⟨s', hl', f2, hI'⟩ => ⟨m, Nat.lt_succ_self m, by omega, fr.trans f2, s', hI', hl'⟩, ?_⟩
    intro w G2 hy
    obtain ⟨rfl, kk', ek⟩ := hy
    obtain ⟨kv, ekv, h1, h2, h3⟩ := hl.get k (List.getElem?_eq_getElem lt)
    rw [ek] at ekv
    cases ekv
    have ex : (xs.map Prod.snd)[k] = xs[k].2 := List.getElem_map ..
    exact step p od kvs s s' xs[k].2 w σ' _ rfl hp.2 hI (b'.mono fr h3) (by rw [← ex]; exact ec) _ fun σ2 G2 f2 hI' => ⟨s', hc, f2, hI'⟩
end
end M

/-! ### xs.extend(ys) of an owned list; None or not as a value; list(d.values()) -/
namespace M
open PySem PySem.Spec L2 G
/-- d.values() as a value: a view of the dict -/
def rVw : V → List V → Hp → VK → Prop := fun x vs H Q => ∃ (a : Addr) (kvs : List (Key × V)), x = .ref a ∧ vs = [] ∧ H a = some (.dK kvs) ∧ ∀ p, H p = none → Q (.ref p) (upd H p (viewO "dict_values" p a))
theorem mt_vw {X : Cx} : MtR X "dict.values" rVw := by
  rintro pins s σ H x vs v us Q I rx rv ⟨a, kvs, rfl, rfl, hd, go⟩
  cases rv
  cases (show v = Value.ref a from rx)
  have ⟨_, ns, ws, _, here⟩ := dk_of I.hok hd
  have there : s.TypeIs (.ref a) "dict" := here.typeIs
  refine call_meetsIn PySem.F.slot_dict_values there PySem.F.entry_dict_values (PySem.F.args_dict_values_1 _) (meets_dict_values (mixKind X.prog X.w) a ns) ⟨⟨ws, here⟩, ?_⟩
  have fresh : H s.heap.objs.size = none := I.hok.fresh (Nat.le_refl _)
  have J : Inv X pins σ (upd H s.heap.objs.size (viewO "dict_values" s.heap.objs.size a)) { s with heap := s.heap.push (DSub.viewOb "dict_values" a) } := I.laid (t' := s.toks) (fun b u e => Heap.get?_push_of_some _ e) (Nat.le_refl _) (viewO_ok (Heap.get?_push_size _ rfl))
  exact ⟨.ref s.heap.objs.size, _, J, rfl, go _ fresh⟩
theorem vals_at : ∀ {us : List Value} {ws : List (Key × Value)} {kvs : List (Key × V)}, KV kvs ws → us.length = ws.length → (∀ (j : Nat) (u : Value), us[j]? = some u → ∃ k, ws[j]? = some (k, u)) → Vals (kvs.map Prod.snd) us
  | [], [], _, .nil, _, _ => .nil
  | u :: us, q :: ws, _, .cons r rs, hl, h => by
    obtain ⟨k, e⟩ := h 0 u rfl
    cases (Option.some.inj e : q = (k, u))
    exact .cons r.2 (vals_at rs (Nat.succ.inj hl) fun j w e => h (j + 1) w e)
  | _ :: _, [], _, _, hl, _ => by simp at hl
  | [], _ :: _, _, _, hl, _ => by simp at hl
/-- list(d.values()) -/
def rLv : List V → Hp → VK → Prop := fun xs H Q => ∃ (p a : Addr) (kvs : List (Key × V)), xs = [.ref p] ∧ H p = some (viewO "dict_values" p a) ∧ H a = some (.dK kvs) ∧ ∀ q, H q = none → Q (.ref q) (upd H q (.lst (kvs.map Prod.snd)))
theorem cr_lv {X : Cx} (hc : X.calm = true) : CallR X (.type "list") rLv := by
  rintro pins s σ H xs us Q I rv ⟨p, a, kvs, rfl, hp, hd, go⟩
  rw [Vals.ref1 rv]
  have view : s.heap.get? p = some (DSub.viewOb "dict_values" a) := (show ObjOk X.prog X.w H s.heap p (viewO "dict_values" p a) from I.hok p _ hp).1
  have ⟨few, ns, ws, rel, here⟩ := dk_of I.hok hd
  have ⟨ep, at_⟩ := here.dictAt
  refine PySem.W.kdl_call (PySem.W.kdl_values (r := p) (knd := mixKind X.prog X.w) (kvs := ws) (ep := ep)) (I.ok.hd hc) ⟨⟨_, view, rfl, rfl⟩, at_⟩ (by rw [← rel.length]; exact few) fun h' tk out c' keep new its => ?_
  have same : Vals (kvs.map Prod.snd) out.toList := vals_at rel (by rw [Array.length_toList]; exact its.1) fun j u e => its.2 j u (by rw [← Array.getElem?_toList]; exact e)
  have size : (kvs.map Prod.snd).length ≤ sizeLine := by rw [List.length_map]; exact few
  have J : Inv X pins σ (upd H s.heap.objs.size (.lst (kvs.map Prod.snd))) { s with heap := h', toks := tk } := I.laid (t' := tk) keep (Nat.le_refl _) ⟨size, out.toList, c', same, by rw [Array.toArray_toList]; exact new⟩
  exact ⟨.ref s.heap.objs.size, _, J, rfl, go _ (I.hok.fresh (Nat.le_refl _))⟩
section
variable {K : PySem.W.Frag} {α β γ κ : Type} {a : Ty K α} {b' : Ty K β} {S T : AS} {σ : L2.St} {H : Hp} {te tf : TE} {D : Ends} {u : TS}
theorem ev_lv [KeyC κ] {r : Option (List (κ × β))} (h : Ev S T te σ H (of (tD κ b') S) r) : Ev S T (tCB rLv (tCons (tBM0 K "dict" rVw te) tNil)) σ H (nw b' S) (bd r fun x => some (x.map Prod.snd)) := by
  intro z e H1 f1 d Q q
  obtain ⟨x, ex, e⟩ := bd_some e
  cases e
  refine h x ex H1 f1 d _ fun v H2 s hv => ?_
  obtain ⟨p, kvs, rfl, hp, ha, un⟩ := hv
  refine ⟨.inr (.inr (.inl ⟨rfl, .inl ⟨kvs, hp.1⟩⟩)), p, kvs, rfl, rfl, hp.1, fun l nl => ?_⟩
  have s2 : Same H2 (upd H2 l (viewO "dict_values" l p)) := same_new nl
  refine ⟨l, p, kvs, rfl, upd_same, s2 _ _ hp.1, fun m nm => ?_⟩
  have s3 : Same H2 (upd (upd H2 l (viewO "dict_values" l p)) m (.lst (kvs.map Prod.snd))) := s2.trans (same_new nm)
  refine q _ _ (s.trans s3) ⟨m, rfl, s.free (s2.free nm), _, upd_same, ?_⟩
  have s4 := s2.trans (same_new (o := .lst (kvs.map Prod.snd)) nm)
  generalize upd (upd H2 l (viewO "dict_values" l p)) m (.lst (kvs.map Prod.snd)) = G at s4 ⊢
  clear ex e q s3 hp un
  induction ha with
  | nil => exact .nil
  | cons g _ ih => exact .cons (b'.mono (Fr.same s4) (b'.ext (s2.free nm) g.2.2)) ih
/-! None or not -/
theorem ev_isNe {r : Option (Option α)} (h : Ev S T te σ H (of (tOpt a) S) r) : Ev S T (tOp (fun x y H Q => y = .non ∧ Q (.bl (decide (x = .non))) H) te (tC .non)) σ H (of (K := K) tBool S) (bd r fun x => some x.isNone) := by
  intro z ez H1 f d Q q
  obtain ⟨x, ex, ez⟩ := bd_some ez
  cases ez
  refine h x ex H1 f d _ fun v H2 s hv => ⟨rfl, ?_⟩
  cases x with
  | none => rw [show v = .non from hv]; exact q _ H2 s rfl
  | some y => rw [decide_eq_false hv.1]; exact q _ H2 s rfl
/-! xs.extend(ys) -/
def ext? (xs ys : List α) : Option (List α) := if xs.length + ys.length < 100000 then some (xs ++ ys) else none
theorem l_ext {p : Addr} {xs ys zs : List α} {i : Nat} {r : Option (List α)} (d : Dom S H) (o : Own a S H p xs) (im : p ∈ S) (nt : p ∉ T) (ts : Sub T S) (hi : σ[i]? = some (some (.ref p))) (h : Ev S T te σ H (of (tL a) S) r) (e : r = some ys) (f : ext? xs ys = some zs)
    (k : ∀ H1, Mut1 p H H1 → Fr S H H1 → Own a S H1 p zs → D.nx σ H1) : tDrop (tBM K "list" rExtend (tVar i) (tCons te tNil)) D σ H := by
  obtain ⟨vs, hv, ha⟩ := o
  unfold ext? at f
  split at f
  case isFalse => cases f
  rename_i hl
  cases f
  refine ⟨_, hi, Or.inl ⟨rfl, vs, .inl (.inl hv)⟩, h ys e H (Fr.refl _) d _ fun v H1 s1 hx => ?_⟩
  obtain ⟨b, ws, rfl, hb, hw⟩ := hx
  refine ⟨p, b, vs, ws, rfl, rfl, s1 _ _ hv, hb.1, Nat.le_of_lt (Nat.lt_of_lt_of_le (by rw [ha.len, hw.len]; exact hl) (by decide)), ?_⟩
  have f1 : Fr S H1 (upd H1 p (.lst (vs ++ ws))) := fr_upd im
  refine k _ ⟨fun c ob e n => by rw [upd_ne n]; exact s1 _ _ e, by rw [upd_same]; intro z; cases z⟩ ((Fr.same s1).trans f1) ⟨vs ++ ws, upd_same, ?_⟩
  exact ((ha.imp fun _ _ h => a.mono (Fr.same s1) h).app hw).imp fun _ _ h => a.mono f1 h
theorem q_ext {p : Addr} {xs ys zs : List α} {i : Nat} {r : Option (List α)} (d : Dom S H) (o : Own a S H p xs) (im : p ∈ S) (nt : p ∉ T) (ts : Sub T S) (hi : σ[i]? = some (some (.ref p))) (h : Ev S T te σ H (of (tL a) S) r) (e : r = some ys) (f : ext? xs ys = some zs)
    (k : ∀ H1, Mut1 p H H1 → Fr S H H1 → Own a S H1 p zs → u D σ H1) : tSeq (tDrop (tBM K "list" rExtend (tVar i) (tCons te tNil))) u D σ H := l_ext (D := { D with nx := u D }) d o im nt ts hi h e f k
end
end M

/-! ### a dict that may be locked, read -/
namespace M
open PySem L2 G
section
open KeyC
variable {K : PySem.W.Frag} {α β κ : Type} {b' : Ty K β} {S T : AS} {σ : L2.St} {H : Hp} [KeyC κ] [DecidableEq κ]
variable (κ) in
def tDz (b' : Ty K β) : Ty K (List (κ × β)) where
  rp S H v xs := ∃ a kvs, v = .ref a ∧ (Rd H a (.dK kvs) ∧ a ∉ S) ∧ All2 (KvP b' S H) kvs xs ∧ (xs.map Prod.fst).Nodup
  mono f := fun ⟨a, kvs, e, h, h1, h2⟩ => ⟨a, kvs, e, ⟨Rd.fr h.1 f h.2, h.2⟩, h1.imp fun _ _ ⟨p, q, r⟩ => ⟨p, q, b'.mono f r⟩, h2⟩
  ext f := fun ⟨a, kvs, e, h, h1, h2⟩ => ⟨a, kvs, e, ⟨h.1, not_cons f (Rd.some h.1) h.2⟩, h1.imp fun _ _ ⟨p, q, r⟩ => ⟨p, q, b'.ext f r⟩, h2⟩
  sub f := fun ⟨a, kvs, e, h, h1, h2⟩ => ⟨a, kvs, e, ⟨h.1, fun m => h.2 (f a m)⟩, h1.imp fun _ _ ⟨p, q, r⟩ => ⟨p, q, b'.sub f r⟩, h2⟩
theorem dz_lock [DL b'] {p : Addr} {od : Obj} {kvs : List (Key × V)} {v : V} {x : List (κ × β)} (hp : H p = some (.dK kvs)) (h : (tD κ b').rp S H v x) : (tDz κ b').rp S (upd H p (.frz od (.dK kvs))) v x := by
  obtain ⟨a, kvs', rfl, ⟨h1, h2⟩, h3, h4⟩ := h
  refine ⟨a, kvs', rfl, ⟨?_, h2⟩, h3.imp fun _ _ ⟨g1, g2, g3⟩ => ⟨g1, g2, DL.at hp rfl g3⟩, h4⟩
  by_cases c : a = p
  · subst c
    rw [hp] at h1
    cases h1
    exact .inr ⟨od, upd_same⟩
  · exact .inl (by rw [upd_ne c]; exact h1)
theorem ev_zGet {ck : Ty K κ} [KeyT ck] {td ty : TE} {rd : Option (List (κ × β))} {rk : Option κ} (h : Ev S T td σ H (of (tDz κ b') S) rd) (hk : Ev S T ty σ H (of ck S) rk) :
    Ev S T (tDGet td ty) σ H (of b' S) (bd rd fun d => bd rk fun k => getK d k) := by
  intro z e H1 f1 d Q q
  obtain ⟨xs, ex, e⟩ := bd_some e
  obtain ⟨k, ek, e⟩ := bd_some e
  refine h xs ex H1 f1 d _ fun v H2 s2 hv => hk k ek H2 (f1.trans (Fr.same s2)) (d.same s2) _ fun w H3 s3 hw => ?_
  obtain ⟨p, kvs, rfl, ⟨g1, _⟩, g3, _⟩ := (tDz κ b').mono (Fr.same s3) hv
  obtain ⟨rfl, _⟩ := KeyT.to hw
  rcases val_get (k := k) g3 with ⟨e1, _⟩ | ⟨x, v, e1, e2, e3⟩
  · rw [e1] at e; cases e
  · rw [e1] at e
    cases e
    exact ⟨p, v, rfl, .inl ⟨kvs, kk k, g1, rfl, e2.symm⟩, q v H3 (s2.trans s3) e3⟩
end
end M

/-! ### new lists within a new list -/
namespace M
open PySem L2 G
section
variable {K : PySem.W.Frag} {α β : Type} {a : Ty K α} {S T : AS} {σ : L2.St} {H : Hp} {te : TE}
/-- .. at an address that B hasn't -/
def tNw (B : Hp) (c : Ty K α) : Ty K α where
  rp S H v x := c.rp S H v x ∧ ∃ p, v = .ref p ∧ B p = none
  mono f h := ⟨c.mono f h.1, h.2⟩
  ext f h := ⟨c.ext f h.1, h.2⟩
  sub f h := ⟨c.sub f h.1, h.2⟩
def nwN (a : Ty K α) (S : AS) : Rl (List (List α)) := ⟨fun B H v x => nwL (tNw B (tL a)) S B H v x, fun f d ⟨p, e, n, vs, hv, ha⟩ => ⟨p, e, fr_back f d n, vs, hv, ha.imp fun _ _ ⟨g, q, eq, nq⟩ => ⟨g, q, eq, fr_back f d nq⟩⟩⟩
theorem ev_newNw {B : Hp} {r : Option (List α)} (f0 : Fr [] B H) (h : Ev S [] te σ H (nw a S) r) : Ev S [] te σ H (of (tNw B (tL a)) S) r := by
  intro x ex H1 f d Q q
  refine h x ex H1 f d Q fun v H2 s hv => q v H2 s ⟨nwL.rp hv d, ?_⟩
  obtain ⟨p, e, n, _⟩ := hv
  exact ⟨p, e, fr_back (f0.trans f) Dom.nil n⟩
theorem ev_unNw {B : Hp} {r : Option α} (h : Ev S T te σ H (of (tNw B a) S) r) : Ev S T te σ H (of a S) r := fun x ex H1 f d Q q => h x ex H1 f d Q fun v H2 s hv => q v H2 s hv.1
theorem nwN.rp {B : Hp} {v : V} {x : List (List α)} (h : (nwN a S).r B H v x) (d : Dom S B) : (tL (tL a)).rp S H v x := by
  obtain ⟨p, vs, e, hp, ha⟩ := nwL.rp h d
  exact ⟨p, vs, e, hp, ha.imp fun _ _ g => g.1⟩
def Nest (B H : Hp) (v : V) : Prop := ∃ p vs, v = .ref p ∧ B p = none ∧ H p = some (.lst vs) ∧ vs.length ≤ 1000 ∧ ∀ x ∈ vs, ∃ q ws, x = .ref q ∧ B q = none ∧ q ≠ p ∧ H q = some (.lst ws) ∧ ws.length ≤ 1000
def spo2? (xs : List (List α)) : Option Unit := if xs.length ≤ 1000 ∧ (xs.all fun x => decide (x.length ≤ 1000)) = true then some () else none
theorem nest_of {B : Hp} {v : V} {x : List (List Str)} (h : (nwN (tStr (K := K)) S).r B H v x) (e : spo2? x = some ()) : Nest B H v := by
  unfold spo2? at e
  split at e
  case isFalse => cases e
  rename_i hl
  obtain ⟨p, rfl, n, vs, hv, ha⟩ := h
  refine ⟨p, vs, rfl, n, hv, by rw [ha.len]; exact hl.1, fun y hy => ?_⟩
  have key : ∃ z ∈ x, (tNw B (tL (tStr (K := K)))).rp (p :: S) H y z := by
    clear hv hl e n
    induction ha with
    | nil => cases hy
    | cons g _ ih =>
      rcases List.mem_cons.mp hy with rfl | hy
      · exact ⟨_, List.mem_cons_self, g⟩
      · obtain ⟨z, hz, g⟩ := ih hy
        exact ⟨z, List.mem_cons_of_mem _ hz, g⟩
  obtain ⟨z, hz, ⟨q, ws, rfl, ⟨hq, nq⟩, hw⟩, q', eq, nb⟩ := key
  cases eq
  refine ⟨q, ws, rfl, nb, fun z => nq (by rw [z]; exact List.mem_cons_self), hq, ?_⟩
  have := List.all_eq_true.mp hl.2 z hz
  rw [hw.len]
  exact of_decide_eq_true this
theorem Nest.fr {B H' : Hp} {v : V} (h : Nest B H v) (f : Fr T H H') (d : Dom T B) : Nest B H' v := by
  obtain ⟨p, vs, e, n, hp, hl, hx⟩ := h
  have k : ∀ {q : Addr} {o : HO}, B q = none → H q = some o → H' q = some o := fun nb e => f _ _ e (d.not_mem nb)
  refine ⟨p, vs, e, n, k n hp, hl, fun x m => ?_⟩
  obtain ⟨q, ws, e, nq, ne, hq, hw⟩ := hx x m
  exact ⟨q, ws, e, nq, ne, k nq hq, hw⟩
end
end M

namespace G
open PySem L2 M

def top (i : Nat) : Stmt := PySem.Challenge.pw_gromatic_k06_what_hangs_together.main.body.getD i (.Pass ⟨0, 0, 0, 0⟩)
abbrev s_is_word : Stmt := top 10
abbrev n_is_word : List Str := ["text", "sign"]
abbrev p_is_word : List Str := ["text"]
theorem sc_is_word : FnScope n_is_word p_is_word (defScope s_is_word) := ⟨rfl, rfl, rfl, by decide +kernel, rfl, by decide +kernel, by decide +kernel⟩
abbrev s_is_name : Stmt := top 11
abbrev n_is_name : List Str := ["name"]
abbrev p_is_name : List Str := ["name"]
theorem sc_is_name : FnScope n_is_name p_is_name (defScope s_is_name) := ⟨rfl, rfl, rfl, by decide +kernel, rfl, by decide +kernel, by decide +kernel⟩
abbrev s_is_within : Stmt := top 12
abbrev n_is_within : List Str := ["number", "low", "high"]
abbrev p_is_within : List Str := ["number", "low", "high"]
theorem sc_is_within : FnScope n_is_within p_is_within (defScope s_is_within) := ⟨rfl, rfl, rfl, by decide +kernel, rfl, by decide +kernel, by decide +kernel⟩
abbrev s_check_name : Stmt := top 13
abbrev n_check_name : List Str := ["name"]
abbrev p_check_name : List Str := ["name"]
theorem sc_check_name : FnScope n_check_name p_check_name (defScope s_check_name) := ⟨rfl, rfl, rfl, by decide +kernel, rfl, by decide +kernel, by decide +kernel⟩
abbrev s_check_number : Stmt := top 14
abbrev n_check_number : List Str := ["number", "low", "high"]
abbrev p_check_number : List Str := ["number", "low", "high"]
theorem sc_check_number : FnScope n_check_number p_check_number (defScope s_check_number) := ⟨rfl, rfl, rfl, by decide +kernel, rfl, by decide +kernel, by decide +kernel⟩
abbrev s_check_place : Stmt := top 19
abbrev n_check_place : List Str := ["at", "number"]
abbrev p_check_place : List Str := ["at"]
theorem sc_check_place : FnScope n_check_place p_check_place (defScope s_check_place) := ⟨rfl, rfl, rfl, by decide +kernel, rfl, by decide +kernel, by decide +kernel⟩
abbrev s_check_reading : Stmt := top 20
abbrev n_check_reading : List Str := ["marks", "number", "reading", "one", "other", "across", "up", "weight", "name"]
abbrev p_check_reading : List Str := ["marks", "number", "reading"]
theorem sc_check_reading : FnScope n_check_reading p_check_reading (defScope s_check_reading) := ⟨rfl, rfl, rfl, by decide +kernel, rfl, by decide +kernel, by decide +kernel⟩
abbrev s_neighbours : Stmt := top 21
abbrev n_neighbours : List Str := ["marks", "readings", "near", "reading", "one", "other", "name"]
abbrev p_neighbours : List Str := ["marks", "readings"]
theorem sc_neighbours : FnScope n_neighbours p_neighbours (defScope s_neighbours) := ⟨rfl, rfl, rfl, by decide +kernel, rfl, by decide +kernel, by decide +kernel⟩
abbrev s_reached : Stmt := top 22
abbrev n_reached : List Str := ["near", "start", "found", "waiting", "here", "name"]
abbrev p_reached : List Str := ["near", "start"]
theorem sc_reached : FnScope n_reached p_reached (defScope s_reached) := ⟨rfl, rfl, rfl, by decide +kernel, rfl, by decide +kernel, by decide +kernel⟩
abbrev s_Survey___init__ : Stmt := inClass (top 23) 0
abbrev n_Survey___init__ : List Str := ["self", "marks", "readings", "name", "number"]
abbrev p_Survey___init__ : List Str := ["self", "marks", "readings"]
theorem sc_Survey___init__ : FnScope n_Survey___init__ p_Survey___init__ (defScope s_Survey___init__) := ⟨rfl, rfl, rfl, by decide +kernel, rfl, by decide +kernel, by decide +kernel⟩
abbrev s_Survey_names : Stmt := inClass (top 23) 3
abbrev n_Survey_names : List Str := ["self"]
abbrev p_Survey_names : List Str := ["self"]
theorem sc_Survey_names : FnScope n_Survey_names p_Survey_names (defScope s_Survey_names) := ⟨rfl, rfl, rfl, by decide +kernel, rfl, by decide +kernel, by decide +kernel⟩
abbrev s_Survey_hangs : Stmt := inClass (top 23) 4
abbrev n_Survey_hangs : List Str := ["self", "name"]
abbrev p_Survey_hangs : List Str := ["self", "name"]
theorem sc_Survey_hangs : FnScope n_Survey_hangs p_Survey_hangs (defScope s_Survey_hangs) := ⟨rfl, rfl, rfl, by decide +kernel, rfl, by decide +kernel, by decide +kernel⟩
abbrev s_Survey_pieces : Stmt := inClass (top 23) 5
abbrev n_Survey_pieces : List Str := ["self", "near", "found", "told", "name", "piece", "mark"]
abbrev p_Survey_pieces : List Str := ["self"]
theorem sc_Survey_pieces : FnScope n_Survey_pieces p_Survey_pieces (defScope s_Survey_pieces) := ⟨rfl, rfl, rfl, by decide +kernel, rfl, by decide +kernel, by decide +kernel⟩
abbrev s_Survey_loose : Stmt := inClass (top 23) 6
abbrev n_Survey_loose : List Str := ["self", "told", "piece", "name"]
abbrev p_Survey_loose : List Str := ["self"]
theorem sc_Survey_loose : FnScope n_Survey_loose p_Survey_loose (defScope s_Survey_loose) := ⟨rfl, rfl, rfl, by decide +kernel, rfl, by decide +kernel, by decide +kernel⟩
abbrev s_law_bag : Stmt := top 25
abbrev n_law_bag : List Str := ["_law_script"]
abbrev p_law_bag : List Str := ["_law_script"]
theorem sc_law_bag : FnScope n_law_bag p_law_bag (defScope s_law_bag) := ⟨rfl, rfl, rfl, by decide +kernel, rfl, by decide +kernel, by decide +kernel⟩
abbrev s_law_draw : Stmt := top 26
abbrev n_law_draw : List Str := ["_law_bag_here", "_law_many", "_law_cells", "_law_slot", "_law_cell", "_law_seed"]
abbrev p_law_draw : List Str := ["_law_bag_here", "_law_many"]
theorem sc_law_draw : FnScope n_law_draw p_law_draw (defScope s_law_draw) := ⟨rfl, rfl, rfl, by decide +kernel, rfl, by decide +kernel, by decide +kernel⟩
abbrev s_law_whole : Stmt := top 27
abbrev n_law_whole : List Str := ["_law_found"]
abbrev p_law_whole : List Str := ["_law_found"]
theorem sc_law_whole : FnScope n_law_whole p_law_whole (defScope s_law_whole) := ⟨rfl, rfl, rfl, by decide +kernel, rfl, by decide +kernel, by decide +kernel⟩
abbrev s_law_same : Stmt := top 28
abbrev n_law_same : List Str := ["_law_found", "_law_due", "_law_name_here", "_law_k"]
abbrev p_law_same : List Str := ["_law_found", "_law_due"]
theorem sc_law_same : FnScope n_law_same p_law_same (defScope s_law_same) := ⟨rfl, rfl, rfl, by decide +kernel, rfl, by decide +kernel, by decide +kernel⟩
abbrev s_law_any : Stmt := top 29
abbrev n_law_any : List Str := ["_law_bag_here", "_law_some"]
abbrev p_law_any : List Str := ["_law_bag_here", "_law_some"]
theorem sc_law_any : FnScope n_law_any p_law_any (defScope s_law_any) := ⟨rfl, rfl, rfl, by decide +kernel, rfl, by decide +kernel, by decide +kernel⟩
abbrev s_law_spoil : Stmt := top 30
abbrev n_law_spoil : List Str := ["_law_row"]
abbrev p_law_spoil : List Str := ["_law_row"]
theorem sc_law_spoil : FnScope n_law_spoil p_law_spoil (defScope s_law_spoil) := ⟨rfl, rfl, rfl, by decide +kernel, rfl, by decide +kernel, by decide +kernel⟩
abbrev s_law_name : Stmt := top 31
abbrev n_law_name : List Str := ["_law_bag_here", "_law_letters", "_law_k"]
abbrev p_law_name : List Str := ["_law_bag_here"]
theorem sc_law_name : FnScope n_law_name p_law_name (defScope s_law_name) := ⟨rfl, rfl, rfl, by decide +kernel, rfl, by decide +kernel, by decide +kernel⟩
abbrev s_law_names : Stmt := top 32
abbrev n_law_names : List Str := ["_law_bag_here", "_law_many", "_law_found", "_law_k", "_law_name_here"]
abbrev p_law_names : List Str := ["_law_bag_here", "_law_many"]
theorem sc_law_names : FnScope n_law_names p_law_names (defScope s_law_names) := ⟨rfl, rfl, rfl, by decide +kernel, rfl, by decide +kernel, by decide +kernel⟩
abbrev s_law_marks : Stmt := top 33
abbrev n_law_marks : List Str := ["_law_bag_here", "_law_many", "_law_found", "_law_name_here"]
abbrev p_law_marks : List Str := ["_law_bag_here", "_law_many"]
theorem sc_law_marks : FnScope n_law_marks p_law_marks (defScope s_law_marks) := ⟨rfl, rfl, rfl, by decide +kernel, rfl, by decide +kernel, by decide +kernel⟩
abbrev s_law_readings : Stmt := top 34
abbrev n_law_readings : List Str := ["_law_bag_here", "_law_names_here", "_law_many", "_law_found", "_law_number", "_law_k", "_law_one", "_law_two", "_law_sizes", "_law_high"]
abbrev p_law_readings : List Str := ["_law_bag_here", "_law_names_here", "_law_many"]
theorem sc_law_readings : FnScope n_law_readings p_law_readings (defScope s_law_readings) := ⟨rfl, rfl, rfl, by decide +kernel, rfl, by decide +kernel, by decide +kernel⟩
abbrev s_law_tied : Stmt := top 35
abbrev n_law_tied : List Str := ["_law_names_here", "_law_readings_here", "_law_heads", "_law_name_here", "_law_number", "_law_one", "_law_two"]
abbrev p_law_tied : List Str := ["_law_names_here", "_law_readings_here"]
theorem sc_law_tied : FnScope n_law_tied p_law_tied (defScope s_law_tied) := ⟨rfl, rfl, rfl, by decide +kernel, rfl, by decide +kernel, by decide +kernel⟩
abbrev s_law_hanging : Stmt := top 36
abbrev n_law_hanging : List Str := ["_law_marks_here", "_law_readings_here", "_law_heads", "_law_ground", "_law_name_here"]
abbrev p_law_hanging : List Str := ["_law_marks_here", "_law_readings_here"]
theorem sc_law_hanging : FnScope n_law_hanging p_law_hanging (defScope s_law_hanging) := ⟨rfl, rfl, rfl, by decide +kernel, rfl, by decide +kernel, by decide +kernel⟩
abbrev s_law_hang : Stmt := top 37
abbrev n_law_hang : List Str := ["_law_survey", "_law_name_here", "_law_told", "e"]
abbrev p_law_hang : List Str := ["_law_survey", "_law_name_here"]
theorem sc_law_hang : FnScope n_law_hang p_law_hang (defScope s_law_hang) := ⟨rfl, rfl, rfl, by decide +kernel, rfl, by decide +kernel, by decide +kernel⟩
abbrev s_law : Stmt := top 38
abbrev n_law : List Str := ["_law_script", "_law_bag_here", "_law_marks_here", "_law_readings_here", "_law_survey", "_law_heads", "_law_due", "_law_head", "_law_hanging_here", "_law_good", "_law_turn", "_law_found", "_law_row", "_law_late", "_law_gone", "_law_name_here"]
abbrev p_law : List Str := ["_law_script"]
theorem sc_law : FnScope n_law p_law (defScope s_law) := ⟨rfl, rfl, rfl, by decide +kernel, rfl, by decide +kernel, by decide +kernel⟩
open PyProof.Rows in
section
open PySem.SupX in
def okV (v : V) : Prop := (∃ x : Str, v = .str x ∧ (PySem.reprText x).length ≤ 1000000) ∨ (∃ i : Int, v = .int i ∧ i.natAbs.log2 < 1920) ∨ (∃ b, v = .bl b) ∨ v = .non
theorem okV_shows {v : V} {u : Value} (h : okV v) (r : RelV v u) : PySem.SupX.Shows u := by
  rcases h with ⟨x, rfl, hx⟩ | ⟨i, rfl, hi⟩ | ⟨b, rfl⟩ | rfl
  · obtain ⟨t, rfl⟩ := r
    exact .inl ⟨x, t, rfl, hx⟩
  · obtain ⟨t, rfl⟩ := r
    exact .inr (.inl ⟨i, t, rfl, hi⟩)
  · exact .inr (.inr (.inl ⟨b, r⟩))
  · exact .inr (.inr (.inr r))
/-- an own error class with one field, its __init__ by super() -/
def SupE (P : Program) (K : PySem.W.Frag) (mg : Str → Option Value) (n f : Str) (C : Addr) : Prop :=
  ∃ (B newId i : String) (bmB : List Value) (fI : Addr) (qual : Str) (params : Arguments) (ws : List Expr), PySem.SupX.SupTxt P K mg B newId i bmB C fI f qual params ws ∧ SupC K mg n C ∧ XfC K C ∧ PySem.W.findIn K (.ref C) f = some none ∧ ∀ w v u, okV v → RelV v u → PySem.SupX.Tells P w ws f qual u
def SupL (P : Program) (K : PySem.W.Frag) (n f : Str) (C : Addr) : Prop := ∀ mg : Str → Option Value, mg n = some (.ref C) → mg "super" = none → SupE P K mg n f C
theorem pmk_E {X : Cx} {C : Addr} {n f : Str} {a : Expr} {ta : TA} {p pos : Pos} {k : Nat} (T : SupE X.prog X.K X.mg n f C) (hr : Room k X.A) (ha : PA X [a] ta) (hg : Gl X n)
    (hdb : (n == ("__debug__" : Str)) = false := by decide) (he : starEach (a :: []) X.env = (false, eval a X.env) :: starEach [] X.env := by rfl) (hpl : (backTo pos (starEach [] X.env)).any (·.1) = false := by rfl) :
    PMk X (.Call (.Name n p) [a] [] pos) (tMkSup C f okV ta) := by
  obtain ⟨B, newId, i, bmB, fI, qual, params, ws, T, S, xf, nf, hT⟩ := T
  exact pmk_sup T S (fun v u => hT X.w v u) hr ha hg hdb he hpl
theorem ps_raiseE {X : Cx} {C : Addr} {n f : Str} {a : Expr} {ta : TA} {W : WX} {p pos pos2 : Pos} {k : Nat} (hc : X.calm = true) (T : SupE X.prog X.K X.mg n f C) (hr : Room k X.A) (tk : Takes X W) (ha : PA X [a] ta) (hg : Gl X n)
    (hdb : (n == ("__debug__" : Str)) = false := by decide) (he : starEach (a :: []) X.env = (false, eval a X.env) :: starEach [] X.env := by rfl) (hpl : (backTo pos (starEach [] X.env)).any (·.1) = false := by rfl) :
    PS X (.Raise (some (.Call (.Name n p) [a] [] pos)) none pos2) (tRaiseSup C f okV W ta) := ps_raise hc tk (pmk_E T hr ha hg hdb he hpl)
open PySem.SupX PySem.W in
theorem supL_mk {P : Program} {K : PySem.W.Frag} {B newId i : String} {bmB : List Value} {C fI : Addr} {n f qual : Str} {params : Arguments} {pre : Str} {j : Nat} {w1 w2 w3 : Pos}
    {oc : Value} {od : Option Addr} {doc pm : Value} {an : Option Addr} {cda : Addr} {ct : Value} {osl : Array (Option Value)} {cc : Addr} {cl : Value} {cld : Option Addr} {csl : Array (Option Value)} {ccl : Value} {cdd : Option Addr} {vs : Array Value} {ccs : Array (Option Value)} {file : Str} {tf : Tok} {pj p0 p1 p2 p3 p4 q1 q2 q3 q4 : Pos}
    (FB : ExcBaseFacts B newId i bmB) (KF : KxsFacts B i) (SF : StoreFacts B bmB "object.__setattr__" "object")
    (iC : findIn K (.ref C) "__init__" = some (some (.ref fI)))
    (l : K.lookup fI = some ⟨oc, od, .func (ksFn "__init__" qual params (sB f [.Constant (.str pre) j w1, .FormattedValue (.Name f w2) 114 none w3] pj p0 p1 p2 p3 p4 q1 q2 q3 q4) (sS f) .none .none doc pm an (.ref cda) ct cc), osl⟩)
    (cd : codeIn K (.ref cda) qual = true) (lc : K.lookup cc = some ⟨cl, cld, .cell (some (.ref C)), csl⟩) (lk : K.lookup cda = some ⟨ccl, cdd, .fields vs, ccs⟩) (hvs : vs[2]? = some (.str file tf)) (hfile : ((P.main.file : Str) == file) = true)
    (hl : (p2.endLine == p3.line) = true) (hb : ∀ (s : Shared) (x v : Value), BindsTo s (ksFn "__init__" qual params (sB f [.Constant (.str pre) j w1, .FormattedValue (.Name f w2) 114 none w3] pj p0 p1 p2 p3 p4 q1 q2 q3 q4) (sS f) .none .none doc pm an (.ref cda) ct cc) ⟨[x, v], []⟩ [("self", x), (f, v)])
    (ini : excInitIn K C bmB newId = true) (over : excOver K C bmB = true) (sa : findIn K (.ref C) "__setattr__" = some (some (.builtin "object.__setattr__"))) (tk : takerIn K C f = some none) (hd : hasDictIn K C = true) (tC : typeIn K (.ref fI) = some (.type "function"))
    (sub : subIn K (.ref C) (.type B) = some true) (mro : mroIn K C (.ref C) = some true) (sup : ks_superIn K C C "__init__" = some (some (.builtin i))) (opq : nsIn K cStatics "thirdparty.any" = some none) (top : (P.main.scope.names.lookup ("super" : Str)).isSome = false)
    (hd1 : (params.posonlyargs ++ params.args).head?.map (·.arg) = some "self") (nn : (f != "self" && f != "__class__" && f != "super" && f != "__debug__") = true) (lf : (sS f).names.lookup f = some .local) (hz : pre.length ≤ 1000)
    (kC : keepIn K (.ref C) = true) (exC : subIn K (.ref C) (.type "BaseException") = some true) (tyC : typeIn K (.ref C) = some (.type "type")) (xf : XfC K C) (nf : findIn K (.ref C) f = some none) : SupL P K n f C := by
  intro mg gC nos
  simp only [Bool.and_eq_true, bne_iff_ne, ne_eq] at nn
  obtain ⟨⟨⟨n1, n2⟩, n3⟩, n4⟩ := nn
  have dbg : (f == ("__debug__" : Str)) = false := by simpa using n4
  exact ⟨B, newId, i, bmB, fI, qual, params, _, ⟨FB, KF, SF, ini, over, sa, tk, hd, iC, tC, sub, mro, sup, opq, nos, top, hd1, dbg, n1, n2, n3,
    ⟨oc, od, doc, pm, an, cda, ct, osl, cc, cl, cld, csl, ccl, cdd, vs, ccs, file, tf, pj, p0, p1, p2, p3, p4, q1, q2, q3, q4, l, cd, lc, lk, hvs, hfile, hl, hb⟩⟩, ⟨gC, kC, exC, tyC⟩, xf, nf,
    fun w v u hv r => tells_r (okV_shows hv r) lf dbg hz⟩

end
structure Bt (mg : Str → Option Value) : Prop where
  len_ : mg "len" = none
  min_ : mg "min" = none
  set_ : mg "set" = none
  list_ : mg "list" = none
  isinstance_ : mg "isinstance" = none
  int_ : mg "int" = none
  bool_ : mg "bool" = none
  str_ : mg "str" = none
  dict_ : mg "dict" = none
  tuple_ : mg "tuple" = none
  all_ : mg "all" = none
  range_ : mg "range" = none
  sorted_ : mg "sorted" = none
  max_ : mg "max" = none
  repr_ : mg "repr" = none
  sum_ : mg "sum" = none
  super_ : mg "super" = none
structure At (K : PySem.W.Frag) (mg : Str → Option Value) (name : String) (st : Stmt) (ps : List Str) (f : Addr) (fd : FuncData) : Prop where
  F : Fun K (Str.ofString name) (Str.ofString name) st f fd
  b : Binds K fd ps []
  m : mg (Str.ofString name) = some (.ref f)
structure AtM (K : PySem.W.Frag) (C : Addr) (name qual : String) (st : Stmt) (ps : List Str) (f : Addr) (fd : FuncData) : Prop where
  F : Fun K (Str.ofString name) (Str.ofString qual) st f fd
  b : Binds K fd ps []
  me : Meth K C (Str.ofString name) f
structure Env (P : Program) (K : PySem.W.Frag) (mg : Str → Option Value) where
  f_is_word : Addr
  d_is_word : FuncData
  f_is_name : Addr
  d_is_name : FuncData
  f_is_within : Addr
  d_is_within : FuncData
  f_check_name : Addr
  d_check_name : FuncData
  f_check_number : Addr
  d_check_number : FuncData
  f_check_place : Addr
  d_check_place : FuncData
  f_check_reading : Addr
  d_check_reading : FuncData
  f_neighbours : Addr
  d_neighbours : FuncData
  f_reached : Addr
  d_reached : FuncData
  f_Survey___init__ : Addr
  d_Survey___init__ : FuncData
  f_Survey_names : Addr
  d_Survey_names : FuncData
  f_Survey_hangs : Addr
  d_Survey_hangs : FuncData
  f_Survey_pieces : Addr
  d_Survey_pieces : FuncData
  f_Survey_loose : Addr
  d_Survey_loose : FuncData
  f_law_bag : Addr
  d_law_bag : FuncData
  f_law_draw : Addr
  d_law_draw : FuncData
  f_law_whole : Addr
  d_law_whole : FuncData
  f_law_same : Addr
  d_law_same : FuncData
  f_law_any : Addr
  d_law_any : FuncData
  f_law_spoil : Addr
  d_law_spoil : FuncData
  f_law_name : Addr
  d_law_name : FuncData
  f_law_names : Addr
  d_law_names : FuncData
  f_law_marks : Addr
  d_law_marks : FuncData
  f_law_readings : Addr
  d_law_readings : FuncData
  f_law_tied : Addr
  d_law_tied : FuncData
  f_law_hanging : Addr
  d_law_hanging : FuncData
  f_law_hang : Addr
  d_law_hang : FuncData
  f_law : Addr
  d_law : FuncData
  C_Survey : Addr
  C_NoMark : Addr
  A_is_word : At K mg "is_word" s_is_word p_is_word f_is_word d_is_word
  A_is_name : At K mg "is_name" s_is_name p_is_name f_is_name d_is_name
  A_is_within : At K mg "is_within" s_is_within p_is_within f_is_within d_is_within
  A_check_name : At K mg "check_name" s_check_name p_check_name f_check_name d_check_name
  A_check_number : At K mg "check_number" s_check_number p_check_number f_check_number d_check_number
  A_check_place : At K mg "check_place" s_check_place p_check_place f_check_place d_check_place
  A_check_reading : At K mg "check_reading" s_check_reading p_check_reading f_check_reading d_check_reading
  A_neighbours : At K mg "neighbours" s_neighbours p_neighbours f_neighbours d_neighbours
  A_reached : At K mg "reached" s_reached p_reached f_reached d_reached
  A_Survey___init__ : AtM K C_Survey "__init__" "Survey.__init__" s_Survey___init__ p_Survey___init__ f_Survey___init__ d_Survey___init__
  A_Survey_names : AtM K C_Survey "names" "Survey.names" s_Survey_names p_Survey_names f_Survey_names d_Survey_names
  A_Survey_hangs : AtM K C_Survey "hangs" "Survey.hangs" s_Survey_hangs p_Survey_hangs f_Survey_hangs d_Survey_hangs
  A_Survey_pieces : AtM K C_Survey "pieces" "Survey.pieces" s_Survey_pieces p_Survey_pieces f_Survey_pieces d_Survey_pieces
  A_Survey_loose : AtM K C_Survey "loose" "Survey.loose" s_Survey_loose p_Survey_loose f_Survey_loose d_Survey_loose
  A_law_bag : At K mg "_law_bag" s_law_bag p_law_bag f_law_bag d_law_bag
  A_law_draw : At K mg "_law_draw" s_law_draw p_law_draw f_law_draw d_law_draw
  A_law_whole : At K mg "_law_whole" s_law_whole p_law_whole f_law_whole d_law_whole
  A_law_same : At K mg "_law_same" s_law_same p_law_same f_law_same d_law_same
  A_law_any : At K mg "_law_any" s_law_any p_law_any f_law_any d_law_any
  A_law_spoil : At K mg "_law_spoil" s_law_spoil p_law_spoil f_law_spoil d_law_spoil
  A_law_name : At K mg "_law_name" s_law_name p_law_name f_law_name d_law_name
  A_law_names : At K mg "_law_names" s_law_names p_law_names f_law_names d_law_names
  A_law_marks : At K mg "_law_marks" s_law_marks p_law_marks f_law_marks d_law_marks
  A_law_readings : At K mg "_law_readings" s_law_readings p_law_readings f_law_readings d_law_readings
  A_law_tied : At K mg "_law_tied" s_law_tied p_law_tied f_law_tied d_law_tied
  A_law_hanging : At K mg "_law_hanging" s_law_hanging p_law_hanging f_law_hanging d_law_hanging
  A_law_hang : At K mg "_law_hang" s_law_hang p_law_hang f_law_hang d_law_hang
  A_law : At K mg "law" s_law p_law f_law d_law
  B : Bt mg
  X_NoMark : SupE P K mg "NoMark" "name" C_NoMark
  xm_NM : PySem.W.exmOne K (.ref C_NoMark) (.ref C_NoMark) = some true
  cl_Survey : Cls K C_Survey
  M_Survey : Mk K C_Survey f_Survey___init__
  g_Survey : mg "Survey" = some (.ref C_Survey)
  n_own_marks : NoAttr K C_Survey "own_marks"
  n_own_readings : NoAttr K C_Survey "own_readings"
  t1 : Tok
  t2 : Tok
  t3 : Tok
  t4 : Tok
  t5 : Tok
  c_MOST : mg "MOST" = some (.int 999 t1)
  c_LEAST_WEIGHT : mg "LEAST_WEIGHT" = some (.int 1 t2)
  c_MOST_WEIGHT : mg "MOST_WEIGHT" = some (.int 9 t3)
  c_LONGEST : mg "LONGEST" = some (.int 6 t4)
  c_LETTERS : mg "LETTERS" = some (.str "abcdefghijklmnopqrstuvwxyz" t5)
section
variable {P : Program} {w : World} {K : PySem.W.Frag} {mg : Str → Option Value} {base : Heap}

end
end G

namespace G
open PySem L2 M
section
variable {P : Program} {w : World} {K : PySem.W.Frag} {mg : Str → Option Value} {base : Heap}

/-! ### the bag -/
def spBag (K : PySem.W.Frag) : Sp := fun vs H Q _ => ∃ (a : Addr) (ns : List Int), vs = [.ref a] ∧ SqL K H a (ns.map V.int) ∧ ns.length ≤ 63 ∧ ∀ b c H', Bag H' b c → H b = none → H c = none → Same H H' → Q (.ref b) H'
theorem ok_law_bag (ev : Env P K mg) : FnOk P w K mg base CX0 1 ev.f_law_bag ev.d_law_bag p_law_bag (spBag K) := by
  refine ev.A_law_bag.F.ok sc_law_bag (fun vs H Q E h => ?_) (fun cdv A outer s H vs Q E hr h => ?_)
  · obtain ⟨a, ns, rfl, _⟩ := h
    rfl
  obtain ⟨a, ns, rfl, hS, hl, q⟩ := h
  refine ⟨_, (pss_one (ps_ret (pe_lst (pa_cons (pe_callTy call_list_of (by rfl) ev.B.list_ (by decide +kernel) (pa_cons (pe_slice sl_list (pv 0) po_none (po_some pe_int)) pa_nil)) (pa_cons pe_int (pa_cons pe_int pa_nil)))))), ?_⟩
  obtain ⟨ms, em, lm⟩ := cut_ints ns none (some 63)
  refine ⟨_, rfl, _, rfl, a, _, rfl, hS, fun d nd => ?_⟩
  have s1 : Same H (upd H d (.lst (cutV (ns.map V.int) none (some 63)))) := same_upd nd
  refine ⟨d, _, rfl, .inl (SqL.of upd_same), fun c nc => ?_⟩
  have s2 := s1.trans (same_upd (o := .lst (cutV (ns.map V.int) none (some 63))) nc)
  refine ⟨(by show 3 ≤ sizeLine; decide), fun b nb => ?_⟩
  have ne : b ≠ c := fun z => by
    rw [z, upd_same] at nb
    cases nb
  refine q b c _ ⟨ne, ms, 0, 11, upd_same, ?_, by omega, by decide, by decide, by decide⟩ (s2.free nb) (s1.free nc) (s2.trans (same_upd nb))
  rw [upd_ne ne.symm, upd_same, em]

/-! ### a draw -/
def Els (b c : Addr) (H H' : Hp) : Prop := ∀ p, p ≠ b → p ≠ c → H' p = H p
theorem Els.trans {b c : Addr} {H H' H'' : Hp} (h : Els b c H H') (h' : Els b c H' H'') : Els b c H H'' := fun p n m => (h' p n m).trans (h p n m)
theorem Els.kept {b c : Addr} {H H' : Hp} (h : Els b c H H') : Kept b c H H' := fun p _ e n m => (h p n m).trans e
theorem Els.tup {b c p : Addr} {H H' : Hp} {xs : List V} (h : Els b c H H') (hB : Bag H b c) (e : H p = some (.tup xs)) : H' p = some (.tup xs) := by
  obtain ⟨n1, n2⟩ := hB.tup e
  exact (h p n1 n2).trans e
def spDraw : Sp := fun vs H Q _ => ∃ (b c : Addr) (m : Int), vs = [.ref b, .int m] ∧ Bag H b c ∧ 0 < m ∧ m < 1073741824 ∧ ∀ (r : Int) (H' : Hp), 0 ≤ r → r < m → Bag H' b c → Els b c H H' → Q (.int r) H'
theorem ok_law_draw (ev : Env P K mg) : FnOk P w K mg base CX0 1 ev.f_law_draw ev.d_law_draw p_law_draw spDraw := by
  refine ev.A_law_draw.F.ok sc_law_draw (fun vs H Q E h => ?_) (fun cdv A outer s H vs Q E hr h => ?_)
  · obtain ⟨b, c, m, rfl, _⟩ := h
    rfl
  obtain ⟨b, c, m, rfl, ⟨ne, ns, slot, seed, hb, hc, hn, h0, h1, h2⟩, m0, m1, q⟩ := h
  refine ⟨_, (pss_cons (ps_set (i := 2) sc_law_draw.nd rfl (Or.inl rfl) (pe_ix ix_list (pv 0) pe_int (fun _ _ => rfl)))
    (pss_cons (ps_set (i := 3) sc_law_draw.nd rfl (Or.inl rfl) (pe_ix ix_list (pv 0) pe_int (fun _ _ => rfl)))
    (pss_cons (ps_set (i := 4) sc_law_draw.nd rfl (Or.inl rfl) pe_int)
    (pss_cons (ps_if (pt_cmpR op_gt (pe_callB call_len_seq (by rfl) ev.B.len_ PySem.boot_len (pa_cons (pv 2) pa_nil)) pe_int (nomark _))
    (pss_one (ps_set (i := 4) sc_law_draw.nd rfl (Or.inl rfl) (pe_ix ix_list (pv 2) (pe_op op_mod (pv 3) (pe_callB call_len_seq (by rfl) ev.B.len_ PySem.boot_len (pa_cons (pv 2) pa_nil))) (fun _ _ => rfl)))) pss_nil)
    (pss_cons (ps_if (pt_cmpR op_lt (pv 4) pe_int (nomark _))
    (pss_one (ps_set (i := 4) sc_law_draw.nd rfl (Or.inl rfl) (pe_op op_sub pe_int (pv 4)))) pss_nil)
    (pss_cons (ps_if (pt_cmpR op_ge (pv 4) (pe_op op_pow pe_int pe_int) (nomark _))
    (pss_cons (ps_asg (pe_op op_fdiv (pv 4) (pv 1)) (pg_sub (pv 2) (pe_op op_mod (pv 3) (pe_callB call_len_seq (by rfl) ev.B.len_ PySem.boot_len (pa_cons (pv 2) pa_nil))) set_list))
    (pss_one (ps_ret (pe_op op_mod (pv 4) (pv 1))))) pss_nil)
    (pss_cons (ps_asg (pe_op op_add (pv 3) pe_int) (pg_sub (pv 0) pe_int set_list))
    (pss_cons (ps_set (i := 5) sc_law_draw.nd rfl (Or.inl rfl) (pe_ix ix_list (pv 0) pe_int (fun _ _ => rfl)))
    (pss_cons (ps_set (i := 5) sc_law_draw.nd rfl (Or.inl rfl) (pe_op op_add (pe_op op_mul (pe_op op_mod (pe_op op_mul (pv 5) (pv 5)) pe_int) pe_int) (pe_op op_mul (pv 5) pe_int)))
    (pss_cons (ps_asg (pe_op op_mod (pe_op op_add (pe_op op_add (pe_op op_add (pv 5) (pe_op op_mul (pv 4) pe_int)) (pe_op op_mul (pv 3) pe_int)) pe_int) pe_int) (pg_sub (pv 0) pe_int set_list))
    (pss_one (ps_ret (pe_op op_mod (pe_op op_fdiv (pe_op op_mod (pe_op op_mul (pe_ix ix_list (pv 0) pe_int (fun _ _ => rfl)) pe_int) pe_int) pe_int) (pv 1)))))))))))))), ?_⟩
  refine seq_asg ⟨_, rfl, b, _, _, _, rfl, rfl, SqL.of hb, atI_nat (j := 0) rfl, ?_⟩
  refine seq_asg ⟨_, rfl, b, _, _, _, rfl, rfl, SqL.of hb, atI_nat (j := 1) rfl, ?_⟩
  have hlm : (ns.map V.int).length = ns.length := List.length_map _
  have len0 : ns ≠ [] → (0 : Int) < (((ns.map V.int).length : Nat) : Int) := fun z => by
    rw [hlm]
    have := List.length_pos_iff.mpr z
    omega
  refine seq_c ?_
  refine seq_by (fun σ H' => H' = H ∧ ∃ cell : Int, σ = [some (.ref b), some (.int m), some (.ref c), some (.int slot), some (.int cell), none] ∧ (cell ≠ 0 → ns ≠ [])) ?_ (fun k => ?_)
  rotate_left
  · refine ⟨_, rfl, c, _, rfl, .inl (SqL.of hc), _, _, rfl, rfl, _, rfl, ?_⟩
    refine ite2 (fun z => ?_) (fun z => ?_)
    · have z' : (0 : Int) < (((ns.map V.int).length : Nat) : Int) := of_decide_eq_true z
      obtain ⟨v, hv⟩ := int_at (ns := ns) (i := slot % (((ns.map V.int).length : Nat) : Int)) (Int.emod_nonneg _ (by omega)) (by rw [← hlm]; exact Int.emod_lt_of_pos _ z')
      refine ⟨_, rfl, _, rfl, _, rfl, c, _, rfl, .inl (SqL.of hc), _, _, rfl, rfl, z', c, _, _, _, rfl, rfl, SqL.of hc, hv, ?_⟩
      refine k _ _ ⟨rfl, v, rfl, fun _ e => ?_⟩
      rw [hlm, e] at z'
      exact absurd z' (by decide)
    · exact k _ _ ⟨rfl, 0, rfl, fun e => absurd rfl e⟩
  rintro σ H' ⟨rfl, cell, rfl, hcell⟩
  refine seq_by (fun σ H2 => H2 = H' ∧ ∃ cell : Int, σ = [some (.ref b), some (.int m), some (.ref c), some (.int slot), some (.int cell), none] ∧ 0 ≤ cell ∧ (cell ≠ 0 → ns ≠ [])) ?_ (fun k => ?_)
  rotate_left
  · refine ⟨_, rfl, _, _, rfl, rfl, _, rfl, ?_⟩
    refine ite2 (fun z => ?_) (fun z => ?_)
    · have z' : cell < 0 := of_decide_eq_true z
      exact ⟨_, rfl, _, _, rfl, rfl, k _ _ ⟨rfl, 1 - cell, rfl, by omega, fun _ => hcell (by omega)⟩⟩
    · have z' : ¬ cell < 0 := fun e => z (decide_eq_true e)
      exact k _ _ ⟨rfl, cell, rfl, by omega, hcell⟩
  rintro σ H' ⟨rfl, cell, rfl, hc0, hcell⟩
  refine ⟨_, rfl, _, _, rfl, rfl, ⟨by decide, by decide, by decide⟩, _, _, rfl, rfl, _, rfl, ?_⟩
  refine ite2 (fun z => ?_) (fun z => ?_)
  · have z' : cell ≥ (10 : Int) ^ (18 : Int).toNat := of_decide_eq_true z
    have zz : cell ≠ 0 := fun e => by
      rw [e] at z'
      exact absurd z' (by decide)
    have z2 := len0 (hcell zz)
    have b0 := Int.emod_nonneg slot (show (((ns.map V.int).length : Nat) : Int) ≠ 0 by omega)
    have b1 := Int.emod_lt_of_pos slot z2
    refine ⟨_, rfl, _, rfl, _, _, rfl, rfl, ⟨m0, m1⟩, _, rfl, _, rfl, _, rfl, c, _, rfl, .inl (SqL.of hc), _, _, rfl, rfl, z2, c, _, _, _, rfl, rfl, hc, ix_at b0 b1, ?_⟩
    refine ⟨_, rfl, _, rfl, _, _, rfl, rfl, m0, ?_⟩
    refine q _ _ (Int.emod_nonneg _ (by omega)) (Int.emod_lt_of_pos _ m0) ⟨ne, ns.set (slot % (((ns.map V.int).length : Nat) : Int)).toNat (cell / m), slot, seed, ?_, ?_, ?_, h0, h1, h2⟩ (fun p n1 n2 => ?_)
    · rw [upd_ne ne]
      exact hb
    · rw [upd_same, set_ints]
    · rw [List.length_set]
      exact hn
    · rw [upd_ne n2]
  · refine next_u ?_
    refine seq_sub ⟨_, rfl, _, _, rfl, rfl, _, rfl, b, _, _, _, rfl, rfl, hb, rfl, ?_⟩
    refine seq_asg ⟨_, rfl, b, _, _, _, rfl, rfl, SqL.of upd_same, atI_nat (j := 2) rfl, ?_⟩
    refine seq_asg ⟨_, rfl, _, rfl, _, _, rfl, rfl, .inl ⟨by omega, by omega⟩, _, _, rfl, rfl, (show (0 : Int) < 2147483629 by decide), _, _, rfl, rfl, .inr ⟨by decide, by decide⟩, _, rfl, _, _, rfl, rfl, .inr ⟨by decide, by decide⟩, _, _, rfl, rfl, ?_⟩
    refine seq_sub ⟨_, rfl, _, rfl, _, _, rfl, rfl, .inr ⟨by decide, by decide⟩, _, _, rfl, rfl, _, rfl, _, _, rfl, rfl, .inr ⟨by decide, by decide⟩, _, _, rfl, rfl, _, _, rfl, rfl, _, _, rfl, rfl, (show (0 : Int) < 2147483647 by decide), _, rfl, b, _, _, _, rfl, rfl, upd_same, rfl, ?_⟩
    generalize hn2 : seed * seed % 2147483629 * 3 + seed * 48271 + cell * 9973 + slot * 31 + 13 = big
    have g0 := Int.emod_nonneg big (show (2147483647 : Int) ≠ 0 by decide)
    have g1 := Int.emod_lt_of_pos big (show (0 : Int) < 2147483647 by decide)
    refine ⟨_, rfl, b, _, _, _, rfl, rfl, SqL.of upd_same, atI_nat (j := 2) rfl, _, _, rfl, rfl, .inr ⟨by decide, by decide⟩, _, _, rfl, rfl, (show (0 : Int) < 2147483629 by decide), _, _, rfl, rfl, ⟨by decide, by decide⟩, _, rfl, _, _, rfl, rfl, m0, ?_⟩
    refine q _ _ (Int.emod_nonneg _ (by omega)) (Int.emod_lt_of_pos _ m0) ⟨ne, ns, slot + 1, big % 2147483647, ?_, ?_, hn, by omega, g0, g1⟩ (fun p n1 n2 => ?_)
    · rw [upd_same]
      all_goals rfl
    · rw [upd_ne ne.symm, upd_ne ne.symm]
      exact hc
    · rw [upd_ne n1, upd_ne n1]

/-! ### whole numbers, things alike -/
def spWhole : Sp := fun vs H Q _ => ∃ i : Int, vs = [.int i] ∧ Q (.bl true) H
theorem ok_law_whole (ev : Env P K mg) : FnOk P w K mg base CX0 1 ev.f_law_whole ev.d_law_whole p_law_whole spWhole := by
  refine ev.A_law_whole.F.ok sc_law_whole (fun vs H Q E h => ?_) (fun cdv A outer s H vs Q E hr h => ?_)
  · obtain ⟨i, rfl, _⟩ := h
    rfl
  obtain ⟨i, rfl, q⟩ := h
  refine ⟨_, (pss_one (ps_ret (pe_and (pe_callB call_isi (by rfl) ev.B.isinstance_ (by decide +kernel) (pa_cons (pv 0) (pa_cons (pe_bltn (v := .ty "int") (by rfl) ev.B.int_ (by decide +kernel) rfl) pa_nil))) (pe_one (pe_not (pe_callB call_isi (by rfl) ev.B.isinstance_ (by decide +kernel) (pa_cons (pv 0) (pa_cons (pe_bltn (v := .ty "bool") (by rfl) ev.B.bool_ (by decide +kernel) rfl) pa_nil)))))))), ?_⟩
  refine ⟨_, rfl, _, _, _, _, true, rfl, .ty _, .base (.int i), kit_ty (by decide +kernel), true, rfl, ?_⟩
  refine iteT ?_
  exact ⟨_, rfl, _, _, _, _, false, rfl, .ty _, .base (.int i), kit_ty (by decide +kernel), false, rfl, q⟩

/-- a comprehension's walk over I from the heap H0 on: each item does Step, the end is Qd -/
def Wlk (I : It) (H0 : Hp) (Step : V → Hp → (Hp → Prop) → Prop) (Qd : Hp → Prop) : Prop := ∃ W : Nat → Nat → Hp → Prop, (∃ m, W 0 m H0) ∧
  ∀ i m H, W i m H → (I.stop i H ∧ Qd H) ∨ (I.go i H ∧ ∃ N : Hp → Prop, (∀ G, N G → ∃ m', m' < m ∧ W (i + 1) m' G) ∧ ∀ y G, I.yld i H y G → Step y G N)
theorem wlk {I : It} {H0 : Hp} {Step : V → Hp → (Hp → Prop) → Prop} {Qd : Hp → Prop} (n : Nat) (Pv : Nat → Hp → Prop) (h0 : Pv 0 H0) (done : ∀ H, Pv n H → I.stop n H ∧ Qd H) (step : ∀ i H, i < n → Pv i H → I.go i H ∧ ∀ y G, I.yld i H y G → Step y G (Pv (i + 1))) :
    Wlk I H0 Step Qd := by
  refine ⟨fun i m H => i + m = n ∧ Pv i H, ⟨n, Nat.zero_add n, h0⟩, fun i m H w => ?_⟩
  cases m with
  | zero =>
    have e : i = n := w.1
    exact .inl (e ▸ done H (e ▸ w.2))
  | succ m =>
    have s := step i H (by have := w.1; omega) w.2
    exact .inr ⟨s.1, Pv (i + 1), fun G g => ⟨m, Nat.lt_succ_self m, by have := w.1; omega, g⟩, s.2⟩
/-- what one item does in [e for x in .. if t] and in {k: v for x in .. if t}, N behind it -/
abbrev LcStep (g : TG) (tt : TT) (te : TE) (vs : List Nat) (σ : L2.St) (D : Addr) (y : V) (G : Hp) (N : Hp → Prop) : Prop :=
  g y (wipe σ vs) G fun σ' G2 => wipe σ' vs = wipe σ vs ∧ tt σ' G2 fun b G3 => if b = true then te σ' G3 (fun z G4 => ∃ l, G4 D = some (.lst l) ∧ l.length < sizeLine ∧ N (upd G4 D (.lst (l ++ [z])))) else N G3
abbrev DcStep (g : TG) (tt : TT) (tk tv : TE) (vs : List Nat) (σ : L2.St) (D : Addr) (y : V) (G : Hp) (N : Hp → Prop) : Prop :=
  g y (wipe σ vs) G fun σ' G2 => wipe σ' vs = wipe σ vs ∧ tt σ' G2 fun b G3 => if b = true then tk σ' G3 (fun a G4 => tv σ' G4 fun z G5 => ∃ l k, a = kV k ∧ G5 D = some (.dK l) ∧ l.length < sizeLine ∧ N (upd G5 D (.dK (putK l k z)))) else N G3
theorem lc_keys {d : Addr} {o : Obj} {kvs : List (Key × V)} {g : TG} {tt : TT} {te : TE} {vs : List Nat} {σ : L2.St} {H0 : Hp} {D : Addr} {Qd : Hp → Prop} (Pv : Nat → Hp → Prop) (h0 : Pv 0 (upd H0 D (.lst []))) (hl : ∀ i H, i ≤ kvs.length → Pv i H → H d = some (.frz o (.dK kvs)))
    (hs : ∀ i k v H, kvs[i]? = some (k, v) → Pv i H → LcStep g tt te vs σ D (kV k) H (Pv (i + 1))) (hd : ∀ H, Pv kvs.length H → Qd H) : Wlk (Itk d o kvs) (upd H0 D (.lst [])) (LcStep g tt te vs σ D) Qd :=
  wlk kvs.length Pv h0 (fun H p => ⟨⟨hl _ H (Nat.le_refl _) p, Nat.le_refl _⟩, hd H p⟩) fun i H c p => ⟨⟨hl i H (Nat.le_of_lt c) p, c⟩, fun y G z => by
    obtain ⟨rfl, k, v, e, rfl⟩ := z
    exact hs i k v _ e p⟩
/-- sorted(d): keys that are texts, or numbers -/
theorem call_srtK {X : Cx} (hc : X.calm = true) : CallR X (.builtin "sorted") (fun xs H Q => (∃ (a : Addr) (kvs : List (Key × V)) (ks : List Str), xs = [.ref a] ∧ Rd H a (.dK kvs) ∧ kvs.map (·.1) = ks.map Sum.inr ∧ ks.length < 64 ∧
      ∀ ys p, ys.Perm ks → PyProof.Rows.sortedS ys = true → H p = none → Q (.ref p) (upd H p (.lst (ys.map V.str)))) ∨
    ∃ (a : Addr) (kvs : List (Key × V)) (ks : List Int), xs = [.ref a] ∧ Rd H a (.dK kvs) ∧ kvs.map (·.1) = ks.map Sum.inl ∧ ks.length < 64 ∧
      ∀ (ys : List Int) (p : Addr), ys.Perm ks → ys.Pairwise (· ≤ ·) → H p = none → Q (.ref p) (upd H p (.lst (ys.map V.int)))) := by
  intro pins s σ H xs us Q I r h
  rcases h with h | h
  · exact call_sortedD hc pins s σ H xs us Q I r h
  · exact call_sortedDI hc pins s σ H xs us Q I r h
/-- the heaps from H on: what was to be read there is to be read there -/
def Up (H H' : Hp) : Prop := ∀ a u, Rd H a u → Rd H' a u
theorem up_same {H H' : Hp} (s : Same H H') : Up H H' := fun a u h => by
  rcases h with h | ⟨o, h⟩
  · exact .inl (s _ _ h)
  · exact .inr ⟨o, s _ _ h⟩
theorem Up.trans {H H' H'' : Hp} (h : Up H H') (h' : Up H' H'') : Up H H'' := fun a u r => h' a u (h a u r)
theorem up_lock {H : Hp} {d : Addr} {u : HO} {od : Obj} (h : H d = some u) (nf : ∀ o v, u ≠ .frz o v) : Up H (upd H d (.frz od u)) := fun a v r => by
  by_cases e : a = d
  · subst e
    rcases r with r | ⟨o, r⟩
    · rw [h] at r
      cases r
      exact .inr ⟨od, upd_same⟩
    · rw [h] at r
      exact absurd (Option.some.inj r) (nf _ _)
  · rcases r with r | ⟨o, r⟩
    · exact .inl (by rw [upd_ne e]; exact r)
    · exact .inr ⟨o, by rw [upd_ne e]; exact r⟩
theorem tyT {K : PySem.W.Frag} {H : Hp} {a : Addr} {xs : List V} (h : SqT K H a xs) : TyX K H (.ref a) (.type "tuple") := by
  rcases h with (h | ⟨o, h⟩) | ⟨o, _, _, h, hc, _⟩
  · exact .base (.tup h)
  · exact .fTuple h
  · exact .kTuple h hc
theorem tyL {K : PySem.W.Frag} {H : Hp} {a : Addr} {xs : List V} (h : SqL K H a xs) : TyX K H (.ref a) (.type "list") := by
  rcases h with (h | ⟨o, h⟩) | ⟨o, _, _, h, hc, _⟩
  · exact .base (.lst h)
  · exact .base (.frz h)
  · exact .kList h hc
theorem sqT_up {K : PySem.W.Frag} {H H' : Hp} {a : Addr} {xs : List V} (u : Up H H') (h : SqT K H a xs) : SqT K H' a xs := by
  rcases h with h | h
  · exact .inl (u _ _ h)
  · exact .inr h
theorem sqL_up {K : PySem.W.Frag} {H H' : Hp} {a : Addr} {xs : List V} (u : Up H H') (h : SqL K H a xs) : SqL K H' a xs := by
  rcases h with h | h
  · exact .inl (u _ _ h)
  · exact .inr h
theorem tyD {K : PySem.W.Frag} {H : Hp} {a : Addr} {xs : List (Key × V)} (h : Rd H a (.dK xs)) : TyX K H (.ref a) (.type "dict") := by
  rcases h with h | ⟨o, h⟩
  · exact .base (.dK h)
  · exact .fDict h
def flat1 : V → Bool
  | .non => true
  | .bl _ => true
  | .int _ => true
  | .str _ => true
  | _ => false
/-- alike, without dicts -/
def SmT (K : PySem.W.Frag) (H : Hp) : Nat → V → V → Prop
  | 0, x, y => flat1 x = true ∧ x = y
  | n + 1, x, y => (flat1 x = true ∧ x = y) ∨
    (∃ a b xs ys, x = .ref a ∧ y = .ref b ∧ SqT K H a xs ∧ SqT K H b ys ∧ xs.length = ys.length ∧ xs.length ≤ 1000 ∧ ∀ (i : Nat) u v, xs[i]? = some u → ys[i]? = some v → SmT K H n u v) ∨
    (∃ a b xs ys, x = .ref a ∧ y = .ref b ∧ SqL K H a xs ∧ SqL K H b ys ∧ xs.length = ys.length ∧ xs.length ≤ 1000 ∧ ∀ (i : Nat) u v, xs[i]? = some u → ys[i]? = some v → SmT K H n u v)
/-- keys that sorted takes -/
def KOk (ks : List Key) : Prop := (∃ l : List Int, ks = l.map Sum.inl) ∨ ∃ l : List Str, ks = l.map Sum.inr ∧ ∀ z ∈ l, PyData.strOk z = true
def Sm (K : PySem.W.Frag) (H : Hp) : Nat → V → V → Prop
  | 0, x, y => flat1 x = true ∧ x = y
  | n + 1, x, y => (flat1 x = true ∧ x = y) ∨
    (∃ a b xs ys, x = .ref a ∧ y = .ref b ∧ SqT K H a xs ∧ SqT K H b ys ∧ xs.length = ys.length ∧ xs.length ≤ 1000 ∧ ∀ (i : Nat) u v, xs[i]? = some u → ys[i]? = some v → Sm K H n u v) ∨
    (∃ a b xs ys, x = .ref a ∧ y = .ref b ∧ SqL K H a xs ∧ SqL K H b ys ∧ xs.length = ys.length ∧ xs.length ≤ 1000 ∧ ∀ (i : Nat) u v, xs[i]? = some u → ys[i]? = some v → Sm K H n u v) ∨
    (∃ a b ks ls, x = .ref a ∧ y = .ref b ∧ H a = some (.dK ks) ∧ H b = some (.dK ls) ∧ (ks.map (·.1)).Perm (ls.map (·.1)) ∧ (ls.map (·.1)).Nodup ∧ ls.length < 64 ∧ KOk (ls.map (·.1)) ∧ KOk (ks.map (·.1)) ∧ ∀ k u v, valV ks k = some u → valV ls k = some v → SmT K H n u v)
theorem SmT.up {K : PySem.W.Frag} {H H' : Hp} (s : Up H H') : ∀ {n : Nat} {x y : V}, SmT K H n x y → SmT K H' n x y
  | 0, _, _, h => h
  | n + 1, x, y, h => by
    rcases h with h | ⟨a, b, xs, ys, h1, h2, h3, h4, h5, h6, h7⟩ | ⟨a, b, xs, ys, h1, h2, h3, h4, h5, h6, h7⟩
    · exact .inl h
    · exact .inr (.inl ⟨a, b, xs, ys, h1, h2, sqT_up s h3, sqT_up s h4, h5, h6, fun i u v e e' => (h7 i u v e e').up s⟩)
    · exact .inr (.inr ⟨a, b, xs, ys, h1, h2, sqL_up s h3, sqL_up s h4, h5, h6, fun i u v e e' => (h7 i u v e e').up s⟩)
theorem SmT.sm {K : PySem.W.Frag} {H : Hp} : ∀ {n : Nat} {x y : V}, SmT K H n x y → Sm K H n x y
  | 0, _, _, h => h
  | n + 1, x, y, h => by
    rcases h with h | ⟨a, b, xs, ys, h1, h2, h3, h4, h5, h6, h7⟩ | ⟨a, b, xs, ys, h1, h2, h3, h4, h5, h6, h7⟩
    · exact .inl h
    · exact .inr (.inl ⟨a, b, xs, ys, h1, h2, h3, h4, h5, h6, fun i u v e e' => (h7 i u v e e').sm⟩)
    · exact .inr (.inr (.inl ⟨a, b, xs, ys, h1, h2, h3, h4, h5, h6, fun i u v e e' => (h7 i u v e e').sm⟩))
theorem Sm.same {K : PySem.W.Frag} {H H' : Hp} (s : Same H H') : ∀ {n : Nat} {x y : V}, Sm K H n x y → Sm K H' n x y
  | 0, _, _, h => h
  | n + 1, x, y, h => by
    rcases h with h | ⟨a, b, xs, ys, h1, h2, h3, h4, h5, h6, h7⟩ | ⟨a, b, xs, ys, h1, h2, h3, h4, h5, h6, h7⟩ | ⟨a, b, ks, ls, h1, h2, h3, h4, h5, h6, h7, h8, h8', h9⟩
    · exact .inl h
    · exact .inr (.inl ⟨a, b, xs, ys, h1, h2, sqT_up (up_same s) h3, sqT_up (up_same s) h4, h5, h6, fun i u v e e' => (h7 i u v e e').same s⟩)
    · exact .inr (.inr (.inl ⟨a, b, xs, ys, h1, h2, sqL_up (up_same s) h3, sqL_up (up_same s) h4, h5, h6, fun i u v e e' => (h7 i u v e e').same s⟩))
    · exact .inr (.inr (.inr ⟨a, b, ks, ls, h1, h2, s _ _ h3, s _ _ h4, h5, h6, h7, h8, h8', fun k u v e e' => (h9 k u v e e').up (up_same s)⟩))
theorem SmT.flat {K : PySem.W.Frag} {H : Hp} {x : V} (h : flat1 x = true) : ∀ n, SmT K H n x x
  | 0 => ⟨h, rfl⟩
  | _ + 1 => .inl ⟨h, rfl⟩
theorem Sm.flat {K : PySem.W.Frag} {H : Hp} {x : V} (h : flat1 x = true) (n : Nat) : Sm K H n x x := (SmT.flat h n).sm
theorem SmT.tup {K : PySem.W.Frag} {H : Hp} {a b : Addr} {xs ys : List V} {n : Nat} (ha : SqT K H a xs) (hb : SqT K H b ys) (hl : xs.length = ys.length) (h1 : xs.length ≤ 1000) (hf : ∀ (i : Nat) u v, xs[i]? = some u → ys[i]? = some v → SmT K H n u v) : SmT K H (n + 1) (.ref a) (.ref b) :=
  .inr (.inl ⟨a, b, xs, ys, rfl, rfl, ha, hb, hl, h1, hf⟩)
theorem SmT.tup2 {K : PySem.W.Frag} {H : Hp} {a b : Addr} {x y x' y' : V} {n : Nat} (ha : SqT K H a [x, y]) (hb : SqT K H b [x', y']) (hx : SmT K H n x x') (hy : SmT K H n y y') : SmT K H (n + 1) (.ref a) (.ref b) :=
  SmT.tup ha hb rfl (by show 2 ≤ 1000; decide) fun i u v e e' => by
    match i, e, e' with
    | 0, e, e' => cases e; cases e'; exact hx
    | 1, e, e' => cases e; cases e'; exact hy
    | _ + 2, e, _ => cases e
theorem kA {K : PySem.W.Frag} {t : String} (h1 : kitB t "bool" = some false) (h2 : kitB t "str" = some false) : PySem.W.kitAny K (.type t) [.type "bool", .type "str"] = some false :=
  kitAny_cons (kit_ty h1) (fun _ => kitAny_cons (kit_ty h2) (fun _ => rfl) (fun z => nomatch z)) (fun z => nomatch z)
theorem kBool {K : PySem.W.Frag} : PySem.W.kitAny K (.type "bool") [.type "bool", .type "str"] = some true :=
  kitAny_cons (b := true) (kit_ty (by decide +kernel)) (fun z => nomatch z) (fun _ => rfl)
theorem kStr {K : PySem.W.Frag} : PySem.W.kitAny K (.type "str") [.type "bool", .type "str"] = some true :=
  kitAny_cons (b := false) (kit_ty (by decide +kernel)) (fun _ => kitAny_cons (b := true) (kit_ty (by decide +kernel)) (fun z => nomatch z) (fun _ => rfl)) (fun z => nomatch z)
theorem prBS : Paired ClsV [V.ty "bool", V.ty "str"] [.type "bool", .type "str"] := .cons (.ty _) (.cons (.ty _) .nil)
theorem dpS {K : PySem.W.Frag} {H : Hp} : ∀ l : List Str, DpAll K H (l.map V.str) (l.map PyData.str)
  | [] => .nil
  | z :: r => .cons (.str z) (dpS r)
theorem dpI {K : PySem.W.Frag} {H : Hp} : ∀ l : List Int, DpAll K H (l.map V.int) (l.map PyData.int)
  | [] => .nil
  | z :: r => .cons (.int z) (dpI r)
theorem shS {l : List Str} (h : ∀ z ∈ l, PyData.strOk z = true) : SeqAt.shaped (.list (l.map PyData.str)) = true := by
  unfold SeqAt.shaped
  rw [Bool.and_eq_true]
  refine ⟨?_, decide_eq_true ?_⟩
  · show PyData.canLayAll0 (l.map PyData.str) = true
    refine lay_all fun d hd => ?_
    obtain ⟨z, hz, rfl⟩ := List.mem_map.mp hd
    exact h z hz
  · have := depth_all (ds := l.map PyData.str) (n := 2) fun d hd => by
      obtain ⟨z, hz, rfl⟩ := List.mem_map.mp hd
      show PyData.depth (.str z) ≤ 2
      unfold PyData.depth
      omega
    unfold PyData.depth
    omega
theorem shI (l : List Int) : SeqAt.shaped (.list (l.map PyData.int)) = true := by
  unfold SeqAt.shaped
  rw [Bool.and_eq_true]
  refine ⟨?_, decide_eq_true ?_⟩
  · show PyData.canLayAll0 (l.map PyData.int) = true
    refine lay_all fun d hd => ?_
    obtain ⟨z, hz, rfl⟩ := List.mem_map.mp hd
    rfl
  · have := depth_all (ds := l.map PyData.int) (n := 2) fun d hd => by
      obtain ⟨z, hz, rfl⟩ := List.mem_map.mp hd
      show PyData.depth (.int z) ≤ 2
      unfold PyData.depth
      omega
    unfold PyData.depth
    omega
theorem perm_inl {a b : List Int} (h : (a.map (Sum.inl : Int → Key)).Perm (b.map Sum.inl)) : a.Perm b := by
  have e : ∀ l : List Int, (l.map (Sum.inl : Int → Key)).filterMap Sum.getLeft? = l := fun l => by
    induction l with
    | nil => rfl
    | cons x r ih =>
      rw [List.map_cons, List.filterMap_cons]
      simp [ih]
  have q := h.filterMap Sum.getLeft?
  rw [e, e] at q
  exact q
theorem perm_inr {a b : List Str} (h : (a.map (Sum.inr : Str → Key)).Perm (b.map Sum.inr)) : a.Perm b := by
  have e : ∀ l : List Str, (l.map (Sum.inr : Str → Key)).filterMap Sum.getRight? = l := fun l => by
    induction l with
    | nil => rfl
    | cons x r ih =>
      rw [List.map_cons, List.filterMap_cons]
      simp [ih]
  have q := h.filterMap Sum.getRight?
  rw [e, e] at q
  exact q
def spSame (K : PySem.W.Frag) : Nat → Sp
  | 0 => fun _ _ _ _ => False
  | n + 1 => fun vs H Q _ => ∃ x y : V, vs = [x, y] ∧ Sm K H n x y ∧ ∀ H', Same H H' → Q (.bl true) H'
theorem ok_same1 {n : Nat} (ev : Env P K mg) (GS : FnOk P w K mg base CX0 (n + 1) ev.f_law_same ev.d_law_same p_law_same (spSame K n)) : FnOk P w K mg base CX0 (n + 2) ev.f_law_same ev.d_law_same p_law_same (spSame K (n + 1)) := by
  refine ev.A_law_same.F.ok sc_law_same (fun vs H Q E h => ?_) (fun cdv A outer s H vs Q E hr h => ?_)
  · obtain ⟨x, y, rfl, _⟩ := h
    rfl
  obtain ⟨x, y, rfl, hS, q⟩ := h
  have hr1 : Room 1 _ := hr.mono (by omega)
  have hu := hu_of hr
  refine ⟨_, (pss_cons (ps_if (PW.pt (pw_or (pt_cmpR op_isN (pv 1) pe_non (nomark _)) (pw_or1 (pt_val (pe_callB call_isiT (by rfl) ev.B.isinstance_ (by decide +kernel) (pa_cons (pv 1) (pa_cons (pe_tup (pa_cons (pe_bltn (v := .ty "bool") (by rfl) ev.B.bool_ (by decide +kernel) rfl) (pa_cons (pe_bltn (v := .ty "str") (by rfl) ev.B.str_ (by decide +kernel) rfl) pa_nil))) pa_nil)))))))
    (pss_cons (ps_if (pt_cmpR op_isN (pv 1) pe_non (nomark _))
    (pss_one (ps_ret (pe_cmpR op_isN (pv 0) pe_non (nomark _)))) pss_nil)
    (pss_one (ps_ret (pe_and (pe_callB call_isiT (by rfl) ev.B.isinstance_ (by decide +kernel) (pa_cons (pv 0) (pa_cons (pe_tup (pa_cons (pe_bltn (v := .ty "bool") (by rfl) ev.B.bool_ (by decide +kernel) rfl) (pa_cons (pe_bltn (v := .ty "str") (by rfl) ev.B.str_ (by decide +kernel) rfl) pa_nil))) pa_nil))) (pe_one (pe_cmpR op_eq (pv 0) (pv 1) (nomark _))))))) pss_nil)
    (pss_cons (ps_if (pt_val (pe_callB call_isi (by rfl) ev.B.isinstance_ (by decide +kernel) (pa_cons (pv 1) (pa_cons (pe_bltn (v := .ty "int") (by rfl) ev.B.int_ (by decide +kernel) rfl) pa_nil))))
    (pss_one (ps_ret (pe_and (pe_call (ok_law_whole ev) hr1 (by rfl) ev.A_law_whole.m ev.A_law_whole.F.kp ev.A_law_whole.b .nil pass0 (pa_cons (pv 0) pa_nil)) (pe_one (pe_cmpR op_eq (pv 0) (pv 1) (nomark _)))))) pss_nil)
    (pss_cons (ps_if (pt_val (pe_callB call_isi (by rfl) ev.B.isinstance_ (by decide +kernel) (pa_cons (pv 1) (pa_cons (pe_bltn (v := .ty "dict") (by rfl) ev.B.dict_ (by decide +kernel) rfl) pa_nil))))
    (pss_cons (ps_if (PW.pt (pw_or (pt_not (pt_val (pe_callB call_isi (by rfl) ev.B.isinstance_ (by decide +kernel) (pa_cons (pv 0) (pa_cons (pe_bltn (v := .ty "dict") (by rfl) ev.B.dict_ (by decide +kernel) rfl) pa_nil))))) (pw_or1 (pt_cmpR (op_neD hr.units) (pe_callB (call_srtK rfl) (by rfl) ev.B.sorted_ (by decide +kernel) (pa_cons (pv 0) pa_nil)) (pe_callB (call_srtK rfl) (by rfl) ev.B.sorted_ (by decide +kernel) (pa_cons (pv 1) pa_nil)) (nomark _)))))
    (pss_one (ps_ret pe_bl)) pss_nil)
    (pss_one (ps_ret (pe_callB (cr_all rfl) (by rfl) ev.B.all_ (by decide +kernel) (pa_cons (pe_lock (pe_lc (own := [("_law_name_here", 2)]) (g := gName 2) (tt := tYes) (by rfl) sc_law_same.nd (pi_keys (pv 1)) (blkOk_by (own := [("_law_name_here", 2)]) (N := n_law_same) (sc := defScope s_law_same) (by decide +kernel)) (fun _ _ _ _ _ => pg_name (i := 2) sc_law_same.nd rfl (Or.inl rfl)) (fun _ _ _ _ _ => pts_nil) (fun _ _ _ _ _ => (pe_call GS hr (by rfl) ev.A_law_same.m ev.A_law_same.F.kp ev.A_law_same.b .nil pass0 (pa_cons (pe_dget hu (pv 0) (pv 2) (fun _ _ => rfl)) (pa_cons (pe_dget hu (pv 1) (pv 2) (fun _ _ => rfl)) pa_nil)))))) pa_nil))))) pss_nil)
    (pss_cons (ps_if (pt_cmpR op_ne (pe_callB call_isi (by rfl) ev.B.isinstance_ (by decide +kernel) (pa_cons (pv 1) (pa_cons (pe_bltn (v := .ty "tuple") (by rfl) ev.B.tuple_ (by decide +kernel) rfl) pa_nil))) (pe_callB call_isi (by rfl) ev.B.isinstance_ (by decide +kernel) (pa_cons (pv 0) (pa_cons (pe_bltn (v := .ty "tuple") (by rfl) ev.B.tuple_ (by decide +kernel) rfl) pa_nil))) (nomark _))
    (pss_one (ps_ret pe_bl)) pss_nil)
    (pss_cons (ps_if (PW.pt (pw_or (pt_cmpR op_ne (pe_callB call_isi (by rfl) ev.B.isinstance_ (by decide +kernel) (pa_cons (pv 1) (pa_cons (pe_bltn (v := .ty "list") (by rfl) ev.B.list_ (by decide +kernel) rfl) pa_nil))) (pe_callB call_isi (by rfl) ev.B.isinstance_ (by decide +kernel) (pa_cons (pv 0) (pa_cons (pe_bltn (v := .ty "list") (by rfl) ev.B.list_ (by decide +kernel) rfl) pa_nil))) (nomark _)) (pw_or1 (pt_cmpR op_ne (pe_callB call_len_seq (by rfl) ev.B.len_ PySem.boot_len (pa_cons (pv 0) pa_nil)) (pe_callB call_len_seq (by rfl) ev.B.len_ PySem.boot_len (pa_cons (pv 1) pa_nil)) (nomark _)))))
    (pss_one (ps_ret pe_bl)) pss_nil)
    (pss_one (ps_ret (pe_callB (cr_all rfl) (by rfl) ev.B.all_ (by decide +kernel) (pa_cons (pe_lc (own := [("_law_k", 3)]) (g := gName 3) (tt := tYes) (by rfl) sc_law_same.nd (pi_range1 rfl ev.B.range_ (pa_cons (pe_callB call_len_seq (by rfl) ev.B.len_ PySem.boot_len (pa_cons (pv 1) pa_nil)) pa_nil)) (blkOk_by (own := [("_law_k", 3)]) (N := n_law_same) (sc := defScope s_law_same) (by decide +kernel)) (fun _ _ _ _ _ => pg_name (i := 3) sc_law_same.nd rfl (Or.inl rfl)) (fun _ _ _ _ _ => pts_nil) (fun _ _ _ _ _ => (pe_call GS hr (by rfl) ev.A_law_same.m ev.A_law_same.F.kp ev.A_law_same.b .nil pass0 (pa_cons (pe_ix (show IxR _ (rIx K) from ix_seq) (pv 0) (pv 3) (fun _ _ => rfl)) (pa_cons (pe_ix (show IxR _ (rIx K) from ix_seq) (pv 1) (pv 3) (fun _ _ => rfl)) pa_nil))))) pa_nil))))))))), ?_⟩
  by_cases hf : flat1 x = true ∧ x = y
  · obtain ⟨hf, rfl⟩ := hf
    cases x with
    | non =>
      refine ⟨_, rfl, rfl, _, rfl, iteT (iteT ?_)⟩
      refine ⟨_, rfl, rfl, _, rfl, iteT ?_⟩
      exact ⟨_, rfl, rfl, q H fun _ _ e => e⟩
    | bl b =>
      refine ⟨_, rfl, rfl, _, rfl, iteF ⟨_, rfl, two, fun tp htp => ⟨_, tp, _, _, _, true, rfl, upd_same, prBS, .base (.bl b), kBool, true, rfl, iteT ?_⟩⟩⟩
      refine ⟨_, rfl, rfl, _, rfl, iteF ?_⟩
      refine ⟨_, rfl, two, fun tq htq => ⟨_, tq, _, _, _, true, rfl, upd_same, prBS, .base (.bl b), kBool, true, rfl, iteT ?_⟩⟩
      refine ⟨_, rfl, _, rfl, rfl, ?_⟩
      rw [decide_eq_true rfl]
      exact q _ ((same_upd htp).trans (same_upd htq))
    | int i =>
      refine ⟨_, rfl, rfl, _, rfl, iteF ⟨_, rfl, two, fun tp htp => ⟨_, tp, _, _, _, false, rfl, upd_same, prBS, .base (.int i), kA (by decide +kernel) (by decide +kernel), false, rfl, iteF ?_⟩⟩⟩
      refine ⟨_, rfl, _, _, _, _, true, rfl, .ty _, .base (.int i), kit_ty (by decide +kernel), true, rfl, iteT ?_⟩
      refine ⟨_, rfl, i, rfl, true, rfl, iteT ?_⟩
      refine ⟨_, rfl, _, rfl, rfl, ?_⟩
      rw [decide_eq_true rfl]
      exact q _ (same_upd htp)
    | str z =>
      refine ⟨_, rfl, rfl, _, rfl, iteF ⟨_, rfl, two, fun tp htp => ⟨_, tp, _, _, _, true, rfl, upd_same, prBS, .base (.str z), kStr, true, rfl, iteT ?_⟩⟩⟩
      refine ⟨_, rfl, rfl, _, rfl, iteF ?_⟩
      refine ⟨_, rfl, two, fun tq htq => ⟨_, tq, _, _, _, true, rfl, upd_same, prBS, .base (.str z), kStr, true, rfl, iteT ?_⟩⟩
      refine ⟨_, rfl, _, rfl, rfl, ?_⟩
      rw [decide_eq_true rfl]
      exact q _ ((same_upd htp).trans (same_upd htq))
    | _ => cases hf
  · cases n with
    | zero => exact absurd hS hf
    | succ m =>
      rcases hS with hS | ⟨a, b, xs, ys, rfl, rfl, ha, hb, hl, h1000, he⟩ | ⟨a, b, xs, ys, rfl, rfl, ha, hb, hl, h1000, he⟩ | ⟨a, b, ks, ls, rfl, rfl, ha, hb, hpm, hnd, h64, ok1, ok2, he⟩
      · exact absurd hS hf
      · refine ⟨_, rfl, rfl, _, rfl, iteF ⟨_, rfl, two, fun tp htp => ⟨_, tp, _, _, _, false, rfl, upd_same, prBS, tyT (xs := ys) ?_, kA (by decide +kernel) (by decide +kernel), false, rfl, iteF ?_⟩⟩⟩
        · exact sqT_up (up_same (same_upd htp)) hb
        have s1 : Same H (upd H tp (.tup [V.ty "bool", V.ty "str"])) := same_upd htp
        generalize upd H tp (.tup [V.ty "bool", V.ty "str"]) = H1 at s1
        have ha' := sqT_up (up_same s1) ha
        have hb' := sqT_up (up_same s1) hb
        refine ⟨_, rfl, _, _, _, _, false, rfl, .ty _, tyT hb', kit_ty (by decide +kernel), false, rfl, iteF ?_⟩
        refine ⟨_, rfl, _, _, _, _, false, rfl, .ty _, tyT hb', kit_ty (by decide +kernel), false, rfl, iteF ?_⟩
        refine ⟨_, rfl, _, _, _, _, true, rfl, .ty _, tyT hb', kit_ty (by decide +kernel), _, rfl, _, _, _, _, true, rfl, .ty _, tyT ha', kit_ty (by decide +kernel), rfl, _, rfl, iteF ?_⟩
        refine ⟨_, rfl, _, _, _, _, false, rfl, .ty _, tyT hb', kit_ty (by decide +kernel), _, rfl, _, _, _, _, false, rfl, .ty _, tyT ha', kit_ty (by decide +kernel), rfl, _, rfl, iteF ?_⟩
        refine ⟨_, rfl, a, _, rfl, .inr ha', _, rfl, b, _, rfl, .inr hb', rfl, _, rfl, ?_⟩
        refine iteNS (by rw [hl]) ?_
        refine ⟨_, rfl, b, _, rfl, .inr hb', _, rfl, by omega, by omega, fun D hD => ?_⟩
        refine lc_range (lo := 0) (n := ys.length) (fun i H2 => Same H1 H2 ∧ H2 D = some (.lst ((List.replicate i true).map V.bl))) ⟨same_upd hD, upd_same⟩ ?_ ?_
        · rintro i H2 hi ⟨s2, hD2⟩
          have e1 : atI xs (0 + (i : Int)) = some xs[i] := by
            rw [Int.zero_add]
            exact atI_nat (List.getElem?_eq_getElem (by omega))
          have e2 : atI ys (0 + (i : Int)) = some ys[i] := by
            rw [Int.zero_add]
            exact atI_nat (List.getElem?_eq_getElem hi)
          refine ⟨rfl, yes_ ?_⟩
          refine ⟨_, rfl, _, rfl, .inr <| .inl ⟨a, xs, _, _, rfl, rfl, sqT_up (up_same s2) ha', e1, ?_⟩⟩
          refine ⟨_, rfl, _, rfl, .inr <| .inl ⟨b, ys, _, _, rfl, rfl, sqT_up (up_same s2) hb', e2, ?_⟩⟩
          refine ⟨_, _, rfl, (he i _ _ (List.getElem?_eq_getElem (by omega)) (List.getElem?_eq_getElem hi)).same (s1.trans s2), fun H3 s3 => ?_⟩
          refine ⟨_, s3 _ _ hD2, ?_, fun p o e => ?_, ?_⟩
          · rw [List.length_map, List.length_replicate]
            exact small1000 (by omega)
          · have np : p ≠ D := ne_of_none e hD
            rw [upd_ne np]
            exact s3 _ _ (s2 _ _ e)
          · rw [upd_same, List.replicate_succ', List.map_append]
            rfl
        · rintro H2 ⟨s2, hD2⟩
          refine ⟨D, _, rfl, SqL.of hD2, ?_⟩
          rw [show (List.replicate ys.length true).all id = true by simp]
          exact q H2 (s1.trans s2)
      · refine ⟨_, rfl, rfl, _, rfl, iteF ⟨_, rfl, two, fun tp htp => ⟨_, tp, _, _, _, false, rfl, upd_same, prBS, tyL (xs := ys) ?_, kA (by decide +kernel) (by decide +kernel), false, rfl, iteF ?_⟩⟩⟩
        · exact sqL_up (up_same (same_upd htp)) hb
        have s1 : Same H (upd H tp (.tup [V.ty "bool", V.ty "str"])) := same_upd htp
        generalize upd H tp (.tup [V.ty "bool", V.ty "str"]) = H1 at s1
        have ha' := sqL_up (up_same s1) ha
        have hb' := sqL_up (up_same s1) hb
        refine ⟨_, rfl, _, _, _, _, false, rfl, .ty _, tyL hb', kit_ty (by decide +kernel), false, rfl, iteF ?_⟩
        refine ⟨_, rfl, _, _, _, _, false, rfl, .ty _, tyL hb', kit_ty (by decide +kernel), false, rfl, iteF ?_⟩
        refine ⟨_, rfl, _, _, _, _, false, rfl, .ty _, tyL hb', kit_ty (by decide +kernel), _, rfl, _, _, _, _, false, rfl, .ty _, tyL ha', kit_ty (by decide +kernel), rfl, _, rfl, iteF ?_⟩
        refine ⟨_, rfl, _, _, _, _, true, rfl, .ty _, tyL hb', kit_ty (by decide +kernel), _, rfl, _, _, _, _, true, rfl, .ty _, tyL ha', kit_ty (by decide +kernel), rfl, _, rfl, iteF ?_⟩
        refine ⟨_, rfl, a, _, rfl, .inl ha', _, rfl, b, _, rfl, .inl hb', rfl, _, rfl, ?_⟩
        refine iteNS (by rw [hl]) ?_
        refine ⟨_, rfl, b, _, rfl, .inl hb', _, rfl, by omega, by omega, fun D hD => ?_⟩
        refine lc_range (lo := 0) (n := ys.length) (fun i H2 => Same H1 H2 ∧ H2 D = some (.lst ((List.replicate i true).map V.bl))) ⟨same_upd hD, upd_same⟩ ?_ ?_
        · rintro i H2 hi ⟨s2, hD2⟩
          have e1 : atI xs (0 + (i : Int)) = some xs[i] := by
            rw [Int.zero_add]
            exact atI_nat (List.getElem?_eq_getElem (by omega))
          have e2 : atI ys (0 + (i : Int)) = some ys[i] := by
            rw [Int.zero_add]
            exact atI_nat (List.getElem?_eq_getElem hi)
          refine ⟨rfl, yes_ ?_⟩
          refine ⟨_, rfl, _, rfl, .inl ⟨a, xs, _, _, rfl, rfl, sqL_up (up_same s2) ha', e1, ?_⟩⟩
          refine ⟨_, rfl, _, rfl, .inl ⟨b, ys, _, _, rfl, rfl, sqL_up (up_same s2) hb', e2, ?_⟩⟩
          refine ⟨_, _, rfl, (he i _ _ (List.getElem?_eq_getElem (by omega)) (List.getElem?_eq_getElem hi)).same (s1.trans s2), fun H3 s3 => ?_⟩
          refine ⟨_, s3 _ _ hD2, ?_, fun p o e => ?_, ?_⟩
          · rw [List.length_map, List.length_replicate]
            exact small1000 (by omega)
          · have np : p ≠ D := ne_of_none e hD
            rw [upd_ne np]
            exact s3 _ _ (s2 _ _ e)
          · rw [upd_same, List.replicate_succ', List.map_append]
            rfl
        · rintro H2 ⟨s2, hD2⟩
          refine ⟨D, _, rfl, SqL.of hD2, ?_⟩
          rw [show (List.replicate ys.length true).all id = true by simp]
          exact q H2 (s1.trans s2)
      · have nb : ∀ o v, HO.dK ls ≠ .frz o v := fun o v z => nomatch z
        refine ⟨_, rfl, rfl, _, rfl, iteF ⟨_, rfl, two, fun tp htp => ⟨_, tp, _, _, _, false, rfl, upd_same, prBS, tyD (xs := ls) ?_, kA (by decide +kernel) (by decide +kernel), false, rfl, iteF ?_⟩⟩⟩
        · exact up_same (same_upd htp) _ _ (.inl hb)
        have s1 : Same H (upd H tp (.tup [V.ty "bool", V.ty "str"])) := same_upd htp
        generalize upd H tp (.tup [V.ty "bool", V.ty "str"]) = H1 at s1
        have ha' := s1 _ _ ha
        have hb' := s1 _ _ hb
        refine ⟨_, rfl, _, _, _, _, false, rfl, .ty _, tyD (.inl hb'), kit_ty (by decide +kernel), false, rfl, iteF ?_⟩
        refine ⟨_, rfl, _, _, _, _, true, rfl, .ty _, tyD (.inl hb'), kit_ty (by decide +kernel), true, rfl, iteT ?_⟩
        refine seq_by (fun σ H2 => σ = [some (.ref a), some (.ref b), none, none] ∧ Same H1 H2) ?_ (fun k => ?_)
        rotate_left
        · refine ⟨_, rfl, _, _, _, _, true, rfl, .ty _, tyD (.inl ha'), kit_ty (by decide +kernel), true, rfl, iteF ?_⟩
          have lk : ks.length = ls.length := by
            have := hpm.length_eq
            rw [List.length_map, List.length_map] at this
            exact this
          rcases ok1 with ⟨li, eli⟩ | ⟨lt, elt, lok⟩
          · obtain ⟨ki, eki⟩ : ∃ l : List Int, ks.map (·.1) = l.map Sum.inl := by
              rcases ok2 with ⟨l, e⟩ | ⟨l, e, _⟩
              · exact ⟨l, e⟩
              · cases l with
                | nil => exact ⟨[], e⟩
                | cons z r =>
                  rw [e, eli] at hpm
                  have := hpm.mem_iff.mp (List.mem_cons_self (a := (Sum.inr z : Key)) (l := r.map Sum.inr))
                  obtain ⟨i, _, hi⟩ := List.mem_map.mp this
                  cases hi
            have pki : ki.Perm li := by
              rw [eki, eli] at hpm
              exact perm_inl hpm
            refine ⟨_, rfl, .inr ⟨a, ks, ki, rfl, .inl ha', eki, ?_, fun ys p pm pw np => ?_⟩⟩
            · have := congrArg List.length eki
              rw [List.length_map, List.length_map] at this
              omega
            have s2 : Same H1 (upd H1 p (.lst (ys.map V.int))) := same_upd np
            refine ⟨_, rfl, .inr ⟨b, ls, li, rfl, .inl (s2 _ _ hb'), eli, ?_, fun zs p2 pm2 pw2 np2 => ?_⟩⟩
            · have := congrArg List.length eli
              rw [List.length_map, List.length_map] at this
              omega
            have e : ys = zs := srtI_same (pm.trans (pki.trans pm2.symm)) pw pw2
            subst e
            refine ⟨_, _, .lst (SqL.of (same_upd np2 _ _ upd_same)) (dpI ys), .lst (SqL.of upd_same) (dpI ys), shI ys, shI ys, _, rfl, ?_⟩
            rw [PySem.SeqAt.eqv_refl _ (SeqAt.canLay_of_shaped (shI ys))]
            exact iteF (k _ _ ⟨rfl, s2.trans (same_upd np2)⟩)
          · obtain ⟨kt, ekt, kok⟩ : ∃ l : List Str, ks.map (·.1) = l.map Sum.inr ∧ ∀ z ∈ l, PyData.strOk z = true := by
              rcases ok2 with ⟨l, e⟩ | h
              · cases l with
                | nil => exact ⟨[], e, (fun z hz => nomatch hz)⟩
                | cons z r =>
                  rw [e, elt] at hpm
                  have := hpm.mem_iff.mp (List.mem_cons_self (a := (Sum.inl z : Key)) (l := r.map Sum.inl))
                  obtain ⟨i, _, hi⟩ := List.mem_map.mp this
                  cases hi
              · exact h
            have pki : kt.Perm lt := by
              rw [ekt, elt] at hpm
              exact perm_inr hpm
            refine ⟨_, rfl, .inl ⟨a, ks, kt, rfl, .inl ha', ekt, ?_, fun ys p pm pw np => ?_⟩⟩
            · have := congrArg List.length ekt
              rw [List.length_map, List.length_map] at this
              omega
            have s2 : Same H1 (upd H1 p (.lst (ys.map V.str))) := same_upd np
            refine ⟨_, rfl, .inl ⟨b, ls, lt, rfl, .inl (s2 _ _ hb'), elt, ?_, fun zs p2 pm2 pw2 np2 => ?_⟩⟩
            · have := congrArg List.length elt
              rw [List.length_map, List.length_map] at this
              omega
            have e : ys = zs := srt_same (pm.trans (pki.trans pm2.symm)) pw pw2
            subst e
            have yok : ∀ z ∈ ys, PyData.strOk z = true := fun z hz => kok z (pm.mem_iff.mp hz)
            refine ⟨_, _, .lst (SqL.of (same_upd np2 _ _ upd_same)) (dpS ys), .lst (SqL.of upd_same) (dpS ys), shS yok, shS yok, _, rfl, ?_⟩
            rw [PySem.SeqAt.eqv_refl _ (SeqAt.canLay_of_shaped (shS yok))]
            exact iteF (k _ _ ⟨rfl, s2.trans (same_upd np2)⟩)
        rintro σ H2 ⟨rfl, s2⟩
        have hb2 := s2 _ _ hb'
        refine ⟨b, .dK ls, hb2, trivial, fun od => ?_⟩
        refine ⟨_, rfl, b, od, rfl, .inl ⟨ls, upd_same, fun D hD => ?_⟩⟩
        have nbD : D ≠ b := fun z => by
          rw [z, upd_same] at hD
          cases hD
        have ul : Up H (upd H2 b (.frz od (.dK ls))) := (up_same (s1.trans s2)).trans (up_lock hb2 nb)
        refine lc_keys (fun i H3 => Same (upd H2 b (.frz od (.dK ls))) H3 ∧ H3 D = some (.lst ((List.replicate i true).map V.bl))) ⟨same_upd hD, upd_same⟩ (fun i H3 _ h => h.1 _ _ upd_same) ?_ ?_
        · rintro i k v H3 hi ⟨s3, hD3⟩
          have u3 : Up H H3 := ul.trans (up_same s3)
          have evl : valV ls k = some v := val_nodup hnd (k, v) (List.mem_of_getElem? hi)
          obtain ⟨u, eu⟩ : ∃ u, valV ks k = some u := by
            have mk : k ∈ ks.map (·.1) := hpm.mem_iff.mpr (List.mem_map.mpr ⟨(k, v), List.mem_of_getElem? hi, rfl⟩)
            obtain ⟨p, hp, rfl⟩ := List.mem_map.mp mk
            exact ⟨_, val_nodup (hpm.nodup_iff.mpr hnd) p hp⟩
          refine ⟨rfl, yes_ ?_⟩
          refine ⟨_, rfl, _, rfl, a, u, rfl, .inl ⟨ks, k, u3 _ _ (.inl ha), rfl, eu.symm⟩, ?_⟩
          refine ⟨_, rfl, _, rfl, b, v, rfl, .inl ⟨ls, k, u3 _ _ (.inl hb), rfl, evl.symm⟩, ?_⟩
          refine ⟨_, _, rfl, ((he k u v eu evl).up u3).sm, fun H4 s4 => ?_⟩
          refine ⟨_, s4 _ _ hD3, ?_, fun p o e => ?_, ?_⟩
          · rw [List.length_map, List.length_replicate]
            have := (List.getElem?_eq_some_iff.mp hi).1
            exact small1000 (by omega)
          · have np : p ≠ D := ne_of_none e hD
            rw [upd_ne np]
            exact s4 _ _ (s3 _ _ e)
          · rw [upd_same, List.replicate_succ', List.map_append]
            rfl
        · rintro H3 ⟨s3, hD3⟩
          refine ⟨s3 _ _ upd_same, D, _, rfl, SqL.of (by rw [upd_ne nbD]; exact hD3), ?_⟩
          rw [show (List.replicate ls.length true).all id = true by simp]
          refine q _ fun p o e => ?_
          by_cases z : p = b
          · rw [z, upd_same, ← hb, ← z, e]
          · rw [upd_ne z]
            exact s3 _ _ (by rw [upd_ne z]; exact s2 _ _ (s1 _ _ e))
theorem same_none {f : Addr} {fd : FuncData} : FnOk P w K mg base CX0 1 f fd p_law_same (spSame K 0) :=
  ⟨fun _ _ _ _ h => h.elim, fun _ _ _ _ _ _ _ _ _ _ _ _ _ h => h.elim⟩
theorem ok_same (ev : Env P K mg) : ∀ n, FnOk P w K mg base CX0 (n + 1) ev.f_law_same ev.d_law_same p_law_same (spSame K n)
  | 0 => same_none
  | n + 1 => ok_same1 ev (ok_same ev n)

/-! ### one of several -/
def spAnyK (K : PySem.W.Frag) : Sp := fun vs H Q _ => ∃ (b c l : Addr) (xs : List V), vs = [.ref b, .ref l] ∧ Bag H b c ∧ nL K [b, c] H l xs ∧ xs ≠ [] ∧ xs.length ≤ 1000 ∧ ∀ (v : V) (H' : Hp), v ∈ xs → Bag H' b c → Els b c H H' → Q v H'
theorem ok_law_any (ev : Env P K mg) : FnOk P w K mg base CX0 2 ev.f_law_any ev.d_law_any p_law_any (spAnyK K) := by
  refine ev.A_law_any.F.ok sc_law_any (fun vs H Q E h => ?_) (fun cdv A outer s H vs Q E hr h => ?_)
  · obtain ⟨b, c, l, xs, rfl, _⟩ := h
    rfl
  obtain ⟨b, c, l, xs, rfl, hB, hl, hx, h1000, q⟩ := h
  refine ⟨_, (pss_one (ps_ret (pe_ix ix_list (pv 1) (pe_call (ok_law_draw ev) (hr.mono (by decide)) (by rfl) ev.A_law_draw.m ev.A_law_draw.F.kp ev.A_law_draw.b .nil pass0 (pa_cons (pv 0) (pa_cons (pe_callB call_len_seq (by rfl) ev.B.len_ PySem.boot_len (pa_cons (pv 1) pa_nil)) pa_nil))) (fun _ _ => rfl)))), ?_⟩
  have l0 := List.length_pos_iff.mpr hx
  refine ⟨_, rfl, _, rfl, _, rfl, l, _, rfl, .inl hl.sq, b, c, _, rfl, hB, by omega, by omega, fun r H' r0 r1 hB' ex => ?_⟩
  have hl' := hl.mono (show Fr [b, c] H H' from fun p o e n => by
    simp only [List.mem_cons, List.not_mem_nil, or_false, not_or] at n
    exact (ex p n.1 n.2).trans e)
  obtain ⟨v, hv, e⟩ := at_mem (xs := xs) r0 r1
  exact ⟨l, _, _, _, rfl, rfl, hl'.sq, e, q _ _ hv hB' ex⟩

/-! ### draws, mirrored -/
theorem els_fr {b c : Addr} {H H' : Hp} (ex : Els b c H H') : Fr [b, c] H H' := fun p o e n => by
  simp only [List.mem_cons, List.not_mem_nil, or_false, not_or] at n
  exact (ex p n.1 n.2).trans e
def drawW (n : Int) : Wp Int := fun P => 0 < n ∧ n < 1073741824 ∧ ∀ r, 0 ≤ r → r < n → P r
def sameW {α : Type} (p : α → Prop) (wa wb : Wp α) : Wp Bool := fun P => wa fun x => wb fun y => x = y ∧ p y ∧ P true
def noSz {α : Type} : α → Prop := fun _ => True
def szT2 {α β : Type} (p : α → Prop) (q : β → Prop) : α × β → Prop := fun x => p x.1 ∧ q x.2
def szT4 {α β γ δ : Type} (p : α → Prop) (q : β → Prop) (r : γ → Prop) (s : δ → Prop) : α × β × γ × δ → Prop := fun x => p x.1 ∧ q x.2.1 ∧ r x.2.2.1 ∧ s x.2.2.2
def szO {α : Type} (p : α → Prop) : Option α → Prop := fun o => ∀ x, o = some x → p x
def szL {α : Type} (p : α → Prop) : List α → Prop := fun xs => xs.length ≤ 1000 ∧ ∀ x ∈ xs, p x
def anyW {α : Type} (xs : List α) : Wp α := fun P => xs ≠ [] ∧ xs.length ≤ 1000 ∧ ∀ x ∈ xs, P x
section
variable {α : Type} {a : Ty K α} {b c : Addr} {S : AS} {σ : St} {H : Hp} {te : TE} {E : XK} {i : Nat}
theorem ew_draw {w : Wp Int} (hi : σ[i]? = some (some (.ref b))) (h : EvW b c S te σ H (of (K := K) tInt S) w) : EvW b c S (tCall spDraw [] E (tCons (tVar i) (tCons te tNil))) σ H (of (K := K) tInt S) (callBW drawW w) := fun ts P hP H1 f d hB Q q => by
  refine ⟨_, hi, h ts _ hP H1 f d hB _ fun v H2 n ⟨n0, n1, hn⟩ f2 d2 hB2 hv => ?_⟩
  cases hv
  exact ⟨b, c, n, rfl, hB2, n0, n1, fun r H' r0 r1 hB' ex => q _ H' r (hn r r0 r1) (f2.trans (els_fr ex)) (dom_fr d2 (els_fr ex) hB') hB' rfl⟩
theorem all2_mem {F : V → α → Prop} : ∀ {vs : List V} {xs : List α} {v : V}, All2 F vs xs → v ∈ vs → ∃ x ∈ xs, F v x
  | _, _, v, .nil, h => by simp at h
  | _, _, v, .cons h r, m => by
    rcases List.mem_cons.mp m with rfl | m
    · exact ⟨_, List.mem_cons_self .., h⟩
    · obtain ⟨x, hx, hv⟩ := all2_mem r m
      exact ⟨x, List.mem_cons_of_mem _ hx, hv⟩
theorem ew_any {w : Wp (List α)} (hi : σ[i]? = some (some (.ref b))) (h : EvW b c S te σ H (of (tL a) S) w) : EvW b c S (tCall (spAnyK K) [] E (tCons (tVar i) (tCons te tNil))) σ H (of a S) (callBW anyW w) := fun ts P hP H1 f d hB Q q => by
  refine ⟨_, hi, h ts _ hP H1 f d hB _ fun v H2 xs ⟨x0, x1, hx⟩ f2 d2 hB2 hv => ?_⟩
  obtain ⟨p, vs, rfl, hp, ha⟩ := hv
  refine ⟨b, c, p, vs, rfl, hB2, hp.sub ts, fun z => x0 (List.length_eq_zero_iff.mp (by rw [← ha.len, z]; rfl)), by rw [ha.len]; exact x1, fun v H' hv hB' ex => ?_⟩
  obtain ⟨x, mx, rx⟩ := all2_mem ha hv
  exact q _ H' x (hx x mx) (f2.trans (els_fr ex)) (dom_fr d2 (els_fr ex) hB') hB' (a.mono ((els_fr ex).sub ts) rx)
theorem ew_anyO {p : Addr} {xs : List α} {j : Nat} (hi : σ[i]? = some (some (.ref b))) (o : Own a S H p xs) (nt : p ∉ [b, c]) (hj : σ[j]? = some (some (.ref p))) : EvW b c S (tCall (spAnyK K) [] E (tCons (tVar i) (tCons (tVar j) tNil))) σ H (of a S) (anyW xs) := fun ts P ⟨x0, x1, hx⟩ H1 f d hB Q q => by
  obtain ⟨vs, hv, ha⟩ := o.fr f ts nt
  refine ⟨_, hi, _, hj, b, c, p, vs, rfl, hB, ⟨hv, nt⟩, fun z => x0 (List.length_eq_zero_iff.mp (by rw [← ha.len, z]; rfl)), by rw [ha.len]; exact x1, fun v H' hv hB' ex => ?_⟩
  obtain ⟨x, mx, rx⟩ := all2_mem ha hv
  exact q _ H' x (hx x mx) (els_fr ex) (dom_fr d (els_fr ex) hB') hB' (a.mono ((els_fr ex).sub ts) rx)
end
/-! ### things that the law finds the same -/
def SmOf {α : Type} (a : Ty K α) (k : Nat) (p : α → Prop) : Prop := ∀ {S S' H v w x}, a.rp S H v x → a.rp S' H w x → p x → ∀ n, k ≤ n → SmT K H n v w
theorem sm_int : SmOf (K := K) tInt 0 noSz := fun h1 h2 _ n _ => by cases h1; cases h2; exact SmT.flat rfl n
theorem sm_bool : SmOf (K := K) tBool 0 noSz := fun h1 h2 _ n _ => by cases h1; cases h2; exact SmT.flat rfl n
theorem sm_none : SmOf (K := K) tNone 0 noSz := fun h1 h2 _ n _ => by cases h1; cases h2; exact SmT.flat rfl n
theorem sm_str : SmOf (K := K) tStr 0 noSz := fun h1 h2 _ n _ => by rw [h1.1, h2.1]; exact SmT.flat rfl n
theorem sm_rat : SmOf (K := K) tRat 1 noSz := fun ⟨p, e, h⟩ ⟨p', e', h'⟩ _ n hn => by
  subst e; subst e'
  obtain ⟨m, rfl⟩ : ∃ m, n = m + 1 := ⟨n - 1, by omega⟩
  exact SmT.tup2 h.sq h'.sq (SmT.flat rfl m) (SmT.flat rfl m)
theorem sm_opt {α : Type} {a : Ty K α} {k : Nat} {p : α → Prop} (h : SmOf a k p) : SmOf (tOpt a) k (szO p) := fun {S S' H v w x} h1 h2 hp n hn => by
  cases x with
  | none => rw [show v = _ from h1, show w = _ from h2]; exact SmT.flat rfl n
  | some y => exact h h1.2 h2.2 (hp y rfl) n hn
theorem sm_t2 {α β : Type} {a : Ty K α} {b : Ty K β} {k l : Nat} {p : α → Prop} {q : β → Prop} (h : SmOf a k p) (h' : SmOf b l q) : SmOf (tT2 a b) (1 + max k l) (szT2 p q) := fun ⟨p, u, w, e, hp, h1, h2⟩ ⟨p', u', w', e', hp', h1', h2'⟩ sz n hn => by
  subst e; subst e'
  obtain ⟨m, rfl⟩ : ∃ m, n = m + 1 := ⟨n - 1, by omega⟩
  exact SmT.tup2 hp.sq hp'.sq (h h1 h1' sz.1 m (by omega)) (h' h2 h2' sz.2 m (by omega))
theorem sm_t4 {α β γ δ : Type} {a : Ty K α} {b : Ty K β} {c : Ty K γ} {d : Ty K δ} {k l i j : Nat} {p : α → Prop} {q : β → Prop} {r : γ → Prop} {s : δ → Prop} (ha : SmOf a k p) (hb : SmOf b l q) (hc : SmOf c i r) (hd : SmOf d j s) : SmOf (tT4 a b c d) (1 + max (max k l) (max i j)) (szT4 p q r s) := fun ⟨p, u1, u2, u3, u4, e, hp, h1, h2, h3, h4⟩ ⟨p', w1, w2, w3, w4, e', hp', g1, g2, g3, g4⟩ sz n hn => by
  subst e; subst e'
  obtain ⟨m, rfl⟩ : ∃ m, n = m + 1 := ⟨n - 1, by omega⟩
  refine SmT.tup hp.sq hp'.sq rfl (by show 4 ≤ 1000; decide) fun i x y ex ey => ?_
  match i, ex, ey with
  | 0, ex, ey => cases ex; cases ey; exact ha h1 g1 sz.1 m (by omega)
  | 1, ex, ey => cases ex; cases ey; exact hb h2 g2 sz.2.1 m (by omega)
  | 2, ex, ey => cases ex; cases ey; exact hc h3 g3 sz.2.2.1 m (by omega)
  | 3, ex, ey => cases ex; cases ey; exact hd h4 g4 sz.2.2.2 m (by omega)
theorem sm_items {α : Type} {a : Ty K α} {k : Nat} {p : α → Prop} (h : SmOf a k p) {S S' : AS} {H : Hp} {vs ws : List V} {xs : List α} (h1 : All2 (a.rp S H) vs xs) (h2 : All2 (a.rp S' H) ws xs) (hp : ∀ x ∈ xs, p x) {m : Nat} (hm : k ≤ m) : ∀ (i : Nat) u v, vs[i]? = some u → ws[i]? = some v → SmT K H m u v := fun i u v eu ev => by
  obtain ⟨x, hx, r1⟩ := h1.getL i eu
  obtain ⟨y, hy, r2⟩ := h2.getL i ev
  rw [hx] at hy
  cases hy
  exact h r1 r2 (hp x (List.mem_of_getElem? hx)) m hm
theorem sm_L {α : Type} {a : Ty K α} {k : Nat} {p : α → Prop} (h : SmOf a k p) : SmOf (tL a) (1 + k) (szL p) := fun ⟨q, vs, e, hq, h1⟩ ⟨q', ws, e', hq', h2⟩ sz n hn => by
  subst e; subst e'
  obtain ⟨m, rfl⟩ : ∃ m, n = m + 1 := ⟨n - 1, by omega⟩
  exact .inr (.inr ⟨q, q', vs, ws, rfl, rfl, hq.sq, hq'.sq, h1.len.trans h2.len.symm, by rw [h1.len]; exact sz.1, sm_items h h1 h2 sz.2 (by omega)⟩)
theorem sm_Ts {α : Type} {a : Ty K α} {k : Nat} {p : α → Prop} (h : SmOf a k p) : SmOf (tTs a) (1 + k) (szL p) := fun ⟨q, vs, e, hq, h1⟩ ⟨q', ws, e', hq', h2⟩ sz n hn => by
  subst e; subst e'
  obtain ⟨m, rfl⟩ : ∃ m, n = m + 1 := ⟨n - 1, by omega⟩
  exact .inr (.inl ⟨q, q', vs, ws, rfl, rfl, hq.sq, hq'.sq, h1.len.trans h2.len.symm, by rw [h1.len]; exact sz.1, sm_items h h1 h2 sz.2 (by omega)⟩)
theorem ew_same {α : Type} {a : Ty K α} {n : Nat} {p : α → Prop} {b c : Addr} {S : AS} {σ : St} {H : Hp} {ta tb : TE} {E : XK} {wa wb : Wp α} (hs : SmOf a n p) (ha : EvW b c S ta σ H (of a S) wa) (hb : EvW b c S tb σ H (of a S) wb) :
    EvW b c S (tCall (spSame K (n + 1)) [] E (tCons ta (tCons tb tNil))) σ H (of (K := K) tBool S) (sameW p wa wb) := fun ts P hP H1 f d hB Q q => by
  refine ha ts _ hP H1 f d hB _ fun v H2 x hx f2 d2 hB2 hv => hb ts _ hx H2 (f.trans f2) d2 hB2 _ fun w H3 y ⟨e, hp, hy⟩ f3 d3 hB3 hw => ?_
  subst e
  exact ⟨_, _, rfl, (hs (a.mono (f3.sub ts) hv) hw hp n (Nat.le_refl _)).sm, fun H' s => q _ H' true hy ((f2.trans f3).trans (Fr.same s)) (d3.same s) (hB3.same s) rfl⟩
theorem ew_sameO {α : Type} {a : Ty K α} {n : Nat} {p : List α → Prop} {b c q : Addr} {S : AS} {σ : St} {H : Hp} {ta : TE} {E : XK} {wa : Wp (List α)} {ys : List α} {i : Nat} (hs : SmOf (tL a) n p) (o : Own a S H q ys) (nt : q ∉ [b, c]) (hi : σ[i]? = some (some (.ref q))) (ha : EvW b c S ta σ H (of (tL a) S) wa) :
    EvW b c S (tCall (spSame K (n + 1)) [] E (tCons ta (tCons (tVar i) tNil))) σ H (of (K := K) tBool S) (sameW p wa (lf (some ys))) := fun ts P hP H1 f d hB Q qq => by
  refine ha ts _ hP H1 f d hB _ fun v H2 x ⟨y, ey, e, hp, hy⟩ f2 d2 hB2 hv => ⟨_, hi, ?_⟩
  cases ey
  subst e
  obtain ⟨vs, hvs, hall⟩ := (o.fr f ts nt).fr f2 ts nt
  have rp0 : (tL a).rp [] H2 (.ref q) x := ⟨q, vs, rfl, ⟨hvs, by simp⟩, hall.imp fun _ _ => a.sub fun _ m => by simp at m⟩
  exact ⟨_, _, rfl, (hs hv rp0 hp n (Nat.le_refl _)).sm, fun H' s => qq _ H' true hy (f2.trans (Fr.same s)) (d2.same s) (hB2.same s) rfl⟩

/-! ### names -/
def lowB (z : Str) : Bool := decide (1 ≤ z.cps.toList.length) && decide (z.cps.toList.length ≤ 6) && z.cps.toList.all fun c => decide (97 ≤ c) && decide (c ≤ 122)
theorem lowB_mk {z : Str} (h1 : 1 ≤ z.cps.toList.length) (h2 : z.cps.toList.length ≤ 6) (h : ∀ c ∈ z.cps.toList, 97 ≤ c ∧ c ≤ 122) : lowB z = true := by
  unfold lowB
  rw [decide_eq_true h1, decide_eq_true h2, Bool.true_and, Bool.true_and, List.all_eq_true]
  intro c hc
  rw [decide_eq_true (h c hc).1, decide_eq_true (h c hc).2]
  rfl
theorem lowB_all {z : Str} (h : lowB z = true) : (1 ≤ z.cps.toList.length ∧ z.cps.toList.length ≤ 6) ∧ ∀ c ∈ z.cps.toList, 97 ≤ c ∧ c ≤ 122 := by
  unfold lowB at h
  rw [Bool.and_eq_true, Bool.and_eq_true, List.all_eq_true] at h
  refine ⟨⟨of_decide_eq_true h.1.1, of_decide_eq_true h.1.2⟩, fun c hc => ?_⟩
  have := h.2 c hc
  rw [Bool.and_eq_true] at this
  exact ⟨of_decide_eq_true this.1, of_decide_eq_true this.2⟩
theorem low_ok {z : Str} (h : lowB z = true) : PyData.strOk z = true := by
  unfold PyData.strOk
  rw [← Array.all_toList, List.all_eq_true]
  intro c hc
  have := ((lowB_all h).2 c hc).2
  exact decide_eq_true (by omega)
theorem at_memA {α : Type} {xs : List α} {r : Int} (h0 : 0 ≤ r) (h : r < (xs.length : Int)) : ∃ v, v ∈ xs ∧ atI xs r = some v := by
  have hk : r.toNat < xs.length := by omega
  have e := atI_nat (xs := xs) (j := r.toNat) (List.getElem?_eq_getElem hk)
  rw [show ((r.toNat : Nat) : Int) = r by omega] at e
  exact ⟨_, List.getElem_mem hk, e⟩
/-- texts of one letter each, glued -/
theorem glue_low : ∀ (zs : List Str), (∀ z ∈ zs, ∃ c : Nat, z = ⟨#[c]⟩ ∧ 97 ≤ c ∧ c ≤ 122) → (Str.join (Str.ofString "") zs).cps.toList.length = zs.length ∧ ∀ c ∈ (Str.join (Str.ofString "") zs).cps.toList, 97 ≤ c ∧ c ≤ 122 := by
  intro zs h
  have e : (Str.join (Str.ofString "") zs).cps.toList = TL.joinL [] (zs.map TL.tl) := TL.tl_join (Str.ofString "") zs
  rw [e]
  clear e
  induction zs with
  | nil => exact ⟨rfl, (fun _ hc => nomatch hc)⟩
  | cons z r ih =>
    obtain ⟨c, rfl, c1, c2⟩ := h z List.mem_cons_self
    have ih' := ih fun x hx => h x (List.mem_cons_of_mem _ hx)
    have e : TL.joinL [] (((⟨#[c]⟩ : Str) :: r).map TL.tl) = c :: TL.joinL [] (r.map TL.tl) := by
      cases r with
      | nil => rfl
      | cons y s => rfl
    rw [e]
    refine ⟨by rw [List.length_cons, ih'.1, List.length_cons], fun x hx => ?_⟩
    rcases List.mem_cons.mp hx with rfl | hx
    · exact ⟨c1, c2⟩
    · exact ih'.2 x hx
theorem lens1 : ∀ (zs : List Str), (∀ z ∈ zs, ∃ c : Nat, z = ⟨#[c]⟩ ∧ 97 ≤ c ∧ c ≤ 122) → (zs.map (·.length)).sum = zs.length
  | [], _ => rfl
  | z :: r, h => by
    obtain ⟨c, rfl, _⟩ := h z List.mem_cons_self
    rw [List.map_cons, List.sum_cons, lens1 r fun x hx => h x (List.mem_cons_of_mem _ hx), List.length_cons]
    show 1 + r.length = r.length + 1
    omega
def spName : Sp := fun vs H Q _ => ∃ (b c : Addr), vs = [.ref b] ∧ Bag H b c ∧ ∀ (z : Str) (H' : Hp), lowB z = true → Bag H' b c → Kept b c H H' → Q (.str z) H'
theorem ok_law_name (ev : Env P K mg) : FnOk P w K mg base CX0 3 ev.f_law_name ev.d_law_name p_law_name spName := by
  refine ev.A_law_name.F.ok sc_law_name (fun vs H Q E h => ?_) (fun cdv A outer s H vs Q E hr h => ?_)
  · obtain ⟨b, c, rfl, _⟩ := h
    rfl
  obtain ⟨b, c, rfl, hB, q⟩ := h
  refine ⟨_, (pss_cons (ps_if (pt_cmpR op_gt (pe_call (ok_law_draw ev) (hr.mono (by decide)) (by rfl) ev.A_law_draw.m ev.A_law_draw.F.kp ev.A_law_draw.b .nil pass0 (pa_cons (pv 0) (pa_cons pe_int pa_nil))) pe_int (nomark _))
    (pss_one (ps_ret (pe_call (ok_law_any ev) (hr.mono (by decide)) (by rfl) ev.A_law_any.m ev.A_law_any.F.kp ev.A_law_any.b .nil pass0 (pa_cons (pv 0) (pa_cons (pe_lst (pa_cons pe_str (pa_cons pe_str (pa_cons pe_str (pa_cons pe_str (pa_cons pe_str (pa_cons pe_str (pa_cons pe_str (pa_cons pe_str pa_nil))))))))) pa_nil))))) pss_nil)
    (pss_cons (ps_set (i := 1) sc_law_name.nd rfl (Or.inr rfl) pe_str)
    (pss_one (ps_ret (pe_join pe_str (pe_lc (own := [("_law_k", 2)]) (g := gName 2) (tt := tYes) (by rfl) sc_law_name.nd (pi_range1 rfl ev.B.range_ (pa_cons (pe_op op_add pe_int (pe_call (ok_law_draw ev) (hr.mono (by decide)) (by rfl) ev.A_law_draw.m ev.A_law_draw.F.kp ev.A_law_draw.b .nil pass0 (pa_cons (pv 0) (pa_cons pe_int pa_nil)))) pa_nil)) (blkOk_by (own := [("_law_k", 2)]) (N := n_law_name) (sc := defScope s_law_name) (by decide +kernel)) (fun _ _ _ _ _ => pg_name (i := 2) sc_law_name.nd rfl (Or.inl rfl)) (fun _ _ _ _ _ => pts_nil) (fun _ _ _ _ _ => (pe_ix ix_str (pv 1) (pe_call (ok_law_draw ev) (hr.mono (by decide)) (by rfl) ev.A_law_draw.m ev.A_law_draw.F.kp ev.A_law_draw.b .nil pass0 (pa_cons (pv 0) (pa_cons pe_int pa_nil))) (fun _ _ => rfl))))))))), ?_⟩
  refine ⟨_, rfl, b, c, 4, rfl, hB, by decide, by decide, fun r H1 r0 r1 hB1 ex1 => ⟨_, _, rfl, rfl, _, rfl, ite2 (fun _ => ?_) (fun _ => ?_)⟩⟩
  · refine ⟨_, rfl, (by show 8 ≤ sizeLine; decide), fun l nl => ?_⟩
    obtain ⟨lb, lc⟩ := hB1.off nl
    refine ⟨b, c, l, _, rfl, hB1.upd nl, ⟨upd_same, by simp [lb, lc]⟩, (fun z => nomatch z), (by show 8 ≤ 1000; decide), fun v H2 hv hB2 ex2 => ?_⟩
    obtain ⟨z, rfl, hz⟩ : ∃ z : Str, v = .str z ∧ lowB z = true := by
      simp only [List.mem_cons, List.not_mem_nil, or_false] at hv
      rcases hv with rfl | rfl | rfl | rfl | rfl | rfl | rfl | rfl <;> exact ⟨_, rfl, by decide +kernel⟩
    exact q z H2 hz hB2 (ex1.kept.trans ((kept_same (same_upd nl)).trans ex2.kept))
  refine next_u ?_
  refine seq_c ?_
  refine ⟨⟨_, rfl⟩, _, rfl, b, c, 6, rfl, hB1, by decide, by decide, fun r2 H2 g0 g1 hB2 ex2 => ⟨_, _, rfl, rfl, _, rfl, by omega, by omega, fun D hD => ?_⟩⟩
  obtain ⟨Db, Dc⟩ := hB2.off hD
  refine lc_range (lo := 0) (n := (1 + r2).toNat) (fun i H3 => Bag H3 b c ∧ Kept b c H2 H3 ∧ ∃ zs : List Str, H3 D = some (.lst (zs.map V.str)) ∧ zs.length = i ∧ ∀ z ∈ zs, ∃ ch : Nat, z = ⟨#[ch]⟩ ∧ 97 ≤ ch ∧ ch ≤ 122)
    ⟨hB2.upd hD, kept_same (same_upd hD), [], upd_same, rfl, (fun _ hz => nomatch hz)⟩ ?_ ?_
  · rintro i H3 hi ⟨hB3, kp3, zs, hD3, hl, hz⟩
    refine ⟨rfl, yes_ ?_⟩
    refine ⟨_, rfl, _, rfl, b, c, 26, rfl, hB3, by decide, by decide, fun r3 H4 f0 f1 hB4 ex4 => ?_⟩
    have hD4 : H4 D = some (.lst (zs.map V.str)) := (ex4 D Db Dc).trans hD3
    have all26 : ∀ ch ∈ (Str.ofString "abcdefghijklmnopqrstuvwxyz").cps.toList, 97 ≤ ch ∧ ch ≤ 122 := by decide +kernel
    obtain ⟨ch, hc, e⟩ := at_memA (xs := (Str.ofString "abcdefghijklmnopqrstuvwxyz").cps.toList) f0 (show r3 < ((Str.ofString "abcdefghijklmnopqrstuvwxyz").cps.toList.length : Int) from f1)
    refine ⟨_, _, ch, rfl, rfl, (by decide), e, _, hD4, ?_, ?_, ?_, zs ++ [⟨#[ch]⟩], ?_, ?_, ?_⟩
    · rw [List.length_map, hl]
      exact small1000 (by omega)
    · obtain ⟨ne, ns, sl, sd, h1, h2, rr⟩ := hB4
      exact ⟨ne, ns, sl, sd, by rw [upd_ne Db.symm]; exact h1, by rw [upd_ne Dc.symm]; exact h2, rr⟩
    · intro p o e1 n1 n2
      have z := kp3 p o e1 n1 n2
      have np : p ≠ D := ne_of_none e1 hD
      rw [upd_ne np]
      exact ex4.kept p o z n1 n2
    · rw [upd_same, List.map_append]
      rfl
    · rw [List.length_append, hl]
      rfl
    · intro z hzz
      rcases List.mem_append.mp hzz with hzz | hzz
      · exact hz z hzz
      · rw [List.mem_singleton.mp hzz]
        exact ⟨ch, rfl, all26 ch hc⟩
  · rintro H3 ⟨hB3, kp3, zs, hD3, hl, hz⟩
    have g := glue_low zs hz
    have ln : zs.length ≤ 6 ∧ 1 ≤ zs.length := by omega
    refine ⟨_, D, zs, rfl, rfl, .inl (SqL.of hD3), ?_, ?_⟩
    · rw [lens1 zs hz]
      show zs.length + zs.length * 0 ≤ 16777216
      omega
    · rw [TL.join_eq]
      exact q _ H3 (lowB_mk (by rw [g.1]; exact ln.2) (by rw [g.1]; exact ln.1) g.2) hB3 (ex1.kept.trans (ex2.kept.trans kp3))
def nameW : Wp Str := fun P => ∀ z : Str, lowB z = true → P z
theorem kept_fr {b c : Addr} {H H' : Hp} (k : Kept b c H H') : Fr [b, c] H H' := fun p o e n => by
  simp only [List.mem_cons, List.not_mem_nil, or_false, not_or] at n
  exact k p o e n.1 n.2
theorem ew_name {b c : Addr} {S : AS} {σ : St} {H : Hp} {E : XK} {i : Nat} (hi : σ[i]? = some (some (.ref b))) : EvW b c S (tCall spName [] E (tCons (tVar i) tNil)) σ H (of (K := K) tStr S) nameW := fun ts P hP H1 f d hB Q q =>
  ⟨_, hi, b, c, rfl, hB, fun z H' hz hB' kp => q _ H' z (hP z hz) (kept_fr kp) (dom_fr d (kept_fr kp) hB') hB' ⟨rfl, low_ok hz⟩⟩

/-! ### same by a relation: tuples of several kinds, dicts in any order -/
section
variable {α β γ κ : Type} {a : Ty K α} {b' : Ty K β} {t : TyA K β}
def SmA (t : TyA K α) (k : Nat) (p : α → Prop) : Prop := ∀ {S S' H vs ws x}, t.rp S H vs x → t.rp S' H ws x → p x → ∀ n, k ≤ n → vs.length = ws.length ∧ ∀ (i : Nat) u v, vs[i]? = some u → ws[i]? = some v → SmT K H n u v
theorem sma_nil : SmA (K := K) aNil 0 noSz := fun {S S' H vs ws x} h1 h2 _ n _ => by
  rw [show vs = [] from h1, show ws = [] from h2]
  exact ⟨rfl, fun i u v e => by simp at e⟩
theorem sma_cons {k l : Nat} {p : α → Prop} {q : β → Prop} (h : SmOf a k p) (h' : SmA t l q) : SmA (aCons a t) (max k l) (szT2 p q) := by
  rintro S S' H vs ws x ⟨v, r, rfl, h1, h2⟩ ⟨v', r', rfl, h1', h2'⟩ hp n hn
  obtain ⟨l1, l2⟩ := h' h2 h2' hp.2 n (by omega)
  refine ⟨by simp [l1], fun i u w e e' => ?_⟩
  cases i with
  | zero => cases e; cases e'; exact h h1 h1' hp.1 n (by omega)
  | succ i => exact l2 i u w (by simpa using e) (by simpa using e')
theorem sm_tu {t : TyA K α} [XA t] {n k : Nat} [LA t n] {p : α → Prop} (hn : n ≤ 1000) (h : SmA t k p) : SmOf (tTu t) (1 + k) p := fun {S S' H v w x} ⟨q, vs, e, hq, h1⟩ ⟨q', ws, e', hq', h2⟩ sz m hm => by
  subst e; subst e'
  obtain ⟨m, rfl⟩ : ∃ j, m = j + 1 := ⟨m - 1, by omega⟩
  obtain ⟨l1, l2⟩ := h h1 h2 sz m (by omega)
  exact SmT.tup hq.sq hq'.sq l1 (by rw [LA.len h1]; exact hn) l2
def SmR (a : Ty K α) (k : Nat) (R : α → α → Prop) : Prop := ∀ {S S' H v w x y}, a.rp S H v x → a.rp S' H w y → R x y → ∀ n, k ≤ n → Sm K H n v w
def sEq (p : α → Prop) : α → α → Prop := fun x y => x = y ∧ p y
theorem smr_of {k : Nat} {p : α → Prop} (h : SmOf a k p) : SmR a k (sEq p) := fun h1 h2 ⟨e, hp⟩ n hn => by
  subst e
  exact (h h1 h2 hp n hn).sm
def sDict (p : β → Prop) : List (κ × β) → List (κ × β) → Prop := fun x y => x.Perm y ∧ y.length < 64 ∧ ∀ z ∈ y, p z.2
theorem getK_mem [DecidableEq κ] {k : κ} {v : β} : ∀ {xs : List (κ × β)}, (xs.map Prod.fst).Nodup → (getK xs k = some v ↔ (k, v) ∈ xs)
  | [], _ => by simp [getK]
  | x :: r, n => by
    rw [List.map_cons, List.nodup_cons] at n
    have ih := getK_mem (k := k) (v := v) n.2
    by_cases e : x.1 = k
    · have e1 : getK (x :: r) k = some x.2 := by simp [getK, List.find?_cons, e]
      rw [e1]
      constructor
      · intro h
        cases h
        subst e
        exact List.mem_cons_self ..
      · intro h
        rcases List.mem_cons.mp h with h | h
        · rw [← h]
        · exact absurd (List.mem_map.mpr ⟨_, h, rfl⟩) (e ▸ n.1)
    · have e1 : getK (x :: r) k = getK r k := by simp [getK, List.find?_cons, e]
      rw [e1, ih]
      constructor
      · exact List.mem_cons_of_mem _
      · intro h
        rcases List.mem_cons.mp h with h | h
        · exact absurd (by rw [← h]) e
        · exact h
theorem all2_memL {F : V → α → Prop} : True := trivial
theorem kv_mem [KeyC κ] {S : AS} {H : Hp} {kv : Key × V} : ∀ {kvs : List (Key × V)} {xs : List (κ × β)}, All2 (KvP b' S H) kvs xs → kv ∈ kvs → ∃ x ∈ xs, KvP b' S H kv x
  | _, _, .nil, m => by simp at m
  | _, _, .cons h r, m => by
    rcases List.mem_cons.mp m with rfl | m
    · exact ⟨_, List.mem_cons_self .., h⟩
    · obtain ⟨x, hx, hv⟩ := kv_mem r m
      exact ⟨x, List.mem_cons_of_mem _ hx, hv⟩
theorem valV_mem {ks : List (Key × V)} {k : Key} {u : V} (h : valV ks k = some u) : (k, u) ∈ ks := by
  unfold valV at h
  obtain ⟨p, hp, e⟩ := Option.map_eq_some_iff.mp h
  have h1 := List.find?_some hp
  have h2 := List.mem_of_find?_eq_some hp
  have h3 : p.1 = k := of_decide_eq_true h1
  subst h3
  subst e
  exact h2
theorem keys_kk [KeyC κ] {S : AS} {H : Hp} : ∀ {kvs : List (Key × V)} {xs : List (κ × β)}, All2 (KvP b' S H) kvs xs → kvs.map (·.1) = (xs.map Prod.fst).map KeyC.kk ∧ ∀ z ∈ xs.map Prod.fst, KeyC.ok z
  | _, _, .nil => ⟨rfl, fun z hz => by simp at hz⟩
  | kv :: kvs, x :: xs, .cons h r => by
    obtain ⟨e1, e2⟩ := keys_kk r
    refine ⟨by rw [List.map_cons, List.map_cons, List.map_cons, e1, h.1], fun z hz => ?_⟩
    rw [List.map_cons] at hz
    rcases List.mem_cons.mp hz with rfl | hz
    · exact h.2.1
    · exact e2 z hz
theorem nodup_kk [KeyC κ] : ∀ {l : List κ}, l.Nodup → (l.map (KeyC.kk : κ → Key)).Nodup
  | [], _ => List.nodup_nil
  | x :: r, h => by
    rw [List.nodup_cons] at h
    rw [List.map_cons, List.nodup_cons]
    refine ⟨fun hm => ?_, nodup_kk h.2⟩
    obtain ⟨y, hy, e⟩ := List.mem_map.mp hm
    rw [KeyC.inj e] at hy
    exact h.1 hy
theorem smr_D [KeyC κ] [DecidableEq κ] (hK : ∀ l : List κ, (∀ z ∈ l, KeyC.ok z) → KOk (l.map KeyC.kk)) {k : Nat} {p : β → Prop} (h : SmOf b' k p) : SmR (tD κ b') (1 + k) (sDict p) := by
  rintro S S' H v w x y ⟨a1, ks, rfl, hp, ha, hn⟩ ⟨a2, ls, rfl, hp', ha', hn'⟩ ⟨pm, l64, hz⟩ n hk
  obtain ⟨m, rfl⟩ : ∃ j, n = j + 1 := ⟨n - 1, by omega⟩
  obtain ⟨k1, o1⟩ := keys_kk ha
  obtain ⟨k2, o2⟩ := keys_kk ha'
  refine .inr (.inr (.inr ⟨a1, a2, ks, ls, rfl, rfl, hp.1, hp'.1, ?_, ?_, by rw [ha'.len]; exact l64, ?_, ?_, fun key u v e e' => ?_⟩))
  · rw [k1, k2]
    exact (pm.map _).map _
  · rw [k2]
    exact nodup_kk hn'
  · rw [k2]; exact hK _ o2
  · rw [k1]; exact hK _ o1
  · obtain ⟨z, hzx, e1, _, r1⟩ := kv_mem ha (valV_mem e)
    obtain ⟨z', hzy, e2, _, r2⟩ := kv_mem ha' (valV_mem e')
    have ez : z.1 = z'.1 := KeyC.inj (e1.symm.trans e2)
    have m1 : (z'.1, z.2) ∈ y := by rw [← ez]; exact pm.mem_iff.mp hzx
    have m2 := (getK_mem hn').mpr m1
    have m3 := (getK_mem hn').mpr (show (z'.1, z'.2) ∈ y from hzy)
    rw [m2] at m3
    have e3 : z.2 = z'.2 := Option.some.inj m3
    rw [e3] at r1
    exact h r1 r2 (hz z' hzy) m (by omega)
theorem smr_DS {k : Nat} {p : β → Prop} (h : SmOf b' k p) : SmR (tD Str b') (1 + k) (sDict p) := smr_D (fun l hl => .inr ⟨l, rfl, hl⟩) h
theorem smr_DI {k : Nat} {p : β → Prop} (h : SmOf b' k p) : SmR (tD Int b') (1 + k) (sDict p) := smr_D (fun l hl => .inl ⟨l, rfl⟩) h
def sameR (R : α → α → Prop) (wa wb : Wp α) : Wp Bool := fun P => wa fun x => wb fun y => R x y ∧ P true
open Classical in
noncomputable def smq (R : α → α → Prop) (x y : α) : Option Bool := if R x y then some true else none
theorem smq_some {R : α → α → Prop} {x y : α} {z : Bool} (h : smq R x y = some z) : R x y ∧ z = true := by
  unfold smq at h
  split at h
  · rename_i c; cases h; exact ⟨c, rfl⟩
  · cases h
theorem smq_of {R : α → α → Prop} {x y : α} (h : R x y) : smq R x y = some true := by
  unfold smq
  rw [if_pos h]
theorem ew_sameR {n : Nat} {R : α → α → Prop} {b c : Addr} {S : AS} {σ : St} {H : Hp} {ta tb : TE} {E : XK} {wa wb : Wp α} (hs : SmR a n R) (ha : EvW b c S ta σ H (of a S) wa) (hb : EvW b c S tb σ H (of a S) wb) :
    EvW b c S (tCall (spSame K (n + 1)) [] E (tCons ta (tCons tb tNil))) σ H (of (K := K) tBool S) (sameR R wa wb) := fun ts P hP H1 f d hB Q q => by
  refine ha ts _ hP H1 f d hB _ fun v H2 x hx f2 d2 hB2 hv => hb ts _ hx H2 (f.trans f2) d2 hB2 _ fun w H3 y ⟨e, hy⟩ f3 d3 hB3 hw => ?_
  exact ⟨_, _, rfl, hs (a.mono (f3.sub ts) hv) hw e n (Nat.le_refl _), fun H' s => q _ H' true hy ((f2.trans f3).trans (Fr.same s)) (d3.same s) (hB3.same s) rfl⟩
theorem ev_sameR {n : Nat} {R : α → α → Prop} {S T : AS} {σ : St} {H : Hp} {ta tb : TE} {E : XK} {ra rb : Option α} (hs : SmR a n R) (ha : Ev S T ta σ H (of a S) ra) (hb : Ev S T tb σ H (of a S) rb) :
    Ev S T (tCall (spSame K (n + 1)) [] E (tCons ta (tCons tb tNil))) σ H (of (K := K) tBool S) (bd ra fun x => bd rb fun y => smq R x y) := by
  intro z e H1 f1 d Q q
  obtain ⟨x, ex, e⟩ := bd_some e
  obtain ⟨y, ey, e⟩ := bd_some e
  obtain ⟨hR, rfl⟩ := smq_some e
  refine ha x ex H1 f1 d _ fun v H2 s2 hv => hb y ey H2 (f1.trans (Fr.same s2)) (d.same s2) _ fun w H3 s3 hw => ?_
  exact ⟨_, _, rfl, hs (a.mono (Fr.same s3) hv) hw hR n (Nat.le_refl _), fun H' s => q _ H' (s2.trans (s3.trans s)) rfl⟩
end

/-! ### the survey -/
theorem lc_str {x : Str} {g : TG} {tt : TT} {te : TE} {vs : List Nat} {σ : L2.St} {H0 : Hp} {D : Addr} {Qd : Hp → Prop} (Pv : Nat → Hp → Prop) (h0 : Pv 0 (upd H0 D (.lst [])))
    (hs : ∀ i c H, x.cps.toList[i]? = some c → Pv i H → LcStep g tt te vs σ D (.str ⟨#[c]⟩) H (Pv (i + 1))) (hd : ∀ H, Pv x.cps.toList.length H → Qd H) : Wlk (Its x) (upd H0 D (.lst [])) (LcStep g tt te vs σ D) Qd :=
  wlk x.cps.toList.length Pv h0 (fun H p => ⟨Nat.le_refl _, hd H p⟩) fun i H c p => ⟨c, fun y G z => by
    obtain ⟨rfl, u, e, rfl⟩ := z
    exact hs i u _ (Array.getElem?_toList.trans e) p⟩
theorem dc_list {K : PySem.W.Frag} {a : Addr} {xs : List V} {g : TG} {tt : TT} {tk tv : TE} {vs : List Nat} {σ : L2.St} {H0 : Hp} {D : Addr} {Qd : Hp → Prop} (Pv : Nat → Hp → Prop) (h0 : Pv 0 (upd H0 D (.dK []))) (hl : ∀ i H, i ≤ xs.length → Pv i H → SqL K H a xs)
    (hs : ∀ i x H, xs[i]? = some x → Pv i H → DcStep g tt tk tv vs σ D x H (Pv (i + 1))) (hd : ∀ H, Pv xs.length H → Qd H) : Wlk (Itl K a) (upd H0 D (.dK [])) (DcStep g tt tk tv vs σ D) Qd :=
  wlk xs.length Pv h0 (fun H p => ⟨⟨xs, hl _ H (Nat.le_refl _) p, Nat.le_refl _⟩, hd H p⟩) fun i H c p => ⟨⟨xs, xs[i], hl i H (Nat.le_of_lt c) p, List.getElem?_eq_getElem c⟩, fun y G z => by
    obtain ⟨rfl, e⟩ := z
    exact hs i y _ (e xs (hl i _ (Nat.le_of_lt c) p)) p⟩
def spIsName : Sp := fun vs H Q _ => ∃ z : Str, vs = [.str z] ∧ lowB z = true ∧ ∀ H', Same H H' → Q (.bl true) H'
theorem len_cps (z : Str) : z.length = z.cps.toList.length := rfl
theorem lowB_ne {z : Str} (h : lowB z = true) : ¬ z = Str.ofString "" := by
  intro e
  subst e
  exact absurd h (by decide +kernel)
theorem ok_is_word (ev : Env P K mg) : FnOk P w K mg base CX0 1 ev.f_is_word ev.d_is_word p_is_word spIsName := by
  refine ev.A_is_word.F.ok sc_is_word (fun vs H Q E h => ?_) (fun cdv A outer s H vs Q E hr h => ?_)
  · obtain ⟨z, rfl, _⟩ := h
    rfl
  obtain ⟨z, rfl, hz, q⟩ := h
  have zn := lowB_ne hz
  obtain ⟨⟨z1, z6⟩, hc⟩ := lowB_all hz
  refine ⟨_, (pss_one (ps_ret (pe_and (pe_cmpR op_ne (pv 0) pe_str (nomark _)) (pe_one (pe_callB (cr_all rfl) (by rfl) ev.B.all_ (by decide +kernel) (pa_cons (pe_lc (own := [("sign", 1)]) (g := gName 1) (tt := tYes) (by rfl) sc_is_word.nd (pi_str (pv 0)) (blkOk_by (own := [("sign", 1)]) (N := n_is_word) (sc := defScope s_is_word) (by decide +kernel)) (fun _ _ _ _ _ => pg_name (i := 1) sc_is_word.nd rfl (Or.inl rfl)) (fun _ _ _ _ _ => pts_nil) (fun _ _ _ _ _ => (pe_cmpR op_in_sign (pv 1) (pe_glob (v := .str "abcdefghijklmnopqrstuvwxyz") (by rfl) ev.c_LETTERS ⟨_, rfl⟩) (by rfl)))) pa_nil)))))), ?_⟩
  have zl := len_cps z
  refine ⟨_, rfl, rfl, true, ?_, iteT ?_⟩
  · rw [decide_eq_false (fun e => zn (V.str.inj e))]
    rfl
  refine ⟨_, rfl, z, rfl, fun D hD => ?_⟩
  refine lc_str (fun i H2 => Same H H2 ∧ H2 D = some (.lst ((List.replicate i true).map V.bl))) ⟨same_upd hD, upd_same⟩ ?_ ?_
  · rintro i c H2 hi ⟨s2, hD2⟩
    refine ⟨rfl, yes_ ?_⟩
    have ci := hc c (List.mem_of_getElem? hi)
    have cin : c ∈ (Str.ofString "abcdefghijklmnopqrstuvwxyz").cps.toList := by
      have : ∀ c : Nat, 97 ≤ c → c ≤ 122 → c ∈ (Str.ofString "abcdefghijklmnopqrstuvwxyz").cps.toList := fun c a b => by
        have e : (Str.ofString "abcdefghijklmnopqrstuvwxyz").cps.toList = [97, 98, 99, 100, 101, 102, 103, 104, 105, 106, 107, 108, 109, 110, 111, 112, 113, 114, 115, 116, 117, 118, 119, 120, 121, 122] := by decide +kernel
        rw [e]
        simp only [List.mem_cons, List.not_mem_nil, or_false]
        omega
      exact this c ci.1 ci.2
    refine ⟨_, rfl, c, _, rfl, rfl, _, hD2, ?_, fun p o e => ?_, ?_⟩
    · rw [List.length_map, List.length_replicate]
      have := (List.getElem?_eq_some_iff.mp hi).1
      exact small1000 (by omega)
    · rw [upd_ne (ne_of_none e hD)]
      exact s2 _ _ e
    · rw [upd_same, decide_eq_true cin, List.replicate_succ', List.map_append]
      rfl
  · rintro H2 ⟨s2, hD2⟩
    refine ⟨D, _, rfl, SqL.of hD2, ?_⟩
    rw [show (List.replicate z.cps.toList.length true).all id = true by simp]
    exact q H2 s2
theorem ok_is_name (ev : Env P K mg) : FnOk P w K mg base CX0 2 ev.f_is_name ev.d_is_name p_is_name spIsName := by
  refine ev.A_is_name.F.ok sc_is_name (fun vs H Q E h => ?_) (fun cdv A outer s H vs Q E hr h => ?_)
  · obtain ⟨z, rfl, _⟩ := h
    rfl
  obtain ⟨z, rfl, hz, q⟩ := h
  obtain ⟨⟨z1, z6⟩, hc⟩ := lowB_all hz
  refine ⟨_, (pss_one (ps_ret (pe_and (pe_cmpR op_le (pe_callB call_len_str (by rfl) ev.B.len_ PySem.boot_len (pa_cons (pv 0) pa_nil)) (pe_glob (v := .int 6) (by rfl) ev.c_LONGEST ⟨_, rfl⟩) (nomark _)) (pe_one (pe_call (ok_is_word ev) (hr.mono (by decide)) (by rfl) ev.A_is_word.m ev.A_is_word.F.kp ev.A_is_word.b .nil pass0 (pa_cons (pv 0) pa_nil)))))), ?_⟩
  have zl := len_cps z
  refine ⟨_, rfl, _, rfl, small_le (by omega), _, _, rfl, rfl, true, ?_, iteT ?_⟩
  · exact congrArg V.bl (decide_eq_true (by omega))
  exact ⟨_, rfl, z, rfl, hz, q⟩
def spWithin : Sp := fun vs H Q _ => ∃ i lo hi : Int, vs = [.int i, .int lo, .int hi] ∧ lo ≤ i ∧ i ≤ hi ∧ Q (.bl true) H
theorem ok_is_within (ev : Env P K mg) : FnOk P w K mg base CX0 1 ev.f_is_within ev.d_is_within p_is_within spWithin := by
  refine ev.A_is_within.F.ok sc_is_within (fun vs H Q E h => ?_) (fun cdv A outer s H vs Q E hr h => ?_)
  · obtain ⟨i, lo, hi, rfl, _⟩ := h
    rfl
  obtain ⟨i, lo, hi, rfl, h1, h2, q⟩ := h
  refine ⟨_, (pss_one (ps_ret (pe_and (pe_not (pe_callB call_isi (by rfl) ev.B.isinstance_ (by decide +kernel) (pa_cons (pv 0) (pa_cons (pe_bltn (v := .ty "bool") (by rfl) ev.B.bool_ (by decide +kernel) rfl) pa_nil)))) (pe_one (pe_chain op_le op_le (pv 1) (pv 0) (pv 2)))))), ?_⟩
  refine ⟨_, rfl, _, _, _, _, false, rfl, .ty _, .base (.int i), kit_ty (by decide +kernel), false, rfl, true, rfl, iteT ?_⟩
  refine ⟨_, rfl, _, rfl, _, _, rfl, rfl, true, congrArg V.bl (decide_eq_true h1), iteT ⟨_, rfl, _, _, rfl, rfl, ?_⟩⟩
  show Q (.bl (decide (i ≤ hi))) H
  rw [decide_eq_true h2]
  exact q
def spChkName : Sp := fun vs H Q _ => ∃ z : Str, vs = [.str z] ∧ lowB z = true ∧ ∀ H', Same H H' → Q .non H'
theorem ok_check_name (ev : Env P K mg) : FnOk P w K mg base CX0 3 ev.f_check_name ev.d_check_name p_check_name spChkName := by
  refine ev.A_check_name.F.ok sc_check_name (fun vs H Q E h => ?_) (fun cdv A outer s H vs Q E hr h => ?_)
  · obtain ⟨z, rfl, _⟩ := h
    rfl
  obtain ⟨z, rfl, hz, q⟩ := h
  refine ⟨_, (pss_one (ps_if (pt_not (pt_val (pe_call (ok_is_name ev) (hr.mono (by decide)) (by rfl) ev.A_is_name.m ev.A_is_name.F.kp ev.A_is_name.b .nil pass0 (pa_cons (pv 0) pa_nil))))
    (pss_one ps_never) pss_nil)), ?_⟩
  exact ⟨_, rfl, z, rfl, hz, fun H' s => ⟨true, rfl, iteF (q H' s)⟩⟩
def spChkNum : Sp := fun vs H Q _ => ∃ i lo hi : Int, vs = [.int i, .int lo, .int hi] ∧ lo ≤ i ∧ i ≤ hi ∧ Q .non H
theorem ok_check_number (ev : Env P K mg) : FnOk P w K mg base CX0 2 ev.f_check_number ev.d_check_number p_check_number spChkNum := by
  refine ev.A_check_number.F.ok sc_check_number (fun vs H Q E h => ?_) (fun cdv A outer s H vs Q E hr h => ?_)
  · obtain ⟨i, lo, hi, rfl, _⟩ := h
    rfl
  obtain ⟨i, lo, hi, rfl, h1, h2, q⟩ := h
  refine ⟨_, (pss_one (ps_if (pt_not (pt_val (pe_call (ok_is_within ev) (hr.mono (by decide)) (by rfl) ev.A_is_within.m ev.A_is_within.F.kp ev.A_is_within.b .nil pass0 (pa_cons (pv 0) (pa_cons (pv 1) (pa_cons (pv 2) pa_nil))))))
    (pss_one ps_never) pss_nil)), ?_⟩
  exact ⟨_, rfl, _, rfl, _, rfl, i, lo, hi, rfl, h1, h2, true, rfl, iteF q⟩

/-! ### the checks, mirrored where nothing is refused -/
def m_check_name (a : Str × Unit) : Option Unit := if lowB a.1 = true then some () else none
theorem ev_check_name {S T : AS} {σ : St} {H : Hp} {E : XK} {ta : TA} {r : Option (Str × Unit)} (h : EvA S T ta σ H (K := K) (aCons tStr aNil) r) : Ev S T (tCall spChkName [] E ta) σ H (of (K := K) tNone S) (bd r m_check_name) := by
  intro z e H1 f1 d Q q
  obtain ⟨x, ex, e⟩ := bd_some e
  unfold m_check_name at e
  split at e
  · rename_i c
    refine h x ex H1 f1 d _ fun vs H2 s hv => ?_
    obtain ⟨v, _, rfl, h1, rfl⟩ := hv
    exact ⟨x.1, by rw [h1.1]; rfl, c, fun H' s' => q _ H' (s.trans s') rfl⟩
  · cases e
def m_check_number (a : Int × Int × Int × Unit) : Option Unit := if a.2.1 ≤ a.1 ∧ a.1 ≤ a.2.2.1 then some () else none
theorem ev_check_number {S T : AS} {σ : St} {H : Hp} {E : XK} {ta : TA} {r : Option (Int × Int × Int × Unit)} (h : EvA S T ta σ H (K := K) (aCons tInt (aCons tInt (aCons tInt aNil))) r) : Ev S T (tCall spChkNum [] E ta) σ H (of (K := K) tNone S) (bd r m_check_number) := by
  intro z e H1 f1 d Q q
  obtain ⟨x, ex, e⟩ := bd_some e
  unfold m_check_number at e
  split at e
  · rename_i c
    refine h x ex H1 f1 d _ fun vs H2 s hv => ?_
    obtain ⟨v, _, rfl, h1, w, _, rfl, h2, u, _, rfl, h3, rfl⟩ := hv
    cases h1
    cases h2
    cases h3
    exact ⟨x.1, x.2.1, x.2.2.1, rfl, c.1, c.2, q _ H2 s rfl⟩
  · cases e

end
end G

namespace G
open PySem L2 M
section
variable {P : Program} {w : World} {K : PySem.W.Frag} {mg : Str → Option Value} {base : Heap}

abbrev Rdg : Type := Str × Str × Int × Int × Int × Unit
abbrev Mks : Type := List (Str × Option (Int × Int))
abbrev Rds : Type := List (Int × Rdg)
abbrev Sv : Type := Mks × Rds × Unit
def svT {K : PySem.W.Frag} : FT K Sv := fCons "own_marks" (tD Str (tOpt (tT2 tInt tInt))) (fCons "own_readings" (tD Int (tTu (aCons tStr (aCons tStr (aCons tInt (aCons tInt (aCons tInt aNil))))))) fNil)
def svR {K : PySem.W.Frag} : FR K (svT (K := K)) := frD "own_marks" (κ := Str) (tOpt (tT2 tInt tInt)) (frD "own_readings" (κ := Int) (tTu (aCons tStr (aCons tStr (aCons tInt (aCons tInt (aCons tInt aNil)))))) frNil)

def m_check_place (d_at : (Option (Int × Int))) : Option Unit :=
  (bd (optM d_at (some ()) fun at_1 => (bd (bd (some at_1) fun x => some [x.1, x.2]) fun xs4 => bd (loopC (ρ := Unit) (fun s_2 number_2 => (bd (bd (bd (some number_2) fun x => bd (bd (bd (some (999 : Int)) fun x => some (-x)) fun x => bd (bd (some (999 : Int)) fun x => bd (some ()) fun y => some (x, y)) fun y => some (x, y)) fun y => some (x, y)) m_check_number) fun z3 => some (Ct.go ()))) xs4 ()) fun r_2 => match r_2 with | .ret y => some y | .go t_2 => some () | .brk _ => none)) fun j5 => (some ()))
abbrev sp_check_place (K : PySem.W.Frag) : Sp := spF (K := K) (aCons (tOpt (tT2 tInt tInt)) aNil) (fun S => of (K := K) tNone S) (fun a => m_check_place a.1)
theorem ok_check_place (ev : Env P K mg) : FnOk P w K mg base CX0 3 ev.f_check_place ev.d_check_place p_check_place (sp_check_place K) := by
  refine ev.A_check_place.F.ok sc_check_place (fun vs H Q E h => ?_) (fun cdv A outer s H0 vs Q E hr h => ?_)
  · obtain ⟨S, ⟨d_at, _⟩, y, _, ⟨v_at, _, rfl, h_at, rfl⟩, _⟩ := h
    rfl
  obtain ⟨S, ⟨d_at, _⟩, y, dm, ⟨v_at, _, rfl, h_at, rfl⟩, hm, q⟩ := h
  have ts : Sub [] S := fun a m => by simp at m
  have fr0 := Fr.refl (T := []) H0
  have sub0 : Sub S S := fun a m => m
  refine ⟨_, (pss_one (ps_if (pt_cmpR op_notN (pv 0) pe_non (nomark _))
    (pss_one (ps_for PassesOwn.never rfl (pi_tup (pv 0)) (pg_name (i := 1) sc_check_place.nd rfl (Or.inl rfl))
    (pss_one (ps_expr (pe_call (ok_check_number ev) (hr.mono (by decide)) (by rfl) ev.A_check_number.m ev.A_check_number.F.kp ev.A_check_number.b .nil pass0 (pa_cons (pv 1) (pa_cons (pe_un un_neg (pe_glob (v := .int 999) (by rfl) ev.c_MOST ⟨_, rfl⟩)) (pa_cons (pe_glob (v := .int 999) (by rfl) ev.c_MOST ⟨_, rfl⟩) pa_nil)))))))) pss_nil)), ?_⟩
  dsimp only [m_check_place] at hm
  obtain ⟨j5, ej1, hm⟩ := bd_some hm
  refine seq_last (fun σ' H' => ∃ v_at : V, ∃ f_1 : Option V, σ' = [some v_at, f_1] ∧ Fr [] H0 H' ∧ Dom S H' ∧ ((tOpt (tT2 tInt tInt)) : Ty K (Option (Int × Int))).rp S H' v_at d_at) (fun σ' H' hI => ?_) (fun rest => ?_)
  · skip
    obtain ⟨v_at, f_1, rfl, fr0, dm, h_at⟩ := hI
    have er := hm
    cases er
    exact q .non _ fr0.toSame rfl
  have hm := ej1
  rcases opt_cases hm with ⟨eo1, hm⟩ | ⟨at_1, eo1, hm⟩
  · skip
    refine l_if (T := []) (b := false) dm (eb_notN (a := ((tT2 tInt tInt) : Ty K (Int × Int))) ts h_at rfl) (by rw [eo1]; rfl) (fun hc H1 s1 => by cases hc) (fun hc H1 s1 => ?_)
    have fr0 := fr0.trans (Fr.same s1)
    have dm := dm.same s1
    have h_at := ((tOpt (tT2 tInt tInt)) : Ty K (Option (Int × Int))).mono (S := S) (Fr.same s1) h_at
    cases hm
    exact rest _ _ ⟨v_at, _, rfl, fr0, dm, h_at⟩
  · skip
    refine l_if (T := []) (b := true) dm (eb_notN (a := ((tT2 tInt tInt) : Ty K (Int × Int))) ts h_at rfl) (by rw [eo1]; rfl) (fun hc H1 s1 => ?_) (fun hc H1 s1 => by cases hc)
    have fr0 := fr0.trans (Fr.same s1)
    have dm := dm.same s1
    have h_at := ((tOpt (tT2 tInt tInt)) : Ty K (Option (Int × Int))).mono (S := S) (Fr.same s1) h_at
    have h_at := opt_is (a := ((tT2 tInt tInt) : Ty K (Int × Int))) (S := S) h_at eo1
    obtain ⟨xs4, e_xs4, hm⟩ := bd_some hm
    obtain ⟨r_2, el2, hm2⟩ := bd_some hm
    refine for_s (T := []) dm (sr_t2 (ev_var ts h_at rfl)) e_xs4 el2 (fun s_2 σ' H' => ∃ v_at : V, ∃ f_1 : Option V, σ' = [some v_at, f_1] ∧ Fr [] H0 H' ∧ Dom S H' ∧ ((tT2 tInt tInt) : Ty K (Int × Int)).rp S H' v_at at_1) (fun H2 s2 => ?_) (fun hd2 s_2 number_2 cr2 v_number σ' H' hI h_number hx2 hm hret2 hbrk2 => ?_) (fun t_2 σ' H' er hI => ?_)
    · skip
      have fr0 := fr0.trans (Fr.same s2)
      have dm := dm.same s2
      have h_at := ((tT2 tInt tInt) : Ty K (Int × Int)).mono (S := S) (Fr.same s2) h_at
      exact ⟨v_at, _, rfl, fr0, dm, h_at⟩
    · skip
      obtain ⟨v_at, f_1, rfl, fr0, dm, h_at⟩ := hI
      let HL := H'
      have freshl : ∀ a ∈ S, a ∉ S → H' a = none := fun a m n => absurd m n
      have frl : Fr S HL H' := Fr.refl (T := S) H'
      have tsl := ts
      have subl : Sub S S := fun a m => m
      have h_number : (tInt : Ty K Int).rp S H' v_number number_2 := h_number
      obtain ⟨z3, e3, hm⟩ := bd_some hm
      refine l_drop (T := []) dm (ev_check_number (ea_cons (ev_var ts h_number rfl) (ea_cons (ev_neg (ev_int (K := K))) (ea_cons (ev_int (K := K)) ea_nil)))) e3 (fun v3 H3 s3 hv3 => ?_)
      have fr0 := fr0.trans (Fr.same s3)
      have dm := dm.same s3
      have frl := frl.trans (Fr.same s3)
      have h_at := ((tT2 tInt tInt) : Ty K (Int × Int)).mono (S := S) (Fr.same s3) h_at
      have h_number := (tInt : Ty K Int).mono (S := S) (Fr.same s3) h_number
      cases hm
      exact ⟨_, rfl, frl, ⟨v_at, _, rfl, fr0, dm, h_at⟩⟩
    subst er
    have hm := hm2
    obtain ⟨v_at, f_1, rfl, fr0, dm, h_at⟩ := hI
    have h_at := opt_back (a := ((tT2 tInt tInt) : Ty K (Int × Int))) (S := S) h_at eo1
    cases hm
    exact rest _ _ ⟨v_at, _, rfl, fr0, dm, h_at⟩
def m_check_reading (d_marks : (List (Str × (Option (Int × Int))))) (d_number : Int) (d_reading : (Str × Str × Int × Int × Int × Unit)) : Option Unit :=
  (bd (some d_reading) fun u_1 => (bd (bd (bd (some u_1.1) fun x => bd (some u_1.2.1) fun y => some (x, y)) fun x => some [x.1, x.2]) fun xs8 => bd (loopC (ρ := Unit) (fun s_2 name_2 => (bd (bd (some name_2) fun k => bd (some d_marks) fun d => some (!(getK d k).isSome)) fun c3 => if c3 then none else some (Ct.go ()))) xs8 ()) fun r_2 => match r_2 with | .ret y => some y | .go t_2 => (bd (bd (some u_1.1) fun x => bd (some u_1.2.1) fun y => some (decide (x = y))) fun c4 => if c4 then none else (bd (bd (bd (some u_1.2.2.1) fun x => bd (bd (bd (some (999 : Int)) fun x => some (-x)) fun x => bd (bd (some (999 : Int)) fun x => bd (some ()) fun y => some (x, y)) fun y => some (x, y)) fun y => some (x, y)) m_check_number) fun z5 => (bd (bd (bd (some u_1.2.2.2.1) fun x => bd (bd (bd (some (999 : Int)) fun x => some (-x)) fun x => bd (bd (some (999 : Int)) fun x => bd (some ()) fun y => some (x, y)) fun y => some (x, y)) fun y => some (x, y)) m_check_number) fun z6 => (bd (bd (bd (some u_1.2.2.2.2.1) fun x => bd (bd (some (1 : Int)) fun x => bd (bd (some (9 : Int)) fun x => bd (some ()) fun y => some (x, y)) fun y => some (x, y)) fun y => some (x, y)) m_check_number) fun z7 => (some ()))))) | .brk _ => none))
abbrev sp_check_reading (K : PySem.W.Frag) : Sp := spF (K := K) (aCons (tD Str (tOpt (tT2 tInt tInt))) (aCons tInt (aCons (tTu (aCons tStr (aCons tStr (aCons tInt (aCons tInt (aCons tInt aNil)))))) aNil))) (fun S => of (K := K) tNone S) (fun a => m_check_reading a.1 a.2.1 a.2.2.1)
theorem ok_check_reading (ev : Env P K mg) : FnOk P w K mg base CX0 3 ev.f_check_reading ev.d_check_reading p_check_reading (sp_check_reading K) := by
  refine ev.A_check_reading.F.ok sc_check_reading (fun vs H Q E h => ?_) (fun cdv A outer s H0 vs Q E hr h => ?_)
  · obtain ⟨S, ⟨d_marks, d_number, d_reading, _⟩, y, _, ⟨v_marks, _, rfl, h_marks, v_number, _, rfl, h_number, v_reading, _, rfl, h_reading, rfl⟩, _⟩ := h
    rfl
  obtain ⟨S, ⟨d_marks, d_number, d_reading, _⟩, y, dm, ⟨v_marks, _, rfl, h_marks, v_number, _, rfl, h_number, v_reading, _, rfl, h_reading, rfl⟩, hm, q⟩ := h
  have ts : Sub [] S := fun a m => by simp at m
  have fr0 := Fr.refl (T := []) H0
  have sub0 : Sub S S := fun a m => m
  refine ⟨_, (pss_cons (ps_asg (pv 2) (pg_tup rfl (pgs_cons (pg_name (i := 3) sc_check_reading.nd rfl (Or.inl rfl)) (pgs_cons (pg_name (i := 4) sc_check_reading.nd rfl (Or.inl rfl)) (pgs_cons (pg_name (i := 5) sc_check_reading.nd rfl (Or.inl rfl)) (pgs_cons (pg_name (i := 6) sc_check_reading.nd rfl (Or.inl rfl)) (pgs_cons (pg_name (i := 7) sc_check_reading.nd rfl (Or.inl rfl)) pgs_nil)))))))
    (pss_cons (ps_for PassesOwn.never rfl (pi_tup (pe_tup (pa_cons (pv 3) (pa_cons (pv 4) pa_nil)))) (pg_name (i := 8) sc_check_reading.nd rfl (Or.inl rfl))
    (pss_one (ps_if (pt_cmp (pc_dnotin (hu_of hr) (pv 8) (pv 0)))
    (pss_one ps_never) pss_nil)))
    (pss_cons (ps_if (pt_cmpR op_eq (pv 3) (pv 4) (nomark _))
    (pss_one ps_never) pss_nil)
    (pss_cons (ps_expr (pe_call (ok_check_number ev) (hr.mono (by decide)) (by rfl) ev.A_check_number.m ev.A_check_number.F.kp ev.A_check_number.b .nil pass0 (pa_cons (pv 5) (pa_cons (pe_un un_neg (pe_glob (v := .int 999) (by rfl) ev.c_MOST ⟨_, rfl⟩)) (pa_cons (pe_glob (v := .int 999) (by rfl) ev.c_MOST ⟨_, rfl⟩) pa_nil)))))
    (pss_cons (ps_expr (pe_call (ok_check_number ev) (hr.mono (by decide)) (by rfl) ev.A_check_number.m ev.A_check_number.F.kp ev.A_check_number.b .nil pass0 (pa_cons (pv 6) (pa_cons (pe_un un_neg (pe_glob (v := .int 999) (by rfl) ev.c_MOST ⟨_, rfl⟩)) (pa_cons (pe_glob (v := .int 999) (by rfl) ev.c_MOST ⟨_, rfl⟩) pa_nil)))))
    (pss_one (ps_expr (pe_call (ok_check_number ev) (hr.mono (by decide)) (by rfl) ev.A_check_number.m ev.A_check_number.F.kp ev.A_check_number.b .nil pass0 (pa_cons (pv 7) (pa_cons (pe_glob (v := .int 1) (by rfl) ev.c_LEAST_WEIGHT ⟨_, rfl⟩) (pa_cons (pe_glob (v := .int 9) (by rfl) ev.c_MOST_WEIGHT ⟨_, rfl⟩) pa_nil))))))))))), ?_⟩
  dsimp only [m_check_reading] at hm
  obtain ⟨u_1, e1, hm⟩ := bd_some hm
  refine q_unpTu5 (K := K) (T := []) dm (ev_var ts h_reading rfl) e1 (fun v_one v_other v_across v_up v_weight H1 s1 h_one h_other h_across h_up h_weight => ?_)
  have fr0 := fr0.trans (Fr.same s1)
  have dm := dm.same s1
  have h_marks := ((tD Str (tOpt (tT2 tInt tInt))) : Ty K (List (Str × (Option (Int × Int))))).mono (S := S) (Fr.same s1) h_marks
  have h_number := (tInt : Ty K Int).mono (S := S) (Fr.same s1) h_number
  have h_reading := ((tTu (aCons tStr (aCons tStr (aCons tInt (aCons tInt (aCons tInt aNil)))))) : Ty K (Str × Str × Int × Int × Int × Unit)).mono (S := S) (Fr.same s1) h_reading
  obtain ⟨xs8, e_xs8, hm⟩ := bd_some hm
  obtain ⟨r_2, el2, hm2⟩ := bd_some hm
  refine q_for_s (T := []) dm (sr_t2 (ev_tup2 (ev_var ts h_one rfl) (ev_var ts h_other rfl))) e_xs8 el2 (fun s_2 σ' H' => ∃ v_marks : V, ∃ v_number : V, ∃ v_reading : V, ∃ v_one : V, ∃ v_other : V, ∃ v_across : V, ∃ v_up : V, ∃ v_weight : V, ∃ f_8 : Option V, σ' = [some v_marks, some v_number, some v_reading, some v_one, some v_other, some v_across, some v_up, some v_weight, f_8] ∧ Fr [] H0 H' ∧ Dom S H' ∧ ((tD Str (tOpt (tT2 tInt tInt))) : Ty K (List (Str × (Option (Int × Int))))).rp S H' v_marks d_marks ∧ (tInt : Ty K Int).rp S H' v_number d_number ∧ ((tTu (aCons tStr (aCons tStr (aCons tInt (aCons tInt (aCons tInt aNil)))))) : Ty K (Str × Str × Int × Int × Int × Unit)).rp S H' v_reading d_reading ∧ (tStr : Ty K Str).rp S H' v_one u_1.1 ∧ (tStr : Ty K Str).rp S H' v_other u_1.2.1 ∧ (tInt : Ty K Int).rp S H' v_across u_1.2.2.1 ∧ (tInt : Ty K Int).rp S H' v_up u_1.2.2.2.1 ∧ (tInt : Ty K Int).rp S H' v_weight u_1.2.2.2.2.1) (fun H2 s2 => ?_) (fun hd2 s_2 name_2 cr2 v_name σ' H' hI h_name hx2 hm hret2 hbrk2 => ?_) (fun t_2 σ' H' er hI => ?_)
  · skip
    have fr0 := fr0.trans (Fr.same s2)
    have dm := dm.same s2
    have h_marks := ((tD Str (tOpt (tT2 tInt tInt))) : Ty K (List (Str × (Option (Int × Int))))).mono (S := S) (Fr.same s2) h_marks
    have h_number := (tInt : Ty K Int).mono (S := S) (Fr.same s2) h_number
    have h_reading := ((tTu (aCons tStr (aCons tStr (aCons tInt (aCons tInt (aCons tInt aNil)))))) : Ty K (Str × Str × Int × Int × Int × Unit)).mono (S := S) (Fr.same s2) h_reading
    have h_one := (tStr : Ty K Str).mono (S := S) (Fr.same s2) h_one
    have h_other := (tStr : Ty K Str).mono (S := S) (Fr.same s2) h_other
    have h_across := (tInt : Ty K Int).mono (S := S) (Fr.same s2) h_across
    have h_up := (tInt : Ty K Int).mono (S := S) (Fr.same s2) h_up
    have h_weight := (tInt : Ty K Int).mono (S := S) (Fr.same s2) h_weight
    exact ⟨v_marks, v_number, v_reading, v_one, v_other, v_across, v_up, v_weight, _, rfl, fr0, dm, h_marks, h_number, h_reading, h_one, h_other, h_across, h_up, h_weight⟩
  · skip
    obtain ⟨v_marks, v_number, v_reading, v_one, v_other, v_across, v_up, v_weight, f_8, rfl, fr0, dm, h_marks, h_number, h_reading, h_one, h_other, h_across, h_up, h_weight⟩ := hI
    let HL := H'
    have freshl : ∀ a ∈ S, a ∉ S → H' a = none := fun a m n => absurd m n
    have frl : Fr S HL H' := Fr.refl (T := S) H'
    have tsl := ts
    have subl : Sub S S := fun a m => m
    have h_name : (tStr : Ty K Str).rp S H' v_name name_2 := h_name
    obtain ⟨c3, e3, hm⟩ := bd_some hm
    refine l_if (T := []) dm (eb_test (K := K) (ev_dnotin (ck := (tStr : Ty K Str)) (ev_var ts h_name rfl) (ev_var ts h_marks rfl))) e3 (fun hc H3 s3 => ?_) (fun hc H3 s3 => ?_)
    · skip
      subst hc
      have hm := if_t hm
      have fr0 := fr0.trans (Fr.same s3)
      have dm := dm.same s3
      have frl := frl.trans (Fr.same s3)
      have h_marks := ((tD Str (tOpt (tT2 tInt tInt))) : Ty K (List (Str × (Option (Int × Int))))).mono (S := S) (Fr.same s3) h_marks
      have h_number := (tInt : Ty K Int).mono (S := S) (Fr.same s3) h_number
      have h_reading := ((tTu (aCons tStr (aCons tStr (aCons tInt (aCons tInt (aCons tInt aNil)))))) : Ty K (Str × Str × Int × Int × Int × Unit)).mono (S := S) (Fr.same s3) h_reading
      have h_one := (tStr : Ty K Str).mono (S := S) (Fr.same s3) h_one
      have h_other := (tStr : Ty K Str).mono (S := S) (Fr.same s3) h_other
      have h_across := (tInt : Ty K Int).mono (S := S) (Fr.same s3) h_across
      have h_up := (tInt : Ty K Int).mono (S := S) (Fr.same s3) h_up
      have h_weight := (tInt : Ty K Int).mono (S := S) (Fr.same s3) h_weight
      have h_name := (tStr : Ty K Str).mono (S := S) (Fr.same s3) h_name
      cases hm
    subst hc
    have hm := if_f hm
    have fr0 := fr0.trans (Fr.same s3)
    have dm := dm.same s3
    have frl := frl.trans (Fr.same s3)
    have h_marks := ((tD Str (tOpt (tT2 tInt tInt))) : Ty K (List (Str × (Option (Int × Int))))).mono (S := S) (Fr.same s3) h_marks
    have h_number := (tInt : Ty K Int).mono (S := S) (Fr.same s3) h_number
    have h_reading := ((tTu (aCons tStr (aCons tStr (aCons tInt (aCons tInt (aCons tInt aNil)))))) : Ty K (Str × Str × Int × Int × Int × Unit)).mono (S := S) (Fr.same s3) h_reading
    have h_one := (tStr : Ty K Str).mono (S := S) (Fr.same s3) h_one
    have h_other := (tStr : Ty K Str).mono (S := S) (Fr.same s3) h_other
    have h_across := (tInt : Ty K Int).mono (S := S) (Fr.same s3) h_across
    have h_up := (tInt : Ty K Int).mono (S := S) (Fr.same s3) h_up
    have h_weight := (tInt : Ty K Int).mono (S := S) (Fr.same s3) h_weight
    have h_name := (tStr : Ty K Str).mono (S := S) (Fr.same s3) h_name
    refine l_next ?_
    cases hm
    exact ⟨_, rfl, frl, ⟨v_marks, v_number, v_reading, v_one, v_other, v_across, v_up, v_weight, _, rfl, fr0, dm, h_marks, h_number, h_reading, h_one, h_other, h_across, h_up, h_weight⟩⟩
  subst er
  have hm := hm2
  obtain ⟨v_marks, v_number, v_reading, v_one, v_other, v_across, v_up, v_weight, f_8, rfl, fr0, dm, h_marks, h_number, h_reading, h_one, h_other, h_across, h_up, h_weight⟩ := hI
  obtain ⟨c4, e4, hm⟩ := bd_some hm
  refine q_if (T := []) dm (eb_test (K := K) (ev_op (od_eqS (K := K)) (ev_var ts h_one rfl) (ev_var ts h_other rfl))) e4 (fun hc H4 s4 => ?_) (fun hc H4 s4 => ?_)
  · skip
    subst hc
    have hm := if_t hm
    have fr0 := fr0.trans (Fr.same s4)
    have dm := dm.same s4
    have h_marks := ((tD Str (tOpt (tT2 tInt tInt))) : Ty K (List (Str × (Option (Int × Int))))).mono (S := S) (Fr.same s4) h_marks
    have h_number := (tInt : Ty K Int).mono (S := S) (Fr.same s4) h_number
    have h_reading := ((tTu (aCons tStr (aCons tStr (aCons tInt (aCons tInt (aCons tInt aNil)))))) : Ty K (Str × Str × Int × Int × Int × Unit)).mono (S := S) (Fr.same s4) h_reading
    have h_one := (tStr : Ty K Str).mono (S := S) (Fr.same s4) h_one
    have h_other := (tStr : Ty K Str).mono (S := S) (Fr.same s4) h_other
    have h_across := (tInt : Ty K Int).mono (S := S) (Fr.same s4) h_across
    have h_up := (tInt : Ty K Int).mono (S := S) (Fr.same s4) h_up
    have h_weight := (tInt : Ty K Int).mono (S := S) (Fr.same s4) h_weight
    cases hm
  subst hc
  have hm := if_f hm
  have fr0 := fr0.trans (Fr.same s4)
  have dm := dm.same s4
  have h_marks := ((tD Str (tOpt (tT2 tInt tInt))) : Ty K (List (Str × (Option (Int × Int))))).mono (S := S) (Fr.same s4) h_marks
  have h_number := (tInt : Ty K Int).mono (S := S) (Fr.same s4) h_number
  have h_reading := ((tTu (aCons tStr (aCons tStr (aCons tInt (aCons tInt (aCons tInt aNil)))))) : Ty K (Str × Str × Int × Int × Int × Unit)).mono (S := S) (Fr.same s4) h_reading
  have h_one := (tStr : Ty K Str).mono (S := S) (Fr.same s4) h_one
  have h_other := (tStr : Ty K Str).mono (S := S) (Fr.same s4) h_other
  have h_across := (tInt : Ty K Int).mono (S := S) (Fr.same s4) h_across
  have h_up := (tInt : Ty K Int).mono (S := S) (Fr.same s4) h_up
  have h_weight := (tInt : Ty K Int).mono (S := S) (Fr.same s4) h_weight
  refine q_next ?_
  obtain ⟨z5, e5, hm⟩ := bd_some hm
  refine q_drop (T := []) dm (ev_check_number (ea_cons (ev_var ts h_across rfl) (ea_cons (ev_neg (ev_int (K := K))) (ea_cons (ev_int (K := K)) ea_nil)))) e5 (fun v5 H5 s5 hv5 => ?_)
  have fr0 := fr0.trans (Fr.same s5)
  have dm := dm.same s5
  have h_marks := ((tD Str (tOpt (tT2 tInt tInt))) : Ty K (List (Str × (Option (Int × Int))))).mono (S := S) (Fr.same s5) h_marks
  have h_number := (tInt : Ty K Int).mono (S := S) (Fr.same s5) h_number
  have h_reading := ((tTu (aCons tStr (aCons tStr (aCons tInt (aCons tInt (aCons tInt aNil)))))) : Ty K (Str × Str × Int × Int × Int × Unit)).mono (S := S) (Fr.same s5) h_reading
  have h_one := (tStr : Ty K Str).mono (S := S) (Fr.same s5) h_one
  have h_other := (tStr : Ty K Str).mono (S := S) (Fr.same s5) h_other
  have h_across := (tInt : Ty K Int).mono (S := S) (Fr.same s5) h_across
  have h_up := (tInt : Ty K Int).mono (S := S) (Fr.same s5) h_up
  have h_weight := (tInt : Ty K Int).mono (S := S) (Fr.same s5) h_weight
  obtain ⟨z6, e6, hm⟩ := bd_some hm
  refine q_drop (T := []) dm (ev_check_number (ea_cons (ev_var ts h_up rfl) (ea_cons (ev_neg (ev_int (K := K))) (ea_cons (ev_int (K := K)) ea_nil)))) e6 (fun v6 H6 s6 hv6 => ?_)
  have fr0 := fr0.trans (Fr.same s6)
  have dm := dm.same s6
  have h_marks := ((tD Str (tOpt (tT2 tInt tInt))) : Ty K (List (Str × (Option (Int × Int))))).mono (S := S) (Fr.same s6) h_marks
  have h_number := (tInt : Ty K Int).mono (S := S) (Fr.same s6) h_number
  have h_reading := ((tTu (aCons tStr (aCons tStr (aCons tInt (aCons tInt (aCons tInt aNil)))))) : Ty K (Str × Str × Int × Int × Int × Unit)).mono (S := S) (Fr.same s6) h_reading
  have h_one := (tStr : Ty K Str).mono (S := S) (Fr.same s6) h_one
  have h_other := (tStr : Ty K Str).mono (S := S) (Fr.same s6) h_other
  have h_across := (tInt : Ty K Int).mono (S := S) (Fr.same s6) h_across
  have h_up := (tInt : Ty K Int).mono (S := S) (Fr.same s6) h_up
  have h_weight := (tInt : Ty K Int).mono (S := S) (Fr.same s6) h_weight
  obtain ⟨z7, e7, hm⟩ := bd_some hm
  refine l_drop (T := []) dm (ev_check_number (ea_cons (ev_var ts h_weight rfl) (ea_cons (ev_int (K := K)) (ea_cons (ev_int (K := K)) ea_nil)))) e7 (fun v7 H7 s7 hv7 => ?_)
  have fr0 := fr0.trans (Fr.same s7)
  have dm := dm.same s7
  have h_marks := ((tD Str (tOpt (tT2 tInt tInt))) : Ty K (List (Str × (Option (Int × Int))))).mono (S := S) (Fr.same s7) h_marks
  have h_number := (tInt : Ty K Int).mono (S := S) (Fr.same s7) h_number
  have h_reading := ((tTu (aCons tStr (aCons tStr (aCons tInt (aCons tInt (aCons tInt aNil)))))) : Ty K (Str × Str × Int × Int × Int × Unit)).mono (S := S) (Fr.same s7) h_reading
  have h_one := (tStr : Ty K Str).mono (S := S) (Fr.same s7) h_one
  have h_other := (tStr : Ty K Str).mono (S := S) (Fr.same s7) h_other
  have h_across := (tInt : Ty K Int).mono (S := S) (Fr.same s7) h_across
  have h_up := (tInt : Ty K Int).mono (S := S) (Fr.same s7) h_up
  have h_weight := (tInt : Ty K Int).mono (S := S) (Fr.same s7) h_weight
  have er := hm
  cases er
  exact q .non _ fr0.toSame rfl
end
end G

namespace G
open PySem L2 M
section
variable {P : Program} {w : World} {K : PySem.W.Frag} {mg : Str → Option Value} {base : Heap}

def m_Survey___init__ (d_marks : (List (Str × (Option (Int × Int))))) (d_readings : (List (Int × (Str × Str × Int × Int × Int × Unit)))) : Option Sv :=
  (bd (bd (some d_marks) ksS?) fun xs9 => bd (loopC (ρ := Sv) (fun s_1 name_1 => (bd (bd (bd (some name_1) fun x => bd (some ()) fun y => some (x, y)) m_check_name) fun z2 => (bd (bd (bd (bd (some d_marks) fun d => bd (some name_1) fun k => getK d k) fun x => bd (some ()) fun y => some (x, y)) fun a => m_check_place a.1) fun z3 => some (Ct.go ())))) xs9 ()) fun r_1 => match r_1 with | .ret y => some y | .go t_1 => (bd (bd (some d_readings) ksI?) fun xs8 => bd (loopC (ρ := Sv) (fun s_4 number_4 => (bd (bd (bd (some d_marks) fun x => bd (bd (some number_4) fun x => bd (bd (bd (some d_readings) fun d => bd (some number_4) fun k => getK d k) fun x => bd (some ()) fun y => some (x, y)) fun y => some (x, y)) fun y => some (x, y)) fun a => m_check_reading a.1 a.2.1 a.2.2.1) fun z5 => some (Ct.go ()))) xs8 ()) fun r_4 => match r_4 with | .ret y => some y | .go t_4 => (bd (bd (bd (some d_marks) ksS?) fun xs => dcL? (fun name_6 => (some name_6)) (fun name_6 => (bd (some d_marks) fun d => bd (some name_6) fun k => getK d k)) xs) fun y0 => (bd (bd (bd (some d_readings) ksI?) fun xs => dcL? (fun number_7 => (some number_7)) (fun number_7 => (bd (some d_readings) fun d => bd (some number_7) fun k => getK d k)) xs) fun y1 => some (y0, y1, ()))) | .brk _ => none) | .brk _ => none)
abbrev sp_Survey___init__ (K : PySem.W.Frag) (CS : Addr) : Sp := spInitN (K := K) CS (aCons (tD Str (tOpt (tT2 tInt tInt))) (aCons (tD Int (tTu (aCons tStr (aCons tStr (aCons tInt (aCons tInt (aCons tInt aNil))))))) aNil)) svR (fun a => m_Survey___init__ a.1 a.2.1)
theorem ok_Survey___init__ (ev : Env P K mg) : FnOk P w K mg base CX0 4 ev.f_Survey___init__ ev.d_Survey___init__ p_Survey___init__ (sp_Survey___init__ K ev.C_Survey) := by
  refine ev.A_Survey___init__.F.ok sc_Survey___init__ (fun vs H Q E h => ?_) (fun cdv A outer s H0 vs Q E hr h => ?_)
  · obtain ⟨S, p, dx, ws, ⟨d_marks, d_readings, _⟩, y, rfl, _, _, ⟨v_marks, _, rfl, h_marks, v_readings, _, rfl, h_readings, rfl⟩, _⟩ := h
    rfl
  obtain ⟨S, p, dx, ws, ⟨d_marks, d_readings, _⟩, y, rfl, hp0, dm, ⟨v_marks, _, rfl, h_marks, v_readings, _, rfl, h_readings, rfl⟩, hm, q⟩ := h
  have ts : Sub [] (p :: S) := fun a m => by simp at m
  have fr0 := Fr.refl (T := []) H0
  have h_self : (tRef (K := K) p).rp (p :: S) H0 (.ref p) () := ⟨rfl, rfl⟩
  refine ⟨_, (pss_cons (ps_for PassesOwn.never rfl (pi_list (pe_callB (cr_srtD rfl) (by rfl) ev.B.sorted_ (by decide +kernel) (pa_cons (pv 1) pa_nil))) (pg_name (i := 3) sc_Survey___init__.nd rfl (Or.inl rfl))
    (pss_cons (ps_expr (pe_call (ok_check_name ev) (hr.mono (by decide)) (by rfl) ev.A_check_name.m ev.A_check_name.F.kp ev.A_check_name.b .nil pass0 (pa_cons (pv 3) pa_nil)))
    (pss_one (ps_expr (pe_call (ok_check_place ev) (hr.mono (by decide)) (by rfl) ev.A_check_place.m ev.A_check_place.F.kp ev.A_check_place.b .nil pass0 (pa_cons (pe_dget (hu_of hr) (pv 1) (pv 3) (fun _ _ => rfl)) pa_nil))))))
    (pss_cons (ps_for PassesOwn.never rfl (pi_list (pe_callB (cr_srtDI rfl) (by rfl) ev.B.sorted_ (by decide +kernel) (pa_cons (pv 2) pa_nil))) (pg_name (i := 4) sc_Survey___init__.nd rfl (Or.inl rfl))
    (pss_one (ps_expr (pe_call (ok_check_reading ev) (hr.mono (by decide)) (by rfl) ev.A_check_reading.m ev.A_check_reading.F.kp ev.A_check_reading.b .nil pass0 (pa_cons (pv 1) (pa_cons (pv 4) (pa_cons (pe_dget (hu_of hr) (pv 2) (pv 4) (fun _ _ => rfl)) pa_nil)))))))
    (pss_cons (ps_fld (pv 0) (pe_dc (own := [("name", 3)]) (g := gName 3) (tt := tYes) (by rfl) sc_Survey___init__.nd (pi_list (pe_callB (cr_srtD rfl) (by rfl) ev.B.sorted_ (by decide +kernel) (pa_cons (pv 1) pa_nil))) (blkOk_by (own := [("name", 3)]) (N := n_Survey___init__) (sc := defScope s_Survey___init__) (by decide +kernel)) (fun _ _ _ _ _ => pg_name (i := 3) sc_Survey___init__.nd rfl (Or.inl rfl)) (fun _ _ _ _ _ => pts_nil) (fun _ _ _ _ _ => (pv 3)) (fun _ _ _ _ _ => (pe_dget (hu_of hr) (pv 1) (pv 3) (fun _ _ => rfl)))) rfl)
    (pss_one (ps_fld (pv 0) (pe_dc (own := [("number", 4)]) (g := gName 4) (tt := tYes) (by rfl) sc_Survey___init__.nd (pi_list (pe_callB (cr_srtDI rfl) (by rfl) ev.B.sorted_ (by decide +kernel) (pa_cons (pv 2) pa_nil))) (blkOk_by (own := [("number", 4)]) (N := n_Survey___init__) (sc := defScope s_Survey___init__) (by decide +kernel)) (fun _ _ _ _ _ => pg_name (i := 4) sc_Survey___init__.nd rfl (Or.inl rfl)) (fun _ _ _ _ _ => pts_nil) (fun _ _ _ _ _ => (pv 4)) (fun _ _ _ _ _ => (pe_dget (hu_of hr) (pv 2) (pv 4) (fun _ _ => rfl)))) rfl))))), ?_⟩
  dsimp only [m_Survey___init__] at hm
  obtain ⟨xs9, e_xs9, hm⟩ := bd_some hm
  obtain ⟨r_1, el1, hm1⟩ := bd_some hm
  refine q_for_s (T := []) dm (sr_list (ev_new (ev_srtD (ev_var ts h_marks rfl)))) e_xs9 el1 (fun s_1 σ' H' => ∃ v_marks : V, ∃ v_readings : V, ∃ f_3 : Option V, ∃ f_4 : Option V, σ' = [some (.ref p), some v_marks, some v_readings, f_3, f_4] ∧ Fr [] H0 H' ∧ Dom (p :: S) H' ∧ ((tRef p) : Ty K Unit).rp (p :: S) H' (.ref p) () ∧ ((tD Str (tOpt (tT2 tInt tInt))) : Ty K (List (Str × (Option (Int × Int))))).rp (p :: S) H' v_marks d_marks ∧ ((tD Int (tTu (aCons tStr (aCons tStr (aCons tInt (aCons tInt (aCons tInt aNil))))))) : Ty K (List (Int × (Str × Str × Int × Int × Int × Unit)))).rp (p :: S) H' v_readings d_readings) (fun H1 s1 => ?_) (fun hd1 s_1 name_1 cr1 v_name σ' H' hI h_name hx1 hm hret1 hbrk1 => ?_) (fun t_1 σ' H' er hI => ?_)
  · skip
    have fr0 := fr0.trans (Fr.same s1)
    have dm := dm.same s1
    have h_self := ((tRef p) : Ty K Unit).mono (S := (p :: S)) (Fr.same s1) h_self
    have h_marks := ((tD Str (tOpt (tT2 tInt tInt))) : Ty K (List (Str × (Option (Int × Int))))).mono (S := (p :: S)) (Fr.same s1) h_marks
    have h_readings := ((tD Int (tTu (aCons tStr (aCons tStr (aCons tInt (aCons tInt (aCons tInt aNil))))))) : Ty K (List (Int × (Str × Str × Int × Int × Int × Unit)))).mono (S := (p :: S)) (Fr.same s1) h_readings
    exact ⟨v_marks, v_readings, _, _, rfl, fr0, dm, h_self, h_marks, h_readings⟩
  · skip
    obtain ⟨v_marks, v_readings, f_3, f_4, rfl, fr0, dm, h_self, h_marks, h_readings⟩ := hI
    let HL := H'
    have freshl : ∀ a ∈ (p :: S), a ∉ (p :: S) → H' a = none := fun a m n => absurd m n
    have frl : Fr (p :: S) HL H' := Fr.refl (T := (p :: S)) H'
    have tsl := ts
    have subl : Sub (p :: S) (p :: S) := fun a m => m
    have h_name : (tStr : Ty K Str).rp (p :: S) H' v_name name_1 := h_name
    obtain ⟨z2, e2, hm⟩ := bd_some hm
    refine q_drop (T := []) dm (ev_check_name (ea_cons (ev_var ts h_name rfl) ea_nil)) e2 (fun v2 H2 s2 hv2 => ?_)
    have fr0 := fr0.trans (Fr.same s2)
    have dm := dm.same s2
    have frl := frl.trans (Fr.same s2)
    have h_self := ((tRef p) : Ty K Unit).mono (S := (p :: S)) (Fr.same s2) h_self
    have h_marks := ((tD Str (tOpt (tT2 tInt tInt))) : Ty K (List (Str × (Option (Int × Int))))).mono (S := (p :: S)) (Fr.same s2) h_marks
    have h_readings := ((tD Int (tTu (aCons tStr (aCons tStr (aCons tInt (aCons tInt (aCons tInt aNil))))))) : Ty K (List (Int × (Str × Str × Int × Int × Int × Unit)))).mono (S := (p :: S)) (Fr.same s2) h_readings
    have h_name := (tStr : Ty K Str).mono (S := (p :: S)) (Fr.same s2) h_name
    obtain ⟨z3, e3, hm⟩ := bd_some hm
    refine l_drop (T := []) dm (ev_call (ea_cons (ev_dget (ck := (tStr : Ty K Str)) (ev_var ts h_marks rfl) (ev_var ts h_name rfl)) ea_nil)) e3 (fun v3 H3 s3 hv3 => ?_)
    have fr0 := fr0.trans (Fr.same s3)
    have dm := dm.same s3
    have frl := frl.trans (Fr.same s3)
    have h_self := ((tRef p) : Ty K Unit).mono (S := (p :: S)) (Fr.same s3) h_self
    have h_marks := ((tD Str (tOpt (tT2 tInt tInt))) : Ty K (List (Str × (Option (Int × Int))))).mono (S := (p :: S)) (Fr.same s3) h_marks
    have h_readings := ((tD Int (tTu (aCons tStr (aCons tStr (aCons tInt (aCons tInt (aCons tInt aNil))))))) : Ty K (List (Int × (Str × Str × Int × Int × Int × Unit)))).mono (S := (p :: S)) (Fr.same s3) h_readings
    have h_name := (tStr : Ty K Str).mono (S := (p :: S)) (Fr.same s3) h_name
    cases hm
    exact ⟨_, rfl, frl, ⟨v_marks, v_readings, _, _, rfl, fr0, dm, h_self, h_marks, h_readings⟩⟩
  subst er
  have hm := hm1
  obtain ⟨v_marks, v_readings, f_3, f_4, rfl, fr0, dm, h_self, h_marks, h_readings⟩ := hI
  obtain ⟨xs8, e_xs8, hm⟩ := bd_some hm
  obtain ⟨r_4, el4, hm4⟩ := bd_some hm
  refine q_for_s (T := []) dm (sr_list (ev_new (ev_srtDI (ev_var ts h_readings rfl)))) e_xs8 el4 (fun s_4 σ' H' => ∃ v_marks : V, ∃ v_readings : V, ∃ f_3 : Option V, ∃ f_4 : Option V, σ' = [some (.ref p), some v_marks, some v_readings, f_3, f_4] ∧ Fr [] H0 H' ∧ Dom (p :: S) H' ∧ ((tRef p) : Ty K Unit).rp (p :: S) H' (.ref p) () ∧ ((tD Str (tOpt (tT2 tInt tInt))) : Ty K (List (Str × (Option (Int × Int))))).rp (p :: S) H' v_marks d_marks ∧ ((tD Int (tTu (aCons tStr (aCons tStr (aCons tInt (aCons tInt (aCons tInt aNil))))))) : Ty K (List (Int × (Str × Str × Int × Int × Int × Unit)))).rp (p :: S) H' v_readings d_readings) (fun H4 s4 => ?_) (fun hd4 s_4 number_4 cr4 v_number σ' H' hI h_number hx4 hm hret4 hbrk4 => ?_) (fun t_4 σ' H' er hI => ?_)
  · skip
    have fr0 := fr0.trans (Fr.same s4)
    have dm := dm.same s4
    have h_self := ((tRef p) : Ty K Unit).mono (S := (p :: S)) (Fr.same s4) h_self
    have h_marks := ((tD Str (tOpt (tT2 tInt tInt))) : Ty K (List (Str × (Option (Int × Int))))).mono (S := (p :: S)) (Fr.same s4) h_marks
    have h_readings := ((tD Int (tTu (aCons tStr (aCons tStr (aCons tInt (aCons tInt (aCons tInt aNil))))))) : Ty K (List (Int × (Str × Str × Int × Int × Int × Unit)))).mono (S := (p :: S)) (Fr.same s4) h_readings
    exact ⟨v_marks, v_readings, _, _, rfl, fr0, dm, h_self, h_marks, h_readings⟩
  · skip
    obtain ⟨v_marks, v_readings, f_3, f_4, rfl, fr0, dm, h_self, h_marks, h_readings⟩ := hI
    let HL := H'
    have freshl : ∀ a ∈ (p :: S), a ∉ (p :: S) → H' a = none := fun a m n => absurd m n
    have frl : Fr (p :: S) HL H' := Fr.refl (T := (p :: S)) H'
    have tsl := ts
    have subl : Sub (p :: S) (p :: S) := fun a m => m
    have h_number : (tInt : Ty K Int).rp (p :: S) H' v_number number_4 := h_number
    obtain ⟨z5, e5, hm⟩ := bd_some hm
    refine l_drop (T := []) dm (ev_call (ea_cons (ev_var ts h_marks rfl) (ea_cons (ev_var ts h_number rfl) (ea_cons (ev_dget (ck := (tInt : Ty K Int)) (ev_var ts h_readings rfl) (ev_var ts h_number rfl)) ea_nil)))) e5 (fun v5 H5 s5 hv5 => ?_)
    have fr0 := fr0.trans (Fr.same s5)
    have dm := dm.same s5
    have frl := frl.trans (Fr.same s5)
    have h_self := ((tRef p) : Ty K Unit).mono (S := (p :: S)) (Fr.same s5) h_self
    have h_marks := ((tD Str (tOpt (tT2 tInt tInt))) : Ty K (List (Str × (Option (Int × Int))))).mono (S := (p :: S)) (Fr.same s5) h_marks
    have h_readings := ((tD Int (tTu (aCons tStr (aCons tStr (aCons tInt (aCons tInt (aCons tInt aNil))))))) : Ty K (List (Int × (Str × Str × Int × Int × Int × Unit)))).mono (S := (p :: S)) (Fr.same s5) h_readings
    have h_number := (tInt : Ty K Int).mono (S := (p :: S)) (Fr.same s5) h_number
    cases hm
    exact ⟨_, rfl, frl, ⟨v_marks, v_readings, _, _, rfl, fr0, dm, h_self, h_marks, h_readings⟩⟩
  subst er
  have hm := hm4
  obtain ⟨v_marks, v_readings, f_3, f_4, rfl, fr0, dm, h_self, h_marks, h_readings⟩ := hI
  have im : p ∈ p :: S := List.mem_cons_self ..
  have hp := fr0 _ _ hp0 (by simp)
  obtain ⟨y0, e0, hm⟩ := bd_some hm
  obtain ⟨y1, e1, hm⟩ := bd_some hm
  cases hm
  refine q_fldD dm im hp rfl ev.cl_Survey ev.n_own_marks (Nat.lt_of_lt_of_le (show ([] : List (Str × V)).length < 1 from Nat.one_pos) (by decide)) (ev_dc (ck := (tStr : Ty K Str)) (sr_list (ev_new (ev_srtD (ev_var ts h_marks rfl)))) (fun v => by rfl) (fun name_6 v_name H2' H' p' fr' nD' sm' h_name => by have h_self := ((tRef p) : Ty K Unit).mono (Fr.same sm') (((tRef p) : Ty K Unit).ext (S := (p :: S)) nD' (((tRef p) : Ty K Unit).mono (Fr.sub ts fr') h_self)); have h_marks := ((tD Str (tOpt (tT2 tInt tInt))) : Ty K (List (Str × (Option (Int × Int))))).mono (Fr.same sm') (((tD Str (tOpt (tT2 tInt tInt))) : Ty K (List (Str × (Option (Int × Int))))).ext (S := (p :: S)) nD' (((tD Str (tOpt (tT2 tInt tInt))) : Ty K (List (Str × (Option (Int × Int))))).mono (Fr.sub ts fr') h_marks)); have h_readings := ((tD Int (tTu (aCons tStr (aCons tStr (aCons tInt (aCons tInt (aCons tInt aNil))))))) : Ty K (List (Int × (Str × Str × Int × Int × Int × Unit)))).mono (Fr.same sm') (((tD Int (tTu (aCons tStr (aCons tStr (aCons tInt (aCons tInt (aCons tInt aNil))))))) : Ty K (List (Int × (Str × Str × Int × Int × Int × Unit)))).ext (S := (p :: S)) nD' (((tD Int (tTu (aCons tStr (aCons tStr (aCons tInt (aCons tInt (aCons tInt aNil))))))) : Ty K (List (Int × (Str × Str × Int × Int × Int × Unit)))).mono (Fr.sub ts fr') h_readings)); have ts0' := ts; have ts : Sub [] (p' :: (p :: S)) := (fun a m => by simp at m);  exact (ev_var ts h_name rfl)) (fun name_6 v_name H2' H' p' fr' nD' sm' h_name => by have h_self := ((tRef p) : Ty K Unit).mono (Fr.same sm') (((tRef p) : Ty K Unit).ext (S := (p :: S)) nD' (((tRef p) : Ty K Unit).mono (Fr.sub ts fr') h_self)); have h_marks := ((tD Str (tOpt (tT2 tInt tInt))) : Ty K (List (Str × (Option (Int × Int))))).mono (Fr.same sm') (((tD Str (tOpt (tT2 tInt tInt))) : Ty K (List (Str × (Option (Int × Int))))).ext (S := (p :: S)) nD' (((tD Str (tOpt (tT2 tInt tInt))) : Ty K (List (Str × (Option (Int × Int))))).mono (Fr.sub ts fr') h_marks)); have h_readings := ((tD Int (tTu (aCons tStr (aCons tStr (aCons tInt (aCons tInt (aCons tInt aNil))))))) : Ty K (List (Int × (Str × Str × Int × Int × Int × Unit)))).mono (Fr.same sm') (((tD Int (tTu (aCons tStr (aCons tStr (aCons tInt (aCons tInt (aCons tInt aNil))))))) : Ty K (List (Int × (Str × Str × Int × Int × Int × Unit)))).ext (S := (p :: S)) nD' (((tD Int (tTu (aCons tStr (aCons tStr (aCons tInt (aCons tInt (aCons tInt aNil))))))) : Ty K (List (Int × (Str × Str × Int × Int × Int × Unit)))).mono (Fr.sub ts fr') h_readings)); have ts0' := ts; have ts : Sub [] (p' :: (p :: S)) := (fun a m => by simp at m);  exact (ev_dget (ck := (tStr : Ty K Str)) (ev_var ts h_marks rfl) (ev_var ts h_name rfl)))) e0 (fun Hf1 w_0 f1 k1 dm hp nw_0 np_0 g_0 => ?_)
  have h_marks := ((tD Str (tOpt (tT2 tInt tInt))) : Ty K (List (Str × (Option (Int × Int))))).mono f1 h_marks
  have h_readings := ((tD Int (tTu (aCons tStr (aCons tStr (aCons tInt (aCons tInt (aCons tInt aNil))))))) : Ty K (List (Int × (Str × Str × Int × Int × Int × Unit)))).mono f1 h_readings
  refine l_fldD dm im hp rfl ev.cl_Survey ev.n_own_readings (Nat.lt_of_lt_of_le (putF_lt (show ([] : List (Str × V)).length < 1 from Nat.one_pos)) (by decide)) (ev_dc (ck := (tInt : Ty K Int)) (sr_list (ev_new (ev_srtDI (ev_var ts h_readings rfl)))) (fun v => by rfl) (fun number_7 v_number H2' H' p' fr' nD' sm' h_number => by have h_self := ((tRef p) : Ty K Unit).mono (Fr.same sm') (((tRef p) : Ty K Unit).ext (S := (p :: S)) nD' (((tRef p) : Ty K Unit).mono (Fr.sub ts fr') h_self)); have h_marks := ((tD Str (tOpt (tT2 tInt tInt))) : Ty K (List (Str × (Option (Int × Int))))).mono (Fr.same sm') (((tD Str (tOpt (tT2 tInt tInt))) : Ty K (List (Str × (Option (Int × Int))))).ext (S := (p :: S)) nD' (((tD Str (tOpt (tT2 tInt tInt))) : Ty K (List (Str × (Option (Int × Int))))).mono (Fr.sub ts fr') h_marks)); have h_readings := ((tD Int (tTu (aCons tStr (aCons tStr (aCons tInt (aCons tInt (aCons tInt aNil))))))) : Ty K (List (Int × (Str × Str × Int × Int × Int × Unit)))).mono (Fr.same sm') (((tD Int (tTu (aCons tStr (aCons tStr (aCons tInt (aCons tInt (aCons tInt aNil))))))) : Ty K (List (Int × (Str × Str × Int × Int × Int × Unit)))).ext (S := (p :: S)) nD' (((tD Int (tTu (aCons tStr (aCons tStr (aCons tInt (aCons tInt (aCons tInt aNil))))))) : Ty K (List (Int × (Str × Str × Int × Int × Int × Unit)))).mono (Fr.sub ts fr') h_readings)); have ts0' := ts; have ts : Sub [] (p' :: (p :: S)) := (fun a m => by simp at m);  exact (ev_var ts h_number rfl)) (fun number_7 v_number H2' H' p' fr' nD' sm' h_number => by have h_self := ((tRef p) : Ty K Unit).mono (Fr.same sm') (((tRef p) : Ty K Unit).ext (S := (p :: S)) nD' (((tRef p) : Ty K Unit).mono (Fr.sub ts fr') h_self)); have h_marks := ((tD Str (tOpt (tT2 tInt tInt))) : Ty K (List (Str × (Option (Int × Int))))).mono (Fr.same sm') (((tD Str (tOpt (tT2 tInt tInt))) : Ty K (List (Str × (Option (Int × Int))))).ext (S := (p :: S)) nD' (((tD Str (tOpt (tT2 tInt tInt))) : Ty K (List (Str × (Option (Int × Int))))).mono (Fr.sub ts fr') h_marks)); have h_readings := ((tD Int (tTu (aCons tStr (aCons tStr (aCons tInt (aCons tInt (aCons tInt aNil))))))) : Ty K (List (Int × (Str × Str × Int × Int × Int × Unit)))).mono (Fr.same sm') (((tD Int (tTu (aCons tStr (aCons tStr (aCons tInt (aCons tInt (aCons tInt aNil))))))) : Ty K (List (Int × (Str × Str × Int × Int × Int × Unit)))).ext (S := (p :: S)) nD' (((tD Int (tTu (aCons tStr (aCons tStr (aCons tInt (aCons tInt (aCons tInt aNil))))))) : Ty K (List (Int × (Str × Str × Int × Int × Int × Unit)))).mono (Fr.sub ts fr') h_readings)); have ts0' := ts; have ts : Sub [] (p' :: (p :: S)) := (fun a m => by simp at m);  exact (ev_dget (ck := (tInt : Ty K Int)) (ev_var ts h_readings rfl) (ev_var ts h_number rfl)))) e1 (fun Hf2 w_1 f2 k2 dm hp nw_1 np_1 g_1 => ?_)
  have h_marks := ((tD Str (tOpt (tT2 tInt tInt))) : Ty K (List (Str × (Option (Int × Int))))).mono f2 h_marks
  have h_readings := ((tD Int (tTu (aCons tStr (aCons tStr (aCons tInt (aCons tInt (aCons tInt aNil))))))) : Ty K (List (Int × (Str × Str × Int × Int × Int × Unit)))).mono f2 h_readings
  have g_0 := OwnD.kp f2 k2 np_0 g_0
  refine q Hf2 _ (fun q o eq n => (k2 _ _ (k1 _ _ (fr0 _ _ eq (by simp)) n) n)) hp ?_
  repeat rw [putF_nil]; repeat rw [putF_ne (by decide +kernel)]; repeat rw [putF_nil]; repeat rw [putF_ne (by decide +kernel)]; repeat rw [putF_nil]
  exact ⟨w_0, _, rfl, fr_back fr0 Dom.nil nw_0, g_0.sub (sub_keep (fun a m => List.mem_cons_of_mem _ m)), w_1, _, rfl, fresh_b fr0 (fun q o eq n => (k1 _ _ eq n)) nw_1 np_1, g_1.sub (sub_keep (fun a m => List.mem_cons_of_mem _ m)), rfl⟩
end
end G

namespace G
open PySem L2 M
section
variable {P : Program} {w : World} {K : PySem.W.Frag} {mg : Str → Option Value} {base : Heap}

def m_Survey_names (d_self : Sv) : Option (List Str) :=
  (bd (bd (some d_self) fun x => some x.1) ksS?)
abbrev sp_Survey_names (K : PySem.W.Frag) (CS : Addr) : Sp := spF (K := K) (aCons (tO CS svT) aNil) (fun S => nw (K := K) tStr S) (fun a => m_Survey_names a.1)
theorem ok_Survey_names (ev : Env P K mg) : FnOk P w K mg base CX0 1 ev.f_Survey_names ev.d_Survey_names p_Survey_names (sp_Survey_names K ev.C_Survey) := by
  refine ev.A_Survey_names.F.ok sc_Survey_names (fun vs H Q E h => ?_) (fun cdv A outer s H0 vs Q E hr h => ?_)
  · obtain ⟨S, ⟨d_self, _⟩, y, _, ⟨v_self, _, rfl, h_self, rfl⟩, _⟩ := h
    rfl
  obtain ⟨S, ⟨d_self, _⟩, y, dm, ⟨v_self, _, rfl, h_self, rfl⟩, hm, q⟩ := h
  have ts : Sub [] S := fun a m => by simp at m
  have fr0 := Fr.refl (T := []) H0
  have sub0 : Sub S S := fun a m => m
  refine ⟨_, (pss_one (ps_ret (pe_callB (cr_srtD rfl) (by rfl) ev.B.sorted_ (by decide +kernel) (pa_cons (pe_fld (pv 0) (by rfl)) pa_nil)))), ?_⟩
  dsimp only [m_Survey_names] at hm
  have er := hm
  exact q_ret (T := []) dm (ev_srtD (ev_fldO (b' := ((tD Str (tOpt (tT2 tInt tInt))) : Ty K (List (Str × (Option (Int × Int)))))) ev.cl_Survey ev.n_own_marks fget_here (ev_var ts h_self rfl))) er (fun v H1 s1 hv => q v H1 (fr0.trans (Fr.same s1)).toSame (nwL.sub hv sub0 fr0 Dom.nil))
end
end G

namespace G
open PySem L2 M
section
variable {P : Program} {w : World} {K : PySem.W.Frag} {mg : Str → Option Value} {base : Heap}


def near_body (s : List (Str × List Str)) (x : Rdg) : Option (Ct Unit (List (Str × List Str))) :=
  bd (bd (some x) fun x => some (x.1, x.2.1, ())) fun u => bd (appK? s u.1 u.2.1) fun s1 => bd (appK? s1 u.2.1 u.1) fun s2 => some (Ct.go s2)
def m_neighbours (m : Mks) (r : Rds) : Option (List (Str × List Str)) :=
  if m.length < 100000 then bd (loopC (ρ := Unit) near_body (r.map Prod.snd) ((m.map Prod.fst).map fun x => (x, []))) fun r => match r with | .go t => some t | _ => none else none
abbrev sp_neighbours (K : PySem.W.Frag) : Sp := spF (K := K) (aCons (tD Str (tOpt (tT2 tInt tInt))) (aCons (tD Int (tTu (aCons tStr (aCons tStr (aCons tInt (aCons tInt (aCons tInt aNil))))))) aNil)) (fun S => of (K := K) (tD Str (tL tStr)) S) (fun a => m_neighbours a.1 a.2.1)
theorem near_go (s : List (Str × List Str)) (x : Rdg) (c : Ct Unit (List (Str × List Str))) (h : near_body s x = some c) : ∃ s', c = .go s' := by
  unfold near_body at h
  obtain ⟨_, _, h⟩ := bd_some h
  obtain ⟨_, _, h⟩ := bd_some h
  obtain ⟨_, _, h⟩ := bd_some h
  exact ⟨_, (Option.some.inj h).symm⟩
theorem dls_unl {S S' : AS} {G : Hp} {p pm : Addr} {o : HO} {qs : List Addr} {xs : List (Str × List Str)} (h : DLs (tStr : Ty K Str) S G p qs xs) (n : pm ∉ p :: qs) : DLs (tStr : Ty K Str) S' (upd G pm o) p qs xs := by
  have n1 : p ≠ pm := fun z => n (z ▸ List.mem_cons_self)
  have aux : ∀ {qs : List Addr} {xs : List (Str × List Str)}, All2 (fun q (x : Str × List Str) => ∃ vs, G q = some (.lst vs) ∧ All2 ((tStr : Ty K Str).rp S G) vs x.2) qs xs → pm ∉ qs → All2 (fun q (x : Str × List Str) => ∃ vs, upd G pm o q = some (.lst vs) ∧ All2 ((tStr : Ty K Str).rp S' (upd G pm o)) vs x.2) qs xs := by
    intro qs xs r
    induction r with
    | nil => exact fun _ => .nil
    | cons a _ ih =>
      intro n
      obtain ⟨vs, e, ha⟩ := a
      exact .cons ⟨vs, by rw [upd_ne (fun z => n (by rw [z]; exact List.mem_cons_self))]; exact e, ha⟩ (ih fun m => n (List.mem_cons_of_mem _ m))
  exact ⟨by rw [upd_ne n1]; exact h.at_, h.len, aux h.ls fun m => n (List.mem_cons_of_mem _ m), h.nd, h.kd, h.ok⟩
set_option maxHeartbeats 4000000 in
theorem ok_neighbours (ev : Env P K mg) : FnOk P w K mg base CX0 1 ev.f_neighbours ev.d_neighbours p_neighbours (sp_neighbours K) := by
  refine ev.A_neighbours.F.ok sc_neighbours (fun vs H Q E h => ?_) (fun cdv A outer s H0 vs Q E hr h => ?_)
  · obtain ⟨S, ⟨d_m, d_r, _⟩, y, _, ⟨v_m, _, rfl, h_m, v_r, _, rfl, h_r, rfl⟩, _⟩ := h
    rfl
  obtain ⟨S, ⟨d_m, d_r, _⟩, y, dm, ⟨v_m, _, rfl, h_m, v_r, _, rfl, h_r, rfl⟩, hm, q⟩ := h
  have ts : Sub [] S := fun a m => by simp at m
  have fr0 := Fr.refl (T := []) H0
  refine ⟨_, (pss_cons (ps_lock (ps_setDc (i := 2) (own := [("name", 6)]) (g := gName 6) (tf := tYes) (by rfl) sc_neighbours.nd rfl rfl (sw_trueD rfl rfl rfl (by decide +kernel)) (pi_keys (pv 0)) (blkOk_by (own := [("name", 6)]) (N := n_neighbours) (sc := defScope s_neighbours) (by decide +kernel)) (fun _ _ _ _ _ => pg_name (i := 6) sc_neighbours.nd rfl (Or.inl rfl)) (fun _ _ _ _ _ => pts_nil) (fun _ _ _ _ _ => (pv 6)) (fun _ _ _ _ _ => (pe_lst pa_nil))))
    (pss_cons (ps_lock (ps_for PassesOwn.never rfl (pi_values (pv 1)) (pg_name (i := 3) sc_neighbours.nd rfl (Or.inl rfl))
    (pss_cons (ps_asg (pe_slice sl_tup (pv 3) po_none (po_some pe_int)) (pg_tup rfl (pgs_cons (pg_name (i := 4) sc_neighbours.nd rfl (Or.inl rfl)) (pgs_cons (pg_name (i := 5) sc_neighbours.nd rfl (Or.inl rfl)) pgs_nil))))
    (pss_cons (ps_expr (pe_bm PySem.F.plainAttrs_list PySem.F.slot_list_append PySem.F.type_list_append mt_append (pe_dget (hu_of hr) (pv 2) (pv 4) (fun _ _ => rfl)) (pa_cons (pv 5) pa_nil)))
    (pss_one (ps_expr (pe_bm PySem.F.plainAttrs_list PySem.F.slot_list_append PySem.F.type_list_append mt_append (pe_dget (hu_of hr) (pv 2) (pv 5) (fun _ _ => rfl)) (pa_cons (pv 4) pa_nil))))))))
    (pss_one (ps_ret (pv 2))))), ?_⟩
  dsimp only at hm h_m h_r
  unfold m_neighbours at hm
  split at hm
  case isFalse => cases hm
  rename_i hl
  obtain ⟨r_5, el5, hm⟩ := bd_some hm
  have er5 : ∃ t, r_5 = .go t := by
    cases r_5 with
    | go t => exact ⟨t, rfl⟩
    | ret _ => cases hm
    | brk _ => cases hm
  obtain ⟨t_5, rfl⟩ := er5
  cases hm
  refine q_dcK (K := K) dm h_m rfl hl (fun v => by rfl) (fun v => by rfl) (fun p qs H3 s3 np hql hqn hqs hp hok => ?_)
  have npS : p ∉ S := dm.not_mem np
  have nqS : ∀ q ∈ qs, q ∉ S := fun q hq => dm.not_mem (hqs q hq).1
  have n0q : ∀ q ∈ qs, H0 q = none := fun q hq => (hqs q hq).1
  have h_r := ((tD Int (tTu (aCons tStr (aCons tStr (aCons tInt (aCons tInt (aCons tInt aNil))))))) : Ty K Rds).mono (S := p :: (qs ++ S)) (Fr.same s3) (Ty.ext _ np (Ty.extN _ h_r fun q hq => (hqs q hq).1))
  have o : DLs (tStr : Ty K Str) (p :: (qs ++ S)) H3 p qs ((d_m.map Prod.fst).map fun x => (x, [])) := DLs.empty (by rw [List.length_map]; exact hql) hqn (by obtain ⟨_, _, _, _, _, hn⟩ := h_m; exact hn) (fun q hq => (hqs q hq).2) hp hok
  have iq : ∀ q ∈ qs, q ∈ p :: (qs ++ S) := fun q hq => List.mem_cons_of_mem _ (List.mem_append_left _ hq)
  have dm3 : Dom (p :: (qs ++ S)) H3 := by
    intro a m
    rcases List.mem_cons.mp m with rfl | m
    · rw [hp]; intro z; cases z
    · rcases List.mem_append.mp m with m | m
      · rw [(hqs a m).2]; intro z; cases z
      · exact dm.same s3 a m
  have fq0 : ∀ {pr : Addr} {Ha Hb : Hp}, Fr qs Ha Hb → Fr (pr :: p :: (qs ++ S)) Ha Hb := fun f b o e nb => f b o e fun z => nb (List.mem_cons_of_mem _ (iq b z))
  have stay : ∀ {S1 : AS} {Ha Hb : Hp}, Dom S1 Ha → Fr qs Ha Hb → (∀ q ∈ qs, Hb q ≠ none) → Dom S1 Hb := fun d f g b mb e => by
    by_cases c : b ∈ qs
    · exact g b c e
    · rename_i Ha Hb
      cases z : Ha b with
      | none => exact d b mb z
      | some ob => rw [f b ob z c] at e; cases e
  refine q_for_v (K := K) h_r rfl el5 near_go (fun pr od kvs s_5 σ' G => ∃ f_3 : Option V, ∃ f_4 : Option V, ∃ f_5 : Option V, σ' = [some v_m, some v_r, some (.ref p), f_3, f_4, f_5, none] ∧ Fr (pr :: []) H0 G ∧ Dom (pr :: p :: (qs ++ S)) G ∧ G pr = some (.frz od (.dK kvs)) ∧ pr ∉ p :: (qs ++ S) ∧ DLs (tStr : Ty K Str) (pr :: p :: (qs ++ S)) G p qs s_5) (fun pr od kvs G ev hpr npr eG => ?_) (fun pr od kvs s σ' G hI => ?_) (fun pr od kvs s s' x wv σ' G ev npr hI hx hf D' hD => ?_) (fun pr od kvs σ' G ev npr hpr frG hpk hI => ?_)
  · subst eG
    refine ⟨_, _, _, rfl, fr_lock (Fr.same s3), ?_, upd_same, npr, dls_unl o fun m => npr (by rcases List.mem_cons.mp m with z | z; exact z ▸ List.mem_cons_self; exact iq _ z)⟩
    intro a m
    by_cases c : a = pr
    · subst c; rw [upd_same]; intro z; cases z
    · rw [upd_ne c]
      exact dm3 a ((List.mem_cons.mp m).resolve_left c)
  · obtain ⟨_, _, _, _, _, _, e, _⟩ := hI
    exact e
  · obtain ⟨f_3, f_4, f_5, rfl, fr0, dmG, hpk, npr', o⟩ := hI
    have nprq : pr ∉ qs := fun z => npr' (iq pr z)
    have ts : Sub [] (pr :: p :: (qs ++ S)) := fun a m => by simp at m
    dsimp only [near_body] at hf
    obtain ⟨u_6, e6, hf⟩ := bd_some hf
    refine q_unpTu2 (K := K) (T := []) dmG (ev_slTu (K := K) (tk_s (tk_s tk_0)) (ev_var ts hx rfl)) e6 (fun v_one v_other H6 s6 h_one h_other => ?_)
    have dm6 := dmG.same s6
    have o := o.same s6
    have iq' : ∀ q ∈ qs, q ∈ pr :: p :: (qs ++ S) := fun q hq => List.mem_cons_of_mem _ (iq q hq)
    obtain ⟨s1, f1, hf⟩ := bd_some hf
    refine q_appK (T := []) dm6 o iq' rfl (ev_var ts h_one rfl) rfl (ev_var ts h_other rfl) rfl f1 (fun H7 f7 g7 o => ?_)
    have dm7 := stay dm6 f7 g7
    have h_one := (tStr : Ty K Str).mono (fq0 (pr := pr) f7) h_one
    have h_other := (tStr : Ty K Str).mono (fq0 (pr := pr) f7) h_other
    obtain ⟨s2, f2, hf⟩ := bd_some hf
    refine l_appK (T := []) dm7 o iq' rfl (ev_var ts h_other rfl) rfl (ev_var ts h_one rfl) rfl f2 (fun H8 f8 g8 o => ?_)
    cases hf
    have pk : ∀ {Ha Hb : Hp} {o : HO}, Fr qs Ha Hb → Ha pr = some o → Hb pr = some o := fun f e => f _ _ e nprq
    have frq : ∀ {Ha Hb : Hp}, Fr (pr :: []) H0 Ha → Fr qs Ha Hb → Fr (pr :: []) H0 Hb := fun f1 f2 b o e nb => f2 b o (f1 b o e nb) fun z => by rw [n0q b z] at e; cases e
    exact hD _ _ (((Fr.same s6).trans (fq0 f7)).trans (fq0 f8)) ⟨_, _, _, rfl, frq (frq (fr0.trans (Fr.same s6)) f7) f8, stay dm7 f8 g8, pk f8 (pk f7 (s6 _ _ hpk)), npr', o⟩
  · obtain ⟨f_3, f_4, f_5, rfl, fr1, dmG, _, npr', o⟩ := hI
    have o := dls_unl (S' := p :: (qs ++ S)) (pm := pr) (o := .dK kvs) o fun m => npr' (by rcases List.mem_cons.mp m with z | z; exact z ▸ List.mem_cons_self; exact iq _ z)
    have same : Same H0 (upd G pr (.dK kvs)) := fun b ob e => by
      by_cases c : b = pr
      · subst c
        rw [upd_same]
        have : H3 b = some ob := s3 _ _ e
        rw [hpr] at this
        exact this
      · rw [upd_ne c]
        exact fr1 b ob e (by simpa using c)
    exact ⟨_, rfl, q _ _ same (o.rp npS nqS fun a m => List.mem_cons_of_mem _ (List.mem_append_right _ m))⟩

end
end G

namespace G
open PySem L2 M
section
variable {P : Program} {w : World} {K : PySem.W.Frag} {mg : Str → Option Value} {base : Heap}

def m_reached (d_near : (List (Str × (List Str)))) (d_start : Str) : Option (List Str) :=
  (bd (bd (some d_start) fun k => bd (some true) fun v => some [(k, v)]) fun found_1 => (bd (bd (some d_start) fun x => bd (some []) fun y => some (x :: y)) fun waiting_2 => (bd (whileC (ρ := (List Str)) (fun s_3 => (bd (some s_3.1) fun x => some (!x.isEmpty))) (fun s_3 => (bd (popB? s_3.1) fun z_4 => (bd (bd (some d_near) fun d => bd (some z_4.1) fun k => getK d k) fun xs13 => bd (loopC (ρ := (List Str)) (fun s_5 name_5 => (bd (bd (some name_5) fun k => some (!(getK s_5.1 k).isSome)) fun c6 => (bd (if c6 then (bd (some true) fun a7 => (bd (some name_5) fun i8 => (bd (putL? s_5.1 i8 a7) fun found_9 => (bd (some name_5) fun a10 => (bd (app? s_5.2 a10) fun waiting_11 => some (found_9, waiting_11)))))) else some (s_5.1, s_5.2)) fun j12 => some (Ct.go (j12.1, j12.2))))) xs13 (s_3.2, z_4.2)) fun r_5 => match r_5 with | .ret y => some (Ct.ret y) | .go t_5 => some (Ct.go (t_5.2, t_5.1)) | .brk _ => none))) 100000 (waiting_2, found_1)) fun r_3 => match r_3 with | .ret y => some y | .go t_3 => (ksS? t_3.2) | .brk _ => none)))
abbrev sp_reached (K : PySem.W.Frag) : Sp := spF (K := K) (aCons (tD Str (tL tStr)) (aCons tStr aNil)) (fun S => nw (K := K) tStr S) (fun a => m_reached a.1 a.2.1)
theorem ok_reached (ev : Env P K mg) : FnOk P w K mg base CX0 1 ev.f_reached ev.d_reached p_reached (sp_reached K) := by
  refine ev.A_reached.F.ok sc_reached (fun vs H Q E h => ?_) (fun cdv A outer s H0 vs Q E hr h => ?_)
  · obtain ⟨S, ⟨d_near, d_start, _⟩, y, _, ⟨v_near, _, rfl, h_near, v_start, _, rfl, h_start, rfl⟩, _⟩ := h
    rfl
  obtain ⟨S, ⟨d_near, d_start, _⟩, y, dm, ⟨v_near, _, rfl, h_near, v_start, _, rfl, h_start, rfl⟩, hm, q⟩ := h
  have ts : Sub [] S := fun a m => by simp at m
  have fr0 := Fr.refl (T := []) H0
  have sub0 : Sub S S := fun a m => m
  refine ⟨_, (pss_cons (ps_set (i := 2) sc_reached.nd rfl (Or.inl rfl) (pe_disp (pps_cons (pv 1) pe_bl pps_nil) (by rfl) (by rfl) (fun z => by cases z) (by decide)))
    (pss_cons (ps_set (i := 3) sc_reached.nd rfl (Or.inl rfl) (pe_lst (pa_cons (pv 1) pa_nil)))
    (pss_cons (ps_while PassesOwn.never (pt_truth (pv 3) (by intro _; rfl))
    (pss_cons (ps_set (i := 4) sc_reached.nd rfl (Or.inl rfl) (pe_bm0 PySem.F.plainAttrs_list PySem.F.slot_list_pop PySem.F.type_list_pop mt_pop (pv 3)))
    (pss_one (ps_for PassesOwn.never rfl (pi_list (pe_dget (hu_of hr) (pv 0) (pv 4) (fun _ _ => rfl))) (pg_name (i := 5) sc_reached.nd rfl (Or.inl rfl))
    (pss_one (ps_if (pt_cmp (pc_dnotin (hu_of hr) (pv 5) (pv 2)))
    (pss_cons (ps_dput (hu_of hr) (pv 2) (pv 5) pe_bl (by rfl))
    (pss_one (ps_expr (pe_bm PySem.F.plainAttrs_list PySem.F.slot_list_append PySem.F.type_list_append mt_append (pv 3) (pa_cons (pv 5) pa_nil))))) pss_nil))))))
    (pss_one (ps_ret (pe_callB (cr_srtD rfl) (by rfl) ev.B.sorted_ (by decide +kernel) (pa_cons (pv 2) pa_nil))))))), ?_⟩
  dsimp only [m_reached] at hm
  obtain ⟨found_1, e1, hm⟩ := bd_some hm
  refine q_asg (T := []) dm (ev_disp1 (ck := (tStr : Ty K Str)) (b' := (tBool : Ty K Bool)) (fun {p'} {H1'} fr' nD' => by have sD' := same_new (o := .dK []) nD'; have h_near := ((tD Str (tL tStr)) : Ty K (List (Str × (List Str)))).mono (Fr.same sD') (((tD Str (tL tStr)) : Ty K (List (Str × (List Str)))).ext (S := S) nD' (((tD Str (tL tStr)) : Ty K (List (Str × (List Str)))).mono (Fr.sub ts fr') h_near)); have h_start := (tStr : Ty K Str).mono (Fr.same sD') ((tStr : Ty K Str).ext (S := S) nD' ((tStr : Ty K Str).mono (Fr.sub ts fr') h_start)); have ts : Sub [] (p' :: S) := (fun a m => by simp at m); exact (ev_var ts h_start rfl)) (fun {p'} {H1'} fr' nD' => by have sD' := same_new (o := .dK []) nD'; have h_near := ((tD Str (tL tStr)) : Ty K (List (Str × (List Str)))).mono (Fr.same sD') (((tD Str (tL tStr)) : Ty K (List (Str × (List Str)))).ext (S := S) nD' (((tD Str (tL tStr)) : Ty K (List (Str × (List Str)))).mono (Fr.sub ts fr') h_near)); have h_start := (tStr : Ty K Str).mono (Fr.same sD') ((tStr : Ty K Str).ext (S := S) nD' ((tStr : Ty K Str).mono (Fr.sub ts fr') h_start)); have ts : Sub [] (p' :: S) := (fun a m => by simp at m); exact (ev_bool (K := K)))) e1 (fun v_found H1 s1 hx => ?_)
  obtain ⟨p_found, rfl, np_found, o_found⟩ := hx
  have ns_found : p_found ∉ S := dm.not_mem np_found
  have nb_found : p_found ∉ S := fun m => ns_found (sub0 _ m)
  have n0_found := fr_back fr0 Dom.nil np_found
  have nt_found := (Dom.nil (H := H0)).not_mem n0_found
  have fr0 := fr0.trans (Fr.same s1)
  have h_near := ((tD Str (tL tStr)) : Ty K (List (Str × (List Str)))).mono (Fr.same s1) (((tD Str (tL tStr)) : Ty K (List (Str × (List Str)))).ext (S := S) np_found h_near)
  have h_start := (tStr : Ty K Str).mono (Fr.same s1) ((tStr : Ty K Str).ext (S := S) np_found h_start)
  have dm := (dm.same s1).cons o_found.choose_spec.1
  have ts := sub_cons (p := p_found) ts
  have sub0 := sub_cons (p := p_found) sub0
  have im_found : p_found ∈ p_found :: S := List.mem_cons_self ..
  obtain ⟨waiting_2, e2, hm⟩ := bd_some hm
  refine q_asg (T := []) dm (ev_lst (el_cons (ev_var ts h_start rfl) el_nil) (by decide)) e2 (fun v_waiting H2 s2 hx => ?_)
  obtain ⟨p_waiting, rfl, np_waiting, o_waiting⟩ := hx
  have ns_waiting : p_waiting ∉ (p_found :: S) := dm.not_mem np_waiting
  have nb_waiting : p_waiting ∉ S := fun m => ns_waiting (sub0 _ m)
  have n0_waiting := fr_back fr0 Dom.nil np_waiting
  have nt_waiting := (Dom.nil (H := H0)).not_mem n0_waiting
  have fr0 := fr0.trans (Fr.same s2)
  have h_near := ((tD Str (tL tStr)) : Ty K (List (Str × (List Str)))).mono (Fr.same s2) (((tD Str (tL tStr)) : Ty K (List (Str × (List Str)))).ext (S := (p_found :: S)) np_waiting h_near)
  have h_start := (tStr : Ty K Str).mono (Fr.same s2) ((tStr : Ty K Str).ext (S := (p_found :: S)) np_waiting h_start)
  have ne_found_waiting := o_found.ne np_waiting
  have o_found := (o_found.ext np_waiting).same s2
  have im_found := List.mem_cons_of_mem p_waiting im_found
  have dm := (dm.same s2).cons o_waiting.choose_spec.1
  have ts := sub_cons (p := p_waiting) ts
  have sub0 := sub_cons (p := p_waiting) sub0
  have im_waiting : p_waiting ∈ p_waiting :: (p_found :: S) := List.mem_cons_self ..
  have ne_waiting_found := Ne.symm ne_found_waiting
  obtain ⟨r_3, el3, hm3⟩ := bd_some hm
  refine q_while_s (S := (p_waiting :: (p_found :: S))) (T := []) el3 (fun s_3 σ' H' => ∃ v_near : V, ∃ v_start : V, ∃ f_4 : Option V, ∃ f_5 : Option V, σ' = [some v_near, some v_start, some (.ref p_found), some (.ref p_waiting), f_4, f_5] ∧ Fr [] H0 H' ∧ Dom (p_waiting :: (p_found :: S)) H' ∧ ((tD Str (tL tStr)) : Ty K (List (Str × (List Str)))).rp (p_waiting :: (p_found :: S)) H' v_near d_near ∧ (tStr : Ty K Str).rp (p_waiting :: (p_found :: S)) H' v_start d_start ∧ Own (tStr : Ty K Str) (p_waiting :: (p_found :: S)) H' p_waiting s_3.1 ∧ OwnD (tBool : Ty K Bool) (p_waiting :: (p_found :: S)) H' p_found s_3.2) ?_ (fun s_3 σ' H' hI => ?_) (fun hd3 s_3 cr3 σ' Hw3 H' hI sw3 hm hret3 hbrk3 => ?_) (fun t_3 σ' Hw3 H' er hI sw3 => ?_)
  · skip
    exact ⟨v_near, v_start, _, _, rfl, fr0, dm, h_near, h_start, o_waiting, o_found⟩
  · skip
    obtain ⟨v_near, v_start, f_4, f_5, rfl, fr0, dm, h_near, h_start, o_waiting, o_found⟩ := hI
    exact ⟨_, dm, (by refine eb_shr (S' := (p_found :: S)) (sub_cons (fun a m => m)) ?_; have sbz : Sub (p_found :: S) (p_waiting :: (p_found :: S)) := (sub_cons (fun a m => m)); (have nfz : p_waiting ∉ (p_found :: S) := by first | exact ns_waiting | (have h := ns_waiting; simp only [List.mem_cons, not_or] at h ⊢; grind)); have h_waiting := o_waiting.frz sbz nfz; have h_near := ((tD Str (tL tStr)) : Ty K (List (Str × (List Str)))).sub sbz h_near; have h_start := (tStr : Ty K Str).sub sbz h_start; have o_found := o_found.sub sbz; (have ts : Sub [] (p_found :: S) := fun a m => by have h1 := ts a m; have h2 : a ≠ p_waiting := (fun e => nt_waiting (e ▸ m)); simp only [List.mem_cons] at h1 ⊢; grind); exact (eb_truL (ev_var ts h_waiting rfl)))⟩
  · skip
    obtain ⟨v_near, v_start, f_4, f_5, rfl, fr0, dm, h_near, h_start, o_waiting, o_found⟩ := hI
    have fr0 := fr0.trans (Fr.same sw3)
    have dm := dm.same sw3
    have h_near := ((tD Str (tL tStr)) : Ty K (List (Str × (List Str)))).mono (S := (p_waiting :: (p_found :: S))) (Fr.same sw3) h_near
    have h_start := (tStr : Ty K Str).mono (S := (p_waiting :: (p_found :: S))) (Fr.same sw3) h_start
    have o_waiting := o_waiting.same sw3
    have o_found := o_found.same sw3
    let HL := H'
    have freshl : ∀ a ∈ (p_waiting :: (p_found :: S)), a ∉ (p_waiting :: (p_found :: S)) → H' a = none := fun a m n => absurd m n
    have frl : Fr (p_waiting :: (p_found :: S)) HL H' := Fr.refl (T := (p_waiting :: (p_found :: S))) H'
    have tsl := ts
    have subl : Sub (p_waiting :: (p_found :: S)) (p_waiting :: (p_found :: S)) := fun a m => m
    have iml_waiting := im_waiting
    have iml_found := im_found
    obtain ⟨z_4, e4, hm⟩ := bd_some hm
    refine q_popA dm o_waiting im_waiting rfl e4 (fun v_here H4 s4 frx4 o_waiting h_here => ?_)
    have fr0 := fr0.mut Dom.nil n0_waiting s4
    have frl := frl.trans (s4.fr iml_waiting)
    have dm := dm.fx frx4 s4
    have h_near := ((tD Str (tL tStr)) : Ty K (List (Str × (List Str)))).mono (S := (p_waiting :: (p_found :: S))) frx4 h_near
    have h_start := (tStr : Ty K Str).mono (S := (p_waiting :: (p_found :: S))) frx4 h_start
    have o_found := o_found.mut frx4 s4 ne_found_waiting
    obtain ⟨xs13, e_xs13, hm⟩ := bd_some hm
    obtain ⟨r_5, el5, hm5⟩ := bd_some hm
    refine for_s (T := []) dm (sr_list (ev_dget (ck := (tStr : Ty K Str)) (ev_var ts h_near rfl) (ev_var ts h_here rfl))) e_xs13 el5 (fun s_5 σ' H' => Fr (p_waiting :: (p_found :: S)) HL H' ∧ ∃ v_near : V, ∃ v_start : V, ∃ v_here : V, ∃ f_5 : Option V, σ' = [some v_near, some v_start, some (.ref p_found), some (.ref p_waiting), some v_here, f_5] ∧ Fr [] H0 H' ∧ Dom (p_waiting :: (p_found :: S)) H' ∧ ((tD Str (tL tStr)) : Ty K (List (Str × (List Str)))).rp (p_waiting :: (p_found :: S)) H' v_near d_near ∧ (tStr : Ty K Str).rp (p_waiting :: (p_found :: S)) H' v_start d_start ∧ (tStr : Ty K Str).rp (p_waiting :: (p_found :: S)) H' v_here z_4.1 ∧ OwnD (tBool : Ty K Bool) (p_waiting :: (p_found :: S)) H' p_found s_5.1 ∧ Own (tStr : Ty K Str) (p_waiting :: (p_found :: S)) H' p_waiting s_5.2) (fun H5 s5 => ?_) (fun hd5 s_5 name_5 cr5 v_name σ' H' hI h_name hx5 hm hret5 hbrk5 => ?_) (fun t_5 σ' H' er hI => ?_)
    · skip
      have fr0 := fr0.trans (Fr.same s5)
      have dm := dm.same s5
      have frl := frl.trans (Fr.same s5)
      have h_near := ((tD Str (tL tStr)) : Ty K (List (Str × (List Str)))).mono (S := (p_waiting :: (p_found :: S))) (Fr.same s5) h_near
      have h_start := (tStr : Ty K Str).mono (S := (p_waiting :: (p_found :: S))) (Fr.same s5) h_start
      have h_here := (tStr : Ty K Str).mono (S := (p_waiting :: (p_found :: S))) (Fr.same s5) h_here
      have o_found := o_found.same s5
      have o_waiting := o_waiting.same s5
      exact ⟨frl, v_near, v_start, v_here, _, rfl, fr0, dm, h_near, h_start, h_here, o_found, o_waiting⟩
    · skip
      obtain ⟨frl, v_near, v_start, v_here, f_5, rfl, fr0, dm, h_near, h_start, h_here, o_found, o_waiting⟩ := hI
      have frlo := frl
      have freshlo := freshl
      let HL := H'
      have freshl : ∀ a ∈ (p_waiting :: (p_found :: S)), a ∉ (p_waiting :: (p_found :: S)) → H' a = none := fun a m n => absurd m n
      have frl : Fr (p_waiting :: (p_found :: S)) HL H' := Fr.refl (T := (p_waiting :: (p_found :: S))) H'
      have tsl := ts
      have subl : Sub (p_waiting :: (p_found :: S)) (p_waiting :: (p_found :: S)) := fun a m => m
      have iml_found := im_found
      have iml_waiting := im_waiting
      have h_name : (tStr : Ty K Str).rp (p_waiting :: (p_found :: S)) H' v_name name_5 := h_name
      obtain ⟨c6, e6, hm⟩ := bd_some hm
      obtain ⟨j12, ej6, hm⟩ := bd_some hm
      refine seq_last (fun σ' H' => Fr (p_waiting :: (p_found :: S)) HL H' ∧ ∃ v_near : V, ∃ v_start : V, ∃ v_here : V, ∃ v_name : V, σ' = [some v_near, some v_start, some (.ref p_found), some (.ref p_waiting), some v_here, some v_name] ∧ Fr [] H0 H' ∧ Dom (p_waiting :: (p_found :: S)) H' ∧ ((tD Str (tL tStr)) : Ty K (List (Str × (List Str)))).rp (p_waiting :: (p_found :: S)) H' v_near d_near ∧ (tStr : Ty K Str).rp (p_waiting :: (p_found :: S)) H' v_start d_start ∧ (tStr : Ty K Str).rp (p_waiting :: (p_found :: S)) H' v_here z_4.1 ∧ (tStr : Ty K Str).rp (p_waiting :: (p_found :: S)) H' v_name name_5 ∧ OwnD (tBool : Ty K Bool) (p_waiting :: (p_found :: S)) H' p_found j12.1 ∧ Own (tStr : Ty K Str) (p_waiting :: (p_found :: S)) H' p_waiting j12.2) (fun σ' H' hI => ?_) (fun rest => ?_)
      · skip
        obtain ⟨frl, v_near, v_start, v_here, v_name, rfl, fr0, dm, h_near, h_start, h_here, h_name, o_found, o_waiting⟩ := hI
        cases hm
        exact ⟨_, rfl, frl, ⟨frlo.transx frl freshlo, v_near, v_start, v_here, _, rfl, fr0, dm, h_near, h_start, h_here, o_found, o_waiting⟩⟩
      have hm := ej6
      refine l_if (T := []) dm (eb_test (K := K) (ev_ownDNotIn (ck := (tStr : Ty K Str)) o_found nt_found ts rfl (ev_var ts h_name rfl))) e6 (fun hc H6 s6 => ?_) (fun hc H6 s6 => ?_)
      · skip
        subst hc
        have hm := if_t hm
        have fr0 := fr0.trans (Fr.same s6)
        have dm := dm.same s6
        have frl := frl.trans (Fr.same s6)
        have h_near := ((tD Str (tL tStr)) : Ty K (List (Str × (List Str)))).mono (S := (p_waiting :: (p_found :: S))) (Fr.same s6) h_near
        have h_start := (tStr : Ty K Str).mono (S := (p_waiting :: (p_found :: S))) (Fr.same s6) h_start
        have h_here := (tStr : Ty K Str).mono (S := (p_waiting :: (p_found :: S))) (Fr.same s6) h_here
        have o_found := o_found.same s6
        have o_waiting := o_waiting.same s6
        have h_name := (tStr : Ty K Str).mono (S := (p_waiting :: (p_found :: S))) (Fr.same s6) h_name
        obtain ⟨a7, e8, hm⟩ := bd_some hm
        obtain ⟨i8, i8, hm⟩ := bd_some hm
        obtain ⟨found_9, f8, hm⟩ := bd_some hm
        refine q_dput (ck := (tStr : Ty K Str)) (T := []) dm o_found im_found nt_found ts rfl (ev_bool (K := K)) e8 (ev_var ts h_name rfl) i8 f8 (fun H8 s8 frx8 o_found => ?_)
        have fr0 := fr0.mut Dom.nil n0_found s8
        have frl := frl.trans (s8.fr iml_found)
        have dm := dm.fx frx8 s8
        have h_near := ((tD Str (tL tStr)) : Ty K (List (Str × (List Str)))).mono (S := (p_waiting :: (p_found :: S))) frx8 h_near
        have h_start := (tStr : Ty K Str).mono (S := (p_waiting :: (p_found :: S))) frx8 h_start
        have h_here := (tStr : Ty K Str).mono (S := (p_waiting :: (p_found :: S))) frx8 h_here
        have o_waiting := o_waiting.mut frx8 s8 ne_waiting_found
        have h_name := (tStr : Ty K Str).mono (S := (p_waiting :: (p_found :: S))) frx8 h_name
        obtain ⟨a10, e10, hm⟩ := bd_some hm
        obtain ⟨waiting_11, f10, hm⟩ := bd_some hm
        refine l_app (T := []) dm o_waiting im_waiting nt_waiting ts rfl (ev_var ts h_name rfl) e10 f10 (fun H10 s10 frx10 o_waiting => ?_)
        have fr0 := fr0.mut Dom.nil n0_waiting s10
        have frl := frl.trans (s10.fr iml_waiting)
        have dm := dm.fx frx10 s10
        have h_near := ((tD Str (tL tStr)) : Ty K (List (Str × (List Str)))).mono (S := (p_waiting :: (p_found :: S))) frx10 h_near
        have h_start := (tStr : Ty K Str).mono (S := (p_waiting :: (p_found :: S))) frx10 h_start
        have h_here := (tStr : Ty K Str).mono (S := (p_waiting :: (p_found :: S))) frx10 h_here
        have o_found := o_found.mut frx10 s10 ne_found_waiting
        have h_name := (tStr : Ty K Str).mono (S := (p_waiting :: (p_found :: S))) frx10 h_name
        cases hm
        exact rest _ _ ⟨frl, v_near, v_start, v_here, v_name, rfl, fr0, dm, h_near, h_start, h_here, h_name, o_found, o_waiting⟩
      · skip
        subst hc
        have hm := if_f hm
        have fr0 := fr0.trans (Fr.same s6)
        have dm := dm.same s6
        have frl := frl.trans (Fr.same s6)
        have h_near := ((tD Str (tL tStr)) : Ty K (List (Str × (List Str)))).mono (S := (p_waiting :: (p_found :: S))) (Fr.same s6) h_near
        have h_start := (tStr : Ty K Str).mono (S := (p_waiting :: (p_found :: S))) (Fr.same s6) h_start
        have h_here := (tStr : Ty K Str).mono (S := (p_waiting :: (p_found :: S))) (Fr.same s6) h_here
        have o_found := o_found.same s6
        have o_waiting := o_waiting.same s6
        have h_name := (tStr : Ty K Str).mono (S := (p_waiting :: (p_found :: S))) (Fr.same s6) h_name
        cases hm
        exact rest _ _ ⟨frl, v_near, v_start, v_here, v_name, rfl, fr0, dm, h_near, h_start, h_here, h_name, o_found, o_waiting⟩
    subst er
    have hm := hm5
    obtain ⟨frl, v_near, v_start, v_here, f_5, rfl, fr0, dm, h_near, h_start, h_here, o_found, o_waiting⟩ := hI
    cases hm
    exact ⟨_, rfl, frl, ⟨v_near, v_start, _, _, rfl, fr0, dm, h_near, h_start, o_waiting, o_found⟩⟩
  subst er
  have hm := hm3
  obtain ⟨v_near, v_start, f_4, f_5, rfl, fr0, dm, h_near, h_start, o_waiting, o_found⟩ := hI
  have fr0 := fr0.trans (Fr.same sw3)
  have dm := dm.same sw3
  have h_near := ((tD Str (tL tStr)) : Ty K (List (Str × (List Str)))).mono (S := (p_waiting :: (p_found :: S))) (Fr.same sw3) h_near
  have h_start := (tStr : Ty K Str).mono (S := (p_waiting :: (p_found :: S))) (Fr.same sw3) h_start
  have o_waiting := o_waiting.same sw3
  have o_found := o_found.same sw3
  have er := hm
  exact q_ret (T := []) dm (ev_ownSrtD o_found nt_found ts rfl) er (fun v H14 s14 hv => q v H14 (fr0.trans (Fr.same s14)).toSame (nwL.sub hv sub0 fr0 Dom.nil))
def m_Survey_pieces (d_self : Sv) : Option (List (List Str)) :=
  (bd (bd (bd (bd (some d_self) fun x => some x.1) fun x => bd (bd (bd (some d_self) fun x => some x.2.1) fun x => bd (some ()) fun y => some (x, y)) fun y => some (x, y)) fun a => m_neighbours a.1 a.2.1) fun near_1 => (bd (some []) fun found_2 => (bd (some []) fun told_3 => (bd (bd (some d_self) fun x => m_Survey_names x) fun xs15 => bd (loopC (ρ := (List (List Str))) (fun s_4 name_4 => (bd (bd (some name_4) fun k => some (!(getK s_4.2 k).isSome)) fun c5 => (bd (if c5 then (bd (bd (bd (some near_1) fun x => bd (bd (some name_4) fun x => bd (some ()) fun y => some (x, y)) fun y => some (x, y)) fun a => m_reached a.1 a.2.1) fun piece_6 => (bd (some piece_6) fun a7 => (bd (app? s_4.1 a7) fun told_8 => (bd (some piece_6) fun xs13 => bd (loopC (ρ := (List (List Str))) (fun s_9 mark_9 => (bd (some true) fun a10 => (bd (some mark_9) fun i11 => (bd (putL? s_9 i11 a10) fun found_12 => some (Ct.go found_12))))) xs13 s_4.2) fun r_9 => match r_9 with | .ret y => none | .go t_9 => some (told_8, t_9) | .brk _ => none)))) else some (s_4.1, s_4.2)) fun j14 => some (Ct.go (j14.1, j14.2))))) xs15 (told_3, found_2)) fun r_4 => match r_4 with | .ret y => some y | .go t_4 => (some t_4.1) | .brk _ => none))))
abbrev sp_Survey_pieces (K : PySem.W.Frag) (CS : Addr) : Sp := spF (K := K) (aCons (tO CS svT) aNil) (fun S => nw (K := K) (tL tStr) S) (fun a => m_Survey_pieces a.1)
theorem ok_Survey_pieces (ev : Env P K mg) : FnOk P w K mg base CX0 2 ev.f_Survey_pieces ev.d_Survey_pieces p_Survey_pieces (sp_Survey_pieces K ev.C_Survey) := by
  refine ev.A_Survey_pieces.F.ok sc_Survey_pieces (fun vs H Q E h => ?_) (fun cdv A outer s H0 vs Q E hr h => ?_)
  · obtain ⟨S, ⟨d_self, _⟩, y, _, ⟨v_self, _, rfl, h_self, rfl⟩, _⟩ := h
    rfl
  obtain ⟨S, ⟨d_self, _⟩, y, dm, ⟨v_self, _, rfl, h_self, rfl⟩, hm, q⟩ := h
  have ts : Sub [] S := fun a m => by simp at m
  have fr0 := Fr.refl (T := []) H0
  have sub0 : Sub S S := fun a m => m
  refine ⟨_, (pss_cons (ps_set (i := 1) sc_Survey_pieces.nd rfl (Or.inl rfl) (pe_call (ok_neighbours ev) (hr.mono (by decide)) (by rfl) ev.A_neighbours.m ev.A_neighbours.F.kp ev.A_neighbours.b .nil pass0 (pa_cons (pe_fld (pv 0) (by rfl)) (pa_cons (pe_fld (pv 0) (by rfl)) pa_nil))))
    (pss_cons (ps_set (i := 2) sc_Survey_pieces.nd rfl (Or.inl rfl) pe_dnewK)
    (pss_cons (ps_set (i := 3) sc_Survey_pieces.nd rfl (Or.inl rfl) (pe_lst pa_nil))
    (pss_cons (ps_for PassesOwn.never rfl (pi_list (pe_meth0 (pv 0) ev.cl_Survey ev.A_Survey_names.me (ok_Survey_names ev) (hr.mono (by decide)) ev.A_Survey_names.b .nil pass0)) (pg_name (i := 4) sc_Survey_pieces.nd rfl (Or.inl rfl))
    (pss_one (ps_if (pt_cmp (pc_dnotin (hu_of hr) (pv 4) (pv 2)))
    (pss_cons (ps_set (i := 5) sc_Survey_pieces.nd rfl (Or.inl rfl) (pe_call (ok_reached ev) (hr.mono (by decide)) (by rfl) ev.A_reached.m ev.A_reached.F.kp ev.A_reached.b .nil pass0 (pa_cons (pv 1) (pa_cons (pv 4) pa_nil))))
    (pss_cons (ps_expr (pe_bm PySem.F.plainAttrs_list PySem.F.slot_list_append PySem.F.type_list_append mt_append (pv 3) (pa_cons (pv 5) pa_nil)))
    (pss_one (ps_for PassesOwn.never rfl (pi_list (pv 5)) (pg_name (i := 6) sc_Survey_pieces.nd rfl (Or.inl rfl))
    (pss_one (ps_dput (hu_of hr) (pv 2) (pv 6) pe_bl (by rfl))))))) pss_nil)))
    (pss_one (ps_ret (pv 3))))))), ?_⟩
  dsimp only [m_Survey_pieces] at hm
  obtain ⟨near_1, e1, hm⟩ := bd_some hm
  refine q_asg (T := []) dm (ev_call (ea_cons (ev_fldO (b' := ((tD Str (tOpt (tT2 tInt tInt))) : Ty K (List (Str × (Option (Int × Int)))))) ev.cl_Survey ev.n_own_marks fget_here (ev_var ts h_self rfl)) (ea_cons (ev_fldO (b' := ((tD Int (tTu (aCons tStr (aCons tStr (aCons tInt (aCons tInt (aCons tInt aNil))))))) : Ty K (List (Int × (Str × Str × Int × Int × Int × Unit))))) ev.cl_Survey ev.n_own_readings (fget_there (by decide +kernel) fget_here) (ev_var ts h_self rfl)) ea_nil))) e1 (fun v_near H1 s1 h_near => ?_)
  have fr0 := fr0.trans (Fr.same s1)
  have dm := dm.same s1
  have h_self := ((tO ev.C_Survey svT) : Ty K Sv).mono (S := S) (Fr.same s1) h_self
  have h_near : ((tD Str (tL tStr)) : Ty K (List (Str × (List Str)))).rp S H1 v_near near_1 := h_near
  obtain ⟨found_2, e2, hm⟩ := bd_some hm
  refine q_asg (T := []) dm (ev_dnew (κ := Str) (b' := (tBool : Ty K Bool))) e2 (fun v_found H2 s2 hx => ?_)
  obtain ⟨p_found, rfl, np_found, o_found⟩ := hx
  have ns_found : p_found ∉ S := dm.not_mem np_found
  have nb_found : p_found ∉ S := fun m => ns_found (sub0 _ m)
  have n0_found := fr_back fr0 Dom.nil np_found
  have nt_found := (Dom.nil (H := H0)).not_mem n0_found
  have fr0 := fr0.trans (Fr.same s2)
  have h_self := ((tO ev.C_Survey svT) : Ty K Sv).mono (Fr.same s2) (((tO ev.C_Survey svT) : Ty K Sv).ext (S := S) np_found h_self)
  have h_near := ((tD Str (tL tStr)) : Ty K (List (Str × (List Str)))).mono (Fr.same s2) (((tD Str (tL tStr)) : Ty K (List (Str × (List Str)))).ext (S := S) np_found h_near)
  have dm := (dm.same s2).cons o_found.choose_spec.1
  have ts := sub_cons (p := p_found) ts
  have sub0 := sub_cons (p := p_found) sub0
  have im_found : p_found ∈ p_found :: S := List.mem_cons_self ..
  obtain ⟨told_3, e3, hm⟩ := bd_some hm
  refine q_asg (T := []) dm (ev_lst0 (a := ((tL tStr) : Ty K (List Str)))) e3 (fun v_told H3 s3 hx => ?_)
  obtain ⟨p_told, rfl, np_told, o_told⟩ := hx
  have ns_told : p_told ∉ (p_found :: S) := dm.not_mem np_told
  have nb_told : p_told ∉ S := fun m => ns_told (sub0 _ m)
  have n0_told := fr_back fr0 Dom.nil np_told
  have nt_told := (Dom.nil (H := H0)).not_mem n0_told
  have fr0 := fr0.trans (Fr.same s3)
  have h_self := ((tO ev.C_Survey svT) : Ty K Sv).mono (Fr.same s3) (((tO ev.C_Survey svT) : Ty K Sv).ext (S := (p_found :: S)) np_told h_self)
  have h_near := ((tD Str (tL tStr)) : Ty K (List (Str × (List Str)))).mono (Fr.same s3) (((tD Str (tL tStr)) : Ty K (List (Str × (List Str)))).ext (S := (p_found :: S)) np_told h_near)
  have ne_found_told := o_found.ne np_told
  have o_found := (o_found.ext np_told).same s3
  have im_found := List.mem_cons_of_mem p_told im_found
  have dm := (dm.same s3).cons o_told.choose_spec.1
  have ts := sub_cons (p := p_told) ts
  have sub0 := sub_cons (p := p_told) sub0
  have im_told : p_told ∈ p_told :: (p_found :: S) := List.mem_cons_self ..
  have ne_told_found := Ne.symm ne_found_told
  obtain ⟨xs15, e_xs15, hm⟩ := bd_some hm
  obtain ⟨r_4, el4, hm4⟩ := bd_some hm
  refine q_for_s (T := []) dm (sr_list (ev_new (ev_methO0 (f := fun a => m_Survey_names a.1) (fno_cons (by decide +kernel) (fno_cons (by decide +kernel) fno_nil)) (ev_var ts h_self rfl)))) e_xs15 el4 (fun s_4 σ' H' => ∃ v_self : V, ∃ v_near : V, ∃ f_4 : Option V, ∃ f_5 : Option V, ∃ f_6 : Option V, σ' = [some v_self, some v_near, some (.ref p_found), some (.ref p_told), f_4, f_5, f_6] ∧ Fr [] H0 H' ∧ Dom (p_told :: (p_found :: S)) H' ∧ ((tO ev.C_Survey svT) : Ty K Sv).rp (p_told :: (p_found :: S)) H' v_self d_self ∧ ((tD Str (tL tStr)) : Ty K (List (Str × (List Str)))).rp (p_told :: (p_found :: S)) H' v_near near_1 ∧ Own ((tL tStr) : Ty K (List Str)) (p_told :: (p_found :: S)) H' p_told s_4.1 ∧ OwnD (tBool : Ty K Bool) (p_told :: (p_found :: S)) H' p_found s_4.2) (fun H4 s4 => ?_) (fun hd4 s_4 name_4 cr4 v_name σ' H' hI h_name hx4 hm hret4 hbrk4 => ?_) (fun t_4 σ' H' er hI => ?_)
  · skip
    have fr0 := fr0.trans (Fr.same s4)
    have dm := dm.same s4
    have h_self := ((tO ev.C_Survey svT) : Ty K Sv).mono (S := (p_told :: (p_found :: S))) (Fr.same s4) h_self
    have h_near := ((tD Str (tL tStr)) : Ty K (List (Str × (List Str)))).mono (S := (p_told :: (p_found :: S))) (Fr.same s4) h_near
    have o_told := o_told.same s4
    have o_found := o_found.same s4
    exact ⟨v_self, v_near, _, _, _, rfl, fr0, dm, h_self, h_near, o_told, o_found⟩
  · skip
    obtain ⟨v_self, v_near, f_4, f_5, f_6, rfl, fr0, dm, h_self, h_near, o_told, o_found⟩ := hI
    let HL := H'
    have freshl : ∀ a ∈ (p_told :: (p_found :: S)), a ∉ (p_told :: (p_found :: S)) → H' a = none := fun a m n => absurd m n
    have frl : Fr (p_told :: (p_found :: S)) HL H' := Fr.refl (T := (p_told :: (p_found :: S))) H'
    have tsl := ts
    have subl : Sub (p_told :: (p_found :: S)) (p_told :: (p_found :: S)) := fun a m => m
    have iml_told := im_told
    have iml_found := im_found
    have h_name : (tStr : Ty K Str).rp (p_told :: (p_found :: S)) H' v_name name_4 := h_name
    obtain ⟨c5, e5, hm⟩ := bd_some hm
    obtain ⟨j14, ej5, hm⟩ := bd_some hm
    refine seq_last (fun σ' H' => Fr (p_told :: (p_found :: S)) HL H' ∧ ∃ v_self : V, ∃ v_near : V, ∃ v_name : V, ∃ f_5 : Option V, ∃ f_6 : Option V, σ' = [some v_self, some v_near, some (.ref p_found), some (.ref p_told), some v_name, f_5, f_6] ∧ Fr [] H0 H' ∧ Dom (p_told :: (p_found :: S)) H' ∧ ((tO ev.C_Survey svT) : Ty K Sv).rp (p_told :: (p_found :: S)) H' v_self d_self ∧ ((tD Str (tL tStr)) : Ty K (List (Str × (List Str)))).rp (p_told :: (p_found :: S)) H' v_near near_1 ∧ (tStr : Ty K Str).rp (p_told :: (p_found :: S)) H' v_name name_4 ∧ Own ((tL tStr) : Ty K (List Str)) (p_told :: (p_found :: S)) H' p_told j14.1 ∧ OwnD (tBool : Ty K Bool) (p_told :: (p_found :: S)) H' p_found j14.2) (fun σ' H' hI => ?_) (fun rest => ?_)
    · skip
      obtain ⟨frl, v_self, v_near, v_name, f_5, f_6, rfl, fr0, dm, h_self, h_near, h_name, o_told, o_found⟩ := hI
      cases hm
      exact ⟨_, rfl, frl, ⟨v_self, v_near, _, _, _, rfl, fr0, dm, h_self, h_near, o_told, o_found⟩⟩
    have hm := ej5
    refine l_if (T := []) dm (eb_test (K := K) (ev_ownDNotIn (ck := (tStr : Ty K Str)) o_found nt_found ts rfl (ev_var ts h_name rfl))) e5 (fun hc H5 s5 => ?_) (fun hc H5 s5 => ?_)
    · skip
      subst hc
      have hm := if_t hm
      have fr0 := fr0.trans (Fr.same s5)
      have dm := dm.same s5
      have frl := frl.trans (Fr.same s5)
      have h_self := ((tO ev.C_Survey svT) : Ty K Sv).mono (S := (p_told :: (p_found :: S))) (Fr.same s5) h_self
      have h_near := ((tD Str (tL tStr)) : Ty K (List (Str × (List Str)))).mono (S := (p_told :: (p_found :: S))) (Fr.same s5) h_near
      have o_told := o_told.same s5
      have o_found := o_found.same s5
      have h_name := (tStr : Ty K Str).mono (S := (p_told :: (p_found :: S))) (Fr.same s5) h_name
      obtain ⟨piece_6, e6, hm⟩ := bd_some hm
      refine q_asg (T := []) dm (ev_new (ev_call (ea_cons (ev_var ts h_near rfl) (ea_cons (ev_var ts h_name rfl) ea_nil)))) e6 (fun v_piece H6 s6 h_piece => ?_)
      have fr0 := fr0.trans (Fr.same s6)
      have dm := dm.same s6
      have frl := frl.trans (Fr.same s6)
      have h_self := ((tO ev.C_Survey svT) : Ty K Sv).mono (S := (p_told :: (p_found :: S))) (Fr.same s6) h_self
      have h_near := ((tD Str (tL tStr)) : Ty K (List (Str × (List Str)))).mono (S := (p_told :: (p_found :: S))) (Fr.same s6) h_near
      have o_told := o_told.same s6
      have o_found := o_found.same s6
      have h_name := (tStr : Ty K Str).mono (S := (p_told :: (p_found :: S))) (Fr.same s6) h_name
      have h_piece : ((tL tStr) : Ty K (List Str)).rp (p_told :: (p_found :: S)) H6 v_piece piece_6 := h_piece
      obtain ⟨a7, e7, hm⟩ := bd_some hm
      obtain ⟨told_8, f7, hm⟩ := bd_some hm
      refine q_app (T := []) dm o_told im_told nt_told ts rfl (ev_var ts h_piece rfl) e7 f7 (fun H7 s7 frx7 o_told => ?_)
      have fr0 := fr0.mut Dom.nil n0_told s7
      have frl := frl.trans (s7.fr iml_told)
      have dm := dm.fx frx7 s7
      have h_self := ((tO ev.C_Survey svT) : Ty K Sv).mono (S := (p_told :: (p_found :: S))) frx7 h_self
      have h_near := ((tD Str (tL tStr)) : Ty K (List (Str × (List Str)))).mono (S := (p_told :: (p_found :: S))) frx7 h_near
      have o_found := o_found.mut frx7 s7 ne_found_told
      have h_name := (tStr : Ty K Str).mono (S := (p_told :: (p_found :: S))) frx7 h_name
      have h_piece := ((tL tStr) : Ty K (List Str)).mono (S := (p_told :: (p_found :: S))) frx7 h_piece
      obtain ⟨xs13, e_xs13, hm⟩ := bd_some hm
      obtain ⟨r_9, el9, hm9⟩ := bd_some hm
      refine for_s (T := []) dm (sr_list (ev_var ts h_piece rfl)) e_xs13 el9 (fun s_9 σ' H' => Fr (p_told :: (p_found :: S)) HL H' ∧ ∃ v_self : V, ∃ v_near : V, ∃ v_name : V, ∃ v_piece : V, ∃ f_6 : Option V, σ' = [some v_self, some v_near, some (.ref p_found), some (.ref p_told), some v_name, some v_piece, f_6] ∧ Fr [] H0 H' ∧ Dom (p_told :: (p_found :: S)) H' ∧ ((tO ev.C_Survey svT) : Ty K Sv).rp (p_told :: (p_found :: S)) H' v_self d_self ∧ ((tD Str (tL tStr)) : Ty K (List (Str × (List Str)))).rp (p_told :: (p_found :: S)) H' v_near near_1 ∧ Own ((tL tStr) : Ty K (List Str)) (p_told :: (p_found :: S)) H' p_told told_8 ∧ (tStr : Ty K Str).rp (p_told :: (p_found :: S)) H' v_name name_4 ∧ ((tL tStr) : Ty K (List Str)).rp (p_told :: (p_found :: S)) H' v_piece piece_6 ∧ OwnD (tBool : Ty K Bool) (p_told :: (p_found :: S)) H' p_found s_9) (fun H9 s9 => ?_) (fun hd9 s_9 mark_9 cr9 v_mark σ' H' hI h_mark hx9 hm hret9 hbrk9 => ?_) (fun t_9 σ' H' er hI => ?_)
      · skip
        have fr0 := fr0.trans (Fr.same s9)
        have dm := dm.same s9
        have frl := frl.trans (Fr.same s9)
        have h_self := ((tO ev.C_Survey svT) : Ty K Sv).mono (S := (p_told :: (p_found :: S))) (Fr.same s9) h_self
        have h_near := ((tD Str (tL tStr)) : Ty K (List (Str × (List Str)))).mono (S := (p_told :: (p_found :: S))) (Fr.same s9) h_near
        have o_told := o_told.same s9
        have h_name := (tStr : Ty K Str).mono (S := (p_told :: (p_found :: S))) (Fr.same s9) h_name
        have h_piece := ((tL tStr) : Ty K (List Str)).mono (S := (p_told :: (p_found :: S))) (Fr.same s9) h_piece
        have o_found := o_found.same s9
        exact ⟨frl, v_self, v_near, v_name, v_piece, _, rfl, fr0, dm, h_self, h_near, o_told, h_name, h_piece, o_found⟩
      · skip
        obtain ⟨frl, v_self, v_near, v_name, v_piece, f_6, rfl, fr0, dm, h_self, h_near, o_told, h_name, h_piece, o_found⟩ := hI
        have frlo := frl
        have freshlo := freshl
        let HL := H'
        have freshl : ∀ a ∈ (p_told :: (p_found :: S)), a ∉ (p_told :: (p_found :: S)) → H' a = none := fun a m n => absurd m n
        have frl : Fr (p_told :: (p_found :: S)) HL H' := Fr.refl (T := (p_told :: (p_found :: S))) H'
        have tsl := ts
        have subl : Sub (p_told :: (p_found :: S)) (p_told :: (p_found :: S)) := fun a m => m
        have iml_told := im_told
        have iml_found := im_found
        have h_mark : (tStr : Ty K Str).rp (p_told :: (p_found :: S)) H' v_mark mark_9 := h_mark
        obtain ⟨a10, e11, hm⟩ := bd_some hm
        obtain ⟨i11, i11, hm⟩ := bd_some hm
        obtain ⟨found_12, f11, hm⟩ := bd_some hm
        refine l_dput (ck := (tStr : Ty K Str)) (T := []) dm o_found im_found nt_found ts rfl (ev_bool (K := K)) e11 (ev_var ts h_mark rfl) i11 f11 (fun H11 s11 frx11 o_found => ?_)
        have fr0 := fr0.mut Dom.nil n0_found s11
        have frl := frl.trans (s11.fr iml_found)
        have dm := dm.fx frx11 s11
        have h_self := ((tO ev.C_Survey svT) : Ty K Sv).mono (S := (p_told :: (p_found :: S))) frx11 h_self
        have h_near := ((tD Str (tL tStr)) : Ty K (List (Str × (List Str)))).mono (S := (p_told :: (p_found :: S))) frx11 h_near
        have o_told := o_told.mut frx11 s11 ne_told_found
        have h_name := (tStr : Ty K Str).mono (S := (p_told :: (p_found :: S))) frx11 h_name
        have h_piece := ((tL tStr) : Ty K (List Str)).mono (S := (p_told :: (p_found :: S))) frx11 h_piece
        have h_mark := (tStr : Ty K Str).mono (S := (p_told :: (p_found :: S))) frx11 h_mark
        cases hm
        exact ⟨_, rfl, frl, ⟨frlo.transx frl freshlo, v_self, v_near, v_name, v_piece, _, rfl, fr0, dm, h_self, h_near, o_told, h_name, h_piece, o_found⟩⟩
      subst er
      have hm := hm9
      obtain ⟨frl, v_self, v_near, v_name, v_piece, f_6, rfl, fr0, dm, h_self, h_near, o_told, h_name, h_piece, o_found⟩ := hI
      cases hm
      exact rest _ _ ⟨frl, v_self, v_near, v_name, _, _, rfl, fr0, dm, h_self, h_near, h_name, o_told, o_found⟩
    · skip
      subst hc
      have hm := if_f hm
      have fr0 := fr0.trans (Fr.same s5)
      have dm := dm.same s5
      have frl := frl.trans (Fr.same s5)
      have h_self := ((tO ev.C_Survey svT) : Ty K Sv).mono (S := (p_told :: (p_found :: S))) (Fr.same s5) h_self
      have h_near := ((tD Str (tL tStr)) : Ty K (List (Str × (List Str)))).mono (S := (p_told :: (p_found :: S))) (Fr.same s5) h_near
      have o_told := o_told.same s5
      have o_found := o_found.same s5
      have h_name := (tStr : Ty K Str).mono (S := (p_told :: (p_found :: S))) (Fr.same s5) h_name
      cases hm
      exact rest _ _ ⟨frl, v_self, v_near, v_name, _, _, rfl, fr0, dm, h_self, h_near, h_name, o_told, o_found⟩
  subst er
  have hm := hm4
  obtain ⟨v_self, v_near, f_4, f_5, f_6, rfl, fr0, dm, h_self, h_near, o_told, o_found⟩ := hI
  have er := hm
  cases er
  exact ⟨_, rfl, q _ _ fr0.toSame ⟨p_told, rfl, n0_told, o_told.sub (cons_sub im_told sub0)⟩⟩
def m_Survey_loose (d_self : Sv) : Option (List Str) :=
  (bd (some []) fun told_1 => (bd (bd (some d_self) fun x => m_Survey_pieces x) fun xs8 => bd (loopC (ρ := (List Str)) (fun s_2 piece_2 => (bd (bd (bd (some piece_2) fun xs => mapL? (fun name_3 => (bd (bd (bd (some d_self) fun x => some x.1) fun d => bd (some name_3) fun k => getK d k) fun x => some x.isNone)) xs) fun x => some (x.all id)) fun c4 => (bd (if c4 then (bd (some piece_2) fun a5 => (bd (ext? s_2 a5) fun told_6 => some told_6)) else some s_2) fun j7 => some (Ct.go j7)))) xs8 told_1) fun r_2 => match r_2 with | .ret y => some y | .go t_2 => (bd (some t_2) fun x => some (sortBy ltS x)) | .brk _ => none))
abbrev sp_Survey_loose (K : PySem.W.Frag) (CS : Addr) : Sp := spF (K := K) (aCons (tO CS svT) aNil) (fun S => nw (K := K) tStr S) (fun a => m_Survey_loose a.1)
theorem ok_Survey_loose (ev : Env P K mg) : FnOk P w K mg base CX0 3 ev.f_Survey_loose ev.d_Survey_loose p_Survey_loose (sp_Survey_loose K ev.C_Survey) := by
  refine ev.A_Survey_loose.F.ok sc_Survey_loose (fun vs H Q E h => ?_) (fun cdv A outer s H0 vs Q E hr h => ?_)
  · obtain ⟨S, ⟨d_self, _⟩, y, _, ⟨v_self, _, rfl, h_self, rfl⟩, _⟩ := h
    rfl
  obtain ⟨S, ⟨d_self, _⟩, y, dm, ⟨v_self, _, rfl, h_self, rfl⟩, hm, q⟩ := h
  have ts : Sub [] S := fun a m => by simp at m
  have fr0 := Fr.refl (T := []) H0
  have sub0 : Sub S S := fun a m => m
  refine ⟨_, (pss_cons (ps_set (i := 1) sc_Survey_loose.nd rfl (Or.inl rfl) (pe_lst pa_nil))
    (pss_cons (ps_for PassesOwn.never rfl (pi_list (pe_meth0 (pv 0) ev.cl_Survey ev.A_Survey_pieces.me (ok_Survey_pieces ev) (hr.mono (by decide)) ev.A_Survey_pieces.b .nil pass0)) (pg_name (i := 2) sc_Survey_loose.nd rfl (Or.inl rfl))
    (pss_one (ps_if (pt_val (pe_callB (cr_all rfl) (by rfl) ev.B.all_ (by decide +kernel) (pa_cons (pe_lc (own := [("name", 3)]) (g := gName 3) (tt := tYes) (by rfl) sc_Survey_loose.nd (pi_list (pv 2)) (blkOk_by (own := [("name", 3)]) (N := n_Survey_loose) (sc := defScope s_Survey_loose) (by decide +kernel)) (fun _ _ _ _ _ => pg_name (i := 3) sc_Survey_loose.nd rfl (Or.inl rfl)) (fun _ _ _ _ _ => pts_nil) (fun _ _ _ _ _ => (pe_cmpR op_isN (pe_dget (hu_of hr) (show PE _ _ (tFld K _ _) from (pe_fld (pv 0) (by rfl))) (pv 3) (fun _ _ => rfl)) pe_non (nomark _)))) pa_nil)))
    (pss_one (ps_expr (pe_bm PySem.F.plainAttrs_list PySem.F.slot_list_extend PySem.F.type_list_extend mt_extend (pv 1) (pa_cons (pv 2) pa_nil)))) pss_nil)))
    (pss_one (ps_ret (pe_callB (cr_sortA hr.units65) (by rfl) ev.B.sorted_ (by decide +kernel) (pa_cons (pv 1) pa_nil)))))), ?_⟩
  dsimp only [m_Survey_loose] at hm
  obtain ⟨told_1, e1, hm⟩ := bd_some hm
  refine q_asg (T := []) dm (ev_lst0 (a := (tStr : Ty K Str))) e1 (fun v_told H1 s1 hx => ?_)
  obtain ⟨p_told, rfl, np_told, o_told⟩ := hx
  have ns_told : p_told ∉ S := dm.not_mem np_told
  have nb_told : p_told ∉ S := fun m => ns_told (sub0 _ m)
  have n0_told := fr_back fr0 Dom.nil np_told
  have nt_told := (Dom.nil (H := H0)).not_mem n0_told
  have fr0 := fr0.trans (Fr.same s1)
  have h_self := ((tO ev.C_Survey svT) : Ty K Sv).mono (Fr.same s1) (((tO ev.C_Survey svT) : Ty K Sv).ext (S := S) np_told h_self)
  have dm := (dm.same s1).cons o_told.choose_spec.1
  have ts := sub_cons (p := p_told) ts
  have sub0 := sub_cons (p := p_told) sub0
  have im_told : p_told ∈ p_told :: S := List.mem_cons_self ..
  obtain ⟨xs8, e_xs8, hm⟩ := bd_some hm
  obtain ⟨r_2, el2, hm2⟩ := bd_some hm
  refine q_for_s (T := []) dm (sr_list (ev_new (ev_methO0 (f := fun a => m_Survey_pieces a.1) (fno_cons (by decide +kernel) (fno_cons (by decide +kernel) fno_nil)) (ev_var ts h_self rfl)))) e_xs8 el2 (fun s_2 σ' H' => ∃ v_self : V, ∃ f_2 : Option V, ∃ f_3 : Option V, σ' = [some v_self, some (.ref p_told), f_2, f_3] ∧ Fr [] H0 H' ∧ Dom (p_told :: S) H' ∧ ((tO ev.C_Survey svT) : Ty K Sv).rp (p_told :: S) H' v_self d_self ∧ Own (tStr : Ty K Str) (p_told :: S) H' p_told s_2) (fun H2 s2 => ?_) (fun hd2 s_2 piece_2 cr2 v_piece σ' H' hI h_piece hx2 hm hret2 hbrk2 => ?_) (fun t_2 σ' H' er hI => ?_)
  · skip
    have fr0 := fr0.trans (Fr.same s2)
    have dm := dm.same s2
    have h_self := ((tO ev.C_Survey svT) : Ty K Sv).mono (S := (p_told :: S)) (Fr.same s2) h_self
    have o_told := o_told.same s2
    exact ⟨v_self, _, _, rfl, fr0, dm, h_self, o_told⟩
  · skip
    obtain ⟨v_self, f_2, f_3, rfl, fr0, dm, h_self, o_told⟩ := hI
    let HL := H'
    have freshl : ∀ a ∈ (p_told :: S), a ∉ (p_told :: S) → H' a = none := fun a m n => absurd m n
    have frl : Fr (p_told :: S) HL H' := Fr.refl (T := (p_told :: S)) H'
    have tsl := ts
    have subl : Sub (p_told :: S) (p_told :: S) := fun a m => m
    have iml_told := im_told
    have h_piece : ((tL tStr) : Ty K (List Str)).rp (p_told :: S) H' v_piece piece_2 := h_piece
    obtain ⟨c4, e4, hm⟩ := bd_some hm
    obtain ⟨j7, ej4, hm⟩ := bd_some hm
    refine seq_last (fun σ' H' => Fr (p_told :: S) HL H' ∧ ∃ v_self : V, ∃ v_piece : V, ∃ f_3 : Option V, σ' = [some v_self, some (.ref p_told), some v_piece, f_3] ∧ Fr [] H0 H' ∧ Dom (p_told :: S) H' ∧ ((tO ev.C_Survey svT) : Ty K Sv).rp (p_told :: S) H' v_self d_self ∧ ((tL tStr) : Ty K (List Str)).rp (p_told :: S) H' v_piece piece_2 ∧ Own (tStr : Ty K Str) (p_told :: S) H' p_told j7) (fun σ' H' hI => ?_) (fun rest => ?_)
    · skip
      obtain ⟨frl, v_self, v_piece, f_3, rfl, fr0, dm, h_self, h_piece, o_told⟩ := hI
      cases hm
      exact ⟨_, rfl, frl, ⟨v_self, _, _, rfl, fr0, dm, h_self, o_told⟩⟩
    have hm := ej4
    refine l_if (T := []) dm (eb_B (K := K) (ev_all (ev_new (ev_lc (sr_list (ev_var ts h_piece rfl)) (fun v => by rfl) (fun name_3 v_name H2' H' p' fr' nD' sm' h_name => by have h_self := ((tO ev.C_Survey svT) : Ty K Sv).mono (Fr.same sm') (((tO ev.C_Survey svT) : Ty K Sv).ext (S := (p_told :: S)) nD' (((tO ev.C_Survey svT) : Ty K Sv).mono (Fr.sub ts fr') h_self)); have h_piece := ((tL tStr) : Ty K (List Str)).mono (Fr.same sm') (((tL tStr) : Ty K (List Str)).ext (S := (p_told :: S)) nD' (((tL tStr) : Ty K (List Str)).mono (Fr.sub ts fr') h_piece)); have ts0' := ts; have ts : Sub [] (p' :: (p_told :: S)) := (fun a m => by simp at m);  have o_told := ((o_told.fr fr' ts0' nt_told).ext nD').same sm'; have nt_told : p_told ∉ [] := (by simp); exact (ev_isNe (a := ((tT2 tInt tInt) : Ty K (Int × Int))) (ev_dget (ck := (tStr : Ty K Str)) (ev_fldO (b' := ((tD Str (tOpt (tT2 tInt tInt))) : Ty K (List (Str × (Option (Int × Int)))))) ev.cl_Survey ev.n_own_marks fget_here (ev_var ts h_self rfl)) (ev_var ts h_name rfl)))))))) e4 (fun hc H4 s4 => ?_) (fun hc H4 s4 => ?_)
    · skip
      subst hc
      have hm := if_t hm
      have fr0 := fr0.trans (Fr.same s4)
      have dm := dm.same s4
      have frl := frl.trans (Fr.same s4)
      have h_self := ((tO ev.C_Survey svT) : Ty K Sv).mono (S := (p_told :: S)) (Fr.same s4) h_self
      have o_told := o_told.same s4
      have h_piece := ((tL tStr) : Ty K (List Str)).mono (S := (p_told :: S)) (Fr.same s4) h_piece
      obtain ⟨a5, e5, hm⟩ := bd_some hm
      obtain ⟨told_6, f5, hm⟩ := bd_some hm
      refine l_ext (T := []) dm o_told im_told nt_told ts rfl (ev_var ts h_piece rfl) e5 f5 (fun H5 s5 frx5 o_told => ?_)
      have fr0 := fr0.mut Dom.nil n0_told s5
      have frl := frl.trans (s5.fr iml_told)
      have dm := dm.fx frx5 s5
      have h_self := ((tO ev.C_Survey svT) : Ty K Sv).mono (S := (p_told :: S)) frx5 h_self
      have h_piece := ((tL tStr) : Ty K (List Str)).mono (S := (p_told :: S)) frx5 h_piece
      cases hm
      exact rest _ _ ⟨frl, v_self, v_piece, _, rfl, fr0, dm, h_self, h_piece, o_told⟩
    · skip
      subst hc
      have hm := if_f hm
      have fr0 := fr0.trans (Fr.same s4)
      have dm := dm.same s4
      have frl := frl.trans (Fr.same s4)
      have h_self := ((tO ev.C_Survey svT) : Ty K Sv).mono (S := (p_told :: S)) (Fr.same s4) h_self
      have o_told := o_told.same s4
      have h_piece := ((tL tStr) : Ty K (List Str)).mono (S := (p_told :: S)) (Fr.same s4) h_piece
      cases hm
      exact rest _ _ ⟨frl, v_self, v_piece, _, rfl, fr0, dm, h_self, h_piece, o_told⟩
  subst er
  have hm := hm2
  obtain ⟨v_self, f_2, f_3, rfl, fr0, dm, h_self, o_told⟩ := hI
  have sbz : Sub S (p_told :: S) := (sub_cons (fun a m => m))
  have nfz : p_told ∉ S := by first | exact ns_told | (have h := ns_told; simp only [List.mem_cons, not_or] at h ⊢; grind)
  have h_told := o_told.frz sbz nfz
  have dm := dm.sub sbz
  have h_self := ((tO ev.C_Survey svT) : Ty K Sv).sub sbz h_self
  have ts : Sub [] S := fun a m => by have h1 := ts a m; have h2 : a ≠ p_told := (fun e => nt_told (e ▸ m)); simp only [List.mem_cons] at h1 ⊢; grind
  have sub0 : Sub S S := fun a m => by have h1 := sub0 a m; have h2 : a ≠ p_told := (fun e => nb_told (e ▸ m)); simp only [List.mem_cons] at h1 ⊢; grind
  have er := hm
  exact q_ret (T := []) dm (ev_sortBy (d := dStr) (Nat.le_of_ble_eq_true rfl) lt_S srt_S (ev_var ts h_told rfl)) er (fun v H9 s9 hv => q v H9 (fr0.trans (Fr.same s9)).toSame (nwL.sub hv sub0 fr0 Dom.nil))
end
end G

namespace G
open PySem L2 M
section
variable {P : Program} {w : World} {K : PySem.W.Frag} {mg : Str → Option Value} {base : Heap}

/-- the refusals by their numbers -/
def Env.cl {P : Program} {K : PySem.W.Frag} {mg : Str → Option Value} (ev : Env P K mg) : Nat → Addr × Str
  | _ => (ev.C_NoMark, "name")

def m_Survey_hangs (d_self : Sv) (d_name : Str) : Option (Rf ⊕ Bool) :=
  (bd (bd (some d_name) fun k => bd (bd (some d_self) fun x => some x.1) fun d => some (!(getK d k).isSome)) fun c1 => if c1 then (bd (bd (some d_name) rfs?) fun z => some (Sum.inl (0, z))) else (bd (bd (some d_name) fun x => bd (bd (some d_self) fun x => m_Survey_loose x) fun y => some (!memD x y)) fun z => some (Sum.inr z)))
abbrev sp_Survey_hangs (K : PySem.W.Frag) (CS : Addr) (cl : Nat → Addr × Str) : Sp := spX (K := K) (aCons (tO CS svT) (aCons tStr aNil)) (fun S => of (K := K) tBool S) cl (fun a => m_Survey_hangs a.1 a.2.1)
theorem ok_Survey_hangs (ev : Env P K mg) : FnOk P w K mg base (L2.CX P w) 4 ev.f_Survey_hangs ev.d_Survey_hangs p_Survey_hangs (sp_Survey_hangs K ev.C_Survey ev.cl) := by
  refine ev.A_Survey_hangs.F.okX sc_Survey_hangs (fun vs H Q E h => ?_) (fun cdv A outer s H0 vs Q E hr h => ?_)
  · obtain ⟨S, ⟨d_self, d_name, _⟩, y, _, ⟨v_self, _, rfl, h_self, v_name, _, rfl, h_name, rfl⟩, _⟩ := h
    rfl
  obtain ⟨S, ⟨d_self, d_name, _⟩, y, dm, ⟨v_self, _, rfl, h_self, v_name, _, rfl, h_name, rfl⟩, hm, q, qx⟩ := h
  have ts : Sub [] S := fun a m => by simp at m
  have fr0 := Fr.refl (T := []) H0
  have sub0 : Sub S S := fun a m => m
  refine ⟨_, (pss_cons (ps_if (pt_cmp (pc_dnotin (hu_of hr) (pv 1) (pe_fld (pv 0) (by rfl))))
    (pss_one (ps_raiseE rfl ev.X_NoMark hr (takes_of rfl rfl rfl rfl) (pa_cons (pv 1) pa_nil) (by exact rfl))) pss_nil)
    (pss_one (ps_ret (pe_cmpR (op_notInD hr.units65) (pv 1) (pe_meth0 (pv 0) ev.cl_Survey ev.A_Survey_loose.me (ok_Survey_loose ev) (hr.mono (by decide)) ev.A_Survey_loose.b .nil pass0) (by rfl))))), ?_⟩
  dsimp only [m_Survey_hangs] at hm
  obtain ⟨c1, e1, hm⟩ := bd_some hm
  refine q_if (T := []) dm (eb_test (K := K) (ev_dnotin (ck := (tStr : Ty K Str)) (ev_var ts h_name rfl) (ev_fldO (b' := ((tD Str (tOpt (tT2 tInt tInt))) : Ty K (List (Str × (Option (Int × Int)))))) ev.cl_Survey ev.n_own_marks fget_here (ev_var ts h_self rfl)))) e1 (fun hc H1 s1 => ?_) (fun hc H1 s1 => ?_)
  · skip
    subst hc
    have hm := if_t hm
    have fr0 := fr0.trans (Fr.same s1)
    have dm := dm.same s1
    have h_self := ((tO ev.C_Survey svT) : Ty K Sv).mono (S := S) (Fr.same s1) h_self
    have h_name := (tStr : Ty K Str).mono (S := S) (Fr.same s1) h_name
    have er := hm
    obtain ⟨z8, er8, ez⟩ := bd_some er
    clear er
    cases ez
    have er := er8
    exact l_raiseE (K := K) (fun z h => .inl ⟨z, rfl, h⟩) (T := []) dm (ev_var ts h_name rfl) er (fun H1 dd s1 nd => qx _ rfl H1 dd (fr0.toSame.trans s1) nd)
  subst hc
  have hm := if_f hm
  have fr0 := fr0.trans (Fr.same s1)
  have dm := dm.same s1
  have h_self := ((tO ev.C_Survey svT) : Ty K Sv).mono (S := S) (Fr.same s1) h_self
  have h_name := (tStr : Ty K Str).mono (S := S) (Fr.same s1) h_name
  refine q_next ?_
  have er := hm
  obtain ⟨z8, er8, ez⟩ := bd_some er
  clear er
  cases ez
  have er := er8
  exact q_ret (T := []) dm (ev_op (od_notInD (K := K) dStr (Nat.le_of_ble_eq_true rfl)) (ev_var ts h_name rfl) (ev_new (ev_methO0 (f := fun a => m_Survey_loose a.1) (fno_cons (by decide +kernel) (fno_cons (by decide +kernel) fno_nil)) (ev_var ts h_self rfl)))) er (fun v H2 s2 hv => q _ rfl v H2 (fr0.trans (Fr.same s2)).toSame ((tBool : Ty K Bool).sub (S := S) (H := H2) sub0 hv))
end
end G

namespace G
open PySem L2 M
section
variable {P : Program} {w : World} {K : PySem.W.Frag} {mg : Str → Option Value} {base : Heap}

theorem look1 (f : Str) (v : V) : List.lookup f [(f, v)] = some v := by simp [List.lookup]
theorem hangs_inl {x : Sv} {n : Str} {e : Rf} (h : m_Survey_hangs x n = some (.inl e)) : e = (0, n) := by
  unfold m_Survey_hangs at h
  obtain ⟨c, ec, h⟩ := bd_some h
  cases c with
  | true =>
    obtain ⟨z, ez, h⟩ := bd_some (if_t h)
    obtain ⟨n', en, ez⟩ := bd_some ez
    cases en
    unfold rfs? at ez
    split at ez
    · cases ez
      cases h
      rfl
    · cases ez
  | false =>
    obtain ⟨z, ez, h⟩ := bd_some (if_f h)
    cases h
abbrev Hg : Type := Bool ⊕ Str
def m_law_hang (x : Sv) (n : Str) : Option Hg :=
  bd (m_Survey_hangs x n) fun r => match r with
    | .inl e => some (.inr e.2)
    | .inr z => some (.inl z)
abbrev sp_law_hang (K : PySem.W.Frag) (CS : Addr) : Sp := spF (K := K) (aCons (tO CS svT) (aCons tStr aNil)) (fun S => of (K := K) (tU tBool tStr) S) (fun a => m_law_hang a.1 a.2.1)
set_option maxHeartbeats 400000 in
theorem ok_law_hang (ev : Env P K mg) : FnOk P w K mg base CX0 6 ev.f_law_hang ev.d_law_hang p_law_hang (sp_law_hang K ev.C_Survey) := by
  refine ev.A_law_hang.F.ok sc_law_hang (fun vs H Q E h => ?_) (fun cdv A outer s H0 vs Q E hr h => ?_)
  · obtain ⟨S, ⟨x, n, _⟩, y, _, ⟨v0, _, rfl, _, v1, _, rfl, _, rfl⟩, _⟩ := h
    rfl
  obtain ⟨S, ⟨x, n, _⟩, y, dm, ⟨v_s, _, rfl, h_s, v_n, _, rfl, h_n, rfl⟩, hm, q⟩ := h
  obtain ⟨_, _, _, _, _, _, _, _, X0⟩ := ev.X_NoMark
  refine ⟨_, pss_cons (ps_set (i := 2) sc_law_hang.nd rfl (Or.inl rfl) pe_non)
    (pss_cons (L2.ps_try_as (i := 3) (n := "e") (c := .ref ev.C_NoMark) (ts := fun a cls d => tAsg (tXf a cls d ev.C_NoMark "name" (tVar 3)) (gName 2)) (Wout := fun _ _ _ _ => False) rfl rfl sc_law_hang.nd rfl rfl ⟨rfl, by decide, Or.inl X0.2.1.gC⟩ takes0
      (fun W pn xe tk po => pss_one (ps_set (i := 2) sc_law_hang.nd rfl (Or.inl rfl) (pe_methX (pv 0) ev.cl_Survey ev.A_Survey_hangs.me (ok_Survey_hangs ev) (hr.mono (by decide)) ev.A_Survey_hangs.b (fun σ => passAt tk σ) (pa_cons (pv 1) pa_nil))))
      (fun a oe cls d pn hz hf => pss_one (ps_set (i := 2) sc_law_hang.nd rfl (Or.inl rfl) (pe_xf (C := ev.C_NoMark) X0.2.2.1 X0.2.2.2.1 hz hf (pv 3)))))
    (pss_one (ps_ret (pv 2)))), ?_⟩
  refine seq_c ?_
  have ts : Sub [] S := fun a m => by simp at m
  dsimp only at hm h_s h_n
  unfold m_law_hang at hm
  obtain ⟨r, er, hm⟩ := bd_some hm
  refine (ev_fnX1 (f := fun a : Sv × Str × Unit => m_Survey_hangs a.1 a.2.1) (fno_cons (by decide +kernel) (fno_cons (by decide +kernel) fno_nil)) (ev_var ts h_s rfl) (ev_var ts h_n rfl)) r (show (bd (some x) fun x => bd (some n) fun y => m_Survey_hangs x y) = some r from er) H0 (Fr.refl _) dm _ (fun z ez v H2 s2 hv => ?_) (fun e ee => ?_)
  · subst ez
    cases hm
    exact ⟨_, rfl, q _ _ s2 hv⟩
  · subst ee
    cases hm
    cases hangs_inl er
    intro H' d s' nd
    refine ⟨true, ev.xm_NM, fun _ a na => ?_, fun z => Bool.noConfusion z⟩
    refine ⟨_, rfl, rfl, rfl, d, _, _, rfl, upd_same, look1 _ _, ⟨_, rfl, q _ _ (s'.trans (same_upd nd)) ⟨rfl, h_n.2⟩⟩⟩

end
end G

namespace G
open PySem L2 M
section
variable {P : Program} {w : World} {K : PySem.W.Frag} {mg : Str → Option Value} {base : Heap}

def m_law_tied (d_law_names_here : (List Str)) (d_law_readings_here : (List (Int × (Str × Str × Int × Int × Int × Unit)))) : Option (List (Str × Str)) :=
  (bd (some []) fun law_heads_1 => (bd (some d_law_names_here) fun xs18 => bd (loopC (ρ := (List (Str × Str))) (fun s_2 law_name_here_2 => (bd (some law_name_here_2) fun a3 => (bd (some law_name_here_2) fun i4 => (bd (putL? s_2 i4 a3) fun law_heads_5 => some (Ct.go law_heads_5))))) xs18 law_heads_1) fun r_2 => match r_2 with | .ret y => some y | .go t_2 => (bd (bd (some d_law_readings_here) ksI?) fun xs17 => bd (loopC (ρ := (List (Str × Str))) (fun s_6 law_number_6 => (bd (bd (bd (some d_law_readings_here) fun d => bd (some law_number_6) fun k => getK d k) fun x => some (x.1, x.2.1, ())) fun u_7 => (bd (bd (some u_7.1) fun y => getK s_6 y) fun law_one_8 => (bd (bd (some u_7.2.1) fun y => getK s_6 y) fun law_two_9 => (bd (some d_law_names_here) fun xs16 => bd (loopC (ρ := (List (Str × Str))) (fun s_10 law_name_here_10 => (bd (bd (bd (some s_10) fun d => bd (some law_name_here_10) fun k => getK d k) fun x => bd (bd (some law_one_8) fun x => bd (bd (some law_two_9) fun x => bd (some []) fun y => some (x :: y)) fun y => some (x :: y)) fun y => some (memD x y)) fun c11 => (bd (if c11 then (bd (bd (some law_one_8) fun x => bd (some law_two_9) fun y => some (minS x y)) fun a12 => (bd (some law_name_here_10) fun i13 => (bd (putL? s_10 i13 a12) fun law_heads_14 => some law_heads_14))) else some s_10) fun j15 => some (Ct.go j15)))) xs16 s_6) fun r_10 => match r_10 with | .ret y => some (Ct.ret y) | .go t_10 => some (Ct.go t_10) | .brk _ => none))))) xs17 t_2) fun r_6 => match r_6 with | .ret y => some y | .go t_6 => (some t_6) | .brk _ => none) | .brk _ => none))
abbrev sp_law_tied (K : PySem.W.Frag) : Sp := spF (K := K) (aCons (tL tStr) (aCons (tD Int (tTu (aCons tStr (aCons tStr (aCons tInt (aCons tInt (aCons tInt aNil))))))) aNil)) (fun S => nwd (K := K) (κ := Str) tStr S) (fun a => m_law_tied a.1 a.2.1)
theorem ok_law_tied (ev : Env P K mg) : FnOk P w K mg base CX0 1 ev.f_law_tied ev.d_law_tied p_law_tied (sp_law_tied K) := by
  refine ev.A_law_tied.F.ok sc_law_tied (fun vs H Q E h => ?_) (fun cdv A outer s H0 vs Q E hr h => ?_)
  · obtain ⟨S, ⟨d_law_names_here, d_law_readings_here, _⟩, y, _, ⟨v_law_names_here, _, rfl, h_law_names_here, v_law_readings_here, _, rfl, h_law_readings_here, rfl⟩, _⟩ := h
    rfl
  obtain ⟨S, ⟨d_law_names_here, d_law_readings_here, _⟩, y, dm, ⟨v_law_names_here, _, rfl, h_law_names_here, v_law_readings_here, _, rfl, h_law_readings_here, rfl⟩, hm, q⟩ := h
  have ts : Sub [] S := fun a m => by simp at m
  have fr0 := Fr.refl (T := []) H0
  have sub0 : Sub S S := fun a m => m
  refine ⟨_, (pss_cons (ps_set (i := 2) sc_law_tied.nd rfl (Or.inl rfl) pe_dnewK)
    (pss_cons (ps_for PassesOwn.never rfl (pi_list (pv 0)) (pg_name (i := 3) sc_law_tied.nd rfl (Or.inl rfl))
    (pss_one (ps_dput (hu_of hr) (pv 2) (pv 3) (pv 3) (by rfl))))
    (pss_cons (ps_for PassesOwn.never rfl (pi_list (pe_callB (cr_srtDI rfl) (by rfl) ev.B.sorted_ (by decide +kernel) (pa_cons (pv 1) pa_nil))) (pg_name (i := 4) sc_law_tied.nd rfl (Or.inl rfl))
    (pss_cons (ps_asg (pe_slice sl_tup (pe_dget (hu_of hr) (pv 1) (pv 4) (fun _ _ => rfl)) po_none (po_some pe_int)) (pg_tup rfl (pgs_cons (pg_name (i := 5) sc_law_tied.nd rfl (Or.inl rfl)) (pgs_cons (pg_name (i := 6) sc_law_tied.nd rfl (Or.inl rfl)) pgs_nil))))
    (pss_cons (ps_par (i := 5) (j := 6) (by rfl) sc_law_tied.nd rfl rfl (by decide) rfl rfl (pa_cons (pe_dget (hu_of hr) (pv 2) (pv 5) (fun _ _ => rfl)) (pa_cons (pe_dget (hu_of hr) (pv 2) (pv 6) (fun _ _ => rfl)) pa_nil)) (by rfl))
    (pss_one (ps_for PassesOwn.never rfl (pi_list (pv 0)) (pg_name (i := 3) sc_law_tied.nd rfl (Or.inl rfl))
    (pss_one (ps_if (pt_cmpR (op_inD hr.units65) (pe_dget (hu_of hr) (pv 2) (pv 3) (fun _ _ => rfl)) (pe_lst (pa_cons (pv 5) (pa_cons (pv 6) pa_nil))) (by rfl))
    (pss_one (ps_dput (hu_of hr) (pv 2) (pv 3) (pe_callB (call_minT rfl) (by rfl) ev.B.min_ (by decide +kernel) (pa_cons (pv 5) (pa_cons (pv 6) pa_nil))) (by rfl))) pss_nil)))))))
    (pss_one (ps_ret (pv 2)))))), ?_⟩
  dsimp only [m_law_tied] at hm
  obtain ⟨law_heads_1, e1, hm⟩ := bd_some hm
  refine q_asg (T := []) dm (ev_dnew (κ := Str) (b' := (tStr : Ty K Str))) e1 (fun v_law_heads H1 s1 hx => ?_)
  obtain ⟨p_law_heads, rfl, np_law_heads, o_law_heads⟩ := hx
  have ns_law_heads : p_law_heads ∉ S := dm.not_mem np_law_heads
  have nb_law_heads : p_law_heads ∉ S := fun m => ns_law_heads (sub0 _ m)
  have n0_law_heads := fr_back fr0 Dom.nil np_law_heads
  have nt_law_heads := (Dom.nil (H := H0)).not_mem n0_law_heads
  have fr0 := fr0.trans (Fr.same s1)
  have h_law_names_here := ((tL tStr) : Ty K (List Str)).mono (Fr.same s1) (((tL tStr) : Ty K (List Str)).ext (S := S) np_law_heads h_law_names_here)
  have h_law_readings_here := ((tD Int (tTu (aCons tStr (aCons tStr (aCons tInt (aCons tInt (aCons tInt aNil))))))) : Ty K (List (Int × (Str × Str × Int × Int × Int × Unit)))).mono (Fr.same s1) (((tD Int (tTu (aCons tStr (aCons tStr (aCons tInt (aCons tInt (aCons tInt aNil))))))) : Ty K (List (Int × (Str × Str × Int × Int × Int × Unit)))).ext (S := S) np_law_heads h_law_readings_here)
  have dm := (dm.same s1).cons o_law_heads.choose_spec.1
  have ts := sub_cons (p := p_law_heads) ts
  have sub0 := sub_cons (p := p_law_heads) sub0
  have im_law_heads : p_law_heads ∈ p_law_heads :: S := List.mem_cons_self ..
  obtain ⟨xs18, e_xs18, hm⟩ := bd_some hm
  obtain ⟨r_2, el2, hm2⟩ := bd_some hm
  refine q_for_s (T := []) dm (sr_list (ev_var ts h_law_names_here rfl)) e_xs18 el2 (fun s_2 σ' H' => ∃ v_law_names_here : V, ∃ v_law_readings_here : V, ∃ f_3 : Option V, ∃ f_4 : Option V, ∃ f_5 : Option V, ∃ f_6 : Option V, σ' = [some v_law_names_here, some v_law_readings_here, some (.ref p_law_heads), f_3, f_4, f_5, f_6] ∧ Fr [] H0 H' ∧ Dom (p_law_heads :: S) H' ∧ ((tL tStr) : Ty K (List Str)).rp (p_law_heads :: S) H' v_law_names_here d_law_names_here ∧ ((tD Int (tTu (aCons tStr (aCons tStr (aCons tInt (aCons tInt (aCons tInt aNil))))))) : Ty K (List (Int × (Str × Str × Int × Int × Int × Unit)))).rp (p_law_heads :: S) H' v_law_readings_here d_law_readings_here ∧ OwnD (tStr : Ty K Str) (p_law_heads :: S) H' p_law_heads s_2) (fun H2 s2 => ?_) (fun hd2 s_2 law_name_here_2 cr2 v_law_name_here σ' H' hI h_law_name_here hx2 hm hret2 hbrk2 => ?_) (fun t_2 σ' H' er hI => ?_)
  · skip
    have fr0 := fr0.trans (Fr.same s2)
    have dm := dm.same s2
    have h_law_names_here := ((tL tStr) : Ty K (List Str)).mono (S := (p_law_heads :: S)) (Fr.same s2) h_law_names_here
    have h_law_readings_here := ((tD Int (tTu (aCons tStr (aCons tStr (aCons tInt (aCons tInt (aCons tInt aNil))))))) : Ty K (List (Int × (Str × Str × Int × Int × Int × Unit)))).mono (S := (p_law_heads :: S)) (Fr.same s2) h_law_readings_here
    have o_law_heads := o_law_heads.same s2
    exact ⟨v_law_names_here, v_law_readings_here, _, _, _, _, rfl, fr0, dm, h_law_names_here, h_law_readings_here, o_law_heads⟩
  · skip
    obtain ⟨v_law_names_here, v_law_readings_here, f_3, f_4, f_5, f_6, rfl, fr0, dm, h_law_names_here, h_law_readings_here, o_law_heads⟩ := hI
    let HL := H'
    have freshl : ∀ a ∈ (p_law_heads :: S), a ∉ (p_law_heads :: S) → H' a = none := fun a m n => absurd m n
    have frl : Fr (p_law_heads :: S) HL H' := Fr.refl (T := (p_law_heads :: S)) H'
    have tsl := ts
    have subl : Sub (p_law_heads :: S) (p_law_heads :: S) := fun a m => m
    have iml_law_heads := im_law_heads
    have h_law_name_here : (tStr : Ty K Str).rp (p_law_heads :: S) H' v_law_name_here law_name_here_2 := h_law_name_here
    obtain ⟨a3, e4, hm⟩ := bd_some hm
    obtain ⟨i4, i4, hm⟩ := bd_some hm
    obtain ⟨law_heads_5, f4, hm⟩ := bd_some hm
    refine l_dput (ck := (tStr : Ty K Str)) (T := []) dm o_law_heads im_law_heads nt_law_heads ts rfl (ev_var ts h_law_name_here rfl) e4 (ev_var ts h_law_name_here rfl) i4 f4 (fun H4 s4 frx4 o_law_heads => ?_)
    have fr0 := fr0.mut Dom.nil n0_law_heads s4
    have frl := frl.trans (s4.fr iml_law_heads)
    have dm := dm.fx frx4 s4
    have h_law_names_here := ((tL tStr) : Ty K (List Str)).mono (S := (p_law_heads :: S)) frx4 h_law_names_here
    have h_law_readings_here := ((tD Int (tTu (aCons tStr (aCons tStr (aCons tInt (aCons tInt (aCons tInt aNil))))))) : Ty K (List (Int × (Str × Str × Int × Int × Int × Unit)))).mono (S := (p_law_heads :: S)) frx4 h_law_readings_here
    have h_law_name_here := (tStr : Ty K Str).mono (S := (p_law_heads :: S)) frx4 h_law_name_here
    cases hm
    exact ⟨_, rfl, frl, ⟨v_law_names_here, v_law_readings_here, _, _, _, _, rfl, fr0, dm, h_law_names_here, h_law_readings_here, o_law_heads⟩⟩
  subst er
  have hm := hm2
  obtain ⟨v_law_names_here, v_law_readings_here, f_3, f_4, f_5, f_6, rfl, fr0, dm, h_law_names_here, h_law_readings_here, o_law_heads⟩ := hI
  obtain ⟨xs17, e_xs17, hm⟩ := bd_some hm
  obtain ⟨r_6, el6, hm6⟩ := bd_some hm
  refine q_for_s (T := []) dm (sr_list (ev_new (ev_srtDI (ev_var ts h_law_readings_here rfl)))) e_xs17 el6 (fun s_6 σ' H' => ∃ v_law_names_here : V, ∃ v_law_readings_here : V, ∃ f_3 : Option V, ∃ f_4 : Option V, ∃ f_5 : Option V, ∃ f_6 : Option V, σ' = [some v_law_names_here, some v_law_readings_here, some (.ref p_law_heads), f_3, f_4, f_5, f_6] ∧ Fr [] H0 H' ∧ Dom (p_law_heads :: S) H' ∧ ((tL tStr) : Ty K (List Str)).rp (p_law_heads :: S) H' v_law_names_here d_law_names_here ∧ ((tD Int (tTu (aCons tStr (aCons tStr (aCons tInt (aCons tInt (aCons tInt aNil))))))) : Ty K (List (Int × (Str × Str × Int × Int × Int × Unit)))).rp (p_law_heads :: S) H' v_law_readings_here d_law_readings_here ∧ OwnD (tStr : Ty K Str) (p_law_heads :: S) H' p_law_heads s_6) (fun H6 s6 => ?_) (fun hd6 s_6 law_number_6 cr6 v_law_number σ' H' hI h_law_number hx6 hm hret6 hbrk6 => ?_) (fun t_6 σ' H' er hI => ?_)
  · skip
    have fr0 := fr0.trans (Fr.same s6)
    have dm := dm.same s6
    have h_law_names_here := ((tL tStr) : Ty K (List Str)).mono (S := (p_law_heads :: S)) (Fr.same s6) h_law_names_here
    have h_law_readings_here := ((tD Int (tTu (aCons tStr (aCons tStr (aCons tInt (aCons tInt (aCons tInt aNil))))))) : Ty K (List (Int × (Str × Str × Int × Int × Int × Unit)))).mono (S := (p_law_heads :: S)) (Fr.same s6) h_law_readings_here
    have o_law_heads := o_law_heads.same s6
    exact ⟨v_law_names_here, v_law_readings_here, _, _, _, _, rfl, fr0, dm, h_law_names_here, h_law_readings_here, o_law_heads⟩
  · skip
    obtain ⟨v_law_names_here, v_law_readings_here, f_3, f_4, f_5, f_6, rfl, fr0, dm, h_law_names_here, h_law_readings_here, o_law_heads⟩ := hI
    let HL := H'
    have freshl : ∀ a ∈ (p_law_heads :: S), a ∉ (p_law_heads :: S) → H' a = none := fun a m n => absurd m n
    have frl : Fr (p_law_heads :: S) HL H' := Fr.refl (T := (p_law_heads :: S)) H'
    have tsl := ts
    have subl : Sub (p_law_heads :: S) (p_law_heads :: S) := fun a m => m
    have iml_law_heads := im_law_heads
    have h_law_number : (tInt : Ty K Int).rp (p_law_heads :: S) H' v_law_number law_number_6 := h_law_number
    obtain ⟨u_7, e7, hm⟩ := bd_some hm
    refine q_unpTu2 (K := K) (T := []) dm (ev_slTu (K := K) (tk_s (tk_s tk_0)) (ev_dget (ck := (tInt : Ty K Int)) (ev_var ts h_law_readings_here rfl) (ev_var ts h_law_number rfl))) e7 (fun v_law_one v_law_two H7 s7 h_law_one h_law_two => ?_)
    have fr0 := fr0.trans (Fr.same s7)
    have dm := dm.same s7
    have frl := frl.trans (Fr.same s7)
    have h_law_names_here := ((tL tStr) : Ty K (List Str)).mono (S := (p_law_heads :: S)) (Fr.same s7) h_law_names_here
    have h_law_readings_here := ((tD Int (tTu (aCons tStr (aCons tStr (aCons tInt (aCons tInt (aCons tInt aNil))))))) : Ty K (List (Int × (Str × Str × Int × Int × Int × Unit)))).mono (S := (p_law_heads :: S)) (Fr.same s7) h_law_readings_here
    have o_law_heads := o_law_heads.same s7
    have h_law_number := (tInt : Ty K Int).mono (S := (p_law_heads :: S)) (Fr.same s7) h_law_number
    obtain ⟨law_one_8, ea9, hm⟩ := bd_some hm
    obtain ⟨law_two_9, eb9, hm⟩ := bd_some hm
    refine q_par (T := []) dm (ev_ownDGet (ck := (tStr : Ty K Str)) o_law_heads nt_law_heads ts rfl (ev_var ts h_law_one rfl)) ea9 (ev_ownDGet (ck := (tStr : Ty K Str)) o_law_heads nt_law_heads ts rfl (ev_var ts h_law_two rfl)) eb9 (fun v_law_one v_law_two H9 s9 h_law_one h_law_two => ?_)
    have fr0 := fr0.trans (Fr.same s9)
    have dm := dm.same s9
    have frl := frl.trans (Fr.same s9)
    have h_law_names_here := ((tL tStr) : Ty K (List Str)).mono (S := (p_law_heads :: S)) (Fr.same s9) h_law_names_here
    have h_law_readings_here := ((tD Int (tTu (aCons tStr (aCons tStr (aCons tInt (aCons tInt (aCons tInt aNil))))))) : Ty K (List (Int × (Str × Str × Int × Int × Int × Unit)))).mono (S := (p_law_heads :: S)) (Fr.same s9) h_law_readings_here
    have o_law_heads := o_law_heads.same s9
    have h_law_number := (tInt : Ty K Int).mono (S := (p_law_heads :: S)) (Fr.same s9) h_law_number
    obtain ⟨xs16, e_xs16, hm⟩ := bd_some hm
    obtain ⟨r_10, el10, hm10⟩ := bd_some hm
    refine for_s (T := []) dm (sr_list (ev_var ts h_law_names_here rfl)) e_xs16 el10 (fun s_10 σ' H' => Fr (p_law_heads :: S) HL H' ∧ ∃ v_law_names_here : V, ∃ v_law_readings_here : V, ∃ v_law_number : V, ∃ v_law_one : V, ∃ v_law_two : V, ∃ f_3 : Option V, σ' = [some v_law_names_here, some v_law_readings_here, some (.ref p_law_heads), f_3, some v_law_number, some v_law_one, some v_law_two] ∧ Fr [] H0 H' ∧ Dom (p_law_heads :: S) H' ∧ ((tL tStr) : Ty K (List Str)).rp (p_law_heads :: S) H' v_law_names_here d_law_names_here ∧ ((tD Int (tTu (aCons tStr (aCons tStr (aCons tInt (aCons tInt (aCons tInt aNil))))))) : Ty K (List (Int × (Str × Str × Int × Int × Int × Unit)))).rp (p_law_heads :: S) H' v_law_readings_here d_law_readings_here ∧ (tInt : Ty K Int).rp (p_law_heads :: S) H' v_law_number law_number_6 ∧ (tStr : Ty K Str).rp (p_law_heads :: S) H' v_law_one law_one_8 ∧ (tStr : Ty K Str).rp (p_law_heads :: S) H' v_law_two law_two_9 ∧ OwnD (tStr : Ty K Str) (p_law_heads :: S) H' p_law_heads s_10) (fun H10 s10 => ?_) (fun hd10 s_10 law_name_here_10 cr10 v_law_name_here σ' H' hI h_law_name_here hx10 hm hret10 hbrk10 => ?_) (fun t_10 σ' H' er hI => ?_)
    · skip
      have fr0 := fr0.trans (Fr.same s10)
      have dm := dm.same s10
      have frl := frl.trans (Fr.same s10)
      have h_law_names_here := ((tL tStr) : Ty K (List Str)).mono (S := (p_law_heads :: S)) (Fr.same s10) h_law_names_here
      have h_law_readings_here := ((tD Int (tTu (aCons tStr (aCons tStr (aCons tInt (aCons tInt (aCons tInt aNil))))))) : Ty K (List (Int × (Str × Str × Int × Int × Int × Unit)))).mono (S := (p_law_heads :: S)) (Fr.same s10) h_law_readings_here
      have h_law_number := (tInt : Ty K Int).mono (S := (p_law_heads :: S)) (Fr.same s10) h_law_number
      have h_law_one := (tStr : Ty K Str).mono (S := (p_law_heads :: S)) (Fr.same s10) h_law_one
      have h_law_two := (tStr : Ty K Str).mono (S := (p_law_heads :: S)) (Fr.same s10) h_law_two
      have o_law_heads := o_law_heads.same s10
      exact ⟨frl, v_law_names_here, v_law_readings_here, v_law_number, v_law_one, v_law_two, _, rfl, fr0, dm, h_law_names_here, h_law_readings_here, h_law_number, h_law_one, h_law_two, o_law_heads⟩
    · skip
      obtain ⟨frl, v_law_names_here, v_law_readings_here, v_law_number, v_law_one, v_law_two, f_3, rfl, fr0, dm, h_law_names_here, h_law_readings_here, h_law_number, h_law_one, h_law_two, o_law_heads⟩ := hI
      have frlo := frl
      have freshlo := freshl
      let HL := H'
      have freshl : ∀ a ∈ (p_law_heads :: S), a ∉ (p_law_heads :: S) → H' a = none := fun a m n => absurd m n
      have frl : Fr (p_law_heads :: S) HL H' := Fr.refl (T := (p_law_heads :: S)) H'
      have tsl := ts
      have subl : Sub (p_law_heads :: S) (p_law_heads :: S) := fun a m => m
      have iml_law_heads := im_law_heads
      have h_law_name_here : (tStr : Ty K Str).rp (p_law_heads :: S) H' v_law_name_here law_name_here_10 := h_law_name_here
      obtain ⟨c11, e11, hm⟩ := bd_some hm
      obtain ⟨j15, ej11, hm⟩ := bd_some hm
      refine seq_last (fun σ' H' => Fr (p_law_heads :: S) HL H' ∧ ∃ v_law_names_here : V, ∃ v_law_readings_here : V, ∃ v_law_number : V, ∃ v_law_one : V, ∃ v_law_two : V, ∃ v_law_name_here : V, σ' = [some v_law_names_here, some v_law_readings_here, some (.ref p_law_heads), some v_law_name_here, some v_law_number, some v_law_one, some v_law_two] ∧ Fr [] H0 H' ∧ Dom (p_law_heads :: S) H' ∧ ((tL tStr) : Ty K (List Str)).rp (p_law_heads :: S) H' v_law_names_here d_law_names_here ∧ ((tD Int (tTu (aCons tStr (aCons tStr (aCons tInt (aCons tInt (aCons tInt aNil))))))) : Ty K (List (Int × (Str × Str × Int × Int × Int × Unit)))).rp (p_law_heads :: S) H' v_law_readings_here d_law_readings_here ∧ (tInt : Ty K Int).rp (p_law_heads :: S) H' v_law_number law_number_6 ∧ (tStr : Ty K Str).rp (p_law_heads :: S) H' v_law_one law_one_8 ∧ (tStr : Ty K Str).rp (p_law_heads :: S) H' v_law_two law_two_9 ∧ (tStr : Ty K Str).rp (p_law_heads :: S) H' v_law_name_here law_name_here_10 ∧ OwnD (tStr : Ty K Str) (p_law_heads :: S) H' p_law_heads j15) (fun σ' H' hI => ?_) (fun rest => ?_)
      · skip
        obtain ⟨frl, v_law_names_here, v_law_readings_here, v_law_number, v_law_one, v_law_two, v_law_name_here, rfl, fr0, dm, h_law_names_here, h_law_readings_here, h_law_number, h_law_one, h_law_two, h_law_name_here, o_law_heads⟩ := hI
        cases hm
        exact ⟨_, rfl, frl, ⟨frlo.transx frl freshlo, v_law_names_here, v_law_readings_here, v_law_number, v_law_one, v_law_two, _, rfl, fr0, dm, h_law_names_here, h_law_readings_here, h_law_number, h_law_one, h_law_two, o_law_heads⟩⟩
      have hm := ej11
      refine l_if (T := []) dm (by refine eb_shr (S' := S) (sub_cons (fun a m => m)) ?_; have sbz : Sub S (p_law_heads :: S) := (sub_cons (fun a m => m)); (have nfz : p_law_heads ∉ S := by first | exact ns_law_heads | (have h := ns_law_heads; simp only [List.mem_cons, not_or] at h ⊢; grind)); have h_law_heads := o_law_heads.frz sbz nfz; have h_law_names_here := ((tL tStr) : Ty K (List Str)).sub sbz h_law_names_here; have h_law_readings_here := ((tD Int (tTu (aCons tStr (aCons tStr (aCons tInt (aCons tInt (aCons tInt aNil))))))) : Ty K (List (Int × (Str × Str × Int × Int × Int × Unit)))).sub sbz h_law_readings_here; have h_law_number := (tInt : Ty K Int).sub sbz h_law_number; have h_law_one := (tStr : Ty K Str).sub sbz h_law_one; have h_law_two := (tStr : Ty K Str).sub sbz h_law_two; have h_law_name_here := (tStr : Ty K Str).sub sbz h_law_name_here; (have ts : Sub [] S := fun a m => by have h1 := ts a m; have h2 : a ≠ p_law_heads := (fun e => nt_law_heads (e ▸ m)); simp only [List.mem_cons] at h1 ⊢; grind); exact (eb_test (K := K) (ev_op (od_inD (K := K) dStr (Nat.le_of_ble_eq_true rfl)) (ev_dget (ck := (tStr : Ty K Str)) (ev_var ts h_law_heads rfl) (ev_var ts h_law_name_here rfl)) (ev_new (ev_lst (el_cons (ev_var ts h_law_one rfl) (el_cons (ev_var ts h_law_two rfl) el_nil)) (by decide)))))) e11 (fun hc H11 s11 => ?_) (fun hc H11 s11 => ?_)
      · skip
        subst hc
        have hm := if_t hm
        have fr0 := fr0.trans (Fr.same s11)
        have dm := dm.same s11
        have frl := frl.trans (Fr.same s11)
        have h_law_names_here := ((tL tStr) : Ty K (List Str)).mono (S := (p_law_heads :: S)) (Fr.same s11) h_law_names_here
        have h_law_readings_here := ((tD Int (tTu (aCons tStr (aCons tStr (aCons tInt (aCons tInt (aCons tInt aNil))))))) : Ty K (List (Int × (Str × Str × Int × Int × Int × Unit)))).mono (S := (p_law_heads :: S)) (Fr.same s11) h_law_readings_here
        have h_law_number := (tInt : Ty K Int).mono (S := (p_law_heads :: S)) (Fr.same s11) h_law_number
        have h_law_one := (tStr : Ty K Str).mono (S := (p_law_heads :: S)) (Fr.same s11) h_law_one
        have h_law_two := (tStr : Ty K Str).mono (S := (p_law_heads :: S)) (Fr.same s11) h_law_two
        have o_law_heads := o_law_heads.same s11
        have h_law_name_here := (tStr : Ty K Str).mono (S := (p_law_heads :: S)) (Fr.same s11) h_law_name_here
        obtain ⟨a12, e13, hm⟩ := bd_some hm
        obtain ⟨i13, i13, hm⟩ := bd_some hm
        obtain ⟨law_heads_14, f13, hm⟩ := bd_some hm
        refine l_dput (ck := (tStr : Ty K Str)) (T := []) dm o_law_heads im_law_heads nt_law_heads ts rfl (ev_minT (ev_var ts h_law_one rfl) (ev_var ts h_law_two rfl)) e13 (ev_var ts h_law_name_here rfl) i13 f13 (fun H13 s13 frx13 o_law_heads => ?_)
        have fr0 := fr0.mut Dom.nil n0_law_heads s13
        have frl := frl.trans (s13.fr iml_law_heads)
        have dm := dm.fx frx13 s13
        have h_law_names_here := ((tL tStr) : Ty K (List Str)).mono (S := (p_law_heads :: S)) frx13 h_law_names_here
        have h_law_readings_here := ((tD Int (tTu (aCons tStr (aCons tStr (aCons tInt (aCons tInt (aCons tInt aNil))))))) : Ty K (List (Int × (Str × Str × Int × Int × Int × Unit)))).mono (S := (p_law_heads :: S)) frx13 h_law_readings_here
        have h_law_number := (tInt : Ty K Int).mono (S := (p_law_heads :: S)) frx13 h_law_number
        have h_law_one := (tStr : Ty K Str).mono (S := (p_law_heads :: S)) frx13 h_law_one
        have h_law_two := (tStr : Ty K Str).mono (S := (p_law_heads :: S)) frx13 h_law_two
        have h_law_name_here := (tStr : Ty K Str).mono (S := (p_law_heads :: S)) frx13 h_law_name_here
        cases hm
        exact rest _ _ ⟨frl, v_law_names_here, v_law_readings_here, v_law_number, v_law_one, v_law_two, v_law_name_here, rfl, fr0, dm, h_law_names_here, h_law_readings_here, h_law_number, h_law_one, h_law_two, h_law_name_here, o_law_heads⟩
      · skip
        subst hc
        have hm := if_f hm
        have fr0 := fr0.trans (Fr.same s11)
        have dm := dm.same s11
        have frl := frl.trans (Fr.same s11)
        have h_law_names_here := ((tL tStr) : Ty K (List Str)).mono (S := (p_law_heads :: S)) (Fr.same s11) h_law_names_here
        have h_law_readings_here := ((tD Int (tTu (aCons tStr (aCons tStr (aCons tInt (aCons tInt (aCons tInt aNil))))))) : Ty K (List (Int × (Str × Str × Int × Int × Int × Unit)))).mono (S := (p_law_heads :: S)) (Fr.same s11) h_law_readings_here
        have h_law_number := (tInt : Ty K Int).mono (S := (p_law_heads :: S)) (Fr.same s11) h_law_number
        have h_law_one := (tStr : Ty K Str).mono (S := (p_law_heads :: S)) (Fr.same s11) h_law_one
        have h_law_two := (tStr : Ty K Str).mono (S := (p_law_heads :: S)) (Fr.same s11) h_law_two
        have o_law_heads := o_law_heads.same s11
        have h_law_name_here := (tStr : Ty K Str).mono (S := (p_law_heads :: S)) (Fr.same s11) h_law_name_here
        cases hm
        exact rest _ _ ⟨frl, v_law_names_here, v_law_readings_here, v_law_number, v_law_one, v_law_two, v_law_name_here, rfl, fr0, dm, h_law_names_here, h_law_readings_here, h_law_number, h_law_one, h_law_two, h_law_name_here, o_law_heads⟩
    subst er
    have hm := hm10
    obtain ⟨frl, v_law_names_here, v_law_readings_here, v_law_number, v_law_one, v_law_two, f_3, rfl, fr0, dm, h_law_names_here, h_law_readings_here, h_law_number, h_law_one, h_law_two, o_law_heads⟩ := hI
    cases hm
    exact ⟨_, rfl, frl, ⟨v_law_names_here, v_law_readings_here, _, _, _, _, rfl, fr0, dm, h_law_names_here, h_law_readings_here, o_law_heads⟩⟩
  subst er
  have hm := hm6
  obtain ⟨v_law_names_here, v_law_readings_here, f_3, f_4, f_5, f_6, rfl, fr0, dm, h_law_names_here, h_law_readings_here, o_law_heads⟩ := hI
  have er := hm
  cases er
  exact ⟨_, rfl, q _ _ fr0.toSame ⟨p_law_heads, rfl, n0_law_heads, o_law_heads.sub (cons_sub im_law_heads sub0)⟩⟩
def m_law_hanging (d_law_marks_here : (List (Str × (Option (Int × Int))))) (d_law_readings_here : (List (Int × (Str × Str × Int × Int × Int × Unit)))) : Option (List Str) :=
  (bd (bd (bd (bd (some d_law_marks_here) fun x => some (x.map Prod.fst)) fun x => bd (bd (some d_law_readings_here) fun x => bd (some ()) fun y => some (x, y)) fun y => some (x, y)) fun a => m_law_tied a.1 a.2.1) fun law_heads_1 => (bd (bd (some (d_law_marks_here.map Prod.fst)) fun xs => filL? (fun law_name_here_2 => (bd (bd (some law_name_here_2) fun y => getK d_law_marks_here y) fun x => some x.isSome)) (fun law_name_here_2 => (bd (some law_heads_1) fun d => bd (some law_name_here_2) fun k => getK d k)) xs) fun law_ground_3 => (bd (bd (some d_law_marks_here) ksS?) fun xs => filL? (fun law_name_here_4 => (bd (bd (some law_heads_1) fun d => bd (some law_name_here_4) fun k => getK d k) fun x => bd (some law_ground_3) fun y => some (memD x y))) (fun law_name_here_4 => (some law_name_here_4)) xs)))
abbrev sp_law_hanging (K : PySem.W.Frag) : Sp := spF (K := K) (aCons (tD Str (tOpt (tT2 tInt tInt))) (aCons (tD Int (tTu (aCons tStr (aCons tStr (aCons tInt (aCons tInt (aCons tInt aNil))))))) aNil)) (fun S => nw (K := K) tStr S) (fun a => m_law_hanging a.1 a.2.1)
theorem ok_law_hanging (ev : Env P K mg) : FnOk P w K mg base CX0 2 ev.f_law_hanging ev.d_law_hanging p_law_hanging (sp_law_hanging K) := by
  refine ev.A_law_hanging.F.ok sc_law_hanging (fun vs H Q E h => ?_) (fun cdv A outer s H0 vs Q E hr h => ?_)
  · obtain ⟨S, ⟨d_law_marks_here, d_law_readings_here, _⟩, y, _, ⟨v_law_marks_here, _, rfl, h_law_marks_here, v_law_readings_here, _, rfl, h_law_readings_here, rfl⟩, _⟩ := h
    rfl
  obtain ⟨S, ⟨d_law_marks_here, d_law_readings_here, _⟩, y, dm, ⟨v_law_marks_here, _, rfl, h_law_marks_here, v_law_readings_here, _, rfl, h_law_readings_here, rfl⟩, hm, q⟩ := h
  have ts : Sub [] S := fun a m => by simp at m
  have fr0 := Fr.refl (T := []) H0
  have sub0 : Sub S S := fun a m => m
  refine ⟨_, (pss_cons (ps_set (i := 2) sc_law_hanging.nd rfl (Or.inr rfl) (pe_call (ok_law_tied ev) (hr.mono (by decide)) (by rfl) ev.A_law_tied.m ev.A_law_tied.F.kp ev.A_law_tied.b .nil pass0 (pa_cons (pe_callTy (cr_listDk rfl) (by rfl) ev.B.list_ (by decide +kernel) (pa_cons (pv 0) pa_nil)) (pa_cons (pv 1) pa_nil))))
    (pss_cons (ps_set (i := 3) sc_law_hanging.nd rfl (Or.inr rfl) (pe_lock (pe_lc (own := [("_law_name_here", 4)]) (g := gName 4) (by rfl) sc_law_hanging.nd (pi_keys (pv 0)) (blkOk_by (own := [("_law_name_here", 4)]) (N := n_law_hanging) (sc := defScope s_law_hanging) (by decide +kernel)) (fun _ _ _ _ _ => pg_name (i := 4) sc_law_hanging.nd rfl (Or.inl rfl)) (fun _ _ _ _ _ => (pts_one (pt_cmpR op_notN (pe_dget (hu_of hr) (pv 0) (pv 4) (fun _ _ => rfl)) pe_non (nomark _)))) (fun _ _ _ _ _ => (pe_dget (hu_of hr) (pv 2) (pv 4) (fun _ _ => rfl))))))
    (pss_one (ps_ret (pe_lc (own := [("_law_name_here", 4)]) (g := gName 4) (by rfl) sc_law_hanging.nd (pi_list (pe_callB (cr_srtD rfl) (by rfl) ev.B.sorted_ (by decide +kernel) (pa_cons (pv 0) pa_nil))) (blkOk_by (own := [("_law_name_here", 4)]) (N := n_law_hanging) (sc := defScope s_law_hanging) (by decide +kernel)) (fun _ _ _ _ _ => pg_name (i := 4) sc_law_hanging.nd rfl (Or.inl rfl)) (fun _ _ _ _ _ => (pts_one (pt_cmpR (show OpR _ _ (rInD K) from (op_inD hr.units65)) (pe_dget (hu_of hr) (pv 2) (pv 4) (fun _ _ => rfl)) (pv 3) (by rfl)))) (fun _ _ _ _ _ => (pv 4))))))), ?_⟩
  dsimp only [m_law_hanging] at hm
  obtain ⟨law_heads_1, e1, hm⟩ := bd_some hm
  refine q_asg (T := []) dm (ev_newD (ev_call (ea_cons (ev_new (ev_listDS (ev_var ts h_law_marks_here rfl))) (ea_cons (ev_var ts h_law_readings_here rfl) ea_nil)))) e1 (fun v_law_heads H1 s1 h_law_heads => ?_)
  have fr0 := fr0.trans (Fr.same s1)
  have dm := dm.same s1
  have h_law_marks_here := ((tD Str (tOpt (tT2 tInt tInt))) : Ty K (List (Str × (Option (Int × Int))))).mono (S := S) (Fr.same s1) h_law_marks_here
  have h_law_readings_here := ((tD Int (tTu (aCons tStr (aCons tStr (aCons tInt (aCons tInt (aCons tInt aNil))))))) : Ty K (List (Int × (Str × Str × Int × Int × Int × Unit)))).mono (S := S) (Fr.same s1) h_law_readings_here
  have h_law_heads : ((tD Str tStr) : Ty K (List (Str × Str))).rp S H1 v_law_heads law_heads_1 := h_law_heads
  obtain ⟨law_ground_3, e3, hm⟩ := bd_some hm
  refine q_asg (T := []) dm (ev_new (ev_lock (R := nw (tStr : Ty K Str) S) ts h_law_marks_here (fun p_law_marks_here od_law_marks_here kv_law_marks_here H1_law_marks_here Hl_law_marks_here fr_law_marks_here ev_law_marks_here hp_law_marks_here eHl_law_marks_here np_law_marks_here o_law_marks_here => by subst ev_law_marks_here; subst eHl_law_marks_here; have h_law_readings_here := dz_lock (od := od_law_marks_here) hp_law_marks_here (((tD Int (tTu (aCons tStr (aCons tStr (aCons tInt (aCons tInt (aCons tInt aNil))))))) : Ty K (List (Int × (Str × Str × Int × Int × Int × Unit)))).mono (fr_law_marks_here.sub ts) h_law_readings_here); have h_law_heads := dz_lock (od := od_law_marks_here) hp_law_marks_here (((tD Str tStr) : Ty K (List (Str × Str))).mono (fr_law_marks_here.sub ts) h_law_heads); have ts : Sub [] S := (fun a m => by simp at m); have nt_law_marks_here : p_law_marks_here ∉ [] := (by simp);  exact ev_lcF (sr_keysK (ck := (tStr : Ty K Str)) o_law_marks_here np_law_marks_here rfl) (fun v => by rfl) (fun law_name_here_2 v_law_name_here H2' H' p' fr' nD' sm' h_law_name_here => by have h_law_readings_here := ((tDz Int (tTu (aCons tStr (aCons tStr (aCons tInt (aCons tInt (aCons tInt aNil))))))) : Ty K (List (Int × (Str × Str × Int × Int × Int × Unit)))).mono (Fr.same sm') (((tDz Int (tTu (aCons tStr (aCons tStr (aCons tInt (aCons tInt (aCons tInt aNil))))))) : Ty K (List (Int × (Str × Str × Int × Int × Int × Unit)))).ext (S := S) nD' (((tDz Int (tTu (aCons tStr (aCons tStr (aCons tInt (aCons tInt (aCons tInt aNil))))))) : Ty K (List (Int × (Str × Str × Int × Int × Int × Unit)))).mono (Fr.sub ts fr') h_law_readings_here)); have h_law_heads := ((tDz Str tStr) : Ty K (List (Str × Str))).mono (Fr.same sm') (((tDz Str tStr) : Ty K (List (Str × Str))).ext (S := S) nD' (((tDz Str tStr) : Ty K (List (Str × Str))).mono (Fr.sub ts fr') h_law_heads)); have ts0' := ts; have ts : Sub [] (p' :: S) := (fun a m => by simp at m);  have o_law_marks_here := ((o_law_marks_here.fr fr' ts0' nt_law_marks_here).ext nD').same sm'; have nt_law_marks_here : p_law_marks_here ∉ [] := (by simp); exact (eb_notNe (ev_lkGet (ck := (tStr : Ty K Str)) o_law_marks_here nt_law_marks_here ts rfl (ev_var ts h_law_name_here rfl)))) (fun law_name_here_2 v_law_name_here H2' H' p' fr' nD' sm' h_law_name_here => by have h_law_readings_here := ((tDz Int (tTu (aCons tStr (aCons tStr (aCons tInt (aCons tInt (aCons tInt aNil))))))) : Ty K (List (Int × (Str × Str × Int × Int × Int × Unit)))).mono (Fr.same sm') (((tDz Int (tTu (aCons tStr (aCons tStr (aCons tInt (aCons tInt (aCons tInt aNil))))))) : Ty K (List (Int × (Str × Str × Int × Int × Int × Unit)))).ext (S := S) nD' (((tDz Int (tTu (aCons tStr (aCons tStr (aCons tInt (aCons tInt (aCons tInt aNil))))))) : Ty K (List (Int × (Str × Str × Int × Int × Int × Unit)))).mono (Fr.sub ts fr') h_law_readings_here)); have h_law_heads := ((tDz Str tStr) : Ty K (List (Str × Str))).mono (Fr.same sm') (((tDz Str tStr) : Ty K (List (Str × Str))).ext (S := S) nD' (((tDz Str tStr) : Ty K (List (Str × Str))).mono (Fr.sub ts fr') h_law_heads)); have ts0' := ts; have ts : Sub [] (p' :: S) := (fun a m => by simp at m);  have o_law_marks_here := ((o_law_marks_here.fr fr' ts0' nt_law_marks_here).ext nD').same sm'; have nt_law_marks_here : p_law_marks_here ∉ [] := (by simp); exact (ev_zGet (ck := (tStr : Ty K Str)) (ev_var ts h_law_heads rfl) (ev_var ts h_law_name_here rfl)))))) e3 (fun v_law_ground H3 s3 h_law_ground => ?_)
  have fr0 := fr0.trans (Fr.same s3)
  have dm := dm.same s3
  have h_law_marks_here := ((tD Str (tOpt (tT2 tInt tInt))) : Ty K (List (Str × (Option (Int × Int))))).mono (S := S) (Fr.same s3) h_law_marks_here
  have h_law_readings_here := ((tD Int (tTu (aCons tStr (aCons tStr (aCons tInt (aCons tInt (aCons tInt aNil))))))) : Ty K (List (Int × (Str × Str × Int × Int × Int × Unit)))).mono (S := S) (Fr.same s3) h_law_readings_here
  have h_law_heads := ((tD Str tStr) : Ty K (List (Str × Str))).mono (S := S) (Fr.same s3) h_law_heads
  have h_law_ground : ((tL tStr) : Ty K (List Str)).rp S H3 v_law_ground law_ground_3 := h_law_ground
  have er := hm
  exact q_ret (T := []) dm (ev_lcF (sr_list (ev_new (ev_srtD (ev_var ts h_law_marks_here rfl)))) (fun v => by rfl) (fun law_name_here_4 v_law_name_here H2' H' p' fr' nD' sm' h_law_name_here => by have h_law_marks_here := ((tD Str (tOpt (tT2 tInt tInt))) : Ty K (List (Str × (Option (Int × Int))))).mono (Fr.same sm') (((tD Str (tOpt (tT2 tInt tInt))) : Ty K (List (Str × (Option (Int × Int))))).ext (S := S) nD' (((tD Str (tOpt (tT2 tInt tInt))) : Ty K (List (Str × (Option (Int × Int))))).mono (Fr.sub ts fr') h_law_marks_here)); have h_law_readings_here := ((tD Int (tTu (aCons tStr (aCons tStr (aCons tInt (aCons tInt (aCons tInt aNil))))))) : Ty K (List (Int × (Str × Str × Int × Int × Int × Unit)))).mono (Fr.same sm') (((tD Int (tTu (aCons tStr (aCons tStr (aCons tInt (aCons tInt (aCons tInt aNil))))))) : Ty K (List (Int × (Str × Str × Int × Int × Int × Unit)))).ext (S := S) nD' (((tD Int (tTu (aCons tStr (aCons tStr (aCons tInt (aCons tInt (aCons tInt aNil))))))) : Ty K (List (Int × (Str × Str × Int × Int × Int × Unit)))).mono (Fr.sub ts fr') h_law_readings_here)); have h_law_heads := ((tD Str tStr) : Ty K (List (Str × Str))).mono (Fr.same sm') (((tD Str tStr) : Ty K (List (Str × Str))).ext (S := S) nD' (((tD Str tStr) : Ty K (List (Str × Str))).mono (Fr.sub ts fr') h_law_heads)); have h_law_ground := ((tL tStr) : Ty K (List Str)).mono (Fr.same sm') (((tL tStr) : Ty K (List Str)).ext (S := S) nD' (((tL tStr) : Ty K (List Str)).mono (Fr.sub ts fr') h_law_ground)); have ts0' := ts; have ts : Sub [] (p' :: S) := (fun a m => by simp at m);  exact (eb_test (K := K) (ev_op (od_inD (K := K) dStr (Nat.le_of_ble_eq_true rfl)) (ev_dget (ck := (tStr : Ty K Str)) (ev_var ts h_law_heads rfl) (ev_var ts h_law_name_here rfl)) (ev_var ts h_law_ground rfl)))) (fun law_name_here_4 v_law_name_here H2' H' p' fr' nD' sm' h_law_name_here => by have h_law_marks_here := ((tD Str (tOpt (tT2 tInt tInt))) : Ty K (List (Str × (Option (Int × Int))))).mono (Fr.same sm') (((tD Str (tOpt (tT2 tInt tInt))) : Ty K (List (Str × (Option (Int × Int))))).ext (S := S) nD' (((tD Str (tOpt (tT2 tInt tInt))) : Ty K (List (Str × (Option (Int × Int))))).mono (Fr.sub ts fr') h_law_marks_here)); have h_law_readings_here := ((tD Int (tTu (aCons tStr (aCons tStr (aCons tInt (aCons tInt (aCons tInt aNil))))))) : Ty K (List (Int × (Str × Str × Int × Int × Int × Unit)))).mono (Fr.same sm') (((tD Int (tTu (aCons tStr (aCons tStr (aCons tInt (aCons tInt (aCons tInt aNil))))))) : Ty K (List (Int × (Str × Str × Int × Int × Int × Unit)))).ext (S := S) nD' (((tD Int (tTu (aCons tStr (aCons tStr (aCons tInt (aCons tInt (aCons tInt aNil))))))) : Ty K (List (Int × (Str × Str × Int × Int × Int × Unit)))).mono (Fr.sub ts fr') h_law_readings_here)); have h_law_heads := ((tD Str tStr) : Ty K (List (Str × Str))).mono (Fr.same sm') (((tD Str tStr) : Ty K (List (Str × Str))).ext (S := S) nD' (((tD Str tStr) : Ty K (List (Str × Str))).mono (Fr.sub ts fr') h_law_heads)); have h_law_ground := ((tL tStr) : Ty K (List Str)).mono (Fr.same sm') (((tL tStr) : Ty K (List Str)).ext (S := S) nD' (((tL tStr) : Ty K (List Str)).mono (Fr.sub ts fr') h_law_ground)); have ts0' := ts; have ts : Sub [] (p' :: S) := (fun a m => by simp at m);  exact (ev_var ts h_law_name_here rfl))) er (fun v H5 s5 hv => q v H5 (fr0.trans (Fr.same s5)).toSame (nwL.sub hv sub0 fr0 Dom.nil))
end
end G

namespace G
open PySem L2 M
section
variable {P : Program} {w : World} {K : PySem.W.Frag} {mg : Str → Option Value} {base : Heap}

abbrev sp_Survey_piecesN (K : PySem.W.Frag) (CS : Addr) : Sp := spF (K := K) (aCons (tO CS svT) aNil) (fun S => nwN (K := K) tStr S) (fun a => m_Survey_pieces a.1)
theorem ok_Survey_piecesN (ev : Env P K mg) : FnOk P w K mg base CX0 2 ev.f_Survey_pieces ev.d_Survey_pieces p_Survey_pieces (sp_Survey_piecesN K ev.C_Survey) := by
  refine ev.A_Survey_pieces.F.ok sc_Survey_pieces (fun vs H Q E h => ?_) (fun cdv A outer s H0 vs Q E hr h => ?_)
  · obtain ⟨S, ⟨d_self, _⟩, y, _, ⟨v_self, _, rfl, h_self, rfl⟩, _⟩ := h
    rfl
  obtain ⟨S, ⟨d_self, _⟩, y, dm, ⟨v_self, _, rfl, h_self, rfl⟩, hm, q⟩ := h
  have ts : Sub [] S := fun a m => by simp at m
  have fr0 := Fr.refl (T := []) H0
  have sub0 : Sub S S := fun a m => m
  refine ⟨_, (pss_cons (ps_set (i := 1) sc_Survey_pieces.nd rfl (Or.inl rfl) (pe_call (ok_neighbours ev) (hr.mono (by decide)) (by rfl) ev.A_neighbours.m ev.A_neighbours.F.kp ev.A_neighbours.b .nil pass0 (pa_cons (pe_fld (pv 0) (by rfl)) (pa_cons (pe_fld (pv 0) (by rfl)) pa_nil))))
    (pss_cons (ps_set (i := 2) sc_Survey_pieces.nd rfl (Or.inl rfl) pe_dnewK)
    (pss_cons (ps_set (i := 3) sc_Survey_pieces.nd rfl (Or.inl rfl) (pe_lst pa_nil))
    (pss_cons (ps_for PassesOwn.never rfl (pi_list (pe_meth0 (pv 0) ev.cl_Survey ev.A_Survey_names.me (ok_Survey_names ev) (hr.mono (by decide)) ev.A_Survey_names.b .nil pass0)) (pg_name (i := 4) sc_Survey_pieces.nd rfl (Or.inl rfl))
    (pss_one (ps_if (pt_cmp (pc_dnotin (hu_of hr) (pv 4) (pv 2)))
    (pss_cons (ps_set (i := 5) sc_Survey_pieces.nd rfl (Or.inl rfl) (pe_call (ok_reached ev) (hr.mono (by decide)) (by rfl) ev.A_reached.m ev.A_reached.F.kp ev.A_reached.b .nil pass0 (pa_cons (pv 1) (pa_cons (pv 4) pa_nil))))
    (pss_cons (ps_expr (pe_bm PySem.F.plainAttrs_list PySem.F.slot_list_append PySem.F.type_list_append mt_append (pv 3) (pa_cons (pv 5) pa_nil)))
    (pss_one (ps_for PassesOwn.never rfl (pi_list (pv 5)) (pg_name (i := 6) sc_Survey_pieces.nd rfl (Or.inl rfl))
    (pss_one (ps_dput (hu_of hr) (pv 2) (pv 6) pe_bl (by rfl))))))) pss_nil)))
    (pss_one (ps_ret (pv 3))))))), ?_⟩
  dsimp only [m_Survey_pieces] at hm
  obtain ⟨near_1, e1, hm⟩ := bd_some hm
  refine q_asg (T := []) dm (ev_call (ea_cons (ev_fldO (b' := ((tD Str (tOpt (tT2 tInt tInt))) : Ty K (List (Str × (Option (Int × Int)))))) ev.cl_Survey ev.n_own_marks fget_here (ev_var ts h_self rfl)) (ea_cons (ev_fldO (b' := ((tD Int (tTu (aCons tStr (aCons tStr (aCons tInt (aCons tInt (aCons tInt aNil))))))) : Ty K (List (Int × (Str × Str × Int × Int × Int × Unit))))) ev.cl_Survey ev.n_own_readings (fget_there (by decide +kernel) fget_here) (ev_var ts h_self rfl)) ea_nil))) e1 (fun v_near H1 s1 h_near => ?_)
  have fr0 := fr0.trans (Fr.same s1)
  have dm := dm.same s1
  have h_self := ((tO ev.C_Survey svT) : Ty K Sv).mono (S := S) (Fr.same s1) h_self
  have h_near : ((tD Str (tL tStr)) : Ty K (List (Str × (List Str)))).rp S H1 v_near near_1 := h_near
  obtain ⟨found_2, e2, hm⟩ := bd_some hm
  refine q_asg (T := []) dm (ev_dnew (κ := Str) (b' := (tBool : Ty K Bool))) e2 (fun v_found H2 s2 hx => ?_)
  obtain ⟨p_found, rfl, np_found, o_found⟩ := hx
  have ns_found : p_found ∉ S := dm.not_mem np_found
  have nb_found : p_found ∉ S := fun m => ns_found (sub0 _ m)
  have n0_found := fr_back fr0 Dom.nil np_found
  have nt_found := (Dom.nil (H := H0)).not_mem n0_found
  have fr0 := fr0.trans (Fr.same s2)
  have h_self := ((tO ev.C_Survey svT) : Ty K Sv).mono (Fr.same s2) (((tO ev.C_Survey svT) : Ty K Sv).ext (S := S) np_found h_self)
  have h_near := ((tD Str (tL tStr)) : Ty K (List (Str × (List Str)))).mono (Fr.same s2) (((tD Str (tL tStr)) : Ty K (List (Str × (List Str)))).ext (S := S) np_found h_near)
  have dm := (dm.same s2).cons o_found.choose_spec.1
  have ts := sub_cons (p := p_found) ts
  have sub0 := sub_cons (p := p_found) sub0
  have im_found : p_found ∈ p_found :: S := List.mem_cons_self ..
  obtain ⟨told_3, e3, hm⟩ := bd_some hm
  refine q_asg (T := []) dm (ev_lst0 (a := ((tNw H0 (tL tStr)) : Ty K (List Str)))) e3 (fun v_told H3 s3 hx => ?_)
  obtain ⟨p_told, rfl, np_told, o_told⟩ := hx
  have ns_told : p_told ∉ (p_found :: S) := dm.not_mem np_told
  have nb_told : p_told ∉ S := fun m => ns_told (sub0 _ m)
  have n0_told := fr_back fr0 Dom.nil np_told
  have nt_told := (Dom.nil (H := H0)).not_mem n0_told
  have fr0 := fr0.trans (Fr.same s3)
  have h_self := ((tO ev.C_Survey svT) : Ty K Sv).mono (Fr.same s3) (((tO ev.C_Survey svT) : Ty K Sv).ext (S := (p_found :: S)) np_told h_self)
  have h_near := ((tD Str (tL tStr)) : Ty K (List (Str × (List Str)))).mono (Fr.same s3) (((tD Str (tL tStr)) : Ty K (List (Str × (List Str)))).ext (S := (p_found :: S)) np_told h_near)
  have ne_found_told := o_found.ne np_told
  have o_found := (o_found.ext np_told).same s3
  have im_found := List.mem_cons_of_mem p_told im_found
  have dm := (dm.same s3).cons o_told.choose_spec.1
  have ts := sub_cons (p := p_told) ts
  have sub0 := sub_cons (p := p_told) sub0
  have im_told : p_told ∈ p_told :: (p_found :: S) := List.mem_cons_self ..
  have ne_told_found := Ne.symm ne_found_told
  obtain ⟨xs15, e_xs15, hm⟩ := bd_some hm
  obtain ⟨r_4, el4, hm4⟩ := bd_some hm
  refine q_for_s (T := []) dm (sr_list (ev_new (ev_methO0 (f := fun a => m_Survey_names a.1) (fno_cons (by decide +kernel) (fno_cons (by decide +kernel) fno_nil)) (ev_var ts h_self rfl)))) e_xs15 el4 (fun s_4 σ' H' => ∃ v_self : V, ∃ v_near : V, ∃ f_4 : Option V, ∃ f_5 : Option V, ∃ f_6 : Option V, σ' = [some v_self, some v_near, some (.ref p_found), some (.ref p_told), f_4, f_5, f_6] ∧ Fr [] H0 H' ∧ Dom (p_told :: (p_found :: S)) H' ∧ ((tO ev.C_Survey svT) : Ty K Sv).rp (p_told :: (p_found :: S)) H' v_self d_self ∧ ((tD Str (tL tStr)) : Ty K (List (Str × (List Str)))).rp (p_told :: (p_found :: S)) H' v_near near_1 ∧ Own ((tNw H0 (tL tStr)) : Ty K (List Str)) (p_told :: (p_found :: S)) H' p_told s_4.1 ∧ OwnD (tBool : Ty K Bool) (p_told :: (p_found :: S)) H' p_found s_4.2) (fun H4 s4 => ?_) (fun hd4 s_4 name_4 cr4 v_name σ' H' hI h_name hx4 hm hret4 hbrk4 => ?_) (fun t_4 σ' H' er hI => ?_)
  · skip
    have fr0 := fr0.trans (Fr.same s4)
    have dm := dm.same s4
    have h_self := ((tO ev.C_Survey svT) : Ty K Sv).mono (S := (p_told :: (p_found :: S))) (Fr.same s4) h_self
    have h_near := ((tD Str (tL tStr)) : Ty K (List (Str × (List Str)))).mono (S := (p_told :: (p_found :: S))) (Fr.same s4) h_near
    have o_told := o_told.same s4
    have o_found := o_found.same s4
    exact ⟨v_self, v_near, _, _, _, rfl, fr0, dm, h_self, h_near, o_told, o_found⟩
  · skip
    obtain ⟨v_self, v_near, f_4, f_5, f_6, rfl, fr0, dm, h_self, h_near, o_told, o_found⟩ := hI
    let HL := H'
    have freshl : ∀ a ∈ (p_told :: (p_found :: S)), a ∉ (p_told :: (p_found :: S)) → H' a = none := fun a m n => absurd m n
    have frl : Fr (p_told :: (p_found :: S)) HL H' := Fr.refl (T := (p_told :: (p_found :: S))) H'
    have tsl := ts
    have subl : Sub (p_told :: (p_found :: S)) (p_told :: (p_found :: S)) := fun a m => m
    have iml_told := im_told
    have iml_found := im_found
    have h_name : (tStr : Ty K Str).rp (p_told :: (p_found :: S)) H' v_name name_4 := h_name
    obtain ⟨c5, e5, hm⟩ := bd_some hm
    obtain ⟨j14, ej5, hm⟩ := bd_some hm
    refine seq_last (fun σ' H' => Fr (p_told :: (p_found :: S)) HL H' ∧ ∃ v_self : V, ∃ v_near : V, ∃ v_name : V, ∃ f_5 : Option V, ∃ f_6 : Option V, σ' = [some v_self, some v_near, some (.ref p_found), some (.ref p_told), some v_name, f_5, f_6] ∧ Fr [] H0 H' ∧ Dom (p_told :: (p_found :: S)) H' ∧ ((tO ev.C_Survey svT) : Ty K Sv).rp (p_told :: (p_found :: S)) H' v_self d_self ∧ ((tD Str (tL tStr)) : Ty K (List (Str × (List Str)))).rp (p_told :: (p_found :: S)) H' v_near near_1 ∧ (tStr : Ty K Str).rp (p_told :: (p_found :: S)) H' v_name name_4 ∧ Own ((tNw H0 (tL tStr)) : Ty K (List Str)) (p_told :: (p_found :: S)) H' p_told j14.1 ∧ OwnD (tBool : Ty K Bool) (p_told :: (p_found :: S)) H' p_found j14.2) (fun σ' H' hI => ?_) (fun rest => ?_)
    · skip
      obtain ⟨frl, v_self, v_near, v_name, f_5, f_6, rfl, fr0, dm, h_self, h_near, h_name, o_told, o_found⟩ := hI
      cases hm
      exact ⟨_, rfl, frl, ⟨v_self, v_near, _, _, _, rfl, fr0, dm, h_self, h_near, o_told, o_found⟩⟩
    have hm := ej5
    refine l_if (T := []) dm (eb_test (K := K) (ev_ownDNotIn (ck := (tStr : Ty K Str)) o_found nt_found ts rfl (ev_var ts h_name rfl))) e5 (fun hc H5 s5 => ?_) (fun hc H5 s5 => ?_)
    · skip
      subst hc
      have hm := if_t hm
      have fr0 := fr0.trans (Fr.same s5)
      have dm := dm.same s5
      have frl := frl.trans (Fr.same s5)
      have h_self := ((tO ev.C_Survey svT) : Ty K Sv).mono (S := (p_told :: (p_found :: S))) (Fr.same s5) h_self
      have h_near := ((tD Str (tL tStr)) : Ty K (List (Str × (List Str)))).mono (S := (p_told :: (p_found :: S))) (Fr.same s5) h_near
      have o_told := o_told.same s5
      have o_found := o_found.same s5
      have h_name := (tStr : Ty K Str).mono (S := (p_told :: (p_found :: S))) (Fr.same s5) h_name
      obtain ⟨piece_6, e6, hm⟩ := bd_some hm
      refine q_asg (T := []) dm (ev_newNw fr0 (ev_call (ea_cons (ev_var ts h_near rfl) (ea_cons (ev_var ts h_name rfl) ea_nil)))) e6 (fun v_piece H6 s6 h_piece => ?_)
      have fr0 := fr0.trans (Fr.same s6)
      have dm := dm.same s6
      have frl := frl.trans (Fr.same s6)
      have h_self := ((tO ev.C_Survey svT) : Ty K Sv).mono (S := (p_told :: (p_found :: S))) (Fr.same s6) h_self
      have h_near := ((tD Str (tL tStr)) : Ty K (List (Str × (List Str)))).mono (S := (p_told :: (p_found :: S))) (Fr.same s6) h_near
      have o_told := o_told.same s6
      have o_found := o_found.same s6
      have h_name := (tStr : Ty K Str).mono (S := (p_told :: (p_found :: S))) (Fr.same s6) h_name
      have h_piece : ((tNw H0 (tL tStr)) : Ty K (List Str)).rp (p_told :: (p_found :: S)) H6 v_piece piece_6 := h_piece
      obtain ⟨a7, e7, hm⟩ := bd_some hm
      obtain ⟨told_8, f7, hm⟩ := bd_some hm
      refine q_app (T := []) dm o_told im_told nt_told ts rfl (ev_var ts h_piece rfl) e7 f7 (fun H7 s7 frx7 o_told => ?_)
      have fr0 := fr0.mut Dom.nil n0_told s7
      have frl := frl.trans (s7.fr iml_told)
      have dm := dm.fx frx7 s7
      have h_self := ((tO ev.C_Survey svT) : Ty K Sv).mono (S := (p_told :: (p_found :: S))) frx7 h_self
      have h_near := ((tD Str (tL tStr)) : Ty K (List (Str × (List Str)))).mono (S := (p_told :: (p_found :: S))) frx7 h_near
      have o_found := o_found.mut frx7 s7 ne_found_told
      have h_name := (tStr : Ty K Str).mono (S := (p_told :: (p_found :: S))) frx7 h_name
      have h_piece := ((tNw H0 (tL tStr)) : Ty K (List Str)).mono (S := (p_told :: (p_found :: S))) frx7 h_piece
      obtain ⟨xs13, e_xs13, hm⟩ := bd_some hm
      obtain ⟨r_9, el9, hm9⟩ := bd_some hm
      refine for_s (T := []) dm (sr_list (ev_unNw (ev_var ts h_piece rfl))) e_xs13 el9 (fun s_9 σ' H' => Fr (p_told :: (p_found :: S)) HL H' ∧ ∃ v_self : V, ∃ v_near : V, ∃ v_name : V, ∃ v_piece : V, ∃ f_6 : Option V, σ' = [some v_self, some v_near, some (.ref p_found), some (.ref p_told), some v_name, some v_piece, f_6] ∧ Fr [] H0 H' ∧ Dom (p_told :: (p_found :: S)) H' ∧ ((tO ev.C_Survey svT) : Ty K Sv).rp (p_told :: (p_found :: S)) H' v_self d_self ∧ ((tD Str (tL tStr)) : Ty K (List (Str × (List Str)))).rp (p_told :: (p_found :: S)) H' v_near near_1 ∧ Own ((tNw H0 (tL tStr)) : Ty K (List Str)) (p_told :: (p_found :: S)) H' p_told told_8 ∧ (tStr : Ty K Str).rp (p_told :: (p_found :: S)) H' v_name name_4 ∧ ((tNw H0 (tL tStr)) : Ty K (List Str)).rp (p_told :: (p_found :: S)) H' v_piece piece_6 ∧ OwnD (tBool : Ty K Bool) (p_told :: (p_found :: S)) H' p_found s_9) (fun H9 s9 => ?_) (fun hd9 s_9 mark_9 cr9 v_mark σ' H' hI h_mark hx9 hm hret9 hbrk9 => ?_) (fun t_9 σ' H' er hI => ?_)
      · skip
        have fr0 := fr0.trans (Fr.same s9)
        have dm := dm.same s9
        have frl := frl.trans (Fr.same s9)
        have h_self := ((tO ev.C_Survey svT) : Ty K Sv).mono (S := (p_told :: (p_found :: S))) (Fr.same s9) h_self
        have h_near := ((tD Str (tL tStr)) : Ty K (List (Str × (List Str)))).mono (S := (p_told :: (p_found :: S))) (Fr.same s9) h_near
        have o_told := o_told.same s9
        have h_name := (tStr : Ty K Str).mono (S := (p_told :: (p_found :: S))) (Fr.same s9) h_name
        have h_piece := ((tNw H0 (tL tStr)) : Ty K (List Str)).mono (S := (p_told :: (p_found :: S))) (Fr.same s9) h_piece
        have o_found := o_found.same s9
        exact ⟨frl, v_self, v_near, v_name, v_piece, _, rfl, fr0, dm, h_self, h_near, o_told, h_name, h_piece, o_found⟩
      · skip
        obtain ⟨frl, v_self, v_near, v_name, v_piece, f_6, rfl, fr0, dm, h_self, h_near, o_told, h_name, h_piece, o_found⟩ := hI
        have frlo := frl
        have freshlo := freshl
        let HL := H'
        have freshl : ∀ a ∈ (p_told :: (p_found :: S)), a ∉ (p_told :: (p_found :: S)) → H' a = none := fun a m n => absurd m n
        have frl : Fr (p_told :: (p_found :: S)) HL H' := Fr.refl (T := (p_told :: (p_found :: S))) H'
        have tsl := ts
        have subl : Sub (p_told :: (p_found :: S)) (p_told :: (p_found :: S)) := fun a m => m
        have iml_told := im_told
        have iml_found := im_found
        have h_mark : (tStr : Ty K Str).rp (p_told :: (p_found :: S)) H' v_mark mark_9 := h_mark
        obtain ⟨a10, e11, hm⟩ := bd_some hm
        obtain ⟨i11, i11, hm⟩ := bd_some hm
        obtain ⟨found_12, f11, hm⟩ := bd_some hm
        refine l_dput (ck := (tStr : Ty K Str)) (T := []) dm o_found im_found nt_found ts rfl (ev_bool (K := K)) e11 (ev_var ts h_mark rfl) i11 f11 (fun H11 s11 frx11 o_found => ?_)
        have fr0 := fr0.mut Dom.nil n0_found s11
        have frl := frl.trans (s11.fr iml_found)
        have dm := dm.fx frx11 s11
        have h_self := ((tO ev.C_Survey svT) : Ty K Sv).mono (S := (p_told :: (p_found :: S))) frx11 h_self
        have h_near := ((tD Str (tL tStr)) : Ty K (List (Str × (List Str)))).mono (S := (p_told :: (p_found :: S))) frx11 h_near
        have o_told := o_told.mut frx11 s11 ne_told_found
        have h_name := (tStr : Ty K Str).mono (S := (p_told :: (p_found :: S))) frx11 h_name
        have h_piece := ((tNw H0 (tL tStr)) : Ty K (List Str)).mono (S := (p_told :: (p_found :: S))) frx11 h_piece
        have h_mark := (tStr : Ty K Str).mono (S := (p_told :: (p_found :: S))) frx11 h_mark
        cases hm
        exact ⟨_, rfl, frl, ⟨frlo.transx frl freshlo, v_self, v_near, v_name, v_piece, _, rfl, fr0, dm, h_self, h_near, o_told, h_name, h_piece, o_found⟩⟩
      subst er
      have hm := hm9
      obtain ⟨frl, v_self, v_near, v_name, v_piece, f_6, rfl, fr0, dm, h_self, h_near, o_told, h_name, h_piece, o_found⟩ := hI
      cases hm
      exact rest _ _ ⟨frl, v_self, v_near, v_name, _, _, rfl, fr0, dm, h_self, h_near, h_name, o_told, o_found⟩
    · skip
      subst hc
      have hm := if_f hm
      have fr0 := fr0.trans (Fr.same s5)
      have dm := dm.same s5
      have frl := frl.trans (Fr.same s5)
      have h_self := ((tO ev.C_Survey svT) : Ty K Sv).mono (S := (p_told :: (p_found :: S))) (Fr.same s5) h_self
      have h_near := ((tD Str (tL tStr)) : Ty K (List (Str × (List Str)))).mono (S := (p_told :: (p_found :: S))) (Fr.same s5) h_near
      have o_told := o_told.same s5
      have o_found := o_found.same s5
      have h_name := (tStr : Ty K Str).mono (S := (p_told :: (p_found :: S))) (Fr.same s5) h_name
      cases hm
      exact rest _ _ ⟨frl, v_self, v_near, v_name, _, _, rfl, fr0, dm, h_self, h_near, h_name, o_told, o_found⟩
  subst er
  have hm := hm4
  obtain ⟨v_self, v_near, f_4, f_5, f_6, rfl, fr0, dm, h_self, h_near, o_told, o_found⟩ := hI
  have er := hm
  cases er
  exact ⟨_, rfl, q _ _ fr0.toSame ⟨p_told, rfl, n0_told, o_told.sub (cons_sub im_told sub0)⟩⟩
end
end G

namespace G
open PySem L2 M
section
variable {P : Program} {w : World} {K : PySem.W.Frag} {mg : Str → Option Value} {base : Heap}

def m_law_names (d_law_many : Int) (P : (List Str) → Prop) : Prop :=
  (lf (some []) fun law_found_1 => ((lf (bd (some d_law_many) rng1?)) fun xs8 => loopW (fun s_2 law_k_2 K2 => (nameW fun law_name_here_3 => (jn (fun J4 => (lf (bd (some law_name_here_3) fun x => bd (some s_2) fun y => some (!memD x y)) fun c4 => if c4 then (lf (some law_name_here_3) fun a5 => (lf (app? s_2 a5) fun law_found_6 => J4 law_found_6)) else J4 s_2)) fun j7 => K2 (Ct.go j7)))) xs8 law_found_1 fun r_2 => match r_2 with | .ret y => P y | .go t_2 => (lf (some t_2) P) | .brk _ => False))
abbrev sp_law_names (K : PySem.W.Frag) : Sp := spB (K := K) (aCons tInt aNil) (fun S => nw (K := K) tStr S) (fun a => m_law_names a.1)
theorem ok_law_names (ev : Env P K mg) : FnOk P w K mg base CX0 4 ev.f_law_names ev.d_law_names p_law_names (sp_law_names K) := by
  refine ev.A_law_names.F.ok sc_law_names (fun vs H Q E h => ?_) (fun cdv A outer s H0 vs Q E hr h => ?_)
  · obtain ⟨S, b, c, r, ⟨d_law_many, _⟩, P, rfl, _, _, _, ⟨v_law_many, _, rfl, h_law_many, rfl⟩, _⟩ := h
    rfl
  obtain ⟨S, b, c, r, ⟨d_law_many, _⟩, P, rfl, dm, ts, hB, ⟨v_law_many, _, rfl, h_law_many, rfl⟩, hm, q⟩ := h
  have fr0 := Fr.refl (T := [b, c]) H0
  have sub0 : Sub S S := fun a m => m
  refine ⟨_, (pss_cons (ps_set (i := 2) sc_law_names.nd rfl (Or.inl rfl) (pe_lst pa_nil))
    (pss_cons (ps_for PassesOwn.never rfl (pi_range1 rfl ev.B.range_ (pa_cons (pv 1) pa_nil)) (pg_name (i := 3) sc_law_names.nd rfl (Or.inl rfl))
    (pss_cons (ps_set (i := 4) sc_law_names.nd rfl (Or.inl rfl) (pe_call (ok_law_name ev) (hr.mono (by decide)) (by rfl) ev.A_law_name.m ev.A_law_name.F.kp ev.A_law_name.b .nil pass0 (pa_cons (pv 0) pa_nil)))
    (pss_one (ps_if (pt_cmpR (op_notInD hr.units65) (pv 4) (pv 2) (by rfl))
    (pss_one (ps_expr (pe_bm PySem.F.plainAttrs_list PySem.F.slot_list_append PySem.F.type_list_append mt_append (pv 2) (pa_cons (pv 4) pa_nil)))) pss_nil))))
    (pss_one (ps_ret (pv 2))))), ?_⟩
  dsimp only [m_law_names] at hm
  obtain ⟨law_found_1, e1, hm⟩ := hm
  refine q_asg (T := [b, c]) dm (ev_lst0 (a := (tStr : Ty K Str))) e1 (fun v_law_found H1 s1 hx => ?_)
  obtain ⟨p_law_found, rfl, np_law_found, o_law_found⟩ := hx
  have ns_law_found : p_law_found ∉ S := dm.not_mem np_law_found
  have nb_law_found : p_law_found ∉ S := fun m => ns_law_found (sub0 _ m)
  have n0_law_found := fr_back fr0 hB.dom np_law_found
  have nt_law_found := hB.dom.not_mem np_law_found
  have fr0 := fr0.trans (Fr.same s1)
  have h_law_many := (tInt : Ty K Int).mono (Fr.same s1) ((tInt : Ty K Int).ext (S := S) np_law_found h_law_many)
  have dm := (dm.same s1).cons o_law_found.choose_spec.1
  have ts := sub_cons (p := p_law_found) ts
  have sub0 := sub_cons (p := p_law_found) sub0
  have im_law_found : p_law_found ∈ p_law_found :: S := List.mem_cons_self ..
  have hB := hB.same s1
  refine qw_for_s dm hB ts (srw_pure (sr_r1 (K := K) (ev_var ts h_law_many rfl))) hm (fun s_2 σ' H' => ∃ v_law_many : V, ∃ f_3 : Option V, ∃ f_4 : Option V, σ' = [some (.ref b), some v_law_many, some (.ref p_law_found), f_3, f_4] ∧ Fr [b, c] H0 H' ∧ Dom (p_law_found :: S) H' ∧ Bag H' b c ∧ (tInt : Ty K Int).rp (p_law_found :: S) H' v_law_many d_law_many ∧ Own (tStr : Ty K Str) (p_law_found :: S) H' p_law_found s_2) (fun H2 fr2 dm2 hB2 => ?_) (fun hd2 s_2 law_k_2 C2 v_law_k σ' H' hI h_law_k hm hret2 hbrk2 => ?_) (fun t_2 σ' H' hm hI => ?_)
  · skip
    have fr0 := fr0.trans fr2
    have h_law_many := (tInt : Ty K Int).mono (S := (p_law_found :: S)) (fr2.sub ts) h_law_many
    have o_law_found := o_law_found.fr fr2 ts nt_law_found
    have dm := dm2
    have hB := hB2
    exact ⟨v_law_many, _, _, rfl, fr0, dm, hB, h_law_many, o_law_found⟩
  · skip
    obtain ⟨v_law_many, f_3, f_4, rfl, fr0, dm, hB, h_law_many, o_law_found⟩ := hI
    let HL := H'
    have freshl : ∀ a ∈ (p_law_found :: S), a ∉ (p_law_found :: S) → H' a = none := fun a m n => absurd m n
    have frl : Fr (p_law_found :: S) HL H' := Fr.refl (T := (p_law_found :: S)) H'
    have tsl := ts
    have subl : Sub (p_law_found :: S) (p_law_found :: S) := fun a m => m
    have iml_law_found := im_law_found
    have h_law_k : (tInt : Ty K Int).rp (p_law_found :: S) H' v_law_k law_k_2 := h_law_k
    refine qw_asg dm hB ts (ew_name (K := K) rfl) hm (fun v_law_name_here H3 law_name_here_3 hm fr3 dm3 hB3 h_law_name_here => ?_)
    have fr0 := fr0.trans fr3
    have frl := frl.trans (fr3.sub tsl)
    have h_law_many := (tInt : Ty K Int).mono (S := (p_law_found :: S)) (fr3.sub ts) h_law_many
    have o_law_found := o_law_found.fr fr3 ts nt_law_found
    have h_law_k := (tInt : Ty K Int).mono (S := (p_law_found :: S)) (fr3.sub ts) h_law_k
    have dm := dm3
    have hB := hB3
    have h_law_name_here : (tStr : Ty K Str).rp (p_law_found :: S) H3 v_law_name_here law_name_here_3 := h_law_name_here
    obtain ⟨J4, hK4, hm⟩ := jn_open hm
    refine seq_last (fun σ' H' => ∃ j7, J4 j7 ∧ Fr (p_law_found :: S) HL H' ∧ ∃ v_law_many : V, ∃ v_law_k : V, ∃ v_law_name_here : V, σ' = [some (.ref b), some v_law_many, some (.ref p_law_found), some v_law_k, some v_law_name_here] ∧ Fr [b, c] H0 H' ∧ Dom (p_law_found :: S) H' ∧ Bag H' b c ∧ (tInt : Ty K Int).rp (p_law_found :: S) H' v_law_many d_law_many ∧ (tInt : Ty K Int).rp (p_law_found :: S) H' v_law_k law_k_2 ∧ (tStr : Ty K Str).rp (p_law_found :: S) H' v_law_name_here law_name_here_3 ∧ Own (tStr : Ty K Str) (p_law_found :: S) H' p_law_found j7) (fun σ' H' hI => ?_) (fun rest4 => ?_)
    · skip
      obtain ⟨j7, hj, ⟨frl, v_law_many, v_law_k, v_law_name_here, rfl, fr0, dm, hB, h_law_many, h_law_k, h_law_name_here, o_law_found⟩⟩ := hI
      have hm := hK4 j7 hj
      exact ⟨_, hm, frl, ⟨v_law_many, _, _, rfl, fr0, dm, hB, h_law_many, o_law_found⟩⟩
    obtain ⟨c4, e4, hm⟩ := hm
    refine l_if (T := [b, c]) dm (by refine eb_shr (S' := S) (sub_cons (fun a m => m)) ?_; have sbz : Sub S (p_law_found :: S) := (sub_cons (fun a m => m)); (have nfz : p_law_found ∉ S := by first | exact ns_law_found | (have h := ns_law_found; simp only [List.mem_cons, not_or] at h ⊢; grind)); have h_law_found := o_law_found.frz sbz nfz; have h_law_many := (tInt : Ty K Int).sub sbz h_law_many; have h_law_k := (tInt : Ty K Int).sub sbz h_law_k; have h_law_name_here := (tStr : Ty K Str).sub sbz h_law_name_here; (have ts : Sub [b, c] S := fun a m => by have h1 := ts a m; have h2 : a ≠ p_law_found := (fun e => nt_law_found (e ▸ m)); simp only [List.mem_cons] at h1 ⊢; grind); exact (eb_test (K := K) (ev_op (od_notInD (K := K) dStr (Nat.le_of_ble_eq_true rfl)) (ev_var ts h_law_name_here rfl) (ev_var ts h_law_found rfl)))) e4 (fun hc H4 s4 => ?_) (fun hc H4 s4 => ?_)
    · skip
      subst hc
      have fr0 := fr0.trans (Fr.same s4)
      have dm := dm.same s4
      have frl := frl.trans (Fr.same s4)
      have h_law_many := (tInt : Ty K Int).mono (S := (p_law_found :: S)) (Fr.same s4) h_law_many
      have o_law_found := o_law_found.same s4
      have h_law_k := (tInt : Ty K Int).mono (S := (p_law_found :: S)) (Fr.same s4) h_law_k
      have h_law_name_here := (tStr : Ty K Str).mono (S := (p_law_found :: S)) (Fr.same s4) h_law_name_here
      have hB := hB.same s4
      have hm := ifp_t hm
      obtain ⟨a5, e5, hm⟩ := hm
      obtain ⟨law_found_6, f5, hm⟩ := hm
      refine l_app (T := [b, c]) dm o_law_found im_law_found nt_law_found ts rfl (ev_var ts h_law_name_here rfl) e5 f5 (fun H5 s5 frx5 o_law_found => ?_)
      have fr0 := fr0.mut hB.dom n0_law_found s5
      have frl := frl.trans (s5.fr iml_law_found)
      have dm := dm.fx frx5 s5
      have h_law_many := (tInt : Ty K Int).mono (S := (p_law_found :: S)) frx5 h_law_many
      have h_law_k := (tInt : Ty K Int).mono (S := (p_law_found :: S)) frx5 h_law_k
      have h_law_name_here := (tStr : Ty K Str).mono (S := (p_law_found :: S)) frx5 h_law_name_here
      have hB := hB.mut s5 nt_law_found
      exact rest4 _ _ ⟨_, hm, ⟨frl, v_law_many, v_law_k, v_law_name_here, rfl, fr0, dm, hB, h_law_many, h_law_k, h_law_name_here, o_law_found⟩⟩
    · skip
      subst hc
      have fr0 := fr0.trans (Fr.same s4)
      have dm := dm.same s4
      have frl := frl.trans (Fr.same s4)
      have h_law_many := (tInt : Ty K Int).mono (S := (p_law_found :: S)) (Fr.same s4) h_law_many
      have o_law_found := o_law_found.same s4
      have h_law_k := (tInt : Ty K Int).mono (S := (p_law_found :: S)) (Fr.same s4) h_law_k
      have h_law_name_here := (tStr : Ty K Str).mono (S := (p_law_found :: S)) (Fr.same s4) h_law_name_here
      have hB := hB.same s4
      have hm := ifp_f hm
      exact rest4 _ _ ⟨_, hm, ⟨frl, v_law_many, v_law_k, v_law_name_here, rfl, fr0, dm, hB, h_law_many, h_law_k, h_law_name_here, o_law_found⟩⟩
  obtain ⟨v_law_many, f_3, f_4, rfl, fr0, dm, hB, h_law_many, o_law_found⟩ := hI
  obtain ⟨z, er, hm⟩ := hm
  cases er
  exact ⟨_, rfl, q _ _ _ hm fr0 hB ⟨p_law_found, rfl, n0_law_found, o_law_found.sub (cons_sub im_law_found sub0)⟩⟩
def m_law_marks (d_law_many : Int) (P : (List (Str × (Option (Int × Int)))) → Prop) : Prop :=
  (lf (some []) fun law_found_1 => ((callBW (fun a => m_law_names a.1) (tup2W (lf (some d_law_many)) (lf (some ())))) fun xs16 => loopW (fun s_2 law_name_here_2 K2 => (lf (bd (some ()) fun _ => some none) fun a3 => (lf (some law_name_here_2) fun i4 => (lf (putL? s_2 i4 a3) fun law_found_5 => (jn (fun J6 => ((opW (fun x y => some (decide (x = y))) (callBW drawW (lf (some (3 : Int)))) (lf (some (0 : Int)))) fun c6 => if c6 then ((unW (fun x => some (some x)) (tup2W (opW (fun x y => some (x - y)) (callBW drawW (lf (some (1999 : Int)))) (lf (some (999 : Int)))) (opW (fun x y => some (x - y)) (callBW drawW (lf (some (1999 : Int)))) (lf (some (999 : Int)))))) fun a7 => lf (some law_name_here_2) fun i8 => lf (putL? law_found_5 i8 a7) fun law_found_9 => J6 law_found_9) else (jn (fun J10 => ((opW (fun x y => some (decide (x = y))) (callBW drawW (lf (some (6 : Int)))) (lf (some (0 : Int)))) fun c10 => if c10 then ((unW (fun x => some (some x)) (tup2W (callBW anyW (lf (bd (some (999 : Int)) fun x => bd (bd (bd (some (0 : Int)) fun x => bd (some (999 : Int)) fun y => some (x - y)) fun x => bd (bd (some (0 : Int)) fun x => bd (some []) fun y => some (x :: y)) fun y => some (x :: y)) fun y => some (x :: y)))) (callBW anyW (lf (bd (some (999 : Int)) fun x => bd (bd (bd (some (0 : Int)) fun x => bd (some (999 : Int)) fun y => some (x - y)) fun x => bd (bd (some (0 : Int)) fun x => bd (some []) fun y => some (x :: y)) fun y => some (x :: y)) fun y => some (x :: y)))))) fun a11 => lf (some law_name_here_2) fun i12 => lf (putL? law_found_5 i12 a11) fun law_found_13 => J10 law_found_13) else J10 law_found_5)) fun j14 => J6 j14))) fun j15 => K2 (Ct.go j15)))))) xs16 law_found_1 fun r_2 => match r_2 with | .ret y => P y | .go t_2 => (lf (some t_2) P) | .brk _ => False))
abbrev sp_law_marks (K : PySem.W.Frag) : Sp := spB (K := K) (aCons tInt aNil) (fun S => nwd (K := K) (κ := Str) (tOpt (tT2 tInt tInt)) S) (fun a => m_law_marks a.1)
theorem ok_law_marks (ev : Env P K mg) : FnOk P w K mg base CX0 5 ev.f_law_marks ev.d_law_marks p_law_marks (sp_law_marks K) := by
  refine ev.A_law_marks.F.ok sc_law_marks (fun vs H Q E h => ?_) (fun cdv A outer s H0 vs Q E hr h => ?_)
  · obtain ⟨S, b, c, r, ⟨d_law_many, _⟩, P, rfl, _, _, _, ⟨v_law_many, _, rfl, h_law_many, rfl⟩, _⟩ := h
    rfl
  obtain ⟨S, b, c, r, ⟨d_law_many, _⟩, P, rfl, dm, ts, hB, ⟨v_law_many, _, rfl, h_law_many, rfl⟩, hm, q⟩ := h
  have fr0 := Fr.refl (T := [b, c]) H0
  have sub0 : Sub S S := fun a m => m
  refine ⟨_, (pss_cons (ps_set (i := 2) sc_law_marks.nd rfl (Or.inl rfl) pe_dnewK)
    (pss_cons (ps_for PassesOwn.never rfl (pi_list (pe_call (ok_law_names ev) (hr.mono (by decide)) (by rfl) ev.A_law_names.m ev.A_law_names.F.kp ev.A_law_names.b .nil pass0 (pa_cons (pv 0) (pa_cons (pv 1) pa_nil)))) (pg_name (i := 3) sc_law_marks.nd rfl (Or.inl rfl))
    (pss_cons (ps_dput (hu_of hr) (pv 2) (pv 3) pe_non (by rfl))
    (pss_one (ps_if (pt_cmpR op_eq (pe_call (ok_law_draw ev) (hr.mono (by decide)) (by rfl) ev.A_law_draw.m ev.A_law_draw.F.kp ev.A_law_draw.b .nil pass0 (pa_cons (pv 0) (pa_cons pe_int pa_nil))) pe_int (nomark _))
    (pss_one (ps_dput (hu_of hr) (pv 2) (pv 3) (pe_tup (pa_cons (pe_op op_sub (pe_call (ok_law_draw ev) (hr.mono (by decide)) (by rfl) ev.A_law_draw.m ev.A_law_draw.F.kp ev.A_law_draw.b .nil pass0 (pa_cons (pv 0) (pa_cons pe_int pa_nil))) pe_int) (pa_cons (pe_op op_sub (pe_call (ok_law_draw ev) (hr.mono (by decide)) (by rfl) ev.A_law_draw.m ev.A_law_draw.F.kp ev.A_law_draw.b .nil pass0 (pa_cons (pv 0) (pa_cons pe_int pa_nil))) pe_int) pa_nil))) (by rfl))) (pss_one (ps_if (pt_cmpR op_eq (pe_call (ok_law_draw ev) (hr.mono (by decide)) (by rfl) ev.A_law_draw.m ev.A_law_draw.F.kp ev.A_law_draw.b .nil pass0 (pa_cons (pv 0) (pa_cons pe_int pa_nil))) pe_int (nomark _))
    (pss_one (ps_dput (hu_of hr) (pv 2) (pv 3) (pe_tup (pa_cons (pe_call (ok_law_any ev) (hr.mono (by decide)) (by rfl) ev.A_law_any.m ev.A_law_any.F.kp ev.A_law_any.b .nil pass0 (pa_cons (pv 0) (pa_cons (pe_lst (pa_cons pe_int (pa_cons (pe_op op_sub pe_int pe_int) (pa_cons pe_int pa_nil)))) pa_nil))) (pa_cons (pe_call (ok_law_any ev) (hr.mono (by decide)) (by rfl) ev.A_law_any.m ev.A_law_any.F.kp ev.A_law_any.b .nil pass0 (pa_cons (pv 0) (pa_cons (pe_lst (pa_cons pe_int (pa_cons (pe_op op_sub pe_int pe_int) (pa_cons pe_int pa_nil)))) pa_nil))) pa_nil))) (by rfl))) pss_nil))))))
    (pss_one (ps_ret (pv 2))))), ?_⟩
  dsimp only [m_law_marks] at hm
  obtain ⟨law_found_1, e1, hm⟩ := hm
  refine q_asg (T := [b, c]) dm (ev_dnew (κ := Str) (b' := ((tOpt (tT2 tInt tInt)) : Ty K (Option (Int × Int))))) e1 (fun v_law_found H1 s1 hx => ?_)
  obtain ⟨p_law_found, rfl, np_law_found, o_law_found⟩ := hx
  have ns_law_found : p_law_found ∉ S := dm.not_mem np_law_found
  have nb_law_found : p_law_found ∉ S := fun m => ns_law_found (sub0 _ m)
  have n0_law_found := fr_back fr0 hB.dom np_law_found
  have nt_law_found := hB.dom.not_mem np_law_found
  have fr0 := fr0.trans (Fr.same s1)
  have h_law_many := (tInt : Ty K Int).mono (Fr.same s1) ((tInt : Ty K Int).ext (S := S) np_law_found h_law_many)
  have dm := (dm.same s1).cons o_law_found.choose_spec.1
  have ts := sub_cons (p := p_law_found) ts
  have sub0 := sub_cons (p := p_law_found) sub0
  have im_law_found : p_law_found ∈ p_law_found :: S := List.mem_cons_self ..
  have hB := hB.same s1
  refine qw_for_s dm hB ts (srw_list (ew_new (ew_callB rfl (wa_cons (ew_pure (ev_var ts h_law_many rfl)) wa_nil)))) hm (fun s_2 σ' H' => ∃ v_law_many : V, ∃ f_3 : Option V, σ' = [some (.ref b), some v_law_many, some (.ref p_law_found), f_3] ∧ Fr [b, c] H0 H' ∧ Dom (p_law_found :: S) H' ∧ Bag H' b c ∧ (tInt : Ty K Int).rp (p_law_found :: S) H' v_law_many d_law_many ∧ OwnD ((tOpt (tT2 tInt tInt)) : Ty K (Option (Int × Int))) (p_law_found :: S) H' p_law_found s_2) (fun H2 fr2 dm2 hB2 => ?_) (fun hd2 s_2 law_name_here_2 C2 v_law_name_here σ' H' hI h_law_name_here hm hret2 hbrk2 => ?_) (fun t_2 σ' H' hm hI => ?_)
  · skip
    have fr0 := fr0.trans fr2
    have h_law_many := (tInt : Ty K Int).mono (S := (p_law_found :: S)) (fr2.sub ts) h_law_many
    have o_law_found := o_law_found.fr fr2 ts nt_law_found
    have dm := dm2
    have hB := hB2
    exact ⟨v_law_many, _, rfl, fr0, dm, hB, h_law_many, o_law_found⟩
  · skip
    obtain ⟨v_law_many, f_3, rfl, fr0, dm, hB, h_law_many, o_law_found⟩ := hI
    let HL := H'
    have freshl : ∀ a ∈ (p_law_found :: S), a ∉ (p_law_found :: S) → H' a = none := fun a m n => absurd m n
    have frl : Fr (p_law_found :: S) HL H' := Fr.refl (T := (p_law_found :: S)) H'
    have tsl := ts
    have subl : Sub (p_law_found :: S) (p_law_found :: S) := fun a m => m
    have iml_law_found := im_law_found
    have h_law_name_here : (tStr : Ty K Str).rp (p_law_found :: S) H' v_law_name_here law_name_here_2 := h_law_name_here
    obtain ⟨a3, e4, hm⟩ := hm
    obtain ⟨i4, i4, hm⟩ := hm
    obtain ⟨law_found_5, f4, hm⟩ := hm
    refine q_dput (ck := (tStr : Ty K Str)) (T := [b, c]) dm o_law_found im_law_found nt_law_found ts rfl (ev_oN (a := ((tT2 tInt tInt) : Ty K (Int × Int))) (ev_none (K := K))) e4 (ev_var ts h_law_name_here rfl) i4 f4 (fun H4 s4 frx4 o_law_found => ?_)
    have fr0 := fr0.mut hB.dom n0_law_found s4
    have frl := frl.trans (s4.fr iml_law_found)
    have dm := dm.fx frx4 s4
    have h_law_many := (tInt : Ty K Int).mono (S := (p_law_found :: S)) frx4 h_law_many
    have h_law_name_here := (tStr : Ty K Str).mono (S := (p_law_found :: S)) frx4 h_law_name_here
    have hB := hB.mut s4 nt_law_found
    obtain ⟨J6, hK6, hm⟩ := jn_open hm
    refine seq_last (fun σ' H' => ∃ j15, J6 j15 ∧ Fr (p_law_found :: S) HL H' ∧ ∃ v_law_many : V, ∃ v_law_name_here : V, σ' = [some (.ref b), some v_law_many, some (.ref p_law_found), some v_law_name_here] ∧ Fr [b, c] H0 H' ∧ Dom (p_law_found :: S) H' ∧ Bag H' b c ∧ (tInt : Ty K Int).rp (p_law_found :: S) H' v_law_many d_law_many ∧ (tStr : Ty K Str).rp (p_law_found :: S) H' v_law_name_here law_name_here_2 ∧ OwnD ((tOpt (tT2 tInt tInt)) : Ty K (Option (Int × Int))) (p_law_found :: S) H' p_law_found j15) (fun σ' H' hI => ?_) (fun rest6 => ?_)
    · skip
      obtain ⟨j15, hj, ⟨frl, v_law_many, v_law_name_here, rfl, fr0, dm, hB, h_law_many, h_law_name_here, o_law_found⟩⟩ := hI
      have hm := hK6 j15 hj
      exact ⟨_, hm, frl, ⟨v_law_many, _, rfl, fr0, dm, hB, h_law_many, o_law_found⟩⟩
    refine lw_if dm hB ts (bw_test (K := K) (ew_op (od_eqI (K := K)) (ew_draw (K := K) rfl (ew_pure (ev_int (K := K)))) (ew_pure (ev_int (K := K))))) hm (fun H6 hm fr6 dm6 hB6 => ?_) (fun H6 hm fr6 dm6 hB6 => ?_)
    · skip
      have fr0 := fr0.trans fr6
      have frl := frl.trans (fr6.sub tsl)
      have h_law_many := (tInt : Ty K Int).mono (S := (p_law_found :: S)) (fr6.sub ts) h_law_many
      have o_law_found := o_law_found.fr fr6 ts nt_law_found
      have h_law_name_here := (tStr : Ty K Str).mono (S := (p_law_found :: S)) (fr6.sub ts) h_law_name_here
      have dm := dm6
      have hB := hB6
      have hm := ifp_t hm
      refine lw_dput (ck := (tStr : Ty K Str)) dm hB ts o_law_found im_law_found nt_law_found rfl (ew_oS (ew_tup2 (ew_op (od_sub (K := K)) (ew_draw (K := K) rfl (ew_pure (ev_int (K := K)))) (ew_pure (ev_int (K := K)))) (ew_op (od_sub (K := K)) (ew_draw (K := K) rfl (ew_pure (ev_int (K := K)))) (ew_pure (ev_int (K := K)))))) (ev_var ts h_law_name_here rfl) hm (fun law_found_9 Hd8 H8 hm fr8 dm8 hB8 s8 frx8 ox_law_found => ?_)
      have fr0 := fr0.trans fr8
      have frl := frl.trans (fr8.sub tsl)
      have h_law_many := (tInt : Ty K Int).mono (S := (p_law_found :: S)) (fr8.sub ts) h_law_many
      have o_law_found := o_law_found.fr fr8 ts nt_law_found
      have h_law_name_here := (tStr : Ty K Str).mono (S := (p_law_found :: S)) (fr8.sub ts) h_law_name_here
      have dm := dm8
      have hB := hB8
      have fr0 := fr0.mut hB.dom n0_law_found s8
      have frl := frl.trans (s8.fr iml_law_found)
      have dm := dm.fx frx8 s8
      have h_law_many := (tInt : Ty K Int).mono (S := (p_law_found :: S)) frx8 h_law_many
      have h_law_name_here := (tStr : Ty K Str).mono (S := (p_law_found :: S)) frx8 h_law_name_here
      have hB := hB.mut s8 nt_law_found
      have o_law_found := ox_law_found
      exact rest6 _ _ ⟨_, hm, ⟨frl, v_law_many, v_law_name_here, rfl, fr0, dm, hB, h_law_many, h_law_name_here, o_law_found⟩⟩
    · skip
      have fr0 := fr0.trans fr6
      have frl := frl.trans (fr6.sub tsl)
      have h_law_many := (tInt : Ty K Int).mono (S := (p_law_found :: S)) (fr6.sub ts) h_law_many
      have o_law_found := o_law_found.fr fr6 ts nt_law_found
      have h_law_name_here := (tStr : Ty K Str).mono (S := (p_law_found :: S)) (fr6.sub ts) h_law_name_here
      have dm := dm6
      have hB := hB6
      have hm := ifp_f hm
      obtain ⟨J10, hK10, hm⟩ := jn_open hm
      refine seq_last (fun σ' H' => ∃ j14, J10 j14 ∧ Fr (p_law_found :: S) HL H' ∧ ∃ v_law_many : V, ∃ v_law_name_here : V, σ' = [some (.ref b), some v_law_many, some (.ref p_law_found), some v_law_name_here] ∧ Fr [b, c] H0 H' ∧ Dom (p_law_found :: S) H' ∧ Bag H' b c ∧ (tInt : Ty K Int).rp (p_law_found :: S) H' v_law_many d_law_many ∧ (tStr : Ty K Str).rp (p_law_found :: S) H' v_law_name_here law_name_here_2 ∧ OwnD ((tOpt (tT2 tInt tInt)) : Ty K (Option (Int × Int))) (p_law_found :: S) H' p_law_found j14) (fun σ' H' hI => ?_) (fun rest10 => ?_)
      · skip
        obtain ⟨j14, hj, ⟨frl, v_law_many, v_law_name_here, rfl, fr0, dm, hB, h_law_many, h_law_name_here, o_law_found⟩⟩ := hI
        have hm := hK10 j14 hj
        exact rest6 _ _ ⟨_, hm, ⟨frl, v_law_many, v_law_name_here, rfl, fr0, dm, hB, h_law_many, h_law_name_here, o_law_found⟩⟩
      refine lw_if dm hB ts (bw_test (K := K) (ew_op (od_eqI (K := K)) (ew_draw (K := K) rfl (ew_pure (ev_int (K := K)))) (ew_pure (ev_int (K := K))))) hm (fun H10 hm fr10 dm10 hB10 => ?_) (fun H10 hm fr10 dm10 hB10 => ?_)
      · skip
        have fr0 := fr0.trans fr10
        have frl := frl.trans (fr10.sub tsl)
        have h_law_many := (tInt : Ty K Int).mono (S := (p_law_found :: S)) (fr10.sub ts) h_law_many
        have o_law_found := o_law_found.fr fr10 ts nt_law_found
        have h_law_name_here := (tStr : Ty K Str).mono (S := (p_law_found :: S)) (fr10.sub ts) h_law_name_here
        have dm := dm10
        have hB := hB10
        have hm := ifp_t hm
        refine lw_dput (ck := (tStr : Ty K Str)) dm hB ts o_law_found im_law_found nt_law_found rfl (ew_oS (ew_tup2 (ew_any rfl (ew_pure (ev_new (ev_lst (el_cons (ev_int (K := K)) (el_cons (ev_op (od_sub (K := K)) (ev_int (K := K)) (ev_int (K := K))) (el_cons (ev_int (K := K)) el_nil))) (by decide))))) (ew_any rfl (ew_pure (ev_new (ev_lst (el_cons (ev_int (K := K)) (el_cons (ev_op (od_sub (K := K)) (ev_int (K := K)) (ev_int (K := K))) (el_cons (ev_int (K := K)) el_nil))) (by decide))))))) (ev_var ts h_law_name_here rfl) hm (fun law_found_13 Hd12 H12 hm fr12 dm12 hB12 s12 frx12 ox_law_found => ?_)
        have fr0 := fr0.trans fr12
        have frl := frl.trans (fr12.sub tsl)
        have h_law_many := (tInt : Ty K Int).mono (S := (p_law_found :: S)) (fr12.sub ts) h_law_many
        have o_law_found := o_law_found.fr fr12 ts nt_law_found
        have h_law_name_here := (tStr : Ty K Str).mono (S := (p_law_found :: S)) (fr12.sub ts) h_law_name_here
        have dm := dm12
        have hB := hB12
        have fr0 := fr0.mut hB.dom n0_law_found s12
        have frl := frl.trans (s12.fr iml_law_found)
        have dm := dm.fx frx12 s12
        have h_law_many := (tInt : Ty K Int).mono (S := (p_law_found :: S)) frx12 h_law_many
        have h_law_name_here := (tStr : Ty K Str).mono (S := (p_law_found :: S)) frx12 h_law_name_here
        have hB := hB.mut s12 nt_law_found
        have o_law_found := ox_law_found
        exact rest10 _ _ ⟨_, hm, ⟨frl, v_law_many, v_law_name_here, rfl, fr0, dm, hB, h_law_many, h_law_name_here, o_law_found⟩⟩
      · skip
        have fr0 := fr0.trans fr10
        have frl := frl.trans (fr10.sub tsl)
        have h_law_many := (tInt : Ty K Int).mono (S := (p_law_found :: S)) (fr10.sub ts) h_law_many
        have o_law_found := o_law_found.fr fr10 ts nt_law_found
        have h_law_name_here := (tStr : Ty K Str).mono (S := (p_law_found :: S)) (fr10.sub ts) h_law_name_here
        have dm := dm10
        have hB := hB10
        have hm := ifp_f hm
        exact rest10 _ _ ⟨_, hm, ⟨frl, v_law_many, v_law_name_here, rfl, fr0, dm, hB, h_law_many, h_law_name_here, o_law_found⟩⟩
  obtain ⟨v_law_many, f_3, rfl, fr0, dm, hB, h_law_many, o_law_found⟩ := hI
  obtain ⟨z, er, hm⟩ := hm
  cases er
  exact ⟨_, rfl, q _ _ _ hm fr0 hB ⟨p_law_found, rfl, n0_law_found, o_law_found.sub (cons_sub im_law_found sub0)⟩⟩
def m_law_readings (d_law_names_here : (List Str)) (d_law_many : Int) (P : (List (Int × (Str × Str × Int × Int × Int × Unit))) → Prop) : Prop :=
  (lf (some []) fun law_found_1 => (lf (some (0 : Int)) fun law_number_2 => ((lf (bd (some d_law_many) rng1?)) fun xs14 => loopW (fun s_3 law_k_3 K3 => ((opW (fun x y => some (x + y)) (lf (bd (some s_3.1) fun x => bd (some (1 : Int)) fun y => some (x + y))) (callBW drawW (lf (some (3 : Int))))) fun law_number_4 => ((callBW anyW (lf (some d_law_names_here))) fun law_one_5 => ((callBW anyW (lf (some d_law_names_here))) fun law_two_6 => (jn (fun J7 => (lf (bd (some law_one_5) fun x => bd (some law_two_6) fun y => some (!decide (x = y))) fun c7 => if c7 then ((opW (fun x y => atI x y) (consW (opW (fun x y => some (x - y)) (callBW drawW (lf (some (1999 : Int)))) (lf (some (999 : Int)))) (consW (opW (fun x y => some (x - y)) (callBW drawW (lf (some (41 : Int)))) (lf (some (20 : Int)))) (lf (some [])))) (callBW drawW (lf (some (2 : Int))))) fun law_sizes_8 => ((opW (fun x y => some (x - y)) (callBW drawW (lf (some (1999 : Int)))) (lf (some (999 : Int)))) fun law_high_9 => ((tup2W (lf (some law_one_5)) (tup2W (lf (some law_two_6)) (tup2W (lf (some law_sizes_8)) (tup2W (lf (some law_high_9)) (tup2W (opW (fun x y => some (x + y)) (lf (some (1 : Int))) (callBW drawW (lf (some (9 : Int))))) (lf (some ()))))))) fun a10 => lf (some law_number_4) fun i11 => lf (putL? s_3.2 i11 a10) fun law_found_12 => J7 law_found_12))) else J7 s_3.2)) fun j13 => K3 (Ct.go (law_number_4, j13))))))) xs14 (law_number_2, law_found_1) fun r_3 => match r_3 with | .ret y => P y | .go t_3 => (lf (some t_3.2) P) | .brk _ => False)))
abbrev sp_law_readings (K : PySem.W.Frag) : Sp := spB (K := K) (aCons (tL tStr) (aCons tInt aNil)) (fun S => nwd (K := K) (κ := Int) (tTu (aCons tStr (aCons tStr (aCons tInt (aCons tInt (aCons tInt aNil)))))) S) (fun a => m_law_readings a.1 a.2.1)
theorem ok_law_readings (ev : Env P K mg) : FnOk P w K mg base CX0 3 ev.f_law_readings ev.d_law_readings p_law_readings (sp_law_readings K) := by
  refine ev.A_law_readings.F.ok sc_law_readings (fun vs H Q E h => ?_) (fun cdv A outer s H0 vs Q E hr h => ?_)
  · obtain ⟨S, b, c, r, ⟨d_law_names_here, d_law_many, _⟩, P, rfl, _, _, _, ⟨v_law_names_here, _, rfl, h_law_names_here, v_law_many, _, rfl, h_law_many, rfl⟩, _⟩ := h
    rfl
  obtain ⟨S, b, c, r, ⟨d_law_names_here, d_law_many, _⟩, P, rfl, dm, ts, hB, ⟨v_law_names_here, _, rfl, h_law_names_here, v_law_many, _, rfl, h_law_many, rfl⟩, hm, q⟩ := h
  have fr0 := Fr.refl (T := [b, c]) H0
  have sub0 : Sub S S := fun a m => m
  refine ⟨_, (pss_cons (ps_set (i := 3) sc_law_readings.nd rfl (Or.inl rfl) pe_dnewK)
    (pss_cons (ps_set (i := 4) sc_law_readings.nd rfl (Or.inl rfl) pe_int)
    (pss_cons (ps_for PassesOwn.never rfl (pi_range1 rfl ev.B.range_ (pa_cons (pv 2) pa_nil)) (pg_name (i := 5) sc_law_readings.nd rfl (Or.inl rfl))
    (pss_cons (ps_set (i := 4) sc_law_readings.nd rfl (Or.inl rfl) (pe_op op_add (pe_op op_add (pv 4) pe_int) (pe_call (ok_law_draw ev) (hr.mono (by decide)) (by rfl) ev.A_law_draw.m ev.A_law_draw.F.kp ev.A_law_draw.b .nil pass0 (pa_cons (pv 0) (pa_cons pe_int pa_nil)))))
    (pss_cons (ps_set (i := 6) sc_law_readings.nd rfl (Or.inl rfl) (pe_call (ok_law_any ev) (hr.mono (by decide)) (by rfl) ev.A_law_any.m ev.A_law_any.F.kp ev.A_law_any.b .nil pass0 (pa_cons (pv 0) (pa_cons (pv 1) pa_nil))))
    (pss_cons (ps_set (i := 7) sc_law_readings.nd rfl (Or.inl rfl) (pe_call (ok_law_any ev) (hr.mono (by decide)) (by rfl) ev.A_law_any.m ev.A_law_any.F.kp ev.A_law_any.b .nil pass0 (pa_cons (pv 0) (pa_cons (pv 1) pa_nil))))
    (pss_one (ps_if (pt_cmpR op_ne (pv 6) (pv 7) (nomark _))
    (pss_cons (ps_set (i := 8) sc_law_readings.nd rfl (Or.inl rfl) (pe_ix ix_list (pe_lst (pa_cons (pe_op op_sub (pe_call (ok_law_draw ev) (hr.mono (by decide)) (by rfl) ev.A_law_draw.m ev.A_law_draw.F.kp ev.A_law_draw.b .nil pass0 (pa_cons (pv 0) (pa_cons pe_int pa_nil))) pe_int) (pa_cons (pe_op op_sub (pe_call (ok_law_draw ev) (hr.mono (by decide)) (by rfl) ev.A_law_draw.m ev.A_law_draw.F.kp ev.A_law_draw.b .nil pass0 (pa_cons (pv 0) (pa_cons pe_int pa_nil))) pe_int) pa_nil))) (pe_call (ok_law_draw ev) (hr.mono (by decide)) (by rfl) ev.A_law_draw.m ev.A_law_draw.F.kp ev.A_law_draw.b .nil pass0 (pa_cons (pv 0) (pa_cons pe_int pa_nil))) (fun _ _ => rfl)))
    (pss_cons (ps_set (i := 9) sc_law_readings.nd rfl (Or.inl rfl) (pe_op op_sub (pe_call (ok_law_draw ev) (hr.mono (by decide)) (by rfl) ev.A_law_draw.m ev.A_law_draw.F.kp ev.A_law_draw.b .nil pass0 (pa_cons (pv 0) (pa_cons pe_int pa_nil))) pe_int))
    (pss_one (ps_dput (hu_of hr) (pv 3) (pv 4) (pe_tup (pa_cons (pv 6) (pa_cons (pv 7) (pa_cons (pv 8) (pa_cons (pv 9) (pa_cons (pe_op op_add pe_int (pe_call (ok_law_draw ev) (hr.mono (by decide)) (by rfl) ev.A_law_draw.m ev.A_law_draw.F.kp ev.A_law_draw.b .nil pass0 (pa_cons (pv 0) (pa_cons pe_int pa_nil)))) pa_nil)))))) (by rfl))))) pss_nil))))))
    (pss_one (ps_ret (pv 3)))))), ?_⟩
  dsimp only [m_law_readings] at hm
  obtain ⟨law_found_1, e1, hm⟩ := hm
  refine q_asg (T := [b, c]) dm (ev_dnew (κ := Int) (b' := ((tTu (aCons tStr (aCons tStr (aCons tInt (aCons tInt (aCons tInt aNil)))))) : Ty K (Str × Str × Int × Int × Int × Unit)))) e1 (fun v_law_found H1 s1 hx => ?_)
  obtain ⟨p_law_found, rfl, np_law_found, o_law_found⟩ := hx
  have ns_law_found : p_law_found ∉ S := dm.not_mem np_law_found
  have nb_law_found : p_law_found ∉ S := fun m => ns_law_found (sub0 _ m)
  have n0_law_found := fr_back fr0 hB.dom np_law_found
  have nt_law_found := hB.dom.not_mem np_law_found
  have fr0 := fr0.trans (Fr.same s1)
  have h_law_names_here := ((tL tStr) : Ty K (List Str)).mono (Fr.same s1) (((tL tStr) : Ty K (List Str)).ext (S := S) np_law_found h_law_names_here)
  have h_law_many := (tInt : Ty K Int).mono (Fr.same s1) ((tInt : Ty K Int).ext (S := S) np_law_found h_law_many)
  have dm := (dm.same s1).cons o_law_found.choose_spec.1
  have ts := sub_cons (p := p_law_found) ts
  have sub0 := sub_cons (p := p_law_found) sub0
  have im_law_found : p_law_found ∈ p_law_found :: S := List.mem_cons_self ..
  have hB := hB.same s1
  obtain ⟨law_number_2, e2, hm⟩ := hm
  refine q_asg (T := [b, c]) dm (ev_int (K := K)) e2 (fun v_law_number H2 s2 h_law_number => ?_)
  have fr0 := fr0.trans (Fr.same s2)
  have dm := dm.same s2
  have h_law_names_here := ((tL tStr) : Ty K (List Str)).mono (S := (p_law_found :: S)) (Fr.same s2) h_law_names_here
  have h_law_many := (tInt : Ty K Int).mono (S := (p_law_found :: S)) (Fr.same s2) h_law_many
  have o_law_found := o_law_found.same s2
  have hB := hB.same s2
  have h_law_number : (tInt : Ty K Int).rp (p_law_found :: S) H2 v_law_number law_number_2 := h_law_number
  refine qw_for_s dm hB ts (srw_pure (sr_r1 (K := K) (ev_var ts h_law_many rfl))) hm (fun s_3 σ' H' => ∃ v_law_names_here : V, ∃ v_law_many : V, ∃ v_law_number : V, ∃ f_5 : Option V, ∃ f_6 : Option V, ∃ f_7 : Option V, ∃ f_8 : Option V, ∃ f_9 : Option V, σ' = [some (.ref b), some v_law_names_here, some v_law_many, some (.ref p_law_found), some v_law_number, f_5, f_6, f_7, f_8, f_9] ∧ Fr [b, c] H0 H' ∧ Dom (p_law_found :: S) H' ∧ Bag H' b c ∧ ((tL tStr) : Ty K (List Str)).rp (p_law_found :: S) H' v_law_names_here d_law_names_here ∧ (tInt : Ty K Int).rp (p_law_found :: S) H' v_law_many d_law_many ∧ (tInt : Ty K Int).rp (p_law_found :: S) H' v_law_number s_3.1 ∧ OwnD ((tTu (aCons tStr (aCons tStr (aCons tInt (aCons tInt (aCons tInt aNil)))))) : Ty K (Str × Str × Int × Int × Int × Unit)) (p_law_found :: S) H' p_law_found s_3.2) (fun H3 fr3 dm3 hB3 => ?_) (fun hd3 s_3 law_k_3 C3 v_law_k σ' H' hI h_law_k hm hret3 hbrk3 => ?_) (fun t_3 σ' H' hm hI => ?_)
  · skip
    have fr0 := fr0.trans fr3
    have h_law_names_here := ((tL tStr) : Ty K (List Str)).mono (S := (p_law_found :: S)) (fr3.sub ts) h_law_names_here
    have h_law_many := (tInt : Ty K Int).mono (S := (p_law_found :: S)) (fr3.sub ts) h_law_many
    have h_law_number := (tInt : Ty K Int).mono (S := (p_law_found :: S)) (fr3.sub ts) h_law_number
    have o_law_found := o_law_found.fr fr3 ts nt_law_found
    have dm := dm3
    have hB := hB3
    exact ⟨v_law_names_here, v_law_many, v_law_number, _, _, _, _, _, rfl, fr0, dm, hB, h_law_names_here, h_law_many, h_law_number, o_law_found⟩
  · skip
    obtain ⟨v_law_names_here, v_law_many, v_law_number, f_5, f_6, f_7, f_8, f_9, rfl, fr0, dm, hB, h_law_names_here, h_law_many, h_law_number, o_law_found⟩ := hI
    let HL := H'
    have freshl : ∀ a ∈ (p_law_found :: S), a ∉ (p_law_found :: S) → H' a = none := fun a m n => absurd m n
    have frl : Fr (p_law_found :: S) HL H' := Fr.refl (T := (p_law_found :: S)) H'
    have tsl := ts
    have subl : Sub (p_law_found :: S) (p_law_found :: S) := fun a m => m
    have iml_law_found := im_law_found
    have h_law_k : (tInt : Ty K Int).rp (p_law_found :: S) H' v_law_k law_k_3 := h_law_k
    refine qw_asg dm hB ts (ew_op (od_add (K := K)) (ew_pure (ev_op (od_add (K := K)) (ev_var ts h_law_number rfl) (ev_int (K := K)))) (ew_draw (K := K) rfl (ew_pure (ev_int (K := K))))) hm (fun v_law_number H4 law_number_4 hm fr4 dm4 hB4 h_law_number => ?_)
    have fr0 := fr0.trans fr4
    have frl := frl.trans (fr4.sub tsl)
    have h_law_names_here := ((tL tStr) : Ty K (List Str)).mono (S := (p_law_found :: S)) (fr4.sub ts) h_law_names_here
    have h_law_many := (tInt : Ty K Int).mono (S := (p_law_found :: S)) (fr4.sub ts) h_law_many
    have o_law_found := o_law_found.fr fr4 ts nt_law_found
    have h_law_k := (tInt : Ty K Int).mono (S := (p_law_found :: S)) (fr4.sub ts) h_law_k
    have dm := dm4
    have hB := hB4
    have h_law_number : (tInt : Ty K Int).rp (p_law_found :: S) H4 v_law_number law_number_4 := h_law_number
    refine qw_asg dm hB ts (ew_any rfl (ew_pure (ev_var ts h_law_names_here rfl))) hm (fun v_law_one H5 law_one_5 hm fr5 dm5 hB5 h_law_one => ?_)
    have fr0 := fr0.trans fr5
    have frl := frl.trans (fr5.sub tsl)
    have h_law_names_here := ((tL tStr) : Ty K (List Str)).mono (S := (p_law_found :: S)) (fr5.sub ts) h_law_names_here
    have h_law_many := (tInt : Ty K Int).mono (S := (p_law_found :: S)) (fr5.sub ts) h_law_many
    have o_law_found := o_law_found.fr fr5 ts nt_law_found
    have h_law_k := (tInt : Ty K Int).mono (S := (p_law_found :: S)) (fr5.sub ts) h_law_k
    have h_law_number := (tInt : Ty K Int).mono (S := (p_law_found :: S)) (fr5.sub ts) h_law_number
    have dm := dm5
    have hB := hB5
    have h_law_one : (tStr : Ty K Str).rp (p_law_found :: S) H5 v_law_one law_one_5 := h_law_one
    refine qw_asg dm hB ts (ew_any rfl (ew_pure (ev_var ts h_law_names_here rfl))) hm (fun v_law_two H6 law_two_6 hm fr6 dm6 hB6 h_law_two => ?_)
    have fr0 := fr0.trans fr6
    have frl := frl.trans (fr6.sub tsl)
    have h_law_names_here := ((tL tStr) : Ty K (List Str)).mono (S := (p_law_found :: S)) (fr6.sub ts) h_law_names_here
    have h_law_many := (tInt : Ty K Int).mono (S := (p_law_found :: S)) (fr6.sub ts) h_law_many
    have o_law_found := o_law_found.fr fr6 ts nt_law_found
    have h_law_k := (tInt : Ty K Int).mono (S := (p_law_found :: S)) (fr6.sub ts) h_law_k
    have h_law_number := (tInt : Ty K Int).mono (S := (p_law_found :: S)) (fr6.sub ts) h_law_number
    have h_law_one := (tStr : Ty K Str).mono (S := (p_law_found :: S)) (fr6.sub ts) h_law_one
    have dm := dm6
    have hB := hB6
    have h_law_two : (tStr : Ty K Str).rp (p_law_found :: S) H6 v_law_two law_two_6 := h_law_two
    obtain ⟨J7, hK7, hm⟩ := jn_open hm
    refine seq_last (fun σ' H' => ∃ j13, J7 j13 ∧ Fr (p_law_found :: S) HL H' ∧ ∃ v_law_names_here : V, ∃ v_law_many : V, ∃ v_law_k : V, ∃ v_law_number : V, ∃ v_law_one : V, ∃ v_law_two : V, ∃ f_8 : Option V, ∃ f_9 : Option V, σ' = [some (.ref b), some v_law_names_here, some v_law_many, some (.ref p_law_found), some v_law_number, some v_law_k, some v_law_one, some v_law_two, f_8, f_9] ∧ Fr [b, c] H0 H' ∧ Dom (p_law_found :: S) H' ∧ Bag H' b c ∧ ((tL tStr) : Ty K (List Str)).rp (p_law_found :: S) H' v_law_names_here d_law_names_here ∧ (tInt : Ty K Int).rp (p_law_found :: S) H' v_law_many d_law_many ∧ (tInt : Ty K Int).rp (p_law_found :: S) H' v_law_k law_k_3 ∧ (tInt : Ty K Int).rp (p_law_found :: S) H' v_law_number law_number_4 ∧ (tStr : Ty K Str).rp (p_law_found :: S) H' v_law_one law_one_5 ∧ (tStr : Ty K Str).rp (p_law_found :: S) H' v_law_two law_two_6 ∧ OwnD ((tTu (aCons tStr (aCons tStr (aCons tInt (aCons tInt (aCons tInt aNil)))))) : Ty K (Str × Str × Int × Int × Int × Unit)) (p_law_found :: S) H' p_law_found j13) (fun σ' H' hI => ?_) (fun rest7 => ?_)
    · skip
      obtain ⟨j13, hj, ⟨frl, v_law_names_here, v_law_many, v_law_k, v_law_number, v_law_one, v_law_two, f_8, f_9, rfl, fr0, dm, hB, h_law_names_here, h_law_many, h_law_k, h_law_number, h_law_one, h_law_two, o_law_found⟩⟩ := hI
      have hm := hK7 j13 hj
      exact ⟨_, hm, frl, ⟨v_law_names_here, v_law_many, v_law_number, _, _, _, _, _, rfl, fr0, dm, hB, h_law_names_here, h_law_many, h_law_number, o_law_found⟩⟩
    obtain ⟨c7, e7, hm⟩ := hm
    refine l_if (T := [b, c]) dm (eb_test (K := K) (ev_op (od_neS (K := K)) (ev_var ts h_law_one rfl) (ev_var ts h_law_two rfl))) e7 (fun hc H7 s7 => ?_) (fun hc H7 s7 => ?_)
    · skip
      subst hc
      have fr0 := fr0.trans (Fr.same s7)
      have dm := dm.same s7
      have frl := frl.trans (Fr.same s7)
      have h_law_names_here := ((tL tStr) : Ty K (List Str)).mono (S := (p_law_found :: S)) (Fr.same s7) h_law_names_here
      have h_law_many := (tInt : Ty K Int).mono (S := (p_law_found :: S)) (Fr.same s7) h_law_many
      have o_law_found := o_law_found.same s7
      have h_law_k := (tInt : Ty K Int).mono (S := (p_law_found :: S)) (Fr.same s7) h_law_k
      have h_law_number := (tInt : Ty K Int).mono (S := (p_law_found :: S)) (Fr.same s7) h_law_number
      have h_law_one := (tStr : Ty K Str).mono (S := (p_law_found :: S)) (Fr.same s7) h_law_one
      have h_law_two := (tStr : Ty K Str).mono (S := (p_law_found :: S)) (Fr.same s7) h_law_two
      have hB := hB.same s7
      have hm := ifp_t hm
      refine qw_asg dm hB ts (ew_op od_ixL (ew_new (ew_lst (wl_cons (ew_op (od_sub (K := K)) (ew_draw (K := K) rfl (ew_pure (ev_int (K := K)))) (ew_pure (ev_int (K := K)))) (wl_cons (ew_op (od_sub (K := K)) (ew_draw (K := K) rfl (ew_pure (ev_int (K := K)))) (ew_pure (ev_int (K := K)))) wl_nil)) (by decide))) (ew_draw (K := K) rfl (ew_pure (ev_int (K := K))))) hm (fun v_law_sizes H8 law_sizes_8 hm fr8 dm8 hB8 h_law_sizes => ?_)
      have fr0 := fr0.trans fr8
      have frl := frl.trans (fr8.sub tsl)
      have h_law_names_here := ((tL tStr) : Ty K (List Str)).mono (S := (p_law_found :: S)) (fr8.sub ts) h_law_names_here
      have h_law_many := (tInt : Ty K Int).mono (S := (p_law_found :: S)) (fr8.sub ts) h_law_many
      have o_law_found := o_law_found.fr fr8 ts nt_law_found
      have h_law_k := (tInt : Ty K Int).mono (S := (p_law_found :: S)) (fr8.sub ts) h_law_k
      have h_law_number := (tInt : Ty K Int).mono (S := (p_law_found :: S)) (fr8.sub ts) h_law_number
      have h_law_one := (tStr : Ty K Str).mono (S := (p_law_found :: S)) (fr8.sub ts) h_law_one
      have h_law_two := (tStr : Ty K Str).mono (S := (p_law_found :: S)) (fr8.sub ts) h_law_two
      have dm := dm8
      have hB := hB8
      have h_law_sizes : (tInt : Ty K Int).rp (p_law_found :: S) H8 v_law_sizes law_sizes_8 := h_law_sizes
      refine qw_asg dm hB ts (ew_op (od_sub (K := K)) (ew_draw (K := K) rfl (ew_pure (ev_int (K := K)))) (ew_pure (ev_int (K := K)))) hm (fun v_law_high H9 law_high_9 hm fr9 dm9 hB9 h_law_high => ?_)
      have fr0 := fr0.trans fr9
      have frl := frl.trans (fr9.sub tsl)
      have h_law_names_here := ((tL tStr) : Ty K (List Str)).mono (S := (p_law_found :: S)) (fr9.sub ts) h_law_names_here
      have h_law_many := (tInt : Ty K Int).mono (S := (p_law_found :: S)) (fr9.sub ts) h_law_many
      have o_law_found := o_law_found.fr fr9 ts nt_law_found
      have h_law_k := (tInt : Ty K Int).mono (S := (p_law_found :: S)) (fr9.sub ts) h_law_k
      have h_law_number := (tInt : Ty K Int).mono (S := (p_law_found :: S)) (fr9.sub ts) h_law_number
      have h_law_one := (tStr : Ty K Str).mono (S := (p_law_found :: S)) (fr9.sub ts) h_law_one
      have h_law_two := (tStr : Ty K Str).mono (S := (p_law_found :: S)) (fr9.sub ts) h_law_two
      have h_law_sizes := (tInt : Ty K Int).mono (S := (p_law_found :: S)) (fr9.sub ts) h_law_sizes
      have dm := dm9
      have hB := hB9
      have h_law_high : (tInt : Ty K Int).rp (p_law_found :: S) H9 v_law_high law_high_9 := h_law_high
      refine lw_dput (ck := (tInt : Ty K Int)) dm hB ts o_law_found im_law_found nt_law_found rfl (ew_tu (K := K) (by decide) (wa_cons (ew_pure (ev_var ts h_law_one rfl)) (wa_cons (ew_pure (ev_var ts h_law_two rfl)) (wa_cons (ew_pure (ev_var ts h_law_sizes rfl)) (wa_cons (ew_pure (ev_var ts h_law_high rfl)) (wa_cons (ew_op (od_add (K := K)) (ew_pure (ev_int (K := K))) (ew_draw (K := K) rfl (ew_pure (ev_int (K := K))))) wa_nil)))))) (ev_var ts h_law_number rfl) hm (fun law_found_12 Hd11 H11 hm fr11 dm11 hB11 s11 frx11 ox_law_found => ?_)
      have fr0 := fr0.trans fr11
      have frl := frl.trans (fr11.sub tsl)
      have h_law_names_here := ((tL tStr) : Ty K (List Str)).mono (S := (p_law_found :: S)) (fr11.sub ts) h_law_names_here
      have h_law_many := (tInt : Ty K Int).mono (S := (p_law_found :: S)) (fr11.sub ts) h_law_many
      have o_law_found := o_law_found.fr fr11 ts nt_law_found
      have h_law_k := (tInt : Ty K Int).mono (S := (p_law_found :: S)) (fr11.sub ts) h_law_k
      have h_law_number := (tInt : Ty K Int).mono (S := (p_law_found :: S)) (fr11.sub ts) h_law_number
      have h_law_one := (tStr : Ty K Str).mono (S := (p_law_found :: S)) (fr11.sub ts) h_law_one
      have h_law_two := (tStr : Ty K Str).mono (S := (p_law_found :: S)) (fr11.sub ts) h_law_two
      have h_law_sizes := (tInt : Ty K Int).mono (S := (p_law_found :: S)) (fr11.sub ts) h_law_sizes
      have h_law_high := (tInt : Ty K Int).mono (S := (p_law_found :: S)) (fr11.sub ts) h_law_high
      have dm := dm11
      have hB := hB11
      have fr0 := fr0.mut hB.dom n0_law_found s11
      have frl := frl.trans (s11.fr iml_law_found)
      have dm := dm.fx frx11 s11
      have h_law_names_here := ((tL tStr) : Ty K (List Str)).mono (S := (p_law_found :: S)) frx11 h_law_names_here
      have h_law_many := (tInt : Ty K Int).mono (S := (p_law_found :: S)) frx11 h_law_many
      have h_law_k := (tInt : Ty K Int).mono (S := (p_law_found :: S)) frx11 h_law_k
      have h_law_number := (tInt : Ty K Int).mono (S := (p_law_found :: S)) frx11 h_law_number
      have h_law_one := (tStr : Ty K Str).mono (S := (p_law_found :: S)) frx11 h_law_one
      have h_law_two := (tStr : Ty K Str).mono (S := (p_law_found :: S)) frx11 h_law_two
      have h_law_sizes := (tInt : Ty K Int).mono (S := (p_law_found :: S)) frx11 h_law_sizes
      have h_law_high := (tInt : Ty K Int).mono (S := (p_law_found :: S)) frx11 h_law_high
      have hB := hB.mut s11 nt_law_found
      have o_law_found := ox_law_found
      exact rest7 _ _ ⟨_, hm, ⟨frl, v_law_names_here, v_law_many, v_law_k, v_law_number, v_law_one, v_law_two, _, _, rfl, fr0, dm, hB, h_law_names_here, h_law_many, h_law_k, h_law_number, h_law_one, h_law_two, o_law_found⟩⟩
    · skip
      subst hc
      have fr0 := fr0.trans (Fr.same s7)
      have dm := dm.same s7
      have frl := frl.trans (Fr.same s7)
      have h_law_names_here := ((tL tStr) : Ty K (List Str)).mono (S := (p_law_found :: S)) (Fr.same s7) h_law_names_here
      have h_law_many := (tInt : Ty K Int).mono (S := (p_law_found :: S)) (Fr.same s7) h_law_many
      have o_law_found := o_law_found.same s7
      have h_law_k := (tInt : Ty K Int).mono (S := (p_law_found :: S)) (Fr.same s7) h_law_k
      have h_law_number := (tInt : Ty K Int).mono (S := (p_law_found :: S)) (Fr.same s7) h_law_number
      have h_law_one := (tStr : Ty K Str).mono (S := (p_law_found :: S)) (Fr.same s7) h_law_one
      have h_law_two := (tStr : Ty K Str).mono (S := (p_law_found :: S)) (Fr.same s7) h_law_two
      have hB := hB.same s7
      have hm := ifp_f hm
      exact rest7 _ _ ⟨_, hm, ⟨frl, v_law_names_here, v_law_many, v_law_k, v_law_number, v_law_one, v_law_two, _, _, rfl, fr0, dm, hB, h_law_names_here, h_law_many, h_law_k, h_law_number, h_law_one, h_law_two, o_law_found⟩⟩
  obtain ⟨v_law_names_here, v_law_many, v_law_number, f_5, f_6, f_7, f_8, f_9, rfl, fr0, dm, hB, h_law_names_here, h_law_many, h_law_number, o_law_found⟩ := hI
  obtain ⟨z, er, hm⟩ := hm
  cases er
  exact ⟨_, rfl, q _ _ _ hm fr0 hB ⟨p_law_found, rfl, n0_law_found, o_law_found.sub (cons_sub im_law_found sub0)⟩⟩
end
end G

namespace G
open PySem L2 M
section
variable {P : Program} {w : World} {K : PySem.W.Frag} {mg : Str → Option Value} {base : Heap}

/-! ### a list that is spoilt -/
def spSpoil : Sp := fun vs H Q _ => ∃ (p : Addr) (xs : List V), vs = [.ref p] ∧ H p = some (.lst xs) ∧ xs.length ≤ 1000 ∧ ∀ ys, ys.length ≤ max xs.length 1 → Q .non (upd H p (.lst ys))
theorem ok_law_spoil (ev : Env P K mg) : FnOk P w K mg base CX0 1 ev.f_law_spoil ev.d_law_spoil p_law_spoil spSpoil := by
  refine ev.A_law_spoil.F.ok sc_law_spoil (fun vs H Q E h => ?_) (fun cdv A outer s H vs Q E hr h => ?_)
  · obtain ⟨p, xs, rfl, _⟩ := h
    rfl
  obtain ⟨p, xs, rfl, hp, hl, q⟩ := h
  refine ⟨_, pss_cons (ps_if (pt_cmpR op_gt (pe_callB call_len_seq (by rfl) ev.B.len_ PySem.boot_len (pa_cons (pv 0) pa_nil)) pe_int (nomark _))
      (pss_cons (ps_asg (pe_ix ix_list (pv 0) (pe_un un_neg pe_int) (fun _ _ => rfl)) (pg_sub (pv 0) pe_int set_list))
        (pss_one (ps_expr (pe_bm0 PySem.F.plainAttrs_list PySem.F.slot_list_pop PySem.F.type_list_pop mt_pop (pv 0)))))
      pss_nil)
    (pss_one (ps_expr (pe_bm PySem.F.plainAttrs_list PySem.F.slot_list_append PySem.F.type_list_append mt_append (pv 0) (pa_cons pe_non pa_nil)))), ?_⟩
  have uu : ∀ (H1 : Hp) (x y : HO), upd (upd H1 p x) p y = upd H1 p y := fun H1 x y => by
    funext r
    by_cases c : r = p
    · subst c; rw [upd_same, upd_same]
    · rw [upd_ne c, upd_ne c, upd_ne c]
  refine ⟨_, rfl, p, _, rfl, .inl (SqL.of hp), _, _, rfl, rfl, _, rfl, ?_⟩
  refine ite2 (fun z => ?_) (fun z => ?_)
  · have z' : (0 : Int) < ((xs.length : Nat) : Int) := of_decide_eq_true z
    have hx : xs ≠ [] := fun e => by subst e; simp at z'
    obtain ⟨y, hy, _⟩ := last_at hx
    have h0 : ixN xs.length 0 = some 0 := by
      unfold ixN
      rw [if_pos (by decide), if_pos z']
      rfl
    have hl2 : (xs.set 0 y).length = xs.length := List.length_set
    have hp1 : (xs.set 0 y)[(xs.set 0 y).length - 1]? = some ((xs.set 0 y)[(xs.set 0 y).length - 1]'(by rw [hl2]; omega)) := List.getElem?_eq_getElem _
    refine ⟨_, rfl, 1, rfl, p, xs, -1, y, rfl, rfl, SqL.of hp, hy, _, rfl, p, xs, 0, 0, rfl, rfl, hp, h0, ?_⟩
    refine ⟨_, rfl, .inl ⟨rfl, _, SqL.of upd_same⟩, p, _, _, rfl, rfl, upd_same, hp1, ?_⟩
    refine ⟨_, rfl, .inl ⟨rfl, _, SqL.of upd_same⟩, p, _, .non, rfl, rfl, upd_same, Nat.lt_of_le_of_lt (show ((xs.set 0 y).dropLast).length ≤ 1000 by rw [List.length_dropLast, hl2]; omega) (by decide), ?_⟩
    rw [uu, uu]
    exact q _ (by rw [List.length_append, List.length_dropLast, hl2]; simp only [List.length_singleton]; omega)
  · exact ⟨_, rfl, .inl ⟨rfl, _, SqL.of hp⟩, p, xs, .non, rfl, rfl, hp, Nat.lt_of_le_of_lt hl (by decide), q _ (by have z' : ¬ ((0 : Int) < ((xs.length : Nat) : Int)) := fun h => z (decide_eq_true h); rw [List.length_append]; simp only [List.length_singleton]; omega)⟩

section
variable {α : Type} {a : Ty K α} {S T : AS} {σ : L2.St} {H : Hp}
def spo? {α : Type} (xs : List α) : Option Unit := if xs.length ≤ 1000 then some () else none
/-- spoil(x), x an owned list: dead behind it -/
theorem q_spoil {xs : List α} {i : Nat} {p : Addr} {E : XK} {D : Ends} {u : TS} (d : Dom S H) (o : Own a S H p xs) (im : p ∈ S) (hi : σ[i]? = some (some (.ref p))) (e : spo? xs = some ()) (q : ∀ H1, Mut1 p H H1 → Fr S H H1 → u D σ H1) : tSeq (tDrop (tCall spSpoil [] E (tCons (tVar i) tNil))) u D σ H := by
  obtain ⟨vs, hv, ha⟩ := o
  unfold spo? at e
  split at e
  · rename_i hl
    refine ⟨_, hi, p, vs, rfl, hv, by rw [ha.len]; exact hl, fun ys _ => q _ ⟨fun b ob eb n => by rw [upd_ne n]; exact eb, by rw [upd_same]; intro z; cases z⟩ (fr_upd im)⟩
  · cases e
end
theorem ew_sameL {α : Type} {a : Ty K α} {n : Nat} {p : List α → Prop} {b c q : Addr} {S : AS} {σ : St} {H : Hp} {tb : TE} {E : XK} {wb : Wp (List α)} {ys : List α} {i : Nat} (hs : SmOf (tL a) n p) (o : Own a S H q ys) (nt : q ∉ [b, c]) (hi : σ[i]? = some (some (.ref q))) (hb : EvW b c S tb σ H (of (tL a) S) wb) :
    EvW b c S (tCall (spSame K (n + 1)) [] E (tCons (tVar i) (tCons tb tNil))) σ H (of (K := K) tBool S) (sameW p (lf (some ys)) wb) := fun ts P hP H1 f d hB Q qq => by
  obtain ⟨y, ey, hP⟩ := hP
  cases ey
  refine ⟨_, hi, hb ts _ hP H1 f d hB _ fun w H2 y ⟨e, hp, hy⟩ f2 d2 hB2 hw => ?_⟩
  subst e
  obtain ⟨vs, hvs, hall⟩ := (o.fr f ts nt).fr f2 ts nt
  have rp0 : (tL a).rp [] H2 (.ref q) ys := ⟨q, vs, rfl, ⟨hvs, by simp⟩, hall.imp fun _ _ => a.sub fun _ m => by simp at m⟩
  exact ⟨_, _, rfl, (hs rp0 hw hp n (Nat.le_refl _)).sm, fun H' s => qq _ H' true hy (f2.trans (Fr.same s)) (d2.same s) (hB2.same s) rfl⟩
theorem l_spoil {α : Type} {a : Ty K α} {S : AS} {σ : L2.St} {H : Hp} {xs : List α} {i : Nat} {p : Addr} {E : XK} {D : Ends} (d : Dom S H) (o : Own a S H p xs) (im : p ∈ S) (hi : σ[i]? = some (some (.ref p))) (e : spo? xs = some ()) (q : ∀ H1, Mut1 p H H1 → Fr S H H1 → D.nx σ H1) : tDrop (tCall spSpoil [] E (tCons (tVar i) tNil)) D σ H :=
  q_spoil (D := D) (u := fun D => D.nx) d o im hi e q


theorem set_self {σ : L2.St} {j : Nat} {o : Option V} (h : σ[j]? = some o) : σ.set j o = σ := by
  apply List.ext_getElem?
  intro n
  rw [List.getElem?_set]
  split
  · rename_i e
    subst e
    split
    · rw [h]
    · rename_i hn
      rw [List.getElem?_eq_none (by omega)]
  · rfl
/-- for row in found: spoil(row); spoil(found): all new since B -/
theorem q_spoil2 {S : AS} {σ : L2.St} {B H : Hp} {v : V} {b c : Addr} {i j : Nat} {o : Option V} {E1 E2 : XK} {D : Ends} {u : TS} (dmb : Dom S B) (ts : Sub [b, c] S) (hB : Bag H b c) (f : Fr [b, c] B H) (dm : Dom S H) (n : Nest B H v) (hi : σ[i]? = some (some v)) (ij : i ≠ j) (hj : σ[j]? = some o)
    (k : ∀ (o : Option V) (H' : Hp), Fr [b, c] B H' → Dom S H' → Bag H' b c → u D (σ.set j o) H') :
    tSeq (tFor (iList K (tVar i)) (gName j) (tDrop (tCall spSpoil [] E1 (tCons (tVar j) tNil)))) (tSeq (tDrop (tCall spSpoil [] E2 (tCons (tVar i) tNil))) u) D σ H := by
  obtain ⟨p, vs, rfl, np, hp, hl, hx⟩ := n
  refine ⟨_, hi, p, rfl, ⟨vs, SqL.of hp⟩, ?_⟩
  have jl : j < σ.length := (List.getElem?_eq_some_iff.mp hj).1
  refine for_list (K := K) (a := p) (xs := vs) (fun _ σ' G => (∃ o, σ' = σ.set j o) ∧ G p = some (.lst vs) ∧ (∀ a, B a ≠ none → G a = H a) ∧ ∀ x ∈ vs, ∃ q ws, x = V.ref q ∧ B q = none ∧ q ≠ p ∧ G q = some (.lst ws) ∧ ws.length ≤ 1000)
    ⟨⟨o, (set_self hj).symm⟩, hp, fun _ _ => rfl, hx⟩ (fun _ _ _ _ h => SqL.of h.2.1) ?_ ?_
  · rintro m x σ' G hm ⟨⟨o', rfl⟩, gp, ga, gx⟩
    obtain ⟨q, ws, rfl, nq, nqp, hq, hw⟩ := gx x (List.mem_of_getElem? hm)
    show tDrop (tCall spSpoil [] E1 (tCons (tVar j) tNil)) _ ((σ.set j o').set j (some (.ref q))) G
    refine ⟨_, by rw [List.getElem?_set, if_pos rfl, if_pos (by rw [List.length_set]; exact jl)], q, ws, rfl, hq, hw, fun ys hy => ⟨⟨some (.ref q), by rw [List.set_set]⟩, by rw [upd_ne (Ne.symm nqp)]; exact gp, fun a ha => by rw [upd_ne (fun e => ha (by rw [e]; exact nq))]; exact ga a ha, fun x' hx' => ?_⟩⟩
    obtain ⟨q', ws', e, n1, n2, h3, h4⟩ := gx x' hx'
    by_cases z : q' = q
    · subst z
      exact ⟨q', ys, e, n1, n2, upd_same, by omega⟩
    · exact ⟨q', ws', e, n1, n2, by rw [upd_ne z]; exact h3, h4⟩
  · rintro σ' G ⟨⟨o', rfl⟩, gp, ga, _⟩
    show tDrop (tCall spSpoil [] E2 (tCons (tVar i) tNil)) { D with nx := u D } (σ.set j o') G
    refine ⟨_, by rw [List.getElem?_set, if_neg (Ne.symm ij)]; exact hi, p, vs, rfl, gp, hl, fun ys _ => ?_⟩
    have same : ∀ a, B a ≠ none → upd G p (.lst ys) a = H a := fun a ha => by rw [upd_ne (fun e => ha (by rw [e]; exact np))]; exact ga a ha
    have hb : B b ≠ none := dmb b (ts b (by simp))
    have hc : B c ≠ none := dmb c (ts c (by simp))
    refine k o' _ (fun a ob e na => by rw [same a (by rw [e]; intro z; cases z)]; exact f a ob e na) (fun a m e => dm a m (by rw [← same a (dmb a m)]; exact e)) ?_
    obtain ⟨ne, ns, sl, sd, h1, h2, r⟩ := hB
    exact ⟨ne, ns, sl, sd, by rw [same b hb]; exact h1, by rw [same c hc]; exact h2, r⟩

end
end G

namespace G
open PySem L2 M
section
variable {P : Program} {w : World} {K : PySem.W.Frag} {mg : Str → Option Value} {base : Heap}


section
variable {α β κ : Type} {S T : AS} {σ : L2.St} {H : Hp} {te : TE}
/-- .. but another value than vm -/
def tNe (vm : V) (c : Ty K α) : Ty K α where
  rp S H v x := c.rp S H v x ∧ v ≠ vm
  mono f h := ⟨c.mono f h.1, h.2⟩
  ext f h := ⟨c.ext f h.1, h.2⟩
  sub f h := ⟨c.sub f h.1, h.2⟩
def svN (vm : V) : FT K Sv := fCons "own_marks" (tNe vm (tD Str (tOpt (tT2 tInt tInt)))) (fCons "own_readings" (tNe vm (tD Int (tTu (aCons tStr (aCons tStr (aCons tInt (aCons tInt (aCons tInt aNil)))))))) fNil)
theorem ev_unN {C : Addr} {vm : V} {r : Option Sv} (h : Ev S T te σ H (of (tO C (svN (K := K) vm)) S) r) : Ev S T te σ H (of (tO C (svT (K := K))) S) r := by
  intro x ex H1 f d Q q
  refine h x ex H1 f d Q fun v H2 s hv => q v H2 s ?_
  obtain ⟨p, dx, fs, e, hp, n, v1, f1, e1, g1, v2, f2, e2, g2, g3⟩ := hv
  exact ⟨p, dx, fs, e, hp, n, v1, f1, e1, g1.1, v2, f2, e2, g2.1, g3⟩
theorem ev_newON {C : Addr} {vm : V} {m : Mks} {r : Option Sv} (ts : M.Sub T S) (hm : (tD Str (tOpt (tT2 tInt tInt)) : Ty K Mks).rp S H vm m) (h : Ev S T te σ H (nwo C (svR (K := K)) S) r) : Ev S T te σ H (of (tO C (svN (K := K) vm)) S) r := by
  intro x ex H1 f d Q q
  refine h x ex H1 f d Q fun v H2 s hv => q v H2 s ?_
  obtain ⟨pm, _, rfl, ⟨hpm, npm⟩, _⟩ := hm
  have at1 : H1 pm ≠ none := by
    rw [f pm _ hpm (fun z => npm (ts _ z))]
    intro z; cases z
  obtain ⟨p, dx, fs, e, n, hp, q1, f1, e1, n1, o1, q2, f2, e2, n2, o2, z⟩ := hv
  have ne : ∀ {q : Addr}, H1 q = none → V.ref q ≠ V.ref pm := fun nq e => by
    cases e
    exact at1 nq
  exact ⟨p, dx, fs, e, hp, d.not_mem n, _, _, e1, ⟨nwD.rp ⟨q1, rfl, n1, o1⟩ d, ne n1⟩, _, _, e2, ⟨nwD.rp ⟨q2, rfl, n2, o2⟩ d, ne n2⟩, z⟩
theorem ne_lock {κ β : Type} [KeyC κ] [DecidableEq κ] {b' : Ty K β} [DL b'] {p : Addr} {kvs : List (Key × V)} {o : HO} {v : V} {x : List (κ × β)} (hp : H p = some (.dK kvs)) (h : (tNe (.ref p) (tD κ b')).rp S H v x) : (tNe (.ref p) (tD κ b')).rp (p :: S) (upd H p o) v x := by
  obtain ⟨⟨a, ks, rfl, ⟨h1, h2⟩, h3, h4⟩, n⟩ := h
  have na : a ≠ p := fun e => n (by rw [e])
  exact ⟨⟨a, ks, rfl, ⟨by rw [upd_ne na]; exact h1, fun m => by rcases List.mem_cons.mp m with z | z; exact na z; exact h2 z⟩, h3.imp fun _ _ => KvP.dl hp rfl, h4⟩, n⟩
theorem on_lock {C p : Addr} {kvs : List (Key × V)} {o : HO} {v : V} {x : Sv} (hp : H p = some (.dK kvs)) (h : (tO C (svN (K := K) (.ref p))).rp S H v x) : (tO C (svN (K := K) (.ref p))).rp (p :: S) (upd H p o) v x := by
  obtain ⟨q, dx, fs, e, hq, n, v1, f1, e1, g1, v2, f2, e2, g2, g3⟩ := h
  have nq : q ≠ p := fun z => by
    subst z
    rw [hp] at hq
    cases hq
  exact ⟨q, dx, fs, e, by rw [upd_ne nq]; exact hq, fun m => by rcases List.mem_cons.mp m with z | z; exact nq z; exact n z, v1, f1, e1, ne_lock hp g1, v2, f2, e2, ne_lock hp g2, g3⟩
end

end
end G

namespace G
open PySem L2 M
section
variable {P : Program} {w : World} {K : PySem.W.Frag} {mg : Str → Option Value} {base : Heap}

def szU {α β : Type} (p : α → Prop) (q : β → Prop) : α ⊕ β → Prop
  | .inl x => p x
  | .inr y => q y
theorem sm_U {α β : Type} {a : Ty K α} {b' : Ty K β} {k n : Nat} {p : α → Prop} {q : β → Prop} (h : SmOf a k p) (h' : SmOf b' n q) : SmOf (tU a b') (max k n) (szU p q) := by
  intro S S' H v w x h1 h2 hp m hm
  cases x with
  | inl y => exact h h1 h2 hp m (Nat.le_trans (Nat.le_max_left ..) hm)
  | inr y => exact h' h1 h2 hp m (Nat.le_trans (Nat.le_max_right ..) hm)

noncomputable def m_law (P : Bool → Prop) : Prop :=
  ((callBW (fun a => m_law_marks a.1) (tup2W (opW (fun x y => some (x + y)) (lf (some (1 : Int))) (callBW drawW (lf (some (7 : Int))))) (lf (some ())))) fun law_marks_here_1 => ((callBW (fun a => m_law_readings a.1 a.2.1) (tup2W (lf (bd (some law_marks_here_1) ksS?)) (tup2W (callBW drawW (lf (some (10 : Int)))) (lf (some ()))))) fun law_readings_here_2 => (lf (bd (bd (some law_marks_here_1) fun x => bd (bd (some law_readings_here_2) fun x => bd (some ()) fun y => some (x, y)) fun y => some (x, y)) fun a => m_Survey___init__ a.1 a.2.1) fun law_survey_3 => (lf (bd (bd (bd (some law_marks_here_1) fun x => some (x.map Prod.fst)) fun x => bd (bd (some law_readings_here_2) fun x => bd (some ()) fun y => some (x, y)) fun y => some (x, y)) fun a => m_law_tied a.1 a.2.1) fun law_heads_4 => (lf (some []) fun law_due_5 => ((lf (bd (bd (some law_heads_4) fun x => some (x.map Prod.snd)) setS?)) fun xs24 => loopW (fun s_6 law_head_6 K6 => (lf (bd (bd (some law_marks_here_1) ksS?) fun xs => filL? (fun law_name_here_8 => (bd (bd (some law_heads_4) fun d => bd (some law_name_here_8) fun k => getK d k) fun x => bd (some law_head_6) fun y => some (decide (x = y)))) (fun law_name_here_8 => (some law_name_here_8)) xs) fun a9 => (lf (app? s_6 a9) fun law_due_10 => K6 (Ct.go law_due_10)))) xs24 law_due_5 fun r_6 => match r_6 with | .ret y => P y | .go t_6 => (lf (bd (bd (some law_marks_here_1) fun x => bd (bd (some law_readings_here_2) fun x => bd (some ()) fun y => some (x, y)) fun y => some (x, y)) fun a => m_law_hanging a.1 a.2.1) fun law_hanging_here_11 => (lf (some true) fun law_good_12 => ((lf (bd (some (2 : Int)) rng1?)) fun xs23 => loopW (fun s_13 law_turn_13 K13 => (lf (bd (some law_survey_3) fun x => m_Survey_pieces x) fun found_14 => (andW (lf (some s_13)) (sameR (sEq (szL (szL noSz))) (lf (some found_14)) (lf (some t_6)))) fun good_15 => lf (spo2? found_14) fun _ => (lf (bd (some law_survey_3) fun x => m_Survey_loose x) fun law_late_16 => (lf (bd (bd (some law_marks_here_1) ksS?) fun xs => filL? (fun law_name_here_17 => (bd (some law_name_here_17) fun x => bd (some law_hanging_here_11) fun y => some (!memD x y))) (fun law_name_here_17 => (some law_name_here_17)) xs) fun law_gone_18 => ((andW (lf (some good_15)) (sameW (szL noSz) (lf (some law_late_16)) (lf (some law_gone_18)))) fun law_good_19 => (lf (spo? law_late_16) fun _ => K13 (Ct.go law_good_19))))))) xs23 law_good_12 fun r_13 => match r_13 with | .ret y => P y | .go t_13 => (loopW (ρ := Bool) (fun s_21 law_name_here_21 K21 => ((andW (lf (some s_21)) (sameR (sEq noSz) (lf (bd (bd (bd (some law_survey_3) fun x => bd (bd (some law_name_here_21) fun x => bd (some ()) fun y => some (x, y)) fun y => some (x, y)) fun a => m_law_hang a.1 a.2.1) getL?)) (lf (bd (some law_name_here_21) fun x => bd (some law_hanging_here_11) fun y => some (memD x y))))) fun law_good_22 => K21 (Ct.go law_good_22))) (law_marks_here_1.map Prod.fst) t_13 fun r_21 => match r_21 with | .ret y => False | .go t_21 => ((andW (lf (some t_21)) (sameR (sEq noSz) (lf (bd (bd (bd (some law_survey_3) fun x => bd (bd (some ("Q" : Str)) fun x => bd (some ()) fun y => some (x, y)) fun y => some (x, y)) fun a => m_law_hang a.1 a.2.1) getR?)) (lf (some ("Q" : Str))))) P) | .brk _ => False) | .brk _ => False))) | .brk _ => False))))))
end
end G

namespace G
open PySem L2 M
/-! ### texts -/
theorem shw_ok {i : Int} (h : i.natAbs ≤ 1000) : shw? i = some (Str.ofString (toString i)) ∧ (Str.ofString (toString i)).length ≤ 2000 := by
  have hl : i.natAbs.log2 < 1920 := by
    by_cases c : i.natAbs = 0
    · rw [c]; decide
    · refine Nat.lt_of_lt_of_le ((Nat.log2_lt c).mpr (show i.natAbs < 2 ^ 10 by omega)) (by decide)
  unfold shw?
  rw [if_pos hl]
  refine ⟨rfl, ?_⟩
  have e := int_text_length_le (k := 1920) (by decide) hl
  rw [ofString_length]
  omega
theorem catX_ok {x y : Str} (h : x.length + y.length ≤ 100000) : catX? x y = some (x ++ y) := by
  unfold catX?
  rw [if_pos]
  rw [Str.length_append, sizeLine_eq]
  omega
theorem catY_ok {x y : Str} (h : x.length + y.length ≤ 100000) : catY? x y = some (x ++ y) := by
  unfold catY?
  rw [if_pos]
  rw [sizeLine_eq]
  omega
/-! ### marks and readings as they are drawn -/
structure MkOk (m : Mks) : Prop where
  nd : (m.map Prod.fst).Nodup
  ne : m ≠ []
  l : m.length ≤ 20
  low : ∀ p ∈ m, lowB p.1 = true
  b : ∀ p ∈ m, ∀ q, p.2 = some q → -999 ≤ q.1 ∧ q.1 ≤ 999 ∧ -999 ≤ q.2 ∧ q.2 ≤ 999
def RdB (ks : List Str) (r : Rdg) : Prop := r.1 ∈ ks ∧ r.2.1 ∈ ks ∧ r.1 ≠ r.2.1 ∧ -999 ≤ r.2.2.1 ∧ r.2.2.1 ≤ 999 ∧ -999 ≤ r.2.2.2.1 ∧ r.2.2.2.1 ≤ 999 ∧ 1 ≤ r.2.2.2.2.1 ∧ r.2.2.2.2.1 ≤ 9
structure RdOk (ks : List Str) (r : Rds) : Prop where
  nd : (r.map Prod.fst).Nodup
  l : r.length ≤ 20
  b : ∀ p ∈ r, RdB ks p.2
theorem names_sp {n : Int} (n1 : 1 ≤ n) (n2 : n ≤ 20) {P : List Str → Prop} (h : ∀ zs : List Str, zs ≠ [] → zs.length ≤ 20 → zs.Nodup → (∀ z ∈ zs, lowB z = true) → P zs) : m_law_names n P := by
  unfold m_law_names
  simp only [bd, Option.bind_some, lf_some, rng1_eq (b := n) ⟨by omega, by omega⟩]
  have ll : (rngL 0 n.toNat).length = n.toNat := by simp [rngL]
  refine loopW_ix (fun i (s : List Str) => s.length ≤ i ∧ (0 < i → s ≠ []) ∧ s.Nodup ∧ ∀ z ∈ s, lowB z = true) _ 0 [] ⟨Nat.le_refl _, by omega, by simp, by simp⟩ (fun k s x C _ hk hs _ hC => ?_) (fun s hs => ?_)
  · intro z hz
    refine jn_of (fun t => t.length ≤ k + 1 ∧ (0 < k + 1 → t ≠ []) ∧ t.Nodup ∧ ∀ z ∈ t, lowB z = true) (fun J hJ => ?_) (fun t ht => hC t ht)
    split
    · rename_i c
      have ea : app? s z = some (s ++ [z]) := by
        unfold app?
        rw [if_pos]
        omega
      have nz : z ∉ s := fun m => by
        have := (memD_iff (x := z) (xs := s)).mpr m
        rw [this] at c
        cases c
      rw [ea, lf_some]
      refine hJ _ ⟨by simp; omega, by simp, ?_, fun w hw => ?_⟩
      · refine List.nodup_append.mpr ⟨hs.2.2.1, by simp, fun y hy w hw e => ?_⟩
        rw [List.mem_singleton] at hw
        subst hw
        subst e
        exact nz hy
      · rcases List.mem_append.mp hw with hw | hw
        · exact hs.2.2.2 w hw
        · rw [List.mem_singleton.mp hw]; exact hz
    · rename_i c
      refine hJ _ ⟨by omega, fun _ e => ?_, hs.2.2⟩
      subst e
      exact c (by simp [memD])
  · exact h s (hs.2.1 (by omega)) (by have := hs.1; omega) hs.2.2.1 hs.2.2.2
theorem drw {n : Int} (h0 : 0 < n) (h1 : n < 1073741824) {P : Int → Prop} (h : ∀ r, 0 ≤ r → r < n → P r) : drawW n P := ⟨h0, h1, h⟩
def In999 (i : Int) : Prop := -999 ≤ i ∧ i ≤ 999
theorem putB {m : Mks} {n : Str} {v : Option (Int × Int)} {zs : List Str} (hk : ∀ p ∈ m, lowB p.1 = true) (hz : lowB n = true) (hb : ∀ p ∈ m, ∀ q, p.2 = some q → -999 ≤ q.1 ∧ q.1 ≤ 999 ∧ -999 ≤ q.2 ∧ q.2 ≤ 999) (hv : ∀ q, v = some q → -999 ≤ q.1 ∧ q.1 ≤ 999 ∧ -999 ≤ q.2 ∧ q.2 ≤ 999) :
    (∀ p ∈ putL m n v, lowB p.1 = true) ∧ ∀ p ∈ putL m n v, ∀ q, p.2 = some q → -999 ≤ q.1 ∧ q.1 ≤ 999 ∧ -999 ≤ q.2 ∧ q.2 ≤ 999 := by
  refine ⟨fun p hp => ?_, fun p hp => ?_⟩
  · rcases dput_mem hp with hp | rfl
    · exact hk p hp
    · exact hz
  · rcases dput_mem hp with hp | rfl
    · exact hb p hp
    · exact hv
theorem marks_sp {n : Int} (n1 : 1 ≤ n) (n2 : n ≤ 20) {P : Mks → Prop} (h : ∀ m, MkOk m → P m) : m_law_marks n P := by
  unfold m_law_marks
  simp only [bd, Option.bind_some, lf_some, callBW, tup2W, opW, unW]
  refine names_sp n1 n2 fun zs z0 zl zn zb => ?_
  refine loopW_ix (fun i (s : Mks) => s.length ≤ i ∧ (0 < i → s ≠ []) ∧ (s.map Prod.fst).Nodup ∧ (∀ p ∈ s, lowB p.1 = true) ∧ ∀ p ∈ s, ∀ q, p.2 = some q → -999 ≤ q.1 ∧ q.1 ≤ 999 ∧ -999 ≤ q.2 ∧ q.2 ≤ 999) _ 0 [] ⟨Nat.le_refl _, by omega, by simp, by simp, by simp⟩ (fun k s x C _ hk hs hx hC => ?_) (fun s hs => ?_)
  · rw [put_eq? (by omega), lf_some]
    have hp := putB (zs := zs) hs.2.2.2.1 (zb x hx) hs.2.2.2.2 (v := none) (fun q e => by cases e)
    have l1 : (putL s x none).length ≤ k + 1 := Nat.le_trans putL_len (by omega)
    have xin : x ∈ (putL s x (none : Option (Int × Int))).map Prod.fst := by
      by_cases c : x ∈ s.map Prod.fst
      · rw [dput_keys_old c]; exact c
      · rw [dput_new c]; simp
    have ne1 : putL s x (none : Option (Int × Int)) ≠ [] := fun e => by rw [e] at xin; simp at xin
    have fin : ∀ v : Option (Int × Int), (∀ q, v = some q → -999 ≤ q.1 ∧ q.1 ≤ 999 ∧ -999 ≤ q.2 ∧ q.2 ≤ 999) → (putL (putL s x none) x v).length ≤ k + 1 ∧ (0 < k + 1 → putL (putL s x none) x v ≠ []) ∧ ((putL (putL s x none) x v).map Prod.fst).Nodup ∧ (∀ p ∈ putL (putL s x none) x v, lowB p.1 = true) ∧ ∀ p ∈ putL (putL s x none) x v, ∀ q, p.2 = some q → -999 ≤ q.1 ∧ q.1 ≤ 999 ∧ -999 ≤ q.2 ∧ q.2 ≤ 999 := fun v hv => by
      have h2 := putB (zs := zs) hp.1 (zb x hx) hp.2 hv
      have lk := congrArg List.length (dput_keys_old (y := v) xin)
      rw [List.length_map, List.length_map] at lk
      refine ⟨by rw [lk]; exact l1, fun _ e => ?_, put_nd (put_nd hs.2.2.1), h2⟩
      rw [e] at lk
      exact ne1 (List.length_eq_zero_iff.mp lk.symm)
    refine jn_of (fun (t : Mks) => t.length ≤ k + 1 ∧ (0 < k + 1 → t ≠ []) ∧ (t.map Prod.fst).Nodup ∧ (∀ p ∈ t, lowB p.1 = true) ∧ ∀ p ∈ t, ∀ q, p.2 = some q → -999 ≤ q.1 ∧ q.1 ≤ 999 ∧ -999 ≤ q.2 ∧ q.2 ≤ 999) (fun J hJ => ?_) (fun t ht => hC t ht)
    refine drw (by decide) (by decide) fun c _ _ => ?_
    split
    · refine drw (by decide) (by decide) fun a a0 a1 => drw (by decide) (by decide) fun b b0 b1 => ?_
      rw [put_eq? (by omega), lf_some]
      exact hJ _ (fin _ fun q e => by cases e; dsimp only; omega)
    · refine jn_of (fun (t : Mks) => t.length ≤ k + 1 ∧ (0 < k + 1 → t ≠ []) ∧ (t.map Prod.fst).Nodup ∧ (∀ p ∈ t, lowB p.1 = true) ∧ ∀ p ∈ t, ∀ q, p.2 = some q → -999 ≤ q.1 ∧ q.1 ≤ 999 ∧ -999 ≤ q.2 ∧ q.2 ≤ 999) (fun J2 hJ2 => ?_) (fun t ht => hJ t ht)
      refine drw (by decide) (by decide) fun c _ _ => ?_
      split
      · refine ⟨by simp, by simp, fun a ha => ⟨by simp, by simp, fun b hb => ?_⟩⟩
        simp only [List.mem_cons, List.not_mem_nil, or_false] at ha hb
        rw [put_eq? (by omega), lf_some]
        exact hJ2 _ (fin _ fun q e => by cases e; dsimp only; omega)
      · exact hJ2 _ ⟨l1, fun _ => ne1, put_nd hs.2.2.1, hp⟩
  · dsimp only
    exact h s ⟨hs.2.2.1, hs.2.1 (by have := List.length_pos_iff.mpr z0; omega), by omega, hs.2.2.2.1, hs.2.2.2.2⟩
end G

namespace G
open PySem L2 M
theorem readings_sp {zs ks : List Str} {n : Int} (z0 : zs ≠ []) (zl : zs.length ≤ 60) (hz : ∀ z ∈ zs, z ∈ ks) (n1 : 0 ≤ n) (n2 : n ≤ 20) {P : Rds → Prop} (h : ∀ r, RdOk ks r → P r) : m_law_readings zs n P := by
  unfold m_law_readings
  simp only [bd, Option.bind_some, lf_some, callBW, tup2W, opW, unW, consW, rng1_eq (b := n) ⟨by omega, by omega⟩]
  have ll : (rngL 0 n.toNat).length = n.toNat := by simp [rngL]
  refine loopW_ix (fun i (s : Int × Rds) => s.2.length ≤ i ∧ (s.2.map Prod.fst).Nodup ∧ (∀ p ∈ s.2, RdB ks p.2)) _ 0 (0, []) ⟨Nat.le_refl _, by simp, by simp⟩ (fun k s x C _ hk hs _ hC => ?_) (fun s hs => ?_)
  · refine drw (by decide) (by decide) fun d d0 d1 => ?_
    refine ⟨z0, by omega, fun one h1 => ⟨z0, by omega, fun two h2 => ?_⟩⟩
    refine jn_of (fun (t : Rds) => t.length ≤ k + 1 ∧ (t.map Prod.fst).Nodup ∧ (∀ p ∈ t, RdB ks p.2)) (fun J hJ => ?_) (fun t ht => hC _ ht)
    split
    · rename_i c
      have ne : one ≠ two := fun e => by subst e; simp at c
      refine drw (by decide) (by decide) fun a a0 a1 => drw (by decide) (by decide) fun b b0 b1 => drw (by decide) (by decide) fun e e0 e1 => ?_
      have hsz : ∃ z, atI [a - 999, b - 20] e = some z ∧ -999 ≤ z ∧ z ≤ 999 := by
        have : e = 0 ∨ e = 1 := by omega
        rcases this with rfl | rfl
        · exact ⟨a - 999, rfl, by omega, by omega⟩
        · exact ⟨b - 20, rfl, by omega, by omega⟩
      obtain ⟨z, ez, z1, z2⟩ := hsz
      rw [ez, lf_some]
      refine drw (by decide) (by decide) fun g g0 g1 => drw (by decide) (by decide) fun w w0 w1 => ?_
      rw [put_eq? (by omega), lf_some]
      refine hJ _ ⟨Nat.le_trans putL_len (by omega), put_nd hs.2.1, fun p hp => ?_⟩
      rcases dput_mem hp with hp | rfl
      · exact hs.2.2 p hp
      · exact ⟨hz _ h1, hz _ h2, ne, z1, z2, by show -999 ≤ g - 999; omega, by show g - 999 ≤ 999; omega, by show 1 ≤ 1 + w; omega, by show 1 + w ≤ 9; omega⟩
    · exact hJ _ ⟨by omega, hs.2⟩
  · dsimp only
    exact h s.2 ⟨hs.2.1, by have := hs.1; omega, hs.2.2⟩
/-! ### a survey is made -/
theorem ksS_eq {β : Type} {m : List (Str × β)} (h : m.length < 64) : ksS? m = some (sortBy ltS (m.map Prod.fst)) := by unfold ksS?; rw [if_pos h]
theorem ksI_eq {β : Type} {m : List (Int × β)} (h : m.length < 64) : ksI? m = some (sortI (m.map Prod.fst)) := by unfold ksI?; rw [if_pos h]
theorem loop_unit {α ρ : Type} {f : Unit → α → Option (Ct ρ Unit)} : ∀ {xs : List α}, (∀ x ∈ xs, f () x = some (.go ())) → loopC f xs () = some (.go ())
  | [], _ => rfl
  | x :: xs, h => by
    show (f () x).bind _ = _
    rw [h x List.mem_cons_self]
    exact loop_unit fun y hy => h y (List.mem_cons_of_mem _ hy)
theorem chk_num {i lo hi : Int} (h : lo ≤ i ∧ i ≤ hi) : m_check_number (i, lo, hi, ()) = some () := by
  unfold m_check_number
  rw [if_pos h]
theorem chk_place {v : Option (Int × Int)} (h : ∀ q, v = some q → -999 ≤ q.1 ∧ q.1 ≤ 999 ∧ -999 ≤ q.2 ∧ q.2 ≤ 999) : m_check_place v = some () := by
  unfold m_check_place
  cases v with
  | none => rfl
  | some q =>
    obtain ⟨h1, h2, h3, h4⟩ := h q rfl
    simp only [bd, Option.bind_some, optM]
    rw [loop_unit]
    · rfl
    · intro x hx
      simp only [List.mem_cons, List.not_mem_nil, or_false] at hx
      rw [chk_num (by rcases hx with rfl | rfl <;> omega)]
      rfl
theorem chk_read {m : Mks} {n : Int} {r : Rdg} (h : RdB (m.map Prod.fst) r) : m_check_reading m n r = some () := by
  obtain ⟨h1, h2, h3, h4, h5, h6, h7, h8, h9⟩ := h
  unfold m_check_reading
  simp only [bd, Option.bind_some]
  rw [loop_unit]
  · simp only [Option.bind_some, decide_eq_false h3, Bool.false_eq_true, if_false]
    rw [chk_num (by omega), Option.bind_some, chk_num (by omega), Option.bind_some, chk_num (by omega), Option.bind_some]
  · intro x hx
    simp only [List.mem_cons, List.not_mem_nil, or_false] at hx
    have hm : x ∈ m.map Prod.fst := by rcases hx with rfl | rfl <;> assumption
    obtain ⟨y, hy, _⟩ := dget_some hm
    rw [hy]
    rfl
theorem init_ok {m : Mks} {r : Rds} (hm : MkOk m) (hr : RdOk (m.map Prod.fst) r) : ∃ m' r', m_Survey___init__ m r = some (m', r', ()) ∧ m'.Perm m ∧ r'.Perm r := by
  have l1 : m.length < 64 := by have := hm.l; omega
  have l2 : r.length < 64 := by have := hr.l; omega
  obtain ⟨m', e1, p1, _⟩ := dc_anew hm.nd (sortS_perm (m.map Prod.fst)) (by omega)
  obtain ⟨r', e2, p2, _⟩ := dc_anew hr.nd (sortI_perm (r.map Prod.fst)) (by omega)
  refine ⟨m', r', ?_, p1, p2⟩
  unfold m_Survey___init__
  simp only [bd, Option.bind_some, ksS_eq l1, ksI_eq l2]
  rw [loop_unit]
  · simp only [Option.bind_some]
    rw [loop_unit]
    · simp only [Option.bind_some]
      rw [e1, Option.bind_some, e2, Option.bind_some]
    · intro x hx
      obtain ⟨y, hy, hmem⟩ := dget_some ((sortI_perm _).mem_iff.mp hx)
      rw [hy]
      simp only [Option.bind_some]
      rw [chk_read (hr.b _ hmem)]
      rfl
  · intro x hx
    obtain ⟨y, hy, hmem⟩ := dget_some ((sortS_perm _).mem_iff.mp hx)
    have hlow : m_check_name (x, ()) = some () := by
      unfold m_check_name
      rw [if_pos (hm.low _ hmem)]
    rw [hlow, Option.bind_some, hy]
    simp only [Option.bind_some]
    rw [chk_place (hm.b _ hmem)]
    rfl
end G

namespace G
open PySem L2 M
theorem bdS {α β : Type} {x : α} {f : α → Option β} : bd (some x) f = f x := rfl
theorem bdE {α β : Type} {o : Option α} {x : α} {f : α → Option β} (h : o = some x) : bd o f = f x := by rw [h]; rfl
theorem loopC_inv {α δ ρ : Type} {f : δ → α → Option (Ct ρ δ)} (J : List α → δ → Prop) : ∀ (xs done : List α) (s : δ), J done s → (∀ d s x, x ∈ xs → d.length < done.length + xs.length → J d s → ∃ s', f s x = some (.go s') ∧ J (d ++ [x]) s') → ∃ s', loopC f xs s = some (.go s') ∧ J (done ++ xs) s'
  | [], done, s, h, _ => ⟨s, rfl, by simpa using h⟩
  | x :: xs, done, s, h, st => by
    obtain ⟨s1, e1, h1⟩ := st done s x List.mem_cons_self (by simp) h
    obtain ⟨s2, e2, h2⟩ := loopC_inv J xs (done ++ [x]) s1 h1 fun d s y hy hl => st d s y (List.mem_cons_of_mem _ hy) (by simp at hl ⊢; omega)
    refine ⟨s2, ?_, by simpa using h2⟩
    show (f s x).bind _ = _
    rw [e1]
    exact e2
theorem dc_get {β : Type} {f : Str → Option β} {xs : List Str} (hn : xs.Nodup) (hl : xs.length < 100000) (hf : ∀ x ∈ xs, ∃ y, f x = some y) : ∃ r, dcL? (fun n => some n) f xs = some r ∧ r.map Prod.fst = xs ∧ ∀ x ∈ xs, getK r x = f x := by
  obtain ⟨r, e, h1, h2⟩ := dc_new (f := f) xs [] hn (by simp) hf
  refine ⟨r, ?_, h1, fun x hx => ?_⟩
  · unfold dcL?
    rw [if_pos hl, e, List.nil_append]
  · obtain ⟨y, hy, hm⟩ := dget_some (r := r) (k := x) (by rw [h1]; exact hx)
    rw [hy, h2 _ hm]
/-! ### what hangs together -/
def Adj (r : Rds) (T : List Int) (x y : Str) : Prop := ∃ n ∈ T, ∃ g, getK r n = some g ∧ ((g.1 = x ∧ g.2.1 = y) ∨ (g.1 = y ∧ g.2.1 = x))
theorem Adj.symm {r : Rds} {T : List Int} {x y : Str} (h : Adj r T x y) : Adj r T y x := by
  obtain ⟨n, hn, g, hg, h⟩ := h
  exact ⟨n, hn, g, hg, h.symm⟩
theorem Adj.mono {r : Rds} {T T' : List Int} {x y : Str} (s : ∀ n ∈ T, n ∈ T') (h : Adj r T x y) : Adj r T' x y := by
  obtain ⟨n, hn, g⟩ := h
  exact ⟨n, s n hn, g⟩
inductive Con (r : Rds) (T : List Int) (x : Str) : Str → Prop
  | refl : Con r T x x
  | step {y z : Str} : Con r T x y → Adj r T y z → Con r T x z
theorem Con.trans {r : Rds} {T : List Int} {x y z : Str} (h : Con r T x y) (h' : Con r T y z) : Con r T x z := by
  induction h' with
  | refl => exact h
  | step _ a ih => exact ih.step a
theorem Con.symm {r : Rds} {T : List Int} {x y : Str} (h : Con r T x y) : Con r T y x := by
  induction h with
  | refl => exact .refl
  | step _ a ih => exact (Con.refl.step a.symm).trans ih
theorem Con.mono {r : Rds} {T T' : List Int} {x y : Str} (s : ∀ n ∈ T, n ∈ T') (h : Con r T x y) : Con r T' x y := by
  induction h with
  | refl => exact .refl
  | step _ a ih => exact ih.step (a.mono s)
theorem Con.keys {r r' : Rds} {T : List Int} {x y : Str} (e : ∀ k, getK r' k = getK r k) (h : Con r T x y) : Con r' T x y := by
  induction h with
  | refl => exact .refl
  | step _ a ih =>
    obtain ⟨n, hn, g, hg, a⟩ := a
    exact ih.step ⟨n, hn, g, (e n).trans hg, a⟩
/-- heads that agree along the edges agree on what hangs together -/
theorem con_heads {r : Rds} {T : List Int} {hd : List (Str × Str)} {a b : Str} (d : ∀ n ∈ T, ∀ g, getK r n = some g → getK hd g.1 = getK hd g.2.1) (h : Con r T a b) : getK hd a = getK hd b := by
  induction h with
  | refl => rfl
  | step _ a ih =>
    obtain ⟨n, hn, g, hg, a⟩ := a
    rcases a with ⟨rfl, rfl⟩ | ⟨rfl, rfl⟩
    · exact ih.trans (d n hn g hg)
    · exact ih.trans (d n hn g hg).symm
/-! ### walks by what is done -/
theorem loopC_at {α δ ρ : Type} {f : δ → α → Option (Ct ρ δ)} (J : List α → δ → Prop) : ∀ (xs done : List α) (s : δ), J done s → (∀ d x r s, done ++ xs = d ++ x :: r → J d s → ∃ s', f s x = some (.go s') ∧ J (d ++ [x]) s') → ∃ s', loopC f xs s = some (.go s') ∧ J (done ++ xs) s'
  | [], done, s, h, _ => ⟨s, rfl, by simpa using h⟩
  | x :: xs, done, s, h, st => by
    obtain ⟨s1, e1, h1⟩ := st done x xs s rfl h
    obtain ⟨s2, e2, h2⟩ := loopC_at J xs (done ++ [x]) s1 h1 fun d y r s e => st d y r s (by simpa using e)
    refine ⟨s2, ?_, by simpa using h2⟩
    show (f s x).bind _ = _
    rw [e1]
    exact e2
theorem loopW_at {α δ ρ : Type} {f : δ → α → Wp (Ct ρ δ)} {P : Ct ρ δ → Prop} (J : List α → δ → Prop) : ∀ (xs done : List α) (s : δ), J done s → (∀ d x r s (C : Ct ρ δ → Prop), done ++ xs = d ++ x :: r → J d s → (∀ s', J (d ++ [x]) s' → C (.go s')) → f s x C) → (∀ s, J (done ++ xs) s → P (.go s)) → loopW f xs s P
  | [], done, s, h, _, e => e s (by simpa using h)
  | x :: xs, done, s, h, st, e => st done x xs s _ rfl h fun s' h' => loopW_at J xs (done ++ [x]) s' h' (fun d y r s C e => st d y r s C (by simpa using e)) fun s hs => e s (by simpa using hs)
theorem nd_split {α : Type} {xs d r : List α} {x : α} (n : xs.Nodup) (e : xs = d ++ x :: r) : x ∉ d := fun m => by
  rw [e] at n
  exact (List.nodup_append.mp n).2.2 x m x List.mem_cons_self rfl
theorem split_len {α : Type} {xs d r : List α} {x : α} (e : xs = d ++ x :: r) : d.length < xs.length := by
  rw [e]
  simp
theorem split_mem {α : Type} {xs d r : List α} {x : α} (e : xs = d ++ x :: r) : x ∈ xs := by
  rw [e]
  simp
theorem minS_le1 (x y : Str) : leT (minS x y) x := by
  unfold minS
  split
  · rename_i c
    rcases List.le_total y.cps.toList x.cps.toList with h | h
    · exact h
    · exact absurd (of_decide_eq_true c) h
  · exact List.le_refl _
theorem minS_le2 (x y : Str) : leT (minS x y) y := by
  unfold minS
  split
  · exact List.le_refl _
  · rename_i c
    exact ltS_le.mp (by simp [c])
/-! ### heads, merged -/
theorem minS_or (x y : Str) : minS x y = x ∨ minS x y = y := by
  unfold minS
  split
  · exact .inr rfl
  · exact .inl rfl
def upH (one two h : Str) : Str := if h = one ∨ h = two then minS one two else h
structure TJ (e : Rds) (names : List Str) (done : List Int) (s : List (Str × Str)) : Prop where
  k : s.map Prod.fst = names
  c : ∀ a b h, getK s a = some h → getK s b = some h → Con e done a b
  d : ∀ n ∈ done, ∀ g, getK e n = some g → getK s g.1 = getK s g.2.1
  m : ∀ x h, getK s x = some h → getK s h = some h ∧ leT h x
theorem upH_eq {one two h h' : Str} (e : upH one two h = upH one two h') : h = h' ∨ ((h = one ∨ h = two) ∧ (h' = one ∨ h' = two)) := by
  unfold upH at e
  by_cases c : h = one ∨ h = two <;> by_cases c' : h' = one ∨ h' = two
  · exact .inr ⟨c, c'⟩
  · rw [if_pos c, if_neg c'] at e
    exact absurd ((minS_or one two).imp (fun z => e.symm.trans z) fun z => e.symm.trans z) c'
  · rw [if_neg c, if_pos c'] at e
    exact absurd ((minS_or one two).imp (fun z => e.trans z) fun z => e.trans z) c
  · rw [if_neg c, if_neg c'] at e
    exact .inl e
theorem TJ.next {e : Rds} {names : List Str} {done : List Int} {s s' : List (Str × Str)} {n : Int} {g : Rdg} {one two : Str} (h : TJ e names done s) (hg : getK e n = some g) (h1 : getK s g.1 = some one) (h2 : getK s g.2.1 = some two) (hin : ∀ m y, getK e m = some y → y.1 ∈ names ∧ y.2.1 ∈ names)
    (k : s'.map Prod.fst = names) (u : ∀ x ∈ names, ∃ v, getK s x = some v ∧ getK s' x = some (upH one two v)) : TJ e names (done ++ [n]) s' := by
  have mo : ∀ z ∈ done, z ∈ done ++ [n] := fun z hz => List.mem_append_left _ hz
  have br : Con e (done ++ [n]) g.1 g.2.1 := Con.refl.step ⟨n, by simp, g, hg, .inl ⟨rfl, rfl⟩⟩
  have inn : ∀ {x v}, getK s' x = some v → x ∈ names := fun hx => by rw [← k]; exact List.mem_map.mpr ⟨_, dget_mem hx, rfl⟩
  refine ⟨k, fun a b v ha hb => ?_, fun m hm y hy => ?_, fun x h' hx => ?_⟩
  · obtain ⟨va, ea, ea'⟩ := u a (inn ha)
    obtain ⟨vb, eb, eb'⟩ := u b (inn hb)
    have e1 : upH one two va = upH one two vb := (Option.some.inj (ea'.symm.trans ha)).trans (Option.some.inj (eb'.symm.trans hb)).symm
    have to1 : ∀ {z vz}, getK s z = some vz → (vz = one ∨ vz = two) → Con e (done ++ [n]) z g.1 := fun ez c => by
      rcases c with rfl | rfl
      · exact (h.c _ _ _ ez h1).mono mo
      · exact ((h.c _ _ _ ez h2).mono mo).trans br.symm
    rcases upH_eq e1 with rfl | ⟨ca, cb⟩
    · exact (h.c _ _ _ ea eb).mono mo
    · exact (to1 ea ca).trans (to1 eb cb).symm
  · obtain ⟨y1, y2⟩ := hin m y hy
    obtain ⟨v1, e1, e1'⟩ := u _ y1
    obtain ⟨v2, e2, e2'⟩ := u _ y2
    rw [e1', e2']
    rcases List.mem_append.mp hm with hm | hm
    · have := h.d m hm y hy
      rw [e1, e2] at this
      rw [Option.some.inj this]
    · rw [List.mem_singleton.mp hm, hg] at hy
      cases hy
      rw [h1] at e1
      rw [h2] at e2
      cases e1
      cases e2
      simp [upH]
  · obtain ⟨v, ev, ev'⟩ := u x (inn hx)
    have eh : upH one two v = h' := Option.some.inj (ev'.symm.trans hx)
    have at_ : ∀ {z}, getK s z = some z → getK s' z = some (upH one two z) := fun {z} hz => by
      obtain ⟨w, e1, e2⟩ := u z (by rw [← h.k]; exact List.mem_map.mpr ⟨_, dget_mem hz, rfl⟩)
      rw [hz] at e1
      cases e1
      exact e2
    have a1 := (h.m _ _ h1).1
    have a2 := (h.m _ _ h2).1
    obtain ⟨av, lv⟩ := h.m _ _ ev
    by_cases c : v = one ∨ v = two
    · have em : minS one two = h' := by rw [← eh]; unfold upH; rw [if_pos c]
      subst em
      refine ⟨?_, leT_trans ?_ lv⟩
      · have b1 := at_ a1
        have b2 := at_ a2
        unfold upH at b1 b2
        rw [if_pos (.inl rfl)] at b1
        rw [if_pos (.inr rfl)] at b2
        rcases minS_or one two with z | z <;> rw [z] at b1 b2 ⊢ <;> assumption
      · rcases c with rfl | rfl
        · exact minS_le1 _ _
        · exact minS_le2 _ _
    · have em : v = h' := by rw [← eh]; unfold upH; rw [if_neg c]
      subst em
      have b1 := at_ av
      unfold upH at b1
      rw [if_neg c] at b1
      exact ⟨b1, lv⟩
theorem tied_ok {names : List Str} {e : Rds} (nn : names.Nodup) (nl : names.length ≤ 20) (el : e.length ≤ 20) (hin : ∀ m y, getK e m = some y → y.1 ∈ names ∧ y.2.1 ∈ names) :
    ∃ hd, m_law_tied names e = some hd ∧ TJ e names (sortI (e.map Prod.fst)) hd := by
  unfold m_law_tied
  rw [bdS, bdS]
  have first := loopC_at (ρ := List (Str × Str)) (f := fun s_2 law_name_here_2 => (bd (some law_name_here_2) fun a3 => (bd (some law_name_here_2) fun i4 => (bd (putL? s_2 i4 a3) fun law_heads_5 => some (Ct.go law_heads_5)))))
    (fun done s => s = done.map fun x => (x, x)) names [] [] rfl (fun d x r s ed hs => ?_)
  · obtain ⟨s1, e1, h1⟩ := first
    rw [List.nil_append] at h1
    have em : s1.map Prod.fst = names := by rw [h1, List.map_map]; exact List.map_id _
    have g0 : ∀ {x h}, getK s1 x = some h → x = h := fun {x h} hx => by
      have := dget_mem hx
      rw [h1] at this
      obtain ⟨z, _, ez⟩ := List.mem_map.mp this
      cases ez
      rfl
    have sec := loopC_at (ρ := List (Str × Str)) (f := fun s_6 law_number_6 => (bd (bd (bd (some e) fun d => bd (some law_number_6) fun k => getK d k) fun x => some (x.1, x.2.1, ())) fun u_7 => (bd (bd (some u_7.1) fun y => getK s_6 y) fun law_one_8 => (bd (bd (some u_7.2.1) fun y => getK s_6 y) fun law_two_9 => (bd (some names) fun xs16 => bd (loopC (ρ := (List (Str × Str))) (fun s_10 law_name_here_10 => (bd (bd (bd (some s_10) fun d => bd (some law_name_here_10) fun k => getK d k) fun x => bd (bd (some law_one_8) fun x => bd (bd (some law_two_9) fun x => bd (some []) fun y => some (x :: y)) fun y => some (x :: y)) fun y => some (memD x y)) fun c11 => (bd (if c11 then (bd (bd (some law_one_8) fun x => bd (some law_two_9) fun y => some (minS x y)) fun a12 => (bd (some law_name_here_10) fun i13 => (bd (putL? s_10 i13 a12) fun law_heads_14 => some law_heads_14))) else some s_10) fun j15 => some (Ct.go j15)))) xs16 s_6) fun r_10 => match r_10 with | .ret y => some (Ct.ret y) | .go t_10 => some (Ct.go t_10) | .brk _ => none)))))
      (TJ e names) (sortI (e.map Prod.fst)) [] s1 ⟨em, fun a b h ha hb => by rw [g0 ha, g0 hb]; exact .refl, by simp, fun x h hx => by cases g0 hx; exact ⟨hx, List.le_refl _⟩⟩ (fun d n r s ed hJ => ?_)
    · obtain ⟨s2, e2, h2⟩ := sec
      refine ⟨s2, ?_, by simpa using h2⟩
      rw [bdE e1]
      show bd (bd (some e) ksI?) _ = _
      rw [bdS, bdE (ksI_eq (by omega))]
      exact Eq.trans (congrArg (fun z => bd z _) e2) rfl
    · have hn : n ∈ e.map Prod.fst := (sortI_perm _).mem_iff.mp (split_mem (by simpa using ed))
      obtain ⟨g, hg, _⟩ := dget_some hn
      obtain ⟨i1, i2⟩ := hin n g hg
      obtain ⟨one, ho, _⟩ := dget_some (r := s) (k := g.1) (by rw [hJ.k]; exact i1)
      obtain ⟨two, ht, _⟩ := dget_some (r := s) (k := g.2.1) (by rw [hJ.k]; exact i2)
      have inn := loopC_at (ρ := List (Str × Str)) (f := fun s_10 law_name_here_10 => (bd (bd (bd (some s_10) fun d => bd (some law_name_here_10) fun k => getK d k) fun x => bd (bd (some one) fun x => bd (bd (some two) fun x => bd (some []) fun y => some (x :: y)) fun y => some (x :: y)) fun y => some (memD x y)) fun c11 => (bd (if c11 then (bd (bd (some one) fun x => bd (some two) fun y => some (minS x y)) fun a12 => (bd (some law_name_here_10) fun i13 => (bd (putL? s_10 i13 a12) fun law_heads_14 => some law_heads_14))) else some s_10) fun j15 => some (Ct.go j15))))
        (fun d s' => s'.map Prod.fst = names ∧ (∀ x ∈ d, ∃ v, getK s x = some v ∧ getK s' x = some (upH one two v)) ∧ ∀ x, x ∉ d → getK s' x = getK s x) names [] s ⟨hJ.k, by simp, fun _ _ => rfl⟩ (fun d x r s' ed2 hs => ?_)
      · obtain ⟨s', e', k', u', _⟩ := inn
        refine ⟨s', ?_, hJ.next hg ho ht hin k' fun x hx => u' x (by simpa using hx)⟩
        rw [bdS, bdS, bdE hg, bdS, bdS, bdE ho, bdS, bdE ht, bdS]
        exact Eq.trans (congrArg (fun z => bd z _) e') rfl
      · rw [List.nil_append] at ed2
        obtain ⟨k', u', o'⟩ := hs
        have nx := nd_split nn ed2
        have mx := split_mem ed2
        obtain ⟨v, hv, _⟩ := dget_some (r := s) (k := x) (by rw [hJ.k]; exact mx)
        have hv' := (o' x nx).trans hv
        have sl : s'.length < 100000 := by
          have := congrArg List.length k'
          rw [List.length_map] at this
          omega
        have mk : x ∈ s'.map Prod.fst := by rw [k']; exact mx
        have fin : ∀ s2 : List (Str × Str), s2.map Prod.fst = names → getK s2 x = some (upH one two v) → (∀ y, y ≠ x → getK s2 y = getK s' y) → s2.map Prod.fst = names ∧ (∀ y ∈ d ++ [x], ∃ v, getK s y = some v ∧ getK s2 y = some (upH one two v)) ∧ ∀ y, y ∉ d ++ [x] → getK s2 y = getK s y := by
          intro s2 k2 g2 o2
          refine ⟨k2, fun y hy => ?_, fun y hy => ?_⟩
          · rcases List.mem_append.mp hy with hy | hy
            · have ne : y ≠ x := fun z => nx (z ▸ hy)
              obtain ⟨w, h1, h2⟩ := u' y hy
              exact ⟨w, h1, (o2 y ne).trans h2⟩
            · rw [List.mem_singleton.mp hy]
              exact ⟨v, hv, g2⟩
          · have ne : y ≠ x := fun z => hy (by simp [z])
            exact (o2 y ne).trans (o' y fun z => hy (List.mem_append_left _ z))
        by_cases c : v = one ∨ v = two
        · refine ⟨putL s' x (minS one two), ?_, fin _ (by rw [dput_keys_old mk]; exact k') (by rw [dput_get, if_pos rfl]; unfold upH; rw [if_pos c]) fun y ne => by rw [dput_get, if_neg ne]⟩
          have m : memD v [one, two] = true := memD_iff.mpr (by simpa using c)
          simp only [bdS]
          rw [bdE hv', bdS, m, if_pos rfl, put_eq? sl]
          rfl
        · refine ⟨s', ?_, fin s' k' (by rw [hv']; unfold upH; rw [if_neg c]) fun _ _ => rfl⟩
          have m : memD v [one, two] = false := by
            cases h : memD v [one, two] with
            | false => rfl
            | true => exact absurd (by simpa using memD_iff.mp h) c
          simp only [bdS]
          rw [bdE hv', bdS, m, if_neg (by decide)]
          rfl
  · rw [List.nil_append] at ed
    subst hs
    have nx := nd_split nn ed
    have kk : x ∉ (d.map fun x => (x, x)).map Prod.fst := by rw [List.map_map]; intro m; exact nx (by simpa using m)
    refine ⟨putL (d.map fun x => (x, x)) x x, ?_, ?_⟩
    · rw [bdS, bdS, put_eq? (by rw [List.length_map]; have := split_len ed; omega), bdS]
    · rw [dput_new kk, List.map_append]
      rfl
/-- what hangs together by them -/
theorem TJ.iff {e : Rds} {names : List Str} {T : List Int} {hd : List (Str × Str)} {a b : Str} (h : TJ e names T hd) (ha : a ∈ names) : getK hd a = getK hd b ↔ Con e T a b := by
  constructor
  · intro q
    obtain ⟨v, hv, _⟩ := dget_some (r := hd) (k := a) (by rw [h.k]; exact ha)
    exact h.c _ _ v hv (q ▸ hv)
  · exact con_heads h.d
end G

namespace G
open PySem L2 M
/-! ### who is whose neighbour -/
def Tie (l : List Rdg) (x y : Str) : Prop := ∃ g ∈ l, (g.1 = x ∧ g.2.1 = y) ∨ (g.1 = y ∧ g.2.1 = x)
theorem Tie.symm {l : List Rdg} {x y : Str} (h : Tie l x y) : Tie l y x := by
  obtain ⟨g, hg, h⟩ := h
  exact ⟨g, hg, h.symm⟩
theorem Tie.snoc {l : List Rdg} {g : Rdg} {x y : Str} : Tie (l ++ [g]) x y ↔ Tie l x y ∨ (g.1 = x ∧ g.2.1 = y) ∨ (g.1 = y ∧ g.2.1 = x) := by
  constructor
  · rintro ⟨z, hz, h⟩
    rcases List.mem_append.mp hz with hz | hz
    · exact .inl ⟨z, hz, h⟩
    · rw [List.mem_singleton.mp hz] at h
      exact .inr h
  · rintro (⟨z, hz, h⟩ | h)
    · exact ⟨z, List.mem_append_left _ hz, h⟩
    · exact ⟨g, by simp, h⟩
theorem appK_ok {s : List (Str × List Str)} {k x : Str} {l : List Str} (h : getK s k = some l) (hl : l.length < 100000) : appK? s k x = some (putL s k (l ++ [x])) := by
  unfold appK?
  rw [bdE h]
  unfold app?
  rw [if_pos hl]
  rfl
structure NJ (names : List Str) (done : List Rdg) (s : List (Str × List Str)) : Prop where
  k : s.map Prod.fst = names
  l : ∀ x ∈ names, ∃ l, getK s x = some l ∧ l.length ≤ 2 * done.length ∧ ∀ y, y ∈ l ↔ Tie done x y
theorem near_ok {m : Mks} {r : Rds} (hl : m.length ≤ 20) (rl : r.length ≤ 20) (hin : ∀ g ∈ r.map Prod.snd, g.1 ∈ m.map Prod.fst ∧ g.2.1 ∈ m.map Prod.fst ∧ g.1 ≠ g.2.1) :
    ∃ near, m_neighbours m r = some near ∧ NJ (m.map Prod.fst) (r.map Prod.snd) near := by
  unfold m_neighbours
  rw [if_pos (by omega)]
  have key := loopC_inv (ρ := Unit) (f := near_body) (fun d s => NJ (m.map Prod.fst) d s) (r.map Prod.snd) [] ((m.map Prod.fst).map fun x => (x, [])) ⟨by rw [List.map_map]; exact List.map_id _, fun x hx => ?_⟩ (fun d s g hg hd hJ => ?_)
  · obtain ⟨s, e, h⟩ := key
    exact ⟨s, by rw [bdE e], by simpa using h⟩
  · obtain ⟨l, hl, hm⟩ := dget_some (r := (m.map Prod.fst).map fun x => (x, ([] : List Str))) (k := x) (by rw [List.map_map]; exact (List.map_id (m.map Prod.fst)).symm ▸ hx)
    obtain ⟨_, _, e⟩ := List.mem_map.mp hm
    cases e
    refine ⟨[], hl, Nat.zero_le _, fun y => ⟨fun h => by simp at h, ?_⟩⟩
    rintro ⟨g, hg, _⟩
    simp at hg
  · obtain ⟨i1, i2, ne⟩ := hin g hg
    have dl : d.length ≤ 20 := by simp at hd; omega
    obtain ⟨l1, h1, b1, c1⟩ := hJ.l _ i1
    obtain ⟨l2, h2, b2, c2⟩ := hJ.l _ i2
    have h2' : getK (putL s g.1 (l1 ++ [g.2.1])) g.2.1 = some l2 := by rw [dput_get, if_neg (Ne.symm ne)]; exact h2
    refine ⟨putL (putL s g.1 (l1 ++ [g.2.1])) g.2.1 (l2 ++ [g.1]), ?_, ?_, ?_⟩
    · unfold near_body
      rw [bdS, bdS, bdE (appK_ok h1 (by omega)), bdE (appK_ok h2' (by omega))]
    · have m1 : g.1 ∈ s.map Prod.fst := by rw [hJ.k]; exact i1
      rw [dput_keys_old (by rw [dput_keys_old m1, hJ.k]; exact i2), dput_keys_old m1]
      exact hJ.k
    · intro x hx
      rw [dput_get, dput_get]
      by_cases cx2 : x = g.2.1
      · subst cx2
        refine ⟨l2 ++ [g.1], by rw [if_pos rfl], by simp; omega, fun y => ?_⟩
        rw [List.mem_append, c2, Tie.snoc, List.mem_singleton]
        constructor
        · rintro (h | h)
          · exact .inl h
          · exact .inr (.inr ⟨h.symm, rfl⟩)
        · rintro (h | h | h)
          · exact .inl h
          · exact absurd h.1 ne
          · exact .inr h.1.symm
      · rw [if_neg cx2]
        by_cases cx1 : x = g.1
        · subst cx1
          refine ⟨l1 ++ [g.2.1], by rw [if_pos rfl], by simp; omega, fun y => ?_⟩
          rw [List.mem_append, c1, Tie.snoc, List.mem_singleton]
          constructor
          · rintro (h | h)
            · exact .inl h
            · exact .inr (.inl ⟨rfl, h.symm⟩)
          · rintro (h | h | h)
            · exact .inl h
            · exact .inr h.2.symm
            · exact absurd h.2.symm ne
        · rw [if_neg cx1]
          obtain ⟨l, h, b, c⟩ := hJ.l _ hx
          refine ⟨l, h, by simp; omega, fun y => ?_⟩
          rw [c, Tie.snoc]
          constructor
          · exact .inl
          · rintro (h | h | h)
            · exact h
            · exact absurd h.1.symm cx1
            · exact absurd h.2.symm cx2
end G

namespace G
open PySem L2 M
theorem nd_le {α : Type} [DecidableEq α] : ∀ {xs ys : List α}, xs.Nodup → (∀ x ∈ xs, x ∈ ys) → xs.length ≤ ys.length
  | [], ys, _, _ => Nat.zero_le _
  | x :: xs, ys, hn, hs => by
    rw [List.nodup_cons] at hn
    have hx := hs x List.mem_cons_self
    have := nd_le (ys := ys.erase x) hn.2 fun y hy => (List.mem_erase_of_ne (a := y) (b := x) (fun e : y = x => hn.1 (e ▸ hy))).mpr (hs y (List.mem_cons_of_mem _ hy))
    rw [List.length_erase_of_mem hx] at this
    have := List.length_pos_of_mem hx
    rw [List.length_cons]
    omega
/-! ### what is reached -/
inductive Lk (l : List Rdg) (x : Str) : Str → Prop
  | refl : Lk l x x
  | step {y z : Str} : Lk l x y → Tie l y z → Lk l x z
abbrev Fd : Type := List (Str × Bool)
def mu (f : Fd) (w : List Str) : Nat := 2 * (20 - f.length) + w.length
def inR : Fd × List Str → Str → Option (Ct (List Str) (Fd × List Str)) := (fun s_5 name_5 => (bd (bd (some name_5) fun k => some (!(getK s_5.1 k).isSome)) fun c6 => (bd (if c6 then (bd (some true) fun a7 => (bd (some name_5) fun i8 => (bd (putL? s_5.1 i8 a7) fun found_9 => (bd (some name_5) fun a10 => (bd (app? s_5.2 a10) fun waiting_11 => some (found_9, waiting_11)))))) else some (s_5.1, s_5.2)) fun j12 => some (Ct.go (j12.1, j12.2)))))
structure RJ (l : List Rdg) (names : List Str) (start : Str) (f : Fd) (w : List Str) : Prop where
  nd : (f.map Prod.fst).Nodup
  inn : ∀ x ∈ f.map Prod.fst, x ∈ names
  lk : ∀ x ∈ f.map Prod.fst, Lk l start x
  st : start ∈ f.map Prod.fst
  w : ∀ x ∈ w, x ∈ f.map Prod.fst
theorem RJ.len {l : List Rdg} {names : List Str} {start : Str} {f : Fd} {w : List Str} (h : RJ l names start f w) (nl : names.length ≤ 20) : f.length ≤ 20 := by
  have := nd_le h.nd h.inn
  rw [List.length_map] at this
  omega
theorem inner_ok {l : List Rdg} {names : List Str} {start here : Str} {bnd : Nat} (nl : names.length ≤ 20) (bb : bnd ≤ 100) {ns : List Str} (hn : ∀ y ∈ ns, Tie l here y) (hi : ∀ x y, Tie l x y → y ∈ names) {f : Fd} {w : List Str} (h0 : RJ l names start f w) (hh : here ∈ f.map Prod.fst) (hb : mu f w ≤ bnd)
    (hc : ∀ x ∈ f.map Prod.fst, x ∉ w → x ≠ here → ∀ y, Tie l x y → y ∈ f.map Prod.fst) :
    ∃ f' w', loopC (ρ := List Str) inR ns (f, w) = some (.go (f', w')) ∧ RJ l names start f' w' ∧ mu f' w' ≤ bnd ∧ (∀ x ∈ f'.map Prod.fst, x ∉ w' → x ≠ here → ∀ y, Tie l x y → y ∈ f'.map Prod.fst) ∧ (∀ y ∈ ns, y ∈ f'.map Prod.fst) := by
  have key := loopC_inv (ρ := List Str) (f := inR) (fun d s => RJ l names start s.1 s.2 ∧ here ∈ s.1.map Prod.fst ∧ mu s.1 s.2 ≤ bnd ∧ (∀ x ∈ s.1.map Prod.fst, x ∉ s.2 → x ≠ here → ∀ y, Tie l x y → y ∈ s.1.map Prod.fst) ∧ ∀ y ∈ d, y ∈ s.1.map Prod.fst) ns [] (f, w) ⟨h0, hh, hb, hc, by simp⟩ (fun d s y hy hd hJ => ?_)
  · obtain ⟨⟨f', w'⟩, e, h1, _, h3, h4, h5⟩ := key
    exact ⟨f', w', e, h1, h3, h4, by simpa using h5⟩
  · obtain ⟨f, w⟩ := s
    obtain ⟨hR, hh, hb, hc, hd'⟩ := hJ
    dsimp only at hR hh hb hc hd' ⊢
    have fl := hR.len nl
    by_cases c : y ∈ f.map Prod.fst
    · obtain ⟨v, hv, _⟩ := dget_some c
      refine ⟨(f, w), ?_, hR, hh, hb, hc, fun z hz => ?_⟩
      · unfold inR
        rw [bdS, hv]
        rfl
      · rcases List.mem_append.mp hz with hz | hz
        · exact hd' z hz
        · rw [List.mem_singleton.mp hz]; exact c
    · have hv : getK f y = none := dget_none.mpr c
      have ty := hn y hy
      have k1 : (putL f y true).map Prod.fst = f.map Prod.fst ++ [y] := by rw [dput_new c, List.map_append]; rfl
      have len1 : (putL f y true).length = f.length + 1 := by rw [dput_new c, List.length_append]; rfl
      have R1 : RJ l names start (putL f y true) (w ++ [y]) := by
        refine ⟨?_, ?_, ?_, ?_, ?_⟩
        · rw [k1]
          exact List.nodup_append.mpr ⟨hR.nd, by simp, fun a ha b hb e => c (by rw [List.mem_singleton.mp hb] at e; exact e ▸ ha)⟩
        · rw [k1]
          intro x hx
          rcases List.mem_append.mp hx with hx | hx
          · exact hR.inn x hx
          · rw [List.mem_singleton.mp hx]; exact hi _ _ ty
        · rw [k1]
          intro x hx
          rcases List.mem_append.mp hx with hx | hx
          · exact hR.lk x hx
          · rw [List.mem_singleton.mp hx]; exact (hR.lk here hh).step ty
        · rw [k1]; exact List.mem_append_left _ hR.st
        · rw [k1]
          intro x hx
          rcases List.mem_append.mp hx with hx | hx
          · exact List.mem_append_left _ (hR.w x hx)
          · exact List.mem_append_right _ hx
      have fl1 := R1.len nl
      have wl : w.length ≤ 100 := by unfold mu at hb; omega
      refine ⟨(putL f y true, w ++ [y]), ?_, R1, ?_, ?_, ?_, ?_⟩
      · unfold inR
        rw [bdS, hv]
        have e1 : putL? f y true = some (putL f y true) := put_eq? (by omega)
        have e2 : app? w y = some (w ++ [y]) := by unfold app?; rw [if_pos (by omega)]
        show bd (bd (putL? f y true) fun a => bd (app? w y) fun b => some (a, b)) _ = _
        rw [bdE e1, bdE e2]
        rfl
      · rw [k1]; exact List.mem_append_left _ hh
      · unfold mu at hb ⊢
        rw [len1, List.length_append] at *
        simp only [List.length_singleton]
        omega
      · rw [k1]
        intro x hx nx ne z tz
        rcases List.mem_append.mp hx with hx | hx
        · exact List.mem_append_left _ (hc x hx (fun m => nx (List.mem_append_left _ m)) ne z tz)
        · exact absurd (List.mem_append_right _ hx) nx
      · rw [k1]
        intro z hz
        rcases List.mem_append.mp hz with hz | hz
        · exact List.mem_append_left _ (hd' z hz)
        · exact List.mem_append_right _ hz
theorem last_of {w : List Str} (h : w ≠ []) : ∃ x, w.getLast? = some x ∧ w = w.dropLast ++ [x] := ⟨w.getLast h, List.getLast?_eq_some_getLast h, (List.dropLast_concat_getLast h).symm⟩
theorem reached_ok {l : List Rdg} {names : List Str} {near : List (Str × List Str)} {start : Str} (nl : names.length ≤ 20) (hN : NJ names l near) (hi : ∀ x y, Tie l x y → y ∈ names) (sn : start ∈ names) :
    ∃ ks, m_reached near start = some ks ∧ ks.Nodup ∧ ks.Pairwise leT ∧ ∀ y, y ∈ ks ↔ Lk l start y := by
  have key := whileC_meas (ρ := List Str) (t := fun s : List Str × Fd => (bd (some s.1) fun x => some (!x.isEmpty))) (f := (fun s_3 => (bd (popB? s_3.1) fun z_4 => (bd (bd (some near) fun d => bd (some z_4.1) fun k => getK d k) fun xs13 => bd (loopC (ρ := (List Str)) (fun s_5 name_5 => (bd (bd (some name_5) fun k => some (!(getK s_5.1 k).isSome)) fun c6 => (bd (if c6 then (bd (some true) fun a7 => (bd (some name_5) fun i8 => (bd (putL? s_5.1 i8 a7) fun found_9 => (bd (some name_5) fun a10 => (bd (app? s_5.2 a10) fun waiting_11 => some (found_9, waiting_11)))))) else some (s_5.1, s_5.2)) fun j12 => some (Ct.go (j12.1, j12.2))))) xs13 (s_3.2, z_4.2)) fun r_5 => match r_5 with | .ret y => some (Ct.ret y) | .go t_5 => some (Ct.go (t_5.2, t_5.1)) | .brk _ => none))))
    (fun s => RJ l names start s.2 s.1 ∧ mu s.2 s.1 ≤ 100 ∧ ∀ x ∈ s.2.map Prod.fst, x ∉ s.1 → ∀ y, Tie l x y → y ∈ s.2.map Prod.fst) (fun s => mu s.2 s.1) (fun s hJ => ?_) 100000 ([start], [(start, true)]) ⟨⟨by simp, by simpa using sn, fun x hx => by rw [List.mem_singleton.mp hx]; exact .refl, by simp, by simp⟩, (by unfold mu; simp), fun x hx nx => absurd hx nx⟩ (by show mu _ _ < _; unfold mu; simp)
  · obtain ⟨⟨w, f⟩, e, ⟨hR, _, hc⟩, ht⟩ := key
    have hw : w = [] := by
      cases w with
      | nil => rfl
      | cons a b => cases ht
    subst hw
    have fl := hR.len nl
    refine ⟨sortBy ltS (f.map Prod.fst), ?_, (sortS_perm _).nodup_iff.mpr hR.nd, sortS_pw _, fun y => ?_⟩
    · unfold m_reached
      rw [bdS, bdS, bdS, bdS, bdS, bdS]
      refine Eq.trans (congrArg (fun z => bd z _) e) ?_
      exact ksS_eq (by omega)
    · rw [(sortS_perm _).mem_iff]
      constructor
      · exact hR.lk y
      · intro h
        induction h with
        | refl => exact hR.st
        | step _ t ih => exact hc _ ih (by simp) _ t
  · obtain ⟨w, f⟩ := s
    obtain ⟨hR, hm, hc⟩ := hJ
    dsimp only at hR hm hc ⊢
    by_cases c : w = []
    · subst c; exact .inl rfl
    · right
      obtain ⟨here, e1, e2⟩ := last_of c
      have hw : here ∈ w := by rw [e2]; simp
      have hh := hR.w here hw
      have wl : w.length = w.dropLast.length + 1 := by
        have := congrArg List.length e2
        rw [List.length_append] at this
        exact this
      obtain ⟨ns, en, nb, nt⟩ := hN.l here (hR.inn here hh)
      have R0 : RJ l names start f w.dropLast := ⟨hR.nd, hR.inn, hR.lk, hR.st, fun x hx => hR.w x (by rw [e2]; exact List.mem_append_left _ hx)⟩
      obtain ⟨f', w', e3, R1, m1, c1, d1⟩ := inner_ok (here := here) (bnd := mu f w.dropLast) nl (by unfold mu at hm ⊢; omega) (fun y hy => (nt y).mp hy) hi R0 hh (Nat.le_refl _) (fun x hx nx ne y ty => hc x hx (fun m => by
        rw [e2] at m
        rcases List.mem_append.mp m with m | m
        · exact nx m
        · exact ne (List.mem_singleton.mp m)) y ty)
      refine ⟨?_, (w', f'), ?_, ⟨R1, by show mu f' w' ≤ 100; unfold mu at hm m1 ⊢; omega, fun x hx nx y ty => ?_⟩, by show mu f' w' < mu f w; unfold mu at m1 ⊢; omega⟩
      · cases w with
        | nil => exact absurd rfl c
        | cons a b => rfl
      · have ep : popB? w = some (here, w.dropLast) := by unfold popB?; rw [e1]
        rw [bdE ep, bdS, bdS, bdE en]
        exact Eq.trans (congrArg (fun z => bd z _) e3) rfl
      · by_cases ce : x = here
        · subst ce
          exact d1 y ((nt y).mpr ty)
        · exact c1 x hx nx ce y ty
end G

namespace G
open PySem L2 M
theorem srt_uniq {xs ys : List Str} (n1 : xs.Nodup) (n2 : ys.Nodup) (h : ∀ y, y ∈ xs ↔ y ∈ ys) (s1 : xs.Pairwise leT) (s2 : ys.Pairwise leT) : xs = ys :=
  ((List.perm_ext_iff_of_nodup n1 n2).mpr h).eq_of_pairwise (fun _ _ _ _ h1 h2 => leT_anti h1 h2) s1 s2
/-- names in order, and the least of those each hangs together with -/
structure HD (L : List Str) (l : List Rdg) (H : Str → Option Str) : Prop where
  nd : L.Nodup
  so : L.Pairwise leT
  len : L.length ≤ 20
  lk : ∀ x, x ∈ L → ∀ y, Lk l x y ↔ (y ∈ L ∧ H y = H x)
  hd : ∀ x, x ∈ L → ∃ h, H x = some h ∧ h ∈ L ∧ H h = some h ∧ leT h x
def cls (L : List Str) (H : Str → Option Str) (x : Str) : List Str := L.filter fun y => decide (H y = H x)
def isHd (H : Str → Option Str) (x : Str) : Bool := decide (H x = some x)
theorem cls_len {L : List Str} {H : Str → Option Str} {x : Str} : (cls L H x).length ≤ L.length := List.length_filter_le _ _
theorem mark_ok {ps : List Str} {f : Fd} {L : List Str} (nl : L.length ≤ 20) (n : (f.map Prod.fst).Nodup) (i : ∀ x ∈ f.map Prod.fst, x ∈ L) (ip : ∀ x ∈ ps, x ∈ L) :
    ∃ f', loopC (ρ := List (List Str)) (fun s_9 mark_9 => (bd (some true) fun a10 => (bd (some mark_9) fun i11 => (bd (putL? s_9 i11 a10) fun found_12 => some (Ct.go found_12))))) ps f = some (.go f') ∧ (f'.map Prod.fst).Nodup ∧ ∀ x, x ∈ f'.map Prod.fst ↔ x ∈ f.map Prod.fst ∨ x ∈ ps := by
  have key := loopC_inv (ρ := List (List Str)) (f := fun s_9 mark_9 => (bd (some true) fun a10 => (bd (some mark_9) fun i11 => (bd (putL? s_9 i11 a10) fun found_12 => some (Ct.go found_12)))))
    (fun d (s : Fd) => (s.map Prod.fst).Nodup ∧ (∀ x, x ∈ s.map Prod.fst ↔ x ∈ f.map Prod.fst ∨ x ∈ d) ∧ ∀ x ∈ s.map Prod.fst, x ∈ L) ps [] f ⟨n, by simp, i⟩ (fun d s x hx hd hJ => ?_)
  · obtain ⟨s, e, h1, h2, _⟩ := key
    exact ⟨s, e, h1, by simpa using h2⟩
  · obtain ⟨h1, h2, h3⟩ := hJ
    have sl := nd_le h1 h3
    rw [List.length_map] at sl
    refine ⟨putL s x true, by rw [bdS, bdS, put_eq? (by omega)]; rfl, ?_⟩
    by_cases c : x ∈ s.map Prod.fst
    · rw [dput_keys_old c]
      refine ⟨h1, fun y => ?_, h3⟩
      rw [h2, List.mem_append, List.mem_singleton]
      constructor
      · rintro (h | h)
        · exact .inl h
        · exact .inr (.inl h)
      · rintro (h | h | h)
        · exact .inl h
        · exact .inr h
        · exact (h2 y).mp (h ▸ c)
    · have k1 : (putL s x true).map Prod.fst = s.map Prod.fst ++ [x] := by rw [dput_new c, List.map_append]; rfl
      rw [k1]
      refine ⟨List.nodup_append.mpr ⟨h1, by simp, fun a ha b hb e => c (by rw [List.mem_singleton.mp hb] at e; exact e ▸ ha)⟩, fun y => ?_, fun y hy => ?_⟩
      · rw [List.mem_append, h2, List.mem_append, or_assoc]
      · rcases List.mem_append.mp hy with hy | hy
        · exact h3 y hy
        · rw [List.mem_singleton.mp hy]; exact ip x hx
theorem pieces_ok {m : Mks} {r : Rds} {H : Str → Option Str} (ml : m.length ≤ 20) (rl : r.length ≤ 20) (hin : ∀ g ∈ r.map Prod.snd, g.1 ∈ m.map Prod.fst ∧ g.2.1 ∈ m.map Prod.fst ∧ g.1 ≠ g.2.1) (hH : HD (sortBy ltS (m.map Prod.fst)) (r.map Prod.snd) H) :
    m_Survey_pieces (m, r, ()) = some (((sortBy ltS (m.map Prod.fst)).filter (isHd H)).map (cls (sortBy ltS (m.map Prod.fst)) H)) := by
  obtain ⟨near, en, hN⟩ := near_ok ml rl hin
  generalize hL : sortBy ltS (m.map Prod.fst) = L at hH ⊢
  have mL : ∀ x, x ∈ L ↔ x ∈ m.map Prod.fst := fun x => by rw [← hL]; exact (sortS_perm _).mem_iff
  have tin : ∀ x y, Tie (r.map Prod.snd) x y → y ∈ m.map Prod.fst := by
    rintro x y ⟨g, hg, h⟩
    obtain ⟨i1, i2, _⟩ := hin g hg
    rcases h with h | h
    · exact h.2 ▸ i2
    · exact h.1 ▸ i1
  have reach : ∀ x ∈ L, m_reached near x = some (cls L H x) := fun x hx => by
    obtain ⟨ks, e, n, s, k⟩ := reached_ok (names := m.map Prod.fst) (by rw [List.length_map]; exact ml) hN tin ((mL x).mp hx)
    rw [e]
    refine congrArg some (srt_uniq n (hH.nd.filter _) (fun y => ?_) s (hH.so.filter _))
    rw [k, hH.lk x hx, cls, List.mem_filter, decide_eq_true_iff]
  have key := loopC_at (ρ := List (List Str)) (f := (fun s_4 name_4 => (bd (bd (some name_4) fun k => some (!(getK s_4.2 k).isSome)) fun c5 => (bd (if c5 then (bd (bd (bd (some near) fun x => bd (bd (some name_4) fun x => bd (some ()) fun y => some (x, y)) fun y => some (x, y)) fun a => m_reached a.1 a.2.1) fun piece_6 => (bd (some piece_6) fun a7 => (bd (app? s_4.1 a7) fun told_8 => (bd (some piece_6) fun xs13 => bd (loopC (ρ := (List (List Str))) (fun s_9 mark_9 => (bd (some true) fun a10 => (bd (some mark_9) fun i11 => (bd (putL? s_9 i11 a10) fun found_12 => some (Ct.go found_12))))) xs13 s_4.2) fun r_9 => match r_9 with | .ret y => none | .go t_9 => some (told_8, t_9) | .brk _ => none)))) else some (s_4.1, s_4.2)) fun j14 => some (Ct.go (j14.1, j14.2))))))
    (fun d (s : List (List Str) × Fd) => s.1 = (d.filter (isHd H)).map (cls L H) ∧ (s.2.map Prod.fst).Nodup ∧ ∀ z, z ∈ s.2.map Prod.fst ↔ z ∈ L ∧ ∃ y ∈ d, H y = H z) L [] ([], []) ⟨rfl, by simp, by simp⟩ (fun d x rest s ed hJ => ?_)
  · obtain ⟨⟨told, f⟩, e, h1, _⟩ := key
    unfold m_Survey_pieces
    show bd (m_neighbours m r) _ = _
    rw [bdE en, bdS, bdS]
    have e2 : (bd (some ((m, r, ()) : Sv)) fun x => m_Survey_names x) = some L := by
      show bd (some m) ksS? = _
      rw [bdS, ksS_eq (by omega), hL]
    rw [bdE e2]
    refine Eq.trans (congrArg (fun z => bd z _) e) ?_
    show some told = _
    rw [show told = _ from h1, List.nil_append]
  · obtain ⟨told, f⟩ := s
    obtain ⟨h1, h2, h3⟩ := hJ
    dsimp only at h1 h2 h3 ⊢
    rw [List.nil_append] at ed
    have xL := split_mem ed
    have xd := nd_split hH.nd ed
    have dL : ∀ y ∈ d, y ∈ L := fun y hy => by rw [ed]; exact List.mem_append_left _ hy
    have so := hH.so
    rw [ed] at so
    obtain ⟨_, so2, so3⟩ := List.pairwise_append.mp so
    have iff1 : x ∈ f.map Prod.fst ↔ isHd H x = false := by
      rw [h3]
      obtain ⟨h, e1, e2, e3, e4⟩ := hH.hd x xL
      unfold isHd
      rw [decide_eq_false_iff_not]
      constructor
      · rintro ⟨_, y, hy, ey⟩ c
        obtain ⟨h', g1, _, _, g4⟩ := hH.hd y (dL y hy)
        rw [ey, c] at g1
        cases g1
        have := leT_anti g4 (so3 y hy x List.mem_cons_self)
        exact xd (this ▸ hy)
      · intro c
        have ne : h ≠ x := fun z => c (by rw [e1, z])
        refine ⟨xL, h, ?_, by rw [e3, e1]⟩
        rw [ed] at e2
        rcases List.mem_append.mp e2 with e2 | e2
        · exact e2
        · rcases List.mem_cons.mp e2 with e2 | e2
          · exact absurd e2 ne
          · exact absurd (leT_anti e4 ((List.pairwise_cons.mp so2).1 h e2)) ne
    by_cases c : x ∈ f.map Prod.fst
    · obtain ⟨v, hv, _⟩ := dget_some c
      refine ⟨(told, f), ?_, ?_, h2, fun z => ?_⟩
      · rw [bdS, hv]
        rfl
      · rw [List.filter_append, List.filter_cons, iff1.mp c]
        simpa using h1
      · rw [h3]
        constructor
        · rintro ⟨a, y, hy, e⟩
          exact ⟨a, y, List.mem_append_left _ hy, e⟩
        · rintro ⟨a, y, hy, e⟩
          refine ⟨a, ?_⟩
          rcases List.mem_append.mp hy with hy | hy
          · exact ⟨y, hy, e⟩
          · rw [List.mem_singleton.mp hy] at e
            obtain ⟨_, y', hy', e'⟩ := (h3 x).mp c
            exact ⟨y', hy', e'.trans e⟩
    · have hv : getK f x = none := dget_none.mpr c
      have c' : isHd H x = true := by
        cases q : isHd H x with
        | true => rfl
        | false => exact absurd (iff1.mpr q) c
      have tl : told.length < 100000 := by
        rw [h1, List.length_map]
        have := List.length_filter_le (isHd H) d
        have := split_len ed
        have := hH.len
        omega
      obtain ⟨f', ef, n', k'⟩ := mark_ok (ps := cls L H x) (f := f) hH.len h2 (fun z hz => ((h3 z).mp hz).1) (fun z hz => (List.mem_filter.mp hz).1)
      refine ⟨(told ++ [cls L H x], f'), ?_, ?_, n', fun z => ?_⟩
      · rw [bdS, hv]
        have e3 : app? told (cls L H x) = some (told ++ [cls L H x]) := by unfold app?; rw [if_pos tl]
        show bd (bd (m_reached near x) fun piece => bd (app? told piece) fun t => bd (loopC (ρ := List (List Str)) _ piece f) fun r_9 => _) _ = _
        rw [bdE (reach x xL), bdE e3]
        exact Eq.trans (congrArg (fun z => bd (bd z _) _) ef) rfl
      · show told ++ [cls L H x] = _
        rw [List.filter_append, List.filter_cons, c', List.map_append, ← h1]
        rfl
      · show z ∈ f'.map Prod.fst ↔ _
        rw [k', h3, cls, List.mem_filter, decide_eq_true_iff]
        constructor
        · rintro (⟨a, y, hy, e⟩ | ⟨a, e⟩)
          · exact ⟨a, y, List.mem_append_left _ hy, e⟩
          · exact ⟨a, x, by simp, e.symm⟩
        · rintro ⟨a, y, hy, e⟩
          rcases List.mem_append.mp hy with hy | hy
          · exact .inl ⟨a, y, hy, e⟩
          · rw [List.mem_singleton.mp hy] at e
            exact .inr ⟨a, e.symm⟩
end G

namespace G
open PySem L2 M
theorem loopC_map {α β δ ρ : Type} {f : δ → β → Option (Ct ρ δ)} {g : α → β} : ∀ (xs : List α) (s : δ), loopC f (xs.map g) s = loopC (fun s x => f s (g x)) xs s
  | [], _ => rfl
  | x :: xs, s => by
    rw [List.map_cons]
    show (f s (g x)).bind _ = (f s (g x)).bind _
    cases f s (g x) with
    | none => rfl
    | some c =>
      cases c with
      | go s' => exact loopC_map xs s'
      | ret _ => rfl
      | brk _ => rfl
/-- no mark that hangs with x is held -/
def fr (m : Mks) (L : List Str) (H : Str → Option Str) (x : Str) : Bool := (cls L H x).all fun y => ((getK m y).getD none).isNone
theorem fr_eq {m : Mks} {L : List Str} {H : Str → Option Str} {x y : Str} (e : H y = H x) : fr m L H y = fr m L H x := by
  unfold fr cls
  rw [e]
theorem loose_ok {m : Mks} {r : Rds} {H : Str → Option Str} (ml : m.length ≤ 20) (rl : r.length ≤ 20) (hin : ∀ g ∈ r.map Prod.snd, g.1 ∈ m.map Prod.fst ∧ g.2.1 ∈ m.map Prod.fst ∧ g.1 ≠ g.2.1) (hH : HD (sortBy ltS (m.map Prod.fst)) (r.map Prod.snd) H) :
    m_Survey_loose (m, r, ()) = some ((sortBy ltS (m.map Prod.fst)).filter (fr m (sortBy ltS (m.map Prod.fst)) H)) := by
  have hp := pieces_ok ml rl hin hH
  generalize hL : sortBy ltS (m.map Prod.fst) = L at hH hp ⊢
  have mL : ∀ x, x ∈ L ↔ x ∈ m.map Prod.fst := fun x => by rw [← hL]; exact (sortS_perm _).mem_iff
  have nh : (L.filter (isHd H)).Nodup := hH.nd.filter _
  have hh : ∀ x ∈ L.filter (isHd H), x ∈ L ∧ H x = some x := fun x hx => by
    obtain ⟨h1, h2⟩ := List.mem_filter.mp hx
    exact ⟨h1, of_decide_eq_true h2⟩
  have key := loopC_at (ρ := List Str) (f := fun s x => (fun s_2 piece_2 => (bd (bd (bd (some piece_2) fun xs => mapL? (fun name_3 => (bd (bd (bd (some ((m, r, ()) : Sv)) fun x => some x.1) fun d => bd (some name_3) fun k => getK d k) fun x => some x.isNone)) xs) fun x => some (x.all id)) fun c4 => (bd (if c4 then (bd (some piece_2) fun a5 => (bd (ext? s_2 a5) fun told_6 => some told_6)) else some s_2) fun j7 => some (Ct.go j7)))) s (cls L H x))
    (fun d (s : List Str) => s.Nodup ∧ ∀ y, y ∈ s ↔ y ∈ L ∧ ∃ x ∈ d, H y = H x ∧ fr m L H x = true) (L.filter (isHd H)) [] [] ⟨by simp, by simp⟩ (fun d x rest s ed hJ => ?_)
  · obtain ⟨s, e, h1, h2⟩ := key
    rw [← loopC_map (f := (fun s_2 piece_2 => (bd (bd (bd (some piece_2) fun xs => mapL? (fun name_3 => (bd (bd (bd (some ((m, r, ()) : Sv)) fun x => some x.1) fun d => bd (some name_3) fun k => getK d k) fun x => some x.isNone)) xs) fun x => some (x.all id)) fun c4 => (bd (if c4 then (bd (some piece_2) fun a5 => (bd (ext? s_2 a5) fun told_6 => some told_6)) else some s_2) fun j7 => some (Ct.go j7)))))] at e
    unfold m_Survey_loose
    rw [bdS, bdS, bdE hp]
    refine Eq.trans (congrArg (fun z => bd z _) e) ?_
    show some (sortBy ltS s) = _
    refine congrArg some (srt_uniq ((sortS_perm _).nodup_iff.mpr h1) (hH.nd.filter _) (fun y => ?_) (sortS_pw _) (hH.so.filter _))
    rw [(sortS_perm _).mem_iff, h2, List.mem_filter, List.nil_append]
    constructor
    · rintro ⟨a, x, _, ex, fx⟩
      exact ⟨a, by rw [fr_eq ex]; exact fx⟩
    · rintro ⟨a, fy⟩
      obtain ⟨h, e1, e2, e3, _⟩ := hH.hd y a
      have ey : H y = H h := by rw [e1, e3]
      exact ⟨a, h, List.mem_filter.mpr ⟨e2, decide_eq_true e3⟩, ey, by rw [← fr_eq ey]; exact fy⟩
  · obtain ⟨h1, h2⟩ := hJ
    rw [List.nil_append] at ed
    obtain ⟨xL, xh⟩ := hh x (split_mem ed)
    have xd := nd_split nh ed
    have hd : ∀ z ∈ d, H z = some z := fun z hz => (hh z (by rw [ed]; exact List.mem_append_left _ hz)).2
    have sl := nd_le h1 (fun y hy => ((h2 y).mp hy).1)
    have cl : (cls L H x).length ≤ 20 := Nat.le_trans cls_len hH.len
    have hl := hH.len
    have em : mapL? (fun name_3 => (bd (bd (bd (some ((m, r, ()) : Sv)) fun x => some x.1) fun d => bd (some name_3) fun k => getK d k) fun x => some x.isNone)) (cls L H x) = some ((cls L H x).map fun y => ((getK m y).getD none).isNone) := mapL_eq (by omega) fun y hy => by
      obtain ⟨v, hv, _⟩ := dget_some ((mL y).mp (List.mem_filter.mp hy).1)
      show bd (bd (some m) fun d => bd (some y) fun k => getK d k) _ = _
      rw [bdS, bdS, bdE hv, hv]
      rfl
    have eall : ((cls L H x).map fun y => ((getK m y).getD none).isNone).all id = fr m L H x := by
      rw [List.all_map]
      rfl
    cases c : fr m L H x with
    | true =>
      refine ⟨s ++ cls L H x, ?_, ?_, fun y => ?_⟩
      · show bd (bd (bd (some (cls L H x)) _) _) _ = _
        rw [bdS, bdE em, bdS, eall, c, if_pos rfl]
        have e2 : ext? s (cls L H x) = some (s ++ cls L H x) := by unfold ext?; rw [if_pos (by omega)]
        rw [bdS, bdE e2]
        rfl
      · refine List.nodup_append.mpr ⟨h1, hH.nd.filter _, fun a ha b hb e => ?_⟩
        subst e
        obtain ⟨_, z, hz, ez, _⟩ := (h2 a).mp ha
        have eb : H a = H x := of_decide_eq_true (List.mem_filter.mp hb).2
        rw [ez, hd z hz, xh] at eb
        exact xd (Option.some.inj eb ▸ hz)
      · rw [List.mem_append, h2, cls, List.mem_filter, decide_eq_true_iff]
        constructor
        · rintro (⟨a, z, hz, g⟩ | ⟨a, e⟩)
          · exact ⟨a, z, List.mem_append_left _ hz, g⟩
          · exact ⟨a, x, by simp, e, c⟩
        · rintro ⟨a, z, hz, g1, g2⟩
          rcases List.mem_append.mp hz with hz | hz
          · exact .inl ⟨a, z, hz, g1, g2⟩
          · rw [List.mem_singleton.mp hz] at g1
            exact .inr ⟨a, g1⟩
    | false =>
      refine ⟨s, ?_, h1, fun y => ?_⟩
      · show bd (bd (bd (some (cls L H x)) _) _) _ = _
        rw [bdS, bdE em, bdS, eall, c, if_neg (by decide)]
        rfl
      · rw [h2]
        constructor
        · rintro ⟨a, z, hz, g⟩
          exact ⟨a, z, List.mem_append_left _ hz, g⟩
        · rintro ⟨a, z, hz, g1, g2⟩
          rcases List.mem_append.mp hz with hz | hz
          · exact ⟨a, z, hz, g1, g2⟩
          · rw [List.mem_singleton.mp hz, c] at g2
            cases g2
/-- what hang tells -/
theorem hang_in {m : Mks} {r : Rds} {n : Str} {ls : List Str} (hl : m_Survey_loose (m, r, ()) = some ls) (hn : n ∈ m.map Prod.fst) : m_law_hang (m, r, ()) n = some (.inl (!memD n ls)) := by
  obtain ⟨v, hv, _⟩ := dget_some hn
  unfold m_law_hang m_Survey_hangs
  have e : (bd (bd (some n) fun k => bd (bd (some ((m, r, ()) : Sv)) fun x => some x.1) fun d => some (!(getK d k).isSome)) fun c1 => if c1 then (bd (bd (some n) rfs?) fun z => some (Sum.inl (0, z) : Rf ⊕ Bool)) else (bd (bd (some n) fun x => bd (bd (some ((m, r, ()) : Sv)) fun x => m_Survey_loose x) fun y => some (!memD x y)) fun z => some (Sum.inr z))) = some (.inr (!memD n ls)) := by
    show bd (some (!(getK m n).isSome)) _ = _
    rw [hv, bdS, if_neg (by simp), bdS]
    show bd (bd (m_Survey_loose (m, r, ())) _) _ = _
    rw [bdE hl]
    rfl
  exact Eq.trans (congrArg (fun z => bd z _) e) rfl
theorem hang_out {m : Mks} {r : Rds} {n : Str} (hn : n ∉ m.map Prod.fst) (hr : (PySem.reprText n).length ≤ 1000000) : m_law_hang (m, r, ()) n = some (.inr n) := by
  have hv : getK m n = none := dget_none.mpr hn
  unfold m_law_hang m_Survey_hangs
  have e : (bd (bd (some n) fun k => bd (bd (some ((m, r, ()) : Sv)) fun x => some x.1) fun d => some (!(getK d k).isSome)) fun c1 => if c1 then (bd (bd (some n) rfs?) fun z => some (Sum.inl (0, z) : Rf ⊕ Bool)) else (bd (bd (some n) fun x => bd (bd (some ((m, r, ()) : Sv)) fun x => m_Survey_loose x) fun y => some (!memD x y)) fun z => some (Sum.inr z))) = some (.inl (0, n)) := by
    show bd (some (!(getK m n).isSome)) _ = _
    rw [hv, bdS, if_pos (by rfl), bdS]
    unfold rfs?
    rw [if_pos hr]
    rfl
  exact Eq.trans (congrArg (fun z => bd z _) e) rfl
end G

namespace G
open PySem L2 M
theorem dget_at {κ β : Type} [DecidableEq κ] {r : List (κ × β)} (nd : (r.map Prod.fst).Nodup) {k : κ} {y : β} (h : (k, y) ∈ r) : getK r k = some y := by
  exact (getK_mem nd).mpr h
theorem con_lk {r r' : Rds} (nd : (r.map Prod.fst).Nodup) (p : r'.Perm r) {x y : Str} : Con r (sortI (r.map Prod.fst)) x y ↔ Lk (r'.map Prod.snd) x y := by
  have adj : ∀ a b, Adj r (sortI (r.map Prod.fst)) a b ↔ Tie (r'.map Prod.snd) a b := by
    intro a b
    constructor
    · rintro ⟨n, _, g, hg, h⟩
      exact ⟨g, (p.map Prod.snd).mem_iff.mpr (List.mem_map.mpr ⟨_, dget_mem hg, rfl⟩), h⟩
    · rintro ⟨g, hg, h⟩
      obtain ⟨q, hq, e⟩ := List.mem_map.mp ((p.map Prod.snd).mem_iff.mp hg)
      obtain ⟨n, g'⟩ := q
      cases e
      exact ⟨n, (sortI_perm _).mem_iff.mpr (List.mem_map.mpr ⟨_, hq, rfl⟩), g', dget_at nd hq, h⟩
  constructor
  · intro h
    induction h with
    | refl => exact .refl
    | step _ a ih => exact ih.step ((adj _ _).mp a)
  · intro h
    induction h with
    | refl => exact .refl
    | step _ a ih => exact ih.step ((adj _ _).mpr a)
/-- what is known once the survey is made -/
structure Rest (m : Mks) (r : Rds) (sv : Sv) (hd : List (Str × Str)) (L : List Str) : Prop where
  i : m_Survey___init__ m r = some sv
  t : m_law_tied (m.map Prod.fst) r = some hd
  eL : L = sortBy ltS (m.map Prod.fst)
  k : hd.map Prod.fst = m.map Prod.fst
  h : ∃ l, HD L l (getK hd)
  p : m_Survey_pieces sv = some ((L.filter (isHd (getK hd))).map (cls L (getK hd)))
  l : m_Survey_loose sv = some (L.filter (fr m L (getK hd)))
  g : ∀ n ∈ L, m_law_hang sv n = some (.inl (!memD n (L.filter (fr m L (getK hd)))))
  q : m_law_hang sv "Q" = some (.inr "Q")
theorem rest_ok {m : Mks} {r : Rds} (hm : MkOk m) (hr : RdOk (m.map Prod.fst) r) : ∃ sv hd, Rest m r sv hd (sortBy ltS (m.map Prod.fst)) := by
  obtain ⟨m', r', ei, pm, pr⟩ := init_ok hm hr
  have lm := hm.l
  have lr := hr.l
  have hin : ∀ n y, getK r n = some y → y.1 ∈ m.map Prod.fst ∧ y.2.1 ∈ m.map Prod.fst := fun n y h => ⟨(hr.b _ (dget_mem h)).1, (hr.b _ (dget_mem h)).2.1⟩
  obtain ⟨hd, et, hT⟩ := tied_ok hm.nd (by rw [List.length_map]; exact lm) lr hin
  have sL : sortBy ltS (m'.map Prod.fst) = sortBy ltS (m.map Prod.fst) := srt_uniq ((sortS_perm _).nodup_iff.mpr ((pm.map Prod.fst).nodup_iff.mpr hm.nd)) ((sortS_perm _).nodup_iff.mpr hm.nd) (fun y => by rw [(sortS_perm _).mem_iff, (sortS_perm _).mem_iff, (pm.map Prod.fst).mem_iff]) (sortS_pw _) (sortS_pw _)
  have mL : ∀ x, x ∈ sortBy ltS (m.map Prod.fst) ↔ x ∈ m.map Prod.fst := fun x => (sortS_perm _).mem_iff
  have rin : ∀ g ∈ r'.map Prod.snd, g.1 ∈ m.map Prod.fst ∧ g.2.1 ∈ m.map Prod.fst ∧ g.1 ≠ g.2.1 := fun g hg => by
    obtain ⟨q, hq, e⟩ := List.mem_map.mp hg
    obtain ⟨b1, b2, b3, _⟩ := hr.b q (pr.mem_iff.mp hq)
    rw [← e]
    exact ⟨b1, b2, b3⟩
  have stay : ∀ {x y}, Lk (r'.map Prod.snd) x y → x ∈ m.map Prod.fst → y ∈ m.map Prod.fst := fun h hx => by
    induction h with
    | refl => exact hx
    | step _ t _ =>
      obtain ⟨g, hg, h⟩ := t
      obtain ⟨i1, i2, _⟩ := rin g hg
      rcases h with h | h
      · exact h.2 ▸ i2
      · exact h.1 ▸ i1
  have HH : HD (sortBy ltS (m.map Prod.fst)) (r'.map Prod.snd) (getK hd) := by
    refine ⟨(sortS_perm _).nodup_iff.mpr hm.nd, sortS_pw _, by rw [(sortS_perm _).length_eq, List.length_map]; exact lm, fun x hx y => ?_, fun x hx => ?_⟩
    · rw [mL] at hx
      rw [mL, ← con_lk hr.nd pr]
      constructor
      · intro h
        exact ⟨stay ((con_lk hr.nd pr).mp h) hx, ((hT.iff hx).mpr h).symm⟩
      · rintro ⟨_, e⟩
        exact (hT.iff hx).mp e.symm
    · obtain ⟨h, e, _⟩ := dget_some (r := hd) (k := x) (by rw [hT.k]; exact (mL x).mp hx)
      obtain ⟨g1, g2⟩ := hT.m x h e
      exact ⟨h, e, by rw [mL, ← hT.k]; exact List.mem_map.mpr ⟨_, dget_mem g1, rfl⟩, g1, g2⟩
  have lm' : m'.length ≤ 20 := by rw [pm.length_eq]; exact lm
  have lr' : r'.length ≤ 20 := by rw [pr.length_eq]; exact lr
  have rin' : ∀ g ∈ r'.map Prod.snd, g.1 ∈ m'.map Prod.fst ∧ g.2.1 ∈ m'.map Prod.fst ∧ g.1 ≠ g.2.1 := fun g hg => by
    obtain ⟨a, b, c⟩ := rin g hg
    exact ⟨(pm.map Prod.fst).mem_iff.mpr a, (pm.map Prod.fst).mem_iff.mpr b, c⟩
  have HH' : HD (sortBy ltS (m'.map Prod.fst)) (r'.map Prod.snd) (getK hd) := by rw [sL]; exact HH
  have p1 := pieces_ok lm' lr' rin' HH'
  have l1 := loose_ok lm' lr' rin' HH'
  have fe : fr m' (sortBy ltS (m.map Prod.fst)) (getK hd) = fr m (sortBy ltS (m.map Prod.fst)) (getK hd) := by
    funext x
    unfold fr
    have : ∀ y, getK m' y = getK m y := fun y => dget_perm pm ((pm.map Prod.fst).nodup_iff.mpr hm.nd) y
    simp only [this]
  rw [sL] at p1 l1
  rw [fe] at l1
  refine ⟨_, hd, ei, et, rfl, hT.k, ⟨_, HH⟩, p1, l1, fun n hn => hang_in l1 ((pm.map Prod.fst).mem_iff.mpr ((mL n).mp hn)), hang_out (fun h => ?_) (by decide +kernel)⟩
  obtain ⟨q, hq, e⟩ := List.mem_map.mp h
  have := hm.low q (pm.mem_iff.mp hq)
  rw [e] at this
  exact absurd this (by decide +kernel)
end G

namespace G
open PySem L2 M
theorem heads_ok {m : Mks} {hd : List (Str × Str)} {L : List Str} {l : List Rdg} (nd : (m.map Prod.fst).Nodup) (k : hd.map Prod.fst = m.map Prod.fst) (eL : L = sortBy ltS (m.map Prod.fst)) (hH : HD L l (getK hd)) : setS? (hd.map Prod.snd) = some (L.filter (isHd (getK hd))) := by
  have mL : ∀ x, x ∈ L ↔ x ∈ m.map Prod.fst := fun x => by rw [eL]; exact (sortS_perm _).mem_iff
  have ll : hd.length ≤ 20 := by
    have h1 := hH.len
    rw [eL, (sortS_perm _).length_eq, ← k, List.length_map] at h1
    exact h1
  have nd' : (hd.map Prod.fst).Nodup := by rw [k]; exact nd
  unfold setS?
  rw [if_pos (by rw [List.length_map]; omega)]
  refine congrArg some (srt_uniq ((sortS_perm _).nodup_iff.mpr (once_nd _)) (hH.nd.filter _) (fun z => ?_) (sortS_pw _) (hH.so.filter _))
  rw [(sortS_perm _).mem_iff, once_mem, List.mem_filter]
  constructor
  · intro h
    obtain ⟨⟨x, z'⟩, hp, e⟩ := List.mem_map.mp h
    cases e
    have hx : x ∈ L := (mL x).mpr (by rw [← k]; exact List.mem_map.mpr ⟨_, hp, rfl⟩)
    obtain ⟨h', e1, e2, e3, _⟩ := hH.hd x hx
    rw [dget_at nd' hp] at e1
    cases e1
    exact ⟨e2, decide_eq_true e3⟩
  · rintro ⟨_, h2⟩
    exact List.mem_map.mpr ⟨_, dget_mem (of_decide_eq_true h2), rfl⟩
theorem filL_gm {α β : Type} {g : α → Option Bool} {f : α → Option β} {p : α → Bool} {q : α → β} {xs : List α} (hl : xs.length ≤ 1000) (hg : ∀ x ∈ xs, g x = some (p x)) (hf : ∀ x ∈ xs, f x = some (q x)) : filL? g f xs = some ((xs.filter p).map q) := by
  unfold filL?
  rw [if_pos (by omega)]
  clear hl
  induction xs with
  | nil => rfl
  | cons x xs ih =>
    have i := ih (fun y hy => hg y (List.mem_cons_of_mem _ hy)) (fun y hy => hf y (List.mem_cons_of_mem _ hy))
    unfold filO
    rw [hg x List.mem_cons_self, List.filter_cons]
    cases c : p x with
    | true =>
      show bd (bd (f x) fun y => some (some y)) _ = _
      rw [hf x List.mem_cons_self, bdS, bdS, bdE i]
      rfl
    | false =>
      show bd (some none) _ = _
      rw [bdS, bdE i]
      rfl
/-- what hangs on held marks -/
theorem hanging_ok {m : Mks} {r : Rds} {sv : Sv} {hd : List (Str × Str)} {L : List Str} (hm : MkOk m) (R : Rest m r sv hd L) : m_law_hanging m r = some (L.filter fun x => !fr m L (getK hd) x) := by
  obtain ⟨l, hH⟩ := R.h
  have mL : ∀ x, x ∈ L ↔ x ∈ m.map Prod.fst := fun x => by rw [R.eL]; exact (sortS_perm _).mem_iff
  have lm := hm.l
  have hL := hH.len
  have e1 := filL_gm (g := fun law_name_here_2 => (bd (bd (some law_name_here_2) fun y => getK m y) fun x => some x.isSome)) (f := fun law_name_here_2 => (bd (some hd) fun d => bd (some law_name_here_2) fun k => getK d k)) (p := fun x => ((getK m x).getD none).isSome) (q := fun x => (getK hd x).getD x) (xs := m.map Prod.fst) (by rw [List.length_map]; omega)
    (fun x hx => by
      obtain ⟨v, hv, _⟩ := dget_some hx
      show bd (bd (some x) fun y => getK m y) _ = _
      rw [bdS, bdE hv, hv]
      rfl)
    (fun x hx => by
      obtain ⟨h, hh, _⟩ := hH.hd x ((mL x).mpr hx)
      show bd (some hd) _ = _
      rw [bdS, bdS, hh]
      rfl)
  generalize hg : ((m.map Prod.fst).filter fun x => ((getK m x).getD none).isSome).map (fun x => (getK hd x).getD x) = ground at e1
  have gl : ∀ x ∈ L, memD ((getK hd x).getD x) ground = !fr m L (getK hd) x := fun x hx => by
    have q : memD ((getK hd x).getD x) ground = true ↔ fr m L (getK hd) x = false := by
      rw [memD_iff, ← hg, List.mem_map]
      unfold fr
      rw [List.all_eq_false]
      obtain ⟨h, eh, _⟩ := hH.hd x hx
      constructor
      · rintro ⟨y, hy, e⟩
        obtain ⟨y1, y2⟩ := List.mem_filter.mp hy
        have yL := (mL y).mpr y1
        obtain ⟨h', eh', _⟩ := hH.hd y yL
        rw [eh, eh'] at e
        refine ⟨y, List.mem_filter.mpr ⟨yL, decide_eq_true (by rw [eh, eh']; exact congrArg some e)⟩, ?_⟩
        cases z : (getK m y).getD none with
        | none => rw [z] at y2; cases y2
        | some _ => simp
      · rintro ⟨y, hy, e⟩
        obtain ⟨yL, ey⟩ := List.mem_filter.mp hy
        have ey := of_decide_eq_true ey
        refine ⟨y, List.mem_filter.mpr ⟨(mL y).mp yL, ?_⟩, by rw [ey, eh]; rfl⟩
        cases z : (getK m y).getD none with
        | none => rw [z] at e; exact absurd rfl e
        | some _ => rfl
    cases c : fr m L (getK hd) x with
    | false => exact q.mpr c
    | true =>
      cases d : memD ((getK hd x).getD x) ground with
      | false => rfl
      | true => rw [q.mp d] at c; cases c
  have e2 := fil_gen (g := fun law_name_here_4 => (bd (bd (some hd) fun d => bd (some law_name_here_4) fun k => getK d k) fun x => bd (some ground) fun y => some (memD x y))) (p := fun x => !fr m L (getK hd) x) (xs := L) (by omega)
    (fun x hx => by
      obtain ⟨h, hh, _⟩ := hH.hd x hx
      have := gl x hx
      rw [hh] at this
      show bd (bd (some hd) _) _ = _
      rw [bdS, bdS, bdE hh, bdS, ← this]
      rfl)
  unfold m_law_hanging
  show bd (m_law_tied (m.map Prod.fst) r) _ = _
  rw [bdE R.t]
  refine Eq.trans (congrArg (fun z => bd z _) e1) ?_
  show bd (bd (some m) ksS?) _ = _
  rw [bdS, ksS_eq (by omega), ← R.eL, bdS]
  exact e2
theorem law_math : m_law (fun z => z = true) := by
  unfold m_law
  simp only [callBW, tup2W, opW, unW, bdS, lf_some]
  refine drw (by decide) (by decide) fun n n0 n1 => marks_sp (by omega) (by omega) fun m hm => ?_
  have lm := hm.l
  rw [ksS_eq (by omega), lf_some]
  refine drw (by decide) (by decide) fun c c0 c1 => readings_sp (ks := m.map Prod.fst) (fun e => hm.ne ?_) (by rw [(sortS_perm _).length_eq, List.length_map]; omega) (fun z hz => (sortS_perm _).mem_iff.mp hz) (by omega) (by omega) fun r hr => ?_
  · have := (sortS_perm (m.map Prod.fst)).length_eq
    rw [e, List.length_map] at this
    exact List.length_eq_zero_iff.mp this.symm
  obtain ⟨sv, hd, R⟩ := rest_ok hm hr
  have hk := hanging_ok hm R
  obtain ⟨l, hH⟩ := R.h
  have hs := heads_ok hm.nd R.k rfl hH
  generalize hL : sortBy ltS (m.map Prod.fst) = L at R hk hH hs ⊢
  have lL := hH.len
  rw [R.i, lf_some, R.t, lf_some, hs, lf_some]
  have fl := List.length_filter_le (isHd (getK hd)) L
  have pl : ((L.filter (isHd (getK hd))).map (cls L (getK hd))).length ≤ 1000 := by rw [List.length_map]; omega
  have pe : ∀ p ∈ (L.filter (isHd (getK hd))).map (cls L (getK hd)), p.length ≤ 1000 := fun p hp => by
    obtain ⟨x, _, e⟩ := List.mem_map.mp hp
    rw [← e]
    have := cls_len (L := L) (H := getK hd) (x := x)
    omega
  refine loopW_at (fun d s => s = d.map (cls L (getK hd))) _ [] [] rfl (fun d x rest s C ed hs hC => ?_) (fun s hs => ?_)
  · subst hs
    rw [List.nil_append] at ed
    obtain ⟨xL, xh⟩ := List.mem_filter.mp (split_mem ed)
    have xh : getK hd x = some x := of_decide_eq_true xh
    have sl := split_len ed
    have ef := fil_gen (g := fun y => bd (getK hd y) fun z => some (decide (z = x))) (p := fun y => decide (getK hd y = getK hd x)) (xs := L) (by omega) (fun y hy => by
      obtain ⟨h, hh, _⟩ := hH.hd y hy
      show bd (getK hd y) _ = _
      rw [bdE hh, hh, xh]
      simp)
    have ea : app? (d.map (cls L (getK hd))) (cls L (getK hd) x) = some (d.map (cls L (getK hd)) ++ [cls L (getK hd) x]) := by
      unfold app?
      rw [if_pos (by rw [List.length_map]; omega)]
    rw [bdS, ef, lf_some]
    show lf (app? _ (cls L (getK hd) x)) _
    rw [ea, lf_some]
    exact hC _ (by rw [List.map_append]; rfl)
  · rw [List.nil_append] at hs
    subst hs
    dsimp only
    rw [hk, lf_some, show rng1? 2 = some (rngL 0 2) from rfl, lf_some]
    have mem : ∀ x ∈ L, memD x (L.filter fun x => !fr m L (getK hd) x) = !fr m L (getK hd) x := fun x hx => by
      have q : memD x (L.filter fun x => !fr m L (getK hd) x) = true ↔ (!fr m L (getK hd) x) = true := by
        rw [memD_iff, List.mem_filter]
        exact ⟨fun h => h.2, fun h => ⟨hx, h⟩⟩
      cases c : (!fr m L (getK hd) x) with
      | true => exact q.mpr c
      | false =>
        cases e : memD x (L.filter fun x => !fr m L (getK hd) x) with
        | false => rfl
        | true => rw [q.mp e] at c; cases c
    have mem2 : ∀ x ∈ L, memD x (L.filter (fr m L (getK hd))) = fr m L (getK hd) x := fun x hx => by
      have q : memD x (L.filter (fr m L (getK hd))) = true ↔ fr m L (getK hd) x = true := by
        rw [memD_iff, List.mem_filter]
        exact ⟨fun h => h.2, fun h => ⟨hx, h⟩⟩
      cases c : fr m L (getK hd) x with
      | true => exact q.mpr c
      | false =>
        cases e : memD x (L.filter (fr m L (getK hd))) with
        | false => rfl
        | true => rw [q.mp e] at c; cases c
    have ll := List.length_filter_le (fr m L (getK hd)) L
    have eg := fil_gen (g := fun x => some (!memD x (L.filter fun x => !fr m L (getK hd) x))) (p := fr m L (getK hd)) (xs := L) (by omega) (fun x hx => by
      show some (!memD x _) = _
      rw [mem x hx, Bool.not_not])
    refine loopW_all (fun b => b = true) _ _ rfl (fun b t C hb _ hC => ?_) (fun b hb => ?_)
    · subst hb
      rw [R.p, lf_some]
      simp only [andW, sameR, sameW, lf_some, if_true]
      refine ⟨⟨rfl, pl, fun p hp => ⟨pe p hp, fun _ _ => trivial⟩⟩, ?_⟩
      have es : spo2? ((L.filter (isHd (getK hd))).map (cls L (getK hd))) = some () := by
        unfold spo2?
        rw [if_pos ⟨pl, List.all_eq_true.mpr fun p hp => decide_eq_true (pe p hp)⟩]
      rw [es, lf_some, R.l, lf_some, bdS, eg, lf_some]
      refine ⟨rfl, ⟨by omega, fun _ _ => trivial⟩, ?_⟩
      have sp : spo? (L.filter (fr m L (getK hd))) = some () := by
        unfold spo?
        rw [if_pos (by omega)]
      rw [sp, lf_some]
      exact hC _ rfl
    · subst hb
      dsimp only
      refine loopW_all (fun b => b = true) _ _ rfl (fun b x C hb hx hC => ?_) (fun b hb => ?_)
      · subst hb
        have xL : x ∈ L := by rw [← hL]; exact (sortS_perm _).mem_iff.mpr hx
        rw [R.g x xL, mem x xL, mem2 x xL]
        simp only [andW, sameR, getL?, bdS, lf_some, if_true]
        exact ⟨⟨rfl, trivial⟩, hC _ rfl⟩
      · subst hb
        dsimp only
        rw [show m_law_hang sv (Str.ofString "Q") = some (.inr (Str.ofString "Q")) from R.q]
        simp only [andW, sameR, getR?, bdS, lf_some, if_true]
        exact ⟨⟨rfl, trivial⟩, trivial⟩
end G

namespace G
open PySem L2 M
section
variable {P : Program} {w : World} {K : PySem.W.Frag} {mg : Str → Option Value} {base : Heap}

def spLaw (K : PySem.W.Frag) : Sp := fun vs H Q _ => ∃ (a : Addr) (ns : List Int), vs = [.ref a] ∧ SqL K H a (ns.map V.int) ∧ ns.length ≤ 63 ∧ ∀ H', Q (.bl true) H'
theorem ok_law (ev : Env P K mg) : FnOk P w K mg base CX0 12 ev.f_law ev.d_law p_law (spLaw K) := by
  refine ev.A_law.F.ok sc_law (fun vs H Q E h => ?_) (fun cdv A outer s Hs vs Q E hr h => ?_)
  · obtain ⟨a, ns, rfl, _⟩ := h
    rfl
  obtain ⟨a0, ns, rfl, hS, hl, qq⟩ := h
  have hm := law_math
  refine ⟨_, (pss_cons (ps_set (i := 1) sc_law.nd rfl (Or.inl rfl) (pe_call (ok_law_bag ev) (hr.mono (by decide)) (by rfl) ev.A_law_bag.m ev.A_law_bag.F.kp ev.A_law_bag.b .nil pass0 (pa_cons (pv 0) pa_nil)))
    (pss_cons (ps_set (i := 2) sc_law.nd rfl (Or.inl rfl) (pe_call (ok_law_marks ev) (hr.mono (by decide)) (by rfl) ev.A_law_marks.m ev.A_law_marks.F.kp ev.A_law_marks.b .nil pass0 (pa_cons (pv 1) (pa_cons (pe_op op_add pe_int (pe_call (ok_law_draw ev) (hr.mono (by decide)) (by rfl) ev.A_law_draw.m ev.A_law_draw.F.kp ev.A_law_draw.b .nil pass0 (pa_cons (pv 1) (pa_cons pe_int pa_nil)))) pa_nil))))
    (pss_cons (ps_set (i := 3) sc_law.nd rfl (Or.inl rfl) (pe_call (ok_law_readings ev) (hr.mono (by decide)) (by rfl) ev.A_law_readings.m ev.A_law_readings.F.kp ev.A_law_readings.b .nil pass0 (pa_cons (pv 1) (pa_cons (pe_callB (cr_srtD rfl) (by rfl) ev.B.sorted_ (by decide +kernel) (pa_cons (pv 2) pa_nil)) (pa_cons (pe_call (ok_law_draw ev) (hr.mono (by decide)) (by rfl) ev.A_law_draw.m ev.A_law_draw.F.kp ev.A_law_draw.b .nil pass0 (pa_cons (pv 1) (pa_cons pe_int pa_nil))) pa_nil)))))
    (pss_cons (ps_set (i := 4) sc_law.nd rfl (Or.inl rfl) (pe_make ev.M_Survey (ok_Survey___init__ ev) (hr.mono (by decide)) (by rfl) ev.g_Survey ev.A_Survey___init__.b .nil pass0 (pa_cons (pv 2) (pa_cons (pv 3) pa_nil))))
    (pss_cons (ps_set (i := 5) sc_law.nd rfl (Or.inr rfl) (pe_call (ok_law_tied ev) (hr.mono (by decide)) (by rfl) ev.A_law_tied.m ev.A_law_tied.F.kp ev.A_law_tied.b .nil pass0 (pa_cons (pe_callTy (cr_listDk rfl) (by rfl) ev.B.list_ (by decide +kernel) (pa_cons (pv 2) pa_nil)) (pa_cons (pv 3) pa_nil))))
    (pss_cons (ps_set (i := 6) sc_law.nd rfl (Or.inl rfl) (pe_lst pa_nil))
    (pss_cons (ps_for PassesOwn.never rfl (pi_list (pe_callB (TxS.cr_srtTx rfl) (by rfl) ev.B.sorted_ (by decide +kernel) (pa_cons (pe_callTy (TxS.cr_setTx rfl) (by rfl) ev.B.set_ (by decide +kernel) (pa_cons (pe_callTy (cr_lv rfl) (by rfl) ev.B.list_ (by decide +kernel) (pa_cons (pe_bm0 PySem.F.plainAttrs_dict PySem.F.slot_dict_values PySem.F.type_dict_values mt_vw (pv 5)) pa_nil)) pa_nil)) pa_nil))) (pg_name (i := 7) sc_law.nd rfl (Or.inr rfl))
    (pss_one (ps_expr (pe_bm PySem.F.plainAttrs_list PySem.F.slot_list_append PySem.F.type_list_append mt_append (pv 6) (pa_cons (pe_lc (own := [("_law_name_here", 15)]) (g := gName 15) (by rfl) sc_law.nd (pi_list (pe_callB (cr_srtD rfl) (by rfl) ev.B.sorted_ (by decide +kernel) (pa_cons (pv 2) pa_nil))) (blkOk_by (own := [("_law_name_here", 15)]) (N := n_law) (sc := defScope s_law) (by decide +kernel)) (fun _ _ _ _ _ => pg_name (i := 15) sc_law.nd rfl (Or.inl rfl)) (fun _ _ _ _ _ => (pts_one (pt_cmpR op_eq (pe_dget (hu_of hr) (pv 5) (pv 15) (fun _ _ => rfl)) (pv 7) (nomark _)))) (fun _ _ _ _ _ => (pv 15))) pa_nil)))))
    (pss_cons (ps_set (i := 8) sc_law.nd rfl (Or.inr rfl) (pe_call (ok_law_hanging ev) (hr.mono (by decide)) (by rfl) ev.A_law_hanging.m ev.A_law_hanging.F.kp ev.A_law_hanging.b .nil pass0 (pa_cons (pv 2) (pa_cons (pv 3) pa_nil))))
    (pss_cons (ps_set (i := 9) sc_law.nd rfl (Or.inl rfl) pe_bl)
    (pss_cons (ps_for PassesOwn.never rfl (pi_range1 rfl ev.B.range_ (pa_cons pe_int pa_nil)) (pg_name (i := 10) sc_law.nd rfl (Or.inl rfl))
    (pss_cons (ps_set (i := 11) sc_law.nd rfl (Or.inl rfl) (pe_meth0 (pv 4) ev.cl_Survey ev.A_Survey_pieces.me (ok_Survey_piecesN ev) (hr.mono (by decide)) ev.A_Survey_pieces.b .nil pass0))
    (pss_cons (ps_set (i := 9) sc_law.nd rfl (Or.inl rfl) (pe_and (pv 9) (pe_one (pe_call (ok_same ev 3) (hr.mono (by decide)) (by rfl) ev.A_law_same.m ev.A_law_same.F.kp ev.A_law_same.b .nil pass0 (pa_cons (pv 11) (pa_cons (pv 6) pa_nil))))))
    (pss_cons (ps_for PassesOwn.never rfl (pi_list (pv 11)) (pg_name (i := 12) sc_law.nd rfl (Or.inl rfl))
    (pss_one (ps_expr (pe_call (ok_law_spoil ev) (hr.mono (by decide)) (by rfl) ev.A_law_spoil.m ev.A_law_spoil.F.kp ev.A_law_spoil.b .nil pass0 (pa_cons (pv 12) pa_nil)))))
    (pss_cons (ps_expr (pe_call (ok_law_spoil ev) (hr.mono (by decide)) (by rfl) ev.A_law_spoil.m ev.A_law_spoil.F.kp ev.A_law_spoil.b .nil pass0 (pa_cons (pv 11) pa_nil)))
    (pss_cons (ps_set (i := 13) sc_law.nd rfl (Or.inl rfl) (pe_meth0 (pv 4) ev.cl_Survey ev.A_Survey_loose.me (ok_Survey_loose ev) (hr.mono (by decide)) ev.A_Survey_loose.b .nil pass0))
    (pss_cons (ps_setLc (i := 14) (own := [("_law_name_here", 15)]) (g := gName 15) (by rfl) sc_law.nd rfl rfl (sw_true rfl rfl rfl (by decide +kernel)) (pi_list (pe_callB (cr_srtD rfl) (by rfl) ev.B.sorted_ (by decide +kernel) (pa_cons (pv 2) pa_nil))) (blkOk_by (own := [("_law_name_here", 15)]) (N := n_law) (sc := defScope s_law) (by decide +kernel)) (fun _ _ _ _ _ => pg_name (i := 15) sc_law.nd rfl (Or.inl rfl)) (fun _ _ _ _ _ => (pts_one (pt_cmpR (show OpR _ _ (rNotInD K) from (op_notInD hr.units65)) (pv 15) (pv 8) (by rfl)))) (fun _ _ _ _ _ => (pv 15)))
    (pss_cons (ps_set (i := 9) sc_law.nd rfl (Or.inl rfl) (pe_and (pv 9) (pe_one (pe_call (ok_same ev 2) (hr.mono (by decide)) (by rfl) ev.A_law_same.m ev.A_law_same.F.kp ev.A_law_same.b .nil pass0 (pa_cons (pv 13) (pa_cons (pv 14) pa_nil))))))
    (pss_one (ps_expr (pe_call (ok_law_spoil ev) (hr.mono (by decide)) (by rfl) ev.A_law_spoil.m ev.A_law_spoil.F.kp ev.A_law_spoil.b .nil pass0 (pa_cons (pv 13) pa_nil))))))))))))
    (pss_cons (ps_lock (ps_for PassesOwn.never rfl (pi_keys (pv 2)) (pg_name (i := 15) sc_law.nd rfl (Or.inl rfl))
    (pss_one (ps_set (i := 9) sc_law.nd rfl (Or.inl rfl) (pe_and (pv 9) (pe_one (pe_call (ok_same ev 1) (hr.mono (by decide)) (by rfl) ev.A_law_same.m ev.A_law_same.F.kp ev.A_law_same.b .nil pass0 (pa_cons (pe_call (ok_law_hang ev) (hr.mono (by decide)) (by rfl) ev.A_law_hang.m ev.A_law_hang.F.kp ev.A_law_hang.b .nil pass0 (pa_cons (pv 4) (pa_cons (pv 15) pa_nil))) (pa_cons (pe_cmpR (op_inD hr.units65) (pv 15) (pv 8) (by rfl)) pa_nil)))))))))
    (pss_one (ps_ret (pe_and (pv 9) (pe_one (pe_call (ok_same ev 1) (hr.mono (by decide)) (by rfl) ev.A_law_same.m ev.A_law_same.F.kp ev.A_law_same.b .nil pass0 (pa_cons (pe_call (ok_law_hang ev) (hr.mono (by decide)) (by rfl) ev.A_law_hang.m ev.A_law_hang.F.kp ev.A_law_hang.b .nil pass0 (pa_cons (pv 4) (pa_cons pe_str pa_nil))) (pa_cons pe_str pa_nil)))))))))))))))))), ?_⟩
  refine seq_asg ⟨_, rfl, a0, ns, rfl, hS, hl, fun b c H0 hB nb nc sm => ?_⟩
  have dm := hB.dom
  have ts : Sub [b, c] [b, c] := fun a m => m
  have sub0 : Sub [b, c] [b, c] := fun a m => m
  have fr0 := Fr.refl (T := [b, c]) H0
  have q : ∀ (u : V) (H' : Hp) (z : Bool), z = true → Fr [b, c] H0 H' → Bag H' b c → (of (K := K) tBool [b, c]).r H0 H' u z → Q u H' := fun u H' z hz _ _ hu => by
    subst hz
    cases hu
    exact qq H'
  dsimp only [m_law] at hm
  refine qw_asg dm hB ts (ew_newD (ew_callB rfl (wa_cons (ew_op (od_add (K := K)) (ew_pure (ev_int (K := K))) (ew_draw (K := K) rfl (ew_pure (ev_int (K := K))))) wa_nil))) hm (fun v_law_marks_here H1 law_marks_here_1 hm fr1 dm1 hB1 h_law_marks_here => ?_)
  have fr0 := fr0.trans fr1
  have dm := dm1
  have hB := hB1
  have h_law_marks_here : ((tD Str (tOpt (tT2 tInt tInt))) : Ty K (List (Str × (Option (Int × Int))))).rp [b, c] H1 v_law_marks_here law_marks_here_1 := h_law_marks_here
  refine qw_asg dm hB ts (ew_newD (ew_callB rfl (wa_cons (ew_pure (ev_new (ev_srtD (ev_var ts h_law_marks_here rfl)))) (wa_cons (ew_draw (K := K) rfl (ew_pure (ev_int (K := K)))) wa_nil)))) hm (fun v_law_readings_here H2 law_readings_here_2 hm fr2 dm2 hB2 h_law_readings_here => ?_)
  have fr0 := fr0.trans fr2
  have h_law_marks_here := ((tD Str (tOpt (tT2 tInt tInt))) : Ty K (List (Str × (Option (Int × Int))))).mono (S := [b, c]) (fr2.sub ts) h_law_marks_here
  have dm := dm2
  have hB := hB2
  have h_law_readings_here : ((tD Int (tTu (aCons tStr (aCons tStr (aCons tInt (aCons tInt (aCons tInt aNil))))))) : Ty K (List (Int × (Str × Str × Int × Int × Int × Unit)))).rp [b, c] H2 v_law_readings_here law_readings_here_2 := h_law_readings_here
  obtain ⟨law_survey_3, e3, hm⟩ := hm
  refine q_asg (T := [b, c]) dm (ev_newON ts h_law_marks_here (ev_makeN (K := K) (fr := svR) (ea_cons (ev_var ts h_law_marks_here rfl) (ea_cons (ev_var ts h_law_readings_here rfl) ea_nil)))) e3 (fun v_law_survey H3 s3 h_law_survey => ?_)
  have fr0 := fr0.trans (Fr.same s3)
  have dm := dm.same s3
  have h_law_marks_here := ((tD Str (tOpt (tT2 tInt tInt))) : Ty K (List (Str × (Option (Int × Int))))).mono (S := [b, c]) (Fr.same s3) h_law_marks_here
  have h_law_readings_here := ((tD Int (tTu (aCons tStr (aCons tStr (aCons tInt (aCons tInt (aCons tInt aNil))))))) : Ty K (List (Int × (Str × Str × Int × Int × Int × Unit)))).mono (S := [b, c]) (Fr.same s3) h_law_readings_here
  have hB := hB.same s3
  have h_law_survey : ((tO ev.C_Survey (svN v_law_marks_here)) : Ty K Sv).rp [b, c] H3 v_law_survey law_survey_3 := h_law_survey
  obtain ⟨law_heads_4, e4, hm⟩ := hm
  refine q_asg (T := [b, c]) dm (ev_newD (ev_call (ea_cons (ev_new (ev_listDS (ev_var ts h_law_marks_here rfl))) (ea_cons (ev_var ts h_law_readings_here rfl) ea_nil)))) e4 (fun v_law_heads H4 s4 h_law_heads => ?_)
  have fr0 := fr0.trans (Fr.same s4)
  have dm := dm.same s4
  have h_law_marks_here := ((tD Str (tOpt (tT2 tInt tInt))) : Ty K (List (Str × (Option (Int × Int))))).mono (S := [b, c]) (Fr.same s4) h_law_marks_here
  have h_law_readings_here := ((tD Int (tTu (aCons tStr (aCons tStr (aCons tInt (aCons tInt (aCons tInt aNil))))))) : Ty K (List (Int × (Str × Str × Int × Int × Int × Unit)))).mono (S := [b, c]) (Fr.same s4) h_law_readings_here
  have h_law_survey := ((tO ev.C_Survey (svN v_law_marks_here)) : Ty K Sv).mono (S := [b, c]) (Fr.same s4) h_law_survey
  have hB := hB.same s4
  have h_law_heads : ((tD Str tStr) : Ty K (List (Str × Str))).rp [b, c] H4 v_law_heads law_heads_4 := h_law_heads
  obtain ⟨law_due_5, e5, hm⟩ := hm
  refine q_asg (T := [b, c]) dm (ev_lst0 (a := ((tL tStr) : Ty K (List Str)))) e5 (fun v_law_due H5 s5 hx => ?_)
  obtain ⟨p_law_due, rfl, np_law_due, o_law_due⟩ := hx
  have ns_law_due : p_law_due ∉ [b, c] := dm.not_mem np_law_due
  have nb_law_due : p_law_due ∉ [b, c] := fun m => ns_law_due (sub0 _ m)
  have n0_law_due := fr_back fr0 hB.dom np_law_due
  have nt_law_due := hB.dom.not_mem np_law_due
  have fr0 := fr0.trans (Fr.same s5)
  have h_law_marks_here := ((tD Str (tOpt (tT2 tInt tInt))) : Ty K (List (Str × (Option (Int × Int))))).mono (Fr.same s5) (((tD Str (tOpt (tT2 tInt tInt))) : Ty K (List (Str × (Option (Int × Int))))).ext (S := [b, c]) np_law_due h_law_marks_here)
  have h_law_readings_here := ((tD Int (tTu (aCons tStr (aCons tStr (aCons tInt (aCons tInt (aCons tInt aNil))))))) : Ty K (List (Int × (Str × Str × Int × Int × Int × Unit)))).mono (Fr.same s5) (((tD Int (tTu (aCons tStr (aCons tStr (aCons tInt (aCons tInt (aCons tInt aNil))))))) : Ty K (List (Int × (Str × Str × Int × Int × Int × Unit)))).ext (S := [b, c]) np_law_due h_law_readings_here)
  have h_law_survey := ((tO ev.C_Survey (svN v_law_marks_here)) : Ty K Sv).mono (Fr.same s5) (((tO ev.C_Survey (svN v_law_marks_here)) : Ty K Sv).ext (S := [b, c]) np_law_due h_law_survey)
  have h_law_heads := ((tD Str tStr) : Ty K (List (Str × Str))).mono (Fr.same s5) (((tD Str tStr) : Ty K (List (Str × Str))).ext (S := [b, c]) np_law_due h_law_heads)
  have dm := (dm.same s5).cons o_law_due.choose_spec.1
  have ts := sub_cons (p := p_law_due) ts
  have sub0 := sub_cons (p := p_law_due) sub0
  have im_law_due : p_law_due ∈ p_law_due :: [b, c] := List.mem_cons_self ..
  have hB := hB.same s5
  refine qw_for_s dm hB ts (srw_pure (sr_list (ev_new (ev_srtSet (ev_new (ev_lv (ev_var ts h_law_heads rfl))))))) hm (fun s_6 σ' H' => ∃ v_law_marks_here : V, ∃ v_law_readings_here : V, ∃ v_law_survey : V, ∃ v_law_heads : V, ∃ f_7 : Option V, ∃ f_8 : Option V, ∃ f_9 : Option V, ∃ f_10 : Option V, ∃ f_11 : Option V, ∃ f_12 : Option V, ∃ f_13 : Option V, ∃ f_14 : Option V, ∃ f_15 : Option V, σ' = [some (.ref a0), some (.ref b), some v_law_marks_here, some v_law_readings_here, some v_law_survey, some v_law_heads, some (.ref p_law_due), f_7, f_8, f_9, f_10, f_11, f_12, f_13, f_14, f_15] ∧ Fr [b, c] H0 H' ∧ Dom (p_law_due :: [b, c]) H' ∧ Bag H' b c ∧ ((tD Str (tOpt (tT2 tInt tInt))) : Ty K (List (Str × (Option (Int × Int))))).rp (p_law_due :: [b, c]) H' v_law_marks_here law_marks_here_1 ∧ ((tD Int (tTu (aCons tStr (aCons tStr (aCons tInt (aCons tInt (aCons tInt aNil))))))) : Ty K (List (Int × (Str × Str × Int × Int × Int × Unit)))).rp (p_law_due :: [b, c]) H' v_law_readings_here law_readings_here_2 ∧ ((tO ev.C_Survey (svN v_law_marks_here)) : Ty K Sv).rp (p_law_due :: [b, c]) H' v_law_survey law_survey_3 ∧ ((tD Str tStr) : Ty K (List (Str × Str))).rp (p_law_due :: [b, c]) H' v_law_heads law_heads_4 ∧ Own ((tL tStr) : Ty K (List Str)) (p_law_due :: [b, c]) H' p_law_due s_6) (fun H6 fr6 dm6 hB6 => ?_) (fun hd6 s_6 law_head_6 C6 v_law_head σ' H' hI h_law_head hm hret6 hbrk6 => ?_) (fun t_6 σ' H' hm hI => ?_)
  · skip
    have fr0 := fr0.trans fr6
    have h_law_marks_here := ((tD Str (tOpt (tT2 tInt tInt))) : Ty K (List (Str × (Option (Int × Int))))).mono (S := (p_law_due :: [b, c])) (fr6.sub ts) h_law_marks_here
    have h_law_readings_here := ((tD Int (tTu (aCons tStr (aCons tStr (aCons tInt (aCons tInt (aCons tInt aNil))))))) : Ty K (List (Int × (Str × Str × Int × Int × Int × Unit)))).mono (S := (p_law_due :: [b, c])) (fr6.sub ts) h_law_readings_here
    have h_law_survey := ((tO ev.C_Survey (svN v_law_marks_here)) : Ty K Sv).mono (S := (p_law_due :: [b, c])) (fr6.sub ts) h_law_survey
    have h_law_heads := ((tD Str tStr) : Ty K (List (Str × Str))).mono (S := (p_law_due :: [b, c])) (fr6.sub ts) h_law_heads
    have o_law_due := o_law_due.fr fr6 ts nt_law_due
    have dm := dm6
    have hB := hB6
    exact ⟨v_law_marks_here, v_law_readings_here, v_law_survey, v_law_heads, _, _, _, _, _, _, _, _, _, rfl, fr0, dm, hB, h_law_marks_here, h_law_readings_here, h_law_survey, h_law_heads, o_law_due⟩
  · skip
    obtain ⟨v_law_marks_here, v_law_readings_here, v_law_survey, v_law_heads, f_7, f_8, f_9, f_10, f_11, f_12, f_13, f_14, f_15, rfl, fr0, dm, hB, h_law_marks_here, h_law_readings_here, h_law_survey, h_law_heads, o_law_due⟩ := hI
    let HL := H'
    have freshl : ∀ a ∈ (p_law_due :: [b, c]), a ∉ (p_law_due :: [b, c]) → H' a = none := fun a m n => absurd m n
    have frl : Fr (p_law_due :: [b, c]) HL H' := Fr.refl (T := (p_law_due :: [b, c])) H'
    have tsl := ts
    have subl : Sub (p_law_due :: [b, c]) (p_law_due :: [b, c]) := fun a m => m
    have iml_law_due := im_law_due
    have h_law_head : (tStr : Ty K Str).rp (p_law_due :: [b, c]) H' v_law_head law_head_6 := h_law_head
    obtain ⟨a9, e9, hm⟩ := hm
    obtain ⟨law_due_10, f9, hm⟩ := hm
    refine l_app (T := [b, c]) dm o_law_due im_law_due nt_law_due ts rfl (ev_new (ev_lcF (sr_list (ev_new (ev_srtD (ev_var ts h_law_marks_here rfl)))) (fun v => by rfl) (fun law_name_here_8 v_law_name_here H2' H' p' fr' nD' sm' h_law_name_here => by have h_law_marks_here := ((tD Str (tOpt (tT2 tInt tInt))) : Ty K (List (Str × (Option (Int × Int))))).mono (Fr.same sm') (((tD Str (tOpt (tT2 tInt tInt))) : Ty K (List (Str × (Option (Int × Int))))).ext (S := (p_law_due :: [b, c])) nD' (((tD Str (tOpt (tT2 tInt tInt))) : Ty K (List (Str × (Option (Int × Int))))).mono (Fr.sub ts fr') h_law_marks_here)); have h_law_readings_here := ((tD Int (tTu (aCons tStr (aCons tStr (aCons tInt (aCons tInt (aCons tInt aNil))))))) : Ty K (List (Int × (Str × Str × Int × Int × Int × Unit)))).mono (Fr.same sm') (((tD Int (tTu (aCons tStr (aCons tStr (aCons tInt (aCons tInt (aCons tInt aNil))))))) : Ty K (List (Int × (Str × Str × Int × Int × Int × Unit)))).ext (S := (p_law_due :: [b, c])) nD' (((tD Int (tTu (aCons tStr (aCons tStr (aCons tInt (aCons tInt (aCons tInt aNil))))))) : Ty K (List (Int × (Str × Str × Int × Int × Int × Unit)))).mono (Fr.sub ts fr') h_law_readings_here)); have h_law_survey := ((tO ev.C_Survey (svN v_law_marks_here)) : Ty K Sv).mono (Fr.same sm') (((tO ev.C_Survey (svN v_law_marks_here)) : Ty K Sv).ext (S := (p_law_due :: [b, c])) nD' (((tO ev.C_Survey (svN v_law_marks_here)) : Ty K Sv).mono (Fr.sub ts fr') h_law_survey)); have h_law_heads := ((tD Str tStr) : Ty K (List (Str × Str))).mono (Fr.same sm') (((tD Str tStr) : Ty K (List (Str × Str))).ext (S := (p_law_due :: [b, c])) nD' (((tD Str tStr) : Ty K (List (Str × Str))).mono (Fr.sub ts fr') h_law_heads)); have h_law_head := (tStr : Ty K Str).mono (Fr.same sm') ((tStr : Ty K Str).ext (S := (p_law_due :: [b, c])) nD' ((tStr : Ty K Str).mono (Fr.sub ts fr') h_law_head)); have ts0' := ts; have ts : Sub [] (p' :: (p_law_due :: [b, c])) := (fun a m => by simp at m);  have o_law_due := ((o_law_due.fr fr' ts0' nt_law_due).ext nD').same sm'; have nt_law_due : p_law_due ∉ [] := (by simp); exact (eb_test (K := K) (ev_op (od_eqS (K := K)) (ev_dget (ck := (tStr : Ty K Str)) (ev_var ts h_law_heads rfl) (ev_var ts h_law_name_here rfl)) (ev_var ts h_law_head rfl)))) (fun law_name_here_8 v_law_name_here H2' H' p' fr' nD' sm' h_law_name_here => by have h_law_marks_here := ((tD Str (tOpt (tT2 tInt tInt))) : Ty K (List (Str × (Option (Int × Int))))).mono (Fr.same sm') (((tD Str (tOpt (tT2 tInt tInt))) : Ty K (List (Str × (Option (Int × Int))))).ext (S := (p_law_due :: [b, c])) nD' (((tD Str (tOpt (tT2 tInt tInt))) : Ty K (List (Str × (Option (Int × Int))))).mono (Fr.sub ts fr') h_law_marks_here)); have h_law_readings_here := ((tD Int (tTu (aCons tStr (aCons tStr (aCons tInt (aCons tInt (aCons tInt aNil))))))) : Ty K (List (Int × (Str × Str × Int × Int × Int × Unit)))).mono (Fr.same sm') (((tD Int (tTu (aCons tStr (aCons tStr (aCons tInt (aCons tInt (aCons tInt aNil))))))) : Ty K (List (Int × (Str × Str × Int × Int × Int × Unit)))).ext (S := (p_law_due :: [b, c])) nD' (((tD Int (tTu (aCons tStr (aCons tStr (aCons tInt (aCons tInt (aCons tInt aNil))))))) : Ty K (List (Int × (Str × Str × Int × Int × Int × Unit)))).mono (Fr.sub ts fr') h_law_readings_here)); have h_law_survey := ((tO ev.C_Survey (svN v_law_marks_here)) : Ty K Sv).mono (Fr.same sm') (((tO ev.C_Survey (svN v_law_marks_here)) : Ty K Sv).ext (S := (p_law_due :: [b, c])) nD' (((tO ev.C_Survey (svN v_law_marks_here)) : Ty K Sv).mono (Fr.sub ts fr') h_law_survey)); have h_law_heads := ((tD Str tStr) : Ty K (List (Str × Str))).mono (Fr.same sm') (((tD Str tStr) : Ty K (List (Str × Str))).ext (S := (p_law_due :: [b, c])) nD' (((tD Str tStr) : Ty K (List (Str × Str))).mono (Fr.sub ts fr') h_law_heads)); have h_law_head := (tStr : Ty K Str).mono (Fr.same sm') ((tStr : Ty K Str).ext (S := (p_law_due :: [b, c])) nD' ((tStr : Ty K Str).mono (Fr.sub ts fr') h_law_head)); have ts0' := ts; have ts : Sub [] (p' :: (p_law_due :: [b, c])) := (fun a m => by simp at m);  have o_law_due := ((o_law_due.fr fr' ts0' nt_law_due).ext nD').same sm'; have nt_law_due : p_law_due ∉ [] := (by simp); exact (ev_var ts h_law_name_here rfl)))) e9 f9 (fun H9 s9 frx9 o_law_due => ?_)
    have fr0 := fr0.mut hB.dom n0_law_due s9
    have frl := frl.trans (s9.fr iml_law_due)
    have dm := dm.fx frx9 s9
    have h_law_marks_here := ((tD Str (tOpt (tT2 tInt tInt))) : Ty K (List (Str × (Option (Int × Int))))).mono (S := (p_law_due :: [b, c])) frx9 h_law_marks_here
    have h_law_readings_here := ((tD Int (tTu (aCons tStr (aCons tStr (aCons tInt (aCons tInt (aCons tInt aNil))))))) : Ty K (List (Int × (Str × Str × Int × Int × Int × Unit)))).mono (S := (p_law_due :: [b, c])) frx9 h_law_readings_here
    have h_law_survey := ((tO ev.C_Survey (svN v_law_marks_here)) : Ty K Sv).mono (S := (p_law_due :: [b, c])) frx9 h_law_survey
    have h_law_heads := ((tD Str tStr) : Ty K (List (Str × Str))).mono (S := (p_law_due :: [b, c])) frx9 h_law_heads
    have h_law_head := (tStr : Ty K Str).mono (S := (p_law_due :: [b, c])) frx9 h_law_head
    have hB := hB.mut s9 nt_law_due
    exact ⟨_, hm, frl, ⟨v_law_marks_here, v_law_readings_here, v_law_survey, v_law_heads, _, _, _, _, _, _, _, _, _, rfl, fr0, dm, hB, h_law_marks_here, h_law_readings_here, h_law_survey, h_law_heads, o_law_due⟩⟩
  obtain ⟨v_law_marks_here, v_law_readings_here, v_law_survey, v_law_heads, f_7, f_8, f_9, f_10, f_11, f_12, f_13, f_14, f_15, rfl, fr0, dm, hB, h_law_marks_here, h_law_readings_here, h_law_survey, h_law_heads, o_law_due⟩ := hI
  have sbz : Sub [b, c] (p_law_due :: [b, c]) := (sub_cons (fun a m => m))
  have nfz : p_law_due ∉ [b, c] := by first | exact ns_law_due | (have h := ns_law_due; simp only [List.mem_cons, not_or] at h ⊢; grind)
  have h_law_due := o_law_due.frz sbz nfz
  have dm := dm.sub sbz
  have h_law_marks_here := ((tD Str (tOpt (tT2 tInt tInt))) : Ty K (List (Str × (Option (Int × Int))))).sub sbz h_law_marks_here
  have h_law_readings_here := ((tD Int (tTu (aCons tStr (aCons tStr (aCons tInt (aCons tInt (aCons tInt aNil))))))) : Ty K (List (Int × (Str × Str × Int × Int × Int × Unit)))).sub sbz h_law_readings_here
  have h_law_survey := ((tO ev.C_Survey (svN v_law_marks_here)) : Ty K Sv).sub sbz h_law_survey
  have h_law_heads := ((tD Str tStr) : Ty K (List (Str × Str))).sub sbz h_law_heads
  have ts : Sub [b, c] [b, c] := fun a m => by have h1 := ts a m; have h2 : a ≠ p_law_due := (fun e => nt_law_due (e ▸ m)); simp only [List.mem_cons] at h1 ⊢; grind
  have sub0 : Sub [b, c] [b, c] := fun a m => by have h1 := sub0 a m; have h2 : a ≠ p_law_due := (fun e => nb_law_due (e ▸ m)); simp only [List.mem_cons] at h1 ⊢; grind
  obtain ⟨law_hanging_here_11, e11, hm⟩ := hm
  refine q_asg (T := [b, c]) dm (ev_new (ev_call (ea_cons (ev_var ts h_law_marks_here rfl) (ea_cons (ev_var ts h_law_readings_here rfl) ea_nil)))) e11 (fun v_law_hanging_here H11 s11 h_law_hanging_here => ?_)
  have fr0 := fr0.trans (Fr.same s11)
  have dm := dm.same s11
  have h_law_marks_here := ((tD Str (tOpt (tT2 tInt tInt))) : Ty K (List (Str × (Option (Int × Int))))).mono (S := [b, c]) (Fr.same s11) h_law_marks_here
  have h_law_readings_here := ((tD Int (tTu (aCons tStr (aCons tStr (aCons tInt (aCons tInt (aCons tInt aNil))))))) : Ty K (List (Int × (Str × Str × Int × Int × Int × Unit)))).mono (S := [b, c]) (Fr.same s11) h_law_readings_here
  have h_law_survey := ((tO ev.C_Survey (svN v_law_marks_here)) : Ty K Sv).mono (S := [b, c]) (Fr.same s11) h_law_survey
  have h_law_heads := ((tD Str tStr) : Ty K (List (Str × Str))).mono (S := [b, c]) (Fr.same s11) h_law_heads
  have h_law_due := ((tL (tL tStr)) : Ty K (List (List Str))).mono (S := [b, c]) (Fr.same s11) h_law_due
  have hB := hB.same s11
  have h_law_hanging_here : ((tL tStr) : Ty K (List Str)).rp [b, c] H11 v_law_hanging_here law_hanging_here_11 := h_law_hanging_here
  obtain ⟨law_good_12, e12, hm⟩ := hm
  refine q_asg (T := [b, c]) dm (ev_bool (K := K)) e12 (fun v_law_good H12 s12 h_law_good => ?_)
  have fr0 := fr0.trans (Fr.same s12)
  have dm := dm.same s12
  have h_law_marks_here := ((tD Str (tOpt (tT2 tInt tInt))) : Ty K (List (Str × (Option (Int × Int))))).mono (S := [b, c]) (Fr.same s12) h_law_marks_here
  have h_law_readings_here := ((tD Int (tTu (aCons tStr (aCons tStr (aCons tInt (aCons tInt (aCons tInt aNil))))))) : Ty K (List (Int × (Str × Str × Int × Int × Int × Unit)))).mono (S := [b, c]) (Fr.same s12) h_law_readings_here
  have h_law_survey := ((tO ev.C_Survey (svN v_law_marks_here)) : Ty K Sv).mono (S := [b, c]) (Fr.same s12) h_law_survey
  have h_law_heads := ((tD Str tStr) : Ty K (List (Str × Str))).mono (S := [b, c]) (Fr.same s12) h_law_heads
  have h_law_due := ((tL (tL tStr)) : Ty K (List (List Str))).mono (S := [b, c]) (Fr.same s12) h_law_due
  have h_law_hanging_here := ((tL tStr) : Ty K (List Str)).mono (S := [b, c]) (Fr.same s12) h_law_hanging_here
  have hB := hB.same s12
  have h_law_good : (tBool : Ty K Bool).rp [b, c] H12 v_law_good law_good_12 := h_law_good
  refine qw_for_s dm hB ts (srw_pure (sr_r1 (K := K) (ev_int (K := K)))) hm (fun s_13 σ' H' => ∃ v_law_marks_here : V, ∃ v_law_readings_here : V, ∃ v_law_survey : V, ∃ v_law_heads : V, ∃ v_law_hanging_here : V, ∃ v_law_good : V, ∃ f_7 : Option V, ∃ f_10 : Option V, ∃ f_11 : Option V, ∃ f_12 : Option V, ∃ f_13 : Option V, ∃ f_14 : Option V, ∃ f_15 : Option V, σ' = [some (.ref a0), some (.ref b), some v_law_marks_here, some v_law_readings_here, some v_law_survey, some v_law_heads, some (.ref p_law_due), f_7, some v_law_hanging_here, some v_law_good, f_10, f_11, f_12, f_13, f_14, f_15] ∧ Fr [b, c] H0 H' ∧ Dom [b, c] H' ∧ Bag H' b c ∧ ((tD Str (tOpt (tT2 tInt tInt))) : Ty K (List (Str × (Option (Int × Int))))).rp [b, c] H' v_law_marks_here law_marks_here_1 ∧ ((tD Int (tTu (aCons tStr (aCons tStr (aCons tInt (aCons tInt (aCons tInt aNil))))))) : Ty K (List (Int × (Str × Str × Int × Int × Int × Unit)))).rp [b, c] H' v_law_readings_here law_readings_here_2 ∧ ((tO ev.C_Survey (svN v_law_marks_here)) : Ty K Sv).rp [b, c] H' v_law_survey law_survey_3 ∧ ((tD Str tStr) : Ty K (List (Str × Str))).rp [b, c] H' v_law_heads law_heads_4 ∧ ((tL (tL tStr)) : Ty K (List (List Str))).rp [b, c] H' (.ref p_law_due) t_6 ∧ ((tL tStr) : Ty K (List Str)).rp [b, c] H' v_law_hanging_here law_hanging_here_11 ∧ (tBool : Ty K Bool).rp [b, c] H' v_law_good s_13) (fun H13 fr13 dm13 hB13 => ?_) (fun hd13 s_13 law_turn_13 C13 v_law_turn σ' H' hI h_law_turn hm hret13 hbrk13 => ?_) (fun t_13 σ' H' hm hI => ?_)
  · skip
    have fr0 := fr0.trans fr13
    have h_law_marks_here := ((tD Str (tOpt (tT2 tInt tInt))) : Ty K (List (Str × (Option (Int × Int))))).mono (S := [b, c]) (fr13.sub ts) h_law_marks_here
    have h_law_readings_here := ((tD Int (tTu (aCons tStr (aCons tStr (aCons tInt (aCons tInt (aCons tInt aNil))))))) : Ty K (List (Int × (Str × Str × Int × Int × Int × Unit)))).mono (S := [b, c]) (fr13.sub ts) h_law_readings_here
    have h_law_survey := ((tO ev.C_Survey (svN v_law_marks_here)) : Ty K Sv).mono (S := [b, c]) (fr13.sub ts) h_law_survey
    have h_law_heads := ((tD Str tStr) : Ty K (List (Str × Str))).mono (S := [b, c]) (fr13.sub ts) h_law_heads
    have h_law_due := ((tL (tL tStr)) : Ty K (List (List Str))).mono (S := [b, c]) (fr13.sub ts) h_law_due
    have h_law_hanging_here := ((tL tStr) : Ty K (List Str)).mono (S := [b, c]) (fr13.sub ts) h_law_hanging_here
    have h_law_good := (tBool : Ty K Bool).mono (S := [b, c]) (fr13.sub ts) h_law_good
    have dm := dm13
    have hB := hB13
    exact ⟨v_law_marks_here, v_law_readings_here, v_law_survey, v_law_heads, v_law_hanging_here, v_law_good, _, _, _, _, _, _, _, rfl, fr0, dm, hB, h_law_marks_here, h_law_readings_here, h_law_survey, h_law_heads, h_law_due, h_law_hanging_here, h_law_good⟩
  · skip
    obtain ⟨v_law_marks_here, v_law_readings_here, v_law_survey, v_law_heads, v_law_hanging_here, v_law_good, f_7, f_10, f_11, f_12, f_13, f_14, f_15, rfl, fr0, dm, hB, h_law_marks_here, h_law_readings_here, h_law_survey, h_law_heads, h_law_due, h_law_hanging_here, h_law_good⟩ := hI
    let HL := H'
    have freshl : ∀ a ∈ [b, c], a ∉ [b, c] → H' a = none := fun a m n => absurd m n
    have frl : Fr [b, c] HL H' := Fr.refl (T := [b, c]) H'
    have tsl := ts
    have subl : Sub [b, c] [b, c] := fun a m => m
    have h_law_turn : (tInt : Ty K Int).rp [b, c] H' v_law_turn law_turn_13 := h_law_turn
    have hb_law_marks_here := h_law_marks_here
    have hb_law_readings_here := h_law_readings_here
    have hb_law_survey := h_law_survey
    have hb_law_heads := h_law_heads
    have hb_law_due := h_law_due
    have hb_law_hanging_here := h_law_hanging_here
    have hb_law_good := h_law_good
    have hb_law_turn := h_law_turn
    have fr0b := fr0
    have frlb := frl
    have dmb := dm
    obtain ⟨found_14, e14, hm⟩ := hm
    refine q_asg (T := [b, c]) dm (ev_methO0 (f := fun a => m_Survey_pieces a.1) (fno_cons (by decide +kernel) (fno_cons (by decide +kernel) fno_nil)) (ev_unN (ev_var ts h_law_survey rfl))) e14 (fun v_law_found H14 s14 hx => ?_)
    have h_law_found := nwN.rp hx dm
    have fr0 := fr0.trans (Fr.same s14)
    have dm := dm.same s14
    have frl := frl.trans (Fr.same s14)
    have h_law_marks_here := ((tD Str (tOpt (tT2 tInt tInt))) : Ty K (List (Str × (Option (Int × Int))))).mono (S := [b, c]) (Fr.same s14) h_law_marks_here
    have h_law_readings_here := ((tD Int (tTu (aCons tStr (aCons tStr (aCons tInt (aCons tInt (aCons tInt aNil))))))) : Ty K (List (Int × (Str × Str × Int × Int × Int × Unit)))).mono (S := [b, c]) (Fr.same s14) h_law_readings_here
    have h_law_survey := ((tO ev.C_Survey (svN v_law_marks_here)) : Ty K Sv).mono (S := [b, c]) (Fr.same s14) h_law_survey
    have h_law_heads := ((tD Str tStr) : Ty K (List (Str × Str))).mono (S := [b, c]) (Fr.same s14) h_law_heads
    have h_law_due := ((tL (tL tStr)) : Ty K (List (List Str))).mono (S := [b, c]) (Fr.same s14) h_law_due
    have h_law_hanging_here := ((tL tStr) : Ty K (List Str)).mono (S := [b, c]) (Fr.same s14) h_law_hanging_here
    have h_law_good := (tBool : Ty K Bool).mono (S := [b, c]) (Fr.same s14) h_law_good
    have h_law_turn := (tInt : Ty K Int).mono (S := [b, c]) (Fr.same s14) h_law_turn
    have hB := hB.same s14
    have h_law_found : ((tL (tL tStr)) : Ty K (List (List Str))).rp [b, c] H14 v_law_found found_14 := h_law_found
    refine qw_asg dm hB ts (ew_and (ew_pure (ev_var ts h_law_good rfl)) (ew_sameR (smr_of (sm_L (sm_L sm_str))) (ew_pure (ev_var ts h_law_found rfl)) (ew_pure (ev_var ts h_law_due rfl)))) hm (fun v_law_good H15 good_15 hm fr15 dm15 hB15 hg => ?_)
    obtain ⟨u9, eu9, hm⟩ := hm
    cases u9
    have hN := (nest_of hx eu9).fr fr15 (dmb.sub ts)
    have frE0 := (Fr.same (T := [b, c]) s14).trans fr15
    refine q_spoil2 dmb ts hB15 frE0 dm15 hN rfl (by decide) rfl (fun o_row H15e frE dmE hBE => ?_)
    have h_law_marks_here := hb_law_marks_here
    have h_law_readings_here := hb_law_readings_here
    have h_law_survey := hb_law_survey
    have h_law_heads := hb_law_heads
    have h_law_due := hb_law_due
    have h_law_hanging_here := hb_law_hanging_here
    have h_law_turn := hb_law_turn
    have h_law_good : v_law_good = V.bl good_15 := hg
    have fr0 := fr0b
    have frl := frlb
    have fr0 := fr0.trans frE
    have frl := frl.trans (frE.sub tsl)
    have h_law_marks_here := ((tD Str (tOpt (tT2 tInt tInt))) : Ty K (List (Str × (Option (Int × Int))))).mono (S := [b, c]) (frE.sub ts) h_law_marks_here
    have h_law_readings_here := ((tD Int (tTu (aCons tStr (aCons tStr (aCons tInt (aCons tInt (aCons tInt aNil))))))) : Ty K (List (Int × (Str × Str × Int × Int × Int × Unit)))).mono (S := [b, c]) (frE.sub ts) h_law_readings_here
    have h_law_survey := ((tO ev.C_Survey (svN v_law_marks_here)) : Ty K Sv).mono (S := [b, c]) (frE.sub ts) h_law_survey
    have h_law_heads := ((tD Str tStr) : Ty K (List (Str × Str))).mono (S := [b, c]) (frE.sub ts) h_law_heads
    have h_law_due := ((tL (tL tStr)) : Ty K (List (List Str))).mono (S := [b, c]) (frE.sub ts) h_law_due
    have h_law_hanging_here := ((tL tStr) : Ty K (List Str)).mono (S := [b, c]) (frE.sub ts) h_law_hanging_here
    have h_law_good := (tBool : Ty K Bool).mono (S := [b, c]) (frE.sub ts) h_law_good
    have h_law_turn := (tInt : Ty K Int).mono (S := [b, c]) (frE.sub ts) h_law_turn
    have dm := dmE
    have hB := hBE
    obtain ⟨law_late_16, e16, hm⟩ := hm
    refine q_asg (T := [b, c]) dm (ev_methO0 (f := fun a => m_Survey_loose a.1) (fno_cons (by decide +kernel) (fno_cons (by decide +kernel) fno_nil)) (ev_unN (ev_var ts h_law_survey rfl))) e16 (fun v_law_late H16 s16 hx => ?_)
    obtain ⟨p_law_late, rfl, np_law_late, o_law_late⟩ := hx
    have ns_law_late : p_law_late ∉ [b, c] := dm.not_mem np_law_late
    have nb_law_late : p_law_late ∉ [b, c] := fun m => ns_law_late (sub0 _ m)
    have nbl_law_late : p_law_late ∉ [b, c] := fun m => ns_law_late (subl _ m)
    have n0_law_late := fr_back fr0 hB.dom np_law_late
    have nt_law_late := hB.dom.not_mem np_law_late
    have fr0 := fr0.trans (Fr.same s16)
    have nl_law_late := fr_back frl (dm.sub subl) np_law_late
    have frl := frl.trans (Fr.same s16)
    have subl := sub_cons (p := p_law_late) subl
    have freshl := fresh_cons freshl nl_law_late
    have h_law_marks_here := ((tD Str (tOpt (tT2 tInt tInt))) : Ty K (List (Str × (Option (Int × Int))))).mono (Fr.same s16) (((tD Str (tOpt (tT2 tInt tInt))) : Ty K (List (Str × (Option (Int × Int))))).ext (S := [b, c]) np_law_late h_law_marks_here)
    have h_law_readings_here := ((tD Int (tTu (aCons tStr (aCons tStr (aCons tInt (aCons tInt (aCons tInt aNil))))))) : Ty K (List (Int × (Str × Str × Int × Int × Int × Unit)))).mono (Fr.same s16) (((tD Int (tTu (aCons tStr (aCons tStr (aCons tInt (aCons tInt (aCons tInt aNil))))))) : Ty K (List (Int × (Str × Str × Int × Int × Int × Unit)))).ext (S := [b, c]) np_law_late h_law_readings_here)
    have h_law_survey := ((tO ev.C_Survey (svN v_law_marks_here)) : Ty K Sv).mono (Fr.same s16) (((tO ev.C_Survey (svN v_law_marks_here)) : Ty K Sv).ext (S := [b, c]) np_law_late h_law_survey)
    have h_law_heads := ((tD Str tStr) : Ty K (List (Str × Str))).mono (Fr.same s16) (((tD Str tStr) : Ty K (List (Str × Str))).ext (S := [b, c]) np_law_late h_law_heads)
    have h_law_due := ((tL (tL tStr)) : Ty K (List (List Str))).mono (Fr.same s16) (((tL (tL tStr)) : Ty K (List (List Str))).ext (S := [b, c]) np_law_late h_law_due)
    have h_law_hanging_here := ((tL tStr) : Ty K (List Str)).mono (Fr.same s16) (((tL tStr) : Ty K (List Str)).ext (S := [b, c]) np_law_late h_law_hanging_here)
    have h_law_good := (tBool : Ty K Bool).mono (Fr.same s16) ((tBool : Ty K Bool).ext (S := [b, c]) np_law_late h_law_good)
    have h_law_turn := (tInt : Ty K Int).mono (Fr.same s16) ((tInt : Ty K Int).ext (S := [b, c]) np_law_late h_law_turn)
    have dm := (dm.same s16).cons o_law_late.choose_spec.1
    have ts := sub_cons (p := p_law_late) ts
    have sub0 := sub_cons (p := p_law_late) sub0
    have im_law_late : p_law_late ∈ p_law_late :: [b, c] := List.mem_cons_self ..
    have hB := hB.same s16
    obtain ⟨law_gone_18, e18, hm⟩ := hm
    refine q_asg (T := [b, c]) dm (ev_new (ev_lcF (sr_list (ev_new (ev_srtD (ev_var ts h_law_marks_here rfl)))) (fun v => by rfl) (fun law_name_here_17 v_law_name_here H2' H' p' fr' nD' sm' h_law_name_here => by have h_law_marks_here := ((tD Str (tOpt (tT2 tInt tInt))) : Ty K (List (Str × (Option (Int × Int))))).mono (Fr.same sm') (((tD Str (tOpt (tT2 tInt tInt))) : Ty K (List (Str × (Option (Int × Int))))).ext (S := (p_law_late :: [b, c])) nD' (((tD Str (tOpt (tT2 tInt tInt))) : Ty K (List (Str × (Option (Int × Int))))).mono (Fr.sub ts fr') h_law_marks_here)); have h_law_readings_here := ((tD Int (tTu (aCons tStr (aCons tStr (aCons tInt (aCons tInt (aCons tInt aNil))))))) : Ty K (List (Int × (Str × Str × Int × Int × Int × Unit)))).mono (Fr.same sm') (((tD Int (tTu (aCons tStr (aCons tStr (aCons tInt (aCons tInt (aCons tInt aNil))))))) : Ty K (List (Int × (Str × Str × Int × Int × Int × Unit)))).ext (S := (p_law_late :: [b, c])) nD' (((tD Int (tTu (aCons tStr (aCons tStr (aCons tInt (aCons tInt (aCons tInt aNil))))))) : Ty K (List (Int × (Str × Str × Int × Int × Int × Unit)))).mono (Fr.sub ts fr') h_law_readings_here)); have h_law_survey := ((tO ev.C_Survey (svN v_law_marks_here)) : Ty K Sv).mono (Fr.same sm') (((tO ev.C_Survey (svN v_law_marks_here)) : Ty K Sv).ext (S := (p_law_late :: [b, c])) nD' (((tO ev.C_Survey (svN v_law_marks_here)) : Ty K Sv).mono (Fr.sub ts fr') h_law_survey)); have h_law_heads := ((tD Str tStr) : Ty K (List (Str × Str))).mono (Fr.same sm') (((tD Str tStr) : Ty K (List (Str × Str))).ext (S := (p_law_late :: [b, c])) nD' (((tD Str tStr) : Ty K (List (Str × Str))).mono (Fr.sub ts fr') h_law_heads)); have h_law_due := ((tL (tL tStr)) : Ty K (List (List Str))).mono (Fr.same sm') (((tL (tL tStr)) : Ty K (List (List Str))).ext (S := (p_law_late :: [b, c])) nD' (((tL (tL tStr)) : Ty K (List (List Str))).mono (Fr.sub ts fr') h_law_due)); have h_law_hanging_here := ((tL tStr) : Ty K (List Str)).mono (Fr.same sm') (((tL tStr) : Ty K (List Str)).ext (S := (p_law_late :: [b, c])) nD' (((tL tStr) : Ty K (List Str)).mono (Fr.sub ts fr') h_law_hanging_here)); have h_law_good := (tBool : Ty K Bool).mono (Fr.same sm') ((tBool : Ty K Bool).ext (S := (p_law_late :: [b, c])) nD' ((tBool : Ty K Bool).mono (Fr.sub ts fr') h_law_good)); have h_law_turn := (tInt : Ty K Int).mono (Fr.same sm') ((tInt : Ty K Int).ext (S := (p_law_late :: [b, c])) nD' ((tInt : Ty K Int).mono (Fr.sub ts fr') h_law_turn)); have ts0' := ts; have ts : Sub [] (p' :: (p_law_late :: [b, c])) := (fun a m => by simp at m);  have o_law_late := ((o_law_late.fr fr' ts0' nt_law_late).ext nD').same sm'; have nt_law_late : p_law_late ∉ [] := (by simp); exact (eb_test (K := K) (ev_op (od_notInD (K := K) dStr (Nat.le_of_ble_eq_true rfl)) (ev_var ts h_law_name_here rfl) (ev_var ts h_law_hanging_here rfl)))) (fun law_name_here_17 v_law_name_here H2' H' p' fr' nD' sm' h_law_name_here => by have h_law_marks_here := ((tD Str (tOpt (tT2 tInt tInt))) : Ty K (List (Str × (Option (Int × Int))))).mono (Fr.same sm') (((tD Str (tOpt (tT2 tInt tInt))) : Ty K (List (Str × (Option (Int × Int))))).ext (S := (p_law_late :: [b, c])) nD' (((tD Str (tOpt (tT2 tInt tInt))) : Ty K (List (Str × (Option (Int × Int))))).mono (Fr.sub ts fr') h_law_marks_here)); have h_law_readings_here := ((tD Int (tTu (aCons tStr (aCons tStr (aCons tInt (aCons tInt (aCons tInt aNil))))))) : Ty K (List (Int × (Str × Str × Int × Int × Int × Unit)))).mono (Fr.same sm') (((tD Int (tTu (aCons tStr (aCons tStr (aCons tInt (aCons tInt (aCons tInt aNil))))))) : Ty K (List (Int × (Str × Str × Int × Int × Int × Unit)))).ext (S := (p_law_late :: [b, c])) nD' (((tD Int (tTu (aCons tStr (aCons tStr (aCons tInt (aCons tInt (aCons tInt aNil))))))) : Ty K (List (Int × (Str × Str × Int × Int × Int × Unit)))).mono (Fr.sub ts fr') h_law_readings_here)); have h_law_survey := ((tO ev.C_Survey (svN v_law_marks_here)) : Ty K Sv).mono (Fr.same sm') (((tO ev.C_Survey (svN v_law_marks_here)) : Ty K Sv).ext (S := (p_law_late :: [b, c])) nD' (((tO ev.C_Survey (svN v_law_marks_here)) : Ty K Sv).mono (Fr.sub ts fr') h_law_survey)); have h_law_heads := ((tD Str tStr) : Ty K (List (Str × Str))).mono (Fr.same sm') (((tD Str tStr) : Ty K (List (Str × Str))).ext (S := (p_law_late :: [b, c])) nD' (((tD Str tStr) : Ty K (List (Str × Str))).mono (Fr.sub ts fr') h_law_heads)); have h_law_due := ((tL (tL tStr)) : Ty K (List (List Str))).mono (Fr.same sm') (((tL (tL tStr)) : Ty K (List (List Str))).ext (S := (p_law_late :: [b, c])) nD' (((tL (tL tStr)) : Ty K (List (List Str))).mono (Fr.sub ts fr') h_law_due)); have h_law_hanging_here := ((tL tStr) : Ty K (List Str)).mono (Fr.same sm') (((tL tStr) : Ty K (List Str)).ext (S := (p_law_late :: [b, c])) nD' (((tL tStr) : Ty K (List Str)).mono (Fr.sub ts fr') h_law_hanging_here)); have h_law_good := (tBool : Ty K Bool).mono (Fr.same sm') ((tBool : Ty K Bool).ext (S := (p_law_late :: [b, c])) nD' ((tBool : Ty K Bool).mono (Fr.sub ts fr') h_law_good)); have h_law_turn := (tInt : Ty K Int).mono (Fr.same sm') ((tInt : Ty K Int).ext (S := (p_law_late :: [b, c])) nD' ((tInt : Ty K Int).mono (Fr.sub ts fr') h_law_turn)); have ts0' := ts; have ts : Sub [] (p' :: (p_law_late :: [b, c])) := (fun a m => by simp at m);  have o_law_late := ((o_law_late.fr fr' ts0' nt_law_late).ext nD').same sm'; have nt_law_late : p_law_late ∉ [] := (by simp); exact (ev_var ts h_law_name_here rfl)))) e18 (fun v_law_gone H18 s18 h_law_gone => ?_)
    have fr0 := fr0.trans (Fr.same s18)
    have dm := dm.same s18
    have frl := frl.trans (Fr.same s18)
    have h_law_marks_here := ((tD Str (tOpt (tT2 tInt tInt))) : Ty K (List (Str × (Option (Int × Int))))).mono (S := (p_law_late :: [b, c])) (Fr.same s18) h_law_marks_here
    have h_law_readings_here := ((tD Int (tTu (aCons tStr (aCons tStr (aCons tInt (aCons tInt (aCons tInt aNil))))))) : Ty K (List (Int × (Str × Str × Int × Int × Int × Unit)))).mono (S := (p_law_late :: [b, c])) (Fr.same s18) h_law_readings_here
    have h_law_survey := ((tO ev.C_Survey (svN v_law_marks_here)) : Ty K Sv).mono (S := (p_law_late :: [b, c])) (Fr.same s18) h_law_survey
    have h_law_heads := ((tD Str tStr) : Ty K (List (Str × Str))).mono (S := (p_law_late :: [b, c])) (Fr.same s18) h_law_heads
    have h_law_due := ((tL (tL tStr)) : Ty K (List (List Str))).mono (S := (p_law_late :: [b, c])) (Fr.same s18) h_law_due
    have h_law_hanging_here := ((tL tStr) : Ty K (List Str)).mono (S := (p_law_late :: [b, c])) (Fr.same s18) h_law_hanging_here
    have h_law_good := (tBool : Ty K Bool).mono (S := (p_law_late :: [b, c])) (Fr.same s18) h_law_good
    have h_law_turn := (tInt : Ty K Int).mono (S := (p_law_late :: [b, c])) (Fr.same s18) h_law_turn
    have o_law_late := o_law_late.same s18
    have hB := hB.same s18
    have h_law_gone : ((tL tStr) : Ty K (List Str)).rp (p_law_late :: [b, c]) H18 v_law_gone law_gone_18 := h_law_gone
    refine qw_asg dm hB ts (ew_and (ew_pure (ev_var ts h_law_good rfl)) (ew_sameL (sm_L sm_str) o_law_late nt_law_late rfl (ew_pure (ev_var ts h_law_gone rfl)))) hm (fun v_law_good H19 law_good_19 hm fr19 dm19 hB19 h_law_good => ?_)
    have fr0 := fr0.trans fr19
    have frl := frl.trans (fr19.sub tsl)
    have h_law_marks_here := ((tD Str (tOpt (tT2 tInt tInt))) : Ty K (List (Str × (Option (Int × Int))))).mono (S := (p_law_late :: [b, c])) (fr19.sub ts) h_law_marks_here
    have h_law_readings_here := ((tD Int (tTu (aCons tStr (aCons tStr (aCons tInt (aCons tInt (aCons tInt aNil))))))) : Ty K (List (Int × (Str × Str × Int × Int × Int × Unit)))).mono (S := (p_law_late :: [b, c])) (fr19.sub ts) h_law_readings_here
    have h_law_survey := ((tO ev.C_Survey (svN v_law_marks_here)) : Ty K Sv).mono (S := (p_law_late :: [b, c])) (fr19.sub ts) h_law_survey
    have h_law_heads := ((tD Str tStr) : Ty K (List (Str × Str))).mono (S := (p_law_late :: [b, c])) (fr19.sub ts) h_law_heads
    have h_law_due := ((tL (tL tStr)) : Ty K (List (List Str))).mono (S := (p_law_late :: [b, c])) (fr19.sub ts) h_law_due
    have h_law_hanging_here := ((tL tStr) : Ty K (List Str)).mono (S := (p_law_late :: [b, c])) (fr19.sub ts) h_law_hanging_here
    have h_law_turn := (tInt : Ty K Int).mono (S := (p_law_late :: [b, c])) (fr19.sub ts) h_law_turn
    have o_law_late := o_law_late.fr fr19 ts nt_law_late
    have h_law_gone := ((tL tStr) : Ty K (List Str)).mono (S := (p_law_late :: [b, c])) (fr19.sub ts) h_law_gone
    have dm := dm19
    have hB := hB19
    have h_law_good : (tBool : Ty K Bool).rp (p_law_late :: [b, c]) H19 v_law_good law_good_19 := h_law_good
    obtain ⟨u20, eu20, hm⟩ := hm
    refine l_spoil dm o_law_late im_law_late rfl eu20 (fun H20 s20 frx20 => ?_)
    have fr0 := fr0.mut hB.dom n0_law_late s20
    have frl := frl.mutN nl_law_late s20
    have dm := dm.fx frx20 s20
    have h_law_marks_here := ((tD Str (tOpt (tT2 tInt tInt))) : Ty K (List (Str × (Option (Int × Int))))).mono (S := (p_law_late :: [b, c])) frx20 h_law_marks_here
    have h_law_readings_here := ((tD Int (tTu (aCons tStr (aCons tStr (aCons tInt (aCons tInt (aCons tInt aNil))))))) : Ty K (List (Int × (Str × Str × Int × Int × Int × Unit)))).mono (S := (p_law_late :: [b, c])) frx20 h_law_readings_here
    have h_law_survey := ((tO ev.C_Survey (svN v_law_marks_here)) : Ty K Sv).mono (S := (p_law_late :: [b, c])) frx20 h_law_survey
    have h_law_heads := ((tD Str tStr) : Ty K (List (Str × Str))).mono (S := (p_law_late :: [b, c])) frx20 h_law_heads
    have h_law_due := ((tL (tL tStr)) : Ty K (List (List Str))).mono (S := (p_law_late :: [b, c])) frx20 h_law_due
    have h_law_hanging_here := ((tL tStr) : Ty K (List Str)).mono (S := (p_law_late :: [b, c])) frx20 h_law_hanging_here
    have h_law_turn := (tInt : Ty K Int).mono (S := (p_law_late :: [b, c])) frx20 h_law_turn
    have h_law_gone := ((tL tStr) : Ty K (List Str)).mono (S := (p_law_late :: [b, c])) frx20 h_law_gone
    have h_law_good := (tBool : Ty K Bool).mono (S := (p_law_late :: [b, c])) frx20 h_law_good
    have hB := hB.mut s20 nt_law_late
    obtain ⟨pz_law_late, epz⟩ : ∃ q, q = p_law_late := ⟨_, rfl⟩
    subst epz
    have sbl : Sub [b, c] (pz_law_late :: [b, c]) := sub_cons (fun a m => m)
    have dm := dm.sub sbl
    have h_law_marks_here := ((tD Str (tOpt (tT2 tInt tInt))) : Ty K (List (Str × (Option (Int × Int))))).sub sbl h_law_marks_here
    have h_law_readings_here := ((tD Int (tTu (aCons tStr (aCons tStr (aCons tInt (aCons tInt (aCons tInt aNil))))))) : Ty K (List (Int × (Str × Str × Int × Int × Int × Unit)))).sub sbl h_law_readings_here
    have h_law_survey := ((tO ev.C_Survey (svN v_law_marks_here)) : Ty K Sv).sub sbl h_law_survey
    have h_law_heads := ((tD Str tStr) : Ty K (List (Str × Str))).sub sbl h_law_heads
    have h_law_due := ((tL (tL tStr)) : Ty K (List (List Str))).sub sbl h_law_due
    have h_law_hanging_here := ((tL tStr) : Ty K (List Str)).sub sbl h_law_hanging_here
    exact ⟨_, hm, frl, ⟨v_law_marks_here, v_law_readings_here, v_law_survey, v_law_heads, v_law_hanging_here, v_law_good, _, _, _, _, _, _, _, rfl, fr0, dm, hB, h_law_marks_here, h_law_readings_here, h_law_survey, h_law_heads, h_law_due, h_law_hanging_here, h_law_good⟩⟩
  obtain ⟨v_law_marks_here, v_law_readings_here, v_law_survey, v_law_heads, v_law_hanging_here, v_law_good, f_7, f_10, f_11, f_12, f_13, f_14, f_15, rfl, fr0, dm, hB, h_law_marks_here, h_law_readings_here, h_law_survey, h_law_heads, h_law_due, h_law_hanging_here, h_law_good⟩ := hI
  refine qw_for_k (ck := (tStr : Ty K Str)) dm h_law_marks_here rfl hm (fun p_law_marks_here od_law_marks_here kv_law_marks_here s_21 σ' H' => ∃ v_law_good : V, ∃ f_7 : Option V, ∃ f_10 : Option V, ∃ f_11 : Option V, ∃ f_12 : Option V, ∃ f_13 : Option V, ∃ f_14 : Option V, ∃ f_15 : Option V, σ' = [some (.ref a0), some (.ref b), some (.ref p_law_marks_here), some v_law_readings_here, some v_law_survey, some v_law_heads, some (.ref p_law_due), f_7, some v_law_hanging_here, some v_law_good, f_10, f_11, f_12, f_13, f_14, f_15] ∧ Fr (p_law_marks_here :: [b, c]) H0 H' ∧ Dom (p_law_marks_here :: [b, c]) H' ∧ Bag H' b c ∧ LkD ((tOpt (tT2 tInt tInt)) : Ty K (Option (Int × Int))) (p_law_marks_here :: [b, c]) H' p_law_marks_here od_law_marks_here kv_law_marks_here law_marks_here_1 ∧ ((tO ev.C_Survey (svN (.ref p_law_marks_here))) : Ty K Sv).rp (p_law_marks_here :: [b, c]) H' v_law_survey law_survey_3 ∧ ((tL (tL tStr)) : Ty K (List (List Str))).rp (p_law_marks_here :: [b, c]) H' (.ref p_law_due) t_6 ∧ ((tL tStr) : Ty K (List Str)).rp (p_law_marks_here :: [b, c]) H' v_law_hanging_here law_hanging_here_11 ∧ (tBool : Ty K Bool).rp (p_law_marks_here :: [b, c]) H' v_law_good s_21) (fun p_law_marks_here od_law_marks_here kv_law_marks_here Hl21 ev21 hp21 np21 eHl21 o_law_marks_here => ?_) (fun p_law_marks_here od_law_marks_here kv_law_marks_here s_21 σ' H' hI => ?_) (fun p_law_marks_here od_law_marks_here kv_law_marks_here s_21 law_name_here_21 C21 v_law_name_here σ' H' ev21 np21 hI h_law_name_here hm => ?_) (fun p_law_marks_here od_law_marks_here kv_law_marks_here t_21 σ' H' ev21 np21 hp21 fru21 hl21 hm hI => ?_)
  · skip
    subst ev21
    subst eHl21
    have nt_law_marks_here : p_law_marks_here ∉ [b, c] := fun m => np21 (ts _ m)
    have h_law_survey := on_lock (o := .frz od_law_marks_here (.dK kv_law_marks_here)) hp21 h_law_survey
    have h_law_due := DL.h (a := ((tL (tL tStr)) : Ty K (List (List Str)))) (o := .frz od_law_marks_here (.dK kv_law_marks_here)) hp21 rfl h_law_due
    have h_law_hanging_here := DL.h (a := ((tL tStr) : Ty K (List Str))) (o := .frz od_law_marks_here (.dK kv_law_marks_here)) hp21 rfl h_law_hanging_here
    have h_law_good := DL.h (a := (tBool : Ty K Bool)) (o := .frz od_law_marks_here (.dK kv_law_marks_here)) hp21 rfl h_law_good
    have fr0 := fr_lock (p := p_law_marks_here) (o := .frz od_law_marks_here (.dK kv_law_marks_here)) fr0
    have dm := (Dom.upd (p := p_law_marks_here) (o := .frz od_law_marks_here (.dK kv_law_marks_here)) dm).cons upd_same
    have hB := hB.mut (mut_upd (o := .frz od_law_marks_here (.dK kv_law_marks_here))) nt_law_marks_here
    exact ⟨v_law_good, _, _, _, _, _, _, _, rfl, fr0, dm, hB, o_law_marks_here, h_law_survey, h_law_due, h_law_hanging_here, h_law_good⟩
  · skip
    obtain ⟨v_law_good, f_7, f_10, f_11, f_12, f_13, f_14, f_15, rfl, fr0, dm, hB, o_law_marks_here, h_law_survey, h_law_due, h_law_hanging_here, h_law_good⟩ := hI
    exact o_law_marks_here.1
  · skip
    subst ev21
    obtain ⟨v_law_good, f_7, f_10, f_11, f_12, f_13, f_14, f_15, rfl, fr0, dm, hB, o_law_marks_here, h_law_survey, h_law_due, h_law_hanging_here, h_law_good⟩ := hI
    have nt_law_marks_here : p_law_marks_here ∉ [b, c] := fun m => np21 (ts _ m)
    have im_law_marks_here : p_law_marks_here ∈ (p_law_marks_here :: [b, c]) := List.mem_cons_self ..
    have ts := sub_cons (p := p_law_marks_here) ts
    have sub0 := sub_cons (p := p_law_marks_here) sub0
    have tt0 : Sub [b, c] (p_law_marks_here :: [b, c]) := fun a m => List.mem_cons_of_mem _ m
    let HL := H'
    have freshl : ∀ a ∈ (p_law_marks_here :: [b, c]), a ∉ (p_law_marks_here :: [b, c]) → H' a = none := fun a m n => absurd m n
    have frl : Fr (p_law_marks_here :: [b, c]) HL H' := Fr.refl (T := (p_law_marks_here :: [b, c])) H'
    have tsl := ts
    have subl : Sub (p_law_marks_here :: [b, c]) (p_law_marks_here :: [b, c]) := fun a m => m
    have iml_law_marks_here := im_law_marks_here
    have h_law_name_here : (tStr : Ty K Str).rp (p_law_marks_here :: [b, c]) H' v_law_name_here law_name_here_21 := h_law_name_here
    refine lw_asg dm hB ts (ew_and (ew_pure (ev_var ts h_law_good rfl)) (ew_sameR (smr_of sm_bool) (ew_pure (ev_getL (ev_call (ea_cons (ev_unN (ev_var ts h_law_survey rfl)) (ea_cons (ev_var ts h_law_name_here rfl) ea_nil))))) (ew_pure (ev_op (od_inD (K := K) dStr (Nat.le_of_ble_eq_true rfl)) (ev_var ts h_law_name_here rfl) (ev_var ts h_law_hanging_here rfl))))) hm (fun v_law_good H22 law_good_22 hm fr22 dm22 hB22 h_law_good => ?_)
    have fr0 := fr0.trans (fr22.sub tt0)
    have frl := frl.trans (fr22.sub tsl)
    have o_law_marks_here := o_law_marks_here.fr fr22 ts nt_law_marks_here
    have h_law_survey := ((tO ev.C_Survey (svN (.ref p_law_marks_here))) : Ty K Sv).mono (S := (p_law_marks_here :: [b, c])) (fr22.sub ts) h_law_survey
    have h_law_due := ((tL (tL tStr)) : Ty K (List (List Str))).mono (S := (p_law_marks_here :: [b, c])) (fr22.sub ts) h_law_due
    have h_law_hanging_here := ((tL tStr) : Ty K (List Str)).mono (S := (p_law_marks_here :: [b, c])) (fr22.sub ts) h_law_hanging_here
    have h_law_name_here := (tStr : Ty K Str).mono (S := (p_law_marks_here :: [b, c])) (fr22.sub ts) h_law_name_here
    have dm := dm22
    have hB := hB22
    have h_law_good : (tBool : Ty K Bool).rp (p_law_marks_here :: [b, c]) H22 v_law_good law_good_22 := h_law_good
    exact ⟨_, hm, frl, ⟨v_law_good, _, _, _, _, _, _, _, rfl, fr0, dm, hB, o_law_marks_here, h_law_survey, h_law_due, h_law_hanging_here, h_law_good⟩⟩
  subst ev21
  have fr0b := fr0
  have hb_law_marks_here := h_law_marks_here
  have hb_law_readings_here := h_law_readings_here
  have hb_law_survey := h_law_survey
  have hb_law_heads := h_law_heads
  have hb_law_due := h_law_due
  have hb_law_hanging_here := h_law_hanging_here
  obtain ⟨v_law_good, f_7, f_10, f_11, f_12, f_13, f_14, f_15, rfl, fr0, dm, hB, o_law_marks_here, h_law_survey, h_law_due, h_law_hanging_here, h_law_good⟩ := hI
  have nt_law_marks_here : p_law_marks_here ∉ [b, c] := fun m => np21 (ts _ m)
  have fr0 := fr_unl fr0b hp21 nt_law_marks_here fr0
  have dm := Dom.upd (p := p_law_marks_here) (o := .dK kv_law_marks_here) (dm.sub (fun a m => List.mem_cons_of_mem _ m))
  have hB := hB.mut (mut_upd (o := .dK kv_law_marks_here)) nt_law_marks_here
  have h_law_marks_here := ((tD Str (tOpt (tT2 tInt tInt))) : Ty K (List (Str × (Option (Int × Int))))).mono fru21 hb_law_marks_here
  have h_law_readings_here := ((tD Int (tTu (aCons tStr (aCons tStr (aCons tInt (aCons tInt (aCons tInt aNil))))))) : Ty K (List (Int × (Str × Str × Int × Int × Int × Unit)))).mono fru21 hb_law_readings_here
  have h_law_survey := ((tO ev.C_Survey (svN (.ref p_law_marks_here))) : Ty K Sv).mono fru21 hb_law_survey
  have h_law_heads := ((tD Str tStr) : Ty K (List (Str × Str))).mono fru21 hb_law_heads
  have h_law_due := ((tL (tL tStr)) : Ty K (List (List Str))).mono fru21 hb_law_due
  have h_law_hanging_here := ((tL tStr) : Ty K (List Str)).mono fru21 hb_law_hanging_here
  have h_law_good := DL.unl (a := (tBool : Ty K Bool)) hl21 h_law_good
  exact qw_ret dm hB ts (ew_and (ew_pure (ev_var ts h_law_good rfl)) (ew_sameR (smr_of sm_str) (ew_pure (ev_getR (ev_call (ea_cons (ev_unN (ev_var ts h_law_survey rfl)) (ea_cons (ev_str (K := K)) ea_nil))))) (ew_pure (ev_str (K := K))))) hm (fun v H25 z hm fr25 dm25 hB25 hv => q v H25 z hm (fr0.trans fr25) hB25 ((tBool : Ty K Bool).sub (S := [b, c]) (H := H25) sub0 hv))
end
end G

namespace G
open PySem L2 M
structure Put (K : PySem.W.Frag) (name : String) (st : Stmt) (f : Addr) : Prop where
  a : PySem.W.nsIn K mainGlobals (Str.ofString name) = some (some (.ref f))
  l : ∃ (oc : Value) (od : Option Addr) (kV dc pm : Value) (an : Option Addr) (cd ct : Value) (sl : Array (Option Value)), K.lookup f = some ⟨oc, od, .func (PySem.W.fnOf (Str.ofString name) (Str.ofString name) (defArgs st) (defBody st) (defScope st) .none kV dc pm an cd ct), sl⟩ ∧ PySem.W.codeIn K cd (Str.ofString name) = true
  k : PySem.W.keepIn K (.ref f) = true
theorem put_mk {K : PySem.W.Frag} {name : String} {st : Stmt} {f : Addr} {oc : Value} {od : Option Addr} {kV dc pm : Value} {an : Option Addr} {cd ct : Value} {sl : Array (Option Value)} (a : PySem.W.nsIn K mainGlobals (Str.ofString name) = some (some (.ref f)))
    (l : K.lookup f = some ⟨oc, od, .func (PySem.W.fnOf (Str.ofString name) (Str.ofString name) (defArgs st) (defBody st) (defScope st) .none kV dc pm an cd ct), sl⟩) (c : PySem.W.codeIn K cd (Str.ofString name) = true) (k : PySem.W.keepIn K (.ref f) = true) : Put K name st f :=
  ⟨a, ⟨oc, od, kV, dc, pm, an, cd, ct, sl, l, c⟩, k⟩
structure PutM (K : PySem.W.Frag) (C : Addr) (name qual : String) (st : Stmt) (f : Addr) : Prop where
  me : Meth K C (Str.ofString name) f
  l : ∃ (oc : Value) (od : Option Addr) (kV dc pm : Value) (an : Option Addr) (cd ct : Value) (sl : Array (Option Value)), K.lookup f = some ⟨oc, od, .func (PySem.W.fnOf (Str.ofString name) (Str.ofString qual) (defArgs st) (defBody st) (defScope st) .none kV dc pm an cd ct), sl⟩ ∧ PySem.W.codeIn K cd (Str.ofString qual) = true
theorem putM_mk {K : PySem.W.Frag} {C : Addr} {name qual : String} {st : Stmt} {f : Addr} {oc : Value} {od : Option Addr} {kV dc pm : Value} {an : Option Addr} {cd ct : Value} {sl : Array (Option Value)} (a : PySem.W.findIn K (.ref C) (Str.ofString name) = some (some (.ref f))) (i : PySem.W.isFn K (.ref f) = true)
    (l : K.lookup f = some ⟨oc, od, .func (PySem.W.fnOf (Str.ofString name) (Str.ofString qual) (defArgs st) (defBody st) (defScope st) .none kV dc pm an cd ct), sl⟩) (c : PySem.W.codeIn K cd (Str.ofString qual) = true) (k : PySem.W.keepIn K (.ref f) = true) : PutM K C name qual st f :=
  ⟨⟨a, i, k⟩, ⟨oc, od, kV, dc, pm, an, cd, ct, sl, l, c⟩⟩
theorem all_mk {l : PySem.W.OpenLaw} {w : World} {K : PySem.W.Frag} {h : Heap} {mg : Str → Option Value} {fa f_is_word f_is_name f_is_within f_check_name f_check_number f_check_place f_check_reading f_neighbours f_reached f_Survey___init__ f_Survey_names f_Survey_hangs f_Survey_pieces f_Survey_loose f_law_bag f_law_draw f_law_whole f_law_same f_law_any f_law_spoil f_law_name f_law_names f_law_marks f_law_readings f_law_tied f_law_hanging f_law_hang f_law C_Survey C_NoMark : Addr} {t1 t2 t3 t4 t5 : Tok} (X : K.In h) (G : h.Ns mainGlobals mg) (hfa : mg "law" = some (.ref fa))
    (p_is_word : Put K "is_word" s_is_word f_is_word)
    (p_is_name : Put K "is_name" s_is_name f_is_name)
    (p_is_within : Put K "is_within" s_is_within f_is_within)
    (p_check_name : Put K "check_name" s_check_name f_check_name)
    (p_check_number : Put K "check_number" s_check_number f_check_number)
    (p_check_place : Put K "check_place" s_check_place f_check_place)
    (p_check_reading : Put K "check_reading" s_check_reading f_check_reading)
    (p_neighbours : Put K "neighbours" s_neighbours f_neighbours)
    (p_reached : Put K "reached" s_reached f_reached)
    (p_Survey___init__ : PutM K C_Survey "__init__" "Survey.__init__" s_Survey___init__ f_Survey___init__)
    (p_Survey_names : PutM K C_Survey "names" "Survey.names" s_Survey_names f_Survey_names)
    (p_Survey_hangs : PutM K C_Survey "hangs" "Survey.hangs" s_Survey_hangs f_Survey_hangs)
    (p_Survey_pieces : PutM K C_Survey "pieces" "Survey.pieces" s_Survey_pieces f_Survey_pieces)
    (p_Survey_loose : PutM K C_Survey "loose" "Survey.loose" s_Survey_loose f_Survey_loose)
    (p_law_bag : Put K "_law_bag" s_law_bag f_law_bag)
    (p_law_draw : Put K "_law_draw" s_law_draw f_law_draw)
    (p_law_whole : Put K "_law_whole" s_law_whole f_law_whole)
    (p_law_same : Put K "_law_same" s_law_same f_law_same)
    (p_law_any : Put K "_law_any" s_law_any f_law_any)
    (p_law_spoil : Put K "_law_spoil" s_law_spoil f_law_spoil)
    (p_law_name : Put K "_law_name" s_law_name f_law_name)
    (p_law_names : Put K "_law_names" s_law_names f_law_names)
    (p_law_marks : Put K "_law_marks" s_law_marks f_law_marks)
    (p_law_readings : Put K "_law_readings" s_law_readings f_law_readings)
    (p_law_tied : Put K "_law_tied" s_law_tied f_law_tied)
    (p_law_hanging : Put K "_law_hanging" s_law_hanging f_law_hanging)
    (p_law_hang : Put K "_law_hang" s_law_hang f_law_hang)
    (p_law : Put K "law" s_law f_law)
    (aS : PySem.W.nsIn K mainGlobals "Survey" = some (some (.ref C_Survey)))
    (pgS : PySem.W.plainGet K C_Survey Str.empty = true)
    (hdS : PySem.W.hasDictIn K C_Survey = true)
    (poS : PySem.W.plainOver K C_Survey = true)
    (saS : PySem.W.findIn K (.ref C_Survey) "__setattr__" = some (some (.builtin "object.__setattr__")))
    (mkS_ : PySem.W.makesIn K C_Survey = true)
    (kcS : PySem.W.keepIn K (.ref C_Survey) = true)
    (n_own_marks : PySem.W.findIn K (.ref C_Survey) "own_marks" = some none)
    (n_own_readings : PySem.W.findIn K (.ref C_Survey) "own_readings" = some none)
    (cM : PySem.W.nsIn K mainGlobals "MOST" = some (some (.int 999 t1)))
    (cL : PySem.W.nsIn K mainGlobals "LEAST_WEIGHT" = some (some (.int 1 t2)))
    (cW : PySem.W.nsIn K mainGlobals "MOST_WEIGHT" = some (some (.int 9 t3)))
    (cG : PySem.W.nsIn K mainGlobals "LONGEST" = some (some (.int 6 t4)))
    (cT : PySem.W.nsIn K mainGlobals "LETTERS" = some (some (.str "abcdefghijklmnopqrstuvwxyz" t5)))
    (g_NoMark : PySem.W.nsIn K mainGlobals "NoMark" = some (some (.ref C_NoMark)))
    (e_NoMark : SupL l.prog K "NoMark" "name" C_NoMark)
    (xm_NM : PySem.W.exmOne K (.ref C_NoMark) (.ref C_NoMark) = some true)
    (z_len : PySem.W.nsIn K mainGlobals "len" = some none)
    (z_min : PySem.W.nsIn K mainGlobals "min" = some none)
    (z_set : PySem.W.nsIn K mainGlobals "set" = some none)
    (z_list : PySem.W.nsIn K mainGlobals "list" = some none)
    (z_isinstance : PySem.W.nsIn K mainGlobals "isinstance" = some none)
    (z_int : PySem.W.nsIn K mainGlobals "int" = some none)
    (z_bool : PySem.W.nsIn K mainGlobals "bool" = some none)
    (z_str : PySem.W.nsIn K mainGlobals "str" = some none)
    (z_dict : PySem.W.nsIn K mainGlobals "dict" = some none)
    (z_tuple : PySem.W.nsIn K mainGlobals "tuple" = some none)
    (z_all : PySem.W.nsIn K mainGlobals "all" = some none)
    (z_range : PySem.W.nsIn K mainGlobals "range" = some none)
    (z_sorted : PySem.W.nsIn K mainGlobals "sorted" = some none)
    (z_max : PySem.W.nsIn K mainGlobals "max" = some none)
    (z_repr : PySem.W.nsIn K mainGlobals "repr" = some none)
    (z_sum : PySem.W.nsIn K mainGlobals "sum" = some none)
    (z_super : PySem.W.nsIn K mainGlobals "super" = some none) :
    ∃ fd : FuncData, (∀ (s : Shared) (v : Value), BindsTo s fd ⟨[v], []⟩ [("_law_script", v)]) ∧ ∀ base : Heap, K.In base → base.Ns mainGlobals mg → FnOk l.prog w K mg base CX0 12 fa fd ["_law_script"] (spLaw K) := by
  have e := hfa.symm.trans (PySem.W.mg_of X G p_law.a)
  cases e
  obtain ⟨a_is_word, ⟨oc_is_word, od_is_word, kV_is_word, dc_is_word, pm_is_word, an_is_word, cd_is_word, ct_is_word, sl_is_word, l_is_word, c_is_word⟩, k_is_word⟩ := p_is_word
  have F_is_word := fun_mk (st := s_is_word) l_is_word c_is_word k_is_word
  have b_is_word := F_is_word.binds (ps := p_is_word) fun _ _ _ _ _ _ us hl => match us, hl with | [_], _ => rfl
  obtain ⟨a_is_name, ⟨oc_is_name, od_is_name, kV_is_name, dc_is_name, pm_is_name, an_is_name, cd_is_name, ct_is_name, sl_is_name, l_is_name, c_is_name⟩, k_is_name⟩ := p_is_name
  have F_is_name := fun_mk (st := s_is_name) l_is_name c_is_name k_is_name
  have b_is_name := F_is_name.binds (ps := p_is_name) fun _ _ _ _ _ _ us hl => match us, hl with | [_], _ => rfl
  obtain ⟨a_is_within, ⟨oc_is_within, od_is_within, kV_is_within, dc_is_within, pm_is_within, an_is_within, cd_is_within, ct_is_within, sl_is_within, l_is_within, c_is_within⟩, k_is_within⟩ := p_is_within
  have F_is_within := fun_mk (st := s_is_within) l_is_within c_is_within k_is_within
  have b_is_within := F_is_within.binds (ps := p_is_within) fun _ _ _ _ _ _ us hl => match us, hl with | [_, _, _], _ => rfl
  obtain ⟨a_check_name, ⟨oc_check_name, od_check_name, kV_check_name, dc_check_name, pm_check_name, an_check_name, cd_check_name, ct_check_name, sl_check_name, l_check_name, c_check_name⟩, k_check_name⟩ := p_check_name
  have F_check_name := fun_mk (st := s_check_name) l_check_name c_check_name k_check_name
  have b_check_name := F_check_name.binds (ps := p_check_name) fun _ _ _ _ _ _ us hl => match us, hl with | [_], _ => rfl
  obtain ⟨a_check_number, ⟨oc_check_number, od_check_number, kV_check_number, dc_check_number, pm_check_number, an_check_number, cd_check_number, ct_check_number, sl_check_number, l_check_number, c_check_number⟩, k_check_number⟩ := p_check_number
  have F_check_number := fun_mk (st := s_check_number) l_check_number c_check_number k_check_number
  have b_check_number := F_check_number.binds (ps := p_check_number) fun _ _ _ _ _ _ us hl => match us, hl with | [_, _, _], _ => rfl
  obtain ⟨a_check_place, ⟨oc_check_place, od_check_place, kV_check_place, dc_check_place, pm_check_place, an_check_place, cd_check_place, ct_check_place, sl_check_place, l_check_place, c_check_place⟩, k_check_place⟩ := p_check_place
  have F_check_place := fun_mk (st := s_check_place) l_check_place c_check_place k_check_place
  have b_check_place := F_check_place.binds (ps := p_check_place) fun _ _ _ _ _ _ us hl => match us, hl with | [_], _ => rfl
  obtain ⟨a_check_reading, ⟨oc_check_reading, od_check_reading, kV_check_reading, dc_check_reading, pm_check_reading, an_check_reading, cd_check_reading, ct_check_reading, sl_check_reading, l_check_reading, c_check_reading⟩, k_check_reading⟩ := p_check_reading
  have F_check_reading := fun_mk (st := s_check_reading) l_check_reading c_check_reading k_check_reading
  have b_check_reading := F_check_reading.binds (ps := p_check_reading) fun _ _ _ _ _ _ us hl => match us, hl with | [_, _, _], _ => rfl
  obtain ⟨a_neighbours, ⟨oc_neighbours, od_neighbours, kV_neighbours, dc_neighbours, pm_neighbours, an_neighbours, cd_neighbours, ct_neighbours, sl_neighbours, l_neighbours, c_neighbours⟩, k_neighbours⟩ := p_neighbours
  have F_neighbours := fun_mk (st := s_neighbours) l_neighbours c_neighbours k_neighbours
  have b_neighbours := F_neighbours.binds (ps := p_neighbours) fun _ _ _ _ _ _ us hl => match us, hl with | [_, _], _ => rfl
  obtain ⟨a_reached, ⟨oc_reached, od_reached, kV_reached, dc_reached, pm_reached, an_reached, cd_reached, ct_reached, sl_reached, l_reached, c_reached⟩, k_reached⟩ := p_reached
  have F_reached := fun_mk (st := s_reached) l_reached c_reached k_reached
  have b_reached := F_reached.binds (ps := p_reached) fun _ _ _ _ _ _ us hl => match us, hl with | [_, _], _ => rfl
  obtain ⟨me_Survey___init__, ⟨oc_Survey___init__, od_Survey___init__, kV_Survey___init__, dc_Survey___init__, pm_Survey___init__, an_Survey___init__, cd_Survey___init__, ct_Survey___init__, sl_Survey___init__, l_Survey___init__, c_Survey___init__⟩⟩ := p_Survey___init__
  have F_Survey___init__ := fun_mk (st := s_Survey___init__) l_Survey___init__ c_Survey___init__ me_Survey___init__.kp
  have b_Survey___init__ := F_Survey___init__.binds (ps := p_Survey___init__) fun _ _ _ _ _ _ us hl => match us, hl with | [_, _, _], _ => rfl
  obtain ⟨me_Survey_names, ⟨oc_Survey_names, od_Survey_names, kV_Survey_names, dc_Survey_names, pm_Survey_names, an_Survey_names, cd_Survey_names, ct_Survey_names, sl_Survey_names, l_Survey_names, c_Survey_names⟩⟩ := p_Survey_names
  have F_Survey_names := fun_mk (st := s_Survey_names) l_Survey_names c_Survey_names me_Survey_names.kp
  have b_Survey_names := F_Survey_names.binds (ps := p_Survey_names) fun _ _ _ _ _ _ us hl => match us, hl with | [_], _ => rfl
  obtain ⟨me_Survey_hangs, ⟨oc_Survey_hangs, od_Survey_hangs, kV_Survey_hangs, dc_Survey_hangs, pm_Survey_hangs, an_Survey_hangs, cd_Survey_hangs, ct_Survey_hangs, sl_Survey_hangs, l_Survey_hangs, c_Survey_hangs⟩⟩ := p_Survey_hangs
  have F_Survey_hangs := fun_mk (st := s_Survey_hangs) l_Survey_hangs c_Survey_hangs me_Survey_hangs.kp
  have b_Survey_hangs := F_Survey_hangs.binds (ps := p_Survey_hangs) fun _ _ _ _ _ _ us hl => match us, hl with | [_, _], _ => rfl
  obtain ⟨me_Survey_pieces, ⟨oc_Survey_pieces, od_Survey_pieces, kV_Survey_pieces, dc_Survey_pieces, pm_Survey_pieces, an_Survey_pieces, cd_Survey_pieces, ct_Survey_pieces, sl_Survey_pieces, l_Survey_pieces, c_Survey_pieces⟩⟩ := p_Survey_pieces
  have F_Survey_pieces := fun_mk (st := s_Survey_pieces) l_Survey_pieces c_Survey_pieces me_Survey_pieces.kp
  have b_Survey_pieces := F_Survey_pieces.binds (ps := p_Survey_pieces) fun _ _ _ _ _ _ us hl => match us, hl with | [_], _ => rfl
  obtain ⟨me_Survey_loose, ⟨oc_Survey_loose, od_Survey_loose, kV_Survey_loose, dc_Survey_loose, pm_Survey_loose, an_Survey_loose, cd_Survey_loose, ct_Survey_loose, sl_Survey_loose, l_Survey_loose, c_Survey_loose⟩⟩ := p_Survey_loose
  have F_Survey_loose := fun_mk (st := s_Survey_loose) l_Survey_loose c_Survey_loose me_Survey_loose.kp
  have b_Survey_loose := F_Survey_loose.binds (ps := p_Survey_loose) fun _ _ _ _ _ _ us hl => match us, hl with | [_], _ => rfl
  obtain ⟨a_law_bag, ⟨oc_law_bag, od_law_bag, kV_law_bag, dc_law_bag, pm_law_bag, an_law_bag, cd_law_bag, ct_law_bag, sl_law_bag, l_law_bag, c_law_bag⟩, k_law_bag⟩ := p_law_bag
  have F_law_bag := fun_mk (st := s_law_bag) l_law_bag c_law_bag k_law_bag
  have b_law_bag := F_law_bag.binds (ps := p_law_bag) fun _ _ _ _ _ _ us hl => match us, hl with | [_], _ => rfl
  obtain ⟨a_law_draw, ⟨oc_law_draw, od_law_draw, kV_law_draw, dc_law_draw, pm_law_draw, an_law_draw, cd_law_draw, ct_law_draw, sl_law_draw, l_law_draw, c_law_draw⟩, k_law_draw⟩ := p_law_draw
  have F_law_draw := fun_mk (st := s_law_draw) l_law_draw c_law_draw k_law_draw
  have b_law_draw := F_law_draw.binds (ps := p_law_draw) fun _ _ _ _ _ _ us hl => match us, hl with | [_, _], _ => rfl
  obtain ⟨a_law_whole, ⟨oc_law_whole, od_law_whole, kV_law_whole, dc_law_whole, pm_law_whole, an_law_whole, cd_law_whole, ct_law_whole, sl_law_whole, l_law_whole, c_law_whole⟩, k_law_whole⟩ := p_law_whole
  have F_law_whole := fun_mk (st := s_law_whole) l_law_whole c_law_whole k_law_whole
  have b_law_whole := F_law_whole.binds (ps := p_law_whole) fun _ _ _ _ _ _ us hl => match us, hl with | [_], _ => rfl
  obtain ⟨a_law_same, ⟨oc_law_same, od_law_same, kV_law_same, dc_law_same, pm_law_same, an_law_same, cd_law_same, ct_law_same, sl_law_same, l_law_same, c_law_same⟩, k_law_same⟩ := p_law_same
  have F_law_same := fun_mk (st := s_law_same) l_law_same c_law_same k_law_same
  have b_law_same := F_law_same.binds (ps := p_law_same) fun _ _ _ _ _ _ us hl => match us, hl with | [_, _], _ => rfl
  obtain ⟨a_law_any, ⟨oc_law_any, od_law_any, kV_law_any, dc_law_any, pm_law_any, an_law_any, cd_law_any, ct_law_any, sl_law_any, l_law_any, c_law_any⟩, k_law_any⟩ := p_law_any
  have F_law_any := fun_mk (st := s_law_any) l_law_any c_law_any k_law_any
  have b_law_any := F_law_any.binds (ps := p_law_any) fun _ _ _ _ _ _ us hl => match us, hl with | [_, _], _ => rfl
  obtain ⟨a_law_spoil, ⟨oc_law_spoil, od_law_spoil, kV_law_spoil, dc_law_spoil, pm_law_spoil, an_law_spoil, cd_law_spoil, ct_law_spoil, sl_law_spoil, l_law_spoil, c_law_spoil⟩, k_law_spoil⟩ := p_law_spoil
  have F_law_spoil := fun_mk (st := s_law_spoil) l_law_spoil c_law_spoil k_law_spoil
  have b_law_spoil := F_law_spoil.binds (ps := p_law_spoil) fun _ _ _ _ _ _ us hl => match us, hl with | [_], _ => rfl
  obtain ⟨a_law_name, ⟨oc_law_name, od_law_name, kV_law_name, dc_law_name, pm_law_name, an_law_name, cd_law_name, ct_law_name, sl_law_name, l_law_name, c_law_name⟩, k_law_name⟩ := p_law_name
  have F_law_name := fun_mk (st := s_law_name) l_law_name c_law_name k_law_name
  have b_law_name := F_law_name.binds (ps := p_law_name) fun _ _ _ _ _ _ us hl => match us, hl with | [_], _ => rfl
  obtain ⟨a_law_names, ⟨oc_law_names, od_law_names, kV_law_names, dc_law_names, pm_law_names, an_law_names, cd_law_names, ct_law_names, sl_law_names, l_law_names, c_law_names⟩, k_law_names⟩ := p_law_names
  have F_law_names := fun_mk (st := s_law_names) l_law_names c_law_names k_law_names
  have b_law_names := F_law_names.binds (ps := p_law_names) fun _ _ _ _ _ _ us hl => match us, hl with | [_, _], _ => rfl
  obtain ⟨a_law_marks, ⟨oc_law_marks, od_law_marks, kV_law_marks, dc_law_marks, pm_law_marks, an_law_marks, cd_law_marks, ct_law_marks, sl_law_marks, l_law_marks, c_law_marks⟩, k_law_marks⟩ := p_law_marks
  have F_law_marks := fun_mk (st := s_law_marks) l_law_marks c_law_marks k_law_marks
  have b_law_marks := F_law_marks.binds (ps := p_law_marks) fun _ _ _ _ _ _ us hl => match us, hl with | [_, _], _ => rfl
  obtain ⟨a_law_readings, ⟨oc_law_readings, od_law_readings, kV_law_readings, dc_law_readings, pm_law_readings, an_law_readings, cd_law_readings, ct_law_readings, sl_law_readings, l_law_readings, c_law_readings⟩, k_law_readings⟩ := p_law_readings
  have F_law_readings := fun_mk (st := s_law_readings) l_law_readings c_law_readings k_law_readings
  have b_law_readings := F_law_readings.binds (ps := p_law_readings) fun _ _ _ _ _ _ us hl => match us, hl with | [_, _, _], _ => rfl
  obtain ⟨a_law_tied, ⟨oc_law_tied, od_law_tied, kV_law_tied, dc_law_tied, pm_law_tied, an_law_tied, cd_law_tied, ct_law_tied, sl_law_tied, l_law_tied, c_law_tied⟩, k_law_tied⟩ := p_law_tied
  have F_law_tied := fun_mk (st := s_law_tied) l_law_tied c_law_tied k_law_tied
  have b_law_tied := F_law_tied.binds (ps := p_law_tied) fun _ _ _ _ _ _ us hl => match us, hl with | [_, _], _ => rfl
  obtain ⟨a_law_hanging, ⟨oc_law_hanging, od_law_hanging, kV_law_hanging, dc_law_hanging, pm_law_hanging, an_law_hanging, cd_law_hanging, ct_law_hanging, sl_law_hanging, l_law_hanging, c_law_hanging⟩, k_law_hanging⟩ := p_law_hanging
  have F_law_hanging := fun_mk (st := s_law_hanging) l_law_hanging c_law_hanging k_law_hanging
  have b_law_hanging := F_law_hanging.binds (ps := p_law_hanging) fun _ _ _ _ _ _ us hl => match us, hl with | [_, _], _ => rfl
  obtain ⟨a_law_hang, ⟨oc_law_hang, od_law_hang, kV_law_hang, dc_law_hang, pm_law_hang, an_law_hang, cd_law_hang, ct_law_hang, sl_law_hang, l_law_hang, c_law_hang⟩, k_law_hang⟩ := p_law_hang
  have F_law_hang := fun_mk (st := s_law_hang) l_law_hang c_law_hang k_law_hang
  have b_law_hang := F_law_hang.binds (ps := p_law_hang) fun _ _ _ _ _ _ us hl => match us, hl with | [_, _], _ => rfl
  obtain ⟨a_law, ⟨oc_law, od_law, kV_law, dc_law, pm_law, an_law, cd_law, ct_law, sl_law, l_law, c_law⟩, k_law⟩ := p_law
  have F_law := fun_mk (st := s_law) l_law c_law k_law
  have b_law := F_law.binds (ps := p_law) fun _ _ _ _ _ _ us hl => match us, hl with | [_], _ => rfl
  have B : Bt mg := ⟨PySem.W.mg_none_of X G z_len, PySem.W.mg_none_of X G z_min, PySem.W.mg_none_of X G z_set, PySem.W.mg_none_of X G z_list, PySem.W.mg_none_of X G z_isinstance, PySem.W.mg_none_of X G z_int, PySem.W.mg_none_of X G z_bool, PySem.W.mg_none_of X G z_str, PySem.W.mg_none_of X G z_dict, PySem.W.mg_none_of X G z_tuple, PySem.W.mg_none_of X G z_all, PySem.W.mg_none_of X G z_range, PySem.W.mg_none_of X G z_sorted, PySem.W.mg_none_of X G z_max, PySem.W.mg_none_of X G z_repr, PySem.W.mg_none_of X G z_sum, PySem.W.mg_none_of X G z_super⟩
  let ev : Env l.prog K mg := { f_is_word := f_is_word, d_is_word := _, A_is_word := ⟨F_is_word, b_is_word, PySem.W.mg_of X G a_is_word⟩, f_is_name := f_is_name, d_is_name := _, A_is_name := ⟨F_is_name, b_is_name, PySem.W.mg_of X G a_is_name⟩, f_is_within := f_is_within, d_is_within := _, A_is_within := ⟨F_is_within, b_is_within, PySem.W.mg_of X G a_is_within⟩, f_check_name := f_check_name, d_check_name := _, A_check_name := ⟨F_check_name, b_check_name, PySem.W.mg_of X G a_check_name⟩, f_check_number := f_check_number, d_check_number := _, A_check_number := ⟨F_check_number, b_check_number, PySem.W.mg_of X G a_check_number⟩, f_check_place := f_check_place, d_check_place := _, A_check_place := ⟨F_check_place, b_check_place, PySem.W.mg_of X G a_check_place⟩, f_check_reading := f_check_reading, d_check_reading := _, A_check_reading := ⟨F_check_reading, b_check_reading, PySem.W.mg_of X G a_check_reading⟩, f_neighbours := f_neighbours, d_neighbours := _, A_neighbours := ⟨F_neighbours, b_neighbours, PySem.W.mg_of X G a_neighbours⟩, f_reached := f_reached, d_reached := _, A_reached := ⟨F_reached, b_reached, PySem.W.mg_of X G a_reached⟩, f_Survey___init__ := f_Survey___init__, d_Survey___init__ := _, A_Survey___init__ := ⟨F_Survey___init__, b_Survey___init__, me_Survey___init__⟩, f_Survey_names := f_Survey_names, d_Survey_names := _, A_Survey_names := ⟨F_Survey_names, b_Survey_names, me_Survey_names⟩, f_Survey_hangs := f_Survey_hangs, d_Survey_hangs := _, A_Survey_hangs := ⟨F_Survey_hangs, b_Survey_hangs, me_Survey_hangs⟩, f_Survey_pieces := f_Survey_pieces, d_Survey_pieces := _, A_Survey_pieces := ⟨F_Survey_pieces, b_Survey_pieces, me_Survey_pieces⟩, f_Survey_loose := f_Survey_loose, d_Survey_loose := _, A_Survey_loose := ⟨F_Survey_loose, b_Survey_loose, me_Survey_loose⟩, f_law_bag := f_law_bag, d_law_bag := _, A_law_bag := ⟨F_law_bag, b_law_bag, PySem.W.mg_of X G a_law_bag⟩, f_law_draw := f_law_draw, d_law_draw := _, A_law_draw := ⟨F_law_draw, b_law_draw, PySem.W.mg_of X G a_law_draw⟩, f_law_whole := f_law_whole, d_law_whole := _, A_law_whole := ⟨F_law_whole, b_law_whole, PySem.W.mg_of X G a_law_whole⟩, f_law_same := f_law_same, d_law_same := _, A_law_same := ⟨F_law_same, b_law_same, PySem.W.mg_of X G a_law_same⟩, f_law_any := f_law_any, d_law_any := _, A_law_any := ⟨F_law_any, b_law_any, PySem.W.mg_of X G a_law_any⟩, f_law_spoil := f_law_spoil, d_law_spoil := _, A_law_spoil := ⟨F_law_spoil, b_law_spoil, PySem.W.mg_of X G a_law_spoil⟩, f_law_name := f_law_name, d_law_name := _, A_law_name := ⟨F_law_name, b_law_name, PySem.W.mg_of X G a_law_name⟩, f_law_names := f_law_names, d_law_names := _, A_law_names := ⟨F_law_names, b_law_names, PySem.W.mg_of X G a_law_names⟩, f_law_marks := f_law_marks, d_law_marks := _, A_law_marks := ⟨F_law_marks, b_law_marks, PySem.W.mg_of X G a_law_marks⟩, f_law_readings := f_law_readings, d_law_readings := _, A_law_readings := ⟨F_law_readings, b_law_readings, PySem.W.mg_of X G a_law_readings⟩, f_law_tied := f_law_tied, d_law_tied := _, A_law_tied := ⟨F_law_tied, b_law_tied, PySem.W.mg_of X G a_law_tied⟩, f_law_hanging := f_law_hanging, d_law_hanging := _, A_law_hanging := ⟨F_law_hanging, b_law_hanging, PySem.W.mg_of X G a_law_hanging⟩, f_law_hang := f_law_hang, d_law_hang := _, A_law_hang := ⟨F_law_hang, b_law_hang, PySem.W.mg_of X G a_law_hang⟩, f_law := fa, d_law := _, A_law := ⟨F_law, b_law, PySem.W.mg_of X G a_law⟩, B := B, C_Survey := C_Survey, cl_Survey := ⟨pgS, hdS, poS, saS⟩, M_Survey := ⟨mkS_, me_Survey___init__.at_, me_Survey___init__.fn, kcS⟩, g_Survey := PySem.W.mg_of X G aS, n_own_marks := n_own_marks, n_own_readings := n_own_readings, t1 := t1, t2 := t2, t3 := t3, t4 := t4, t5 := t5, c_MOST := PySem.W.mg_of X G cM, c_LEAST_WEIGHT := PySem.W.mg_of X G cL, c_MOST_WEIGHT := PySem.W.mg_of X G cW, c_LONGEST := PySem.W.mg_of X G cG, c_LETTERS := PySem.W.mg_of X G cT, C_NoMark := C_NoMark, X_NoMark := e_NoMark mg (PySem.W.mg_of X G g_NoMark) (PySem.W.mg_none_of X G z_super), xm_NM := xm_NM }
  exact ⟨_, fun s v => .of_eq rfl, fun base _ _ => ok_law ev⟩
end G
open PySem PySem.W PyProof.Rows
set_option maxHeartbeats 0 in
theorem PySem.Challenge.cw_gromatic_k06_what_hangs_together_holds : PySem.Challenge.rw_gromatic_k06_what_hangs_together.Holds := by
  w_on; o_law; k_head; (case hw => w_witness2)
  k_fill
  refine L2.walk_of (l := PySem.Challenge.rw_gromatic_k06_what_hangs_together) (n := 63) (k := 12) (x := "_law_script") (CX := fun _ => L2.CX0) (sp := fun w => G.spLaw _) rfl (by decide) rfl ⟨rfl, by decide, by decide⟩ (fun w h Y => PySem.W.kIn_of Y) ?F (fun _ _ a ns hl _ hS => ⟨a, ns, rfl, hS, hl, fun _ => rfl⟩) (fun _ _ _ _ _ h => h)
  case F =>
    intro w mg fa h KX GN hmg
    refine' G.all_mk KX GN hmg (G.put_mk ?a_is_word ?l_is_word ?c_is_word ?k_is_word) (G.put_mk ?a_is_name ?l_is_name ?c_is_name ?k_is_name) (G.put_mk ?a_is_within ?l_is_within ?c_is_within ?k_is_within) (G.put_mk ?a_check_name ?l_check_name ?c_check_name ?k_check_name) (G.put_mk ?a_check_number ?l_check_number ?c_check_number ?k_check_number) (G.put_mk ?a_check_place ?l_check_place ?c_check_place ?k_check_place) (G.put_mk ?a_check_reading ?l_check_reading ?c_check_reading ?k_check_reading) (G.put_mk ?a_neighbours ?l_neighbours ?c_neighbours ?k_neighbours) (G.put_mk ?a_reached ?l_reached ?c_reached ?k_reached) (G.putM_mk ?a_Survey___init__ ?i_Survey___init__ ?l_Survey___init__ ?c_Survey___init__ ?k_Survey___init__) (G.putM_mk ?a_Survey_names ?i_Survey_names ?l_Survey_names ?c_Survey_names ?k_Survey_names) (G.putM_mk ?a_Survey_hangs ?i_Survey_hangs ?l_Survey_hangs ?c_Survey_hangs ?k_Survey_hangs) (G.putM_mk ?a_Survey_pieces ?i_Survey_pieces ?l_Survey_pieces ?c_Survey_pieces ?k_Survey_pieces) (G.putM_mk ?a_Survey_loose ?i_Survey_loose ?l_Survey_loose ?c_Survey_loose ?k_Survey_loose) (G.put_mk ?a_law_bag ?l_law_bag ?c_law_bag ?k_law_bag) (G.put_mk ?a_law_draw ?l_law_draw ?c_law_draw ?k_law_draw) (G.put_mk ?a_law_whole ?l_law_whole ?c_law_whole ?k_law_whole) (G.put_mk ?a_law_same ?l_law_same ?c_law_same ?k_law_same) (G.put_mk ?a_law_any ?l_law_any ?c_law_any ?k_law_any) (G.put_mk ?a_law_spoil ?l_law_spoil ?c_law_spoil ?k_law_spoil) (G.put_mk ?a_law_name ?l_law_name ?c_law_name ?k_law_name) (G.put_mk ?a_law_names ?l_law_names ?c_law_names ?k_law_names) (G.put_mk ?a_law_marks ?l_law_marks ?c_law_marks ?k_law_marks) (G.put_mk ?a_law_readings ?l_law_readings ?c_law_readings ?k_law_readings) (G.put_mk ?a_law_tied ?l_law_tied ?c_law_tied ?k_law_tied) (G.put_mk ?a_law_hanging ?l_law_hanging ?c_law_hanging ?k_law_hanging) (G.put_mk ?a_law_hang ?l_law_hang ?c_law_hang ?k_law_hang) (G.put_mk ?a_law ?l_law ?c_law ?k_law) ?aS ?pgS ?hdS ?poS ?saS ?mkS_ ?kcS ?n_own_marks ?n_own_readings ?cM ?cL ?cW ?cG ?cT ?g_NoMark (G.supL_mk (n := "NoMark") (f := "name") (j := 0) PySem.F.excBase_LookupError PySem.W.kxs_LookupError PySem.F.store_LookupError ?iC_NoMark ?l_NoMark ?cd_NoMark ?lc_NoMark ?lk_NoMark ?hvs_NoMark ?hfile_NoMark ?hl_NoMark ?hb_NoMark ?ini_NoMark ?over_NoMark ?sa_NoMark ?tk_NoMark ?hd_NoMark ?tC_NoMark ?sub_NoMark ?mro_NoMark ?sup_NoMark ?opq_NoMark ?top_NoMark ?hd1_NoMark ?nn_NoMark ?lf_NoMark ?hz_NoMark ?kC_NoMark ?exC_NoMark ?tyC_NoMark ?xf_NoMark ?nf_NoMark) ?xm_NM ?z_len ?z_min ?z_set ?z_list ?z_isinstance ?z_int ?z_bool ?z_str ?z_dict ?z_tuple ?z_all ?z_range ?z_sorted ?z_max ?z_repr ?z_sum ?z_super
    (case aS => k_is)
    (case pgS => k_is)
    (case hdS => k_is)
    (case poS => k_is)
    (case saS => k_is)
    (case mkS_ => k_is)
    (case kcS => k_is)
    (case n_own_marks => k_is)
    (case n_own_readings => k_is)
    (case cM => k_is)
    (case cL => k_is)
    (case cW => k_is)
    (case cG => k_is)
    (case cT => k_is)
    (case g_NoMark => k_is)
    (case iC_NoMark => k_is)
    (case l_NoMark => k_is)
    (case cd_NoMark => k_is)
    (case lc_NoMark => k_is)
    (case lk_NoMark => k_is)
    (case hvs_NoMark => first | rfl | kernel_rfl)
    (case hfile_NoMark => first | rfl | kernel_rfl | decide +kernel)
    (case hl_NoMark => first | rfl | decide)
    (case hb_NoMark => exact fun s x v => BindsTo.of_eq rfl)
    (case ini_NoMark => kx_is)
    (case over_NoMark => kx_is)
    (case sa_NoMark => k_is)
    (case tk_NoMark => k_is)
    (case hd_NoMark => k_is)
    (case tC_NoMark => k_is)
    (case sub_NoMark => k_is)
    (case mro_NoMark => k_is)
    (case sup_NoMark => ks_is)
    (case opq_NoMark => k_is)
    (case top_NoMark => first | rfl | kernel_rfl | decide +kernel)
    (case hd1_NoMark => first | rfl | decide)
    (case nn_NoMark => first | rfl | decide)
    (case lf_NoMark => first | rfl | decide)
    (case hz_NoMark => first | decide | decide +kernel)
    (case kC_NoMark => k_is)
    (case exC_NoMark => k_is)
    (case tyC_NoMark => k_is)
    (case xf_NoMark => exact ⟨by k_is, by k_is, by k_is, by k_is⟩)
    (case nf_NoMark => k_is)
    (case xm_NM => first | k_is | kx_is | rfl)
    (case a_is_word => k_is)
    (case l_is_word => k_is)
    (case c_is_word => k_is)
    (case k_is_word => k_is)
    (case a_is_name => k_is)
    (case l_is_name => k_is)
    (case c_is_name => k_is)
    (case k_is_name => k_is)
    (case a_is_within => k_is)
    (case l_is_within => k_is)
    (case c_is_within => k_is)
    (case k_is_within => k_is)
    (case a_check_name => k_is)
    (case l_check_name => k_is)
    (case c_check_name => k_is)
    (case k_check_name => k_is)
    (case a_check_number => k_is)
    (case l_check_number => k_is)
    (case c_check_number => k_is)
    (case k_check_number => k_is)
    (case a_check_place => k_is)
    (case l_check_place => k_is)
    (case c_check_place => k_is)
    (case k_check_place => k_is)
    (case a_check_reading => k_is)
    (case l_check_reading => k_is)
    (case c_check_reading => k_is)
    (case k_check_reading => k_is)
    (case a_neighbours => k_is)
    (case l_neighbours => k_is)
    (case c_neighbours => k_is)
    (case k_neighbours => k_is)
    (case a_reached => k_is)
    (case l_reached => k_is)
    (case c_reached => k_is)
    (case k_reached => k_is)
    (case a_Survey___init__ => k_is)
    (case i_Survey___init__ => k_is)
    (case l_Survey___init__ => k_is)
    (case c_Survey___init__ => k_is)
    (case k_Survey___init__ => k_is)
    (case a_Survey_names => k_is)
    (case i_Survey_names => k_is)
    (case l_Survey_names => k_is)
    (case c_Survey_names => k_is)
    (case k_Survey_names => k_is)
    (case a_Survey_hangs => k_is)
    (case i_Survey_hangs => k_is)
    (case l_Survey_hangs => k_is)
    (case c_Survey_hangs => k_is)
    (case k_Survey_hangs => k_is)
    (case a_Survey_pieces => k_is)
    (case i_Survey_pieces => k_is)
    (case l_Survey_pieces => k_is)
    (case c_Survey_pieces => k_is)
    (case k_Survey_pieces => k_is)
    (case a_Survey_loose => k_is)
    (case i_Survey_loose => k_is)
    (case l_Survey_loose => k_is)
    (case c_Survey_loose => k_is)
    (case k_Survey_loose => k_is)
    (case a_law_bag => k_is)
    (case l_law_bag => k_is)
    (case c_law_bag => k_is)
    (case k_law_bag => k_is)
    (case a_law_draw => k_is)
    (case l_law_draw => k_is)
    (case c_law_draw => k_is)
    (case k_law_draw => k_is)
    (case a_law_whole => k_is)
    (case l_law_whole => k_is)
    (case c_law_whole => k_is)
    (case k_law_whole => k_is)
    (case a_law_same => k_is)
    (case l_law_same => k_is)
    (case c_law_same => k_is)
    (case k_law_same => k_is)
    (case a_law_any => k_is)
    (case l_law_any => k_is)
    (case c_law_any => k_is)
    (case k_law_any => k_is)
    (case a_law_spoil => k_is)
    (case l_law_spoil => k_is)
    (case c_law_spoil => k_is)
    (case k_law_spoil => k_is)
    (case a_law_name => k_is)
    (case l_law_name => k_is)
    (case c_law_name => k_is)
    (case k_law_name => k_is)
    (case a_law_names => k_is)
    (case l_law_names => k_is)
    (case c_law_names => k_is)
    (case k_law_names => k_is)
    (case a_law_marks => k_is)
    (case l_law_marks => k_is)
    (case c_law_marks => k_is)
    (case k_law_marks => k_is)
    (case a_law_readings => k_is)
    (case l_law_readings => k_is)
    (case c_law_readings => k_is)
    (case k_law_readings => k_is)
    (case a_law_tied => k_is)
    (case l_law_tied => k_is)
    (case c_law_tied => k_is)
    (case k_law_tied => k_is)
    (case a_law_hanging => k_is)
    (case l_law_hanging => k_is)
    (case c_law_hanging => k_is)
    (case k_law_hanging => k_is)
    (case a_law_hang => k_is)
    (case l_law_hang => k_is)
    (case c_law_hang => k_is)
    (case k_law_hang => k_is)
    (case a_law => k_is)
    (case l_law => k_is)
    (case c_law => k_is)
    (case k_law => k_is)
    (case z_len => k_is)
    (case z_min => k_is)
    (case z_set => k_is)
    (case z_list => k_is)
    (case z_isinstance => k_is)
    (case z_int => k_is)
    (case z_bool => k_is)
    (case z_str => k_is)
    (case z_dict => k_is)
    (case z_tuple => k_is)
    (case z_all => k_is)
    (case z_range => k_is)
    (case z_sorted => k_is)
    (case z_max => k_is)
    (case z_repr => k_is)
    (case z_sum => k_is)
    (case z_super => k_is)

