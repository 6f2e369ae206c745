import PyProof.Rows.All
import Wide.All
import OpenK.AllK
import Wide.FinOn
import HandS.ForMost
import HandS.ForExc
import HandS.Wide
import HandS.IsInst
import HandS.ExcIs
import PySem.Challenge.RW_gromatic_k02_ratios_reckoned
set_option Elab.async false
set_option linter.all false
set_option maxRecDepth 100000
namespace G
open PySem L2

def top (i : Nat) : Stmt := PySem.Challenge.pw_gromatic_k02_ratios_reckoned.main.body.getD i (.Pass ⟨0, 0, 0, 0⟩)
abbrev s_greatest_common : Stmt := top 3
abbrev n_greatest_common : List Str := ["one", "other"]
abbrev p_greatest_common : List Str := ["one", "other"]
theorem sc_greatest_common : FnScope n_greatest_common p_greatest_common (defScope s_greatest_common) := ⟨rfl, rfl, rfl, by decide +kernel, rfl, by decide +kernel, by decide +kernel⟩
abbrev s_ratio : Stmt := top 4
abbrev n_ratio : List Str := ["over", "under", "common"]
abbrev p_ratio : List Str := ["over", "under"]
theorem sc_ratio : FnScope n_ratio p_ratio (defScope s_ratio) := ⟨rfl, rfl, rfl, by decide +kernel, rfl, by decide +kernel, by decide +kernel⟩
abbrev s_plus : Stmt := top 5
abbrev n_plus : List Str := ["one", "other"]
abbrev p_plus : List Str := ["one", "other"]
theorem sc_plus : FnScope n_plus p_plus (defScope s_plus) := ⟨rfl, rfl, rfl, by decide +kernel, rfl, by decide +kernel, by decide +kernel⟩
abbrev s_minus : Stmt := top 6
abbrev n_minus : List Str := ["one", "other"]
abbrev p_minus : List Str := ["one", "other"]
theorem sc_minus : FnScope n_minus p_minus (defScope s_minus) := ⟨rfl, rfl, rfl, by decide +kernel, rfl, by decide +kernel, by decide +kernel⟩
abbrev s_times : Stmt := top 7
abbrev n_times : List Str := ["one", "other"]
abbrev p_times : List Str := ["one", "other"]
theorem sc_times : FnScope n_times p_times (defScope s_times) := ⟨rfl, rfl, rfl, by decide +kernel, rfl, by decide +kernel, by decide +kernel⟩
abbrev s_divided : Stmt := top 8
abbrev n_divided : List Str := ["one", "other"]
abbrev p_divided : List Str := ["one", "other"]
theorem sc_divided : FnScope n_divided p_divided (defScope s_divided) := ⟨rfl, rfl, rfl, by decide +kernel, rfl, by decide +kernel, by decide +kernel⟩
abbrev s_order : Stmt := top 9
abbrev n_order : List Str := ["one", "other", "gap"]
abbrev p_order : List Str := ["one", "other"]
theorem sc_order : FnScope n_order p_order (defScope s_order) := ⟨rfl, rfl, rfl, by decide +kernel, rfl, by decide +kernel, by decide +kernel⟩
abbrev s_size : Stmt := top 10
abbrev n_size : List Str := ["one"]
abbrev p_size : List Str := ["one"]
theorem sc_size : FnScope n_size p_size (defScope s_size) := ⟨rfl, rfl, rfl, by decide +kernel, rfl, by decide +kernel, by decide +kernel⟩
abbrev s_floor : Stmt := top 11
abbrev n_floor : List Str := ["one"]
abbrev p_floor : List Str := ["one"]
theorem sc_floor : FnScope n_floor p_floor (defScope s_floor) := ⟨rfl, rfl, rfl, by decide +kernel, rfl, by decide +kernel, by decide +kernel⟩
abbrev s_nearest : Stmt := top 12
abbrev n_nearest : List Str := ["one"]
abbrev p_nearest : List Str := ["one"]
theorem sc_nearest : FnScope n_nearest p_nearest (defScope s_nearest) := ⟨rfl, rfl, rfl, by decide +kernel, rfl, by decide +kernel, by decide +kernel⟩
abbrev s_law_bag : Stmt := top 14
abbrev n_law_bag : List Str := ["_law_script"]
abbrev p_law_bag : List Str := ["_law_script"]
theorem sc_law_bag : FnScope n_law_bag p_law_bag (defScope s_law_bag) := ⟨rfl, rfl, rfl, by decide +kernel, rfl, by decide +kernel, by decide +kernel⟩
abbrev s_law_draw : Stmt := top 15
abbrev n_law_draw : List Str := ["_law_bag_here", "_law_many", "_law_cells", "_law_slot", "_law_cell", "_law_seed"]
abbrev p_law_draw : List Str := ["_law_bag_here", "_law_many"]
theorem sc_law_draw : FnScope n_law_draw p_law_draw (defScope s_law_draw) := ⟨rfl, rfl, rfl, by decide +kernel, rfl, by decide +kernel, by decide +kernel⟩
abbrev s_law_whole : Stmt := top 16
abbrev n_law_whole : List Str := ["_law_found"]
abbrev p_law_whole : List Str := ["_law_found"]
theorem sc_law_whole : FnScope n_law_whole p_law_whole (defScope s_law_whole) := ⟨rfl, rfl, rfl, by decide +kernel, rfl, by decide +kernel, by decide +kernel⟩
abbrev s_law_same : Stmt := top 17
abbrev n_law_same : List Str := ["_law_found", "_law_due", "_law_name", "_law_k"]
abbrev p_law_same : List Str := ["_law_found", "_law_due"]
theorem sc_law_same : FnScope n_law_same p_law_same (defScope s_law_same) := ⟨rfl, rfl, rfl, by decide +kernel, rfl, by decide +kernel, by decide +kernel⟩
abbrev s_law_any : Stmt := top 18
abbrev n_law_any : List Str := ["_law_bag_here", "_law_some"]
abbrev p_law_any : List Str := ["_law_bag_here", "_law_some"]
theorem sc_law_any : FnScope n_law_any p_law_any (defScope s_law_any) := ⟨rfl, rfl, rfl, by decide +kernel, rfl, by decide +kernel, by decide +kernel⟩
abbrev s_law_big : Stmt := top 19
abbrev n_law_big : List Str := ["_law_bag_here", "_law_kind", "_law_found"]
abbrev p_law_big : List Str := ["_law_bag_here"]
theorem sc_law_big : FnScope n_law_big p_law_big (defScope s_law_big) := ⟨rfl, rfl, rfl, by decide +kernel, rfl, by decide +kernel, by decide +kernel⟩
abbrev s_law_rat : Stmt := top 20
abbrev n_law_rat : List Str := ["_law_over", "_law_under", "_law_one", "_law_two"]
abbrev p_law_rat : List Str := ["_law_over", "_law_under"]
theorem sc_law_rat : FnScope n_law_rat p_law_rat (defScope s_law_rat) := ⟨rfl, rfl, rfl, by decide +kernel, rfl, by decide +kernel, by decide +kernel⟩
abbrev s_law_sum : Stmt := top 21
abbrev n_law_sum : List Str := ["_law_one", "_law_two"]
abbrev p_law_sum : List Str := ["_law_one", "_law_two"]
theorem sc_law_sum : FnScope n_law_sum p_law_sum (defScope s_law_sum) := ⟨rfl, rfl, rfl, by decide +kernel, rfl, by decide +kernel, by decide +kernel⟩
abbrev s_law_dif : Stmt := top 22
abbrev n_law_dif : List Str := ["_law_one", "_law_two"]
abbrev p_law_dif : List Str := ["_law_one", "_law_two"]
theorem sc_law_dif : FnScope n_law_dif p_law_dif (defScope s_law_dif) := ⟨rfl, rfl, rfl, by decide +kernel, rfl, by decide +kernel, by decide +kernel⟩
abbrev s_law_prod : Stmt := top 23
abbrev n_law_prod : List Str := ["_law_one", "_law_two"]
abbrev p_law_prod : List Str := ["_law_one", "_law_two"]
theorem sc_law_prod : FnScope n_law_prod p_law_prod (defScope s_law_prod) := ⟨rfl, rfl, rfl, by decide +kernel, rfl, by decide +kernel, by decide +kernel⟩
abbrev s_law_quo : Stmt := top 24
abbrev n_law_quo : List Str := ["_law_one", "_law_two"]
abbrev p_law_quo : List Str := ["_law_one", "_law_two"]
theorem sc_law_quo : FnScope n_law_quo p_law_quo (defScope s_law_quo) := ⟨rfl, rfl, rfl, by decide +kernel, rfl, by decide +kernel, by decide +kernel⟩
abbrev s_law_comp : Stmt := top 25
abbrev n_law_comp : List Str := ["_law_one", "_law_two"]
abbrev p_law_comp : List Str := ["_law_one", "_law_two"]
theorem sc_law_comp : FnScope n_law_comp p_law_comp (defScope s_law_comp) := ⟨rfl, rfl, rfl, by decide +kernel, rfl, by decide +kernel, by decide +kernel⟩
abbrev s_law_quotient : Stmt := top 26
abbrev n_law_quotient : List Str := ["_law_one", "_law_two", "_law_told"]
abbrev p_law_quotient : List Str := ["_law_one", "_law_two"]
theorem sc_law_quotient : FnScope n_law_quotient p_law_quotient (defScope s_law_quotient) := ⟨rfl, rfl, rfl, by decide +kernel, rfl, by decide +kernel, by decide +kernel⟩
abbrev s_law : Stmt := top 27
abbrev n_law : List Str := ["_law_script", "_law_bag_here", "_law_good", "_law_k", "_law_low", "_law_one", "_law_two", "_law_due", "_law_away"]
abbrev p_law : List Str := ["_law_script"]
theorem sc_law : FnScope n_law p_law (defScope s_law) := ⟨rfl, rfl, rfl, by decide +kernel, rfl, by decide +kernel, by decide +kernel⟩
theorem gcd_fmod (a b : Int) : Int.gcd b (a.fmod b) = Int.gcd a b := by
  rw [Int.fmod_def, Int.sub_eq_add_neg, ← Int.mul_neg]
  rw [Int.gcd_add_mul_left_right]
  exact Int.gcd_comm b a
theorem fmod_abs_lt (a : Int) {b : Int} (h : b ≠ 0) : (a.fmod b).natAbs < b.natAbs := by
  rcases Int.lt_or_gt_of_ne h with h | h
  · have e : a.fmod b = -((-a).fmod (-b)) := by
      rw [Int.neg_fmod_neg]; omega
    have h1 := Int.fmod_nonneg_of_pos (-a) (show 0 < -b by omega)
    have h2 := Int.fmod_lt_of_pos (-a) (show 0 < -b by omega)
    omega
  · have h1 := Int.fmod_nonneg_of_pos a h
    have h2 := Int.fmod_lt_of_pos a h
    omega
theorem abs_if (x : Int) : (if x < 0 then -x else x) = ((x.natAbs : Nat) : Int) := by split <;> omega
def cOf (o u : Int) : Int := if u < 0 then -((Int.gcd o u : Nat) : Int) else ((Int.gcd o u : Nat) : Int)
def rN (o u : Int) : Int := o.fdiv (cOf o u)
def rD (o u : Int) : Int := u.fdiv (cOf o u)
def CDivZ (_ j : Int) : Prop := j ≠ 0 ∧ j.natAbs.log2 < 9000
theorem op_fdivZ {X : Cx} : OpR X (binaryOp .FloorDiv) (rI CDivZ fun i j => .int (i.fdiv j)) := opI fun _ _ _ _ _ _ _ hc q => PyProof.Rows.floordiv_int hc.1 q (.inl (PyProof.noPylong_of_log2 hc.2))
theorem cOf_ok {o u : Int} (h : u ≠ 0) (hb : u.natAbs < 2 ^ 9000) (x : Int) : CDivZ x (cOf o u) := by
  have g : 0 < Int.gcd o u := Int.gcd_pos_of_ne_zero_right o h
  have l : Int.gcd o u ≤ u.natAbs := Nat.le_of_dvd (by omega) (Int.gcd_dvd_natAbs_right o u)
  have n : (cOf o u).natAbs = Int.gcd o u := by
    unfold cOf
    split <;> omega
  refine ⟨fun z => ?_, ?_⟩
  · rw [z] at n
    simp at n
    omega
  · rw [n]
    exact PySem.Flt.log2_lt_of (by decide) (Nat.lt_of_le_of_lt l hb)
theorem pow9000 {n : Nat} (h : n < 2 ^ 200) : n < 2 ^ 9000 := Nat.lt_of_lt_of_le h (Nat.pow_le_pow_right (by decide) (by decide))
theorem two {a b : V} : [a, b].length ≤ sizeLine := by
  show 2 ≤ sizeLine
  decide

theorem cOf_dl (o u : Int) : cOf o u ∣ o := by
  unfold cOf
  split
  · exact Int.neg_dvd.mpr (Int.gcd_dvd_left o u)
  · exact Int.gcd_dvd_left o u
theorem cOf_dr (o u : Int) : cOf o u ∣ u := by
  unfold cOf
  split
  · exact Int.neg_dvd.mpr (Int.gcd_dvd_right o u)
  · exact Int.gcd_dvd_right o u
theorem cOf_ne {o u : Int} (h : u ≠ 0) : cOf o u ≠ 0 := by
  have g : 0 < Int.gcd o u := Int.gcd_pos_of_ne_zero_right o h
  unfold cOf
  split <;> omega
theorem rN_eq (o u : Int) : cOf o u * rN o u = o := Int.mul_fdiv_cancel' (cOf_dl o u)
theorem rD_eq (o u : Int) : cOf o u * rD o u = u := Int.mul_fdiv_cancel' (cOf_dr o u)
theorem rD_pos {o u : Int} (h : u ≠ 0) : 0 < rD o u := by
  have e := rD_eq o u
  have g : 0 < Int.gcd o u := Int.gcd_pos_of_ne_zero_right o h
  unfold cOf at e
  generalize rD o u = d at e
  split at e
  · rename_i hu
    rcases (show 0 < d ∨ d ≤ 0 by omega) with hd | hd
    · exact hd
    · have z : 0 ≤ -((Int.gcd o u : Nat) : Int) * d := Int.mul_nonneg_of_nonpos_of_nonpos (by omega) hd
      omega
  · rcases (show 0 < d ∨ d ≤ 0 by omega) with hd | hd
    · exact hd
    · have z : ((Int.gcd o u : Nat) : Int) * d ≤ 0 := Int.mul_nonpos_of_nonneg_of_nonpos (by omega) hd
      omega
theorem le_of_mul_eq {c k o : Int} (hc : c ≠ 0) (e : c * k = o) : k.natAbs ≤ o.natAbs := by
  rw [← e, Int.natAbs_mul]
  exact Nat.le_mul_of_pos_left _ (by omega)
theorem rN_le {o u : Int} (h : u ≠ 0) : (rN o u).natAbs ≤ o.natAbs := le_of_mul_eq (cOf_ne h) (rN_eq o u)
theorem rD_le {o u : Int} (h : u ≠ 0) : (rD o u).natAbs ≤ u.natAbs := le_of_mul_eq (cOf_ne h) (rD_eq o u)
theorem rDiv {o u : Int} (h : 0 < u) : (rN o u).fdiv (rD o u) = o.fdiv u := by
  have c0 : 0 < cOf o u := by
    have g : 0 < Int.gcd o u := Int.gcd_pos_of_ne_zero_right o (by omega)
    unfold cOf
    split <;> omega
  have e := Int.mul_fdiv_mul_of_pos (rN o u) (rD o u) c0
  rw [rN_eq, rD_eq] at e
  exact e.symm

structure Bag (H : Hp) (b c : Addr) : Prop where
  ne : b ≠ c
  at_ : ∃ (ns : List Int) (slot seed : Int), H b = some (.lst [.ref c, .int slot, .int seed]) ∧ H c = some (.lst (ns.map V.int)) ∧ ns.length ≤ 63 ∧ 0 ≤ slot ∧ 0 ≤ seed ∧ seed < 2147483647
/-- all but what stands at b and c stands -/
def Kept (b c : Addr) (H H' : Hp) : Prop := ∀ p o, H p = some o → p ≠ b → p ≠ c → H' p = some o
theorem Kept.refl {b c : Addr} {H : Hp} : Kept b c H H := fun _ _ e _ _ => e
theorem Kept.trans {b c : Addr} {H H' H'' : Hp} (h : Kept b c H H') (h' : Kept b c H' H'') : Kept b c H H'' := fun p o e n m => h' p o (h p o e n m) n m
theorem kept_same {b c : Addr} {H H' : Hp} (h : Same H H') : Kept b c H H' := fun p o e _ _ => h p o e
theorem same_upd {H : Hp} {p : Addr} {o : HO} (h : H p = none) : Same H (upd H p o) := fun b x e => by
  rw [upd_ne (ne_of_none e h)]
  exact e
theorem Kept.upd {b c p : Addr} {H H' : Hp} {o : HO} (h : Kept b c H H') (hp : H' p = none) : Kept b c H (upd H' p o) := h.trans (kept_same (same_upd hp))
theorem Bag.same {H H' : Hp} {b c : Addr} (h : Bag H b c) (s : Same H H') : Bag H' b c := by
  obtain ⟨ne, ns, sl, sd, h1, h2, r⟩ := h
  exact ⟨ne, ns, sl, sd, s _ _ h1, s _ _ h2, r⟩
theorem Bag.upd {b c p : Addr} {H : Hp} {o : HO} (h : Bag H b c) (hp : H p = none) : Bag (upd H p o) b c := h.same (same_upd hp)
theorem Bag.off {H : Hp} {b c p : Addr} (h : Bag H b c) (hp : H p = none) : p ≠ b ∧ p ≠ c := by
  obtain ⟨_, ns, sl, sd, h1, h2, _⟩ := h
  exact ⟨(ne_of_none h1 hp).symm, (ne_of_none h2 hp).symm⟩
/-- a thing that is no list of the bag's -/
theorem Bag.tup {H : Hp} {b c p : Addr} {xs : List V} (h : Bag H b c) (hp : H p = some (.tup xs)) : p ≠ b ∧ p ≠ c := by
  obtain ⟨_, ns, sl, sd, h1, h2, _⟩ := h
  exact ⟨ne_of hp h1 (by intro z; cases z), ne_of hp h2 (by intro z; cases z)⟩
theorem seq_by {t u : TS} {D : Ends} {σ : St} {H : Hp} (Pv : St → Hp → Prop) (h2 : ∀ σ H, Pv σ H → u D σ H) (h1 : (∀ σ H, Pv σ H → u D σ H) → t { D with nx := u D } σ H) : tSeq t u D σ H := h1 h2
theorem seq_c {u : TS} {i : Nat} {v : V} {D : Ends} {σ : St} {H : Hp} (h : u D (σ.set i (some v)) H) : tSeq (tAsg (tC v) (gName i)) u D σ H := h
theorem seq_asg {te : TE} {u : TS} {i : Nat} {D : Ends} {σ : St} {H : Hp} (h : te σ H fun x H1 => u D (σ.set i (some x)) H1) : tSeq (tAsg te (gName i)) u D σ H := h
theorem seq_sub {te ta ti : TE} {r : TSet} {u : TS} {D : Ends} {σ : St} {H : Hp} (h : te σ H fun x H1 => gSub ta ti r x σ H1 fun σ' H' => u D σ' H') : tSeq (tAsg te (gSub ta ti r)) u D σ H := h
theorem seq_drop {te : TE} {u : TS} {D : Ends} {σ : St} {H : Hp} (h : te σ H fun _ H1 => u D σ H1) : tSeq (tDrop te) u D σ H := h
theorem next_u {u : TS} {D : Ends} {σ : St} {H : Hp} (h : u D σ H) : tNext { D with nx := u D } σ H := h
theorem nx_u {u : TS} {D : Ends} {rt : VK} {bk ct : St → Hp → Prop} {σ : St} {H : Hp} (h : u D σ H) : Ends.nx { nx := u D, rt := rt, bk := bk, ct := ct } σ H := h
theorem yes_ {σ : St} {H : Hp} {A B : Hp → Prop} (h : A H) : tYes σ H (fun b H3 => if b = true then A H3 else B H3) := by
  show if true = true then A H else B H
  exact iteT h
theorem int_at {ns : List Int} {i : Int} (h0 : 0 ≤ i) (h : i < (ns.length : Int)) : ∃ v : Int, atI (ns.map V.int) i = some (.int v) := by
  have ek : i = ((i.toNat : Nat) : Int) := by omega
  have hk : i.toNat < ns.length := by omega
  rw [ek]
  exact ⟨ns[i.toNat], atI_nat (by rw [List.getElem?_map, List.getElem?_eq_getElem hk] <;> rfl)⟩
theorem ix_at {n : Nat} {i : Int} (h0 : 0 ≤ i) (h : i < (n : Int)) : ixN n i = some i.toNat := by
  unfold ixN
  rw [if_pos h0, if_pos h]
theorem set_ints (ns : List Int) (j : Nat) (v : Int) : (ns.map V.int).set j (.int v) = (ns.set j v).map V.int := by
  rw [List.map_set]
theorem at_mem {xs : List V} {r : Int} (h0 : 0 ≤ r) (h : r < (xs.length : Int)) : ∃ v, v ∈ xs ∧ atI xs r = some v := by
  have hk : r.toNat < xs.length := by omega
  have e := atI_nat (xs := xs) (j := r.toNat) (List.getElem?_eq_getElem hk)
  rw [show ((r.toNat : Nat) : Int) = r by omega] at e
  exact ⟨_, List.getElem_mem hk, e⟩
theorem cut_ints (ns : List Int) (lo hi : Option Int) : ∃ ms : List Int, cutV (ns.map V.int) lo hi = ms.map V.int ∧ ms.length ≤ ns.length := by
  refine ⟨(ns.drop (HT.sIx (ns.map V.int).length 0 lo)).take (HT.sIx (ns.map V.int).length (ns.map V.int).length hi - HT.sIx (ns.map V.int).length 0 lo), ?_, ?_⟩
  · unfold cutV
    rw [List.map_take, List.map_drop]
  · rw [List.length_take, List.length_drop]
    omega
theorem ne_true {u : Int} (z : (!decide (V.int u = V.int 0)) = true) : u ≠ 0 := fun e => by
  subst e
  exact absurd z (by decide)
theorem ne_false {u : Int} (z : ¬ (!decide (V.int u = V.int 0)) = true) : u = 0 := by
  by_cases e : u = 0
  · exact e
  · exact absurd (show (!decide (V.int u = V.int 0)) = true by rw [decide_eq_false (fun q => e (V.int.inj q))]; rfl) z

structure Bt (mg : Str → Option Value) : Prop where
  len_ : mg "len" = none
  list_ : mg "list" = none
  abs_ : mg "abs" = none
  isinstance_ : mg "isinstance" = none
  int_ : mg "int" = none
  bool_ : mg "bool" = none
  str_ : mg "str" = none
  dict_ : mg "dict" = none
  tuple_ : mg "tuple" = none
  all_ : mg "all" = none
  range_ : mg "range" = none
structure At (K : PySem.W.Frag) (mg : Str → Option Value) (name : String) (st : Stmt) (ps : List Str) (f : Addr) (fd : FuncData) : Prop where
  F : Fun K (Str.ofString name) (Str.ofString name) st f fd
  b : Binds K fd ps []
  m : mg (Str.ofString name) = some (.ref f)
structure NoR (K : PySem.W.Frag) (mg : Str → Option Value) (C : Addr) : Prop where
  g : mg "NoRatio" = some (.ref C)
  x : PySem.W.excIn K C [.type "ZeroDivisionError", .type "ArithmeticError", .type "Exception", .type "BaseException", .type "object"] "ZeroDivisionError.__new__" = true
  k : PySem.W.keepIn K (.ref C) = true
  b : PySem.W.subIn K (.ref C) (.type "BaseException") = some true
  t : PySem.W.typeIn K (.ref C) = some (.type "type")
  te : PySem.W.exmOne K (.ref C) (.ref C) = some true
structure Env (K : PySem.W.Frag) (mg : Str → Option Value) where
  f_greatest_common : Addr
  d_greatest_common : FuncData
  f_ratio : Addr
  d_ratio : FuncData
  f_plus : Addr
  d_plus : FuncData
  f_minus : Addr
  d_minus : FuncData
  f_times : Addr
  d_times : FuncData
  f_divided : Addr
  d_divided : FuncData
  f_order : Addr
  d_order : FuncData
  f_size : Addr
  d_size : FuncData
  f_floor : Addr
  d_floor : FuncData
  f_nearest : Addr
  d_nearest : FuncData
  f_law_bag : Addr
  d_law_bag : FuncData
  f_law_draw : Addr
  d_law_draw : FuncData
  f_law_whole : Addr
  d_law_whole : FuncData
  f_law_same : Addr
  d_law_same : FuncData
  f_law_any : Addr
  d_law_any : FuncData
  f_law_big : Addr
  d_law_big : FuncData
  f_law_rat : Addr
  d_law_rat : FuncData
  f_law_sum : Addr
  d_law_sum : FuncData
  f_law_dif : Addr
  d_law_dif : FuncData
  f_law_prod : Addr
  d_law_prod : FuncData
  f_law_quo : Addr
  d_law_quo : FuncData
  f_law_comp : Addr
  d_law_comp : FuncData
  f_law_quotient : Addr
  d_law_quotient : FuncData
  f_law : Addr
  d_law : FuncData
  C_NoRatio : Addr
  A_greatest_common : At K mg "greatest_common" s_greatest_common p_greatest_common f_greatest_common d_greatest_common
  A_ratio : At K mg "ratio" s_ratio p_ratio f_ratio d_ratio
  A_plus : At K mg "plus" s_plus p_plus f_plus d_plus
  A_minus : At K mg "minus" s_minus p_minus f_minus d_minus
  A_times : At K mg "times" s_times p_times f_times d_times
  A_divided : At K mg "divided" s_divided p_divided f_divided d_divided
  A_order : At K mg "order" s_order p_order f_order d_order
  A_size : At K mg "size" s_size p_size f_size d_size
  A_floor : At K mg "floor" s_floor p_floor f_floor d_floor
  A_nearest : At K mg "nearest" s_nearest p_nearest f_nearest d_nearest
  A_law_bag : At K mg "_law_bag" s_law_bag p_law_bag f_law_bag d_law_bag
  A_law_draw : At K mg "_law_draw" s_law_draw p_law_draw f_law_draw d_law_draw
  A_law_whole : At K mg "_law_whole" s_law_whole p_law_whole f_law_whole d_law_whole
  A_law_same : At K mg "_law_same" s_law_same p_law_same f_law_same d_law_same
  A_law_any : At K mg "_law_any" s_law_any p_law_any f_law_any d_law_any
  A_law_big : At K mg "_law_big" s_law_big p_law_big f_law_big d_law_big
  A_law_rat : At K mg "_law_rat" s_law_rat p_law_rat f_law_rat d_law_rat
  A_law_sum : At K mg "_law_sum" s_law_sum p_law_sum f_law_sum d_law_sum
  A_law_dif : At K mg "_law_dif" s_law_dif p_law_dif f_law_dif d_law_dif
  A_law_prod : At K mg "_law_prod" s_law_prod p_law_prod f_law_prod d_law_prod
  A_law_quo : At K mg "_law_quo" s_law_quo p_law_quo f_law_quo d_law_quo
  A_law_comp : At K mg "_law_comp" s_law_comp p_law_comp f_law_comp d_law_comp
  A_law_quotient : At K mg "_law_quotient" s_law_quotient p_law_quotient f_law_quotient d_law_quotient
  A_law : At K mg "law" s_law p_law f_law d_law
  B : Bt mg
  X_NoRatio : NoR K mg C_NoRatio
section
variable {P : Program} {w : World} {K : PySem.W.Frag} {mg : Str → Option Value} {base : Heap}

/-! ### the greatest common number -/
def spGcd : Sp := fun vs H Q _ => ∃ a b : Int, vs = [.int a, .int b] ∧ Q (.int ((Int.gcd a b : Nat) : Int)) H
theorem ok_greatest_common (ev : Env K mg) : FnOk P w K mg base CX0 1 ev.f_greatest_common ev.d_greatest_common p_greatest_common spGcd := by
  refine ev.A_greatest_common.F.ok sc_greatest_common (fun vs H Q E h => ?_) (fun cdv A outer s H vs Q E hr h => ?_)
  · obtain ⟨a, b, rfl, _⟩ := h
    rfl
  obtain ⟨a, b, rfl, q⟩ := h
  refine ⟨_, (pss_cons (ps_while PassesOwn.never (pt_cmpR op_ne (pv 1) pe_int (nomark _))
    (pss_one (ps_par (i := 0) (j := 1) (by rfl) sc_greatest_common.nd rfl rfl (by decide) rfl rfl (pa_cons (pv 1) (pa_cons (pe_op op_modN (pv 0) (pv 1)) pa_nil)) (by rfl))))
    (pss_one (ps_ret (pe_callB call_abs (by rfl) ev.B.abs_ (by decide +kernel) (pa_cons (pv 0) pa_nil))))), ?_⟩
  refine ⟨fun m σ H' => H' = H ∧ ∃ x y : Int, σ = [some (.int x), some (.int y)] ∧ m = y.natAbs ∧ Int.gcd x y = Int.gcd a b, ⟨_, rfl, a, b, rfl, rfl, rfl⟩, ?_⟩
  rintro m σ H' ⟨rfl, x, y, rfl, rfl, e⟩
  refine ⟨_, rfl, rfl, _, rfl, ?_⟩
  refine ite2 (fun c => ?_) (fun c => ?_)
  · have hy : y ≠ 0 := ne_true c
    refine ⟨fun σ' H2 => H2 = H' ∧ σ' = [some (.int y), some (.int (x.fmod y))], ?_, ?_⟩
    · rintro σ' H2 ⟨rfl, rfl⟩
      exact ⟨_, fmod_abs_lt x hy, rfl, y, _, rfl, rfl, (gcd_fmod x y).trans e⟩
    · exact ⟨_, rfl, _, rfl, _, rfl, _, _, rfl, rfl, hy, _, _, rfl, rfl, rfl⟩
  · have hy : y = 0 := ne_false c
    subst hy
    refine ⟨_, rfl, _, rfl, ?_⟩
    rw [Int.gcd_zero_right] at e
    rw [abs_if, e]
    exact q

/-! ### ratio -/
def spRatio (C : Addr) : Sp := fun vs H Q E => ∃ o u : Int, vs = [.int o, .int u] ∧ u.natAbs < 2 ^ 9000 ∧ (u = 0 → E (.ref C) none H) ∧ (u ≠ 0 → ∀ p, H p = none → Q (.ref p) (upd H p (.tup [.int (rN o u), .int (rD o u)])))
theorem ok_ratio (ev : Env K mg) : FnOk P w K mg base (L2.CX P w) 2 ev.f_ratio ev.d_ratio p_ratio (spRatio ev.C_NoRatio) := by
  refine ev.A_ratio.F.okX sc_ratio (fun vs H Q E h => ?_) (fun cdv A outer s H vs Q E hr h => ?_)
  · obtain ⟨o, u, rfl, _⟩ := h
    rfl
  obtain ⟨o, u, rfl, hb, q0, q1⟩ := h
  refine ⟨_, (pss_cons (ps_if (pt_cmpR op_eq (pv 1) pe_int (nomark _))
    (pss_one (ps_raise rfl (takes_of rfl rfl rfl rfl) (pmk_own PySem.F.excBase_ZeroDivisionError ev.X_NoRatio.x ev.X_NoRatio.g ev.X_NoRatio.k (raises_own ev.X_NoRatio.b ev.X_NoRatio.t) (by exact rfl)))) pss_nil) (PSs.nox (pss_cons (ps_set (i := 2) sc_ratio.nd rfl (Or.inl rfl) (pe_call (ok_greatest_common ev) (hr.mono (by decide)) (by rfl) ev.A_greatest_common.m ev.A_greatest_common.F.kp ev.A_greatest_common.b .nil pass0 (pa_cons (pv 0) (pa_cons (pv 1) pa_nil))))
    (pss_cons (ps_if (pt_cmpR op_lt (pv 1) pe_int (nomark _))
    (pss_one (ps_set (i := 2) sc_ratio.nd rfl (Or.inl rfl) (pe_un un_neg (pv 2)))) pss_nil)
    (pss_one (ps_ret (pe_tup (pa_cons (pe_op op_fdivZ (pv 0) (pv 2)) (pa_cons (pe_op op_fdivZ (pv 1) (pv 2)) pa_nil))))))))), ?_⟩
  refine ⟨_, rfl, rfl, _, rfl, ?_⟩
  refine ite2 (fun c => ?_) (fun c => ?_)
  · exact q0 (V.int.inj (of_decide_eq_true c))
  have hu0 : u ≠ 0 := fun z => c (decide_eq_true (congrArg V.int z))
  refine next_u ?_
  refine seq_asg ⟨_, rfl, _, rfl, o, u, rfl, ?_⟩
  refine seq_by (fun σ H' => H' = H ∧ σ = [some (.int o), some (.int u), some (.int (cOf o u))]) ?_ (fun k => ?_)
  rotate_left
  · refine ⟨_, rfl, _, _, rfl, rfl, _, rfl, ?_⟩
    refine ite2 (fun z => ?_) (fun z => ?_)
    · have z' : u < 0 := of_decide_eq_true z
      refine ⟨_, rfl, _, rfl, k _ _ ⟨rfl, ?_⟩⟩
      unfold cOf
      rw [if_pos z']
      all_goals rfl
    · have z' : ¬ u < 0 := fun e => z (decide_eq_true e)
      refine k _ _ ⟨rfl, ?_⟩
      unfold cOf
      rw [if_neg z']
      all_goals rfl
  rintro σ H' ⟨rfl, rfl⟩
  exact ⟨_, rfl, _, rfl, _, _, rfl, rfl, cOf_ok hu0 hb _, _, rfl, _, rfl, _, _, rfl, rfl, cOf_ok hu0 hb _, (by show 2 ≤ sizeLine; decide), fun p hp => q1 hu0 p hp⟩

/-! ### the bag -/
def spBag (K : PySem.W.Frag) : Sp := fun vs H Q _ => ∃ (a : Addr) (ns : List Int), vs = [.ref a] ∧ SqL K H a (ns.map V.int) ∧ ns.length ≤ 63 ∧ ∀ b c H', Bag H' b c → H b = none → H c = none → Same H H' → Q (.ref b) H'
theorem ok_law_bag (ev : Env K mg) : FnOk P w K mg base CX0 1 ev.f_law_bag ev.d_law_bag p_law_bag (spBag K) := by
  refine ev.A_law_bag.F.ok sc_law_bag (fun vs H Q E h => ?_) (fun cdv A outer s H vs Q E hr h => ?_)
  · obtain ⟨a, ns, rfl, _⟩ := h
    rfl
  obtain ⟨a, ns, rfl, hS, hl, q⟩ := h
  refine ⟨_, (pss_one (ps_ret (pe_lst (pa_cons (pe_callTy call_list_of (by rfl) ev.B.list_ (by decide +kernel) (pa_cons (pe_slice sl_list (pv 0) po_none (po_some pe_int)) pa_nil)) (pa_cons pe_int (pa_cons pe_int pa_nil)))))), ?_⟩
  obtain ⟨ms, em, lm⟩ := cut_ints ns none (some 63)
  refine ⟨_, rfl, _, rfl, a, _, rfl, hS, fun d nd => ?_⟩
  have s1 : Same H (upd H d (.lst (cutV (ns.map V.int) none (some 63)))) := same_upd nd
  refine ⟨d, _, rfl, .inl (SqL.of upd_same), fun c nc => ?_⟩
  have s2 := s1.trans (same_upd (o := .lst (cutV (ns.map V.int) none (some 63))) nc)
  refine ⟨(by show 3 ≤ sizeLine; decide), fun b nb => ?_⟩
  have ne : b ≠ c := fun z => by
    rw [z, upd_same] at nb
    cases nb
  refine q b c _ ⟨ne, ms, 0, 11, upd_same, ?_, by omega, by decide, by decide, by decide⟩ (s2.free nb) (s1.free nc) (s2.trans (same_upd nb))
  rw [upd_ne ne.symm, upd_same, em]

/-! ### a draw -/
def Els (b c : Addr) (H H' : Hp) : Prop := ∀ p, p ≠ b → p ≠ c → H' p = H p
theorem Els.trans {b c : Addr} {H H' H'' : Hp} (h : Els b c H H') (h' : Els b c H' H'') : Els b c H H'' := fun p n m => (h' p n m).trans (h p n m)
theorem Els.kept {b c : Addr} {H H' : Hp} (h : Els b c H H') : Kept b c H H' := fun p _ e n m => (h p n m).trans e
theorem Els.tup {b c p : Addr} {H H' : Hp} {xs : List V} (h : Els b c H H') (hB : Bag H b c) (e : H p = some (.tup xs)) : H' p = some (.tup xs) := by
  obtain ⟨n1, n2⟩ := hB.tup e
  exact (h p n1 n2).trans e
def spDraw : Sp := fun vs H Q _ => ∃ (b c : Addr) (m : Int), vs = [.ref b, .int m] ∧ Bag H b c ∧ 0 < m ∧ m < 1073741824 ∧ ∀ (r : Int) (H' : Hp), 0 ≤ r → r < m → Bag H' b c → Els b c H H' → Q (.int r) H'
theorem ok_law_draw (ev : Env K mg) : FnOk P w K mg base CX0 1 ev.f_law_draw ev.d_law_draw p_law_draw spDraw := by
  refine ev.A_law_draw.F.ok sc_law_draw (fun vs H Q E h => ?_) (fun cdv A outer s H vs Q E hr h => ?_)
  · obtain ⟨b, c, m, rfl, _⟩ := h
    rfl
  obtain ⟨b, c, m, rfl, ⟨ne, ns, slot, seed, hb, hc, hn, h0, h1, h2⟩, m0, m1, q⟩ := h
  refine ⟨_, (pss_cons (ps_set (i := 2) sc_law_draw.nd rfl (Or.inl rfl) (pe_ix ix_list (pv 0) pe_int (fun _ _ => rfl)))
    (pss_cons (ps_set (i := 3) sc_law_draw.nd rfl (Or.inl rfl) (pe_ix ix_list (pv 0) pe_int (fun _ _ => rfl)))
    (pss_cons (ps_set (i := 4) sc_law_draw.nd rfl (Or.inl rfl) pe_int)
    (pss_cons (ps_if (pt_cmpR op_gt (pe_callB call_len_seq (by rfl) ev.B.len_ PySem.boot_len (pa_cons (pv 2) pa_nil)) pe_int (nomark _))
    (pss_one (ps_set (i := 4) sc_law_draw.nd rfl (Or.inl rfl) (pe_ix ix_list (pv 2) (pe_op op_mod (pv 3) (pe_callB call_len_seq (by rfl) ev.B.len_ PySem.boot_len (pa_cons (pv 2) pa_nil))) (fun _ _ => rfl)))) pss_nil)
    (pss_cons (ps_if (pt_cmpR op_lt (pv 4) pe_int (nomark _))
    (pss_one (ps_set (i := 4) sc_law_draw.nd rfl (Or.inl rfl) (pe_op op_sub pe_int (pv 4)))) pss_nil)
    (pss_cons (ps_if (pt_cmpR op_ge (pv 4) (pe_op op_pow pe_int pe_int) (nomark _))
    (pss_cons (ps_asg (pe_op op_fdiv (pv 4) (pv 1)) (pg_sub (pv 2) (pe_op op_mod (pv 3) (pe_callB call_len_seq (by rfl) ev.B.len_ PySem.boot_len (pa_cons (pv 2) pa_nil))) set_list))
    (pss_one (ps_ret (pe_op op_mod (pv 4) (pv 1))))) pss_nil)
    (pss_cons (ps_asg (pe_op op_add (pv 3) pe_int) (pg_sub (pv 0) pe_int set_list))
    (pss_cons (ps_set (i := 5) sc_law_draw.nd rfl (Or.inl rfl) (pe_ix ix_list (pv 0) pe_int (fun _ _ => rfl)))
    (pss_cons (ps_set (i := 5) sc_law_draw.nd rfl (Or.inl rfl) (pe_op op_add (pe_op op_mul (pe_op op_mod (pe_op op_mul (pv 5) (pv 5)) pe_int) pe_int) (pe_op op_mul (pv 5) pe_int)))
    (pss_cons (ps_asg (pe_op op_mod (pe_op op_add (pe_op op_add (pe_op op_add (pv 5) (pe_op op_mul (pv 4) pe_int)) (pe_op op_mul (pv 3) pe_int)) pe_int) pe_int) (pg_sub (pv 0) pe_int set_list))
    (pss_one (ps_ret (pe_op op_mod (pe_op op_fdiv (pe_op op_mod (pe_op op_mul (pe_ix ix_list (pv 0) pe_int (fun _ _ => rfl)) pe_int) pe_int) pe_int) (pv 1)))))))))))))), ?_⟩
  refine seq_asg ⟨_, rfl, b, _, _, _, rfl, rfl, SqL.of hb, atI_nat (j := 0) rfl, ?_⟩
  refine seq_asg ⟨_, rfl, b, _, _, _, rfl, rfl, SqL.of hb, atI_nat (j := 1) rfl, ?_⟩
  have hlm : (ns.map V.int).length = ns.length := List.length_map _
  have len0 : ns ≠ [] → (0 : Int) < (((ns.map V.int).length : Nat) : Int) := fun z => by
    rw [hlm]
    have := List.length_pos_iff.mpr z
    omega
  refine seq_c ?_
  refine seq_by (fun σ H' => H' = H ∧ ∃ cell : Int, σ = [some (.ref b), some (.int m), some (.ref c), some (.int slot), some (.int cell), none] ∧ (cell ≠ 0 → ns ≠ [])) ?_ (fun k => ?_)
  rotate_left
  · refine ⟨_, rfl, c, _, rfl, .inl (SqL.of hc), _, _, rfl, rfl, _, rfl, ?_⟩
    refine ite2 (fun z => ?_) (fun z => ?_)
    · have z' : (0 : Int) < (((ns.map V.int).length : Nat) : Int) := of_decide_eq_true z
      obtain ⟨v, hv⟩ := int_at (ns := ns) (i := slot % (((ns.map V.int).length : Nat) : Int)) (Int.emod_nonneg _ (by omega)) (by rw [← hlm]; exact Int.emod_lt_of_pos _ z')
      refine ⟨_, rfl, _, rfl, _, rfl, c, _, rfl, .inl (SqL.of hc), _, _, rfl, rfl, z', c, _, _, _, rfl, rfl, SqL.of hc, hv, ?_⟩
      refine k _ _ ⟨rfl, v, rfl, fun _ e => ?_⟩
      rw [hlm, e] at z'
      exact absurd z' (by decide)
    · exact k _ _ ⟨rfl, 0, rfl, fun e => absurd rfl e⟩
  rintro σ H' ⟨rfl, cell, rfl, hcell⟩
  refine seq_by (fun σ H2 => H2 = H' ∧ ∃ cell : Int, σ = [some (.ref b), some (.int m), some (.ref c), some (.int slot), some (.int cell), none] ∧ 0 ≤ cell ∧ (cell ≠ 0 → ns ≠ [])) ?_ (fun k => ?_)
  rotate_left
  · refine ⟨_, rfl, _, _, rfl, rfl, _, rfl, ?_⟩
    refine ite2 (fun z => ?_) (fun z => ?_)
    · have z' : cell < 0 := of_decide_eq_true z
      exact ⟨_, rfl, _, _, rfl, rfl, k _ _ ⟨rfl, 1 - cell, rfl, by omega, fun _ => hcell (by omega)⟩⟩
    · have z' : ¬ cell < 0 := fun e => z (decide_eq_true e)
      exact k _ _ ⟨rfl, cell, rfl, by omega, hcell⟩
  rintro σ H' ⟨rfl, cell, rfl, hc0, hcell⟩
  refine ⟨_, rfl, _, _, rfl, rfl, ⟨by decide, by decide, by decide⟩, _, _, rfl, rfl, _, rfl, ?_⟩
  refine ite2 (fun z => ?_) (fun z => ?_)
  · have z' : cell ≥ (10 : Int) ^ (18 : Int).toNat := of_decide_eq_true z
    have zz : cell ≠ 0 := fun e => by
      rw [e] at z'
      exact absurd z' (by decide)
    have z2 := len0 (hcell zz)
    have b0 := Int.emod_nonneg slot (show (((ns.map V.int).length : Nat) : Int) ≠ 0 by omega)
    have b1 := Int.emod_lt_of_pos slot z2
    refine ⟨_, rfl, _, rfl, _, _, rfl, rfl, ⟨m0, m1⟩, _, rfl, _, rfl, _, rfl, c, _, rfl, .inl (SqL.of hc), _, _, rfl, rfl, z2, c, _, _, _, rfl, rfl, hc, ix_at b0 b1, ?_⟩
    refine ⟨_, rfl, _, rfl, _, _, rfl, rfl, m0, ?_⟩
    refine q _ _ (Int.emod_nonneg _ (by omega)) (Int.emod_lt_of_pos _ m0) ⟨ne, ns.set (slot % (((ns.map V.int).length : Nat) : Int)).toNat (cell / m), slot, seed, ?_, ?_, ?_, h0, h1, h2⟩ (fun p n1 n2 => ?_)
    · rw [upd_ne ne]
      exact hb
    · rw [upd_same, set_ints]
    · rw [List.length_set]
      exact hn
    · rw [upd_ne n2]
  · refine next_u ?_
    refine seq_sub ⟨_, rfl, _, _, rfl, rfl, _, rfl, b, _, _, _, rfl, rfl, hb, rfl, ?_⟩
    refine seq_asg ⟨_, rfl, b, _, _, _, rfl, rfl, SqL.of upd_same, atI_nat (j := 2) rfl, ?_⟩
    refine seq_asg ⟨_, rfl, _, rfl, _, _, rfl, rfl, .inl ⟨by omega, by omega⟩, _, _, rfl, rfl, (show (0 : Int) < 2147483629 by decide), _, _, rfl, rfl, .inr ⟨by decide, by decide⟩, _, rfl, _, _, rfl, rfl, .inr ⟨by decide, by decide⟩, _, _, rfl, rfl, ?_⟩
    refine seq_sub ⟨_, rfl, _, rfl, _, _, rfl, rfl, .inr ⟨by decide, by decide⟩, _, _, rfl, rfl, _, rfl, _, _, rfl, rfl, .inr ⟨by decide, by decide⟩, _, _, rfl, rfl, _, _, rfl, rfl, _, _, rfl, rfl, (show (0 : Int) < 2147483647 by decide), _, rfl, b, _, _, _, rfl, rfl, upd_same, rfl, ?_⟩
    generalize hn2 : seed * seed % 2147483629 * 3 + seed * 48271 + cell * 9973 + slot * 31 + 13 = big
    have g0 := Int.emod_nonneg big (show (2147483647 : Int) ≠ 0 by decide)
    have g1 := Int.emod_lt_of_pos big (show (0 : Int) < 2147483647 by decide)
    refine ⟨_, rfl, b, _, _, _, rfl, rfl, SqL.of upd_same, atI_nat (j := 2) rfl, _, _, rfl, rfl, .inr ⟨by decide, by decide⟩, _, _, rfl, rfl, (show (0 : Int) < 2147483629 by decide), _, _, rfl, rfl, ⟨by decide, by decide⟩, _, rfl, _, _, rfl, rfl, m0, ?_⟩
    refine q _ _ (Int.emod_nonneg _ (by omega)) (Int.emod_lt_of_pos _ m0) ⟨ne, ns, slot + 1, big % 2147483647, ?_, ?_, hn, by omega, g0, g1⟩ (fun p n1 n2 => ?_)
    · rw [upd_same]
      all_goals rfl
    · rw [upd_ne ne.symm, upd_ne ne.symm]
      exact hc
    · rw [upd_ne n1, upd_ne n1]

/-! ### whole numbers, things alike -/
def spWhole : Sp := fun vs H Q _ => ∃ i : Int, vs = [.int i] ∧ Q (.bl true) H
theorem ok_law_whole (ev : Env K mg) : FnOk P w K mg base CX0 1 ev.f_law_whole ev.d_law_whole p_law_whole spWhole := by
  refine ev.A_law_whole.F.ok sc_law_whole (fun vs H Q E h => ?_) (fun cdv A outer s H vs Q E hr h => ?_)
  · obtain ⟨i, rfl, _⟩ := h
    rfl
  obtain ⟨i, rfl, q⟩ := h
  refine ⟨_, (pss_one (ps_ret (pe_and (pe_callB call_isi (by rfl) ev.B.isinstance_ (by decide +kernel) (pa_cons (pv 0) (pa_cons (pe_bltn (v := .ty "int") (by rfl) ev.B.int_ (by decide +kernel) rfl) pa_nil))) (pe_one (pe_not (pe_callB call_isi (by rfl) ev.B.isinstance_ (by decide +kernel) (pa_cons (pv 0) (pa_cons (pe_bltn (v := .ty "bool") (by rfl) ev.B.bool_ (by decide +kernel) rfl) pa_nil)))))))), ?_⟩
  refine ⟨_, rfl, _, _, _, _, true, rfl, .ty _, .base (.int i), kit_ty (by decide +kernel), true, rfl, ?_⟩
  refine iteT ?_
  exact ⟨_, rfl, _, _, _, _, false, rfl, .ty _, .base (.int i), kit_ty (by decide +kernel), false, rfl, q⟩

/-- two things that the law finds the same, n levels deep -/
def flat1 : V → Bool
  | .non => true
  | .bl _ => true
  | .int _ => true
  | .str _ => true
  | _ => false
def Sm (H : Hp) : Nat → V → V → Prop
  | 0, x, y => flat1 x = true ∧ x = y
  | n + 1, x, y => (flat1 x = true ∧ x = y) ∨
    (∃ a b xs ys, x = .ref a ∧ y = .ref b ∧ H a = some (.tup xs) ∧ H b = some (.tup ys) ∧ xs.length = ys.length ∧ xs.length ≤ 1000 ∧ ∀ (i : Nat) u v, xs[i]? = some u → ys[i]? = some v → Sm H n u v) ∨
    (∃ a b xs ys, x = .ref a ∧ y = .ref b ∧ H a = some (.lst xs) ∧ H b = some (.lst ys) ∧ xs.length = ys.length ∧ xs.length ≤ 1000 ∧ ∀ (i : Nat) u v, xs[i]? = some u → ys[i]? = some v → Sm H n u v)
theorem Sm.same {H H' : Hp} (s : Same H H') : ∀ {n : Nat} {x y : V}, Sm H n x y → Sm H' n x y
  | 0, _, _, h => h
  | n + 1, x, y, h => by
    rcases h with h | ⟨a, b, xs, ys, h1, h2, h3, h4, h5, h6, h7⟩ | ⟨a, b, xs, ys, h1, h2, h3, h4, h5, h6, h7⟩
    · exact .inl h
    · exact .inr (.inl ⟨a, b, xs, ys, h1, h2, s _ _ h3, s _ _ h4, h5, h6, fun i u v e e' => (h7 i u v e e').same s⟩)
    · exact .inr (.inr ⟨a, b, xs, ys, h1, h2, s _ _ h3, s _ _ h4, h5, h6, fun i u v e e' => (h7 i u v e e').same s⟩)
theorem Sm.flat {H : Hp} {x : V} (h : flat1 x = true) : ∀ n, Sm H n x x
  | 0 => ⟨h, rfl⟩
  | _ + 1 => .inl ⟨h, rfl⟩
theorem Sm.tupEq {H : Hp} {a b : Addr} {xs : List V} {n : Nat} (ha : H a = some (.tup xs)) (hb : H b = some (.tup xs)) (hl : xs.length ≤ 1000) (hf : ∀ x ∈ xs, flat1 x = true) : Sm H (n + 1) (.ref a) (.ref b) :=
  .inr (.inl ⟨a, b, xs, xs, rfl, rfl, ha, hb, rfl, hl, fun i u v e e' => by
    rw [e] at e'
    cases e'
    exact Sm.flat (hf u (List.mem_of_getElem? e)) n⟩)
theorem Sm.two {H : Hp} {a b : Addr} {x y : V} {n : Nat} (ha : H a = some (.tup [x, y])) (hb : H b = some (.tup [x, y])) (hx : flat1 x = true) (hy : flat1 y = true) : Sm H (n + 1) (.ref a) (.ref b) :=
  Sm.tupEq ha hb (by show 2 ≤ 1000; decide) fun z hz => by
    simp only [List.mem_cons, List.not_mem_nil, or_false] at hz
    rcases hz with rfl | rfl
    · exact hx
    · exact hy
theorem kA {K : PySem.W.Frag} {t : String} (h1 : kitB t "bool" = some false) (h2 : kitB t "str" = some false) : PySem.W.kitAny K (.type t) [.type "bool", .type "str"] = some false :=
  kitAny_cons (kit_ty h1) (fun _ => kitAny_cons (kit_ty h2) (fun _ => rfl) (fun z => nomatch z)) (fun z => nomatch z)
theorem kBool {K : PySem.W.Frag} : PySem.W.kitAny K (.type "bool") [.type "bool", .type "str"] = some true :=
  kitAny_cons (b := true) (kit_ty (by decide +kernel)) (fun z => nomatch z) (fun _ => rfl)
theorem kStr {K : PySem.W.Frag} : PySem.W.kitAny K (.type "str") [.type "bool", .type "str"] = some true :=
  kitAny_cons (b := false) (kit_ty (by decide +kernel)) (fun _ => kitAny_cons (b := true) (kit_ty (by decide +kernel)) (fun z => nomatch z) (fun _ => rfl)) (fun z => nomatch z)
theorem prBS : Paired ClsV [V.ty "bool", V.ty "str"] [.type "bool", .type "str"] := .cons (.ty _) (.cons (.ty _) .nil)
def spSame : Nat → Sp
  | 0 => fun _ _ _ _ => False
  | n + 1 => fun vs H Q _ => ∃ x y : V, vs = [x, y] ∧ Sm H n x y ∧ ∀ H', Same H H' → Q (.bl true) H'
theorem ok_same1 {n : Nat} (ev : Env K mg) (GS : FnOk P w K mg base CX0 (n + 1) ev.f_law_same ev.d_law_same p_law_same (spSame n)) : FnOk P w K mg base CX0 (n + 2) ev.f_law_same ev.d_law_same p_law_same (spSame (n + 1)) := by
  refine ev.A_law_same.F.ok sc_law_same (fun vs H Q E h => ?_) (fun cdv A outer s H vs Q E hr h => ?_)
  · obtain ⟨x, y, rfl, _⟩ := h
    rfl
  obtain ⟨x, y, rfl, hS, q⟩ := h
  have hr1 : Room 1 _ := hr.mono (by omega)
  refine ⟨_, (pss_cons (ps_if (PW.pt (pw_or (pt_cmpR op_isN (pv 1) pe_non (nomark _)) (pw_or1 (pt_val (pe_callB call_isiT (by rfl) ev.B.isinstance_ (by decide +kernel) (pa_cons (pv 1) (pa_cons (pe_tup (pa_cons (pe_bltn (v := .ty "bool") (by rfl) ev.B.bool_ (by decide +kernel) rfl) (pa_cons (pe_bltn (v := .ty "str") (by rfl) ev.B.str_ (by decide +kernel) rfl) pa_nil))) pa_nil)))))))
    (pss_cons (ps_if (pt_cmpR op_isN (pv 1) pe_non (nomark _))
    (pss_one (ps_ret (pe_cmpR op_isN (pv 0) pe_non (nomark _)))) pss_nil)
    (pss_one (ps_ret (pe_and (pe_callB call_isiT (by rfl) ev.B.isinstance_ (by decide +kernel) (pa_cons (pv 0) (pa_cons (pe_tup (pa_cons (pe_bltn (v := .ty "bool") (by rfl) ev.B.bool_ (by decide +kernel) rfl) (pa_cons (pe_bltn (v := .ty "str") (by rfl) ev.B.str_ (by decide +kernel) rfl) pa_nil))) pa_nil))) (pe_one (pe_cmpR op_eq (pv 0) (pv 1) (nomark _))))))) pss_nil)
    (pss_cons (ps_if (pt_val (pe_callB call_isi (by rfl) ev.B.isinstance_ (by decide +kernel) (pa_cons (pv 1) (pa_cons (pe_bltn (v := .ty "int") (by rfl) ev.B.int_ (by decide +kernel) rfl) pa_nil))))
    (pss_one (ps_ret (pe_and (pe_call (ok_law_whole ev) hr1 (by rfl) ev.A_law_whole.m ev.A_law_whole.F.kp ev.A_law_whole.b .nil pass0 (pa_cons (pv 0) pa_nil)) (pe_one (pe_cmpR op_eq (pv 0) (pv 1) (nomark _)))))) pss_nil)
    (pss_cons (ps_if (pt_val (pe_callB call_isi (by rfl) ev.B.isinstance_ (by decide +kernel) (pa_cons (pv 1) (pa_cons (pe_bltn (v := .ty "dict") (by rfl) ev.B.dict_ (by decide +kernel) rfl) pa_nil))))
    (pss_cons ps_never
    (pss_one ps_never)) pss_nil)
    (pss_cons (ps_if (pt_cmpR op_ne (pe_callB call_isi (by rfl) ev.B.isinstance_ (by decide +kernel) (pa_cons (pv 1) (pa_cons (pe_bltn (v := .ty "tuple") (by rfl) ev.B.tuple_ (by decide +kernel) rfl) pa_nil))) (pe_callB call_isi (by rfl) ev.B.isinstance_ (by decide +kernel) (pa_cons (pv 0) (pa_cons (pe_bltn (v := .ty "tuple") (by rfl) ev.B.tuple_ (by decide +kernel) rfl) pa_nil))) (nomark _))
    (pss_one (ps_ret pe_bl)) pss_nil)
    (pss_cons (ps_if (PW.pt (pw_or (pt_cmpR op_ne (pe_callB call_isi (by rfl) ev.B.isinstance_ (by decide +kernel) (pa_cons (pv 1) (pa_cons (pe_bltn (v := .ty "list") (by rfl) ev.B.list_ (by decide +kernel) rfl) pa_nil))) (pe_callB call_isi (by rfl) ev.B.isinstance_ (by decide +kernel) (pa_cons (pv 0) (pa_cons (pe_bltn (v := .ty "list") (by rfl) ev.B.list_ (by decide +kernel) rfl) pa_nil))) (nomark _)) (pw_or1 (pt_cmpR op_ne (pe_callB call_len_seq (by rfl) ev.B.len_ PySem.boot_len (pa_cons (pv 0) pa_nil)) (pe_callB call_len_seq (by rfl) ev.B.len_ PySem.boot_len (pa_cons (pv 1) pa_nil)) (nomark _)))))
    (pss_one (ps_ret pe_bl)) pss_nil)
    (pss_one (ps_ret (pe_callB (cr_all rfl) (by rfl) ev.B.all_ (by decide +kernel) (pa_cons (pe_lc (own := [("_law_k", 3)]) (g := gName 3) (tt := tYes) (by rfl) sc_law_same.nd (pi_range1 rfl ev.B.range_ (pa_cons (pe_callB call_len_seq (by rfl) ev.B.len_ PySem.boot_len (pa_cons (pv 1) pa_nil)) pa_nil)) (blkOk_by (own := [("_law_k", 3)]) (N := n_law_same) (sc := defScope s_law_same) (by decide +kernel)) (fun _ _ _ _ _ => pg_name (i := 3) sc_law_same.nd rfl (Or.inl rfl)) (fun _ _ _ _ _ => pts_nil) (fun _ _ _ _ _ => (pe_call GS hr (by rfl) ev.A_law_same.m ev.A_law_same.F.kp ev.A_law_same.b .nil pass0 (pa_cons (pe_ix (show IxR _ (rIx K) from ix_seq) (pv 0) (pv 3) (fun _ _ => rfl)) (pa_cons (pe_ix (show IxR _ (rIx K) from ix_seq) (pv 1) (pv 3) (fun _ _ => rfl)) pa_nil))))) pa_nil))))))))), ?_⟩
  by_cases hf : flat1 x = true ∧ x = y
  · obtain ⟨hf, rfl⟩ := hf
    cases x with
    | non =>
      refine ⟨_, rfl, rfl, _, rfl, iteT (iteT ?_)⟩
      refine ⟨_, rfl, rfl, _, rfl, iteT ?_⟩
      exact ⟨_, rfl, rfl, q H fun _ _ e => e⟩
    | bl b =>
      refine ⟨_, rfl, rfl, _, rfl, iteF ⟨_, rfl, two, fun tp htp => ⟨_, tp, _, _, _, true, rfl, upd_same, prBS, .base (.bl b), kBool, true, rfl, iteT ?_⟩⟩⟩
      refine ⟨_, rfl, rfl, _, rfl, iteF ?_⟩
      refine ⟨_, rfl, two, fun tq htq => ⟨_, tq, _, _, _, true, rfl, upd_same, prBS, .base (.bl b), kBool, true, rfl, iteT ?_⟩⟩
      refine ⟨_, rfl, _, rfl, rfl, ?_⟩
      rw [decide_eq_true rfl]
      exact q _ ((same_upd htp).trans (same_upd htq))
    | int i =>
      refine ⟨_, rfl, rfl, _, rfl, iteF ⟨_, rfl, two, fun tp htp => ⟨_, tp, _, _, _, false, rfl, upd_same, prBS, .base (.int i), kA (by decide +kernel) (by decide +kernel), false, rfl, iteF ?_⟩⟩⟩
      refine ⟨_, rfl, _, _, _, _, true, rfl, .ty _, .base (.int i), kit_ty (by decide +kernel), true, rfl, iteT ?_⟩
      refine ⟨_, rfl, i, rfl, true, rfl, iteT ?_⟩
      refine ⟨_, rfl, _, rfl, rfl, ?_⟩
      rw [decide_eq_true rfl]
      exact q _ (same_upd htp)
    | str z =>
      refine ⟨_, rfl, rfl, _, rfl, iteF ⟨_, rfl, two, fun tp htp => ⟨_, tp, _, _, _, true, rfl, upd_same, prBS, .base (.str z), kStr, true, rfl, iteT ?_⟩⟩⟩
      refine ⟨_, rfl, rfl, _, rfl, iteF ?_⟩
      refine ⟨_, rfl, two, fun tq htq => ⟨_, tq, _, _, _, true, rfl, upd_same, prBS, .base (.str z), kStr, true, rfl, iteT ?_⟩⟩
      refine ⟨_, rfl, _, rfl, rfl, ?_⟩
      rw [decide_eq_true rfl]
      exact q _ ((same_upd htp).trans (same_upd htq))
    | _ => cases hf
  · cases n with
    | zero => exact absurd hS hf
    | succ m =>
      rcases hS with hS | ⟨a, b, xs, ys, rfl, rfl, ha, hb, hl, h1000, he⟩ | ⟨a, b, xs, ys, rfl, rfl, ha, hb, hl, h1000, he⟩
      · exact absurd hS hf
      · refine ⟨_, rfl, rfl, _, rfl, iteF ⟨_, rfl, two, fun tp htp => ⟨_, tp, _, _, _, false, rfl, upd_same, prBS, .base (.tup (xs := ys) ?_), kA (by decide +kernel) (by decide +kernel), false, rfl, iteF ?_⟩⟩⟩
        · exact same_upd htp _ _ hb
        have s1 : Same H (upd H tp (.tup [V.ty "bool", V.ty "str"])) := same_upd htp
        generalize upd H tp (.tup [V.ty "bool", V.ty "str"]) = H1 at s1
        have ha' := s1 _ _ ha
        have hb' := s1 _ _ hb
        refine ⟨_, rfl, _, _, _, _, false, rfl, .ty _, .base (.tup hb'), kit_ty (by decide +kernel), false, rfl, iteF ?_⟩
        refine ⟨_, rfl, _, _, _, _, false, rfl, .ty _, .base (.tup hb'), kit_ty (by decide +kernel), false, rfl, iteF ?_⟩
        refine ⟨_, rfl, _, _, _, _, true, rfl, .ty _, .base (.tup hb'), kit_ty (by decide +kernel), _, rfl, _, _, _, _, true, rfl, .ty _, .base (.tup ha'), kit_ty (by decide +kernel), rfl, _, rfl, iteF ?_⟩
        refine ⟨_, rfl, _, _, _, _, false, rfl, .ty _, .base (.tup hb'), kit_ty (by decide +kernel), _, rfl, _, _, _, _, false, rfl, .ty _, .base (.tup ha'), kit_ty (by decide +kernel), rfl, _, rfl, iteF ?_⟩
        refine ⟨_, rfl, a, _, rfl, .inr (SqT.of ha'), _, rfl, b, _, rfl, .inr (SqT.of hb'), rfl, _, rfl, ?_⟩
        refine iteNS (by rw [hl]) ?_
        refine ⟨_, rfl, b, _, rfl, .inr (SqT.of hb'), _, rfl, by omega, by omega, fun D hD => ?_⟩
        refine lc_range (lo := 0) (n := ys.length) (fun i H2 => Same H1 H2 ∧ H2 D = some (.lst ((List.replicate i true).map V.bl))) ⟨same_upd hD, upd_same⟩ ?_ ?_
        · rintro i H2 hi ⟨s2, hD2⟩
          have e1 : atI xs (0 + (i : Int)) = some xs[i] := by
            rw [Int.zero_add]
            exact atI_nat (List.getElem?_eq_getElem (by omega))
          have e2 : atI ys (0 + (i : Int)) = some ys[i] := by
            rw [Int.zero_add]
            exact atI_nat (List.getElem?_eq_getElem hi)
          refine ⟨rfl, yes_ ?_⟩
          refine ⟨_, rfl, _, rfl, .inr <| .inl ⟨a, xs, _, _, rfl, rfl, SqT.of (s2 _ _ ha'), e1, ?_⟩⟩
          refine ⟨_, rfl, _, rfl, .inr <| .inl ⟨b, ys, _, _, rfl, rfl, SqT.of (s2 _ _ hb'), e2, ?_⟩⟩
          refine ⟨_, _, rfl, (he i _ _ (List.getElem?_eq_getElem (by omega)) (List.getElem?_eq_getElem hi)).same (s1.trans s2), fun H3 s3 => ?_⟩
          refine ⟨_, s3 _ _ hD2, ?_, fun p o e => ?_, ?_⟩
          · rw [List.length_map, List.length_replicate]
            exact small1000 (by omega)
          · have np : p ≠ D := ne_of_none e hD
            rw [upd_ne np]
            exact s3 _ _ (s2 _ _ e)
          · rw [upd_same, List.replicate_succ', List.map_append]
            rfl
        · rintro H2 ⟨s2, hD2⟩
          refine ⟨D, _, rfl, SqL.of hD2, ?_⟩
          rw [show (List.replicate ys.length true).all id = true by simp]
          exact q H2 (s1.trans s2)
      · refine ⟨_, rfl, rfl, _, rfl, iteF ⟨_, rfl, two, fun tp htp => ⟨_, tp, _, _, _, false, rfl, upd_same, prBS, .base (.lst (xs := ys) ?_), kA (by decide +kernel) (by decide +kernel), false, rfl, iteF ?_⟩⟩⟩
        · exact same_upd htp _ _ hb
        have s1 : Same H (upd H tp (.tup [V.ty "bool", V.ty "str"])) := same_upd htp
        generalize upd H tp (.tup [V.ty "bool", V.ty "str"]) = H1 at s1
        have ha' := s1 _ _ ha
        have hb' := s1 _ _ hb
        refine ⟨_, rfl, _, _, _, _, false, rfl, .ty _, .base (.lst hb'), kit_ty (by decide +kernel), false, rfl, iteF ?_⟩
        refine ⟨_, rfl, _, _, _, _, false, rfl, .ty _, .base (.lst hb'), kit_ty (by decide +kernel), false, rfl, iteF ?_⟩
        refine ⟨_, rfl, _, _, _, _, false, rfl, .ty _, .base (.lst hb'), kit_ty (by decide +kernel), _, rfl, _, _, _, _, false, rfl, .ty _, .base (.lst ha'), kit_ty (by decide +kernel), rfl, _, rfl, iteF ?_⟩
        refine ⟨_, rfl, _, _, _, _, true, rfl, .ty _, .base (.lst hb'), kit_ty (by decide +kernel), _, rfl, _, _, _, _, true, rfl, .ty _, .base (.lst ha'), kit_ty (by decide +kernel), rfl, _, rfl, iteF ?_⟩
        refine ⟨_, rfl, a, _, rfl, .inl (SqL.of ha'), _, rfl, b, _, rfl, .inl (SqL.of hb'), rfl, _, rfl, ?_⟩
        refine iteNS (by rw [hl]) ?_
        refine ⟨_, rfl, b, _, rfl, .inl (SqL.of hb'), _, rfl, by omega, by omega, fun D hD => ?_⟩
        refine lc_range (lo := 0) (n := ys.length) (fun i H2 => Same H1 H2 ∧ H2 D = some (.lst ((List.replicate i true).map V.bl))) ⟨same_upd hD, upd_same⟩ ?_ ?_
        · rintro i H2 hi ⟨s2, hD2⟩
          have e1 : atI xs (0 + (i : Int)) = some xs[i] := by
            rw [Int.zero_add]
            exact atI_nat (List.getElem?_eq_getElem (by omega))
          have e2 : atI ys (0 + (i : Int)) = some ys[i] := by
            rw [Int.zero_add]
            exact atI_nat (List.getElem?_eq_getElem hi)
          refine ⟨rfl, yes_ ?_⟩
          refine ⟨_, rfl, _, rfl, .inl ⟨a, xs, _, _, rfl, rfl, SqL.of (s2 _ _ ha'), e1, ?_⟩⟩
          refine ⟨_, rfl, _, rfl, .inl ⟨b, ys, _, _, rfl, rfl, SqL.of (s2 _ _ hb'), e2, ?_⟩⟩
          refine ⟨_, _, rfl, (he i _ _ (List.getElem?_eq_getElem (by omega)) (List.getElem?_eq_getElem hi)).same (s1.trans s2), fun H3 s3 => ?_⟩
          refine ⟨_, s3 _ _ hD2, ?_, fun p o e => ?_, ?_⟩
          · rw [List.length_map, List.length_replicate]
            exact small1000 (by omega)
          · have np : p ≠ D := ne_of_none e hD
            rw [upd_ne np]
            exact s3 _ _ (s2 _ _ e)
          · rw [upd_same, List.replicate_succ', List.map_append]
            rfl
        · rintro H2 ⟨s2, hD2⟩
          refine ⟨D, _, rfl, SqL.of hD2, ?_⟩
          rw [show (List.replicate ys.length true).all id = true by simp]
          exact q H2 (s1.trans s2)
theorem same_none {f : Addr} {fd : FuncData} : FnOk P w K mg base CX0 1 f fd p_law_same (spSame 0) :=
  ⟨fun _ _ _ _ h => h.elim, fun _ _ _ _ _ _ _ _ _ _ _ _ _ h => h.elim⟩
theorem ok_same (ev : Env K mg) : ∀ n, FnOk P w K mg base CX0 (n + 1) ev.f_law_same ev.d_law_same p_law_same (spSame n)
  | 0 => same_none
  | n + 1 => ok_same1 ev (ok_same ev n)

/-! ### one of several -/
def spAny : Sp := fun vs H Q _ => ∃ (b c l : Addr) (xs : List V), vs = [.ref b, .ref l] ∧ Bag H b c ∧ l ≠ b ∧ l ≠ c ∧ H l = some (.lst xs) ∧ xs ≠ [] ∧ xs.length ≤ 1000 ∧ ∀ (v : V) (H' : Hp), v ∈ xs → Bag H' b c → Els b c H H' → Q v H'
theorem ok_law_any (ev : Env K mg) : FnOk P w K mg base CX0 2 ev.f_law_any ev.d_law_any p_law_any spAny := by
  refine ev.A_law_any.F.ok sc_law_any (fun vs H Q E h => ?_) (fun cdv A outer s H vs Q E hr h => ?_)
  · obtain ⟨b, c, l, xs, rfl, _⟩ := h
    rfl
  obtain ⟨b, c, l, xs, rfl, hB, lb, lc, hl, hx, h1000, q⟩ := h
  refine ⟨_, (pss_one (ps_ret (pe_ix ix_list (pv 1) (pe_call (ok_law_draw ev) (hr.mono (by decide)) (by rfl) ev.A_law_draw.m ev.A_law_draw.F.kp ev.A_law_draw.b .nil pass0 (pa_cons (pv 0) (pa_cons (pe_callB call_len_seq (by rfl) ev.B.len_ PySem.boot_len (pa_cons (pv 1) pa_nil)) pa_nil))) (fun _ _ => rfl)))), ?_⟩
  have l0 := List.length_pos_iff.mpr hx
  refine ⟨_, rfl, _, rfl, _, rfl, l, _, rfl, .inl (SqL.of hl), b, c, _, rfl, hB, by omega, by omega, fun r H' r0 r1 hB' ex => ?_⟩
  have hl' : H' l = some (.lst xs) := (ex l lb lc).trans hl
  obtain ⟨v, hv, e⟩ := at_mem (xs := xs) r0 r1
  exact ⟨l, _, _, _, rfl, rfl, SqL.of hl', e, q _ _ hv hB' ex⟩

/-! ### a great number -/
def spBig : Sp := fun vs H Q _ => ∃ (b c : Addr), vs = [.ref b] ∧ Bag H b c ∧ ∀ (r : Int) (H' : Hp), r.natAbs < 2 ^ 92 → Bag H' b c → Els b c H H' → Q (.int r) H'
theorem ok_law_big (ev : Env K mg) : FnOk P w K mg base CX0 2 ev.f_law_big ev.d_law_big p_law_big spBig := by
  refine ev.A_law_big.F.ok sc_law_big (fun vs H Q E h => ?_) (fun cdv A outer s H vs Q E hr h => ?_)
  · obtain ⟨b, c, rfl, _⟩ := h
    rfl
  obtain ⟨b, c, rfl, hB, q⟩ := h
  refine ⟨_, (pss_cons (ps_set (i := 1) sc_law_big.nd rfl (Or.inl rfl) (pe_call (ok_law_draw ev) (hr.mono (by decide)) (by rfl) ev.A_law_draw.m ev.A_law_draw.F.kp ev.A_law_draw.b .nil pass0 (pa_cons (pv 0) (pa_cons pe_int pa_nil))))
    (pss_cons (ps_if (pt_cmpR op_eq (pv 1) pe_int (nomark _))
    (pss_one (ps_ret (pe_op op_sub (pe_call (ok_law_draw ev) (hr.mono (by decide)) (by rfl) ev.A_law_draw.m ev.A_law_draw.F.kp ev.A_law_draw.b .nil pass0 (pa_cons (pv 0) (pa_cons pe_int pa_nil))) pe_int))) pss_nil)
    (pss_cons (ps_if (pt_cmpR op_eq (pv 1) pe_int (nomark _))
    (pss_one (ps_ret (pe_op op_sub (pe_call (ok_law_draw ev) (hr.mono (by decide)) (by rfl) ev.A_law_draw.m ev.A_law_draw.F.kp ev.A_law_draw.b .nil pass0 (pa_cons (pv 0) (pa_cons pe_int pa_nil))) pe_int))) pss_nil)
    (pss_cons (ps_set (i := 2) sc_law_big.nd rfl (Or.inl rfl) (pe_op op_mul (pe_op op_add (pe_call (ok_law_draw ev) (hr.mono (by decide)) (by rfl) ev.A_law_draw.m ev.A_law_draw.F.kp ev.A_law_draw.b .nil pass0 (pa_cons (pv 0) (pa_cons (pe_op op_add (pe_op op_pow pe_int pe_int) pe_int) pa_nil))) pe_int) (pe_op op_sub (pe_op op_mul (pe_call (ok_law_draw ev) (hr.mono (by decide)) (by rfl) ev.A_law_draw.m ev.A_law_draw.F.kp ev.A_law_draw.b .nil pass0 (pa_cons (pv 0) (pa_cons pe_int pa_nil))) pe_int) pe_int)))
    (pss_one (ps_ret (pe_op op_mul (pv 2) (pe_op op_add pe_int (pe_op op_mul (pe_call (ok_law_draw ev) (hr.mono (by decide)) (by rfl) ev.A_law_draw.m ev.A_law_draw.F.kp ev.A_law_draw.b .nil pass0 (pa_cons (pv 0) (pa_cons pe_int pa_nil))) (pe_op op_pow pe_int pe_int)))))))))), ?_⟩
  refine seq_asg ⟨_, rfl, b, c, 4, rfl, hB, by decide, by decide, fun k H1 k0 k1 hB1 ex1 => ?_⟩
  refine ⟨_, rfl, rfl, _, rfl, ite2 (fun _ => ?_) (fun _ => ?_)⟩
  · refine ⟨_, rfl, b, c, 7, rfl, hB1, by decide, by decide, fun r H2 r0 r1 hB2 ex2 => ⟨_, _, rfl, rfl, ?_⟩⟩
    exact q _ _ (by omega) hB2 (ex1.trans ex2)
  refine ⟨_, rfl, rfl, _, rfl, ite2 (fun _ => ?_) (fun _ => ?_)⟩
  · refine ⟨_, rfl, b, c, 2001, rfl, hB1, by decide, by decide, fun r H2 r0 r1 hB2 ex2 => ⟨_, _, rfl, rfl, ?_⟩⟩
    exact q _ _ (by omega) hB2 (ex1.trans ex2)
  refine next_u ?_
  refine seq_asg ⟨_, rfl, _, _, rfl, rfl, ⟨by decide, by decide, by decide⟩, _, _, rfl, rfl, b, c, _, rfl, hB1, by decide, by decide, fun r H2 r0 r1 hB2 ex2 => ⟨_, _, rfl, rfl, ?_⟩⟩
  have e7 : (10 : Int) ^ (9 : Int).toNat + 7 = 1000000007 := by decide
  rw [e7] at r1
  refine ⟨_, rfl, b, c, 2, rfl, hB2, by decide, by decide, fun g H3 g0 g1 hB3 ex3 => ⟨_, _, rfl, rfl, .inr ⟨by decide, by decide⟩, _, _, rfl, rfl, _, _, rfl, rfl, .inl ⟨by omega, by omega⟩, ?_⟩⟩
  have f1 : ((r + 1000) * (g * 2 - 1)).natAbs < 2 ^ 31 := by
    rcases (show g = 0 ∨ g = 1 by omega) with rfl | rfl <;> omega
  refine ⟨_, rfl, _, rfl, b, c, 3, rfl, hB3, by decide, by decide, fun t H4 t0 t1 hB4 ex4 => ⟨_, _, rfl, rfl, ⟨by decide, by decide, by decide⟩, _, _, rfl, rfl, .inl ⟨by omega, by omega⟩, _, _, rfl, rfl, _, _, rfl, rfl, .inl ⟨by omega, by omega⟩, ?_⟩⟩
  refine q _ _ ?_ hB4 (ex1.trans (ex2.trans (ex3.trans ex4)))
  have e18 : (10 : Int) ^ (18 : Int).toNat = 1000000000000000000 := by decide
  rw [e18]
  rw [Int.natAbs_mul]
  exact Nat.lt_of_lt_of_le (Nat.mul_lt_mul'' f1 (show (1 + t * 1000000000000000000).natAbs < 2 ^ 61 by omega)) (by decide)

/-! ### the law's own ratio -/
def spRat : Sp := fun vs H Q _ => ∃ o u : Int, vs = [.int o, .int u] ∧ u.natAbs < 2 ^ 9000 ∧ u ≠ 0 ∧ ∀ p, H p = none → Q (.ref p) (upd H p (.tup [.int (rN o u), .int (rD o u)]))
theorem ok_law_rat (ev : Env K mg) : FnOk P w K mg base CX0 1 ev.f_law_rat ev.d_law_rat p_law_rat spRat := by
  refine ev.A_law_rat.F.ok sc_law_rat (fun vs H Q E h => ?_) (fun cdv A outer s H vs Q E hr h => ?_)
  · obtain ⟨o, u, rfl, _⟩ := h
    rfl
  obtain ⟨o, u, rfl, hb, hu0, q⟩ := h
  refine ⟨_, (pss_cons (ps_par (i := 2) (j := 3) (by rfl) sc_law_rat.nd rfl rfl (by decide) rfl rfl (pa_cons (pe_callB call_abs (by rfl) ev.B.abs_ (by decide +kernel) (pa_cons (pv 0) pa_nil)) (pa_cons (pe_callB call_abs (by rfl) ev.B.abs_ (by decide +kernel) (pa_cons (pv 1) pa_nil)) pa_nil)) (by rfl))
    (pss_cons (ps_while PassesOwn.never (pt_cmpR op_gt (pv 3) pe_int (nomark _))
    (pss_one (ps_par (i := 2) (j := 3) (by rfl) sc_law_rat.nd rfl rfl (by decide) rfl rfl (pa_cons (pv 3) (pa_cons (pe_op op_modN (pv 2) (pv 3)) pa_nil)) (by rfl))))
    (pss_cons (ps_if (pt_cmpR op_lt (pv 1) pe_int (nomark _))
    (pss_one (ps_set (i := 2) sc_law_rat.nd rfl (Or.inl rfl) (pe_op op_sub pe_int (pv 2)))) pss_nil)
    (pss_one (ps_ret (pe_tup (pa_cons (pe_op op_fdivZ (pv 0) (pv 2)) (pa_cons (pe_op op_fdivZ (pv 1) (pv 2)) pa_nil)))))))), ?_⟩
  refine ⟨_, rfl, _, rfl, _, rfl, _, rfl, _, _, rfl, ?_⟩
  rw [abs_if, abs_if]
  refine ⟨fun m σ H' => H' = H ∧ ∃ x y : Int, σ = [some (.int o), some (.int u), some (.int x), some (.int y)] ∧ 0 ≤ x ∧ 0 ≤ y ∧ m = y.natAbs ∧ Int.gcd x y = Int.gcd o u, ⟨_, rfl, o.natAbs, u.natAbs, rfl, by omega, by omega, rfl, ?_⟩, ?_⟩
  · unfold Int.gcd
    rw [Int.natAbs_natCast, Int.natAbs_natCast]
  rintro m σ H' ⟨rfl, x, y, rfl, x0, y0, rfl, e⟩
  refine ⟨_, rfl, _, _, rfl, rfl, _, rfl, ?_⟩
  refine ite2 (fun c => ?_) (fun c => ?_)
  · have hy : 0 < y := of_decide_eq_true c
    refine ⟨fun σ' H2 => H2 = H' ∧ σ' = [some (.int o), some (.int u), some (.int y), some (.int (x.fmod y))], ?_, ?_⟩
    · rintro σ' H2 ⟨rfl, rfl⟩
      exact ⟨_, fmod_abs_lt x (by omega), rfl, y, _, rfl, y0, Int.fmod_nonneg_of_pos x hy, rfl, (gcd_fmod x y).trans e⟩
    · exact ⟨_, rfl, _, rfl, _, rfl, _, _, rfl, rfl, (by show y ≠ 0; omega), _, _, rfl, rfl, rfl⟩
  · have hy : y = 0 := by
      have : ¬ 0 < y := fun z => c (decide_eq_true z)
      omega
    subst hy
    rw [Int.gcd_zero_right] at e
    have ex : x = ((Int.gcd o u : Nat) : Int) := by omega
    subst ex
    refine nx_u ?_
    refine seq_by (fun σ H2 => H2 = H' ∧ ∃ y, σ = [some (.int o), some (.int u), some (.int (cOf o u)), y]) ?_ (fun k => ?_)
    rotate_left
    · refine ⟨_, rfl, _, _, rfl, rfl, _, rfl, ?_⟩
      refine ite2 (fun z => ?_) (fun z => ?_)
      · have z' : u < 0 := of_decide_eq_true z
        refine ⟨_, rfl, _, _, rfl, rfl, k _ _ ⟨rfl, some (.int 0), ?_⟩⟩
        unfold cOf
        rw [if_pos z', ← Int.zero_sub]
        all_goals rfl
      · have z' : ¬ u < 0 := fun e => z (decide_eq_true e)
        refine k _ _ ⟨rfl, some (.int 0), ?_⟩
        unfold cOf
        rw [if_neg z']
        all_goals rfl
    rintro σ H' ⟨rfl, y, rfl⟩
    exact ⟨_, rfl, _, rfl, _, _, rfl, rfl, cOf_ok hu0 hb _, _, rfl, _, rfl, _, _, rfl, rfl, cOf_ok hu0 hb _, (by show 2 ≤ sizeLine; decide), fun p hp => q p hp⟩

/-! ### two ratios -/
abbrev Bd (x : Int) : Prop := x.natAbs < 2 ^ 4000
theorem wm {x y : Int} (hx : Bd x) (hy : Bd y) : CMulW x y := wide_mul hx hy (by decide) (by decide) (by decide)
theorem bd_mul {x y : Int} (hx : Bd x) (hy : Bd y) : (x * y).natAbs < 2 ^ 9000 := Nat.lt_of_lt_of_le (wide_lt hx hy) (Nat.pow_le_pow_right (by decide) (by decide))
theorem bd_of {x : Int} (h : x.natAbs < 2 ^ 200) : Bd x := Nat.lt_of_lt_of_le h (Nat.pow_le_pow_right (by decide) (by decide))
/-- two ratios (p, q) and (u, v) are handed in; a new ratio of over and under comes back -/
def sp2 (K : PySem.W.Frag) (fo fu : Int → Int → Int → Int → Int) : Sp := fun vs H Q _ => ∃ (a b : Addr) (p q u v : Int), vs = [.ref a, .ref b] ∧ SqT K H a [.int p, .int q] ∧ SqT K H b [.int u, .int v] ∧ Bd p ∧ Bd q ∧ Bd u ∧ Bd v ∧ fu p q u v ≠ 0 ∧
  ∀ t, H t = none → Q (.ref t) (upd H t (.tup [.int (rN (fo p q u v) (fu p q u v)), .int (rD (fo p q u v) (fu p q u v))]))
def sp2X (K : PySem.W.Frag) (C : Addr) (fo fu : Int → Int → Int → Int → Int) : Sp := fun vs H Q E => ∃ (a b : Addr) (p q u v : Int), vs = [.ref a, .ref b] ∧ SqT K H a [.int p, .int q] ∧ SqT K H b [.int u, .int v] ∧ Bd p ∧ Bd q ∧ Bd u ∧ Bd v ∧ (fu p q u v = 0 → E (.ref C) none H) ∧
  (fu p q u v ≠ 0 → ∀ t, H t = none → Q (.ref t) (upd H t (.tup [.int (rN (fo p q u v) (fu p q u v)), .int (rD (fo p q u v) (fu p q u v))])))

theorem ok_plus (ev : Env K mg) : FnOk P w K mg base CX0 3 ev.f_plus ev.d_plus p_plus (sp2 K (fun p q u v => p * v + u * q) (fun p q u v => q * v)) := by
  refine ev.A_plus.F.ok sc_plus (fun vs H Q E h => ?_) (fun cdv A outer s H vs Q E hr h => ?_)
  · obtain ⟨a, b, p, q, u, v, rfl, _⟩ := h
    rfl
  obtain ⟨a, b, p, q, u, v, rfl, hA, hB, hp, hq, hu, hv, ne, k⟩ := h
  refine ⟨_, (pss_one (ps_ret (pe_callS (ok_ratio ev) (hr.mono (by decide)) (by rfl) ev.A_ratio.m ev.A_ratio.F.kp ev.A_ratio.b (fun σ => passAt takes0 σ) (pa_cons (pe_op op_add (pe_op op_mulW (pe_ix ix_tup (pv 0) pe_int (fun _ _ => rfl)) (pe_ix ix_tup (pv 1) pe_int (fun _ _ => rfl))) (pe_op op_mulW (pe_ix ix_tup (pv 1) pe_int (fun _ _ => rfl)) (pe_ix ix_tup (pv 0) pe_int (fun _ _ => rfl)))) (pa_cons (pe_op op_mulW (pe_ix ix_tup (pv 0) pe_int (fun _ _ => rfl)) (pe_ix ix_tup (pv 1) pe_int (fun _ _ => rfl))) pa_nil))))), ?_⟩
  exact ⟨_, rfl, a, _, _, _, rfl, rfl, hA, atI_nat (j := 0) rfl, _, rfl, b, _, _, _, rfl, rfl, hB, atI_nat (j := 1) rfl, _, _, rfl, rfl, wm hp hv, _, rfl, b, _, _, _, rfl, rfl, hB, atI_nat (j := 0) rfl, _, rfl, a, _, _, _, rfl, rfl, hA, atI_nat (j := 1) rfl, _, _, rfl, rfl, wm hu hq, _, _, rfl, rfl, _, rfl, a, _, _, _, rfl, rfl, hA, atI_nat (j := 1) rfl, _, rfl, b, _, _, _, rfl, rfl, hB, atI_nat (j := 1) rfl, _, _, rfl, rfl, wm hq hv, _, _, rfl, bd_mul hq hv, fun e => absurd e ne, fun _ t ht => k t ht⟩

theorem ok_minus (ev : Env K mg) : FnOk P w K mg base CX0 3 ev.f_minus ev.d_minus p_minus (sp2 K (fun p q u v => p * v - u * q) (fun p q u v => q * v)) := by
  refine ev.A_minus.F.ok sc_minus (fun vs H Q E h => ?_) (fun cdv A outer s H vs Q E hr h => ?_)
  · obtain ⟨a, b, p, q, u, v, rfl, _⟩ := h
    rfl
  obtain ⟨a, b, p, q, u, v, rfl, hA, hB, hp, hq, hu, hv, ne, k⟩ := h
  refine ⟨_, (pss_one (ps_ret (pe_callS (ok_ratio ev) (hr.mono (by decide)) (by rfl) ev.A_ratio.m ev.A_ratio.F.kp ev.A_ratio.b (fun σ => passAt takes0 σ) (pa_cons (pe_op op_sub (pe_op op_mulW (pe_ix ix_tup (pv 0) pe_int (fun _ _ => rfl)) (pe_ix ix_tup (pv 1) pe_int (fun _ _ => rfl))) (pe_op op_mulW (pe_ix ix_tup (pv 1) pe_int (fun _ _ => rfl)) (pe_ix ix_tup (pv 0) pe_int (fun _ _ => rfl)))) (pa_cons (pe_op op_mulW (pe_ix ix_tup (pv 0) pe_int (fun _ _ => rfl)) (pe_ix ix_tup (pv 1) pe_int (fun _ _ => rfl))) pa_nil))))), ?_⟩
  exact ⟨_, rfl, a, _, _, _, rfl, rfl, hA, atI_nat (j := 0) rfl, _, rfl, b, _, _, _, rfl, rfl, hB, atI_nat (j := 1) rfl, _, _, rfl, rfl, wm hp hv, _, rfl, b, _, _, _, rfl, rfl, hB, atI_nat (j := 0) rfl, _, rfl, a, _, _, _, rfl, rfl, hA, atI_nat (j := 1) rfl, _, _, rfl, rfl, wm hu hq, _, _, rfl, rfl, _, rfl, a, _, _, _, rfl, rfl, hA, atI_nat (j := 1) rfl, _, rfl, b, _, _, _, rfl, rfl, hB, atI_nat (j := 1) rfl, _, _, rfl, rfl, wm hq hv, _, _, rfl, bd_mul hq hv, fun e => absurd e ne, fun _ t ht => k t ht⟩

theorem ok_times (ev : Env K mg) : FnOk P w K mg base CX0 3 ev.f_times ev.d_times p_times (sp2 K (fun p q u v => p * u) (fun p q u v => q * v)) := by
  refine ev.A_times.F.ok sc_times (fun vs H Q E h => ?_) (fun cdv A outer s H vs Q E hr h => ?_)
  · obtain ⟨a, b, p, q, u, v, rfl, _⟩ := h
    rfl
  obtain ⟨a, b, p, q, u, v, rfl, hA, hB, hp, hq, hu, hv, ne, k⟩ := h
  refine ⟨_, (pss_one (ps_ret (pe_callS (ok_ratio ev) (hr.mono (by decide)) (by rfl) ev.A_ratio.m ev.A_ratio.F.kp ev.A_ratio.b (fun σ => passAt takes0 σ) (pa_cons (pe_op op_mulW (pe_ix ix_tup (pv 0) pe_int (fun _ _ => rfl)) (pe_ix ix_tup (pv 1) pe_int (fun _ _ => rfl))) (pa_cons (pe_op op_mulW (pe_ix ix_tup (pv 0) pe_int (fun _ _ => rfl)) (pe_ix ix_tup (pv 1) pe_int (fun _ _ => rfl))) pa_nil))))), ?_⟩
  exact ⟨_, rfl, a, _, _, _, rfl, rfl, hA, atI_nat (j := 0) rfl, _, rfl, b, _, _, _, rfl, rfl, hB, atI_nat (j := 0) rfl, _, _, rfl, rfl, wm hp hu, _, rfl, a, _, _, _, rfl, rfl, hA, atI_nat (j := 1) rfl, _, rfl, b, _, _, _, rfl, rfl, hB, atI_nat (j := 1) rfl, _, _, rfl, rfl, wm hq hv, _, _, rfl, bd_mul hq hv, fun e => absurd e ne, fun _ t ht => k t ht⟩

theorem ok_divided (ev : Env K mg) : FnOk P w K mg base (L2.CX P w) 3 ev.f_divided ev.d_divided p_divided (sp2X K ev.C_NoRatio (fun p q u v => p * v) (fun p q u v => q * u)) := by
  refine ev.A_divided.F.okX sc_divided (fun vs H Q E h => ?_) (fun cdv A outer s H vs Q E hr h => ?_)
  · obtain ⟨a, b, p, q, u, v, rfl, _⟩ := h
    rfl
  obtain ⟨a, b, p, q, u, v, rfl, hA, hB, hp, hq, hu, hv, ne, k⟩ := h
  refine ⟨_, (pss_one (ps_ret (pe_callS (ok_ratio ev) (hr.mono (by decide)) (by rfl) ev.A_ratio.m ev.A_ratio.F.kp ev.A_ratio.b (fun σ => passAt (takes_of rfl rfl rfl rfl) σ) (pa_cons (pe_op op_mulW (pe_ix ix_tup (pv 0) pe_int (fun _ _ => rfl)) (pe_ix ix_tup (pv 1) pe_int (fun _ _ => rfl))) (pa_cons (pe_op op_mulW (pe_ix ix_tup (pv 0) pe_int (fun _ _ => rfl)) (pe_ix ix_tup (pv 1) pe_int (fun _ _ => rfl))) pa_nil))))), ?_⟩
  exact ⟨_, rfl, a, _, _, _, rfl, rfl, hA, atI_nat (j := 0) rfl, _, rfl, b, _, _, _, rfl, rfl, hB, atI_nat (j := 1) rfl, _, _, rfl, rfl, wm hp hv, _, rfl, a, _, _, _, rfl, rfl, hA, atI_nat (j := 1) rfl, _, rfl, b, _, _, _, rfl, rfl, hB, atI_nat (j := 0) rfl, _, _, rfl, rfl, wm hq hu, _, _, rfl, bd_mul hq hu, ne, k⟩

theorem ok_law_sum (ev : Env K mg) : FnOk P w K mg base CX0 2 ev.f_law_sum ev.d_law_sum p_law_sum (sp2 K (fun p q u v => p * v + u * q) (fun p q u v => q * v)) := by
  refine ev.A_law_sum.F.ok sc_law_sum (fun vs H Q E h => ?_) (fun cdv A outer s H vs Q E hr h => ?_)
  · obtain ⟨a, b, p, q, u, v, rfl, _⟩ := h
    rfl
  obtain ⟨a, b, p, q, u, v, rfl, hA, hB, hp, hq, hu, hv, ne, k⟩ := h
  refine ⟨_, (pss_one (ps_ret (pe_call (ok_law_rat ev) (hr.mono (by decide)) (by rfl) ev.A_law_rat.m ev.A_law_rat.F.kp ev.A_law_rat.b .nil pass0 (pa_cons (pe_op op_add (pe_op op_mulW (pe_ix ix_tup (pv 0) pe_int (fun _ _ => rfl)) (pe_ix ix_tup (pv 1) pe_int (fun _ _ => rfl))) (pe_op op_mulW (pe_ix ix_tup (pv 1) pe_int (fun _ _ => rfl)) (pe_ix ix_tup (pv 0) pe_int (fun _ _ => rfl)))) (pa_cons (pe_op op_mulW (pe_ix ix_tup (pv 0) pe_int (fun _ _ => rfl)) (pe_ix ix_tup (pv 1) pe_int (fun _ _ => rfl))) pa_nil))))), ?_⟩
  exact ⟨_, rfl, a, _, _, _, rfl, rfl, hA, atI_nat (j := 0) rfl, _, rfl, b, _, _, _, rfl, rfl, hB, atI_nat (j := 1) rfl, _, _, rfl, rfl, wm hp hv, _, rfl, b, _, _, _, rfl, rfl, hB, atI_nat (j := 0) rfl, _, rfl, a, _, _, _, rfl, rfl, hA, atI_nat (j := 1) rfl, _, _, rfl, rfl, wm hu hq, _, _, rfl, rfl, _, rfl, a, _, _, _, rfl, rfl, hA, atI_nat (j := 1) rfl, _, rfl, b, _, _, _, rfl, rfl, hB, atI_nat (j := 1) rfl, _, _, rfl, rfl, wm hq hv, _, _, rfl, bd_mul hq hv, ne, fun t ht => k t ht⟩

theorem ok_law_dif (ev : Env K mg) : FnOk P w K mg base CX0 2 ev.f_law_dif ev.d_law_dif p_law_dif (sp2 K (fun p q u v => p * v - u * q) (fun p q u v => q * v)) := by
  refine ev.A_law_dif.F.ok sc_law_dif (fun vs H Q E h => ?_) (fun cdv A outer s H vs Q E hr h => ?_)
  · obtain ⟨a, b, p, q, u, v, rfl, _⟩ := h
    rfl
  obtain ⟨a, b, p, q, u, v, rfl, hA, hB, hp, hq, hu, hv, ne, k⟩ := h
  refine ⟨_, (pss_one (ps_ret (pe_call (ok_law_rat ev) (hr.mono (by decide)) (by rfl) ev.A_law_rat.m ev.A_law_rat.F.kp ev.A_law_rat.b .nil pass0 (pa_cons (pe_op op_sub (pe_op op_mulW (pe_ix ix_tup (pv 0) pe_int (fun _ _ => rfl)) (pe_ix ix_tup (pv 1) pe_int (fun _ _ => rfl))) (pe_op op_mulW (pe_ix ix_tup (pv 1) pe_int (fun _ _ => rfl)) (pe_ix ix_tup (pv 0) pe_int (fun _ _ => rfl)))) (pa_cons (pe_op op_mulW (pe_ix ix_tup (pv 0) pe_int (fun _ _ => rfl)) (pe_ix ix_tup (pv 1) pe_int (fun _ _ => rfl))) pa_nil))))), ?_⟩
  exact ⟨_, rfl, a, _, _, _, rfl, rfl, hA, atI_nat (j := 0) rfl, _, rfl, b, _, _, _, rfl, rfl, hB, atI_nat (j := 1) rfl, _, _, rfl, rfl, wm hp hv, _, rfl, b, _, _, _, rfl, rfl, hB, atI_nat (j := 0) rfl, _, rfl, a, _, _, _, rfl, rfl, hA, atI_nat (j := 1) rfl, _, _, rfl, rfl, wm hu hq, _, _, rfl, rfl, _, rfl, a, _, _, _, rfl, rfl, hA, atI_nat (j := 1) rfl, _, rfl, b, _, _, _, rfl, rfl, hB, atI_nat (j := 1) rfl, _, _, rfl, rfl, wm hq hv, _, _, rfl, bd_mul hq hv, ne, fun t ht => k t ht⟩

theorem ok_law_prod (ev : Env K mg) : FnOk P w K mg base CX0 2 ev.f_law_prod ev.d_law_prod p_law_prod (sp2 K (fun p q u v => p * u) (fun p q u v => q * v)) := by
  refine ev.A_law_prod.F.ok sc_law_prod (fun vs H Q E h => ?_) (fun cdv A outer s H vs Q E hr h => ?_)
  · obtain ⟨a, b, p, q, u, v, rfl, _⟩ := h
    rfl
  obtain ⟨a, b, p, q, u, v, rfl, hA, hB, hp, hq, hu, hv, ne, k⟩ := h
  refine ⟨_, (pss_one (ps_ret (pe_call (ok_law_rat ev) (hr.mono (by decide)) (by rfl) ev.A_law_rat.m ev.A_law_rat.F.kp ev.A_law_rat.b .nil pass0 (pa_cons (pe_op op_mulW (pe_ix ix_tup (pv 0) pe_int (fun _ _ => rfl)) (pe_ix ix_tup (pv 1) pe_int (fun _ _ => rfl))) (pa_cons (pe_op op_mulW (pe_ix ix_tup (pv 0) pe_int (fun _ _ => rfl)) (pe_ix ix_tup (pv 1) pe_int (fun _ _ => rfl))) pa_nil))))), ?_⟩
  exact ⟨_, rfl, a, _, _, _, rfl, rfl, hA, atI_nat (j := 0) rfl, _, rfl, b, _, _, _, rfl, rfl, hB, atI_nat (j := 0) rfl, _, _, rfl, rfl, wm hp hu, _, rfl, a, _, _, _, rfl, rfl, hA, atI_nat (j := 1) rfl, _, rfl, b, _, _, _, rfl, rfl, hB, atI_nat (j := 1) rfl, _, _, rfl, rfl, wm hq hv, _, _, rfl, bd_mul hq hv, ne, fun t ht => k t ht⟩

theorem ok_law_quo (ev : Env K mg) : FnOk P w K mg base CX0 2 ev.f_law_quo ev.d_law_quo p_law_quo (sp2 K (fun p q u v => p * v) (fun p q u v => q * u)) := by
  refine ev.A_law_quo.F.ok sc_law_quo (fun vs H Q E h => ?_) (fun cdv A outer s H vs Q E hr h => ?_)
  · obtain ⟨a, b, p, q, u, v, rfl, _⟩ := h
    rfl
  obtain ⟨a, b, p, q, u, v, rfl, hA, hB, hp, hq, hu, hv, ne, k⟩ := h
  refine ⟨_, (pss_one (ps_ret (pe_call (ok_law_rat ev) (hr.mono (by decide)) (by rfl) ev.A_law_rat.m ev.A_law_rat.F.kp ev.A_law_rat.b .nil pass0 (pa_cons (pe_op op_mulW (pe_ix ix_tup (pv 0) pe_int (fun _ _ => rfl)) (pe_ix ix_tup (pv 1) pe_int (fun _ _ => rfl))) (pa_cons (pe_op op_mulW (pe_ix ix_tup (pv 0) pe_int (fun _ _ => rfl)) (pe_ix ix_tup (pv 1) pe_int (fun _ _ => rfl))) pa_nil))))), ?_⟩
  exact ⟨_, rfl, a, _, _, _, rfl, rfl, hA, atI_nat (j := 0) rfl, _, rfl, b, _, _, _, rfl, rfl, hB, atI_nat (j := 1) rfl, _, _, rfl, rfl, wm hp hv, _, rfl, a, _, _, _, rfl, rfl, hA, atI_nat (j := 1) rfl, _, rfl, b, _, _, _, rfl, rfl, hB, atI_nat (j := 0) rfl, _, _, rfl, rfl, wm hq hu, _, _, rfl, bd_mul hq hu, ne, fun t ht => k t ht⟩

theorem ord_eq (g : Int) : (if g < 0 then -1 else if 0 < g then 1 else 0 : Int) = (if decide (0 < g) = true then 1 else 0) - (if decide (g < 0) = true then 1 else 0) := by
  by_cases h1 : g < 0
  · rw [if_pos h1, decide_eq_true h1, decide_eq_false (show ¬ 0 < g by omega)]
    decide
  · rw [if_neg h1, decide_eq_false h1]
    by_cases h2 : 0 < g
    · rw [if_pos h2, decide_eq_true h2]
      decide
    · rw [if_neg h2, decide_eq_false h2]
      decide
/-- two ratios are handed in, a number comes back -/
def sp2i (K : PySem.W.Frag) (fo : Int → Int → Int → Int → Int) : Sp := fun vs H Q _ => ∃ (a b : Addr) (p q u v : Int), vs = [.ref a, .ref b] ∧ SqT K H a [.int p, .int q] ∧ SqT K H b [.int u, .int v] ∧ Bd p ∧ Bd q ∧ Bd u ∧ Bd v ∧ Q (.int (fo p q u v)) H
def ordI (g : Int) : Int := if g < 0 then -1 else if 0 < g then 1 else 0

theorem ok_order (ev : Env K mg) : FnOk P w K mg base CX0 1 ev.f_order ev.d_order p_order (sp2i K fun p q u v => ordI (p * v - u * q)) := by
  refine ev.A_order.F.ok sc_order (fun vs H Q E h => ?_) (fun cdv A outer s H vs Q E hr h => ?_)
  · obtain ⟨a, b, p, q, u, v, rfl, _⟩ := h
    rfl
  obtain ⟨a, b, p, q, u, v, rfl, hA, hB, hp, hq, hu, hv, k⟩ := h
  refine ⟨_, (pss_cons (ps_set (i := 2) sc_order.nd rfl (Or.inl rfl) (pe_op op_sub (pe_op op_mulW (pe_ix ix_tup (pv 0) pe_int (fun _ _ => rfl)) (pe_ix ix_tup (pv 1) pe_int (fun _ _ => rfl))) (pe_op op_mulW (pe_ix ix_tup (pv 1) pe_int (fun _ _ => rfl)) (pe_ix ix_tup (pv 0) pe_int (fun _ _ => rfl)))))
    (pss_cons (ps_if (pt_cmpR op_lt (pv 2) pe_int (nomark _))
    (pss_one (ps_ret (pe_un un_neg pe_int))) pss_nil)
    (pss_cons (ps_if (pt_cmpR op_gt (pv 2) pe_int (nomark _))
    (pss_one (ps_ret pe_int)) pss_nil)
    (pss_one (ps_ret pe_int))))), ?_⟩
  refine seq_asg ⟨_, rfl, a, _, _, _, rfl, rfl, hA, atI_nat (j := 0) rfl, _, rfl, b, _, _, _, rfl, rfl, hB, atI_nat (j := 1) rfl, _, _, rfl, rfl, wm hp hv, _, rfl, b, _, _, _, rfl, rfl, hB, atI_nat (j := 0) rfl, _, rfl, a, _, _, _, rfl, rfl, hA, atI_nat (j := 1) rfl, _, _, rfl, rfl, wm hu hq, _, _, rfl, rfl, ?_⟩
  refine ⟨_, rfl, _, _, rfl, rfl, _, rfl, ite2 (fun z => ?_) (fun z => ?_)⟩
  · have z' : p * v - u * q < 0 := of_decide_eq_true z
    dsimp only at k
    unfold ordI at k
    rw [if_pos z'] at k
    exact ⟨_, rfl, k⟩
  have z' : ¬ p * v - u * q < 0 := fun e => z (decide_eq_true e)
  refine ⟨_, rfl, _, _, rfl, rfl, _, rfl, ite2 (fun y => ?_) (fun y => ?_)⟩
  · have y' : 0 < p * v - u * q := of_decide_eq_true y
    dsimp only at k
    unfold ordI at k
    rw [if_neg z', if_pos y'] at k
    exact k
  · have y' : ¬ 0 < p * v - u * q := fun e => y (decide_eq_true e)
    dsimp only at k
    unfold ordI at k
    rw [if_neg z', if_neg y'] at k
    exact k

theorem ok_law_comp (ev : Env K mg) : FnOk P w K mg base CX0 1 ev.f_law_comp ev.d_law_comp p_law_comp (sp2i K fun p q u v => p * v - u * q) := by
  refine ev.A_law_comp.F.ok sc_law_comp (fun vs H Q E h => ?_) (fun cdv A outer s H vs Q E hr h => ?_)
  · obtain ⟨a, b, p, q, u, v, rfl, _⟩ := h
    rfl
  obtain ⟨a, b, p, q, u, v, rfl, hA, hB, hp, hq, hu, hv, k⟩ := h
  refine ⟨_, (pss_one (ps_ret (pe_op op_sub (pe_op op_mulW (pe_ix ix_tup (pv 0) pe_int (fun _ _ => rfl)) (pe_ix ix_tup (pv 1) pe_int (fun _ _ => rfl))) (pe_op op_mulW (pe_ix ix_tup (pv 1) pe_int (fun _ _ => rfl)) (pe_ix ix_tup (pv 0) pe_int (fun _ _ => rfl)))))), ?_⟩
  exact ⟨_, rfl, a, _, _, _, rfl, rfl, hA, atI_nat (j := 0) rfl, _, rfl, b, _, _, _, rfl, rfl, hB, atI_nat (j := 1) rfl, _, _, rfl, rfl, wm hp hv, _, rfl, b, _, _, _, rfl, rfl, hB, atI_nat (j := 0) rfl, _, rfl, a, _, _, _, rfl, rfl, hA, atI_nat (j := 1) rfl, _, _, rfl, rfl, wm hu hq, _, _, rfl, rfl, k⟩

def spSize (K : PySem.W.Frag) : Sp := fun vs H Q _ => ∃ (a : Addr) (p q : Int), vs = [.ref a] ∧ SqT K H a [.int p, .int q] ∧ ∀ t, H t = none → Q (.ref t) (upd H t (.tup [.int ((p.natAbs : Nat) : Int), .int q]))
theorem ok_size (ev : Env K mg) : FnOk P w K mg base CX0 1 ev.f_size ev.d_size p_size (spSize K) := by
  refine ev.A_size.F.ok sc_size (fun vs H Q E h => ?_) (fun cdv A outer s H vs Q E hr h => ?_)
  · obtain ⟨a, p, q, rfl, _⟩ := h
    rfl
  obtain ⟨a, p, q, rfl, hA, k⟩ := h
  refine ⟨_, (pss_one (ps_ret (pe_tup (pa_cons (pe_callB call_abs (by rfl) ev.B.abs_ (by decide +kernel) (pa_cons (pe_ix ix_tup (pv 0) pe_int (fun _ _ => rfl)) pa_nil)) (pa_cons (pe_ix ix_tup (pv 0) pe_int (fun _ _ => rfl)) pa_nil))))), ?_⟩
  refine ⟨_, rfl, a, _, _, _, rfl, rfl, hA, atI_nat (j := 0) rfl, _, rfl, _, rfl, a, _, _, _, rfl, rfl, hA, atI_nat (j := 1) rfl, two, fun t ht => ?_⟩
  rw [abs_if]
  exact k t ht

def spFloor (K : PySem.W.Frag) : Sp := fun vs H Q _ => ∃ (a : Addr) (p q : Int), vs = [.ref a] ∧ SqT K H a [.int p, .int q] ∧ CDivZ p q ∧ Q (.int (p.fdiv q)) H
theorem ok_floor (ev : Env K mg) : FnOk P w K mg base CX0 1 ev.f_floor ev.d_floor p_floor (spFloor K) := by
  refine ev.A_floor.F.ok sc_floor (fun vs H Q E h => ?_) (fun cdv A outer s H vs Q E hr h => ?_)
  · obtain ⟨a, p, q, rfl, _⟩ := h
    rfl
  obtain ⟨a, p, q, rfl, hA, hd, k⟩ := h
  refine ⟨_, (pss_one (ps_ret (pe_op op_fdivZ (pe_ix ix_tup (pv 0) pe_int (fun _ _ => rfl)) (pe_ix ix_tup (pv 0) pe_int (fun _ _ => rfl))))), ?_⟩
  exact ⟨_, rfl, a, _, _, _, rfl, rfl, hA, atI_nat (j := 0) rfl, _, rfl, a, _, _, _, rfl, rfl, hA, atI_nat (j := 1) rfl, _, _, rfl, rfl, hd, k⟩

theorem divZ {x j : Int} (h : j ≠ 0) (hb : j.natAbs < 2 ^ 9000) : CDivZ x j := ⟨h, PySem.Flt.log2_lt_of (by decide) hb⟩
def spNear (K : PySem.W.Frag) : Sp := fun vs H Q _ => ∃ (a : Addr) (p q : Int), vs = [.ref a] ∧ SqT K H a [.int p, .int q] ∧ Bd p ∧ Bd q ∧ 0 < q ∧ ∀ H', Same H H' → Q (.int ((2 * p + q).fdiv (2 * q))) H'
theorem SqT_same {K : PySem.W.Frag} {H H' : Hp} {a : Addr} {xs : List V} (e : Same H H') (h : SqT K H a xs) : SqT K H' a xs := by
  rcases h with (h | ⟨o, h⟩) | h
  · exact .inl (.inl (e _ _ h))
  · exact .inl (.inr ⟨o, e _ _ h⟩)
  · exact .inr h
theorem ok_nearest (ev : Env K mg) : FnOk P w K mg base CX0 4 ev.f_nearest ev.d_nearest p_nearest (spNear K) := by
  refine ev.A_nearest.F.ok sc_nearest (fun vs H Q E h => ?_) (fun cdv A outer s H vs Q E hr h => ?_)
  · obtain ⟨a, p, q, rfl, _⟩ := h
    rfl
  obtain ⟨a, p, q, rfl, hA, hp, hq, q0, k⟩ := h
  refine ⟨_, (pss_one (ps_ret (pe_call (ok_floor ev) (hr.mono (by decide)) (by rfl) ev.A_floor.m ev.A_floor.F.kp ev.A_floor.b .nil pass0 (pa_cons (pe_call (ok_plus ev) (hr.mono (by decide)) (by rfl) ev.A_plus.m ev.A_plus.F.kp ev.A_plus.b .nil pass0 (pa_cons (pv 0) (pa_cons (pe_tup (pa_cons pe_int (pa_cons pe_int pa_nil))) pa_nil))) pa_nil)))), ?_⟩
  refine ⟨_, rfl, two, fun t ht => ?_⟩
  have s1 : Same H (upd H t (.tup [.int 1, .int 2])) := same_upd ht
  refine ⟨a, t, p, q, 1, 2, rfl, SqT_same s1 hA, SqT.of upd_same, hp, hq, bd_of (by decide), bd_of (by decide), (by show q * 2 ≠ 0; omega), fun r hr' => ?_⟩
  have n0 : q * 2 ≠ 0 := by omega
  refine ⟨r, _, _, rfl, SqT.of upd_same, divZ ?_ ?_, ?_⟩
  · have := rD_pos (o := p * 2 + 1 * q) n0
    show rD (p * 2 + 1 * q) (q * 2) ≠ 0
    omega
  · exact Nat.lt_of_le_of_lt (rD_le n0) (bd_mul hq (bd_of (by decide)))
  · show Q (.int ((rN (p * 2 + 1 * q) (q * 2)).fdiv (rD (p * 2 + 1 * q) (q * 2)))) _
    rw [rDiv (by omega), show p * 2 + 1 * q = 2 * p + q by omega, show q * 2 = 2 * q by omega]
    exact k _ (s1.trans (same_upd hr'))

/-! ### the quotient, told or refused -/
def spQuot (K : PySem.W.Frag) : Sp := fun vs H Q _ => ∃ (a b : Addr) (p q u v : Int), vs = [.ref a, .ref b] ∧ SqT K H a [.int p, .int q] ∧ SqT K H b [.int u, .int v] ∧ Bd p ∧ Bd q ∧ Bd u ∧ Bd v ∧ q ≠ 0 ∧ (u = 0 → Q (.str "no") H) ∧
  (u ≠ 0 → ∀ t, H t = none → Q (.ref t) (upd H t (.tup [.int (rN (p * v) (q * u)), .int (rD (p * v) (q * u))])))
theorem ok_law_quotient (ev : Env K mg) : FnOk P w K mg base CX0 4 ev.f_law_quotient ev.d_law_quotient p_law_quotient (spQuot K) := by
  refine ev.A_law_quotient.F.ok sc_law_quotient (fun vs H Q E h => ?_) (fun cdv A outer s H vs Q E hr h => ?_)
  · obtain ⟨a, b, p, q, u, v, rfl, _⟩ := h
    rfl
  obtain ⟨a, b, p, q, u, v, rfl, hA, hB, hp, hq, hu, hv, q0, k0, k1⟩ := h
  refine ⟨_, pss_cons (ps_set (i := 2) sc_law_quotient.nd rfl (Or.inl rfl) pe_non)
    (pss_cons (ps_try_only (tb := fun W => tAsg (tCallS (sp2X K ev.C_NoRatio (fun p _ _ v => p * v) (fun _ q u _ => q * u)) (WE W) (tCons (tVar 0) (tCons (tVar 1) tNil))) (gName 2)) (ts := fun _ _ _ => tAsg (tC (.str "no")) (gName 2)) (Wout := fun _ _ _ _ => False) rfl rfl ⟨rfl, by decide, Or.inl ev.X_NoRatio.g⟩ takes0
      (fun W pn xe tk _ => pss_one (ps_set (i := 2) sc_law_quotient.nd rfl (Or.inl rfl) (by exact (pe_callS (ok_divided ev) hr (by rfl) ev.A_divided.m ev.A_divided.F.kp ev.A_divided.b (fun σ => passAt tk σ) (by exact (pa_cons (pv 0) (pa_cons (pv 1) pa_nil)))))))
      (fun _ _ _ _ _ _ _ => pss_one (ps_set (i := 2) sc_law_quotient.nd rfl (Or.inl rfl) pe_str)))
    (pss_one (ps_ret (pv 2)))), ?_⟩
  refine seq_c ?_
  refine ⟨_, rfl, _, rfl, a, b, p, q, u, v, rfl, hA, hB, hp, hq, hu, hv, fun e => ?_, fun e t ht => ?_⟩
  · have hu0 : u = 0 := (Int.mul_eq_zero.mp e).resolve_left q0
    exact ⟨true, ev.X_NoRatio.te, fun _ a0 _ => ⟨_, rfl, k0 hu0⟩, fun q => Bool.noConfusion q⟩
  · have hu0 : u ≠ 0 := fun z => e (by rw [z]; exact Int.mul_zero q)
    exact ⟨_, rfl, k1 hu0 t ht⟩

def spLaw (K : PySem.W.Frag) : Sp := fun vs H Q _ => ∃ (a : Addr) (ns : List Int), vs = [.ref a] ∧ SqL K H a (ns.map V.int) ∧ ns.length ≤ 63 ∧ ∀ H', Q (.bl true) H'

theorem ok_law (ev : Env K mg) : FnOk P w K mg base CX0 5 ev.f_law ev.d_law p_law (spLaw K) := by
  refine ev.A_law.F.ok sc_law (fun vs H Q E h => ?_) (fun cdv A outer s H vs Q E hr h => ?_)
  · obtain ⟨a, ns, rfl, _⟩ := h
    rfl
  obtain ⟨a, ns, rfl, hS, h63, q⟩ := h
  refine ⟨_, (pss_cons (ps_set (i := 1) sc_law.nd rfl (Or.inl rfl) (pe_call (ok_law_bag ev) (hr.mono (by decide)) (by rfl) ev.A_law_bag.m ev.A_law_bag.F.kp ev.A_law_bag.b .nil pass0 (pa_cons (pv 0) pa_nil)))
    (pss_cons (ps_set (i := 2) sc_law.nd rfl (Or.inl rfl) pe_bl)
    (pss_cons (ps_for PassesOwn.never rfl (pi_range1 rfl ev.B.range_ (pa_cons pe_int pa_nil)) (pg_name (i := 3) sc_law.nd rfl (Or.inl rfl))
    (pss_cons (ps_set (i := 4) sc_law.nd rfl (Or.inl rfl) (pe_call (ok_law_any ev) (hr.mono (by decide)) (by rfl) ev.A_law_any.m ev.A_law_any.F.kp ev.A_law_any.b .nil pass0 (pa_cons (pv 1) (pa_cons (pe_lst (pa_cons pe_int (pa_cons pe_int (pa_cons pe_int (pa_cons pe_int (pa_cons pe_int (pa_cons (pe_op op_add pe_int (pe_callB call_abs (by rfl) ev.B.abs_ (by decide +kernel) (pa_cons (pe_call (ok_law_big ev) (hr.mono (by decide)) (by rfl) ev.A_law_big.m ev.A_law_big.F.kp ev.A_law_big.b .nil pass0 (pa_cons (pv 1) pa_nil)) pa_nil))) pa_nil))))))) pa_nil))))
    (pss_cons (ps_set (i := 5) sc_law.nd rfl (Or.inl rfl) (pe_call (ok_law_rat ev) (hr.mono (by decide)) (by rfl) ev.A_law_rat.m ev.A_law_rat.F.kp ev.A_law_rat.b .nil pass0 (pa_cons (pe_call (ok_law_big ev) (hr.mono (by decide)) (by rfl) ev.A_law_big.m ev.A_law_big.F.kp ev.A_law_big.b .nil pass0 (pa_cons (pv 1) pa_nil)) (pa_cons (pv 4) pa_nil))))
    (pss_cons (ps_set (i := 6) sc_law.nd rfl (Or.inl rfl) (pe_call (ok_law_rat ev) (hr.mono (by decide)) (by rfl) ev.A_law_rat.m ev.A_law_rat.F.kp ev.A_law_rat.b .nil pass0 (pa_cons (pe_call (ok_law_big ev) (hr.mono (by decide)) (by rfl) ev.A_law_big.m ev.A_law_big.F.kp ev.A_law_big.b .nil pass0 (pa_cons (pv 1) pa_nil)) (pa_cons (pv 4) pa_nil))))
    (pss_cons (ps_set (i := 6) sc_law.nd rfl (Or.inl rfl) (pe_call (ok_law_any ev) (hr.mono (by decide)) (by rfl) ev.A_law_any.m ev.A_law_any.F.kp ev.A_law_any.b .nil pass0 (pa_cons (pv 1) (pa_cons (pe_lst (pa_cons (pv 5) (pa_cons (pe_tup (pa_cons (pe_op op_sub pe_int (pe_ix ix_tup (pv 5) pe_int (fun _ _ => rfl))) (pa_cons (pe_ix ix_tup (pv 5) pe_int (fun _ _ => rfl)) pa_nil))) (pa_cons (pv 6) (pa_cons (pe_tup (pa_cons (pe_call (ok_law_big ev) (hr.mono (by decide)) (by rfl) ev.A_law_big.m ev.A_law_big.F.kp ev.A_law_big.b .nil pass0 (pa_cons (pv 1) pa_nil)) (pa_cons pe_int pa_nil))) pa_nil))))) pa_nil))))
    (pss_cons (ps_set (i := 2) sc_law.nd rfl (Or.inl rfl) (pe_and (pv 2) (pe_one (pe_call (ok_same ev 2) (hr.mono (by decide)) (by rfl) ev.A_law_same.m ev.A_law_same.F.kp ev.A_law_same.b .nil pass0 (pa_cons (pe_call (ok_plus ev) (hr.mono (by decide)) (by rfl) ev.A_plus.m ev.A_plus.F.kp ev.A_plus.b .nil pass0 (pa_cons (pv 5) (pa_cons (pv 6) pa_nil))) (pa_cons (pe_call (ok_law_sum ev) (hr.mono (by decide)) (by rfl) ev.A_law_sum.m ev.A_law_sum.F.kp ev.A_law_sum.b .nil pass0 (pa_cons (pv 5) (pa_cons (pv 6) pa_nil))) pa_nil))))))
    (pss_cons (ps_set (i := 2) sc_law.nd rfl (Or.inl rfl) (pe_and (pv 2) (pe_one (pe_call (ok_same ev 2) (hr.mono (by decide)) (by rfl) ev.A_law_same.m ev.A_law_same.F.kp ev.A_law_same.b .nil pass0 (pa_cons (pe_call (ok_minus ev) (hr.mono (by decide)) (by rfl) ev.A_minus.m ev.A_minus.F.kp ev.A_minus.b .nil pass0 (pa_cons (pv 5) (pa_cons (pv 6) pa_nil))) (pa_cons (pe_call (ok_law_dif ev) (hr.mono (by decide)) (by rfl) ev.A_law_dif.m ev.A_law_dif.F.kp ev.A_law_dif.b .nil pass0 (pa_cons (pv 5) (pa_cons (pv 6) pa_nil))) pa_nil))))))
    (pss_cons (ps_set (i := 2) sc_law.nd rfl (Or.inl rfl) (pe_and (pv 2) (pe_one (pe_call (ok_same ev 2) (hr.mono (by decide)) (by rfl) ev.A_law_same.m ev.A_law_same.F.kp ev.A_law_same.b .nil pass0 (pa_cons (pe_call (ok_times ev) (hr.mono (by decide)) (by rfl) ev.A_times.m ev.A_times.F.kp ev.A_times.b .nil pass0 (pa_cons (pv 5) (pa_cons (pv 6) pa_nil))) (pa_cons (pe_call (ok_law_prod ev) (hr.mono (by decide)) (by rfl) ev.A_law_prod.m ev.A_law_prod.F.kp ev.A_law_prod.b .nil pass0 (pa_cons (pv 5) (pa_cons (pv 6) pa_nil))) pa_nil))))))
    (pss_cons (ps_set (i := 7) sc_law.nd rfl (Or.inl rfl) pe_str)
    (pss_cons (ps_if (pt_cmpR op_ne (pe_ix ix_tup (pv 6) pe_int (fun _ _ => rfl)) pe_int (nomark _))
    (pss_one (ps_set (i := 7) sc_law.nd rfl (Or.inl rfl) (pe_call (ok_law_quo ev) (hr.mono (by decide)) (by rfl) ev.A_law_quo.m ev.A_law_quo.F.kp ev.A_law_quo.b .nil pass0 (pa_cons (pv 5) (pa_cons (pv 6) pa_nil))))) pss_nil)
    (pss_cons (ps_set (i := 2) sc_law.nd rfl (Or.inl rfl) (pe_and (pv 2) (pe_one (pe_call (ok_same ev 2) (hr.mono (by decide)) (by rfl) ev.A_law_same.m ev.A_law_same.F.kp ev.A_law_same.b .nil pass0 (pa_cons (pe_call (ok_law_quotient ev) (hr.mono (by decide)) (by rfl) ev.A_law_quotient.m ev.A_law_quotient.F.kp ev.A_law_quotient.b .nil pass0 (pa_cons (pv 5) (pa_cons (pv 6) pa_nil))) (pa_cons (pv 7) pa_nil))))))
    (pss_cons (ps_set (i := 8) sc_law.nd rfl (Or.inl rfl) (pe_call (ok_law_comp ev) (hr.mono (by decide)) (by rfl) ev.A_law_comp.m ev.A_law_comp.F.kp ev.A_law_comp.b .nil pass0 (pa_cons (pv 5) (pa_cons (pv 6) pa_nil))))
    (pss_cons (ps_set (i := 2) sc_law.nd rfl (Or.inl rfl) (pe_and (pv 2) (pe_one (pe_call (ok_same ev 2) (hr.mono (by decide)) (by rfl) ev.A_law_same.m ev.A_law_same.F.kp ev.A_law_same.b .nil pass0 (pa_cons (pe_call (ok_order ev) (hr.mono (by decide)) (by rfl) ev.A_order.m ev.A_order.F.kp ev.A_order.b .nil pass0 (pa_cons (pv 5) (pa_cons (pv 6) pa_nil))) (pa_cons (pe_op op_sub (pe_callTy call_int1 (by rfl) ev.B.int_ (by decide +kernel) (pa_cons (pe_cmpR op_gt (pv 8) pe_int (nomark _)) pa_nil)) (pe_callTy call_int1 (by rfl) ev.B.int_ (by decide +kernel) (pa_cons (pe_cmpR op_lt (pv 8) pe_int (nomark _)) pa_nil))) pa_nil))))))
    (pss_cons (ps_set (i := 2) sc_law.nd rfl (Or.inl rfl) (pe_and (pv 2) (pe_one (pe_call (ok_same ev 2) (hr.mono (by decide)) (by rfl) ev.A_law_same.m ev.A_law_same.F.kp ev.A_law_same.b .nil pass0 (pa_cons (pe_call (ok_size ev) (hr.mono (by decide)) (by rfl) ev.A_size.m ev.A_size.F.kp ev.A_size.b .nil pass0 (pa_cons (pv 5) pa_nil)) (pa_cons (pe_tup (pa_cons (pe_callB call_abs (by rfl) ev.B.abs_ (by decide +kernel) (pa_cons (pe_ix ix_tup (pv 5) pe_int (fun _ _ => rfl)) pa_nil)) (pa_cons (pe_ix ix_tup (pv 5) pe_int (fun _ _ => rfl)) pa_nil))) pa_nil))))))
    (pss_cons (ps_set (i := 2) sc_law.nd rfl (Or.inl rfl) (pe_and (pv 2) (pe_one (pe_call (ok_same ev 2) (hr.mono (by decide)) (by rfl) ev.A_law_same.m ev.A_law_same.F.kp ev.A_law_same.b .nil pass0 (pa_cons (pe_call (ok_floor ev) (hr.mono (by decide)) (by rfl) ev.A_floor.m ev.A_floor.F.kp ev.A_floor.b .nil pass0 (pa_cons (pv 5) pa_nil)) (pa_cons (pe_op op_fdivZ (pe_ix ix_tup (pv 5) pe_int (fun _ _ => rfl)) (pe_ix ix_tup (pv 5) pe_int (fun _ _ => rfl))) pa_nil))))))
    (pss_one (ps_set (i := 2) sc_law.nd rfl (Or.inl rfl) (pe_and (pv 2) (pe_one (pe_call (ok_same ev 2) (hr.mono (by decide)) (by rfl) ev.A_law_same.m ev.A_law_same.F.kp ev.A_law_same.b .nil pass0 (pa_cons (pe_call (ok_nearest ev) (hr.mono (by decide)) (by rfl) ev.A_nearest.m ev.A_nearest.F.kp ev.A_nearest.b .nil pass0 (pa_cons (pv 5) pa_nil)) (pa_cons (pe_op op_fdivZ (pe_op op_add (pe_op op_mulW pe_int (pe_ix ix_tup (pv 5) pe_int (fun _ _ => rfl))) (pe_ix ix_tup (pv 5) pe_int (fun _ _ => rfl))) (pe_op op_mulW pe_int (pe_ix ix_tup (pv 5) pe_int (fun _ _ => rfl)))) pa_nil))))))))))))))))))))))
    (pss_one (ps_ret (pv 2)))))), ?_⟩
  refine seq_asg ⟨_, rfl, a, ns, rfl, hS, h63, fun b c H1 hB nb nc s1 => ?_⟩
  refine seq_c ?_
  refine ⟨5, rfl, by decide, by decide, for_range (lo := 0) (n := 5) (fun i σ H' => Bag H' b c ∧ ∃ y3 y4 y5 y6 y7 y8, σ = [some (.ref a), some (.ref b), some (.bl true), y3, y4, y5, y6, y7, y8]) ⟨hB, none, none, none, none, none, none, rfl⟩ ?_ ?_⟩
  · rintro i σ H2 hi ⟨hB2, y3, y4, y5, y6, y7, y8, rfl⟩
    refine seq_asg ⟨_, rfl, _, rfl, b, c, rfl, hB2, fun g H3 hg hB3 ex3 => ⟨_, rfl, _, _, rfl, rfl, (by show 6 ≤ sizeLine; decide), fun l nl => ?_⟩⟩
    obtain ⟨lb, lc⟩ := hB3.off nl
    refine ⟨b, c, l, _, rfl, hB3.upd nl, lb, lc, upd_same, (fun z => nomatch z), (by show 6 ≤ 1000; decide), fun v H4 hv hB4 ex4 => ?_⟩
    obtain ⟨low, rfl, lo0, lo1⟩ : ∃ low : Int, v = .int low ∧ 0 < low ∧ low.natAbs < 2 ^ 93 := by
      simp only [List.mem_cons, List.not_mem_nil, or_false] at hv
      rcases hv with rfl | rfl | rfl | rfl | rfl | rfl
      · exact ⟨1, rfl, by decide, by decide⟩
      · exact ⟨2, rfl, by decide, by decide⟩
      · exact ⟨2, rfl, by decide, by decide⟩
      · exact ⟨3, rfl, by decide, by decide⟩
      · exact ⟨6, rfl, by decide, by decide⟩
      · refine ⟨_, rfl, ?_, ?_⟩ <;> rw [abs_if] <;> omega
    have lo2 : low ≠ 0 := by omega
    have lo9 : low.natAbs < 2 ^ 9000 := pow9000 (by omega)
    refine seq_asg ⟨_, rfl, b, c, rfl, hB4, fun g1 H5 hg1 hB5 ex5 => ⟨_, rfl, g1, low, rfl, lo9, lo2, fun p1 np1 => ?_⟩⟩
    refine seq_asg ⟨_, rfl, b, c, rfl, hB5.upd np1, fun g2 H6 hg2 hB6 ex6 => ⟨_, rfl, g2, low, rfl, lo9, lo2, fun p2 np2 => ?_⟩⟩
    have hp5 : H6 p1 = some (.tup [.int (rN g1 low), .int (rD g1 low)]) := ex6.tup (hB5.upd np1) upd_same
    have hB7 := hB6.upd (o := .tup [.int (rN g2 low), .int (rD g2 low)]) np2
    have hp7 := same_upd (o := .tup [.int (rN g2 low), .int (rD g2 low)]) np2 _ _ hp5
    have hq7 : (upd H6 p2 (.tup [.int (rN g2 low), .int (rD g2 low)])) p2 = some (.tup [.int (rN g2 low), .int (rD g2 low)]) := upd_same
    generalize upd H6 p2 (.tup [.int (rN g2 low), .int (rD g2 low)]) = H7 at hB7 hp7 hq7
    have d1 : 0 < rD g1 low := rD_pos lo2
    have d2 : 0 < rD g2 low := rD_pos lo2
    have bn1 : (rN g1 low).natAbs < 2 ^ 200 := Nat.lt_of_le_of_lt (rN_le lo2) (by omega)
    have bd1 : (rD g1 low).natAbs < 2 ^ 200 := Nat.lt_of_le_of_lt (rD_le lo2) (by omega)
    have bn2 : (rN g2 low).natAbs < 2 ^ 200 := Nat.lt_of_le_of_lt (rN_le lo2) (by omega)
    have bd2 : (rD g2 low).natAbs < 2 ^ 200 := Nat.lt_of_le_of_lt (rD_le lo2) (by omega)
    generalize rN g1 low = n1 at *
    generalize rD g1 low = e1 at *
    generalize rN g2 low = n2 at *
    generalize rD g2 low = e2 at *
    -- the second ratio
    refine seq_asg ⟨_, rfl, _, rfl, _, rfl, p1, _, _, _, rfl, rfl, SqT.of hp7, atI_nat (j := 0) rfl, _, _, rfl, rfl, _, rfl, p1, _, _, _, rfl, rfl, SqT.of hp7, atI_nat (j := 1) rfl, two, fun t1 nt1 => ?_⟩
    have hB8 := hB7.upd (o := .tup [.int (0 - n1), .int e1]) nt1
    have s8 : Same H7 (upd H7 t1 (.tup [.int (0 - n1), .int e1])) := same_upd nt1
    have ht8 : (upd H7 t1 (.tup [.int (0 - n1), .int e1])) t1 = some (.tup [.int (0 - n1), .int e1]) := upd_same
    refine ⟨_, rfl, _, rfl, b, c, rfl, hB8, fun g3 H9 hg3 hB9 ex9 => ⟨two, fun t2 nt2 => ⟨(by show 4 ≤ sizeLine; decide), fun l2 nl2 => ?_⟩⟩⟩
    have hB10 := hB9.upd (o := .tup [.int g3, .int 1]) nt2
    have s10 : Same H9 (upd H9 t2 (.tup [.int g3, .int 1])) := same_upd nt2
    obtain ⟨lb2, lc2⟩ := hB10.off nl2
    refine ⟨b, c, l2, _, rfl, hB10.upd nl2, lb2, lc2, upd_same, (fun z => nomatch z), (by show 4 ≤ 1000; decide), fun v H11 hv hB ex11 => ?_⟩
    have up : ∀ p xs, (upd H7 t1 (.tup [.int (0 - n1), .int e1])) p = some (.tup xs) → H11 p = some (.tup xs) := fun p xs e =>
      ex11.tup (hB10.upd nl2) (same_upd nl2 _ _ (s10 _ _ (ex9.tup hB8 e)))
    obtain ⟨z, m1, m2, rfl, hz, m0, bm1, bm2⟩ : ∃ (z : Addr) (m1 m2 : Int), v = .ref z ∧ H11 z = some (.tup [.int m1, .int m2]) ∧ 0 < m2 ∧ m1.natAbs < 2 ^ 200 ∧ m2.natAbs < 2 ^ 200 := by
      simp only [List.mem_cons, List.not_mem_nil, or_false] at hv
      rcases hv with rfl | rfl | rfl | rfl
      · exact ⟨p1, n1, e1, rfl, up _ _ (s8 _ _ hp7), d1, bn1, bd1⟩
      · exact ⟨t1, 0 - n1, e1, rfl, up _ _ ht8, d1, by omega, bd1⟩
      · exact ⟨p2, n2, e2, rfl, up _ _ (s8 _ _ hq7), d2, bn2, bd2⟩
      · exact ⟨t2, g3, 1, rfl, ex11.tup (hB10.upd nl2) (same_upd nl2 _ _ upd_same), by decide, by omega, by decide⟩
    have hp : H11 p1 = some (.tup [.int n1, .int e1]) := up _ _ (s8 _ _ hp7)
    clear up hv ex11 hq7 hp7 hp5
    have b1 := bd_of bn1
    have b2 := bd_of bd1
    have b3 := bd_of bm1
    have b4 := bd_of bm2
    have e10 : e1 ≠ 0 := by omega
    have m20 : m2 ≠ 0 := by omega
    have ne : e1 * m2 ≠ 0 := fun z => (Int.mul_eq_zero.mp z).elim e10 m20
    refine seq_asg ⟨_, rfl, true, rfl, iteT ⟨_, rfl, _, rfl, p1, z, n1, e1, m1, m2, rfl, SqT.of hp, SqT.of hz, b1, b2, b3, b4, ne, fun t ht => ?_⟩⟩
    refine ⟨_, rfl, _, rfl, p1, z, n1, e1, m1, m2, rfl, SqT.of (same_upd ht _ _ hp), SqT.of (same_upd ht _ _ hz), b1, b2, b3, b4, ne, fun t' ht' => ?_⟩
    refine ⟨_, _, rfl, Sm.two (same_upd ht' _ _ upd_same) upd_same rfl rfl, fun Hn sn => ?_⟩
    replace sn := (same_upd ht).trans ((same_upd ht').trans sn)
    replace hB := hB.same sn
    replace hp := sn _ _ hp
    replace hz := sn _ _ hz
    clear sn ht ht'
    refine seq_asg ⟨_, rfl, true, rfl, iteT ⟨_, rfl, _, rfl, p1, z, n1, e1, m1, m2, rfl, SqT.of hp, SqT.of hz, b1, b2, b3, b4, ne, fun t ht => ?_⟩⟩
    refine ⟨_, rfl, _, rfl, p1, z, n1, e1, m1, m2, rfl, SqT.of (same_upd ht _ _ hp), SqT.of (same_upd ht _ _ hz), b1, b2, b3, b4, ne, fun t' ht' => ?_⟩
    refine ⟨_, _, rfl, Sm.two (same_upd ht' _ _ upd_same) upd_same rfl rfl, fun Hn sn => ?_⟩
    replace sn := (same_upd ht).trans ((same_upd ht').trans sn)
    replace hB := hB.same sn
    replace hp := sn _ _ hp
    replace hz := sn _ _ hz
    clear sn ht ht'
    refine seq_asg ⟨_, rfl, true, rfl, iteT ⟨_, rfl, _, rfl, p1, z, n1, e1, m1, m2, rfl, SqT.of hp, SqT.of hz, b1, b2, b3, b4, ne, fun t ht => ?_⟩⟩
    refine ⟨_, rfl, _, rfl, p1, z, n1, e1, m1, m2, rfl, SqT.of (same_upd ht _ _ hp), SqT.of (same_upd ht _ _ hz), b1, b2, b3, b4, ne, fun t' ht' => ?_⟩
    refine ⟨_, _, rfl, Sm.two (same_upd ht' _ _ upd_same) upd_same rfl rfl, fun Hn sn => ?_⟩
    replace sn := (same_upd ht).trans ((same_upd ht').trans sn)
    replace hB := hB.same sn
    replace hp := sn _ _ hp
    replace hz := sn _ _ hz
    clear sn ht ht'
    refine seq_c ?_
    refine seq_by (fun σ H' => Bag H' b c ∧ H' p1 = some (.tup [.int n1, .int e1]) ∧ H' z = some (.tup [.int m1, .int m2]) ∧ ∃ y3 due y8, σ = [some (.ref a), some (.ref b), some (.bl true), y3, some (.int low), some (.ref p1), some (.ref z), some due, y8] ∧
      (m1 = 0 → due = .str "no") ∧ (m1 ≠ 0 → ∃ d, due = .ref d ∧ H' d = some (.tup [.int (rN (n1 * m2) (e1 * m1)), .int (rD (n1 * m2) (e1 * m1))]))) ?_ (fun k => ?_)
    rotate_left
    · refine ⟨_, rfl, z, _, _, _, rfl, rfl, SqT.of hz, atI_nat (j := 0) rfl, rfl, _, rfl, ite2 (fun w => ?_) (fun w => ?_)⟩
      · have w0 := ne_true w
        refine ⟨_, rfl, _, rfl, p1, z, n1, e1, m1, m2, rfl, SqT.of hp, SqT.of hz, b1, b2, b3, b4, fun x => (Int.mul_eq_zero.mp x).elim e10 w0, fun t ht => ?_⟩
        exact k _ _ ⟨hB.upd ht, same_upd ht _ _ hp, same_upd ht _ _ hz, _, _, _, rfl, fun x => absurd x w0, fun _ => ⟨t, rfl, upd_same⟩⟩
      · have w0 := ne_false w
        exact k _ _ ⟨hB, hp, hz, _, _, _, rfl, fun _ => rfl, fun x => absurd w0 x⟩
    clear hB hp hz
    rintro σ H12 ⟨hB, hp, hz, y3, due, y8, rfl, du0, du1⟩
    refine seq_by (fun σ H' => Bag H' b c ∧ H' p1 = some (.tup [.int n1, .int e1]) ∧ H' z = some (.tup [.int m1, .int m2]) ∧ ∃ y7, σ = [some (.ref a), some (.ref b), some (.bl true), y3, some (.int low), some (.ref p1), some (.ref z), y7, y8]) ?_ (fun k => ?_)
    rotate_left
    · refine ⟨_, rfl, true, rfl, iteT ⟨_, rfl, _, rfl, p1, z, n1, e1, m1, m2, rfl, SqT.of hp, SqT.of hz, b1, b2, b3, b4, e10, fun x => ?_, fun x t ht => ?_⟩⟩
      · obtain rfl := du0 x
        refine ⟨_, rfl, _, _, rfl, Sm.flat rfl 1, fun Hn sn => ?_⟩
        exact k _ _ ⟨hB.same sn, sn _ _ hp, sn _ _ hz, _, rfl⟩
      · obtain ⟨d, rfl, hd⟩ := du1 x
        refine ⟨_, rfl, _, _, rfl, Sm.two upd_same (same_upd ht _ _ hd) rfl rfl, fun Hn sn => ?_⟩
        replace sn := (same_upd ht).trans sn
        exact k _ _ ⟨hB.same sn, sn _ _ hp, sn _ _ hz, _, rfl⟩
    clear hB hp hz du0 du1
    rintro σ H13 ⟨hB, hp, hz, y7, rfl⟩
    refine seq_asg ⟨_, rfl, _, rfl, p1, z, n1, e1, m1, m2, rfl, SqT.of hp, SqT.of hz, b1, b2, b3, b4, ?_⟩
    refine seq_asg ⟨_, rfl, true, rfl, iteT ⟨_, rfl, _, rfl, p1, z, n1, e1, m1, m2, rfl, SqT.of hp, SqT.of hz, b1, b2, b3, b4, _, rfl, _, _, rfl, rfl, .inr ⟨_, rfl, _, rfl, _, _, rfl, rfl, .inr ⟨_, rfl, ?_⟩⟩⟩⟩
    refine ⟨_, _, rfl, rfl, _, _, rfl, .inl ⟨rfl, congrArg V.int (ord_eq (n1 * m2 - m1 * e1))⟩, fun Hn sn => ?_⟩
    replace hB := hB.same sn
    replace hp := sn _ _ hp
    replace hz := sn _ _ hz
    clear sn
    -- size
    refine seq_asg ⟨_, rfl, true, rfl, iteT ⟨_, rfl, p1, n1, e1, rfl, SqT.of hp, fun t ht => ?_⟩⟩
    refine ⟨_, rfl, p1, _, _, _, rfl, rfl, SqT.of (same_upd ht _ _ hp), atI_nat (j := 0) rfl, _, rfl, _, rfl, p1, _, _, _, rfl, rfl, SqT.of (same_upd ht _ _ hp), atI_nat (j := 1) rfl, two, fun t' ht' => ?_⟩
    rw [abs_if] at *
    refine ⟨_, _, rfl, Sm.two (same_upd ht' _ _ upd_same) upd_same rfl rfl, fun Hn sn => ?_⟩
    replace sn := (same_upd ht).trans ((same_upd ht').trans sn)
    replace hB := hB.same sn
    replace hp := sn _ _ hp
    replace hz := sn _ _ hz
    clear sn ht ht'
    -- floor
    have z9 : e1.natAbs < 2 ^ 9000 := pow9000 bd1
    refine seq_asg ⟨_, rfl, true, rfl, iteT ⟨_, rfl, p1, n1, e1, rfl, SqT.of hp, divZ e10 z9, ?_⟩⟩
    refine ⟨_, rfl, p1, _, _, _, rfl, rfl, SqT.of hp, atI_nat (j := 0) rfl, _, rfl, p1, _, _, _, rfl, rfl, SqT.of hp, atI_nat (j := 1) rfl, _, _, rfl, rfl, divZ e10 z9, ?_⟩
    refine ⟨_, _, rfl, Sm.flat rfl 1, fun Hn sn => ?_⟩
    replace hB := hB.same sn
    replace hp := sn _ _ hp
    replace hz := sn _ _ hz
    clear sn
    -- nearest
    have z8 : (2 * e1).natAbs < 2 ^ 9000 := Nat.lt_of_lt_of_le (show (2 * e1).natAbs < 2 ^ 201 by omega) (Nat.pow_le_pow_right (by decide) (by decide))
    refine ⟨_, rfl, true, rfl, iteT ⟨_, rfl, p1, n1, e1, rfl, SqT.of hp, b1, b2, d1, fun H14 s14 => ?_⟩⟩
    replace hB := hB.same s14
    replace hp := s14 _ _ hp
    refine ⟨_, rfl, p1, _, _, _, rfl, rfl, SqT.of hp, atI_nat (j := 0) rfl, _, _, rfl, rfl, wm (bd_of (by decide)) b1, _, rfl, p1, _, _, _, rfl, rfl, SqT.of hp, atI_nat (j := 1) rfl, _, _, rfl, rfl, _, rfl, p1, _, _, _, rfl, rfl, SqT.of hp, atI_nat (j := 1) rfl, _, _, rfl, rfl, wm (bd_of (by decide)) b2, _, _, rfl, rfl, divZ (by omega) z8, ?_⟩
    refine ⟨_, _, rfl, Sm.flat rfl 1, fun Hn sn => ?_⟩
    exact ⟨hB.same sn, _, _, _, _, _, _, rfl⟩
  · rintro σ H2 ⟨hB2, y3, y4, y5, y6, y7, y8, rfl⟩
    exact ⟨_, rfl, q H2⟩

end
structure Put (K : PySem.W.Frag) (name : String) (st : Stmt) (f : Addr) : Prop where
  a : PySem.W.nsIn K mainGlobals (Str.ofString name) = some (some (.ref f))
  l : ∃ (oc : Value) (od : Option Addr) (kV dc pm : Value) (an : Option Addr) (cd ct : Value) (sl : Array (Option Value)), K.lookup f = some ⟨oc, od, .func (PySem.W.fnOf (Str.ofString name) (Str.ofString name) (defArgs st) (defBody st) (defScope st) .none kV dc pm an cd ct), sl⟩ ∧ PySem.W.codeIn K cd (Str.ofString name) = true
  k : PySem.W.keepIn K (.ref f) = true
theorem put_mk {K : PySem.W.Frag} {name : String} {st : Stmt} {f : Addr} {oc : Value} {od : Option Addr} {kV dc pm : Value} {an : Option Addr} {cd ct : Value} {sl : Array (Option Value)} (a : PySem.W.nsIn K mainGlobals (Str.ofString name) = some (some (.ref f)))
    (l : K.lookup f = some ⟨oc, od, .func (PySem.W.fnOf (Str.ofString name) (Str.ofString name) (defArgs st) (defBody st) (defScope st) .none kV dc pm an cd ct), sl⟩) (c : PySem.W.codeIn K cd (Str.ofString name) = true) (k : PySem.W.keepIn K (.ref f) = true) : Put K name st f :=
  ⟨a, ⟨oc, od, kV, dc, pm, an, cd, ct, sl, l, c⟩, k⟩
theorem all_mk {l : PySem.W.OpenLaw} {w : World} {K : PySem.W.Frag} {h : Heap} {mg : Str → Option Value} {fa f_greatest_common f_ratio f_plus f_minus f_times f_divided f_order f_size f_floor f_nearest f_law_bag f_law_draw f_law_whole f_law_same f_law_any f_law_big f_law_rat f_law_sum f_law_dif f_law_prod f_law_quo f_law_comp f_law_quotient f_law C_NoRatio : Addr} (X : K.In h) (G : h.Ns mainGlobals mg) (hfa : mg "law" = some (.ref fa))
    (p_greatest_common : Put K "greatest_common" s_greatest_common f_greatest_common)
    (p_ratio : Put K "ratio" s_ratio f_ratio)
    (p_plus : Put K "plus" s_plus f_plus)
    (p_minus : Put K "minus" s_minus f_minus)
    (p_times : Put K "times" s_times f_times)
    (p_divided : Put K "divided" s_divided f_divided)
    (p_order : Put K "order" s_order f_order)
    (p_size : Put K "size" s_size f_size)
    (p_floor : Put K "floor" s_floor f_floor)
    (p_nearest : Put K "nearest" s_nearest f_nearest)
    (p_law_bag : Put K "_law_bag" s_law_bag f_law_bag)
    (p_law_draw : Put K "_law_draw" s_law_draw f_law_draw)
    (p_law_whole : Put K "_law_whole" s_law_whole f_law_whole)
    (p_law_same : Put K "_law_same" s_law_same f_law_same)
    (p_law_any : Put K "_law_any" s_law_any f_law_any)
    (p_law_big : Put K "_law_big" s_law_big f_law_big)
    (p_law_rat : Put K "_law_rat" s_law_rat f_law_rat)
    (p_law_sum : Put K "_law_sum" s_law_sum f_law_sum)
    (p_law_dif : Put K "_law_dif" s_law_dif f_law_dif)
    (p_law_prod : Put K "_law_prod" s_law_prod f_law_prod)
    (p_law_quo : Put K "_law_quo" s_law_quo f_law_quo)
    (p_law_comp : Put K "_law_comp" s_law_comp f_law_comp)
    (p_law_quotient : Put K "_law_quotient" s_law_quotient f_law_quotient)
    (p_law : Put K "law" s_law f_law)
    (aC : PySem.W.nsIn K mainGlobals "NoRatio" = some (some (.ref C_NoRatio)))
    (x : PySem.W.excIn K C_NoRatio [.type "ZeroDivisionError", .type "ArithmeticError", .type "Exception", .type "BaseException", .type "object"] "ZeroDivisionError.__new__" = true)
    (k : PySem.W.keepIn K (.ref C_NoRatio) = true)
    (b : PySem.W.subIn K (.ref C_NoRatio) (.type "BaseException") = some true)
    (t : PySem.W.typeIn K (.ref C_NoRatio) = some (.type "type"))
    (e4 : PySem.W.hasDictIn K C_NoRatio = true)
    (sc : PySem.W.subIn K (.ref C_NoRatio) (.ref C_NoRatio) = some true)
    (z_len : PySem.W.nsIn K mainGlobals "len" = some none)
    (z_list : PySem.W.nsIn K mainGlobals "list" = some none)
    (z_abs : PySem.W.nsIn K mainGlobals "abs" = some none)
    (z_isinstance : PySem.W.nsIn K mainGlobals "isinstance" = some none)
    (z_int : PySem.W.nsIn K mainGlobals "int" = some none)
    (z_bool : PySem.W.nsIn K mainGlobals "bool" = some none)
    (z_str : PySem.W.nsIn K mainGlobals "str" = some none)
    (z_dict : PySem.W.nsIn K mainGlobals "dict" = some none)
    (z_tuple : PySem.W.nsIn K mainGlobals "tuple" = some none)
    (z_all : PySem.W.nsIn K mainGlobals "all" = some none)
    (z_range : PySem.W.nsIn K mainGlobals "range" = some none) :
    ∃ fd : FuncData, (∀ (s : Shared) (v : Value), BindsTo s fd ⟨[v], []⟩ [("_law_script", v)]) ∧ ∀ base : Heap, K.In base → base.Ns mainGlobals mg → FnOk l.prog w K mg base CX0 5 fa fd ["_law_script"] (spLaw K) := by
  have e := hfa.symm.trans (PySem.W.mg_of X G p_law.a)
  cases e
  obtain ⟨a_greatest_common, ⟨oc_greatest_common, od_greatest_common, kV_greatest_common, dc_greatest_common, pm_greatest_common, an_greatest_common, cd_greatest_common, ct_greatest_common, sl_greatest_common, l_greatest_common, c_greatest_common⟩, k_greatest_common⟩ := p_greatest_common
  have F_greatest_common := fun_mk (st := s_greatest_common) l_greatest_common c_greatest_common k_greatest_common
  have b_greatest_common := F_greatest_common.binds (ps := p_greatest_common) fun _ _ _ _ _ _ us hl => match us, hl with | [_, _], _ => rfl
  obtain ⟨a_ratio, ⟨oc_ratio, od_ratio, kV_ratio, dc_ratio, pm_ratio, an_ratio, cd_ratio, ct_ratio, sl_ratio, l_ratio, c_ratio⟩, k_ratio⟩ := p_ratio
  have F_ratio := fun_mk (st := s_ratio) l_ratio c_ratio k_ratio
  have b_ratio := F_ratio.binds (ps := p_ratio) fun _ _ _ _ _ _ us hl => match us, hl with | [_, _], _ => rfl
  obtain ⟨a_plus, ⟨oc_plus, od_plus, kV_plus, dc_plus, pm_plus, an_plus, cd_plus, ct_plus, sl_plus, l_plus, c_plus⟩, k_plus⟩ := p_plus
  have F_plus := fun_mk (st := s_plus) l_plus c_plus k_plus
  have b_plus := F_plus.binds (ps := p_plus) fun _ _ _ _ _ _ us hl => match us, hl with | [_, _], _ => rfl
  obtain ⟨a_minus, ⟨oc_minus, od_minus, kV_minus, dc_minus, pm_minus, an_minus, cd_minus, ct_minus, sl_minus, l_minus, c_minus⟩, k_minus⟩ := p_minus
  have F_minus := fun_mk (st := s_minus) l_minus c_minus k_minus
  have b_minus := F_minus.binds (ps := p_minus) fun _ _ _ _ _ _ us hl => match us, hl with | [_, _], _ => rfl
  obtain ⟨a_times, ⟨oc_times, od_times, kV_times, dc_times, pm_times, an_times, cd_times, ct_times, sl_times, l_times, c_times⟩, k_times⟩ := p_times
  have F_times := fun_mk (st := s_times) l_times c_times k_times
  have b_times := F_times.binds (ps := p_times) fun _ _ _ _ _ _ us hl => match us, hl with | [_, _], _ => rfl
  obtain ⟨a_divided, ⟨oc_divided, od_divided, kV_divided, dc_divided, pm_divided, an_divided, cd_divided, ct_divided, sl_divided, l_divided, c_divided⟩, k_divided⟩ := p_divided
  have F_divided := fun_mk (st := s_divided) l_divided c_divided k_divided
  have b_divided := F_divided.binds (ps := p_divided) fun _ _ _ _ _ _ us hl => match us, hl with | [_, _], _ => rfl
  obtain ⟨a_order, ⟨oc_order, od_order, kV_order, dc_order, pm_order, an_order, cd_order, ct_order, sl_order, l_order, c_order⟩, k_order⟩ := p_order
  have F_order := fun_mk (st := s_order) l_order c_order k_order
  have b_order := F_order.binds (ps := p_order) fun _ _ _ _ _ _ us hl => match us, hl with | [_, _], _ => rfl
  obtain ⟨a_size, ⟨oc_size, od_size, kV_size, dc_size, pm_size, an_size, cd_size, ct_size, sl_size, l_size, c_size⟩, k_size⟩ := p_size
  have F_size := fun_mk (st := s_size) l_size c_size k_size
  have b_size := F_size.binds (ps := p_size) fun _ _ _ _ _ _ us hl => match us, hl with | [_], _ => rfl
  obtain ⟨a_floor, ⟨oc_floor, od_floor, kV_floor, dc_floor, pm_floor, an_floor, cd_floor, ct_floor, sl_floor, l_floor, c_floor⟩, k_floor⟩ := p_floor
  have F_floor := fun_mk (st := s_floor) l_floor c_floor k_floor
  have b_floor := F_floor.binds (ps := p_floor) fun _ _ _ _ _ _ us hl => match us, hl with | [_], _ => rfl
  obtain ⟨a_nearest, ⟨oc_nearest, od_nearest, kV_nearest, dc_nearest, pm_nearest, an_nearest, cd_nearest, ct_nearest, sl_nearest, l_nearest, c_nearest⟩, k_nearest⟩ := p_nearest
  have F_nearest := fun_mk (st := s_nearest) l_nearest c_nearest k_nearest
  have b_nearest := F_nearest.binds (ps := p_nearest) fun _ _ _ _ _ _ us hl => match us, hl with | [_], _ => rfl
  obtain ⟨a_law_bag, ⟨oc_law_bag, od_law_bag, kV_law_bag, dc_law_bag, pm_law_bag, an_law_bag, cd_law_bag, ct_law_bag, sl_law_bag, l_law_bag, c_law_bag⟩, k_law_bag⟩ := p_law_bag
  have F_law_bag := fun_mk (st := s_law_bag) l_law_bag c_law_bag k_law_bag
  have b_law_bag := F_law_bag.binds (ps := p_law_bag) fun _ _ _ _ _ _ us hl => match us, hl with | [_], _ => rfl
  obtain ⟨a_law_draw, ⟨oc_law_draw, od_law_draw, kV_law_draw, dc_law_draw, pm_law_draw, an_law_draw, cd_law_draw, ct_law_draw, sl_law_draw, l_law_draw, c_law_draw⟩, k_law_draw⟩ := p_law_draw
  have F_law_draw := fun_mk (st := s_law_draw) l_law_draw c_law_draw k_law_draw
  have b_law_draw := F_law_draw.binds (ps := p_law_draw) fun _ _ _ _ _ _ us hl => match us, hl with | [_, _], _ => rfl
  obtain ⟨a_law_whole, ⟨oc_law_whole, od_law_whole, kV_law_whole, dc_law_whole, pm_law_whole, an_law_whole, cd_law_whole, ct_law_whole, sl_law_whole, l_law_whole, c_law_whole⟩, k_law_whole⟩ := p_law_whole
  have F_law_whole := fun_mk (st := s_law_whole) l_law_whole c_law_whole k_law_whole
  have b_law_whole := F_law_whole.binds (ps := p_law_whole) fun _ _ _ _ _ _ us hl => match us, hl with | [_], _ => rfl
  obtain ⟨a_law_same, ⟨oc_law_same, od_law_same, kV_law_same, dc_law_same, pm_law_same, an_law_same, cd_law_same, ct_law_same, sl_law_same, l_law_same, c_law_same⟩, k_law_same⟩ := p_law_same
  have F_law_same := fun_mk (st := s_law_same) l_law_same c_law_same k_law_same
  have b_law_same := F_law_same.binds (ps := p_law_same) fun _ _ _ _ _ _ us hl => match us, hl with | [_, _], _ => rfl
  obtain ⟨a_law_any, ⟨oc_law_any, od_law_any, kV_law_any, dc_law_any, pm_law_any, an_law_any, cd_law_any, ct_law_any, sl_law_any, l_law_any, c_law_any⟩, k_law_any⟩ := p_law_any
  have F_law_any := fun_mk (st := s_law_any) l_law_any c_law_any k_law_any
  have b_law_any := F_law_any.binds (ps := p_law_any) fun _ _ _ _ _ _ us hl => match us, hl with | [_, _], _ => rfl
  obtain ⟨a_law_big, ⟨oc_law_big, od_law_big, kV_law_big, dc_law_big, pm_law_big, an_law_big, cd_law_big, ct_law_big, sl_law_big, l_law_big, c_law_big⟩, k_law_big⟩ := p_law_big
  have F_law_big := fun_mk (st := s_law_big) l_law_big c_law_big k_law_big
  have b_law_big := F_law_big.binds (ps := p_law_big) fun _ _ _ _ _ _ us hl => match us, hl with | [_], _ => rfl
  obtain ⟨a_law_rat, ⟨oc_law_rat, od_law_rat, kV_law_rat, dc_law_rat, pm_law_rat, an_law_rat, cd_law_rat, ct_law_rat, sl_law_rat, l_law_rat, c_law_rat⟩, k_law_rat⟩ := p_law_rat
  have F_law_rat := fun_mk (st := s_law_rat) l_law_rat c_law_rat k_law_rat
  have b_law_rat := F_law_rat.binds (ps := p_law_rat) fun _ _ _ _ _ _ us hl => match us, hl with | [_, _], _ => rfl
  obtain ⟨a_law_sum, ⟨oc_law_sum, od_law_sum, kV_law_sum, dc_law_sum, pm_law_sum, an_law_sum, cd_law_sum, ct_law_sum, sl_law_sum, l_law_sum, c_law_sum⟩, k_law_sum⟩ := p_law_sum
  have F_law_sum := fun_mk (st := s_law_sum) l_law_sum c_law_sum k_law_sum
  have b_law_sum := F_law_sum.binds (ps := p_law_sum) fun _ _ _ _ _ _ us hl => match us, hl with | [_, _], _ => rfl
  obtain ⟨a_law_dif, ⟨oc_law_dif, od_law_dif, kV_law_dif, dc_law_dif, pm_law_dif, an_law_dif, cd_law_dif, ct_law_dif, sl_law_dif, l_law_dif, c_law_dif⟩, k_law_dif⟩ := p_law_dif
  have F_law_dif := fun_mk (st := s_law_dif) l_law_dif c_law_dif k_law_dif
  have b_law_dif := F_law_dif.binds (ps := p_law_dif) fun _ _ _ _ _ _ us hl => match us, hl with | [_, _], _ => rfl
  obtain ⟨a_law_prod, ⟨oc_law_prod, od_law_prod, kV_law_prod, dc_law_prod, pm_law_prod, an_law_prod, cd_law_prod, ct_law_prod, sl_law_prod, l_law_prod, c_law_prod⟩, k_law_prod⟩ := p_law_prod
  have F_law_prod := fun_mk (st := s_law_prod) l_law_prod c_law_prod k_law_prod
  have b_law_prod := F_law_prod.binds (ps := p_law_prod) fun _ _ _ _ _ _ us hl => match us, hl with | [_, _], _ => rfl
  obtain ⟨a_law_quo, ⟨oc_law_quo, od_law_quo, kV_law_quo, dc_law_quo, pm_law_quo, an_law_quo, cd_law_quo, ct_law_quo, sl_law_quo, l_law_quo, c_law_quo⟩, k_law_quo⟩ := p_law_quo
  have F_law_quo := fun_mk (st := s_law_quo) l_law_quo c_law_quo k_law_quo
  have b_law_quo := F_law_quo.binds (ps := p_law_quo) fun _ _ _ _ _ _ us hl => match us, hl with | [_, _], _ => rfl
  obtain ⟨a_law_comp, ⟨oc_law_comp, od_law_comp, kV_law_comp, dc_law_comp, pm_law_comp, an_law_comp, cd_law_comp, ct_law_comp, sl_law_comp, l_law_comp, c_law_comp⟩, k_law_comp⟩ := p_law_comp
  have F_law_comp := fun_mk (st := s_law_comp) l_law_comp c_law_comp k_law_comp
  have b_law_comp := F_law_comp.binds (ps := p_law_comp) fun _ _ _ _ _ _ us hl => match us, hl with | [_, _], _ => rfl
  obtain ⟨a_law_quotient, ⟨oc_law_quotient, od_law_quotient, kV_law_quotient, dc_law_quotient, pm_law_quotient, an_law_quotient, cd_law_quotient, ct_law_quotient, sl_law_quotient, l_law_quotient, c_law_quotient⟩, k_law_quotient⟩ := p_law_quotient
  have F_law_quotient := fun_mk (st := s_law_quotient) l_law_quotient c_law_quotient k_law_quotient
  have b_law_quotient := F_law_quotient.binds (ps := p_law_quotient) fun _ _ _ _ _ _ us hl => match us, hl with | [_, _], _ => rfl
  obtain ⟨a_law, ⟨oc_law, od_law, kV_law, dc_law, pm_law, an_law, cd_law, ct_law, sl_law, l_law, c_law⟩, k_law⟩ := p_law
  have F_law := fun_mk (st := s_law) l_law c_law k_law
  have b_law := F_law.binds (ps := p_law) fun _ _ _ _ _ _ us hl => match us, hl with | [_], _ => rfl
  have B : Bt mg := ⟨PySem.W.mg_none_of X G z_len, PySem.W.mg_none_of X G z_list, PySem.W.mg_none_of X G z_abs, PySem.W.mg_none_of X G z_isinstance, PySem.W.mg_none_of X G z_int, PySem.W.mg_none_of X G z_bool, PySem.W.mg_none_of X G z_str, PySem.W.mg_none_of X G z_dict, PySem.W.mg_none_of X G z_tuple, PySem.W.mg_none_of X G z_all, PySem.W.mg_none_of X G z_range⟩
  have XN : NoR K mg C_NoRatio := ⟨PySem.W.mg_of X G aC, x, k, b, t, PySem.W.exm_ref b e4 t sc⟩
  let ev : Env K mg := { f_greatest_common := f_greatest_common, d_greatest_common := _, A_greatest_common := ⟨F_greatest_common, b_greatest_common, PySem.W.mg_of X G a_greatest_common⟩, f_ratio := f_ratio, d_ratio := _, A_ratio := ⟨F_ratio, b_ratio, PySem.W.mg_of X G a_ratio⟩, f_plus := f_plus, d_plus := _, A_plus := ⟨F_plus, b_plus, PySem.W.mg_of X G a_plus⟩, f_minus := f_minus, d_minus := _, A_minus := ⟨F_minus, b_minus, PySem.W.mg_of X G a_minus⟩, f_times := f_times, d_times := _, A_times := ⟨F_times, b_times, PySem.W.mg_of X G a_times⟩, f_divided := f_divided, d_divided := _, A_divided := ⟨F_divided, b_divided, PySem.W.mg_of X G a_divided⟩, f_order := f_order, d_order := _, A_order := ⟨F_order, b_order, PySem.W.mg_of X G a_order⟩, f_size := f_size, d_size := _, A_size := ⟨F_size, b_size, PySem.W.mg_of X G a_size⟩, f_floor := f_floor, d_floor := _, A_floor := ⟨F_floor, b_floor, PySem.W.mg_of X G a_floor⟩, f_nearest := f_nearest, d_nearest := _, A_nearest := ⟨F_nearest, b_nearest, PySem.W.mg_of X G a_nearest⟩, f_law_bag := f_law_bag, d_law_bag := _, A_law_bag := ⟨F_law_bag, b_law_bag, PySem.W.mg_of X G a_law_bag⟩, f_law_draw := f_law_draw, d_law_draw := _, A_law_draw := ⟨F_law_draw, b_law_draw, PySem.W.mg_of X G a_law_draw⟩, f_law_whole := f_law_whole, d_law_whole := _, A_law_whole := ⟨F_law_whole, b_law_whole, PySem.W.mg_of X G a_law_whole⟩, f_law_same := f_law_same, d_law_same := _, A_law_same := ⟨F_law_same, b_law_same, PySem.W.mg_of X G a_law_same⟩, f_law_any := f_law_any, d_law_any := _, A_law_any := ⟨F_law_any, b_law_any, PySem.W.mg_of X G a_law_any⟩, f_law_big := f_law_big, d_law_big := _, A_law_big := ⟨F_law_big, b_law_big, PySem.W.mg_of X G a_law_big⟩, f_law_rat := f_law_rat, d_law_rat := _, A_law_rat := ⟨F_law_rat, b_law_rat, PySem.W.mg_of X G a_law_rat⟩, f_law_sum := f_law_sum, d_law_sum := _, A_law_sum := ⟨F_law_sum, b_law_sum, PySem.W.mg_of X G a_law_sum⟩, f_law_dif := f_law_dif, d_law_dif := _, A_law_dif := ⟨F_law_dif, b_law_dif, PySem.W.mg_of X G a_law_dif⟩, f_law_prod := f_law_prod, d_law_prod := _, A_law_prod := ⟨F_law_prod, b_law_prod, PySem.W.mg_of X G a_law_prod⟩, f_law_quo := f_law_quo, d_law_quo := _, A_law_quo := ⟨F_law_quo, b_law_quo, PySem.W.mg_of X G a_law_quo⟩, f_law_comp := f_law_comp, d_law_comp := _, A_law_comp := ⟨F_law_comp, b_law_comp, PySem.W.mg_of X G a_law_comp⟩, f_law_quotient := f_law_quotient, d_law_quotient := _, A_law_quotient := ⟨F_law_quotient, b_law_quotient, PySem.W.mg_of X G a_law_quotient⟩, f_law := fa, d_law := _, A_law := ⟨F_law, b_law, PySem.W.mg_of X G a_law⟩, B := B, C_NoRatio := C_NoRatio, X_NoRatio := XN }
  exact ⟨_, fun s v => .of_eq rfl, fun base _ _ => ok_law ev⟩
end G
open PySem PySem.W PyProof.Rows
set_option maxHeartbeats 0 in
theorem PySem.Challenge.cw_gromatic_k02_ratios_reckoned_holds : PySem.Challenge.rw_gromatic_k02_ratios_reckoned.Holds := by
  w_on; o_law; k_head; (case hw => w_witness2)
  k_fill
  refine L2.walk_of (l := PySem.Challenge.rw_gromatic_k02_ratios_reckoned) (n := 63) (k := 5) (x := "_law_script") (CX := fun _ => L2.CX0) (sp := fun w => G.spLaw _) rfl (by decide) rfl ⟨rfl, by decide, by decide⟩ (fun w h Y => PySem.W.kIn_of Y) ?F (fun _ _ a ns hl _ hS => ⟨a, ns, rfl, hS, hl, fun _ => rfl⟩) (fun _ _ _ _ _ h => h)
  case F =>
    intro w mg fa h KX GN hmg
    refine' G.all_mk KX GN hmg (G.put_mk ?a_greatest_common ?l_greatest_common ?c_greatest_common ?k_greatest_common) (G.put_mk ?a_ratio ?l_ratio ?c_ratio ?k_ratio) (G.put_mk ?a_plus ?l_plus ?c_plus ?k_plus) (G.put_mk ?a_minus ?l_minus ?c_minus ?k_minus) (G.put_mk ?a_times ?l_times ?c_times ?k_times) (G.put_mk ?a_divided ?l_divided ?c_divided ?k_divided) (G.put_mk ?a_order ?l_order ?c_order ?k_order) (G.put_mk ?a_size ?l_size ?c_size ?k_size) (G.put_mk ?a_floor ?l_floor ?c_floor ?k_floor) (G.put_mk ?a_nearest ?l_nearest ?c_nearest ?k_nearest) (G.put_mk ?a_law_bag ?l_law_bag ?c_law_bag ?k_law_bag) (G.put_mk ?a_law_draw ?l_law_draw ?c_law_draw ?k_law_draw) (G.put_mk ?a_law_whole ?l_law_whole ?c_law_whole ?k_law_whole) (G.put_mk ?a_law_same ?l_law_same ?c_law_same ?k_law_same) (G.put_mk ?a_law_any ?l_law_any ?c_law_any ?k_law_any) (G.put_mk ?a_law_big ?l_law_big ?c_law_big ?k_law_big) (G.put_mk ?a_law_rat ?l_law_rat ?c_law_rat ?k_law_rat) (G.put_mk ?a_law_sum ?l_law_sum ?c_law_sum ?k_law_sum) (G.put_mk ?a_law_dif ?l_law_dif ?c_law_dif ?k_law_dif) (G.put_mk ?a_law_prod ?l_law_prod ?c_law_prod ?k_law_prod) (G.put_mk ?a_law_quo ?l_law_quo ?c_law_quo ?k_law_quo) (G.put_mk ?a_law_comp ?l_law_comp ?c_law_comp ?k_law_comp) (G.put_mk ?a_law_quotient ?l_law_quotient ?c_law_quotient ?k_law_quotient) (G.put_mk ?a_law ?l_law ?c_law ?k_law) ?aC ?x ?k ?b ?t ?e4 ?sc ?z_len ?z_list ?z_abs ?z_isinstance ?z_int ?z_bool ?z_str ?z_dict ?z_tuple ?z_all ?z_range
    (case a_greatest_common => k_is)
    (case l_greatest_common => k_is)
    (case c_greatest_common => k_is)
    (case k_greatest_common => k_is)
    (case a_ratio => k_is)
    (case l_ratio => k_is)
    (case c_ratio => k_is)
    (case k_ratio => k_is)
    (case a_plus => k_is)
    (case l_plus => k_is)
    (case c_plus => k_is)
    (case k_plus => k_is)
    (case a_minus => k_is)
    (case l_minus => k_is)
    (case c_minus => k_is)
    (case k_minus => k_is)
    (case a_times => k_is)
    (case l_times => k_is)
    (case c_times => k_is)
    (case k_times => k_is)
    (case a_divided => k_is)
    (case l_divided => k_is)
    (case c_divided => k_is)
    (case k_divided => k_is)
    (case a_order => k_is)
    (case l_order => k_is)
    (case c_order => k_is)
    (case k_order => k_is)
    (case a_size => k_is)
    (case l_size => k_is)
    (case c_size => k_is)
    (case k_size => k_is)
    (case a_floor => k_is)
    (case l_floor => k_is)
    (case c_floor => k_is)
    (case k_floor => k_is)
    (case a_nearest => k_is)
    (case l_nearest => k_is)
    (case c_nearest => k_is)
    (case k_nearest => k_is)
    (case a_law_bag => k_is)
    (case l_law_bag => k_is)
    (case c_law_bag => k_is)
    (case k_law_bag => k_is)
    (case a_law_draw => k_is)
    (case l_law_draw => k_is)
    (case c_law_draw => k_is)
    (case k_law_draw => k_is)
    (case a_law_whole => k_is)
    (case l_law_whole => k_is)
    (case c_law_whole => k_is)
    (case k_law_whole => k_is)
    (case a_law_same => k_is)
    (case l_law_same => k_is)
    (case c_law_same => k_is)
    (case k_law_same => k_is)
    (case a_law_any => k_is)
    (case l_law_any => k_is)
    (case c_law_any => k_is)
    (case k_law_any => k_is)
    (case a_law_big => k_is)
    (case l_law_big => k_is)
    (case c_law_big => k_is)
    (case k_law_big => k_is)
    (case a_law_rat => k_is)
    (case l_law_rat => k_is)
    (case c_law_rat => k_is)
    (case k_law_rat => k_is)
    (case a_law_sum => k_is)
    (case l_law_sum => k_is)
    (case c_law_sum => k_is)
    (case k_law_sum => k_is)
    (case a_law_dif => k_is)
    (case l_law_dif => k_is)
    (case c_law_dif => k_is)
    (case k_law_dif => k_is)
    (case a_law_prod => k_is)
    (case l_law_prod => k_is)
    (case c_law_prod => k_is)
    (case k_law_prod => k_is)
    (case a_law_quo => k_is)
    (case l_law_quo => k_is)
    (case c_law_quo => k_is)
    (case k_law_quo => k_is)
    (case a_law_comp => k_is)
    (case l_law_comp => k_is)
    (case c_law_comp => k_is)
    (case k_law_comp => k_is)
    (case a_law_quotient => k_is)
    (case l_law_quotient => k_is)
    (case c_law_quotient => k_is)
    (case k_law_quotient => k_is)
    (case a_law => k_is)
    (case l_law => k_is)
    (case c_law => k_is)
    (case k_law => k_is)
    (case aC => k_is)
    (case x => k_exc)
    (case k => k_is)
    (case b => k_is)
    (case t => k_is)
    (case e4 => k_is)
    (case sc => first | rfl | k_is)
    (case z_len => k_is)
    (case z_list => k_is)
    (case z_abs => k_is)
    (case z_isinstance => k_is)
    (case z_int => k_is)
    (case z_bool => k_is)
    (case z_str => k_is)
    (case z_dict => k_is)
    (case z_tuple => k_is)
    (case z_all => k_is)
    (case z_range => k_is)
