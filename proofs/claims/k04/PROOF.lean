import PyProof.Rows.All
import Wide.All
import OpenK.AllK
import Wide.FinOn
import HandS.ForMost
import HandS.Flow
import HandS.Evl
import HandS.IsInst
import HandS.FStr
import HandS.SortKw
import HandS.SortInts
import HandS.StrMore
import HandS.Wide
import HandS.Zip
import HandS.TupAny
import HandS.Walk
import KE.KSortedM
import HandS.Defaults
import PyProof.StrOps2
import HandS.Style
import HandS.NoneIn
import HandS.TupMul
import KE.KxField
import HandS.ExcInit
import HandS.ExcValue
import HandS.WordsExc
import HandS.Replace
import HandS.ReplaceLit
import HandS.ReplaceList
import PyProof.StrLawsChain
import PySem.Challenge.RW_allbutts_k04_wrong_texts_of_swings_and_h
set_option Elab.async false
set_option linter.all false
set_option maxRecDepth 100000
set_option maxHeartbeats 40000000
/-! DL: what pure code evaluates to, told by data. O: the addresses whose objects may change (a law's box, a list that grows). -/
namespace DL
open PySem L2 Evl
/-- the heap without the objects at O -/
def sub (H : Hp) (O : List Addr) : Hp := fun a => if a ∈ O then none else H a
theorem sub_nil (H : Hp) : sub H [] = H := by
  funext a
  unfold sub
  rw [if_neg (by simp)]
theorem sub_of {H : Hp} {O : List Addr} {a : Addr} {o : HO} (h : sub H O a = some o) : H a = some o ∧ a ∉ O := by
  unfold sub at h
  by_cases e : a ∈ O
  · rw [if_pos e] at h
    cases h
  · rw [if_neg e] at h
    exact ⟨h, e⟩
theorem sub_mk {H : Hp} {O : List Addr} {a : Addr} {o : HO} (h : H a = some o) (n : a ∉ O) : sub H O a = some o := by
  unfold sub
  rw [if_neg n]
  exact h
/-- what was tracked outside O stands -/
def ExO (O : List Addr) (H H' : Hp) : Prop := Ex (sub H O) (sub H' O)
theorem Ex.o {H H' : Hp} (O : List Addr) (e : Ex H H') : ExO O H H' := fun a o h => by
  obtain ⟨h1, h2⟩ := sub_of h
  exact sub_mk (e a o h1) h2
theorem ExO.trans {O : List Addr} {H H1 H2 : Hp} (a : ExO O H H1) (b : ExO O H1 H2) : ExO O H H2 := Ex.trans a b
theorem ExO.refl (O : List Addr) (H : Hp) : ExO O H H := Ex.refl _
theorem ExO.at {O : List Addr} {H H' : Hp} (e : ExO O H H') {a : Addr} {o : HO} (h : H a = some o) (n : a ∉ O) : H' a = some o := (sub_of (e a o (sub_mk h n))).1
/-- an object of O changes -/
theorem ExO.upd {O : List Addr} {H : Hp} {a : Addr} {o : HO} (h : a ∈ O) : ExO O H (upd H a o) := fun b u e => by
  obtain ⟨h1, h2⟩ := sub_of e
  refine sub_mk ?_ h2
  rw [upd_ne (fun z => h2 (by rw [z]; exact h))]
  exact h1
/-- a smaller O -/
theorem ExO.less {O P : List Addr} {H H' : Hp} (e : ExO O H H') (k : ∀ a, a ∈ O → a ∈ P) : ExO P H H' := fun a o h => by
  obtain ⟨h1, h2⟩ := sub_of h
  exact sub_mk (e.at h1 (fun z => h2 (k a z))) h2

/-! ### data, all of it tracked -/
mutual
inductive Dq (H : Hp) : V → PyData → Prop
  | non : Dq H .non .none
  | bl (b : Bool) : Dq H (.bl b) (.bool b)
  | int (i : Int) : Dq H (.int i) (.int i)
  | str (x : Str) : Dq H (.str x) (.str x)
  | lst {a : Addr} {xs : List V} {ds : List PyData} : H a = some (.lst xs) → DqAll H xs ds → Dq H (.ref a) (.list ds)
  | tup {a : Addr} {xs : List V} {ds : List PyData} : H a = some (.tup xs) → DqAll H xs ds → Dq H (.ref a) (.tuple ds)
inductive DqAll (H : Hp) : List V → List PyData → Prop
  | nil : DqAll H [] []
  | cons {v : V} {vs : List V} {d : PyData} {ds : List PyData} : Dq H v d → DqAll H vs ds → DqAll H (v :: vs) (d :: ds)
end
mutual
theorem Dq.mono {H H' : Hp} (e : Ex H H') : ∀ {v : V} {d : PyData}, Dq H v d → Dq H' v d
  | _, _, .non => .non
  | _, _, .bl b => .bl b
  | _, _, .int i => .int i
  | _, _, .str x => .str x
  | _, _, .lst h k => .lst (e _ _ h) (DqAll.mono e k)
  | _, _, .tup h k => .tup (e _ _ h) (DqAll.mono e k)
theorem DqAll.mono {H H' : Hp} (e : Ex H H') : ∀ {vs : List V} {ds : List PyData}, DqAll H vs ds → DqAll H' vs ds
  | _, _, .nil => .nil
  | _, _, .cons h k => .cons (Dq.mono e h) (DqAll.mono e k)
end
mutual
theorem Dq.dp {K : PySem.W.Frag} {H : Hp} : ∀ {v : V} {d : PyData}, Dq H v d → Dp K H v d
  | _, _, .non => .non
  | _, _, .bl b => .bl b
  | _, _, .int i => .int i
  | _, _, .str x => .str x
  | _, _, .lst h k => .lst (sq_of h) (DqAll.dp k)
  | _, _, .tup h k => .tup (st_of h) (DqAll.dp k)
theorem DqAll.dp {K : PySem.W.Frag} {H : Hp} : ∀ {vs : List V} {ds : List PyData}, DqAll H vs ds → DpAll K H vs ds
  | _, _, .nil => .nil
  | _, _, .cons h k => .cons (Dq.dp h) (DqAll.dp k)
end
theorem ex_sub (H : Hp) (O : List Addr) : Ex (sub H O) H := fun _ _ h => (sub_of h).1
theorem Dq.up {H : Hp} {O : List Addr} {v : V} {d : PyData} (h : Dq (sub H O) v d) : Dq H v d := h.mono (ex_sub H O)
theorem DqAll.up {H : Hp} {O : List Addr} {v : List V} {d : List PyData} (h : DqAll (sub H O) v d) : DqAll H v d := h.mono (ex_sub H O)
theorem DqAll.length {H : Hp} : ∀ {vs : List V} {ds : List PyData}, DqAll H vs ds → vs.length = ds.length
  | _, _, .nil => rfl
  | _, _, .cons _ k => congrArg Nat.succ k.length
theorem DqAll.get {H : Hp} : ∀ {vs : List V} {ds : List PyData} {i : Nat} {d : PyData}, DqAll H vs ds → ds[i]? = some d → ∃ v, vs[i]? = some v ∧ Dq H v d
  | _, _, _, _, .nil, e => by simp at e
  | _, _, 0, _, .cons h _, e => by
    simp at e
    subst e
    exact ⟨_, rfl, h⟩
  | _, _, i + 1, d, .cons _ k, e => by
    obtain ⟨v, h1, h2⟩ := k.get (i := i) (d := d) (by simpa using e)
    exact ⟨v, by simpa using h1, h2⟩
theorem DqAll.getV {H : Hp} : ∀ {vs : List V} {ds : List PyData} {i : Nat} {v : V}, DqAll H vs ds → vs[i]? = some v → ∃ d, ds[i]? = some d ∧ Dq H v d
  | _, _, _, _, .nil, e => by simp at e
  | _, _, 0, _, .cons h _, e => by
    simp at e
    subst e
    exact ⟨_, rfl, h⟩
  | _, _, i + 1, d, .cons _ k, e => by
    obtain ⟨v, h1, h2⟩ := k.getV (i := i) (v := d) (by simpa using e)
    exact ⟨v, by simpa using h1, h2⟩
theorem DqAll.append {H : Hp} : ∀ {vs ws : List V} {ds es : List PyData}, DqAll H vs ds → DqAll H ws es → DqAll H (vs ++ ws) (ds ++ es)
  | _, _, _, _, .nil, k => k
  | _, _, _, _, .cons h r, k => .cons h (r.append k)
theorem DqAll.take {H : Hp} : ∀ {vs : List V} {ds : List PyData} (n : Nat), DqAll H vs ds → DqAll H (vs.take n) (ds.take n)
  | _, _, 0, _ => by simpa using DqAll.nil
  | _, _, _ + 1, .nil => .nil
  | _, _, n + 1, .cons h k => .cons h (k.take n)
theorem DqAll.drop {H : Hp} : ∀ {vs : List V} {ds : List PyData} (n : Nat), DqAll H vs ds → DqAll H (vs.drop n) (ds.drop n)
  | _, _, 0, h => h
  | _, _, _ + 1, .nil => .nil
  | _, _, n + 1, .cons _ k => k.drop n
theorem DqAll.reverse {H : Hp} : ∀ {vs : List V} {ds : List PyData}, DqAll H vs ds → DqAll H vs.reverse ds.reverse
  | _, _, .nil => .nil
  | _, _, .cons h k => by
    rw [List.reverse_cons, List.reverse_cons]
    exact k.reverse.append (.cons h .nil)
theorem DqAll.flat {H : Hp} {vs : List V} {ds : List PyData} (h : DqAll H vs ds) : ∀ n : Nat, DqAll H (List.replicate n vs).flatten (List.replicate n ds).flatten
  | 0 => .nil
  | n + 1 => by
    rw [List.replicate_succ, List.replicate_succ, List.flatten_cons, List.flatten_cons]
    exact h.append (h.flat n)
/-- ints, texts, truths as data -/
def dI (ns : List Int) : List PyData := ns.map PyData.int
def dS (xs : List Str) : List PyData := xs.map PyData.str
def dB (bs : List Bool) : List PyData := bs.map PyData.bool
theorem dq_ints {H : Hp} : ∀ (ns : List Int), DqAll H (ns.map V.int) (dI ns)
  | [] => .nil
  | n :: ns => .cons (.int n) (dq_ints ns)
theorem dq_strs {H : Hp} : ∀ (ns : List Str), DqAll H (ns.map V.str) (dS ns)
  | [] => .nil
  | n :: ns => .cons (.str n) (dq_strs ns)
theorem ints_dq {H : Hp} : ∀ {ns : List Int} {vs : List V}, DqAll H vs (dI ns) → vs = ns.map V.int
  | [], _, h => by
    cases h
    rfl
  | n :: ns, _, h => by
    cases h with
    | cons h k =>
      cases h
      rw [ints_dq k]
      rfl
theorem strs_dq {H : Hp} : ∀ {ns : List Str} {vs : List V}, DqAll H vs (dS ns) → vs = ns.map V.str
  | [], _, h => by
    cases h
    rfl
  | n :: ns, _, h => by
    cases h with
    | cons h k =>
      cases h
      rw [strs_dq k]
      rfl
theorem bools_dq {H : Hp} : ∀ {ns : List Bool} {vs : List V}, DqAll H vs (dB ns) → vs = ns.map V.bl
  | [], _, h => by
    cases h
    rfl
  | n :: ns, _, h => by
    cases h with
    | cons h k =>
      cases h
      rw [bools_dq k]
      rfl

/-! ### slots -/
abbrev Rho := List (Option PyData)
/-- the slots hold such data; all of O is tracked -/
structure SD (O : List Addr) (H : Hp) (σ : L2.St) (ρ : Rho) : Prop where
  own : ∀ a, a ∈ O → H a ≠ none
  at' : ∀ (i : Nat) (d : PyData), ρ[i]? = some (some d) → ∃ v, σ[i]? = some (some v) ∧ Dq (sub H O) v d
theorem SD.mono {O : List Addr} {H H' : Hp} {σ : L2.St} {ρ : Rho} (s : SD O H σ ρ) (e : ExO O H H') (k : ∀ a, a ∈ O → H' a ≠ none) : SD O H' σ ρ :=
  ⟨k, fun i d h => by
    obtain ⟨v, h1, h2⟩ := s.at' i d h
    exact ⟨v, h1, h2.mono e⟩⟩
theorem own_ex {O : List Addr} {H H' : Hp} (e : Ex H H') (h : ∀ a, a ∈ O → H a ≠ none) : ∀ a, a ∈ O → H' a ≠ none := fun a ha z => by
  have q := h a ha
  cases r : H a with
  | none => exact q r
  | some o =>
    rw [e a o r] at z
    cases z
theorem SD.ex {O : List Addr} {H H' : Hp} {σ : L2.St} {ρ : Rho} (s : SD O H σ ρ) (e : Ex H H') : SD O H' σ ρ := s.mono (Ex.o O e) (own_ex e s.own)
theorem SD.set {O : List Addr} {H : Hp} {σ : L2.St} {ρ : Rho} {i : Nat} {v : V} {d : PyData} (s : SD O H σ ρ) (h : Dq (sub H O) v d) (hl : i < σ.length) : SD O H (σ.set i (some v)) (ρ.set i (some d)) :=
  ⟨s.own, fun j e hj => by
    by_cases z : i = j
    · subst z
      have hb : i < ρ.length := by
        have q := (List.getElem?_eq_some_iff.mp hj).1
        rw [List.length_set] at q
        exact q
      rw [List.getElem?_set_self hb] at hj
      cases hj
      exact ⟨v, List.getElem?_set_self hl, h⟩
    · rw [List.getElem?_set_ne z] at hj
      obtain ⟨w, h1, h2⟩ := s.at' j e hj
      exact ⟨w, by rw [List.getElem?_set_ne z]; exact h1, h2⟩⟩
theorem not_own {O : List Addr} {H : Hp} {p : Addr} (h : ∀ a, a ∈ O → H a ≠ none) (hp : H p = none) : p ∉ O := fun z => h p z hp

/-! ### expressions -/
section
variable (O : List Addr)
def EvD (n : Nat) (te : TE) (ρ : Rho) (d : PyData) : Prop := ∀ (σ : L2.St) (H : Hp), σ.length = n → SD O H σ ρ → ∀ Q : VK, (∀ v H', Ex H H' → Dq (sub H' O) v d → Q v H') → te σ H Q
def EvDA (n : Nat) (ta : TA) (ρ : Rho) (ds : List PyData) : Prop := ∀ (σ : L2.St) (H : Hp), σ.length = n → SD O H σ ρ → ∀ Q : List V → Hp → Prop, (∀ vs H', Ex H H' → DqAll (sub H' O) vs ds → Q vs H') → ta σ H Q
def EvDT (n : Nat) (tt : TT) (ρ : Rho) (b : Bool) : Prop := ∀ (σ : L2.St) (H : Hp), σ.length = n → SD O H σ ρ → ∀ Q : Bool → Hp → Prop, (∀ H', Ex H H' → Q b H') → tt σ H Q
/-- an operation on values -/
def RD (r : R2) (x y z : PyData) : Prop := ∀ (H : Hp) (v w : V), (∀ a, a ∈ O → H a ≠ none) → Dq (sub H O) v x → Dq (sub H O) w y → ∀ Q : VK, (∀ u H', Ex H H' → Dq (sub H' O) u z → Q u H') → r v w H Q
def RDC (r : List V → Hp → VK → Prop) (xs : List PyData) (z : PyData) : Prop := ∀ (H : Hp) (vs : List V), (∀ a, a ∈ O → H a ≠ none) → DqAll (sub H O) vs xs → ∀ Q : VK, (∀ u H', Ex H H' → Dq (sub H' O) u z → Q u H') → r vs H Q
end
section
variable {O : List Addr} {n : Nat} {ρ : Rho} {ta tb te : TE} {x y z d : PyData} {r : R2} {K : PySem.W.Frag} {t u : TT}
theorem ed_is (h : EvD O n te ρ d) (e : d = x) : EvD O n te ρ x := e ▸ h
theorem ed_var {i : Nat} (h : ρ[i]? = some (some d)) : EvD O n (tVar i) ρ d := fun σ H _ s Q q => by
  obtain ⟨v, h1, h2⟩ := s.at' i d h
  exact ⟨v, h1, q v H (Ex.refl H) h2⟩
theorem ed_int {i : Int} : EvD O n (tC (.int i)) ρ (.int i) := fun σ H _ s Q q => q _ H (Ex.refl H) (.int i)
theorem ed_str {i : Str} : EvD O n (tC (.str i)) ρ (.str i) := fun σ H _ s Q q => q _ H (Ex.refl H) (.str i)
theorem ed_bl {i : Bool} : EvD O n (tC (.bl i)) ρ (.bool i) := fun σ H _ s Q q => q _ H (Ex.refl H) (.bl i)
theorem ed_non : EvD O n (tC .non) ρ .none := fun σ H _ s Q q => q _ H (Ex.refl H) .non
theorem ed_op (ha : EvD O n ta ρ x) (hb : EvD O n tb ρ y) (hr : RD O r x y z) : EvD O n (tOp r ta tb) ρ z := fun σ H hn s Q q =>
  ha σ H hn s _ fun v H1 e1 d1 => hb σ H1 hn (s.ex e1) _ fun w H2 e2 d2 => hr H2 v w (own_ex (e1.trans e2) s.own) (d1.mono (Ex.o O e2)) d2 Q fun u H3 e3 d3 => q u H3 ((e1.trans e2).trans e3) d3
theorem ed_neg {i : Int} (ha : EvD O n ta ρ (.int i)) : EvD O n (tUn (rU fun i => .int (-i)) ta) ρ (.int (-i)) := fun σ H hn s Q q =>
  ha σ H hn s _ fun v H1 e1 d1 => by
    cases d1
    exact ⟨i, rfl, q _ H1 e1 (.int _)⟩
theorem ea_nil : EvDA O n tNil ρ [] := fun σ H _ s Q q => q _ H (Ex.refl H) .nil
theorem ea_cons {tr : TA} {xs : List PyData} (ha : EvD O n ta ρ x) (hr : EvDA O n tr ρ xs) : EvDA O n (tCons ta tr) ρ (x :: xs) := fun σ H hn s Q q =>
  ha σ H hn s _ fun v H1 e1 d1 => hr σ H1 hn (s.ex e1) _ fun vs H2 e2 d2 => q _ H2 (e1.trans e2) (.cons (d1.mono (Ex.o O e2)) d2)
theorem ed_tup {tr : TA} {xs : List PyData} (hr : EvDA O n tr ρ xs) (hl : xs.length ≤ 100000) : EvD O n (tTup tr) ρ (.tuple xs) := fun σ H hn s Q q =>
  hr σ H hn s _ fun vs H1 e1 d1 => ⟨by rw [d1.length]; exact sz_of hl, fun p hp => q _ _ (e1.trans (Ex.new hp)) (.tup (sub_mk upd_same (not_own (own_ex e1 s.own) hp)) (d1.mono (Ex.o O (Ex.new hp))))⟩
theorem ed_lst {tr : TA} {xs : List PyData} (hr : EvDA O n tr ρ xs) (hl : xs.length ≤ 100000) : EvD O n (tLst tr) ρ (.list xs) := fun σ H hn s Q q =>
  hr σ H hn s _ fun vs H1 e1 d1 => ⟨by rw [d1.length]; exact sz_of hl, fun p hp => q _ _ (e1.trans (Ex.new hp)) (.lst (sub_mk upd_same (not_own (own_ex e1 s.own) hp)) (d1.mono (Ex.o O (Ex.new hp))))⟩
theorem ed_cb {r : List V → Hp → VK → Prop} {tr : TA} {xs : List PyData} (hr : EvDA O n tr ρ xs) (h : RDC O r xs z) : EvD O n (tCB r tr) ρ z := fun σ H hn s Q q =>
  hr σ H hn s _ fun vs H1 e1 d1 => h H1 vs (own_ex e1 s.own) d1 Q fun u H2 e2 d2 => q u H2 (e1.trans e2) d2
/-! operations -/
theorem rd_add {i j : Int} : RD O (rI0 fun i j => .int (i + j)) (.int i) (.int j) (.int (i + j)) := fun H v w _ h1 h2 Q q => by
  cases h1; cases h2
  exact ⟨i, j, rfl, rfl, q _ H (Ex.refl H) (.int _)⟩
theorem rd_sub {i j : Int} : RD O (rI0 fun i j => .int (i - j)) (.int i) (.int j) (.int (i - j)) := fun H v w _ h1 h2 Q q => by
  cases h1; cases h2
  exact ⟨i, j, rfl, rfl, q _ H (Ex.refl H) (.int _)⟩
theorem rd_I {C : Int → Int → Prop} {g : Int → Int → Int} {i j : Int} (hc : C i j) : RD O (rI C fun i j => .int (g i j)) (.int i) (.int j) (.int (g i j)) := fun H v w _ h1 h2 Q q => by
  cases h1; cases h2
  exact ⟨i, j, rfl, rfl, hc, q _ H (Ex.refl H) (.int _)⟩
theorem rd_B {g : Int → Int → Bool} {i j : Int} : RD O (rI0 fun i j => .bl (g i j)) (.int i) (.int j) (.bool (g i j)) := fun H v w _ h1 h2 Q q => by
  cases h1; cases h2
  exact ⟨i, j, rfl, rfl, q _ H (Ex.refl H) (.bl _)⟩
/-- texts put together -/
theorem rd_cats {i j : Str} (h : i.length + j.length ≤ 100000) : RD O (fun x y H Q => ∃ i j, x = .str i ∧ y = .str j ∧ i.length + j.length ≤ sizeLine ∧ Q (.str (i ++ j)) H) (.str i) (.str j) (.str (i ++ j)) := fun H v w _ h1 h2 Q q => by
  cases h1; cases h2
  exact ⟨i, j, rfl, rfl, sz_of h, q _ H (Ex.refl H) (.str _)⟩
/-- lists put together -/
theorem rd_catl {xs ys : List PyData} (h : xs.length + ys.length ≤ 100000) : RD O rCat (.list xs) (.list ys) (.list (xs ++ ys)) := fun H v w ho h1 h2 Q q => by
  cases h1 with
  | lst a1 k1 =>
    cases h2 with
    | lst a2 k2 =>
      exact ⟨_, _, _, _, rfl, rfl, (sub_of a1).1, (sub_of a2).1, by rw [k1.length, k2.length]; exact sz_of h, fun p hp => q _ _ (Ex.new hp) (.lst (sub_mk upd_same (not_own ho hp)) ((k1.append k2).mono (Ex.o O (Ex.new hp))))⟩
/-- a list so many times -/
theorem rd_repl {xs : List PyData} {k : Int} (h : xs.length * k.toNat ≤ 100000) (h1 : 0 ≤ k) (h2 : k ≤ 100000) : RD O rRep (.list xs) (.int k) (.list (List.replicate k.toNat xs).flatten) := fun H v w ho a b Q q => by
  cases a with
  | lst a1 k1 =>
    cases b
    exact ⟨_, _, _, rfl, rfl, (sub_of a1).1, by omega, by omega, by rw [k1.length]; exact sz_of h, fun p hp => q _ _ (Ex.new hp) (.lst (sub_mk upd_same (not_own ho hp)) ((k1.flat _).mono (Ex.o O (Ex.new hp))))⟩
/-- deep == and != -/
theorem rd_eqD (hx : SeqAt.shaped x = true) (hy : SeqAt.shaped y = true) : RD O (rEqD K) x y (.bool (PyData.eqv x y)) := fun H v w _ h1 h2 Q q =>
  ⟨x, y, h1.up.dp, h2.up.dp, hx, hy, q _ H (Ex.refl H) (.bl _)⟩
theorem rd_neD (hx : SeqAt.shaped x = true) (hy : SeqAt.shaped y = true) : RD O (rNeD K) x y (.bool (!PyData.eqv x y)) := fun H v w _ h1 h2 Q q =>
  ⟨x, y, h1.up.dp, h2.up.dp, hx, hy, q _ H (Ex.refl H) (.bl _)⟩
/-- is None, is not None -/
theorem rd_isN : RD O (fun x y H Q => y = .non ∧ Q (.bl (decide (x = .non))) H) x .none (.bool (match x with | .none => true | _ => false)) := fun H v w _ h1 h2 Q q => by
  cases h2
  refine ⟨rfl, q _ H (Ex.refl H) ?_⟩
  cases h1 <;> exact .bl _
/-! tests -/
theorem et_test {b : Bool} (h : EvD O n te ρ (.bool b)) : EvDT O n (tTest te) ρ b := fun σ H hn s Q q => h σ H hn s _ fun v H1 e1 d1 => by
  cases d1
  exact ⟨b, rfl, q H1 e1⟩
theorem et_B {b : Bool} (h : EvD O n te ρ (.bool b)) : EvDT O n (tB te) ρ b := fun σ H hn s Q q => h σ H hn s _ fun v H1 e1 d1 => by
  cases d1
  exact ⟨b, rfl, q H1 e1⟩
theorem et_not {b : Bool} (h : EvDT O n t ρ b) : EvDT O n (tNot t) ρ (!b) := fun σ H hn s Q q => h σ H hn s _ fun H1 e1 => q H1 e1
theorem et_and {a b : Bool} (h1 : EvDT O n t ρ a) (h2 : a = true → EvDT O n u ρ b) : EvDT O n (tAnd t u) ρ (a && b) := fun σ H hn s Q q => h1 σ H hn s _ fun H1 e1 => by
  cases a with
  | true => exact h2 rfl σ H1 hn (s.ex e1) Q fun H2 e2 => q H2 (e1.trans e2)
  | false => exact q H1 e1
theorem et_or {a b : Bool} (h1 : EvDT O n t ρ a) (h2 : a = false → EvDT O n u ρ b) : EvDT O n (tOr t u) ρ (a || b) := fun σ H hn s Q q => h1 σ H hn s _ fun H1 e1 => by
  cases a with
  | false => exact h2 rfl σ H1 hn (s.ex e1) Q fun H2 e2 => q H2 (e1.trans e2)
  | true => exact q H1 e1
theorem et_is {a b : Bool} (h : EvDT O n t ρ a) (e : a = b) : EvDT O n t ρ b := e ▸ h
theorem ed_andV {a b : Bool} (h1 : EvD O n ta ρ (.bool a)) (h2 : a = true → EvD O n tb ρ (.bool b)) : EvD O n (tAndV ta tb) ρ (.bool (a && b)) := fun σ H hn s Q q => h1 σ H hn s _ fun v H1 e1 d1 => by
  cases d1
  refine ⟨a, rfl, ?_⟩
  cases a with
  | true => exact h2 rfl σ H1 hn (s.ex e1) Q fun v H2 e2 d2 => q v H2 (e1.trans e2) d2
  | false => exact q _ H1 e1 (.bl _)
theorem ed_orV {a b : Bool} (h1 : EvD O n ta ρ (.bool a)) (h2 : a = false → EvD O n tb ρ (.bool b)) : EvD O n (tOrV ta tb) ρ (.bool (a || b)) := fun σ H hn s Q q => h1 σ H hn s _ fun v H1 e1 d1 => by
  cases d1
  refine ⟨a, rfl, ?_⟩
  cases a with
  | false => exact h2 rfl σ H1 hn (s.ex e1) Q fun v H2 e2 d2 => q v H2 (e1.trans e2) d2
  | true => exact q _ H1 e1 (.bl _)
theorem ed_notV {a : Bool} (h1 : EvD O n ta ρ (.bool a)) : EvD O n (tNotV ta) ρ (.bool (!a)) := fun σ H hn s Q q => h1 σ H hn s _ fun v H1 e1 d1 => by
  cases d1
  exact ⟨a, rfl, q _ H1 e1 (.bl _)⟩
theorem ed_if {b : Bool} (h : EvDT O n t ρ b) (h1 : b = true → EvD O n ta ρ d) (h2 : b = false → EvD O n tb ρ d) : EvD O n (tIf t ta tb) ρ d := fun σ H hn s Q q => h σ H hn s _ fun H1 e1 => by
  cases b with
  | true => exact h1 rfl σ H1 hn (s.ex e1) Q fun v H2 e2 d2 => q v H2 (e1.trans e2) d2
  | false => exact h2 rfl σ H1 hn (s.ex e1) Q fun v H2 e2 d2 => q v H2 (e1.trans e2) d2
end
end DL
namespace DL
open PySem L2 Evl
/-! ### wiped slots -/
theorem wipe_get {σ : L2.St} {i : Nat} : ∀ {vs : List Nat}, i ∈ vs → i < σ.length → (L2.wipe σ vs)[i]? = some none
  | [], h, _ => by cases h
  | v :: vs, h, hl => by
    unfold L2.wipe
    by_cases e : v = i
    · subst e
      rw [List.getElem?_set_self (by rw [L2.wipe_length]; exact hl)]
    · rw [List.getElem?_set_ne e]
      rcases List.mem_cons.mp h with z | z
      · exact absurd z.symm e
      · exact wipe_get z hl
theorem wipe_ext {σ τ : L2.St} {vs : List Nat} (hl : τ.length = σ.length) (h : ∀ i, i ∉ vs → τ[i]? = σ[i]?) : L2.wipe τ vs = L2.wipe σ vs := by
  refine List.ext_getElem? fun i => ?_
  by_cases hi : i ∈ vs
  · by_cases hs : i < σ.length
    · rw [wipe_get hi hs, wipe_get hi (by omega)]
    · rw [List.getElem?_eq_none (by rw [L2.wipe_length]; omega), List.getElem?_eq_none (by rw [L2.wipe_length]; omega)]
  · rw [L2.wipe_out hi, L2.wipe_out hi, h i hi]
/-- the same of data -/
def wipeR (ρ : Rho) : List Nat → Rho
  | [] => ρ
  | v :: vs => (wipeR ρ vs).set v none
theorem SD.forget {O : List Addr} {H : Hp} {σ : L2.St} {ρ : Rho} {i : Nat} {o : Option V} (s : SD O H σ ρ) : SD O H (σ.set i o) (ρ.set i none) :=
  ⟨s.own, fun j e hj => by
    by_cases z : i = j
    · subst z
      have hb : i < ρ.length := by
        have q := (List.getElem?_eq_some_iff.mp hj).1
        rw [List.length_set] at q
        exact q
      rw [List.getElem?_set_self hb] at hj
      cases hj
    · rw [List.getElem?_set_ne z] at hj
      obtain ⟨w, h1, h2⟩ := s.at' j e hj
      exact ⟨w, by rw [List.getElem?_set_ne z]; exact h1, h2⟩⟩
theorem SD.wipe {O : List Addr} {H : Hp} {σ : L2.St} {ρ : Rho} (s : SD O H σ ρ) : ∀ vs : List Nat, SD O H (L2.wipe σ vs) (wipeR ρ vs)
  | [] => s
  | v :: vs => (s.wipe vs).forget

/-! ### statements -/
section
variable (O : List Addr)
def RunR (n : Nat) (t : TS) (ρ : Rho) (d : PyData) : Prop := ∀ (D : Ends) (σ : L2.St) (H : Hp), σ.length = n → SD O H σ ρ → (∀ v H', Ex H H' → Dq (sub H' O) v d → D.rt v H') → t D σ H
def RunN (n : Nat) (t : TS) (ρ ρ' : Rho) : Prop := ∀ (D : Ends) (σ : L2.St) (H : Hp), σ.length = n → SD O H σ ρ → (∀ σ' H', σ'.length = n → Ex H H' → SD O H' σ' ρ' → D.nx σ' H') → t D σ H
/-- a target that takes a datum; only slots in vs change -/
def TgD (n : Nat) (vs : List Nat) (g : TG) (ρ : Rho) (d : PyData) (ρ' : Rho) : Prop := ∀ (σ : L2.St) (H : Hp) (v : V), σ.length = n → SD O H σ ρ → Dq (sub H O) v d → ∀ Q : L2.St → Hp → Prop,
  (∀ σ', σ'.length = n → (∀ i, i ∉ vs → σ'[i]? = σ[i]?) → SD O H σ' ρ' → Q σ' H) → g v σ H Q
/-- what is walked: data -/
def IterD (n : Nat) (wi : TI) (ρ : Rho) (ds : List PyData) : Prop := ∀ (σ : L2.St) (H : Hp), σ.length = n → SD O H σ ρ → ∀ R : It → Hp → Prop,
  (∀ (J : It) (H1 : Hp) (G : List Addr → Hp → Prop) (Y : Nat → Hp → V → Hp → Prop), Ex H H1 → (∀ P, Walk J ds.length (G P) Y) → G O H1 → (∀ P P' H2 H3, G P H2 → Ex (sub H2 P) (sub H3 P') → G P' H3) →
    (∀ P i H2 x H3, i < ds.length → (∀ a, a ∈ P → H2 a ≠ none) → G P H2 → Y i H2 x H3 → Ex H2 H3 ∧ ∃ d, ds[i]? = some d ∧ Dq (sub H3 P) x d) → R J H1) → wi σ H R
end
section
variable {O : List Addr} {n : Nat} {ρ ρ1 ρ' : Rho} {ta tb te : TE} {x y z d : PyData} {r : R2} {K : PySem.W.Frag} {t u w : TS} {tt : TT} {g : TG} {i j : Nat} {ds es : List PyData} {wi : TI} {vs : List Nat}
theorem rn_asg (h : EvD O n te ρ d) (hi : i < n) : RunN O n (tAsg te (gName i)) ρ (ρ.set i (some d)) := fun D σ H hn s k =>
  h σ H hn s _ fun v H1 e1 d1 => k _ H1 (by rw [List.length_set]; exact hn) e1 ((s.ex e1).set d1 (by omega))
theorem rn_asgG (h : EvD O n te ρ d) (hg : TgD O n vs g ρ d ρ') : RunN O n (tAsg te g) ρ ρ' := fun D σ H hn s k =>
  h σ H hn s _ fun v H1 e1 d1 => hg σ H1 v hn (s.ex e1) d1 _ fun σ' hl _ s' => k σ' H1 hl e1 s'
theorem rn_par (h : EvDA O n ta' ρ [x, y]) (hi : i < n) (hj : j < n) : RunN O n (tPar i j ta') ρ ((ρ.set i (some x)).set j (some y)) := fun D σ H hn s k =>
  h σ H hn s _ fun vs H1 e1 d1 => by
    cases d1 with
    | cons a1 k1 =>
      cases k1 with
      | cons a2 k2 =>
        cases k2
        exact ⟨_, _, rfl, k _ H1 (by rw [List.length_set, List.length_set]; exact hn) e1 (((s.ex e1).set a1 (by omega)).set a2 (by rw [List.length_set]; omega))⟩
theorem rn_seq (h1 : RunN O n t ρ ρ1) (h2 : RunN O n u ρ1 ρ') : RunN O n (tSeq t u) ρ ρ' := fun D σ H hn s k =>
  h1 _ σ H hn s fun σ1 H1 hn1 e1 s1 => h2 D σ1 H1 hn1 s1 fun σ2 H2 hn2 e2 s2 => k σ2 H2 hn2 (e1.trans e2) s2
theorem rr_seq (h1 : RunN O n t ρ ρ1) (h2 : RunR O n u ρ1 d) : RunR O n (tSeq t u) ρ d := fun D σ H hn s k =>
  h1 _ σ H hn s fun σ1 H1 hn1 e1 s1 => h2 D σ1 H1 hn1 s1 fun v H2 e2 d2 => k v H2 (e1.trans e2) d2
/-- what comes behind a return -/
theorem rr_fst (h1 : RunR O n t ρ d) : RunR O n (tSeq t u) ρ d := fun D σ H hn s k => h1 _ σ H hn s k
theorem rr_ret (h : EvD O n te ρ d) : RunR O n (tRet te) ρ d := fun D σ H hn s k => h σ H hn s _ k
theorem rn_next : RunN O n tNext ρ ρ := fun D σ H hn s k => k σ H hn (Ex.refl H) s
theorem rn_drop (h : EvD O n te ρ d) : RunN O n (tDrop te) ρ ρ := fun D σ H hn s k => h σ H hn s _ fun v H1 e1 _ => k σ H1 hn e1 (s.ex e1)
theorem rr_if {b : Bool} (h : EvDT O n tt ρ b) (h1 : b = true → RunR O n t ρ d) (h2 : b = false → RunR O n u ρ d) : RunR O n (tIfS tt t u) ρ d := fun D σ H hn s k => h σ H hn s _ fun H1 e1 => by
  cases b with
  | true => exact h1 rfl D σ H1 hn (s.ex e1) fun v H2 e2 d2 => k v H2 (e1.trans e2) d2
  | false => exact h2 rfl D σ H1 hn (s.ex e1) fun v H2 e2 d2 => k v H2 (e1.trans e2) d2
theorem rn_if {b : Bool} (h : EvDT O n tt ρ b) (h1 : b = true → RunN O n t ρ ρ') (h2 : b = false → RunN O n u ρ ρ') : RunN O n (tIfS tt t u) ρ ρ' := fun D σ H hn s k => h σ H hn s _ fun H1 e1 => by
  cases b with
  | true => exact h1 rfl D σ H1 hn (s.ex e1) fun v H2 hn2 e2 d2 => k v H2 hn2 (e1.trans e2) d2
  | false => exact h2 rfl D σ H1 hn (s.ex e1) fun v H2 hn2 e2 d2 => k v H2 hn2 (e1.trans e2) d2
/-- if c: return ..; the rest -/
theorem rr_when {b : Bool} (h : EvDT O n tt ρ b) (h1 : b = true → RunR O n t ρ d) (h2 : b = false → RunR O n w ρ d) : RunR O n (tSeq (tIfS tt t tNext) w) ρ d := fun D σ H hn s k => h σ H hn s _ fun H1 e1 => by
  cases b with
  | true => exact h1 rfl _ σ H1 hn (s.ex e1) fun v H2 e2 d2 => k v H2 (e1.trans e2) d2
  | false => exact h2 rfl D σ H1 hn (s.ex e1) fun v H2 e2 d2 => k v H2 (e1.trans e2) d2
/-! targets -/
theorem tg_name (hi : i < n) (hv : i ∈ vs) : TgD O n vs (gName i) ρ d (ρ.set i (some d)) := fun σ H v hn s h Q q =>
  q _ (by rw [List.length_set]; exact hn) (fun k hk => List.getElem?_set_ne (fun e => hk (by rw [← e]; exact hv))) (s.set h (by omega))
/-- several targets, one datum each -/
inductive TgsD (O : List Addr) (n : Nat) (vs : List Nat) : TGs → Rho → List PyData → Rho → Prop
  | nil {ρ : Rho} : TgsD O n vs gNil ρ [] ρ
  | cons {g : TG} {gs : TGs} {ρ ρ1 ρ2 : Rho} {d : PyData} {ds : List PyData} : TgD O n vs g ρ d ρ1 → TgsD O n vs gs ρ1 ds ρ2 → TgsD O n vs (gCons g gs) ρ (d :: ds) ρ2
theorem TgsD.run {gs : TGs} (h : TgsD O n vs gs ρ ds ρ') : ∀ (σ : L2.St) (H : Hp) (us : List V), σ.length = n → SD O H σ ρ → DqAll (sub H O) us ds → ∀ Q : L2.St → Hp → Prop,
    (∀ σ', σ'.length = n → (∀ i, i ∉ vs → σ'[i]? = σ[i]?) → SD O H σ' ρ' → Q σ' H) → gs us σ H Q := by
  induction h with
  | nil =>
    intro σ H us hn s hd Q q
    cases hd
    exact ⟨rfl, q σ hn (fun _ _ => rfl) s⟩
  | cons h1 h2 ih =>
    intro σ H us hn s hd Q q
    cases hd with
    | cons a k =>
      exact ⟨_, _, rfl, h1 σ H _ hn s a _ fun σ1 l1 c1 s1 => ih σ1 H _ l1 s1 k Q fun σ2 l2 c2 s2 => q σ2 l2 (fun i hi => (c2 i hi).trans (c1 i hi)) s2⟩
theorem tg_tup {m : Nat} {gs : TGs} (h : TgsD O n vs gs ρ ds ρ') (hm : ds.length = m) : TgD O n vs (gTup K m gs) ρ (.tuple ds) ρ' := fun σ H v hn s hd Q q => by
  cases hd with
  | tup a k =>
    exact ⟨_, _, rfl, st_of (sub_of a).1, by rw [k.length]; exact hm, h.run σ H _ hn s k Q q⟩
/-! what is walked -/
theorem it_list (h : EvD O n te ρ (.list ds)) : IterD O n (iList K te) ρ ds := fun σ H hn s R q => h σ H hn s _ fun v H1 e1 d1 => by
  cases d1 with
  | @lst a xs _ ha k =>
    have hs : SqL K (sub H1 O) a xs := sq_of ha
    refine ⟨a, rfl, ⟨xs, sq_of (sub_of ha).1⟩, q (Itl K a) H1 (fun P H2 => sub H2 P a = some (.lst xs) ∧ DqAll (sub H2 P) xs ds) (YAt xs) e1 (fun P => ?_) ⟨ha, k⟩ (fun P P' H2 H3 g e => ⟨e _ _ g.1, g.2.mono e⟩) ?_⟩
    · rw [← k.length]
      exact walk_list.mono (fun H2 g => sq_of (sub_of g.1).1) fun _ _ _ _ _ _ y => y
    · rintro P i H2 x H3 _ _ ⟨g1, g2⟩ ⟨rfl, hx⟩
      obtain ⟨d, h1, h2⟩ := g2.getV hx
      exact ⟨Ex.refl _, d, h1, h2⟩
theorem it_tup (h : EvD O n te ρ (.tuple ds)) : IterD O n (iTup K te) ρ ds := fun σ H hn s R q => h σ H hn s _ fun v H1 e1 d1 => by
  cases d1 with
  | @tup a xs _ ha k =>
    refine ⟨a, rfl, ⟨xs, st_of (sub_of ha).1⟩, q (Itt K a) H1 (fun P H2 => sub H2 P a = some (.tup xs) ∧ DqAll (sub H2 P) xs ds) (YAt xs) e1 (fun P => ?_) ⟨ha, k⟩ (fun P P' H2 H3 g e => ⟨e _ _ g.1, g.2.mono e⟩) ?_⟩
    · rw [← k.length]
      exact walk_tup.mono (fun H2 g => st_of (sub_of g.1).1) fun _ _ _ _ _ _ y => y
    · rintro P i H2 x H3 _ _ ⟨g1, g2⟩ ⟨rfl, hx⟩
      obtain ⟨d, h1, h2⟩ := g2.getV hx
      exact ⟨Ex.refl _, d, h1, h2⟩
def rngD (m : Nat) : List PyData := (List.range m).map fun i => PyData.int (i : Nat)
theorem it_rng {ta' : TA} {m : Nat} (h : EvDA O n ta' ρ [.int (m : Nat)]) (hm : m ≤ 1000000) : IterD O n (iRng1 ta') ρ (rngD m) := fun σ H hn s R q => h σ H hn s _ fun vs H1 e1 d1 => by
  cases d1 with
  | cons a k =>
    cases a
    cases k
    refine ⟨(m : Int), rfl, by omega, by omega, ?_⟩
    have e : ((m : Int)).toNat = m := by omega
    rw [e]
    have l : (rngD m).length = m := by
      unfold rngD
      rw [List.length_map, List.length_range]
    refine q (Itr 0 m) H1 (fun _ _ => True) (YFn fun i => .int (0 + (i : Nat))) e1 (fun P => ?_) True.intro (fun _ _ _ _ _ _ => True.intro) ?_
    · rw [l]
      exact walk_range.mono (fun _ _ => True.intro) fun i H2 x H3 hi _ y => ⟨y.1, y.2⟩
    · rintro P i H2 x H3 hi _ _ ⟨rfl, rfl⟩
      rw [l] at hi
      refine ⟨Ex.refl _, .int (i : Nat), ?_, ?_⟩
      · unfold rngD
        rw [List.getElem?_map, List.getElem?_range hi]
        rfl
      · show Dq _ (V.int (0 + ((i : Nat) : Int))) _
        rw [Int.zero_add]
        exact .int _
/-- pairs made on the way -/
theorem pair_new {O : List Addr} {H H' : Hp} {T : Addr} {x y : V} {d e : PyData} (ho : ∀ a, a ∈ O → H a ≠ none) (hT : H T = none) (hH : H' = upd H T (.tup [x, y])) (h1 : Dq (sub H O) x d) (h2 : Dq (sub H O) y e) : Ex H H' ∧ Dq (sub H' O) (.ref T) (.tuple [d, e]) := by
  subst hH
  have e0 : Ex H (upd H T (.tup [x, y])) := Ex.new hT
  exact ⟨e0, .tup (sub_mk upd_same (not_own ho hT)) (.cons (h1.mono (Ex.o O e0)) (.cons (h2.mono (Ex.o O e0)) .nil))⟩
def enumD (ds : List PyData) : List PyData := (List.range ds.length).zipWith (fun (i : Nat) d => PyData.tuple [.int (i : Int), d]) ds
theorem it_enum (h : EvD O n te ρ (.list ds)) : IterD O n (iEnum K (tCons te tNil)) ρ (enumD ds) := fun σ H hn s R q => h σ H hn s _ fun v H1 e1 d1 => by
  cases d1 with
  | @lst a xs _ ha k =>
    have l : (enumD ds).length = ds.length := by
      unfold enumD
      rw [List.length_zipWith, List.length_range, Nat.min_self]
    refine ⟨a, xs, rfl, sq_of (sub_of ha).1, q (Ite K a) H1 (fun P H2 => sub H2 P a = some (.lst xs) ∧ DqAll (sub H2 P) xs ds) (YPair (fun i => some (.int (i : Nat))) (fun i => xs[i]?)) e1 (fun P => ?_) ⟨ha, k⟩ (fun P P' H2 H3 g e => ⟨e _ _ g.1, g.2.mono e⟩) ?_⟩
    · rw [l, ← k.length]
      exact walk_enum.mono (fun H2 g => sq_of (sub_of g.1).1) fun _ _ _ _ _ _ y => y
    · rintro P i H2 x H3 hi ho ⟨g1, g2⟩ ⟨T, x1, x2, rfl, hT, hH, q1, q2⟩
      rw [l] at hi
      obtain ⟨d, h1, h2⟩ := g2.getV q2
      cases q1
      obtain ⟨a1, a2⟩ := pair_new ho hT hH (.int (i : Nat)) h2
      refine ⟨a1, _, ?_, a2⟩
      unfold enumD
      rw [List.getElem?_zipWith, List.getElem?_range hi, h1]
def zipD (ds es : List PyData) : List PyData := ds.zipWith (fun d e => PyData.tuple [d, e]) es
theorem it_zip (h : EvD O n ta ρ (.list ds)) (h' : EvD O n tb ρ (.list es)) : IterD O n (iZip K (tCons ta (tCons tb tNil))) ρ (zipD ds es) := fun σ H hn s R q => h σ H hn s _ fun v H1 e1 d1 => h' σ H1 hn (s.ex e1) _ fun v' H2 e2 d2 => by
  cases d1 with
  | @lst a xs _ ha k =>
    cases d2 with
    | @lst b ys _ hb k' =>
      have l : (zipD ds es).length = min ds.length es.length := by
        unfold zipD
        rw [List.length_zipWith]
      have ha2 : sub H2 O a = some (.lst xs) := (Ex.o O e2) _ _ ha
      refine ⟨a, b, xs, ys, rfl, sq_of (sub_of ha2).1, sq_of (sub_of hb).1, q (Itz K a b) H2 (fun P H3 => (sub H3 P a = some (.lst xs) ∧ DqAll (sub H3 P) xs ds) ∧ (sub H3 P b = some (.lst ys) ∧ DqAll (sub H3 P) ys es)) (YPair (fun i => xs[i]?) (fun i => ys[i]?)) (e1.trans e2) (fun P => ?_)
        ⟨⟨ha2, k.mono (Ex.o O e2)⟩, ⟨hb, k'⟩⟩ (fun P P' H3 H4 g e => ⟨⟨e _ _ g.1.1, g.1.2.mono e⟩, ⟨e _ _ g.2.1, g.2.2.mono e⟩⟩) ?_⟩
      · rw [l, ← k.length, ← k'.length]
        exact (walk_zip rfl).mono (fun H3 g => ⟨sq_of (sub_of g.1.1).1, sq_of (sub_of g.2.1).1⟩) fun _ _ _ _ _ _ y => y
      · rintro P i H3 x H4 hi ho ⟨⟨g1, g2⟩, g3, g4⟩ ⟨T, x1, x2, rfl, hT, hH, q1, q2⟩
        obtain ⟨d, h1, h2⟩ := g2.getV q1
        obtain ⟨d', h1', h2'⟩ := g4.getV q2
        obtain ⟨a1, a2⟩ := pair_new ho hT hH h2 h2'
        refine ⟨a1, _, ?_, a2⟩
        unfold zipD
        rw [List.getElem?_zipWith, h1, h1']

/-! ### comprehensions -/
/-- item by item -/
inductive All2 (P : PyData → PyData → Prop) : List PyData → List PyData → Prop
  | nil : All2 P [] []
  | cons {d e : PyData} {ds es : List PyData} : P d e → All2 P ds es → All2 P (d :: ds) (e :: es)
theorem All2.length {P : PyData → PyData → Prop} : ∀ {ds es : List PyData}, All2 P ds es → ds.length = es.length
  | _, _, .nil => rfl
  | _, _, .cons _ k => congrArg Nat.succ k.length
theorem All2.get {P : PyData → PyData → Prop} : ∀ {ds es : List PyData} {i : Nat} {d : PyData}, All2 P ds es → ds[i]? = some d → ∃ e, es[i]? = some e ∧ P d e
  | _, _, _, _, .nil, h => by simp at h
  | _, _, 0, _, .cons p _, h => by
    simp at h
    subst h
    exact ⟨_, rfl, p⟩
  | _, _, i + 1, d, .cons _ k, h => by
    obtain ⟨e, h1, h2⟩ := k.get (i := i) (d := d) (by simpa using h)
    exact ⟨e, by simpa using h1, h2⟩
theorem All2.mapf {P : PyData → PyData → Prop} {f : PyData → PyData} : ∀ {ds : List PyData}, (∀ d, d ∈ ds → P d (f d)) → All2 P ds (ds.map f)
  | [], _ => .nil
  | d :: ds, h => .cons (h d (List.mem_cons_self ..)) (All2.mapf fun e he => h e (List.mem_cons_of_mem _ he))
/-- over values of some type, as data -/
theorem All2.of {α : Type} {P : PyData → PyData → Prop} {f g : α → PyData} : ∀ {l : List α}, (∀ a, a ∈ l → P (f a) (g a)) → All2 P (l.map f) (l.map g)
  | [], _ => .nil
  | a :: l, h => .cons (h a (List.mem_cons_self ..)) (All2.of fun e he => h e (List.mem_cons_of_mem _ he))
theorem take_snoc {α : Type} {l : List α} {i : Nat} {e : α} (h : l[i]? = some e) : l.take (i + 1) = l.take i ++ [e] := by
  rw [List.take_add_one, h]
  rfl
theorem ex_more {O : List Addr} {H H' : Hp} {D : Addr} (e : Ex H H') (hD : H D = none) : Ex (sub H O) (sub H' (D :: O)) := fun a o h => by
  obtain ⟨h1, h2⟩ := sub_of h
  refine sub_mk (e a o h1) fun z => ?_
  rcases List.mem_cons.mp z with z | z
  · rw [z, hD] at h1
    cases h1
  · exact h2 z
theorem sub_upd {O : List Addr} {H : Hp} {D : Addr} {o : HO} (hD : D ∈ O) : sub (upd H D o) O = sub H O := by
  funext a
  unfold sub
  by_cases e : a ∈ O
  · rw [if_pos e, if_pos e]
  · rw [if_neg e, if_neg e, upd_ne (fun z => e (by rw [z]; exact hD))]
theorem ex_less {O : List Addr} {H : Hp} {D : Addr} : Ex (sub H (D :: O)) (sub H O) := fun a o h => by
  obtain ⟨h1, h2⟩ := sub_of h
  exact sub_mk h1 fun z => h2 (List.mem_cons_of_mem _ z)
theorem SD.more {O : List Addr} {H H' : Hp} {σ : L2.St} {ρ : Rho} {D : Addr} {o : HO} (s : SD O H σ ρ) (e : Ex H H') (hD : H D = none) (hD' : H' D = some o) : SD (D :: O) H' σ ρ :=
  ⟨fun a ha z => by
    rcases List.mem_cons.mp ha with q | q
    · rw [q, hD'] at z
      cases z
    · exact own_ex e s.own a q z, fun i d h => by
    obtain ⟨v, h1, h2⟩ := s.at' i d h
    exact ⟨v, h1, h2.mono (ex_more e hD)⟩⟩
/-- [e for x in ..] -/
theorem ed_lc (hw : IterD O n wi ρ ds) (hl : ds.length ≤ 100000) (h : ∀ D, All2 (fun d e => ∃ ρ', TgD (D :: O) n vs g (wipeR ρ vs) d ρ' ∧ EvD (D :: O) n te ρ' e) ds es) : EvD O n (tLc wi g tYes te vs) ρ (.list es) := fun σ H hn s Q q => hw σ H hn s _ fun J H1 G Y e1 W g1 gk yk => by
  intro D hD
  have lw : (L2.wipe σ vs).length = n := by rw [L2.wipe_length]; exact hn
  have s1 := s.ex e1
  have len := (h D).length
  refine lc_it (W (D :: O)) (fun i H2 => ∃ acc, H2 D = some (.lst acc) ∧ DqAll (sub H2 (D :: O)) acc (es.take i) ∧ Ex H1 H2) ⟨[], upd_same, by simpa using DqAll.nil, Ex.new hD⟩ ?_ ?_ ?_
  · rintro i H2 _ ⟨acc, _, _, k2⟩
    exact gk _ _ _ _ g1 (ex_more k2 hD)
  · rintro i x H2 H3 hi ⟨acc, hA, hd, k2⟩ y
    have s2 : SD (D :: O) H2 σ ρ := s1.more k2 hD hA
    obtain ⟨e3, d, hdi, hx⟩ := yk (D :: O) i H2 x H3 hi s2.own (gk _ _ _ _ g1 (ex_more k2 hD)) y
    obtain ⟨e, hei, ρ', ht, hte⟩ := (h D).get hdi
    have s3 := (s2.ex e3).wipe vs
    refine ht (L2.wipe σ vs) H3 x lw s3 hx _ fun σ' hl' hc' s' => ⟨?_, ?_⟩
    · have ew : L2.wipe (L2.wipe σ vs) vs = L2.wipe σ vs := by
        refine wipe_ext (by rw [L2.wipe_length]) fun i hi => L2.wipe_out hi
      rw [wipe_ext (by rw [hl', lw]) hc', ew]
    · show te σ' H3 _
      refine hte σ' H3 hl' s' _ fun y H4 e4 d4 => ⟨acc, e4 _ _ (e3 _ _ hA), ?_, ?_⟩
      · have q1 := hd.length
        rw [List.length_take] at q1
        exact sz_lt (by omega)
      · refine ⟨_, upd_same, ?_, Ex.mut ((k2.trans e3).trans e4) hD⟩
        rw [sub_upd (List.mem_cons_self ..), take_snoc hei]
        exact (hd.mono (Ex.o _ (e3.trans e4))).append (.cons d4 .nil)
  · rintro H2 ⟨acc, hA, hd, k2⟩
    rw [len, List.take_length] at hd
    exact q _ H2 (e1.trans k2) (.lst (sub_mk hA (not_own s1.own hD)) (hd.mono ex_less))
end
end DL
namespace DL
open PySem L2 Evl PyProof.Rows
/-! ### a pure def's promise: a relation of the arguments' data and the answer's -/
def spD (R : List PyData → PyData → Prop) : Sp := fun vs H Q _ => ∃ (O : List Addr) (ds : List PyData) (d : PyData), (∀ a, a ∈ O → H a ≠ none) ∧ DqAll (sub H O) vs ds ∧ R ds d ∧ ∀ v H', Ex H H' → Dq (sub H' O) v d → Q v H'
/-- the slots at a def's start -/
def argR (N : List Str) (ds : List PyData) : Rho := ds.map some ++ List.replicate (N.length - ds.length) none
theorem sd_start {O : List Addr} {H : Hp} {N : List Str} {vs : List V} {ds : List PyData} (ho : ∀ a, a ∈ O → H a ≠ none) (h : DqAll (sub H O) vs ds) : SD O H (L2.start N vs) (argR N ds) :=
  ⟨ho, fun i d e => by
    unfold argR at e
    by_cases hi : i < ds.length
    · rw [List.getElem?_append_left (by rw [List.length_map]; exact hi), List.getElem?_map] at e
      have q : ds[i]? = some d := by
        cases z : ds[i]? with
        | none =>
          rw [z] at e
          cases e
        | some d' =>
          rw [z] at e
          cases e
          rfl
      obtain ⟨v, h1, h2⟩ := h.get q
      refine ⟨v, ?_, h2⟩
      unfold L2.start
      have hv : i < vs.length := by rw [h.length]; exact hi
      rw [List.getElem?_append_left (by rw [List.length_map]; exact hv), List.getElem?_map, h1]
      rfl
    · rw [List.getElem?_append_right (by rw [List.length_map]; omega), List.getElem?_replicate] at e
      split at e <;> cases e⟩
theorem start_len {N : List Str} {vs : List V} (h : vs.length ≤ N.length) : (L2.start N vs).length = N.length := by
  unfold L2.start
  rw [List.length_append, List.length_map, List.length_replicate]
  omega
section
variable {P : Program} {w : World} {K : PySem.W.Frag} {mg : Str → Option Value} {base : Heap}
theorem pure_ok {R : List PyData → PyData → Prop} {x qual : Str} {st : Stmt} {f : Addr} {fd : FuncData} {N ps : List Str} {k : Nat} (F : Fun K x qual st f fd) (S : FnScope N ps (defScope st)) (hl : ∀ ds d, R ds d → ds.length = ps.length) (hp : ps.length ≤ N.length)
    (body : ∀ (cdv : Value) (A : Around) (outer : List Env) (s : Shared) (H : Hp) (E : XK), Room k (A.deeper (envOfC qual (defScope st) s.heap.objs.size f cdv)) →
      ∃ t, PSs (cxOf CX0 P w K mg base N qual (defScope st) f cdv A outer s H E).nox (defBody st) t ∧ ∀ O ds d, R ds d → RunR O N.length t (argR N ds) d) : FnOk P w K mg base CX0 (k + 1) f fd ps (spD R) := by
  refine F.ok S (fun vs H Q E h => ?_) (fun cdv A outer s H vs Q E hr h => ?_)
  · obtain ⟨O, ds, d, _, hd, hR, _⟩ := h
    rw [hd.length]
    exact hl ds d hR
  · obtain ⟨t, ht, hb⟩ := body cdv A outer s H E hr
    obtain ⟨O, ds, d, ho, hd, hR, q⟩ := h
    refine ⟨t, ht, hb O ds d hR _ (L2.start N vs) H (start_len (by rw [hd.length, hl ds d hR]; exact hp)) (sd_start ho hd) q⟩
end
section
variable {O : List Addr} {n : Nat} {ρ : Rho} {ta tb te : TE} {x y z d : PyData} {K : PySem.W.Frag} {ds es zs : List PyData} {R : List PyData → PyData → Prop} {E : XK} {tr tk : TA}
theorem ed_call (h : EvDA O n tr ρ ds) (hR : R ds d) : EvD O n (tCall (spD R) [] E tr) ρ d := fun σ H hn s Q q =>
  h σ H hn s _ fun vs H1 e1 d1 => ⟨O, ds, d, own_ex e1 s.own, by rw [List.append_nil]; exact d1, hR, fun v H2 e2 d2 => q v H2 (e1.trans e2) d2⟩
/-- f(k = ..): pm puts the keywords' values in order -/
theorem ed_callN {m : Nat} {gV : List V → List V → List V} (h : EvDA O n tk ρ zs) (hm : zs.length = m) (hg : ∀ (H : Hp) (vs : List V), DqAll H vs zs → DqAll H (gV [] vs) ds) (hR : R ds d) : EvD O n (tCallN 0 m (spD R) gV E tNil tk) ρ d := fun σ H hn s Q q =>
  h σ H hn s _ fun vs H1 e1 d1 => ⟨rfl, by rw [d1.length]; exact hm, O, ds, d, own_ex e1 s.own, hg _ _ d1, hR, fun v H2 e2 d2 => q v H2 (e1.trans e2) d2⟩
end
section
variable {X : Cx} {CX : CXT} {k : Nat} {f : Addr} {fd : FuncData} {ps ks : List Str} {sp : Sp} {E : XK} {x : Str} {p pos : Pos} {kws : List Keyword} {tk : TA} {g : List Value → List Value → List Value} {gV : List V → List V → List V}
/-- f(k = v, ..), keywords alone -/
theorem pe_callN0 (F : FnOk X.prog X.w X.K X.mg X.base CX k f fd ps sp) (hr : Room k X.A) (hg : Gl X x) (hm : X.mg x = some (.ref f)) (hk : PySem.W.keepIn X.K (.ref f) = true) (hb : KBn X.K fd ps 0 ks g gV) (hx : Passes CX X E)
    (hkw : PK X kws tk) (hall : (backToKw pos (keywordEach kws X.env)).all (·.1.isSome) = true := by rfl) (hks : (backToKw pos (keywordEach kws X.env)).filterMap (·.1) = ks := by rfl)
    (hdb : (x == ("__debug__" : Str)) = false := by decide) (hpl : ((backTo pos (starEach [] X.env)).any (·.1) || (backToKw pos (keywordEach kws X.env)).any (·.1.isNone)) = false := by rfl) :
    PE X (.Call (.Name x p) [] kws pos) (tCallN 0 ks.length sp gV E tNil tk) := by
  refine ⟨fun pins s σ H Q I h => ?_⟩
  refine wpAny_Call_Name_kw (ld_glob I hg hm ?_ hdb)
  refine PySem.W.callWith_KW0 (h₀ := X.base) I.ok.mod.kin hk hall ?_ hpl
  refine thn (hkw.run pos pins s σ H _ I h) fun ws s2 ⟨zs, H2, I2, rz, l1, l2, q2⟩ => ⟨I2.kIn, ?_⟩
  rw [hks]
  exact run_fnN (us := []) (vs := []) F hr hb hx I2 .nil rz rfl l2 q2
/-- one parameter, by its name -/
theorem kb_one {K : PySem.W.Frag} {f : Addr} {fd : FuncData} {x qual k0 : Str} {st : Stmt} (F : Fun K x qual st f fd)
    (h : ∀ (kV doc pm : Value) (an : Option Addr) (cdv ct : Value) (u : Value), bindArgs (PySem.W.fnOf x qual (defArgs st) (defBody st) (defScope st) .none kV doc pm an cdv ct) ⟨[], [(k0, u)]⟩ = pure [(k0, u)]) : KBn K fd [k0] 0 [k0] (fun us ws => us ++ ws) (fun vs zs => vs ++ zs) := by
  obtain ⟨oc, od, kV, doc, pm, an, cdv, ct, osl, rfl, lk, hcd⟩ := F.ex
  refine ⟨fun s us ws X l1 l2 => ?_, fun r1 r2 => r1.append r2⟩
  match us, ws, l1, l2 with
  | [], [u], _, _ => exact .of_eq (h kV doc pm an cdv ct u)
/-- a text so many times -/
def rRepS : R2 := fun x y H Q => ∃ z k, x = .str z ∧ y = .int k ∧ MulOk z k ∧ Q (.str (Txt.mul z k)) H
theorem op_repS : OpR X (binaryOp .Mult) rRepS := by
  intro pins s σ H x y v u Q I rx ry h
  obtain ⟨z, k, rfl, rfl, h1, q⟩ := h
  obtain ⟨t, rfl⟩ := rx
  obtain ⟨t', rfl⟩ := ry
  exact SB.mul h1 fun t'' k' => ⟨.str (Txt.mul z k), H, I.tok k', ⟨t'', rfl⟩, q⟩
end

/-! ### operations on data, further -/
section
variable {O : List Addr} {n : Nat} {ρ : Rho} {ta tb te to : TE} {x y z d : PyData} {K : PySem.W.Frag} {ds es zs : List PyData}
theorem rd_reps {z : Str} {k : Int} (h : MulOk z k) : RD O rRepS (.str z) (.int k) (.str (Txt.mul z k)) := fun H v w _ h1 h2 Q q => by
  cases h1; cases h2
  exact ⟨z, k, rfl, rfl, h, q _ H (Ex.refl H) (.str _)⟩
theorem rd_eqs {i j : Str} : RD O rEq (.str i) (.str j) (.bool (decide (i = j))) := fun H v w _ h1 h2 Q q => by
  cases h1; cases h2
  refine ⟨rfl, ?_⟩
  have e : decide (V.str i = V.str j) = decide (i = j) := by
    by_cases c : i = j
    · rw [decide_eq_true c, decide_eq_true (by rw [c])]
    · rw [decide_eq_false c, decide_eq_false (fun z => c (V.str.inj z))]
  rw [e]
  exact q _ H (Ex.refl H) (.bl _)
theorem rd_eqi {i j : Int} : RD O rEq (.int i) (.int j) (.bool (decide (i = j))) := fun H v w _ h1 h2 Q q => by
  cases h1; cases h2
  refine ⟨rfl, ?_⟩
  have e : decide (V.int i = V.int j) = decide (i = j) := by
    by_cases c : i = j
    · rw [decide_eq_true c, decide_eq_true (by rw [c])]
    · rw [decide_eq_false c, decide_eq_false (fun z => c (V.int.inj z))]
  rw [e]
  exact q _ H (Ex.refl H) (.bl _)
theorem rd_nes {i j : Str} : RD O rNe (.str i) (.str j) (.bool (!decide (i = j))) := fun H v w _ h1 h2 Q q => by
  cases h1; cases h2
  refine ⟨rfl, ?_⟩
  have e : decide (V.str i = V.str j) = decide (i = j) := by
    by_cases c : i = j
    · rw [decide_eq_true c, decide_eq_true (by rw [c])]
    · rw [decide_eq_false c, decide_eq_false (fun z => c (V.str.inj z))]
  rw [e]
  exact q _ H (Ex.refl H) (.bl _)
theorem rd_nei {i j : Int} : RD O rNe (.int i) (.int j) (.bool (!decide (i = j))) := fun H v w _ h1 h2 Q q => by
  cases h1; cases h2
  refine ⟨rfl, ?_⟩
  have e : decide (V.int i = V.int j) = decide (i = j) := by
    by_cases c : i = j
    · rw [decide_eq_true c, decide_eq_true (by rw [c])]
    · rw [decide_eq_false c, decide_eq_false (fun z => c (V.int.inj z))]
  rw [e]
  exact q _ H (Ex.refl H) (.bl _)
/-- xs[i], i from 0 -/
theorem rd_ixL {i : Nat} (h : ds[i]? = some d) : RD O (rIxL K) (.list ds) (.int (i : Int)) d := fun H v w _ h1 h2 Q q => by
  cases h2
  cases h1 with
  | lst a k =>
    obtain ⟨v, e1, e2⟩ := k.get h
    exact ⟨_, _, _, v, rfl, rfl, sq_of (sub_of a).1, atI_nat e1, q _ H (Ex.refl H) e2⟩
theorem rd_ixT {i : Nat} (h : ds[i]? = some d) : RD O (rIxT K) (.tuple ds) (.int (i : Int)) d := fun H v w _ h1 h2 Q q => by
  cases h2
  cases h1 with
  | tup a k =>
    obtain ⟨v, e1, e2⟩ := k.get h
    exact ⟨_, _, _, v, rfl, rfl, st_of (sub_of a).1, atI_nat e1, q _ H (Ex.refl H) e2⟩
/-- x in (..): texts -/
theorem rd_inS {neg : Bool} {i : Str} {xs : List Str} : RD O (rIn K neg) (.str i) (.tuple (dS xs)) (.bool (if neg then !decide (i ∈ xs) else decide (i ∈ xs))) := fun H v w _ h1 h2 Q q => by
  cases h1
  cases h2 with
  | tup a k =>
    have e := strs_dq k
    subst e
    have f1 : (xs.map V.str).all flatV = true := by
      rw [List.all_map]
      exact List.all_eq_true.mpr fun _ _ => rfl
    have f2 : inV (.str i) (xs.map V.str) = decide (i ∈ xs) := by
      unfold inV
      rw [List.any_map]
      by_cases c : i ∈ xs
      · rw [decide_eq_true c]
        refine List.any_eq_true.mpr ⟨i, c, ?_⟩
        simp [eqV]
      · rw [decide_eq_false c]
        refine List.any_eq_false.mpr fun y hy z => c ?_
        have q : eqV (V.str y) (V.str i) = true := z
        simp [eqV] at q
        rw [← q]
        exact hy
    refine ⟨_, _, rfl, .inr (st_of (sub_of a).1), rfl, f1, ?_⟩
    rw [f2]
    exact q _ H (Ex.refl H) (.bl _)
/-! built-ins -/
abbrev rLen (K : PySem.W.Frag) : List V → Hp → VK → Prop := fun xs H Q => ∃ p ys, xs = [.ref p] ∧ (SqL K H p ys ∨ SqT K H p ys) ∧ Q (.int ys.length) H
theorem rc_lenL : RDC O (rLen K) [.list ds] (.int ds.length) := fun H vs _ h Q q => by
  cases h with
  | cons h k =>
    cases k
    cases h with
    | lst a k =>
      refine ⟨_, _, rfl, .inl (sq_of (sub_of a).1), ?_⟩
      rw [k.length]
      exact q _ H (Ex.refl H) (.int _)
theorem rc_lenT : RDC O (rLen K) [.tuple ds] (.int ds.length) := fun H vs _ h Q q => by
  cases h with
  | cons h k =>
    cases k
    cases h with
    | tup a k =>
      refine ⟨_, _, rfl, .inr (st_of (sub_of a).1), ?_⟩
      rw [k.length]
      exact q _ H (Ex.refl H) (.int _)
theorem rc_str {i : Int} (h : i.natAbs.log2 < 1920) : RDC O (fun xs H Q => ∃ i, xs = [.int i] ∧ i.natAbs.log2 < 1920 ∧ Q (.str (toString i)) H) [.int i] (.str (toString i)) := fun H vs _ h' Q q => by
  cases h' with
  | cons h' k =>
    cases k
    cases h'
    exact ⟨i, rfl, h, q _ H (Ex.refl H) (.str _)⟩
theorem rc_int {i : Int} : RDC O (fun xs H Q => (∃ i, xs = [.int i] ∧ Q (.int i) H) ∨ ∃ k, xs = [.bl k] ∧ Q (.int (if k then 1 else 0)) H) [.int i] (.int i) := fun H vs _ h' Q q => by
  cases h' with
  | cons h' k =>
    cases k
    cases h'
    exact .inl ⟨i, rfl, q _ H (Ex.refl H) (.int _)⟩
theorem rc_intb {b : Bool} : RDC O (fun xs H Q => (∃ i, xs = [.int i] ∧ Q (.int i) H) ∨ ∃ k, xs = [.bl k] ∧ Q (.int (if k then 1 else 0)) H) [.bool b] (.int (if b then 1 else 0)) := fun H vs _ h' Q q => by
  cases h' with
  | cons h' k =>
    cases k
    cases h'
    exact .inr ⟨b, rfl, q _ H (Ex.refl H) (.int _)⟩
theorem rc_ints {a : Str} {i : Int} (h : PySem.intText? a = some i) (hl : a.length ≤ 640) : RDC O (fun xs H Q => ∃ a n, xs = [.str a] ∧ PySem.intText? a = some n ∧ a.length ≤ 640 ∧ Q (.int n) H) [.str a] (.int i) := fun H vs _ h' Q q => by
  cases h' with
  | cons h' k =>
    cases k
    cases h'
    exact ⟨a, i, rfl, h, hl, q _ H (Ex.refl H) (.int _)⟩
theorem rc_abs {i : Int} : RDC O (fun xs H Q => ∃ i, xs = [.int i] ∧ Q (.int (if i < 0 then -i else i)) H) [.int i] (.int (if i < 0 then -i else i)) := fun H vs _ h' Q q => by
  cases h' with
  | cons h' k =>
    cases k
    cases h'
    exact ⟨i, rfl, q _ H (Ex.refl H) (.int _)⟩
abbrev rListOf (K : PySem.W.Frag) : List V → Hp → VK → Prop := fun xs H Q => ∃ p ys, xs = [.ref p] ∧ (SqL K H p ys ∨ SqT K H p ys) ∧ ∀ l, H l = none → Q (.ref l) (upd H l (.lst ys))
abbrev rTupleOf (K : PySem.W.Frag) : List V → Hp → VK → Prop := fun xs H Q => ∃ p ys, xs = [.ref p] ∧ ((SqL K H p ys ∧ ∀ l, H l = none → Q (.ref l) (upd H l (.tup ys))) ∨ (SqT K H p ys ∧ Q (.ref p) H))
/-- a list or a tuple of such data -/
inductive SeqD : PyData → List PyData → Prop
  | lst (ds : List PyData) : SeqD (.list ds) ds
  | tup (ds : List PyData) : SeqD (.tuple ds) ds
theorem seq_rd {H : Hp} {v : V} (hs : SeqD x ds) (h : Dq (sub H O) v x) : ∃ p ys, v = .ref p ∧ (SqL K H p ys ∨ SqT K H p ys) ∧ DqAll (sub H O) ys ds := by
  cases hs with
  | lst =>
    cases h with
    | lst a k => exact ⟨_, _, rfl, .inl (sq_of (sub_of a).1), k⟩
  | tup =>
    cases h with
    | tup a k => exact ⟨_, _, rfl, .inr (st_of (sub_of a).1), k⟩
theorem rc_list (hs : SeqD x ds) : RDC O (rListOf K) [x] (.list ds) := fun H vs ho h Q q => by
  cases h with
  | cons h k =>
    cases k
    obtain ⟨p, ys, rfl, h1, h2⟩ := seq_rd (K := K) hs h
    exact ⟨p, ys, rfl, h1, fun l hl => q _ _ (Ex.new hl) (.lst (sub_mk upd_same (not_own ho hl)) (h2.mono (Ex.o O (Ex.new hl))))⟩
theorem rc_tuple (hs : SeqD x ds) : RDC O (rTupleOf K) [x] (.tuple ds) := fun H vs ho h Q q => by
  cases h with
  | cons h k =>
    cases k
    cases hs with
    | lst =>
      cases h with
      | lst a k => exact ⟨_, _, rfl, .inl ⟨sq_of (sub_of a).1, fun l hl => q _ _ (Ex.new hl) (.tup (sub_mk upd_same (not_own ho hl)) (k.mono (Ex.o O (Ex.new hl))))⟩⟩
    | tup =>
      cases h with
      | tup a k => exact ⟨_, _, rfl, .inr ⟨st_of (sub_of a).1, q _ H (Ex.refl H) (.tup a k)⟩⟩
theorem rc_all {bs : List Bool} : RDC O (rAll K) [.list (dB bs)] (.bool (bs.all id)) := fun H vs _ h Q q => by
  cases h with
  | cons h k =>
    cases k
    cases h with
    | lst a k =>
      have e := bools_dq k
      subst e
      exact ⟨_, bs, rfl, sq_of (sub_of a).1, q _ H (Ex.refl H) (.bl _)⟩
/-- sorted(..) of ints: zs is the list in order -/
theorem rc_sorted {ns zs : List Int} (hp : zs.Perm ns) (hz : zs.Pairwise (· ≤ ·)) : RDC O (rSortedI K) [.list (dI ns)] (.list (dI zs)) := fun H vs ho h Q q => by
  cases h with
  | cons h k =>
    cases k
    cases h with
    | lst a k =>
      have e := ints_dq k
      subst e
      refine ⟨_, ns, rfl, sq_of (sub_of a).1, fun ns' p p1 p2 hp' => ?_⟩
      have e2 : ns' = zs := PySem.W.ksm_same (p1.trans hp.symm) p2 hz
      subst e2
      exact q _ _ (Ex.new hp') (.lst (sub_mk upd_same (not_own ho hp')) (dq_ints _))
/-! methods of texts -/
theorem ed_m1 {r : V → List V → Hp → VK → Prop} {a b : Str} (ho : EvD O n to ρ (.str a)) (he : EvD O n te ρ (.str b)) (hr : ∀ (H : Hp), (∀ a, a ∈ O → H a ≠ none) → ∀ Q : VK, (∀ u H', Ex H H' → Dq (sub H' O) u z → Q u H') → r (.str a) [.str b] H Q) : EvD O n (tM1 r to te) ρ z := fun σ H hn s Q q =>
  ho σ H hn s _ fun v H1 e1 d1 => by
    cases d1
    exact ⟨⟨a, rfl⟩, he σ H1 hn (s.ex e1) _ fun v H2 e2 d2 => by
      cases d2
      exact hr H2 (own_ex (e1.trans e2) s.own) Q fun u H3 e3 d3 => q u H3 ((e1.trans e2).trans e3) d3⟩
theorem ed_m0 {r : V → List V → Hp → VK → Prop} {a : Str} (ho : EvD O n to ρ (.str a)) (hr : ∀ (H : Hp), (∀ a, a ∈ O → H a ≠ none) → ∀ Q : VK, (∀ u H', Ex H H' → Dq (sub H' O) u z → Q u H') → r (.str a) [] H Q) : EvD O n (tM0 r to) ρ z := fun σ H hn s Q q =>
  ho σ H hn s _ fun v H1 e1 d1 => by
    cases d1
    exact ⟨⟨a, rfl⟩, hr H1 (own_ex e1 s.own) Q fun u H3 e3 d3 => q u H3 (e1.trans e3) d3⟩
theorem ed_isdigit {a : Str} (ho : EvD O n to ρ (.str a)) : EvD O n (tM0 (fun x xs H Q => ∃ a, x = .str a ∧ xs = [] ∧ True ∧ Q (.bl (Txt.isdigit a)) H) to) ρ (.bool (Txt.isdigit a)) :=
  ed_m0 ho fun H _ Q q => ⟨a, rfl, rfl, True.intro, q _ H (Ex.refl H) (.bl _)⟩
theorem ed_isascii {a : Str} (ho : EvD O n to ρ (.str a)) : EvD O n (tM0 (fun x xs H Q => ∃ a, x = .str a ∧ xs = [] ∧ True ∧ Q (.bl (Txt.isascii a)) H) to) ρ (.bool (Txt.isascii a)) :=
  ed_m0 ho fun H _ Q q => ⟨a, rfl, rfl, True.intro, q _ H (Ex.refl H) (.bl _)⟩
theorem ed_startswith {a b : Str} (ho : EvD O n to ρ (.str a)) (he : EvD O n te ρ (.str b)) : EvD O n (tM1 (fun x xs H Q => ∃ a b, x = .str a ∧ xs = [.str b] ∧ Q (.bl (Txt.startswith a b)) H) to te) ρ (.bool (Txt.startswith a b)) :=
  ed_m1 ho he fun H _ Q q => ⟨a, b, rfl, rfl, q _ H (Ex.refl H) (.bl _)⟩
theorem ed_split {a b : Str} (ho : EvD O n to ρ (.str a)) (he : EvD O n te ρ (.str b)) (hb : (b.length == 0) = false) (hl : a.length ≤ 100000) :
    EvD O n (tM1 (fun x xs H Q => ∃ a b, x = .str a ∧ xs = [.str b] ∧ (b.length == 0) = false ∧ a.length + 2 ≤ sizeLine ∧ rNewStrs (Txt.split a b) H Q) to te) ρ (.list (dS (Txt.split a b))) :=
  ed_m1 ho he fun H ho Q q => ⟨a, b, rfl, rfl, hb, Nat.le_trans (show a.length + 2 ≤ 100002 by omega) (by decide), fun p hp => q _ _ (Ex.new hp) (.lst (sub_mk upd_same (not_own ho hp)) (dq_strs _))⟩
theorem ed_partition {a b : Str} (ho : EvD O n to ρ (.str a)) (he : EvD O n te ρ (.str b)) (hb : (b.length == 0) = false) (hl : a.length ≤ 100000) :
    EvD O n (tM1 (fun x xs H Q => ∃ a b, x = .str a ∧ xs = [.str b] ∧ (b.length == 0) = false ∧ a.length ≤ sizeLine ∧
      ∀ p, H p = none → Q (.ref p) (upd H p (.tup [.str (Txt.partition a b).1, .str (Txt.partition a b).2.1, .str (Txt.partition a b).2.2]))) to te) ρ (.tuple [.str (Txt.partition a b).1, .str (Txt.partition a b).2.1, .str (Txt.partition a b).2.2]) :=
  ed_m1 ho he fun H ho Q q => ⟨a, b, rfl, rfl, hb, sz_of hl, fun p hp => q _ _ (Ex.new hp) (.tup (sub_mk upd_same (not_own ho hp)) (.cons (.str _) (.cons (.str _) (.cons (.str _) .nil))))⟩
theorem ed_join {a : Str} {xs : List Str} (ho : EvD O n to ρ (.str a)) (he : EvD O n te ρ x) (hx : SeqD x (dS xs)) (hl : (xs.map (·.length)).sum + xs.length * a.length ≤ 100000) :
    EvD O n (tM1 (fun x xs H Q => ∃ a p, ∃ ys : List Str, x = .str a ∧ xs = [.ref p] ∧ (SqL K H p (ys.map V.str) ∨ SqT K H p (ys.map V.str)) ∧
      (ys.map (·.length)).sum + ys.length * a.length ≤ 16777216 ∧ Q (.str (Txt.join a ys)) H) to te) ρ (.str (Txt.join a xs)) := fun σ H hn s Q q =>
  ho σ H hn s _ fun v H1 e1 d1 => by
    cases d1
    refine ⟨⟨a, rfl⟩, he σ H1 hn (s.ex e1) _ fun v H2 e2 d2 => ?_⟩
    obtain ⟨p, ys, rfl, h1, h2⟩ := seq_rd (K := K) hx d2
    have e := strs_dq h2
    subst e
    exact ⟨a, p, xs, rfl, rfl, h1, by omega, q _ H2 (e1.trans e2) (.str _)⟩
/-! slices -/
def EvDO (O : List Addr) (n : Nat) (to : TO) (ρ : Rho) (o : Option Int) : Prop := ∀ (σ : L2.St) (H : Hp), σ.length = n → SD O H σ ρ → ∀ Q : Option Int → Hp → Prop, (∀ H', Ex H H' → Q o H') → to σ H Q
theorem eo_none : EvDO O n tNoPart ρ none := fun σ H _ s Q q => q H (Ex.refl H)
theorem eo_some {i : Int} (h : EvD O n te ρ (.int i)) : EvDO O n (tPart te) ρ (some i) := fun σ H hn s Q q => h σ H hn s _ fun v H1 e1 d1 => by
  cases d1
  exact ⟨i, rfl, q H1 e1⟩
theorem ed_slS {tl th : TO} {a : Str} {lo hi : Option Int} (h : EvD O n te ρ (.str a)) (h1 : EvDO O n tl ρ lo) (h2 : EvDO O n th ρ hi) (hl : a.length ≤ 100000) : EvD O n (tSl rSlS te tl th) ρ (.str (cutS a lo hi)) := fun σ H hn s Q q =>
  h σ H hn s _ fun v H1 e1 d1 => h1 σ H1 hn (s.ex e1) _ fun H2 e2 => h2 σ H2 hn ((s.ex e1).ex e2) _ fun H3 e3 => by
    cases d1
    exact ⟨a, rfl, sz_of hl, q _ H3 ((e1.trans e2).trans e3) (.str _)⟩
/-- the part of a list -/
def cutD (ds : List PyData) (lo hi : Option Int) : List PyData := (ds.drop (HT.sIx ds.length 0 lo)).take (HT.sIx ds.length ds.length hi - HT.sIx ds.length 0 lo)
theorem DqAll.cut {H : Hp} {vs : List V} (h : DqAll H vs ds) (lo hi : Option Int) : DqAll H (cutV vs lo hi) (cutD ds lo hi) := by
  unfold cutV cutD
  rw [h.length]
  exact (h.drop _).take _
theorem ed_slL {tl th : TO} {lo hi : Option Int} (h : EvD O n te ρ (.list ds)) (h1 : EvDO O n tl ρ lo) (h2 : EvDO O n th ρ hi) : EvD O n (tSl (rSlL K) te tl th) ρ (.list (cutD ds lo hi)) := fun σ H hn s Q q =>
  h σ H hn s _ fun v H1 e1 d1 => h1 σ H1 hn (s.ex e1) _ fun H2 e2 => h2 σ H2 hn ((s.ex e1).ex e2) _ fun H3 e3 => by
    have d3 := d1.mono (Ex.o O (e2.trans e3))
    cases d3 with
    | lst a k =>
      exact ⟨_, _, rfl, sq_of (sub_of a).1, fun p hp => q _ _ (((e1.trans e2).trans e3).trans (Ex.new hp)) (.lst (sub_mk upd_same (not_own (own_ex ((e1.trans e2).trans e3) s.own) hp)) ((k.cut lo hi).mono (Ex.o O (Ex.new hp))))⟩
/-! f-strings -/
inductive EvJ (O : List Addr) (n : Nat) (ρ : Rho) : List TE → List Str → Prop
  | nil : EvJ O n ρ [] []
  | cons {t : TE} {ts : List TE} {y : Str} {ys : List Str} : EvD O n t ρ (.str y) → EvJ O n ρ ts ys → EvJ O n ρ (t :: ts) (y :: ys)
def catS : Str → List Str → Str
  | acc, [] => acc
  | acc, y :: ys => catS (acc ++ y) ys
theorem ed_js {ts : List TE} {ys : List Str} (h : EvJ O n ρ ts ys) : ∀ (acc : Str) (σ : L2.St) (H : Hp), σ.length = n → SD O H σ ρ → acc.length + (ys.map (·.length)).sum ≤ 100000 → ∀ Q : Str → Hp → Prop, (∀ H', Ex H H' → Q (catS acc ys) H') → tJs ts acc σ H Q := by
  induction h with
  | nil =>
    intro acc σ H hn s hl Q q
    exact q H (Ex.refl H)
  | @cons t ts y ys h1 h2 ih =>
    intro acc σ H hn s hl Q q
    refine h1 σ H hn s _ fun v H1 e1 d1 => ?_
    cases d1
    rw [List.map_cons, List.sum_cons] at hl
    have hy : (acc ++ y).length = acc.length + y.length := Str.length_append acc y
    exact ⟨y, rfl, sz_of (by omega), ih (acc ++ y) σ H1 hn (s.ex e1) (by omega) Q fun H2 e2 => q H2 (e1.trans e2)⟩
theorem ed_joined {ts : List TE} {ys : List Str} (h : EvJ O n ρ ts ys) (hl : (ys.map (·.length)).sum ≤ 100000) : EvD O n (fun σ H Q => tJs ts Str.empty σ H fun out H1 => Q (.str out) H1) ρ (.str (catS Str.empty ys)) := fun σ H hn s Q q =>
  ed_js h Str.empty σ H hn s (by show 0 + _ ≤ _; omega) _ fun H1 e1 => q _ H1 e1 (.str _)
theorem ed_fmtI {i : Int} (h : EvD O n te ρ (.int i)) (hi : i.natAbs.log2 < 1920) : EvD O n (tFmt te) ρ (.str (toString i)) := fun σ H hn s Q q => h σ H hn s _ fun v H1 e1 d1 => by
  cases d1
  exact .inr ⟨i, rfl, hi, q _ H1 e1 (.str _)⟩
theorem ed_fmtS {i : Str} (h : EvD O n te ρ (.str i)) (hi : i.length ≤ 100000) : EvD O n (tFmt te) ρ (.str i) := fun σ H hn s Q q => h σ H hn s _ fun v H1 e1 d1 => by
  cases d1
  exact .inl ⟨i, rfl, sz_of hi, q _ H1 e1 (.str _)⟩
end
end DL
namespace DL
open PySem L2 Evl PyProof.Rows RZ
/-! ### walking a list or a tuple -/
def iSeq (K : PySem.W.Frag) (tl : TE) : TI := fun σ H R => tl σ H fun x H1 => ∃ a, x = .ref a ∧ (((∃ xs, SqL K H1 a xs) ∧ R (Itl K a) H1) ∨ ((∃ xs, SqT K H1 a xs) ∧ R (Itt K a) H1))
section
variable {X : Cx} {tg l : Expr} {tl : TE}
theorem pi_seq (hl : PE X l tl) : PI X tg l (iSeq X.K tl) := by
  refine ⟨fun pins s σ H R I h => ?_⟩
  refine thn (hl.run pins s σ H _ I h) fun v s1 ⟨x, H1, I1, r1, q1⟩ => ?_
  obtain ⟨a, e, q⟩ := q1
  subst e
  cases r1
  have fr : ∀ b, b ∈ [s1.heap.objs.size] → FpOk X pins H1 b := fun b hb => by
    have e : b = s1.heap.objs.size := by simpa using hb
    subst e
    exact I1.fpOk (Nat.le_refl _) (I1.hok.fresh (Nat.le_refl _))
  rcases q with ⟨⟨xs, hq⟩, q⟩ | ⟨⟨xs, hq⟩, q⟩
  · obtain ⟨its, rv, p, hz⟩ := I1.list hq
    refine wpAny_pyIter_list p.isList ?_
    exact ⟨s1.heap.objs.size, [s1.heap.objs.size], _, _, H1, rfl, I1.kept (t' := s1.toks) fun b o e => Heap.get?_push_of_some _ e, turn_list a _, ⟨_, Heap.get?_push_size _ rfl, rfl, rfl⟩, fr, q⟩
  · obtain ⟨its, rv, p, hz⟩ := I1.tuple hq
    refine wpAny_pyIter_tuple (show s1.heap.IsTuple a its.toArray from p) ?_
    exact ⟨s1.heap.objs.size, [s1.heap.objs.size], _, _, H1, rfl, I1.kept (t' := s1.toks) fun b o e => Heap.get?_push_of_some _ e, turn_tuple a _, ⟨_, Heap.get?_push_size _ rfl, rfl, rfl⟩, fr, q⟩
end
section
variable {O : List Addr} {n : Nat} {ρ : Rho} {ta tb te to : TE} {x y z d : PyData} {K : PySem.W.Frag} {ds es zs : List PyData}
theorem it_seq (hs : SeqD x ds) (h : EvD O n te ρ x) : IterD O n (iSeq K te) ρ ds := fun σ H hn s R q => h σ H hn s _ fun v H1 e1 d1 => by
  cases hs with
  | lst =>
    cases d1 with
    | @lst a xs _ ha k =>
      refine ⟨a, rfl, .inl ⟨⟨xs, sq_of (sub_of ha).1⟩, q (Itl K a) H1 (fun P H2 => sub H2 P a = some (.lst xs) ∧ DqAll (sub H2 P) xs ds) (YAt xs) e1 (fun P => ?_) ⟨ha, k⟩ (fun P P' H2 H3 g e => ⟨e _ _ g.1, g.2.mono e⟩) ?_⟩⟩
      · rw [← k.length]
        exact walk_list.mono (fun H2 g => sq_of (sub_of g.1).1) fun _ _ _ _ _ _ y => y
      · rintro P i H2 x H3 _ _ ⟨g1, g2⟩ ⟨rfl, hx⟩
        obtain ⟨d, h1, h2⟩ := g2.getV hx
        exact ⟨Ex.refl _, d, h1, h2⟩
  | tup =>
    cases d1 with
    | @tup a xs _ ha k =>
      refine ⟨a, rfl, .inr ⟨⟨xs, st_of (sub_of ha).1⟩, q (Itt K a) H1 (fun P H2 => sub H2 P a = some (.tup xs) ∧ DqAll (sub H2 P) xs ds) (YAt xs) e1 (fun P => ?_) ⟨ha, k⟩ (fun P P' H2 H3 g e => ⟨e _ _ g.1, g.2.mono e⟩) ?_⟩⟩
      · rw [← k.length]
        exact walk_tup.mono (fun H2 g => st_of (sub_of g.1).1) fun _ _ _ _ _ _ y => y
      · rintro P i H2 x H3 _ _ ⟨g1, g2⟩ ⟨rfl, hx⟩
        obtain ⟨d, h1, h2⟩ := g2.getV hx
        exact ⟨Ex.refl _, d, h1, h2⟩
/-- zip of two lists or two tuples -/
inductive SameSeq : PyData → PyData → List PyData → List PyData → Prop
  | lst (ds es : List PyData) : SameSeq (.list ds) (.list es) ds es
  | tup (ds es : List PyData) : SameSeq (.tuple ds) (.tuple es) ds es
theorem it_zipA (hs : SameSeq x y ds es) (h : EvD O n ta ρ x) (h' : EvD O n tb ρ y) : IterD O n (iZipA K (tCons ta (tCons tb tNil))) ρ (zipD ds es) := fun σ H hn s R q => h σ H hn s _ fun v H1 e1 d1 => h' σ H1 hn (s.ex e1) _ fun v' H2 e2 d2 => by
  have l : (zipD ds es).length = min ds.length es.length := by
    unfold zipD
    rw [List.length_zipWith]
  cases hs with
  | lst =>
    cases d1 with
    | @lst a xs _ ha k =>
      cases d2 with
      | @lst b ys _ hb k' =>
        have ha2 : sub H2 O a = some (.lst xs) := (Ex.o O e2) _ _ ha
        refine ⟨a, b, xs, ys, rfl, .inl ⟨sq_of (sub_of ha2).1, sq_of (sub_of hb).1, q (Itz K a b) H2 (fun P H3 => (sub H3 P a = some (.lst xs) ∧ DqAll (sub H3 P) xs ds) ∧ (sub H3 P b = some (.lst ys) ∧ DqAll (sub H3 P) ys es)) (YPair (fun i => xs[i]?) (fun i => ys[i]?)) (e1.trans e2) (fun P => ?_)
          ⟨⟨ha2, k.mono (Ex.o O e2)⟩, ⟨hb, k'⟩⟩ (fun P P' H3 H4 g e => ⟨⟨e _ _ g.1.1, g.1.2.mono e⟩, ⟨e _ _ g.2.1, g.2.2.mono e⟩⟩) ?_⟩⟩
        · rw [l, ← k.length, ← k'.length]
          exact (walk_zip rfl).mono (fun H3 g => ⟨sq_of (sub_of g.1.1).1, sq_of (sub_of g.2.1).1⟩) fun _ _ _ _ _ _ y => y
        · rintro P i H3 x H4 hi ho ⟨⟨g1, g2⟩, g3, g4⟩ ⟨T, x1, x2, rfl, hT, hH, q1, q2⟩
          obtain ⟨d, h1, h2⟩ := g2.getV q1
          obtain ⟨d', h1', h2'⟩ := g4.getV q2
          obtain ⟨a1, a2⟩ := pair_new ho hT hH h2 h2'
          refine ⟨a1, _, ?_, a2⟩
          unfold zipD
          rw [List.getElem?_zipWith, h1, h1']
  | tup =>
    cases d1 with
    | @tup a xs _ ha k =>
      cases d2 with
      | @tup b ys _ hb k' =>
        have ha2 : sub H2 O a = some (.tup xs) := (Ex.o O e2) _ _ ha
        refine ⟨a, b, xs, ys, rfl, .inr ⟨st_of (sub_of ha2).1, st_of (sub_of hb).1, q (ItzT K a b) H2 (fun P H3 => (sub H3 P a = some (.tup xs) ∧ DqAll (sub H3 P) xs ds) ∧ (sub H3 P b = some (.tup ys) ∧ DqAll (sub H3 P) ys es)) (YPair (fun i => xs[i]?) (fun i => ys[i]?)) (e1.trans e2) (fun P => ?_)
          ⟨⟨ha2, k.mono (Ex.o O e2)⟩, ⟨hb, k'⟩⟩ (fun P P' H3 H4 g e => ⟨⟨e _ _ g.1.1, g.1.2.mono e⟩, ⟨e _ _ g.2.1, g.2.2.mono e⟩⟩) ?_⟩⟩
        · have W : Walk (ItzT K a b) (min xs.length ys.length) (fun H => SqT K H a xs ∧ SqT K H b ys) (YPair (fun i => xs[i]?) (fun i => ys[i]?)) := by
            refine ⟨fun i _ hi q => ?_, fun _ q => ⟨xs, ys, q.1, q.2, by omega⟩, fun i H v H' _ q y => ?_⟩
            · have h1 : i < xs.length := by omega
              have h2 : i < ys.length := by omega
              exact ⟨xs, ys, xs[i], ys[i], q.1, q.2, by simp [h1], by simp [h2]⟩
            · obtain ⟨T, x, z, h1, h2, h3, h4, h5⟩ := y
              exact ⟨T, x, z, h1, h2, h3, h4 xs q.1, h5 ys q.2⟩
          rw [l, ← k.length, ← k'.length]
          exact W.mono (fun H3 g => ⟨st_of (sub_of g.1.1).1, st_of (sub_of g.2.1).1⟩) fun _ _ _ _ _ _ y => y
        · rintro P i H3 x H4 hi ho ⟨⟨g1, g2⟩, g3, g4⟩ ⟨T, x1, x2, rfl, hT, hH, q1, q2⟩
          obtain ⟨d, h1, h2⟩ := g2.getV q1
          obtain ⟨d', h1', h2'⟩ := g4.getV q2
          obtain ⟨a1, a2⟩ := pair_new ho hT hH h2 h2'
          refine ⟨a1, _, ?_, a2⟩
          unfold zipD
          rw [List.getElem?_zipWith, h1, h1']
/-! isinstance -/
def tyN : PyData → String
  | .none => "NoneType" | .bool _ => "bool" | .int _ => "int" | .str _ => "str" | .list _ => "list" | .tuple _ => "tuple" | .dict _ => "dict"
def tyIs (a b : String) : Bool := a == b || (a == "bool" && b == "int")
theorem kit_all : ∀ a ∈ ["NoneType", "bool", "int", "str", "list", "tuple"], ∀ b ∈ ["bool", "int", "str", "list", "tuple"], kitB a b = some (tyIs a b) := by decide +kernel
theorem dq_ty {H : Hp} {v : V} (h : Dq H v d) : TyOf K H v (.type (tyN d)) ∧ tyN d ∈ ["NoneType", "bool", "int", "str", "list", "tuple"] := by
  cases h with
  | non => exact ⟨.non, by decide⟩
  | bl b => exact ⟨.bl b, by show "bool" ∈ _; decide⟩
  | int i => exact ⟨.int i, by show "int" ∈ _; decide⟩
  | str s => exact ⟨.str s, by show "str" ∈ _; decide⟩
  | lst a k => exact ⟨.lst a, by show "list" ∈ _; decide⟩
  | tup a k => exact ⟨.tup a, by show "tuple" ∈ _; decide⟩
theorem ed_isi {T : String} (h : EvD O n te ρ d) (hT : T ∈ ["bool", "int", "str", "list", "tuple"]) : EvD O n (tCB (rIsi K) (tCons te (tCons (tC (.ty T)) tNil))) ρ (.bool (tyIs (tyN d) T)) := fun σ H hn s Q q => h σ H hn s _ fun v H1 e1 d1 => by
  obtain ⟨h1, h2⟩ := dq_ty (K := K) d1.up
  exact ⟨v, .ty T, _, _, _, rfl, .ty T, .base h1, kit_ty (kit_all _ h2 _ hT), q _ H1 e1 (.bl _)⟩
theorem ed_isiT {T U : String} (h : EvD O n te ρ d) (hT : T ∈ ["bool", "int", "str", "list", "tuple"]) (hU : U ∈ ["bool", "int", "str", "list", "tuple"]) :
    EvD O n (tCB (rIsiT K) (tCons te (tCons (tTup (tCons (tC (.ty T)) (tCons (tC (.ty U)) tNil))) tNil))) ρ (.bool (tyIs (tyN d) T || tyIs (tyN d) U)) := fun σ H hn s Q q => h σ H hn s _ fun v H1 e1 d1 => by
  refine ⟨by show 2 ≤ sizeLine; decide, fun p hp => ?_⟩
  obtain ⟨h1, h2⟩ := dq_ty (K := K) (d1.up.mono (Ex.new hp (o := .tup [.ty T, .ty U])))
  have e0 : Ex H1 (upd H1 p (.tup [.ty T, .ty U])) := Ex.new hp
  refine ⟨v, p, _, _, _, (tyIs (tyN d) T || tyIs (tyN d) U), rfl, upd_same, .cons (.ty T) (.cons (.ty U) .nil), .base h1, ?_, q _ _ (e1.trans e0) (.bl _)⟩
  refine kitAny_cons (kit_ty (kit_all _ h2 _ hT)) (fun z => kitAny_cons (kit_ty (kit_all _ h2 _ hU)) (fun z' => ?_) (fun z' => ?_)) (fun z => ?_)
  · rw [z, z']
    exact kitAny_nil
  · rw [z, z']
    rfl
  · rw [z]
    rfl
/-! == and != of truths, of None, of like things -/
theorem rd_neb {a b : Bool} : RD O rNe (.bool a) (.bool b) (.bool (!decide (a = b))) := fun H v w _ h1 h2 Q q => by
  cases h1; cases h2
  refine ⟨rfl, ?_⟩
  have e : decide (V.bl a = V.bl b) = decide (a = b) := by cases a <;> cases b <;> rfl
  rw [e]
  exact q _ H (Ex.refl H) (.bl _)
theorem rd_eqb {a b : Bool} : RD O rEq (.bool a) (.bool b) (.bool (decide (a = b))) := fun H v w _ h1 h2 Q q => by
  cases h1; cases h2
  refine ⟨rfl, ?_⟩
  have e : decide (V.bl a = V.bl b) = decide (a = b) := by cases a <;> cases b <;> rfl
  rw [e]
  exact q _ H (Ex.refl H) (.bl _)
theorem rd_eqN : RD O rEq .none .none (.bool true) := fun H v w _ h1 h2 Q q => by
  cases h1; cases h2
  exact ⟨rfl, q _ H (Ex.refl H) (.bl _)⟩
/-! sorted(.., reverse = True); xs[::-1] -/
theorem ed_sortedRev {b : Bool} {ns zs : List Int} (h : EvD O n te ρ (.list (dI ns))) (hp : zs.Perm ns) (hz : OrdB b zs) : EvD O n (tCKw (rSortedKw K b [.bl b]) (tCons te tNil) (tCons (tC (.bl b)) tNil)) ρ (.list (dI zs)) := fun σ H hn s Q q => h σ H hn s _ fun v H1 e1 d1 => by
  cases d1 with
  | lst a k =>
    have e := ints_dq k
    subst e
    refine ⟨_, ns, rfl, rfl, sq_of (sub_of a).1, fun ns' p p1 p2 hp' => ?_⟩
    have e2 : ns' = zs := by
      cases b with
      | false => exact PySem.W.ksm_same (p1.trans hp.symm) p2 hz
      | true =>
        have r1 : ns'.reverse.Pairwise (· ≤ ·) := List.pairwise_reverse.mpr p2
        have r2 : zs.reverse.Pairwise (· ≤ ·) := List.pairwise_reverse.mpr hz
        have e3 := PySem.W.ksm_same (((List.reverse_perm ns').trans (p1.trans hp.symm)).trans (List.reverse_perm zs).symm) r1 r2
        exact List.reverse_inj.mp e3
    subst e2
    exact q _ _ (e1.trans (Ex.new hp')) (.lst (sub_mk upd_same (not_own (own_ex e1 s.own) hp')) (dq_ints _))
theorem ed_revL (h : EvD O n te ρ (.list ds)) : EvD O n (tRevL K te) ρ (.list ds.reverse) := fun σ H hn s Q q => h σ H hn s _ fun v H1 e1 d1 => by
  cases d1 with
  | lst a k => exact ⟨_, _, rfl, sq_of (sub_of a).1, fun p hp => q _ _ (e1.trans (Ex.new hp)) (.lst (sub_mk upd_same (not_own (own_ex e1 s.own) hp)) (k.reverse.mono (Ex.o O (Ex.new hp))))⟩
end
/-! ### what like data the law's own compare takes -/
def okD : Nat → PyData → Prop
  | 0, _ => False
  | n + 1, .list xs => xs.length ≤ 1000 ∧ ∀ y, y ∈ xs → okD n y
  | n + 1, .tuple xs => xs.length ≤ 1000 ∧ ∀ y, y ∈ xs → okD n y
  | _ + 1, .dict _ => False
  | _ + 1, _ => True
def R_same (n : Nat) (ds : List PyData) (d : PyData) : Prop := ∃ x, okD n x ∧ ds = [x, x] ∧ d = .bool true
theorem none_left {P : Program} {w : World} {K : PySem.W.Frag} {mg : Str → Option Value} {base : Heap} {f : Addr} {fd : FuncData} {ps : List Str} {R : List PyData → PyData → Prop} (no : ∀ ds d, ¬ R ds d) : FnOk P w K mg base CX0 0 f fd ps (spD R) :=
  ⟨fun vs H Q E h => by
    obtain ⟨_, ds, d, _, _, hR, _⟩ := h
    exact absurd hR (no ds d), fun A outer s H args us vs Q E _ _ _ _ h => by
    obtain ⟨_, ds, d, _, _, hR, _⟩ := h
    exact absurd hR (no ds d)⟩
end DL
namespace DL
open PySem L2 Evl PyProof.Rows TL
/-! ### numbers as texts -/
/-- a number as it is written -/
def numS (n : Int) : Str := Str.ofString (toString n)
theorem numS_tl {n : Int} (h : 0 ≤ n) : (numS n).cps.toList = numL n.toNat := by
  obtain ⟨k, rfl⟩ := Int.eq_ofNat_of_zero_le h
  exact tl_num k
theorem digit_ok : ∀ d : Fin 10, Unicode.isDigit (48 + d.val) = true := by decide +kernel
theorem isDigit_of {c : Nat} (h : 48 ≤ c ∧ c ≤ 57) : Unicode.isDigit c = true := by
  have e := digit_ok ⟨c - 48, by omega⟩
  have q : 48 + (c - 48) = c := by omega
  rw [show 48 + (⟨c - 48, by omega⟩ : Fin 10).val = c from q] at e
  exact e
theorem str_len (x : Str) : x.length = x.cps.toList.length := rfl
theorem all_cps {x : Str} {p : Nat → Bool} (h : ∀ c, c ∈ x.cps.toList → p c = true) : x.cps.all p = true := by
  rw [← Array.all_toList]
  exact List.all_eq_true.mpr h
theorem numS_digit {n : Int} (h : 0 ≤ n) : Txt.isdigit (numS n) = true := by
  unfold Txt.isdigit
  have e := numS_tl h
  have l : (numS n).length > 0 := by
    rw [str_len, e]
    exact List.length_pos_iff.mpr (numL_ne _)
  rw [all_cps (p := Unicode.isDigit) fun c hc => ?_, decide_eq_true l]
  · rfl
  · rw [e] at hc
    exact isDigit_of (numL_digits _ c hc)
theorem numS_ascii {n : Int} (h : 0 ≤ n) : Txt.isascii (numS n) = true := by
  unfold Txt.isascii
  refine all_cps fun c hc => ?_
  rw [numS_tl h] at hc
  have q := numL_digits _ c hc
  exact decide_eq_true (by omega)
theorem numS_int {n : Int} (h : 0 ≤ n) (hb : n < 10 ^ 40) : intText? (numS n) = some n ∧ (numS n).length ≤ 40 := by
  obtain ⟨k, rfl⟩ := Int.eq_ofNat_of_zero_le h
  have hk : k < 10 ^ 40 := by
    have e : ((10 : Int) ^ 40) = ((10 ^ 40 : Nat) : Int) := by decide
    omega
  have hl : (numL k).length ≤ 40 := numL_len (by decide) hk
  refine ⟨int_num (by omega), ?_⟩
  rw [str_len, numS_tl h]
  exact hl
/-- the first digit -/
theorem numL_head : ∀ n : Nat, 0 < n → ∃ c r, numL n = c :: r ∧ 49 ≤ c := fun n => by
  induction n using Nat.strongRecOn with
  | _ n ih =>
    intro hn
    by_cases h : n < 10
    · exact ⟨48 + n, [], numL_lt h, by omega⟩
    · obtain ⟨c, r, e, q⟩ := ih (n / 10) (by omega) (by omega)
      refine ⟨c, r ++ [48 + n % 10], ?_, q⟩
      rw [numL_step (by omega), e]
      rfl
theorem numS_zero : numS 0 = ("0" : Str) := by decide +kernel
theorem str_ext {x y : Str} (h : x.cps.toList = y.cps.toList) : x = y := by
  obtain ⟨a⟩ := x
  obtain ⟨b⟩ := y
  exact congrArg Str.mk (Array.toList_inj.mp h)
theorem numS_ne0 {n : Int} (h : 0 < n) : numS n ≠ ("0" : Str) := fun z => by
  obtain ⟨c, r, e, q⟩ := numL_head n.toNat (by omega)
  have e2 := numS_tl (n := n) (by omega)
  rw [z, e] at e2
  have e3 : ("0" : Str).cps.toList = [48] := by decide +kernel
  rw [e3] at e2
  have := (List.cons.inj e2).1
  omega
theorem starts0 {x : Str} {c : Nat} {r : List Nat} (e : x.cps.toList = c :: r) (h : c ≠ 48) : Txt.startswith x ("0" : Str) = false := by
  unfold Txt.startswith
  have hx : x.cps = (c :: r).toArray := by rw [← e]
  have l0 : ("0" : Str).length = 1 := by decide +kernel
  have c0 : ("0" : Str).cps = #[48] := by decide +kernel
  have s0 : Builtin.Str.subAt x ("0" : Str) 0 = false := by
    unfold Builtin.Str.subAt
    rw [l0, c0, hx]
    refine beq_eq_false_iff_ne.mpr fun z => h ?_
    have z2 := congrArg Array.toList z
    simp at z2
    exact z2
  rw [s0, Bool.and_false]
theorem numS_inj {m n : Int} (hm : 0 ≤ m) (hn : 0 ≤ n) (h : numS m = numS n) : m = n := by
  have e := congrArg (fun x : Str => x.cps.toList) h
  simp only [numS_tl hm, numS_tl hn] at e
  have := numL_inj e
  omega
theorem numS_free {n : Int} {s : Nat} (h : 0 ≤ n) (hs : s < 48 ∨ 57 < s) : s ∉ (numS n).cps.toList := by
  rw [numS_tl h]
  exact numL_free hs
end DL
namespace DL
open PySem L2 Evl PyProof.Rows TL RZ
/-! ### unpacking a list or a tuple -/
def gSeq (K : PySem.W.Frag) (n : Nat) (t : TGs) : TG := fun v σ H Q => gTup K n t v σ H Q ∨ gUnl K n t v σ H Q
theorem pg_seq {X : Cx} {es : List Expr} {k : Nat} {t : TGs} {n : Nat} {pos : Pos} (hc : X.calm = true) (h : PGs X es t)
    (hn : (assignEach es X.env).length = n := by rfl) (hst : (assignEach es X.env).findIdx? (·.1) = none := by rfl) : PG X (.Tuple es k pos) (gSeq X.K n t) := by
  refine ⟨fun pins s σ H v u Q I r hw => ?_⟩
  rcases hw with hw | hw
  · exact (pg_tup hc h hn hst).run pins s σ H v u Q I r hw
  · exact (pg_unl hc h hn hst).run pins s σ H v u Q I r hw
section
variable {O : List Addr} {n : Nat} {ρ ρ' : Rho} {ta tb te to : TE} {x y z d : PyData} {K : PySem.W.Frag} {ds es zs : List PyData} {vs : List Nat} {wi : TI} {g : TG}
theorem tg_seq {m : Nat} {gs : TGs} (hs : SeqD x ds) (h : TgsD O n vs gs ρ ds ρ') (hm : ds.length = m) : TgD O n vs (gSeq K m gs) ρ x ρ' := fun σ H v hn s hd Q q => by
  cases hs with
  | lst =>
    cases hd with
    | lst a k => exact .inr ⟨_, _, rfl, sq_of (sub_of a).1, by rw [k.length]; exact hm, h.run σ H _ hn s k Q q⟩
  | tup =>
    cases hd with
    | tup a k => exact .inl ⟨_, _, rfl, st_of (sub_of a).1, by rw [k.length]; exact hm, h.run σ H _ hn s k Q q⟩
theorem rc_lenS (hs : SeqD x ds) : RDC O (rLen K) [x] (.int ds.length) := by
  cases hs with
  | lst => exact rc_lenL
  | tup => exact rc_lenT
/-- a comprehension over data of one kind to data of one kind -/
theorem ed_lcM {α β : Type} {e1 : α → PyData} {e2 : β → PyData} {f : α → β} {l : List α} (hw : IterD O n wi ρ (l.map e1)) (hl : l.length ≤ 100000)
    (h : ∀ D a, a ∈ l → ∃ ρ', TgD (D :: O) n vs g (wipeR ρ vs) (e1 a) ρ' ∧ EvD (D :: O) n te ρ' (e2 (f a))) : EvD O n (tLc wi g tYes te vs) ρ (.list ((l.map f).map e2)) := by
  refine ed_lc hw (by rw [List.length_map]; exact hl) fun D => ?_
  rw [List.map_map]
  exact All2.of fun a ha => h D a ha
end
theorem sum_le {c : Nat} : ∀ {xs : List Str}, (∀ x, x ∈ xs → x.length ≤ c) → (xs.map (·.length)).sum ≤ c * xs.length
  | [], _ => by simp
  | x :: xs, h => by
    have h1 := h x (List.mem_cons_self ..)
    have h2 := sum_le (xs := xs) fun y hy => h y (List.mem_cons_of_mem _ hy)
    rw [List.map_cons, List.sum_cons, List.length_cons, Nat.mul_succ]
    omega
theorem pow40 : ((10 : Int) ^ 40) = 10000000000000000000000000000000000000000 := by decide
theorem log_ok {n : Int} (h0 : 0 ≤ n) (h : n < 10 ^ 40) : n.natAbs.log2 < 1920 := by
  have e : n.natAbs < 2 ^ 1919 := by
    have q : n.natAbs < 10000000000000000000000000000000000000000 := by rw [pow40] at h; omega
    exact Nat.lt_of_lt_of_le q (by decide)
  by_cases z : n.natAbs = 0
  · rw [z]; decide
  · exact Nat.lt_trans ((Nat.log2_lt z).mpr e) (by decide)
/-- deep: each tuple a list -/
def lstD : PyData → PyData
  | .list xs => .list (lstAll xs)
  | .tuple xs => .list (lstAll xs)
  | d => d
where lstAll : List PyData → List PyData
  | [] => []
  | x :: xs => lstD x :: lstAll xs
def R_lists (n : Nat) (ds : List PyData) (d : PyData) : Prop := ∃ x, okD n x ∧ ds = [x] ∧ d = lstD x
theorem lstAll_map : ∀ xs : List PyData, lstD.lstAll xs = xs.map lstD
  | [] => rfl
  | x :: xs => by
    show lstD x :: lstD.lstAll xs = _
    rw [lstAll_map xs]
    rfl
end DL
namespace DL
open PySem L2 Evl PyProof.Rows TL RZ
theorem lay_ints : ∀ ns : List Int, PyData.canLayAll0 (dI ns) = true ∧ PyData.depthAll (dI ns) = 0
  | [] => ⟨rfl, rfl⟩
  | n :: ns => by
    obtain ⟨h1, h2⟩ := lay_ints ns
    constructor
    · show (PyData.canLay0 (.int n) && PyData.canLayAll0 (dI ns)) = true
      rw [h1]
      rfl
    · show max (PyData.depth (.int n)) (PyData.depthAll (dI ns)) = 0
      rw [h2]
      rfl
theorem shaped_ints {x : PyData} {ns : List Int} (h : SeqD x (dI ns)) : SeqAt.shaped x = true := by
  obtain ⟨h1, h2⟩ := lay_ints ns
  unfold SeqAt.shaped
  cases h with
  | lst =>
    show (PyData.canLayAll0 (dI ns) && decide (PyData.depthAll (dI ns) + 1 ≤ 64)) = true
    rw [h1, h2]
    rfl
  | tup =>
    show (PyData.canLayAll0 (dI ns) && decide (PyData.depthAll (dI ns) + 1 ≤ 64)) = true
    rw [h1, h2]
    rfl
theorem eqv_ints {x : PyData} {ns : List Int} (h : SeqD x (dI ns)) : PyData.eqv x x = true := by
  refine SeqAt.eqv_refl x ?_
  cases h with
  | lst => exact (lay_ints ns).1
  | tup => exact (lay_ints ns).1
theorem all_true {α : Type} {f : α → Bool} : ∀ {l : List α}, (∀ a, a ∈ l → f a = true) → (l.map f).all id = true
  | [], _ => rfl
  | a :: l, h => by
    rw [List.map_cons, List.all_cons, h a (List.mem_cons_self ..), all_true fun b hb => h b (List.mem_cons_of_mem _ hb)]
    rfl
end DL
namespace DL
open PySem L2 Evl PyProof.Rows TL RZ
theorem hu64 {k : Nat} {A : Around} (h : Room k A) : A.units + 64 < cLine := by
  have := h.un
  omega
theorem joinL_len (S : List Nat) : ∀ parts : List (List Nat), (joinL S parts).length ≤ (parts.map (·.length)).sum + parts.length * S.length
  | [] => by simp [joinL]
  | [p] => by simp [joinL]
  | p :: q :: r => by
    have ih := joinL_len S (q :: r)
    show (p ++ (S ++ joinL S (q :: r))).length ≤ _
    rw [List.length_append, List.length_append, List.map_cons, List.sum_cons, List.length_cons (a := p), Nat.succ_mul]
    omega
theorem Txt_join_len (y : Str) (xs : List Str) : (Txt.join y xs).length ≤ (xs.map (·.length)).sum + xs.length * y.length := by
  rw [join_eq]
  have e : (Str.join y xs).length = (joinL (tl y) (xs.map tl)).length := by
    rw [← tl_join]
    rfl
  rw [e]
  have q := joinL_len (tl y) (xs.map tl)
  rw [List.length_map, List.map_map] at q
  exact q
end DL
namespace DL
open PySem L2 PyProof.Rows TL RZ
theorem zip_same (xs : List PyData) : zipD xs xs = xs.map fun y => PyData.tuple [y, y] := by
  unfold zipD
  induction xs with
  | nil => rfl
  | cons x xs ih =>
    rw [List.zipWith_cons_cons, ih]
    rfl
theorem okD_flat {n : Nat} {x : PyData} (h : okD n x) (h1 : ∀ xs, x ≠ .list xs) (h2 : ∀ xs, x ≠ .tuple xs) : ∀ m, 0 < m → okD m x := fun m hm => by
  cases m with
  | zero => omega
  | succ m =>
    cases n with
    | zero => exact h.elim
    | succ n =>
      cases x with
      | list xs => exact absurd rfl (h1 xs)
      | tuple xs => exact absurd rfl (h2 xs)
      | dict kvs => exact h.elim
      | none => trivial
      | bool b => trivial
      | int i => trivial
      | str s => trivial
/-! ### the law's box of draws, at p: three numbers; at most c draws so far -/
def Box (p : Addr) (c : Nat) (H : Hp) : Prop := ∃ b0 b1 b2 : Int, H p = some (.lst [.int b0, .int b1, .int b2]) ∧ 0 ≤ b0 ∧ 0 ≤ b1 ∧ b1 < 2 ^ 62 ∧ 0 ≤ b2 ∧ b2 ≤ c
theorem Box.mono {p : Addr} {c d : Nat} {H : Hp} (b : Box p c H) (h : c ≤ d) : Box p d H := by
  obtain ⟨b0, b1, b2, e, h0, h1, h2, h3, h4⟩ := b
  exact ⟨b0, b1, b2, e, h0, h1, h2, h3, by omega⟩
theorem Box.ex {p : Addr} {c : Nat} {H H' : Hp} (b : Box p c H) (h : Evl.Ex H H') : Box p c H' := by
  obtain ⟨b0, b1, b2, e, r⟩ := b
  exact ⟨b0, b1, b2, h _ _ e, r⟩
theorem Box.own {p : Addr} {c : Nat} {H : Hp} (b : Box p c H) : ∀ a, a ∈ [p] → H a ≠ none := fun a ha z => by
  obtain ⟨b0, b1, b2, e, _⟩ := b
  rw [List.mem_singleton.mp ha, e] at z
  cases z
/-- a draw below m -/
def spTake : Sp := fun vs H Q _ => ∃ (p : Addr) (c : Nat) (m : Int), vs = [.ref p, .int m] ∧ Box p c H ∧ c ≤ 1000000 ∧ 0 < m ∧ m.natAbs.log2 < 9000 ∧ ∀ (r : Int) (H' : Hp), 0 ≤ r → r < m → ExO [p] H H' → Box p (c + 1) H' → Q (.int r) H'
/-- one of the goods, drawn -/
def spOf : Sp := fun vs H Q _ => ∃ (p : Addr) (c : Nat) (x : V) (ds : List PyData), vs = [.ref p, x] ∧ Box p c H ∧ c ≤ 1000000 ∧ Dq (sub H [p]) x (.list ds) ∧ 0 < ds.length ∧ ds.length ≤ 1000 ∧
  ∀ (d : PyData) (v : V) (H' : Hp), d ∈ ds → Dq (sub H' [p]) v d → ExO [p] H H' → Box p (c + 1) H' → Q v H'
theorem rc1 {K : PySem.W.Frag} {σ : L2.St} {H : Hp} {te : TE} {i : Int} (h : Evl.Ev te σ H (.int i)) : Evl.Ev (tCB (fun xs H Q => (∃ i, xs = [.int i] ∧ Q (.int i) H) ∨ ∃ k, xs = [.bl k] ∧ Q (.int (if k then 1 else 0)) H) (tCons te tNil)) σ H (.int i) :=
  fun H1 e Q q => h H1 e _ fun H2 e2 => .inl ⟨i, rfl, q H2 e2⟩
theorem rcb {K : PySem.W.Frag} {σ : L2.St} {H : Hp} {te : TE} {b : Bool} (h : Evl.Ev te σ H (.bl b)) : Evl.Ev (tCB (fun xs H Q => (∃ i, xs = [.int i] ∧ Q (.int i) H) ∨ ∃ k, xs = [.bl k] ∧ Q (.int (if k then 1 else 0)) H) (tCons te tNil)) σ H (.int (if b then 1 else 0)) :=
  fun H1 e Q q => h H1 e _ fun H2 e2 => .inr ⟨b, rfl, q H2 e2⟩
theorem rabs {σ : L2.St} {H : Hp} {te : TE} {i : Int} (h : Evl.Ev te σ H (.int i)) : Evl.Ev (tCB (fun xs H Q => ∃ i, xs = [.int i] ∧ Q (.int (if i < 0 then -i else i)) H) (tCons te tNil)) σ H (.int (if i < 0 then -i else i)) :=
  fun H1 e Q q => h H1 e _ fun H2 e2 => ⟨i, rfl, q H2 e2⟩
end DL
namespace DL
open PySem L2 PyProof.Rows TL RZ
/-- the look of okD -/
def okB : Nat → PyData → Bool
  | 0, _ => false
  | n + 1, .list xs => decide (xs.length ≤ 1000) && xs.all (okB n)
  | n + 1, .tuple xs => decide (xs.length ≤ 1000) && xs.all (okB n)
  | _ + 1, .dict _ => false
  | _ + 1, _ => true
theorem okD_of : ∀ {n : Nat} {x : PyData}, okB n x = true → okD n x
  | 0, _, h => by cases h
  | n + 1, .list xs, h => by
    have h := Bool.and_eq_true_iff.mp h
    exact ⟨of_decide_eq_true h.1, fun y hy => okD_of (List.all_eq_true.mp h.2 y hy)⟩
  | n + 1, .tuple xs, h => by
    have h := Bool.and_eq_true_iff.mp h
    exact ⟨of_decide_eq_true h.1, fun y hy => okD_of (List.all_eq_true.mp h.2 y hy)⟩
  | _ + 1, .dict _, h => by cases h
  | _ + 1, .none, _ => trivial
  | _ + 1, .bool _, _ => trivial
  | _ + 1, .int _, _ => trivial
  | _ + 1, .str _, _ => trivial
theorem r_same {n : Nat} {x y : PyData} (e : x = y) (h : okD n y) : R_same n [x, y] (.bool true) := ⟨y, h, by rw [e], rfl⟩
theorem r_lists {n : Nat} {x : PyData} (h : okB n x = true) : R_lists n [x] (lstD x) := ⟨x, okD_of h, rfl, rfl⟩
/-- the ints of data -/
def unI : List PyData → List Int
  | .int i :: r => i :: unI r
  | _ => []
end DL
/-! The rules that name the written part, with it told (so that a reading within a block does not hang on the block). -/
namespace DL
open PySem L2 PyProof.Rows TL RZ
section
variable {X : Cx} {K : PySem.W.Frag}
theorem kLen (hK : X.K = K) : CallR X (.builtin "len") (rLen K) := by subst hK; exact call_len_seq
theorem kList (hK : X.K = K) : CallR X (.type "list") (rListOf K) := by subst hK; exact call_list_of
theorem kTuple (hK : X.K = K) : CallR X (.type "tuple") (rTupleOf K) := by subst hK; exact call_tuple_of
theorem kAll (hK : X.K = K) (hc : X.calm = true) : CallR X (.builtin "all") (rAll K) := by subst hK; exact cr_all hc
theorem kSum (hK : X.K = K) (hc : X.calm = true) : CallR X (.builtin "sum") (rSum K) := by subst hK; exact cr_sum hc
theorem kSorted (hK : X.K = K) : CallR X (.builtin "sorted") (rSortedI K) := by subst hK; exact cr_sortedI
theorem kSortedRev {b : Bool} (hK : X.K = K) : CallRK X (.builtin "sorted") [Str.ofString "reverse"] (rSortedKw K b [.bl b]) := by subst hK; exact cr_sortedRev
theorem kIsi (hK : X.K = K) : CallR X (.builtin "isinstance") (rIsi K) := by subst hK; exact call_isi
theorem kIsiT (hK : X.K = K) : CallR X (.builtin "isinstance") (rIsiT K) := by subst hK; exact call_isiT
theorem kIxL (hK : X.K = K) : IxR X (rIxL K) := by subst hK; exact ix_list
theorem kIxT (hK : X.K = K) : IxR X (rIxT K) := by subst hK; exact ix_tup
theorem kSlL (hK : X.K = K) : SlR X (rSlL K) := by subst hK; exact sl_list
theorem kSlA (hK : X.K = K) : SlR X (rSlA K) := by subst hK; exact sl_tupA
theorem kEqD (hK : X.K = K) (hu : X.A.units + 64 < cLine) : OpR X (compareOp .Eq) (rEqD K) := by subst hK; exact op_eqD hu
theorem kNeD (hK : X.K = K) (hu : X.A.units + 64 < cLine) : OpR X (compareOp .NotEq) (rNeD K) := by subst hK; exact op_neD hu
theorem kIn (hK : X.K = K) : OpR X (compareOp .In) (rIn K false) := by subst hK; exact op_in_seq
theorem kNotIn (hK : X.K = K) : OpR X (compareOp .NotIn) (rIn K true) := by subst hK; exact op_notIn_seq
theorem kCatA (hK : X.K = K) : OpR X (binaryOp .Add) (rCatA K) := by subst hK; exact op_catA
theorem kRepT (hK : X.K = K) : OpR X (binaryOp .Mult) (rRepT K) := by subst hK; exact op_repT
end
section
variable {X : Cx} {K : PySem.W.Frag} {tg l e e2 o a b : Expr} {tl te to ta tb : TE} {t : TA} {pos p apos tpos : Pos} {elts es rest : List Expr} {kk : Nat}
theorem kiList (hK : X.K = K) (hl : PE X l tl) : PI X tg l (iList K tl) := by subst hK; exact pi_list hl
theorem kiTup (hK : X.K = K) (hl : PE X l tl) : PI X tg l (iTup K tl) := by subst hK; exact pi_tup hl
theorem kiSeq (hK : X.K = K) (hl : PE X l tl) : PI X tg l (iSeq K tl) := by subst hK; exact pi_seq hl
theorem kiEnum (hK : X.K = K) (hg : Gl X "enumerate") (hm : X.mg "enumerate" = none) (ha : PA X [e] t) (hs : starEach [e] X.env = [(false, eval e X.env)] := by rfl) :
    PI X (.Tuple elts kk tpos) (.Call (.Name "enumerate" p) [e] [] pos) (iEnum K t) := by subst hK; exact pi_enum hg hm ha hs
theorem kiZip (hK : X.K = K) (hg : Gl X "zip") (hm : X.mg "zip" = none) (ha : PA X [e, e2] t) (hs : starEach [e, e2] X.env = (false, eval e X.env) :: starEach [e2] X.env := by rfl) (hpl : (backTo pos (starEach [e2] X.env)).any (·.1) = false := by rfl) :
    PI X (.Tuple elts kk tpos) (.Call (.Name "zip" p) [e, e2] [] pos) (iZip K t) := by subst hK; exact pi_zip hg hm ha hs hpl
theorem kiZipA (hK : X.K = K) (hg : Gl X "zip") (hm : X.mg "zip" = none) (ha : PA X [e, e2] t) (hs : starEach [e, e2] X.env = (false, eval e X.env) :: starEach [e2] X.env := by rfl) (hpl : (backTo pos (starEach [e2] X.env)).any (·.1) = false := by rfl) :
    PI X (.Tuple elts kk tpos) (.Call (.Name "zip" p) [e, e2] [] pos) (iZipA K t) := by subst hK; exact pi_zipA hg hm ha hs hpl
theorem kJoin (hK : X.K = K) (ho : PE X o to) (he : PE X e te) (hs : starEach [e] X.env = [(false, eval e X.env)] := by rfl) (hbase : attributeBase o "join" X.env (eval o X.env) = eval o X.env := by rfl) (hline : (apos.endLine == pos.line) = true := by rfl) :
    PE X (.Call (.Attribute o "join" apos) [e] [] pos) (tM1 (fun x xs H Q => ∃ a p, ∃ ys : List Str, x = .str a ∧ xs = [.ref p] ∧ (SqL K H p (ys.map V.str) ∨ SqT K H p (ys.map V.str)) ∧
      (ys.map (·.length)).sum + ys.length * a.length ≤ 16777216 ∧ Q (.str (Txt.join a ys)) H) to te) := by subst hK; exact pe_join ho he hs hbase hline
theorem kRev {k : Nat} {p1 p2 p3 : Pos} (hK : X.K = K) (he : PE X e te) : PE X (.Subscript e (.Slice none none (some (.UnaryOp .USub (.Constant (.int 1) k p1) p2)) p3) pos) (tRevL K te) := by subst hK; exact pe_revL he
theorem kOrT (hK : X.K = K) (ha : PE X a ta) (hb : PE X (.BoolOp .Or (b :: rest) pos) tb) : PE X (.BoolOp .Or (a :: b :: rest) pos) (tOrT K ta tb) := by subst hK; exact pe_orT ha hb
theorem kgTup {t : TGs} {n : Nat} (hK : X.K = K) (hc : X.calm = true) (h : PGs X es t) (hn : (assignEach es X.env).length = n := by rfl) (hst : (assignEach es X.env).findIdx? (·.1) = none := by rfl) : PG X (.Tuple es kk pos) (gTup K n t) := by subst hK; exact pg_tup hc h hn hst
theorem kgSeq {t : TGs} {n : Nat} (hK : X.K = K) (hc : X.calm = true) (h : PGs X es t) (hn : (assignEach es X.env).length = n := by rfl) (hst : (assignEach es X.env).findIdx? (·.1) = none := by rfl) : PG X (.Tuple es kk pos) (gSeq K n t) := by subst hK; exact pg_seq hc h hn hst
end
end DL
namespace DL
open PySem PySem.W PySem.Calls L2 PyProof.Rows TL RZ
open Builtin.Float (FormatSpec parseFormatSpec)
/-! ### a number with its sign ahead -/
/-- a number as it is written with its sign -/
def plusS (i : Int) : Str := if i < 0 then Str.ofString (toString i) else ("+" : Str) ++ Str.ofString (toString i)
def fPlus : FormatSpec := { align := 62, sign := some 43, type := some 100 }
theorem fPlus_ok : parseFormatSpec (Str.ofString "+d").cps.toList "int" 62 = .ok fPlus := by kernel_rfl
def fieldP (i : Int) : Str := intField' fPlus (decide (i < 0)) [] ((Nat.toDigits 10 i.natAbs).map fun c => (if (100 : Nat) == 88 then c.toUpper else c).toNat) [] 3
theorem field_tl (i : Int) : (fieldP i).cps.toList = (if i < 0 then 45 else 43) :: (Nat.toDigits 10 i.natAbs).map Char.toNat := by
  unfold fieldP intField' fPlus
  by_cases h : i < 0
  · simp [h]
  · simp [h]
theorem plus_meets {i : Int} {t : Tok} (hi : i.natAbs.log2 < 1920) (hz : (plusS i).length ≤ sizeLine) (e : fieldP i = plusS i) :
    ∀ u, Meets (Builtin.«int.__format__» ⟨[.int i t, .str (Str.ofString "+d") u], []⟩) (fun _ R s => ∀ t' k, R (.ok (.ret (.str (plusS i) t'))) { s with toks := k }) := by
  intro u
  apply KPc.meets_of
  intro prog w A s Q E k
  unfold Builtin.«int.__format__»
  refine wpAny_bind (wpAny_of_eq (a := (_, _)) rfl ?_)
  refine wpAny_bind (wpAny_of_eq (a := _) rfl ?_)
  kxf_if
  refine wpAny_bind (wpAny_typeNameOf (T := "str") (typeIs_str _ _ _) (by decide) fun _ => ?_)
  refine wpAny_bind (wpAny_of_eq (a := some _) rfl ?_)
  kxf_if
  kxf_if
  refine wpAny_bind (wpAny_typeNameOfCut_int ?_)
  rw [fPlus_ok]
  (repeat kxf_if)
  refine wpAny_bind (wpAny_of_eq (PySem.overDigitLimit_small hi) ?_)
  (repeat kxf_if)
  refine KXf.ret_text (T := plusS i) (Eq.trans ?_ e) ?_ k
  · rfl
  · show (fieldP i).length ≤ _
    rw [e]
    exact hz
end DL
namespace DL
open PySem PySem.W PySem.Calls L2 PyProof.Rows TL RZ NumText
theorem ofInt_tl (i : Int) : (Str.ofString (toString i)).cps.toList = if i < 0 then 45 :: numL i.natAbs else numL i.natAbs := by
  cases i with
  | ofNat k =>
    rw [if_neg (by exact Int.not_lt.mpr (Int.natCast_nonneg k))]
    exact tl_num k
  | negSucc k =>
    rw [if_pos (Int.negSucc_lt_zero k)]
    have e : toString (Int.negSucc k) = "-" ++ toString (k + 1) := rfl
    rw [e]
    have q := tl_ofString ("-" ++ toString (k + 1))
    unfold tl at q
    rw [q, String.toList_append, List.map_append]
    have q2 := tl_num (k + 1)
    have e2 : (toString (((k + 1 : Nat)) : Int)) = toString (k + 1) := rfl
    rw [e2, tl_ofString] at q2
    rw [q2]
    rfl
/-- the signs of a number that is written with its sign -/
def sigL (i : Int) : List Nat := (if i < 0 then 45 else 43) :: numL i.natAbs
theorem plusS_tl (i : Int) : (plusS i).cps.toList = sigL i := by
  unfold plusS sigL
  by_cases h : i < 0
  · rw [if_pos h, if_pos h, ofInt_tl, if_pos h]
  · rw [if_neg h, if_neg h]
    have e := tl_append ("+" : Str) (Str.ofString (toString i))
    unfold tl at e
    rw [e, ofInt_tl, if_neg h]
    have p0 : ("+" : Str).cps.toList = [43] := by decide +kernel
    rw [p0]
    rfl
theorem field_plus (i : Int) : fieldP i = plusS i := str_ext (by rw [field_tl, plusS_tl]; rfl)
theorem natAbs40 {i : Int} (h : -(10 ^ 40) < i ∧ i < 10 ^ 40) : i.natAbs < 10 ^ 40 := by
  have e := pow40
  have e2 : (10 ^ 40 : Nat) = 10000000000000000000000000000000000000000 := by decide
  rw [e] at h
  rw [e2]
  omega
theorem numL_len40 {i : Int} (h : -(10 ^ 40) < i ∧ i < 10 ^ 40) : (numL i.natAbs).length ≤ 40 := numL_len (by decide) (natAbs40 h)
theorem plusS_len {i : Int} (h : -(10 ^ 40) < i ∧ i < 10 ^ 40) : (plusS i).length ≤ 41 := by
  rw [str_len, plusS_tl]
  have := numL_len40 h
  show _ + 1 ≤ _
  omega
theorem log_abs {i : Int} (h : -(10 ^ 40) < i ∧ i < 10 ^ 40) : i.natAbs.log2 < 1920 := by
  have q := natAbs40 h
  have e2 : (10 ^ 40 : Nat) = 10000000000000000000000000000000000000000 := by decide
  rw [e2] at q
  have e : i.natAbs < 2 ^ 1919 := Nat.lt_of_lt_of_le q (by decide)
  by_cases z : i.natAbs = 0
  · rw [z]; decide
  · exact Nat.lt_trans ((Nat.log2_lt z).mpr e) (by decide)
/-- a number read back from its text with a sign -/
theorem int_plus {i : Int} (h : -(10 ^ 40) < i ∧ i < 10 ^ 40) : PySem.intText? (plusS i) = some i := by
  have hl := numL_len40 h
  have hv := numL_val i.natAbs
  by_cases n : i < 0
  · have hx : (plusS i).cps.toList = 45 :: numL i.natAbs := by
      rw [plusS_tl]
      unfold sigL
      rw [if_pos n]
    rw [intText_neg hx (numL_digits _) (numL_ne _) (by have := plusS_len h; omega), hv]
    exact congrArg some (by omega)
  · have hx : (plusS i).cps.toList = 43 :: numL i.natAbs := by
      rw [plusS_tl]
      unfold sigL
      rw [if_neg n]
    have dig := numL_digits i.natAbs
    have e1 : numTextOf (plusS i) = 43 :: numL i.natAbs := by
      rw [← hx]
      refine if_pos (all_cps fun c hc => ?_)
      rw [hx] at hc
      rcases List.mem_cons.mp hc with rfl | hc
      · decide
      · have := dig c hc
        exact decide_eq_true (by omega)
    have e2 : numSeenOf (plusS i) = 43 :: numL i.natAbs := by
      show (numTextOf (plusS i)).takeWhile _ = _
      rw [e1]
      refine takeWhile_all fun c hc => ?_
      rcases List.mem_cons.mp hc with rfl | hc
      · decide
      · have := dig c hc
        exact bne_iff_ne.mpr (by omega)
    have es : sign ((43 :: numL i.natAbs).dropWhile blank) = (false, numL i.natAbs) := by
      rw [dropWhile_of (by decide)]
      rfl
    have ec : core (43 :: numL i.natAbs) = numL i.natAbs := by
      unfold core
      rw [es]
      show ((numL i.natAbs).reverse.dropWhile blank).reverse = _
      rw [dropWhile_digits dig.reverse, List.reverse_reverse]
    unfold PySem.intText?
    rw [e1, e2, if_pos (beq_self_eq_true _), ec, es, digits_of dig (numL_ne _)]
    have hsz := push_size (numL i.natAbs) #[]
    have hw := push_foldl (numL i.natAbs) #[]
    dsimp only
    rw [if_pos (by rw [hsz]; simp only [Array.size_empty]; omega)]
    unfold digitsVal at hv
    unfold worth
    rw [hw]
    show some (((List.foldl (fun acc c => acc * 10 + (c - 48)) 0 (numL i.natAbs) : Nat) : Int)) = some i
    rw [hv]
    exact congrArg some (by omega)
/-! ### {x:+d} -/
def tPlus (te ts : TE) : TE := fun σ H Q => te σ H fun x H1 => ∃ i : Int, x = .int i ∧ i.natAbs.log2 < 1920 ∧ (plusS i).length ≤ 41 ∧ ts σ H1 fun y H2 => y = .str (Str.ofString "+d") ∧ Q (.str (plusS i)) H2
theorem pe_plus {X : Cx} {e se : Expr} {te ts : TE} {pos : Pos} (he : PE X e te) (hs : PE X se ts) : PE X (.FormattedValue e (-1) (some se) pos) (tPlus te ts) := by
  refine ⟨fun pins s σ H Q I h => ?_⟩
  refine wpAny_FormattedValue_spec (thn (he.run pins s σ H _ I h) fun v s1 hv => ?_)
  obtain ⟨x, H1, I1, r1, i, rfl, hi, hl, q⟩ := hv
  obtain ⟨t, rfl⟩ := r1
  refine thn (hs.run pins s1 σ H1 _ I1 q) fun v2 s2 hv2 => ?_
  obtain ⟨y, H2, I2, r2, rfl, q2⟩ := hv2
  obtain ⟨t2, rfl⟩ := r2
  refine ⟨_, _, rfl, ?_⟩
  exact KXf.field_int rfl (by decide +kernel) (by decide +kernel) (plus_meets hi (Nat.le_trans hl (by decide)) (field_plus i)) fun t' k => ⟨.str (plusS i), H2, I2.tok _, ⟨_, rfl⟩, q2⟩
section
variable {O : List Addr} {n : Nat} {ρ : Rho} {te ts : TE}
theorem ed_plus {i : Int} (h : EvD O n te ρ (.int i)) (h2 : EvD O n ts ρ (.str (Str.ofString "+d"))) (hi : -(10 ^ 40) < i ∧ i < 10 ^ 40) : EvD O n (tPlus te ts) ρ (.str (plusS i)) := fun σ H hn s Q q => h σ H hn s _ fun v H1 e1 d1 => by
  cases d1
  refine ⟨i, rfl, log_abs hi, plusS_len hi, h2 σ H1 hn (s.ex e1) _ fun v2 H2 e2 d2 => ?_⟩
  cases d2
  exact ⟨rfl, q _ H2 (e1.trans e2) (.str _)⟩
end
end DL
namespace DL
open PySem L2 Evl PyProof.Rows TL RZ
section
variable {O : List Addr} {n : Nat} {ρ ρ1 ρ' : Rho} {g : TG} {tb : TS} {ds : List PyData} {wi : TI} {vs : List Nat} {K : PySem.W.Frag}
theorem tg_is {d : PyData} (h : TgD O n vs g ρ d ρ1) (e : ρ1 = ρ') : TgD O n vs g ρ d ρ' := e ▸ h
theorem wipeR_length (ρ : Rho) : ∀ vs : List Nat, (wipeR ρ vs).length = ρ.length
  | [] => rfl
  | v :: vs => by
    show ((wipeR ρ vs).set v none).length = _
    rw [List.length_set]
    exact wipeR_length ρ vs
/-- a for over data: R by the turn -/
theorem rn_for (hw : IterD O n wi ρ ds) (R : Nat → Rho) (h0 : R 0 = ρ) (hs : ∀ i d, ds[i]? = some d → ∃ ρ', TgD O n vs g (R i) d ρ' ∧ RunN O n tb ρ' (R (i + 1))) :
    RunN O n (tFor wi g tb) ρ (R ds.length) := fun D σ H hn s k => hw σ H hn s _ fun J H1 G Y e1 W g1 gk yk => by
  refine for_it (W O) (fun i σ2 H2 => σ2.length = n ∧ Ex H1 H2 ∧ SD O H2 σ2 (R i)) ⟨hn, Ex.refl H1, by rw [h0]; exact s.ex e1⟩ (fun i σ2 H2 _ p => gk _ _ _ _ g1 (Ex.o O p.2.1)) ?_ ?_
  · rintro i x σ2 H2 H3 hi ⟨l2, x2, s2⟩ y
    obtain ⟨e3, d, hdi, hx⟩ := yk O i H2 x H3 hi s2.own (gk _ _ _ _ g1 (Ex.o O x2)) y
    obtain ⟨ρ', ht, hb⟩ := hs i d hdi
    refine ht σ2 H3 x l2 (s2.ex e3) hx _ fun σ' hl' _ s' => ?_
    exact hb _ σ' H3 hl' s' fun σ4 H4 hl4 e4 s4 => ⟨hl4, (x2.trans e3).trans e4, s4⟩
  · rintro σ2 H2 ⟨l2, x2, s2⟩
    exact k σ2 H2 l2 (e1.trans x2) s2
theorem flatD {H : Hp} {xs : List V} {ds : List PyData} (h : DqAll H xs ds) : ∀ k : Nat, DqAll H (List.replicate k xs).flatten (List.replicate k ds).flatten
  | 0 => .nil
  | k + 1 => by
    rw [List.replicate_succ, List.replicate_succ, List.flatten_cons, List.flatten_cons]
    exact h.append (flatD h k)
theorem rd_repT {xs : List PyData} {k : Int} (h : xs ≠ []) (hl : xs.length ≤ 1000) (h1 : 2 ≤ k) (h2 : k ≤ 1000) : RD O (rRepT K) (.tuple xs) (.int k) (.tuple (List.replicate k.toNat xs).flatten) := fun H v w ho a b Q q => by
  cases a with
  | tup a d =>
    cases b
    refine ⟨_, k, _, rfl, rfl, st_of (sub_of a).1, ?_, h1, h2, by rw [d.length]; exact hl, fun p hp => ?_⟩
    · intro z
      subst z
      cases d
      exact h rfl
    · exact q _ _ (Ex.new hp) (.tup (sub_mk upd_same (not_own ho hp)) ((flatD d _).mono (Ex.o _ (Ex.new hp))))
theorem rd_catT {xs ys : List PyData} (h : xs.length + ys.length ≤ 100000) : RD O (rCatA K) (.tuple xs) (.tuple ys) (.tuple (xs ++ ys)) := fun H v w ho a b Q q => by
  cases a with
  | tup a d =>
    cases b with
    | tup a2 d2 =>
      refine ⟨_, _, _, _, rfl, rfl, st_of (sub_of a).1, st_of (sub_of a2).1, sz_of (by rw [d.length, d2.length]; exact h), fun z => ?_, fun _ z => ?_, fun _ _ p hp => ?_⟩
      · subst z
        cases d
        exact q _ _ (Ex.refl H) (.tup a2 d2)
      · subst z
        cases d2
        exact q _ _ (Ex.refl H) (by rw [List.append_nil]; exact .tup a d)
      · exact q _ _ (Ex.new hp) (.tup (sub_mk upd_same (not_own ho hp)) ((d.append d2).mono (Ex.o _ (Ex.new hp))))
end
end DL
namespace DL
open PySem L2 PyProof.Rows TL RZ
/-! ### for all laws: new lists beside the law's box -/
theorem ExO_mut {O : List Addr} {H H' : Hp} {p : Addr} {o : HO} (e : ExO O H H') (h : sub H O p = none) : ExO O H (upd H' p o) := fun a u ha => by
  have q := e a u ha
  obtain ⟨q1, q2⟩ := sub_of q
  refine sub_mk ?_ q2
  rw [upd_ne (ne_of_none ha h)]
  exact q1
theorem fresh_o {O : List Addr} {H H' : Hp} {p : Addr} (e : ExO O H H') (h : H' p = none) : sub H O p = none := by
  cases z : sub H O p with
  | none => rfl
  | some o =>
    have q := (sub_of (e p o z)).1
    rw [h] at q
    cases q
theorem tYes_go {σ : L2.St} {H : Hp} {A B : Hp → Prop} (h : A H) : tYes σ H fun b H3 => if b = true then A H3 else B H3 := by
  show if true = true then A H else B H
  rw [if_pos rfl]
  exact h
theorem sd_none {O : List Addr} {H : Hp} {σ : L2.St} (ho : ∀ a, a ∈ O → H a ≠ none) (k : Nat) : SD O H σ (List.replicate k none) := ⟨ho, fun i d h => by
  rw [List.getElem?_replicate] at h
  split at h <;> cases h⟩
theorem sort_ex (ns : List Int) : ∃ zs : List Int, zs.Perm ns ∧ zs.Pairwise (· ≤ ·) := by
  refine ⟨ns.mergeSort (fun a b => decide (a ≤ b)), List.mergeSort_perm _ _, ?_⟩
  have q := List.pairwise_mergeSort (le := fun (a b : Int) => decide (a ≤ b)) (fun a b c h1 h2 => by simp at *; omega) (fun a b => by simp; omega) ns
  exact q.imp fun h => by simpa using h
theorem run_go {O : List Addr} {n : Nat} {ts : TS} {ρ : Rho} {d : PyData} {D : Ends} {σ : L2.St} {H : Hp} (h : RunR O n ts ρ d) (hn : σ.length = n) (sd : SD O H σ ρ) (k : ∀ v H', Evl.Ex H H' → Dq (sub H' O) v d → D.rt v H') : ts D σ H := h D σ H hn sd k
/-- a drawn case comes out right -/
def spCase : Sp := fun vs H Q _ => ∃ (p : Addr) (c : Nat), vs = [.ref p] ∧ Box p c H ∧ c ≤ 900 ∧ ∀ H', ExO [p] H H' → Box p (c + 30) H' → Q (.bl true) H'
/-- all cases of a box -/
def spRight : Sp := fun vs H Q _ => ∃ (p : Addr), vs = [.ref p] ∧ Box p 0 H ∧ ∀ H', ExO [p] H H' → Q (.bl true) H'
/-- the law's box, made of a cell -/
def spBox (K : PySem.W.Frag) : Sp := fun vs H Q _ => ∃ (a : Addr) (cs : List Int) (j : Int), vs = [.ref a, .int j] ∧ SqL K H a (cs.map V.int) ∧ 0 ≤ j ∧ j ≤ 2 ∧ ∀ (p : Addr) (H' : Hp), H p = none → Evl.Ex H H' → Box p 0 H' → Q (.ref p) H'
theorem abs_pos (i : Int) : 0 ≤ (if i < 0 then -i else i) := by split <;> omega
/-- the cells of the script: one to three -/
def spCells (K : PySem.W.Frag) : Sp := fun vs H Q _ => ∃ (a : Addr) (ns : List Int), vs = [.ref a, .int 3] ∧ SqL K H a (ns.map V.int) ∧ ns.length ≤ 63 ∧
  ∀ (p : Addr) (cs : List Int) (H' : Hp), H p = none → Evl.Ex H H' → H' p = some (.lst (cs.map V.int)) → 1 ≤ cs.length → cs.length ≤ 3 → Q (.ref p) H'
theorem cut_map (ns : List Int) (lo hi : Option Int) : cutV (ns.map V.int) lo hi = ((ns.drop (HT.sIx ns.length 0 lo)).take (HT.sIx ns.length ns.length hi - HT.sIx ns.length 0 lo)).map V.int := by
  unfold cutV
  rw [List.length_map, List.map_take, List.map_drop]
end DL
/-! DX: own exceptions with one field: made, raised, caught, and kept as a value behind the suite that caught them. -/
namespace DL
open PySem PySem.Spec L2 PyProof.Rows
/-- an exception that was caught, held as a value: its class and its own dict -/
def exk (a : Addr) (cls : Value) (d : Option Addr) : HO := .ext fun h => ∃ oe : Obj, h.get? a = some oe ∧ Zc cls d oe ∧ ∃ vs, oe.data = .fields vs
theorem exk_ok {P : Program} {w : World} {H : Hp} {h : Heap} {a : Addr} {cls : Value} {d : Option Addr} {oe : Obj} {vs : Array Value} (e : h.get? a = some oe) (z : Zc cls d oe) (f : oe.data = .fields vs) : ObjOk P w H h a (exk a cls d) :=
  ⟨⟨oe, e, z, vs, f⟩, ⟨oe, e⟩, fun _ _ ⟨u, p, q⟩ k => ⟨u, k u p, q⟩⟩
theorem exk_at {P : Program} {w : World} {H : Hp} {h : Heap} {a : Addr} {cls : Value} {d : Option Addr} (hok : HOk P w H h) (ha : H a = some (exk a cls d)) : ∃ oe : Obj, h.get? a = some oe ∧ Zc cls d oe ∧ ∃ vs, oe.data = .fields vs := by
  have x : ObjOk P w H h a (.ext fun h => ∃ oe : Obj, h.get? a = some oe ∧ Zc cls d oe ∧ ∃ vs, oe.data = .fields vs) := hok a _ ha
  exact x.1
section
variable {X : Cx} {pins : List (Addr × Obj)} {σ : L2.St} {H : Hp} {s : Shared} {a : Addr} {o : HO}
/-- an object that is there but was not told of is told of from now on -/
theorem track (I : Inv X pins σ H s) (na : H a = none) (n0 : X.s_0.heap.get? a = none) (np : ∀ p ∈ X.pn ++ pins, p.1 ≠ a) (nL : a ≠ X.env.locals)
    (nC : ∀ x c, X.env.cells.lookup x = some c → c ≠ a) (new : ObjOk X.prog X.w (upd H a o) s.heap a o) : Inv X pins σ (upd H a o) s where
  ok := I.ok
  os := I.os
  bare := I.bare
  base :=
    { keep := I.base.keep
      slot := I.base.slot
      there := I.base.there
      free := fun b u q n hx => by
        have nb : b ≠ a := fun z => by
          rw [z, n0] at q
          cases q
        rw [upd_ne nb]
        exact I.base.free b u q n hx
      tups := fun b xs q => by
        have t := I.base.tups b xs q
        rw [upd_ne (ne_of_none t na)]
        exact t
      frzs := fun b u x q => by
        have t := I.base.frzs b u x q
        rw [upd_ne (ne_of_none t na)]
        exact t
      tbls := fun b ps q => by
        obtain ⟨m, t⟩ := I.base.tbls b ps q
        refine ⟨m, ?_⟩
        rw [upd_ne (ne_of_none t na)]
        exact t }
  loc := I.loc
  cell := I.cell
  free := by
    rw [upd_ne (Ne.symm nL)]
    exact I.free
  freeC := fun x c e => by
    rw [upd_ne (nC x c e)]
    exact I.freeC x c e
  pin := fun p hp => by
    obtain ⟨p1, p2, p3⟩ := I.pin p hp
    refine ⟨p1, ?_, p3⟩
    rw [upd_ne (np p hp)]
    exact p2
  hok := I.hok.laidN (fun _ _ q => q) na new
  len := I.len
/-- what 'except x as n' wishes where each exception of the body is the clause's and the suite goes on: behind it the exception stays told of -/
def wKeep (K : PySem.W.Frag) (c : Value) (i : Nat) (ts : Addr → Value → Option Addr → TS) (D : Ends) : WX := fun cls d σ H =>
  PySem.W.exmOne K cls c = some true ∧ ∀ a, H a = none →
    ts a cls d { nx := fun σ' H' => H' a = none → D.nx (σ'.set i none) (upd H' a (exk a cls d)), rt := fun _ _ => False } (σ.set i (some (.ref a))) H
end
section
variable {X : Cx} {x n : Str} {c : Value} {i : Nat} {body suite : List Stmt} {b₀ : Stmt} {np pos pos' : Pos} {tb : WX → TS} {ts : Addr → Value → Option Addr → TS}
theorem ps_try_keep (hs : X.stack = X.env :: X.outer) (hf : X.env.frame = some X.env.locals) (hex : X.ex = []) (hN : X.N.Nodup) (hi : X.N[i]? = some n)
    (hln : X.env.kindOf n = some .local) (hc : Names X x c)
    (hb : ∀ (W : WX) (pn : List (Addr × Obj)) (xe : Value → Shared → Prop), Takes (X.tr pn xe) W → PassesOwn (model X.prog X.w) X.A X.env xe → PSs (X.tr pn xe) body (tb W))
    (hsu : ∀ (a : Addr) (oe : Obj) (cls : Value) (d : Option Addr) (pn : List (Addr × Obj)), Zc cls d oe → (∃ vs, oe.data = .fields vs) → PSs (X.suite a ((a, oe) :: pn)) (b₀ :: suite) (ts a cls d)) :
    PS X (.Try body [.ExceptHandler (some (.Name x np)) (some n) (b₀ :: suite) pos'] [] [] pos) (fun D σ H => tb (wKeep X.K c i ts D) D σ H) := by
  refine ⟨fun pins s σ H D I h => ?_⟩
  have ok := I.ok
  have frames : X.A.frames = some (X.env :: X.outer) := by
    rw [ok.frames, hs]
  refine wpAny_Try_except ?_
  refine wpAny_mono ((hb (wKeep X.K c i ts D) (X.pn ++ pins)
    (fun e s₁ => wpAny (model X.prog X.w) X.A (noteFrame e X.env) (fun _ s₂ => wpAny (model X.prog X.w) X.A (setFlight e none)
      (fun _ s₃ => wpAny (model X.prog X.w) X.A (handleBy e X.env [.ExceptHandler (some (.Name x np)) (some n) (b₀ :: suite) pos']) (SP X pins D) X.xe s₃) X.xe s₂) X.xe s₁)
    (fun u s' xx => ?_) PassesOwn.looking).run [] s σ H D (I.toTry _) h) (fun f s1 hsp => ?_) (fun e s1 he => he)
  · obtain ⟨a, B, sI, pins', σ', H', cls, d, rfl, J', nb, up, sky, na, os, ag, hone, hyes⟩ := xx
    have J : Inv X pins σ' H' sI := J'.ofTry ok
    rw [show (X.tr (X.pn ++ pins) _).stack = X.env :: X.outer from hs] at sky
    show wpAny (model X.prog X.w) X.A (noteFrame (.ref a) X.env) _ _ _
    refine Sky.land Zc.steady frames hf sky fun h3 fl3 up3 => ?_
    have J3 : Inv X pins σ' H' { s' with heap := h3 } := J.landed nb fl3.1 (up.trans up3) os ag
    obtain ⟨oe3, vs3, he3, hz3, hd3⟩ := fl3.there
    have away : ∀ {h : Heap} {ob : Obj} {vs : Array Value}, h.FunFrames B (X.env :: X.outer) → h.get? a = some ob → ob.data = .fields vs → a ∉ frs (X.env :: X.outer) := by
      intro h ob vs ff e dd hm
      obtain ⟨_, ob', e', no⟩ := ff.mem hm
      rw [e] at e'
      cases e'
      exact no _ dd
    have nfr := away fl3.2.2.1 he3 hd3
    have nL : a ≠ X.env.locals := by
      intro z
      refine nfr (List.mem_filterMap.mpr ⟨X.env, List.mem_cons_self, ?_⟩)
      rw [hf, z]
    have nF : a ∉ X.fs := by
      intro hm
      obtain ⟨e, he, q⟩ := List.mem_filterMap.mp hm
      exact nfr (List.mem_filterMap.mpr ⟨e, List.mem_cons_of_mem _ he, q⟩)
    -- the exception is new: nothing of what stood ahead of it lies there
    have nI : sI.heap.get? a = none := by
      cases e : sI.heap.get? a with
      | none => rfl
      | some ob =>
        have z := nb a ob e (by rw [show (X.tr (X.pn ++ pins) _).stack = X.env :: X.outer from hs]; exact nfr)
        rw [fl3.2.1] at z
        cases z
    have n0 : X.s_0.heap.get? a = none := by
      cases e : X.s_0.heap.get? a with
      | none => rfl
      | some ob =>
        obtain ⟨ob', q⟩ := J.base.there a ob e (by rw [hex]; exact List.not_mem_nil)
        rw [nI] at q
        cases q
    have npin : ∀ p ∈ X.pn ++ pins, p.1 ≠ a := by
      intro p hp z
      have q := (J.pin p hp).1
      rw [z, nI] at q
      cases q
    have ncell : ∀ y k, X.env.cells.lookup y = some k → k ≠ a := by
      intro y k e z
      obtain ⟨v, ob, q, _⟩ := J.cell y k e
      rw [z, nI] at q
      cases q
    have S3 := J3.suite he3 hd3 na nL nF
    refine wpAny_handleBy_cons (codeAny_handlers_test ?_) (by intro q; cases q)
    have looks : PySem.W.Looks (model X.prog X.w) h3 (typeOf (.ref a)) cls := by
      intro A Q E s k q
      refine wpAny_typeOf_ref (k _ _ he3) ?_
      rw [hz3.1]
      exact q
    have one := PySem.W.exm_one (M := model X.prog X.w) (J3.kIn) looks hone
    have test : ∀ {Q : Value → Shared → Prop} {E : Value → Shared → Prop}, Q c { s' with heap := h3 } → wpAny (model X.prog X.w) (X.A.mark (some (.ref a))) (eval (.Name x np) X.env) Q E { s' with heap := h3 } := by
      intro Q E q
      obtain ⟨g1, g2, g3 | ⟨g3, g4, g5⟩⟩ := hc
      · exact ld_glob (X := X.suite a ((a, oe3) :: (X.pn ++ pins))) S3 g1 g3 q g2
      · exact ld_blt (X := X.suite a ((a, oe3) :: (X.pn ++ pins))) S3 g1 g3 g4 q g5 g2
    refine test (one.here ?_)
    refine codeAny_handlers_suite_as ?_
    refine HandSPX.lands_againZ fl3 fun h4 fl4 up4 => ?_
    have J4 : Inv X pins σ' H' { s' with heap := h4 } := J.landed nb fl4.1 ((up.trans up3).trans up4) os ag
    obtain ⟨oe4, vs4, he4, hz4, hd4⟩ := fl4.there
    have S4 := J4.suite he4 hd4 na nL nF
    refine store_ok (X := X.suite a ((a, oe4) :: (X.pn ++ pins))) (v := .ref a) S4 hN hi (.inl hln) rfl (fun s5 S5 => ?_) (.inr hln)
    have go := (hsu a oe4 cls d (X.pn ++ pins) hz4 ⟨_, hd4⟩).run [] s5 _ H' _ S5 (hyes a na)
    refine wpAny_mono go (fun f s6 hsp => ?_) (fun _ _ z => False.elim z)
    cases f with
    | next =>
      obtain ⟨σ6, H6, S6, q6⟩ := hsp
      obtain ⟨e6, n6, _⟩ := S6.pin (a, oe4) (List.mem_append_left _ List.mem_cons_self)
      have T6 := track (S6.unsuite ok) n6 n0 npin nL ncell (exk_ok (cls := cls) (d := d) e6 hz4 hd4)
      exact gone_ok T6 hN hi hln fun s7 J7 => ⟨_, _, J7, q6 n6⟩
    | brk =>
      obtain ⟨σ6, H6, S6, q6⟩ := hsp
      exact q6.elim
    | cont =>
      obtain ⟨σ6, H6, S6, q6⟩ := hsp
      exact q6.elim
    | ret u =>
      obtain ⟨v6, σ6, H6, S6, r6, q6⟩ := hsp
      exact q6.elim
  · cases f with
    | ret u =>
      obtain ⟨v, σ', H', J', r, q⟩ := hsp
      exact ⟨v, σ', H', J'.ofTry ok, r, q⟩
    | next =>
      obtain ⟨σ', H', J', q⟩ := hsp
      exact wpAny_execs_nil ⟨σ', H', J'.ofTry ok, q⟩
    | brk =>
      obtain ⟨σ', H', J', q⟩ := hsp
      exact ⟨σ', H', J'.ofTry ok, q⟩
    | cont =>
      obtain ⟨σ', H', J', q⟩ := hsp
      exact ⟨σ', H', J'.ofTry ok, q⟩
end
end DL
namespace DL
open PySem L2 Evl PyProof.Rows TL RZ
/-- what the written part says of an own exception class x at C with an __init__ at fI that keeps one field f -/
structure ErrC (K : PySem.W.Frag) (mg : Str → Option Value) (x : Str) (C fI : Addr) (f : Str) : Prop where
  gC : mg x = some (.ref C)
  cls : OexC K C
  ga : PySem.W.findIn K (.ref C) "__getattribute__" = some (some (.builtin "BaseException.__getattribute__"))
  gg : PySem.W.findIn K (.ref C) "__getattr__" = some none
  noN : PySem.W.findIn K (.ref C) f = some none
  iC : PySem.W.findIn K (.ref C) "__init__" = some (some (.ref fI))
  tC : PySem.W.typeIn K (.ref fI) = some (.type "function")
  hdC : PySem.W.hasDictIn K C = true
  te : PySem.W.exmOne K (.ref C) (.ref C) = some true
/-- an exception of the class is what the clause names -/
theorem exm_self {K : PySem.W.Frag} {S : Addr} (b : PySem.W.subIn K (.ref S) (.type "BaseException") = some true) (i : PySem.W.isClsIn K S = true)
    (t : PySem.W.typeIn K (.ref S) = some (.type "type")) (u : PySem.W.subIn K (.ref S) (.ref S) = some true) : PySem.W.exmOne K (.ref S) (.ref S) = some true := by
  have i2 : (PySem.W.clsIn K S).isSome = true := i
  have a1 : (PySem.W.subIn K (.ref S) (.type "BaseException") == some true) = true := by
    rw [b]
    rfl
  unfold PySem.W.exmOne
  rw [if_pos a1]
  have a2 : ((PySem.W.clsIn K S).isSome && PySem.W.typeIn K (.ref S) == some (.type "type")) = true := by
    rw [i2, t]
    rfl
  show (if _ then _ else _) = _
  rw [if_pos a2]
  exact u
/-- __init__(self, v): self.f = v -/
def spInit (C : Addr) (f : Str) : Sp := fun vs H Q _ => ∃ (a : Addr) (v : V), vs = [.ref a, v] ∧ H a = some (exo a C none) ∧
  ∀ dx, H dx = none → dx ≠ a → Q .non (upd (upd H dx (exd dx [(f, v)])) a (exo a C (some dx)))
/-- raise C(e) -/
def tRz (C : Addr) (f : Str) (W : WX) (ta : TA) : TS := fun _ σ H => tMkO C (spInit C f) [] ta σ H fun cls d H' => W cls d σ H'
theorem ps_rz {X : Cx} {K : PySem.W.Frag} {mg : Str → Option Value} {x f : Str} {C fI : Addr} {fd : FuncData} {W : WX} {k : Nat} {e : Expr} {es : List Expr} {ta : TA} {p pos pos2 : Pos} {ps : List Str}
    (hK : X.K = K) (hmg : X.mg = mg) (T : ErrC K mg x C fI f) (F1 : FnOk X.prog X.w X.K X.mg X.base CX0 k fI fd ps (spInit C f)) (hb : Binds K fd ps []) (hc : X.calm = true) (hr : Room (k + 1) X.A) (tk : Takes X W)
    (hg : Gl X x) (ha : PA X (e :: es) ta) (hdb : (x == ("__debug__" : Str)) = false := by decide) (he : starEach (e :: es) X.env = (false, eval e X.env) :: starEach es X.env := by rfl) (hpl : (backTo pos (starEach es X.env)).any (·.1) = false := by rfl) :
    PS X (.Raise (some (.Call (.Name x p) (e :: es) [] pos)) none pos2) (tRz C f W ta) := by
  subst hK
  subst hmg
  exact ps_raise hc tk (pmk_oex (dvs := []) T.cls T.iC T.tC F1 hr hb .nil (fun _ _ _ _ _ _ _ z => z.elim) hg T.gC ha hdb he hpl)
section
variable {O : List Addr} {n : Nat} {ρ ρ1 ρ' : Rho} {t u : TS} {tt : TT} {te : TE} {ta : TA} {C : Addr} {f : Str} {E : XK} {k : Int} {ds : List PyData} {d : PyData} {wi : TI} {g : TG} {vs : List Nat} {tb : TS}
/-- what is wanted where C with f = k is raised -/
def Out (C : Addr) (f : Str) (H : Hp) (E : XK) (k : Int) : Prop := ∀ (dd : Addr) (H' : Hp), Ex H H' → H dd = none → H' dd = some (.xd [(f, V.int k)]) → E (.ref C) (some dd) H'
theorem Out.ex {H H1 : Hp} (o : Out C f H E k) (e : Ex H H1) : Out C f H1 E k := fun dd H' e2 n2 h2 => by
  refine o dd H' (e.trans e2) ?_ h2
  cases z : H dd with
  | none => rfl
  | some u =>
    rw [e dd u z] at n2
    cases n2
/-- a statement that raises -/
def RunE (O : List Addr) (n : Nat) (C : Addr) (f : Str) (E : XK) (t : TS) (ρ : Rho) (k : Int) : Prop := ∀ (D : Ends) (σ : L2.St) (H : Hp), σ.length = n → SD O H σ ρ → Out C f H E k → t D σ H
theorem re_raise (h : EvDA O n ta ρ [.int k]) : RunE O n C f E (tRz C f (fun cls d _ H => E cls d H) ta) ρ k := fun D σ H hn s q => h σ H hn s _ fun vs H1 e1 d1 => by
  cases d1 with
  | cons a r =>
    cases a
    cases r
    refine ⟨by show 1 ≤ 1000; decide, fun a na => ⟨a, .int k, rfl, upd_same, fun dx ndx hne => ⟨rfl, dx, [(f, .int k)], upd_same, ?_, ?_, ?_⟩⟩⟩
    · rw [upd_ne hne]
      exact upd_same
    · rw [upd_ne hne] at ndx
      exact ndx
    · have nd : H1 dx = none := by
        rw [upd_ne hne] at ndx
        exact ndx
      refine q dx _ ?_ ?_ upd_same
      · refine e1.trans fun y o hy => ?_
        have ya : y ≠ a := ne_of_none hy na
        have yd : y ≠ dx := ne_of_none hy nd
        rw [upd_ne yd, del_ne ya, upd_ne ya, upd_ne yd, upd_ne ya]
        exact hy
      · cases z : H dx with
        | none => rfl
        | some u =>
          rw [e1 dx u z] at nd
          cases nd
theorem re_seq (h1 : RunN O n t ρ ρ1) (h2 : RunE O n C f E u ρ1 k) : RunE O n C f E (tSeq t u) ρ k := fun D σ H hn s q =>
  h1 _ σ H hn s fun σ' H' hn' e' s' => h2 D σ' H' hn' s' (q.ex e')
theorem re_fst (h1 : RunE O n C f E t ρ k) : RunE O n C f E (tSeq t u) ρ k := fun D σ H hn s q => h1 _ σ H hn s q
theorem re_when {b : Bool} (h : EvDT O n tt ρ b) (h1 : b = true → RunE O n C f E t ρ k) (h2 : b = false → RunE O n C f E u ρ k) : RunE O n C f E (tSeq (tIfS tt t tNext) u) ρ k := fun D σ H hn s q => h σ H hn s _ fun H1 e1 => by
  cases b with
  | true => exact iteT (h1 rfl _ σ H1 hn (s.ex e1) (q.ex e1))
  | false => exact iteF (h2 rfl D σ H1 hn (s.ex e1) (q.ex e1))
theorem re_if {b : Bool} (h : EvDT O n tt ρ b) (h1 : b = true → RunE O n C f E t ρ k) (h2 : b = false → RunE O n C f E u ρ k) : RunE O n C f E (tIfS tt t u) ρ k := fun D σ H hn s q => h σ H hn s _ fun H1 e1 => by
  cases b with
  | true => exact iteT (h1 rfl D σ H1 hn (s.ex e1) (q.ex e1))
  | false => exact iteF (h2 rfl D σ H1 hn (s.ex e1) (q.ex e1))
/-- a for that is left by what the m-th turn raises -/
theorem re_for {m : Nat} (hw : IterD O n wi ρ ds) (R : Nat → Rho) (h0 : R 0 = ρ) (hm : m < ds.length) (hs : ∀ i d, i < m → ds[i]? = some d → ∃ ρ', TgD O n vs g (R i) d ρ' ∧ RunN O n tb ρ' (R (i + 1)))
    (hx : ∀ d, ds[m]? = some d → ∃ ρ', TgD O n vs g (R m) d ρ' ∧ RunE O n C f E tb ρ' k) : RunE O n C f E (tFor wi g tb) ρ k := fun D σ H hn s q => hw σ H hn s _ fun J H1 G Y e1 W g1 gk yk => by
  refine for_it (W O) (fun i σ2 H2 => i ≤ m ∧ σ2.length = n ∧ Ex H1 H2 ∧ SD O H2 σ2 (R i)) ⟨Nat.zero_le _, hn, Ex.refl H1, by rw [h0]; exact s.ex e1⟩ (fun i σ2 H2 _ p => gk _ _ _ _ g1 (Ex.o O p.2.2.1)) ?_ ?_
  · rintro i x σ2 H2 H3 hi ⟨im, l2, x2, s2⟩ y
    obtain ⟨e3, d, hdi, hx3⟩ := yk O i H2 x H3 hi s2.own (gk _ _ _ _ g1 (Ex.o O x2)) y
    by_cases c : i = m
    · subst c
      obtain ⟨ρ', ht, hb⟩ := hx d hdi
      refine ht σ2 H3 x l2 (s2.ex e3) hx3 _ fun σ' hl' _ s' => ?_
      exact hb _ σ' H3 hl' s' (q.ex ((e1.trans x2).trans e3))
    · obtain ⟨ρ', ht, hb⟩ := hs i d (by omega) hdi
      refine ht σ2 H3 x l2 (s2.ex e3) hx3 _ fun σ' hl' _ s' => ?_
      exact hb _ σ' H3 hl' s' fun σ4 H4 hl4 e4 s4 => ⟨by omega, hl4, (x2.trans e3).trans e4, s4⟩
  · rintro σ2 H2 ⟨im, l2, x2, s2⟩
    exact absurd hm (by omega)
/-- an expression that raises -/
def EvE (O : List Addr) (n : Nat) (C : Addr) (f : Str) (te : TE) (ρ : Rho) (k : Int) (E : L2.St → XK) : Prop := ∀ (σ : L2.St) (H : Hp), σ.length = n → SD O H σ ρ → Out C f H (E σ) k → ∀ Q, te σ H Q
end
/-- a def that answers or raises -/
def spDX (C : Addr) (f : Str) (R : List PyData → PyData ⊕ Int → Prop) : Sp := fun vs H Q E => ∃ (O : List Addr) (ds : List PyData) (r : PyData ⊕ Int), (∀ a, a ∈ O → H a ≠ none) ∧ DqAll (sub H O) vs ds ∧ R ds r ∧
  match r with
  | .inl d => ∀ v H', Ex H H' → Dq (sub H' O) v d → Q v H'
  | .inr k => Out C f H E k
section
variable {P : Program} {w : World} {K : PySem.W.Frag} {mg : Str → Option Value} {base : Heap} {C : Addr} {g : Str}
theorem pure_okX {R : List PyData → PyData ⊕ Int → Prop} {x qual : Str} {st : Stmt} {f : Addr} {fd : FuncData} {N ps : List Str} {k : Nat} (F : Fun K x qual st f fd) (S : FnScope N ps (defScope st)) (hl : ∀ ds d, R ds d → ds.length = ps.length) (hp : ps.length ≤ N.length)
    (body : ∀ (cdv : Value) (A : Around) (outer : List Env) (s : Shared) (H : Hp) (E : XK), Room k (A.deeper (envOfC qual (defScope st) s.heap.objs.size f cdv)) →
      ∃ t, PSs (cxOf (L2.CX P w) P w K mg base N qual (defScope st) f cdv A outer s H E) (defBody st) t ∧ ∀ O ds r, R ds r → match r with
        | .inl d => RunR O N.length t (argR N ds) d
        | .inr k => RunE O N.length C g E t (argR N ds) k) : FnOk P w K mg base (L2.CX P w) (k + 1) f fd ps (spDX C g R) := by
  refine F.okX S (fun vs H Q E h => ?_) (fun cdv A outer s H vs Q E hr h => ?_)
  · obtain ⟨O, ds, r, _, hd, hR, _⟩ := h
    rw [hd.length]
    exact hl ds r hR
  · obtain ⟨t, ht, hb⟩ := body cdv A outer s H E hr
    obtain ⟨O, ds, r, ho, hd, hR, q⟩ := h
    have len : (L2.start N vs).length = N.length := start_len (by rw [hd.length, hl ds r hR]; exact hp)
    refine ⟨t, ht, ?_⟩
    have b := hb O ds r hR
    cases r with
    | inl d => exact b _ (L2.start N vs) H len (sd_start ho hd) q
    | inr k => exact b _ (L2.start N vs) H len (sd_start ho hd) q
end
section
variable {O : List Addr} {n : Nat} {ρ : Rho} {C : Addr} {f : Str} {R : List PyData → PyData ⊕ Int → Prop} {ds : List PyData} {d : PyData} {k : Int} {tr : TA} {E : L2.St → XK} {ta tb : TE}
theorem ed_callX (h : EvDA O n tr ρ ds) (hR : R ds (.inl d)) : EvD O n (tCallS (spDX C f R) E tr) ρ d := fun σ H hn s Q q =>
  h σ H hn s _ fun vs H1 e1 d1 => ⟨O, ds, .inl d, own_ex e1 s.own, d1, hR, fun v H2 e2 d2 => q v H2 (e1.trans e2) d2⟩
theorem ee_call (h : EvDA O n tr ρ ds) (hR : R ds (.inr k)) : EvE O n C f (tCallS (spDX C f R) E tr) ρ k E := fun σ H hn s q Q =>
  h σ H hn s _ fun vs H1 e1 d1 => ⟨O, ds, .inr k, own_ex e1 s.own, d1, hR, q.ex e1⟩
/-- a pair whose second one raises -/
theorem ee_tup2 {u : PyData} (h1 : EvD O n ta ρ u) (h2 : EvE O n C f tb ρ k E) : EvE O n C f (tTup (tCons ta (tCons tb tNil))) ρ k E := fun σ H hn s q Q =>
  h1 σ H hn s _ fun v H1 e1 d1 => h2 σ H1 hn (s.ex e1) (q.ex e1) _
theorem re_ret {E : XK} {te : TE} (h : EvE O n C f te ρ k (fun _ => E)) : RunE O n C f E (tRet te) ρ k := fun D σ H hn s q => h σ H hn s q _
end
/-! ### a kept exception's field -/
def tKept (C : Addr) (f : Str) (te : TE) : TE := fun σ H Q => te σ H fun x H1 => ∃ (a dd : Addr) (v : V), x = .ref a ∧ H1 a = some (exk a (.ref C) (some dd)) ∧ H1 dd = some (.xd [(f, v)]) ∧ Q v H1
theorem pe_kept {X : Cx} {K : PySem.W.Frag} {mg : Str → Option Value} {x f : Str} {C fI : Addr} {e : Expr} {te : TE} {pos : Pos} (hK : X.K = K) (T : ErrC K mg x C fI f) (he : PE X e te)
    (hb : attributeBase e f X.env (eval e X.env) = eval e X.env := by rfl) : PE X (.Attribute e f pos) (tKept C f te) := by
  subst hK
  refine ⟨fun pins s σ H Q I h => attr_of hb (thn (he.run pins s σ H _ I h) fun u s1 hh => ?_)⟩
  obtain ⟨z, H1, I1, rz, a, dd, v, ez, ea, ed, q⟩ := hh
  subst ez
  obtain rfl : u = Value.ref a := rz
  obtain ⟨oe, ha, hz, fs, hd⟩ := exk_at I1.hok ea
  have hx : ObjOk X.prog X.w H1 s1.heap dd (.xd [(f, v)]) := I1.hok dd _ ed
  obtain ⟨mA, hns, hr⟩ := hx
  obtain ⟨od, ho, hl⟩ := lookIn_ns hns
  have l : List.lookup f [(f, v)] = some v := by simp [List.lookup]
  obtain ⟨u, hu, ru⟩ := RelO.some_of (v := v) (o := mA f) (by rw [← l]; exact hr f)
  have J : PySem.W.InstAt s1.heap a oe C (some od) := ⟨ha, hz.1, by unfold PySem.W.notCls; rw [hd] <;> rfl, by rw [hz.2]; exact ho⟩
  exact HandSPX.exc_get I1.kIn J T.ga T.gg T.cls.exC (PySem.W.findObj_own T.hdC T.noN rfl (by rw [hl, hu])) (handed_of ru) ⟨v, H1, I1.tok _, ru, q⟩
end DL
namespace DL
open PySem L2 PyProof.Rows TL
section
variable {X : Cx} {e b : Expr} {es : List Expr} {te tb : TE} {t : TA} {x : Str} {j : Nat} {p pos : Pos} {op : Operator} {r : R2}
/-- written items, the first of them made with a written text: behind it a token is out -/
theorem pa_first (ho : OpR X (binaryOp op) r) (hb : PE X b tb) (hr : PAT X es t) (hs : starEach (.BinOp (.Constant (.str x) j p) op b pos :: es) X.env = (false, eval (.BinOp (.Constant (.str x) j p) op b pos) X.env) :: starEach es X.env := by rfl) :
    PA X (.BinOp (.Constant (.str x) j p) op b pos :: es) (tCons (tOp r (tC (.str x)) tb) t) := by
  refine ⟨fun pos2 pins s σ H Q I h => ?_⟩
  rw [hs]
  show wpAny _ _ (spliced ((false, eval (.BinOp (.Constant (.str x) j p) op b pos) X.env) :: backTo pos2 (starEach es X.env))) _ _ s
  refine Calls.spliced_cons (wpAny_BinOp (Calls.Constant_str ?_))
  refine wpAny_mono (PySem.wpAny_toks_of (n := 1) (show 1 ≤ s.toks + 1 by omega) (hb.run pins { s with toks := s.toks + 1 } σ H _ (I.tok _) h)) (fun u s2 q => ?_) fun _ _ z => z.2
  obtain ⟨h2, y, H2, I2, r2, q2⟩ := q
  refine wpAny_mono (PySem.wpAny_toks_of h2 (ho pins s2 σ H2 (.str x) y (.str x s.toks) u _ I2 ⟨_, rfl⟩ r2 q2)) (fun w s3 q => ?_) fun _ _ z => z.2
  obtain ⟨h3, z, H3, I3, r3, q3⟩ := q
  exact thn (hr pos2 pins s3 σ H3 _ h3 I3 q3) fun us s4 ⟨xs, H4, I4, r4, q4⟩ => ⟨z :: xs, H4, I4, .cons r3 r4, q4⟩
end
/-! ### the signs of pieces -/
theorem joinL_snoc {S : List Nat} : ∀ {a : List (List Nat)} {b : List Nat}, a ≠ [] → joinL S (a ++ [b]) = joinL S a ++ (S ++ b)
  | [], _, h => absurd rfl h
  | [p], b, _ => rfl
  | p :: q :: r, b, _ => by
    show p ++ (S ++ joinL S (q :: (r ++ [b]))) = (p ++ (S ++ joinL S (q :: r))) ++ (S ++ b)
    rw [show q :: (r ++ [b]) = (q :: r) ++ [b] from rfl, joinL_snoc (by simp)]
    simp only [List.append_assoc]
theorem mem_joinL {S : List Nat} {c : Nat} : ∀ {a : List (List Nat)}, c ∈ joinL S a → c ∈ S ∨ ∃ p, p ∈ a ∧ c ∈ p
  | [], h => by cases h
  | [p], h => .inr ⟨p, List.mem_singleton.mpr rfl, h⟩
  | p :: q :: r, h => by
    have h' : c ∈ p ++ (S ++ joinL S (q :: r)) := h
    rcases List.mem_append.mp h' with h1 | h1
    · exact .inr ⟨p, List.mem_cons_self, h1⟩
    · rcases List.mem_append.mp h1 with h2 | h2
      · exact .inl h2
      · rcases mem_joinL h2 with h3 | ⟨x, hx, hc⟩
        · exact .inl h3
        · exact .inr ⟨x, List.mem_cons_of_mem _ hx, hc⟩
/-- a sign of a text that isn't the blank stands in one of its pieces -/
theorem in_piece {s : Str} {c : Nat} (h : c ∈ s.cps.toList) (h32 : c ≠ 32) : ∃ p, p ∈ Txt.split s (" " : Str) ∧ c ∈ p.cps.toList := by
  have e := PySem.StrLaws.join_split s (" " : Str)
  have t := tl_join (" " : Str) (Txt.split s (" " : Str))
  rw [e] at t
  have ey : tl (" " : Str) = [32] := by decide +kernel
  rw [ey] at t
  have h' : c ∈ joinL [32] ((Txt.split s (" " : Str)).map tl) := by
    rw [← t]
    exact h
  rcases mem_joinL h' with h1 | ⟨q, hq, hc⟩
  · exact absurd (List.mem_singleton.mp h1) h32
  · obtain ⟨p, hp, rfl⟩ := List.mem_map.mp hq
    exact ⟨p, hp, hc⟩
end DL
namespace K04
open PySem L2 PyProof.Rows DL TL RZ
def top (i : Nat) : Stmt := PySem.Challenge.pw_allbutts_k04_wrong_texts_of_swings_and_h.main.body.getD i (.Pass ⟨0, 0, 0, 0⟩)
abbrev s_is_number_text : Stmt := top 4
abbrev N_is_number_text : List Str := ["text"]
theorem sc_is_number_text : FnScope N_is_number_text ["text"] (defScope s_is_number_text) := ⟨rfl, rfl, rfl, by decide +kernel, rfl, by decide +kernel, by decide +kernel⟩
abbrev s_is_size_text : Stmt := top 5
abbrev N_is_size_text : List Str := ["text"]
theorem sc_is_size_text : FnScope N_is_size_text ["text"] (defScope s_is_size_text) := ⟨rfl, rfl, rfl, by decide +kernel, rfl, by decide +kernel, by decide +kernel⟩
abbrev s_swings_from : Stmt := top 7
abbrev N_swings_from : List Str := ["text", "pieces", "swings", "piece"]
theorem sc_swings_from : FnScope N_swings_from ["text"] (defScope s_swings_from) := ⟨rfl, rfl, rfl, by decide +kernel, rfl, by decide +kernel, by decide +kernel⟩
abbrev s_heap_from : Stmt := top 8
abbrev N_heap_from : List Str := ["text", "wants", "_", "swings"]
theorem sc_heap_from : FnScope N_heap_from ["text"] (defScope s_heap_from) := ⟨rfl, rfl, rfl, by decide +kernel, rfl, by decide +kernel, by decide +kernel⟩
abbrev s__law_box : Stmt := top 10
abbrev N__law_box : List Str := ["_law_script", "_law_k", "_law_cell"]
theorem sc__law_box : FnScope N__law_box ["_law_script", "_law_k"] (defScope s__law_box) := ⟨rfl, rfl, rfl, by decide +kernel, rfl, by decide +kernel, by decide +kernel⟩
abbrev s__law_take : Stmt := top 11
abbrev N__law_take : List Str := ["_law_box_here", "_law_size_so", "_law_some", "_law_once", "_law_far", "_law_again"]
theorem sc__law_take : FnScope N__law_take ["_law_box_here", "_law_size_so"] (defScope s__law_take) := ⟨rfl, rfl, rfl, by decide +kernel, rfl, by decide +kernel, by decide +kernel⟩
abbrev s__law_cells : Stmt := top 12
abbrev N__law_cells : List Str := ["_law_script", "_law_top_so", "_law_cells_so", "_law_k", "_law_cell", "_law_at_so"]
theorem sc__law_cells : FnScope N__law_cells ["_law_script", "_law_top_so"] (defScope s__law_cells) := ⟨rfl, rfl, rfl, by decide +kernel, rfl, by decide +kernel, by decide +kernel⟩
abbrev s__law_of : Stmt := top 13
abbrev N__law_of : List Str := ["_law_box_here", "_law_goods_so"]
theorem sc__law_of : FnScope N__law_of ["_law_box_here", "_law_goods_so"] (defScope s__law_of) := ⟨rfl, rfl, rfl, by decide +kernel, rfl, by decide +kernel, by decide +kernel⟩
abbrev s__law_same : Stmt := top 14
abbrev N__law_same : List Str := ["_law_got", "_law_due", "_law_mine", "_law_its"]
theorem sc__law_same : FnScope N__law_same ["_law_got", "_law_due"] (defScope s__law_same) := ⟨rfl, rfl, rfl, by decide +kernel, rfl, by decide +kernel, by decide +kernel⟩
abbrev s__law_falling : Stmt := top 15
abbrev N__law_falling : List Str := ["_law_box_here", "_law_most_so", "_law_sizes_so", "_law_found", "_law_turn"]
theorem sc__law_falling : FnScope N__law_falling ["_law_box_here", "_law_most_so"] (defScope s__law_falling) := ⟨rfl, rfl, rfl, by decide +kernel, rfl, by decide +kernel, by decide +kernel⟩
abbrev s__law_fall_words : Stmt := top 16
abbrev N__law_fall_words : List Str := ["_law_fall_so", "_law_own"]
theorem sc__law_fall_words : FnScope N__law_fall_words ["_law_fall_so"] (defScope s__law_fall_words) := ⟨rfl, rfl, rfl, by decide +kernel, rfl, by decide +kernel, by decide +kernel⟩
abbrev s__law_heard : Stmt := top 17
abbrev N__law_heard : List Str := ["_law_flat", "_law_is_heap_so", "_law_caught", "_law_told_so", "error_so"]
theorem sc__law_heard : FnScope N__law_heard ["_law_flat", "_law_is_heap_so"] (defScope s__law_heard) := ⟨rfl, rfl, rfl, by decide +kernel, rfl, by decide +kernel, by decide +kernel⟩
abbrev s__law_by_hand_right : Stmt := top 18
abbrev N__law_by_hand_right : List Str := ["_law_wrong", "_law_got", "_law_ill_so", "_law_flat"]
theorem sc__law_by_hand_right : FnScope N__law_by_hand_right [] (defScope s__law_by_hand_right) := ⟨rfl, rfl, rfl, by decide +kernel, rfl, by decide +kernel, by decide +kernel⟩
abbrev s__law_case_right : Stmt := top 19
abbrev N__law_case_right : List Str := ["_law_box_here", "_law_fall_so", "_law_wants_so", "_law_flat", "_law_own", "_law_way_so", "_law_bent", "_law_ill_so", "_law_got"]
theorem sc__law_case_right : FnScope N__law_case_right ["_law_box_here"] (defScope s__law_case_right) := ⟨rfl, rfl, rfl, by decide +kernel, rfl, by decide +kernel, by decide +kernel⟩
abbrev s__law_right : Stmt := top 20
abbrev N__law_right : List Str := ["_law_box_here", "_law_turn"]
theorem sc__law_right : FnScope N__law_right ["_law_box_here"] (defScope s__law_right) := ⟨rfl, rfl, rfl, by decide +kernel, rfl, by decide +kernel, by decide +kernel⟩
abbrev s_law : Stmt := top 21
abbrev N_law : List Str := ["_law_script", "_law_cells_here", "_law_k"]
theorem sc_law : FnScope N_law ["_law_script"] (defScope s_law) := ⟨rfl, rfl, rfl, by decide +kernel, rfl, by decide +kernel, by decide +kernel⟩
def i_BadText : Stmt := match top 2 with | .ClassDef (body := b) .. => b.getD 0 (.Pass ⟨0, 0, 0, 0⟩) | _ => .Pass ⟨0, 0, 0, 0⟩
theorem sci_BadText : FnScope ["self", "piece"] ["self", "piece"] (defScope i_BadText) := ⟨rfl, rfl, rfl, by decide +kernel, rfl, by decide +kernel, by decide +kernel⟩
structure Txt (K : PySem.W.Frag) (mg : Str → Option Value) : Type where
  z_tuple : mg "tuple" = none
  z_all : mg "all" = none
  z_int : mg "int" = none
  z_sorted : mg "sorted" = none
  z_len : mg "len" = none
  z_abs : mg "abs" = none
  z_enumerate : mg "enumerate" = none
  z_list : mg "list" = none
  z_isinstance : mg "isinstance" = none
  z_bool : mg "bool" = none
  z_str : mg "str" = none
  z_zip : mg "zip" = none
  z_range : mg "range" = none
  C_BadText : Addr
  fI_BadText : Addr
  fdI_BadText : FuncData
  FI_BadText : Fun K "__init__" "BadText.__init__" i_BadText fI_BadText fdI_BadText
  bI_BadText : Binds K fdI_BadText ["self", "piece"] []
  E_BadText : ErrC K mg "BadText" C_BadText fI_BadText "piece"
  f_is_number_text : Addr
  fd_is_number_text : FuncData
  F_is_number_text : Fun K "is_number_text" "is_number_text" s_is_number_text f_is_number_text fd_is_number_text
  m_is_number_text : mg "is_number_text" = some (.ref f_is_number_text)
  b_is_number_text : Binds K fd_is_number_text ["text"] []
  f_is_size_text : Addr
  fd_is_size_text : FuncData
  F_is_size_text : Fun K "is_size_text" "is_size_text" s_is_size_text f_is_size_text fd_is_size_text
  m_is_size_text : mg "is_size_text" = some (.ref f_is_size_text)
  b_is_size_text : Binds K fd_is_size_text ["text"] []
  f_swings_from : Addr
  fd_swings_from : FuncData
  F_swings_from : Fun K "swings_from" "swings_from" s_swings_from f_swings_from fd_swings_from
  m_swings_from : mg "swings_from" = some (.ref f_swings_from)
  b_swings_from : Binds K fd_swings_from ["text"] []
  f_heap_from : Addr
  fd_heap_from : FuncData
  F_heap_from : Fun K "heap_from" "heap_from" s_heap_from f_heap_from fd_heap_from
  m_heap_from : mg "heap_from" = some (.ref f_heap_from)
  b_heap_from : Binds K fd_heap_from ["text"] []
  f__law_box : Addr
  fd__law_box : FuncData
  F__law_box : Fun K "_law_box" "_law_box" s__law_box f__law_box fd__law_box
  m__law_box : mg "_law_box" = some (.ref f__law_box)
  b__law_box : Binds K fd__law_box ["_law_script", "_law_k"] []
  f__law_take : Addr
  fd__law_take : FuncData
  F__law_take : Fun K "_law_take" "_law_take" s__law_take f__law_take fd__law_take
  m__law_take : mg "_law_take" = some (.ref f__law_take)
  b__law_take : Binds K fd__law_take ["_law_box_here", "_law_size_so"] []
  f__law_cells : Addr
  fd__law_cells : FuncData
  F__law_cells : Fun K "_law_cells" "_law_cells" s__law_cells f__law_cells fd__law_cells
  m__law_cells : mg "_law_cells" = some (.ref f__law_cells)
  b__law_cells : Binds K fd__law_cells ["_law_script", "_law_top_so"] []
  f__law_of : Addr
  fd__law_of : FuncData
  F__law_of : Fun K "_law_of" "_law_of" s__law_of f__law_of fd__law_of
  m__law_of : mg "_law_of" = some (.ref f__law_of)
  b__law_of : Binds K fd__law_of ["_law_box_here", "_law_goods_so"] []
  f__law_same : Addr
  fd__law_same : FuncData
  F__law_same : Fun K "_law_same" "_law_same" s__law_same f__law_same fd__law_same
  m__law_same : mg "_law_same" = some (.ref f__law_same)
  b__law_same : Binds K fd__law_same ["_law_got", "_law_due"] []
  f__law_falling : Addr
  fd__law_falling : FuncData
  F__law_falling : Fun K "_law_falling" "_law_falling" s__law_falling f__law_falling fd__law_falling
  m__law_falling : mg "_law_falling" = some (.ref f__law_falling)
  b__law_falling : Binds K fd__law_falling ["_law_box_here", "_law_most_so"] []
  f__law_fall_words : Addr
  fd__law_fall_words : FuncData
  F__law_fall_words : Fun K "_law_fall_words" "_law_fall_words" s__law_fall_words f__law_fall_words fd__law_fall_words
  m__law_fall_words : mg "_law_fall_words" = some (.ref f__law_fall_words)
  b__law_fall_words : Binds K fd__law_fall_words ["_law_fall_so"] []
  f__law_heard : Addr
  fd__law_heard : FuncData
  F__law_heard : Fun K "_law_heard" "_law_heard" s__law_heard f__law_heard fd__law_heard
  m__law_heard : mg "_law_heard" = some (.ref f__law_heard)
  b__law_heard : Binds K fd__law_heard ["_law_flat", "_law_is_heap_so"] []
  f__law_by_hand_right : Addr
  fd__law_by_hand_right : FuncData
  F__law_by_hand_right : Fun K "_law_by_hand_right" "_law_by_hand_right" s__law_by_hand_right f__law_by_hand_right fd__law_by_hand_right
  m__law_by_hand_right : mg "_law_by_hand_right" = some (.ref f__law_by_hand_right)
  b__law_by_hand_right : Binds K fd__law_by_hand_right [] []
  f__law_case_right : Addr
  fd__law_case_right : FuncData
  F__law_case_right : Fun K "_law_case_right" "_law_case_right" s__law_case_right f__law_case_right fd__law_case_right
  m__law_case_right : mg "_law_case_right" = some (.ref f__law_case_right)
  b__law_case_right : Binds K fd__law_case_right ["_law_box_here"] []
  f__law_right : Addr
  fd__law_right : FuncData
  F__law_right : Fun K "_law_right" "_law_right" s__law_right f__law_right fd__law_right
  m__law_right : mg "_law_right" = some (.ref f__law_right)
  b__law_right : Binds K fd__law_right ["_law_box_here"] []
  f_law : Addr
  fd_law : FuncData
  F_law : Fun K "law" "law" s_law f_law fd_law
  m_law : mg "law" = some (.ref f_law)
  b_law : Binds K fd_law ["_law_script"] []
theorem ok_init_BadText {P : Program} {w : World} {K : PySem.W.Frag} {mg : Str → Option Value} {base : Heap} (T : Txt K mg) : FnOk P w K mg base CX0 1 T.fI_BadText T.fdI_BadText ["self", "piece"] (spInit T.C_BadText "piece") := by
  refine T.FI_BadText.ok sci_BadText (fun vs H Q E h => ?_) (fun cdv A outer s H vs Q E hr h => ⟨_, pss_one (ps_ost (pv 0) (pv 1)), ?_⟩)
  · obtain ⟨a, v, rfl, _⟩ := h
    rfl
  · obtain ⟨a, v, rfl, ha, k⟩ := h
    exact ⟨v, rfl, _, rfl, a, T.C_BadText, rfl, T.E_BadText.cls, T.E_BadText.noN, .inl ⟨ha, fun dx n ne => k dx n ne⟩⟩
def spLaw (K : PySem.W.Frag) : Sp := fun vs H Q _ => ∃ (a : Addr) (ns : List Int), vs = [.ref a] ∧ SqL K H a (ns.map V.int) ∧ ns.length ≤ 63 ∧ ∀ H', Q (.bl true) H'
end K04
namespace K04
open PySem L2 PyProof.Rows DL TL RZ
local macro_rules | `(tactic| walk_at "len") => `(tactic| first
  | exact Nat.le_of_ble_eq_true rfl
  | assumption
  | (simp only [List.length_map, List.length_cons, List.length_nil, dI, dS, dB, List.length_reverse, List.length_append, List.length_range, rngD]; omega)
  | omega)
local macro_rules | `(tactic| walk_at "rd") => `(tactic| first
  | with_reducible exact rd_add
  | with_reducible exact rd_sub
  | with_reducible exact rd_eqs
  | with_reducible exact rd_eqi
  | with_reducible exact rd_eqb
  | with_reducible exact rd_eqN
  | with_reducible exact rd_nes
  | with_reducible exact rd_nei
  | with_reducible exact rd_neb
  | with_reducible exact rd_B
  | with_reducible exact rd_isN
  | with_reducible exact rd_inS
  | ((with_reducible apply rd_cats); walk_at "len")
  | ((with_reducible apply rd_catl); walk_at "len")
  | ((with_reducible apply rd_repl) <;> (first | decide | omega))
  | ((with_reducible apply rd_reps); exact ⟨by decide +kernel, by intro _ _; decide +kernel, by intro _ _; decide +kernel⟩)
  | ((with_reducible apply rd_neD) <;> (first | rfl | decide +kernel))
  | ((with_reducible apply rd_eqD) <;> (first | rfl | decide +kernel))
  | (apply rd_I (C := CMul) (g := fun i j => i * j); exact (by first | exact .inl ⟨by decide, by decide⟩ | exact .inr ⟨by decide, by decide⟩))
  | (apply rd_I (C := CPow) (g := fun i j => i ^ j.toNat); exact ⟨by decide, by decide, by decide⟩))
local macro_rules | `(tactic| walk_at "rc") => `(tactic| first
  | with_reducible exact rc_lenL
  | with_reducible exact rc_lenT
  | with_reducible exact rc_int
  | with_reducible exact rc_intb
  | with_reducible exact rc_abs
  | with_reducible exact rc_all
  | with_reducible exact rc_list (.lst _)
  | with_reducible exact rc_list (.tup _)
  | with_reducible exact rc_tuple (.lst _)
  | with_reducible exact rc_tuple (.tup _)
  | ((with_reducible apply rc_str); first | assumption | decide +kernel)
  | ((with_reducible apply rc_lenS); assumption))
local macro_rules | `(tactic| walk_at "ea") => `(tactic| first
  | with_reducible exact ea_nil
  | ((with_reducible apply ea_cons); (walk_at "ev"); (walk_at "ea")))
local macro_rules | `(tactic| walk_at "call") => `(tactic| fail "call")
local macro_rules | `(tactic| walk_at "it") => `(tactic| first
  | ((with_reducible apply it_list); walk_at "ev")
  | ((with_reducible apply it_tup); walk_at "ev")
  | ((with_reducible apply it_rng); (walk_at "ea"); walk_at "len")
  | ((with_reducible apply it_enum); walk_at "ev")
  | ((with_reducible apply it_zip); (walk_at "ev"); (walk_at "ev"))
  | ((with_reducible apply it_zipA); rotate_left; (walk_at "ev"); (walk_at "ev"); first | exact .lst _ _ | exact .tup _ _)
  | ((with_reducible apply it_seq); rotate_left; (walk_at "ev"); first | exact .lst _ | exact .tup _ | assumption))
local macro_rules | `(tactic| walk_at "tgs") => `(tactic| first
  | with_reducible exact .nil
  | (apply TgsD.cons; (walk_at "tg"); (walk_at "tgs")))
local macro_rules | `(tactic| walk_at "tg") => `(tactic| first
  | ((with_reducible apply tg_name) <;> decide)
  | (apply tg_tup; (walk_at "tgs"); rfl))
local macro_rules | `(tactic| walk_at "all2") => `(tactic| first
  | exact .nil
  | (apply All2.cons; (apply Exists.intro; apply And.intro; (walk_at "tg"); (walk_at "ev")); (walk_at "all2")))
local macro_rules | `(tactic| walk_at "ej") => `(tactic| first
  | with_reducible exact .nil
  | (apply EvJ.cons; (walk_at "ev"); (walk_at "ej")))
local macro_rules | `(tactic| walk_at "eo") => `(tactic| first
  | with_reducible exact eo_none
  | ((with_reducible apply eo_some); walk_at "ev"))
local macro_rules | `(tactic| walk_at "ev") => `(tactic| first
  | ((with_reducible apply ed_var); exact rfl)
  | with_reducible exact ed_int
  | with_reducible exact ed_str
  | with_reducible exact ed_bl
  | with_reducible exact ed_non
  | ((with_reducible apply ed_tup); (walk_at "ea"); (walk_at "len"))
  | ((with_reducible apply ed_lst); (walk_at "ea"); (walk_at "len"))
  | ((with_reducible apply ed_call); (walk_at "ea"); (walk_at "call"))
  | ((with_reducible apply ed_callN); (walk_at "ea"); rfl; (exact fun H vs q => q); (walk_at "call"))
  | ((with_reducible apply ed_op); (walk_at "ev"); (walk_at "ev"); (walk_at "rd"))
  | ((with_reducible apply ed_isi); (walk_at "ev"); decide)
  | ((with_reducible apply ed_isiT); (walk_at "ev"); decide; decide)
  | ((with_reducible apply ed_neg); walk_at "ev")
  | ((with_reducible apply ed_andV); (walk_at "ev"); intro _; walk_at "ev")
  | ((with_reducible apply ed_orV); (walk_at "ev"); intro _; walk_at "ev")
  | ((with_reducible apply ed_notV); walk_at "ev")
  | ((with_reducible apply ed_split); (walk_at "ev"); (walk_at "ev"); (decide +kernel); walk_at "len")
  | ((with_reducible apply ed_partition); (walk_at "ev"); (walk_at "ev"); (decide +kernel); walk_at "len")
  | ((with_reducible apply ed_isdigit); walk_at "ev")
  | ((with_reducible apply ed_isascii); walk_at "ev")
  | ((with_reducible apply ed_startswith); (walk_at "ev"); walk_at "ev")
  | ((with_reducible apply ed_revL); walk_at "ev")
  | ((with_reducible apply ed_slL); (walk_at "ev"); (walk_at "eo"); walk_at "eo")
  | ((with_reducible apply ed_slS); (walk_at "ev"); (walk_at "eo"); (walk_at "eo"); walk_at "len")
  | ((with_reducible apply ed_joined); (walk_at "ej"); walk_at "len")
  | ((with_reducible apply ed_fmtI); (walk_at "ev"); first | assumption | decide +kernel)
  | ((with_reducible apply ed_fmtS); (walk_at "ev"); walk_at "len")
  | ((with_reducible apply ed_cb); (walk_at "ea"); walk_at "rc")
  | (apply ed_lc; (walk_at "it"); (walk_at "len"); intro D'; walk_at "all2"))
local macro_rules | `(tactic| walk_at "et") => `(tactic| first
  | ((with_reducible apply et_test); walk_at "ev")
  | ((with_reducible apply et_B); walk_at "ev")
  | ((with_reducible apply DL.et_not); walk_at "et")
  | ((with_reducible apply et_and); (walk_at "et"); intro _; walk_at "et")
  | ((with_reducible apply et_or); (walk_at "et"); intro _; walk_at "et"))
local macro_rules | `(tactic| walk_at "etb") => `(tactic| (apply et_is; (walk_at "et"); first | rfl | decide | (simp [tyIs, tyN]; done)))

/-! ### what the program's defs answer -/
def numOk (s : Str) : Bool := if (!(Txt.isascii s && Txt.isdigit s)) = true then false else (decide (s = ("0" : Str)) || !Txt.startswith s ("0" : Str))
def sizeOk (s : Str) : Bool := !decide (s = ("0" : Str)) && numOk s
def R_is_number_text (ds : List PyData) (d : PyData) : Prop := ∃ s : Str, ds = [.str s] ∧ d = .bool (numOk s)
def R_is_size_text (ds : List PyData) (d : PyData) : Prop := ∃ s : Str, ds = [.str s] ∧ d = .bool (sizeOk s)
theorem numOk_num {n : Int} (h : 0 ≤ n) : numOk (numS n) = true := by
  unfold numOk
  rw [numS_ascii h, numS_digit h]
  by_cases z : n = 0
  · subst z
    rw [numS_zero]
    decide +kernel
  · obtain ⟨c, r, e, q⟩ := numL_head n.toNat (by omega)
    rw [starts0 (x := numS n) (c := c) (r := r) (by rw [numS_tl h]; exact e) (by omega)]
    cases decide (numS n = ("0" : Str)) <;> rfl
theorem sizeOk_num {n : Int} (h : 0 < n) : sizeOk (numS n) = true := by
  unfold sizeOk
  rw [decide_eq_false (numS_ne0 h), numOk_num (by omega)]
  rfl
section
variable {P : Program} {w : World} {K : PySem.W.Frag} {mg : Str → Option Value} {base : Heap}
theorem ok_is_number_text (T : Txt K mg) : FnOk P w K mg base CX0 1 T.f_is_number_text T.fd_is_number_text ["text"] (spD R_is_number_text) := by
  refine pure_ok T.F_is_number_text sc_is_number_text (fun ds d h => ?_) (by decide) (fun cdv A outer s H E hr => ?_)
  · obtain ⟨s, rfl, rfl⟩ := h
    rfl
  have hu := hu64 hr
  refine ⟨_, (pss_cons (ps_if (pt_not ((pw_and (pt_val (pe_m0 PySem.F.slot_str_isascii PySem.F.type_str_isascii mt_isascii (pv 0))) (pw_and1 (pt_val (pe_m0 PySem.F.slot_str_isdigit PySem.F.type_str_isdigit mt_isdigit (pv 0)))))).pt) (pss_one (ps_ret pe_bl)) pss_nil)
  (pss_one (ps_ret (pe_or (pe_cmpR op_eq (pv 0) pe_str (nomark _)) (pe_one (pe_not (pe_m1 PySem.F.slot_str_startswith PySem.F.type_str_startswith mt_startswith (pv 0) pe_str))))))), fun O ds d hR => ?_⟩
  obtain ⟨s, rfl, rfl⟩ := hR
  apply rr_when
  · walk_at "et"
  · intro c
    apply rr_ret
    apply ed_is
    · walk_at "ev"
    · unfold numOk
      rw [c]
      rfl
  · intro c
    apply rr_ret
    apply ed_is
    · walk_at "ev"
    · unfold numOk
      rw [c]
      rfl
theorem r_is_number_text {s : Str} : R_is_number_text [.str s] (.bool (numOk s)) := ⟨s, rfl, rfl⟩
theorem r_is_size_text {s : Str} : R_is_size_text [.str s] (.bool (sizeOk s)) := ⟨s, rfl, rfl⟩
local macro_rules | `(tactic| walk_at "call") => `(tactic| first | with_reducible exact r_is_number_text | with_reducible exact r_is_size_text)
theorem ok_is_size_text (T : Txt K mg) : FnOk P w K mg base CX0 2 T.f_is_size_text T.fd_is_size_text ["text"] (spD R_is_size_text) := by
  refine pure_ok T.F_is_size_text sc_is_size_text (fun ds d h => ?_) (by decide) (fun cdv A outer s H E hr => ?_)
  · obtain ⟨s, rfl, rfl⟩ := h
    rfl
  have G_is_number_text := ok_is_number_text (P := P) (w := w) (base := base) T
  have hr_is_number_text : Room 1 _ := hr.mono (by decide)
  have b_is_number_text := T.b_is_number_text
  have hu := hu64 hr
  refine ⟨_, (pss_one (ps_ret (pe_and (pe_cmpR op_ne (pv 0) pe_str (nomark _)) (pe_one (pe_call G_is_number_text hr_is_number_text rfl T.m_is_number_text T.F_is_number_text.kp b_is_number_text .nil pass0 (pa_cons (pv 0) pa_nil)))))), fun O ds d hR => ?_⟩
  obtain ⟨s, rfl, rfl⟩ := hR
  apply rr_ret
  apply ed_is
  · walk_at "ev"
  · rfl
/-! swings as a text -/
def swT (ns : List Int) : Str := if ns = [] then ("-" : Str) else Txt.join (" " : Str) (ns.map numS)
/-- numbers from 0 of at most forty digits, at most a thousand -/
def Num (ns : List Int) : Prop := (∀ n, n ∈ ns → 0 ≤ n ∧ n < 10 ^ 40) ∧ ns.length ≤ 1000
theorem numS_le {ns : List Int} (h : Num ns) : ((ns.map numS).map (·.length)).sum + (ns.map numS).length * 1 ≤ 41000 := by
  have q := sum_le (c := 40) (xs := ns.map numS) fun x hx => by
    obtain ⟨m, hm, rfl⟩ := List.mem_map.mp hx
    obtain ⟨h1, h2⟩ := h.1 m hm
    exact (numS_int h1 h2).2
  rw [List.length_map] at *
  have := h.2
  omega
theorem sp1 : ((" " : Str).length == 0) = false := by decide +kernel
theorem join_len {ns : List Int} (h : Num ns) : (swT ns).length ≤ 41000 := by
  unfold swT
  by_cases e : ns = []
  · rw [if_pos e]
    decide +kernel
  · rw [if_neg e]
    have q := Txt_join_len (" " : Str) (ns.map numS)
    have c0 : (" " : Str).length = 1 := by decide +kernel
    rw [c0] at q
    exact Nat.le_trans q (numS_le h)
/-- numbers from 1, the greatest first -/
def Fall (ns : List Int) : Prop := Num ns ∧ (∀ n, n ∈ ns → 0 < n) ∧ ns.Pairwise (· ≥ ·)
theorem dS_num (ns : List Int) : dS (ns.map numS) = ns.map fun n => PyData.str (numS n) := by
  unfold dS
  rw [List.map_map]
  rfl
def hpT (k : Int) (ns : List Int) : Str := numS k ++ (": " : Str) ++ swT ns

/-! ### texts that are right or wrong -/
def pcs (s : Str) : List Str := Txt.split s (" " : Str)
def valP (p : Str) : Int := (PySem.intText? p).getD 0
def okPs (ps : List Str) : Bool := decide (ps.length ≤ 1001) && ps.all fun p => decide (p.length ≤ 640) && (!sizeOk p || (PySem.intText? p).isSome)
def okS (s : Str) : Bool := decide (s.length ≤ 90000) && (decide (s = ("-" : Str)) || okPs (pcs s))
def readS (s : Str) : PyData ⊕ Int := if s = ("-" : Str) then .inl (.tuple []) else
  if (pcs s).all sizeOk = true then (if ((pcs s).map valP).Pairwise (· ≥ ·) then .inl (.tuple (dI ((pcs s).map valP))) else .inr 0) else .inr 0
theorem eqv_ints2 : ∀ ns zs : List Int, PyData.eqv (.list (dI ns)) (.list (dI zs)) = decide (ns = zs)
  | [], [] => rfl
  | [], z :: zs => rfl
  | n :: ns, [] => rfl
  | n :: ns, z :: zs => by
    have ih := eqv_ints2 ns zs
    unfold PyData.eqv at ih ⊢
    show (PyData.eqv (.int n) (.int z) && PyData.eqvAll (dI ns) (dI zs)) = _
    rw [ih]
    by_cases c : n = z
    · subst c
      rw [show PyData.eqv (.int n) (.int n) = true from by unfold PyData.eqv; simp]
      simp
    · rw [show PyData.eqv (.int n) (.int z) = false from by unfold PyData.eqv; simp [c]]
      simp [c]
def R_swings_from (ds : List PyData) (r : PyData ⊕ Int) : Prop := ∃ s : Str, okS s = true ∧ ds = [.str s] ∧ r = readS s
theorem okPs_len {ps : List Str} (h : okPs ps = true) : ps.length ≤ 1001 := of_decide_eq_true (Bool.and_eq_true_iff.mp h).1
theorem okPs_at {ps : List Str} (h : okPs ps = true) {p : Str} (hp : p ∈ ps) : p.length ≤ 640 ∧ (sizeOk p = true → (PySem.intText? p).isSome = true) := by
  have q := List.all_eq_true.mp (Bool.and_eq_true_iff.mp h).2 p hp
  obtain ⟨q1, q2⟩ := Bool.and_eq_true_iff.mp q
  refine ⟨of_decide_eq_true q1, fun z => ?_⟩
  rw [z] at q2
  exact q2
theorem val_of {p : Str} (h : (PySem.intText? p).isSome = true) : PySem.intText? p = some (valP p) := by
  unfold valP
  cases z : PySem.intText? p with
  | none =>
    rw [z] at h
    cases h
  | some i => rfl
theorem sort_down (ns : List Int) : ∃ zs : List Int, zs.Perm ns ∧ zs.Pairwise (· ≥ ·) := by
  obtain ⟨zs, h1, h2⟩ := sort_ex ns
  refine ⟨zs.reverse, (List.reverse_perm zs).trans h1, ?_⟩
  rw [List.pairwise_reverse]
  exact h2
theorem ok_swings_from (T : Txt K mg) : FnOk P w K mg base (L2.CX P w) 3 T.f_swings_from T.fd_swings_from ["text"] (spDX T.C_BadText "piece" R_swings_from) := by
  refine pure_okX T.F_swings_from sc_swings_from (fun ds d h => ?_) (by decide) (fun cdv A outer s H E hr => ?_)
  · obtain ⟨_, _, rfl, rfl⟩ := h
    rfl
  have G_is_size_text := ok_is_size_text (P := P) (w := w) (base := base) T
  have hr_is_size_text : Room 2 _ := hr.mono (by decide)
  have b_is_size_text := T.b_is_size_text
  have hu := hu64 hr
  refine ⟨_, (pss_cons (ps_if (pt_cmpR op_eq (pv 0) pe_str (nomark _)) (pss_one (ps_ret (pe_tup pa_nil))) pss_nil)
  (pss_cons (ps_set (i := 1) sc_swings_from.nd rfl (Or.inl rfl) (pe_split (pv 0) pe_str))
  (pss_cons (ps_if (pt_not (pt_val (pe_callB (kAll (K := K) (by rfl) (by rfl)) (by rfl) T.z_all (by decide +kernel) (pa_cons (pe_lc (own := [("piece", 3)]) rfl sc_swings_from.nd (kiList (K := K) (by rfl) (pv 1)) (blkOk_by (N := N_swings_from) (sc := defScope s_swings_from) (by decide +kernel)) (fun _ _ _ _ _ => (pg_name (i := 3) sc_swings_from.nd rfl (Or.inl rfl))) (fun _ _ _ _ _ => pts_nil) (fun _ _ _ _ _ => (pe_call G_is_size_text hr_is_size_text rfl T.m_is_size_text T.F_is_size_text.kp b_is_size_text .nil pass0 (pa_cons (pv 3) pa_nil)))) pa_nil)))) (pss_one (ps_rz (by rfl) (by rfl) T.E_BadText (ok_init_BadText T) T.bI_BadText (by rfl) (hr.mono (by decide)) (takes_of rfl rfl rfl rfl) (by rfl) (pa_cons pe_int pa_nil))) pss_nil)
  (pss_cons (ps_setLc (i := 2) (own := [("piece", 3)]) rfl sc_swings_from.nd rfl rfl (sw_true rfl rfl rfl rfl) (kiList (K := K) (by rfl) (pv 1)) (blkOk_by (N := N_swings_from) (sc := defScope s_swings_from) (by decide +kernel)) (fun _ _ _ _ _ => (pg_name (i := 3) sc_swings_from.nd rfl (Or.inl rfl))) (fun _ _ _ _ _ => pts_nil) (fun _ _ _ _ _ => (pe_callTy call_int_str (by rfl) T.z_int (by decide +kernel) (pa_cons (pv 3) pa_nil))))
  (pss_cons (ps_if (pt_cmpR (kNeD (K := K) (by rfl) hu) (pv 2) (pe_callBK (kSortedRev (b := true) (K := K) (by rfl)) (by rfl) T.z_sorted (by decide +kernel) (pa_cons (pv 2) pa_nil) (pk_cons pe_bl pk_nil)) (nomark _)) (pss_one (ps_rz (by rfl) (by rfl) T.E_BadText (ok_init_BadText T) T.bI_BadText (by rfl) (hr.mono (by decide)) (takes_of rfl rfl rfl rfl) (by rfl) (pa_cons pe_int pa_nil))) pss_nil)
  (pss_one (ps_ret (pe_callTy (kTuple (K := K) (by rfl)) (by rfl) T.z_tuple (by decide +kernel) (pa_cons (pv 2) pa_nil))))))))), fun O ds r hR => ?_⟩
  obtain ⟨s, hok, rfl, rfl⟩ := hR
  have hl : s.length ≤ 90000 := of_decide_eq_true (Bool.and_eq_true_iff.mp hok).1
  by_cases c : s = ("-" : Str)
  · unfold readS
    rw [if_pos c]
    apply rr_when (b := true)
    · apply et_is
      · walk_at "et"
      · exact decide_eq_true c
    · intro _
      apply rr_ret
      walk_at "ev"
    · intro z
      cases z
  have hps : okPs (pcs s) = true := by
    have q := (Bool.and_eq_true_iff.mp hok).2
    rw [decide_eq_false c, Bool.false_or] at q
    exact q
  have hlen := okPs_len hps
  have split : EvD O N_swings_from.length (tM1 (fun x xs H Q => ∃ a b, x = .str a ∧ xs = [.str b] ∧ (b.length == 0) = false ∧ a.length + 2 ≤ sizeLine ∧ rNewStrs (Txt.split a b) H Q) (tVar 0) (tC (.str " "))) (argR N_swings_from [.str s]) (.list (dS (pcs s))) :=
    ed_split (by walk_at "ev") (by walk_at "ev") sp1 (by omega)
  have sizes : ∀ ρ : Rho, ρ.length = 4 → ρ[1]? = some (some (.list (dS (pcs s)))) → EvDT O N_swings_from.length (tNot (tB (tCB (rAll K) (tCons (tLc (iList K (tVar 1)) (gName 3) tYes (tCall (spD R_is_size_text) [] E0 (tCons (tVar 3) tNil)) [3]) tNil)))) ρ (!(pcs s).all sizeOk) := fun ρ hρ h1 => by
    apply et_is
    · apply DL.et_not
      apply et_B
      apply ed_cb
      · apply ea_cons
        · refine ed_lcM (l := pcs s) (e1 := PyData.str) (e2 := PyData.bool) (f := sizeOk) (it_list (ed_var h1)) (by omega) fun D a ha => ⟨_, tg_name (by decide) (by decide), ?_⟩
          refine ed_call (ea_cons (ed_var ?_) ea_nil) ⟨a, rfl, rfl⟩
          have hw2 : (wipeR ρ [3]).length = 4 := by rw [wipeR_length]; exact hρ
          rw [List.getElem?_set_self (by omega)]
        · exact ea_nil
      · exact rc_all
    · rw [List.all_map]
      rfl
  have nums : (pcs s).all sizeOk = true → ∀ ρ : Rho, ρ.length = 4 → ρ[1]? = some (some (.list (dS (pcs s)))) →
      EvD O N_swings_from.length (tLc (iList K (tVar 1)) (gName 3) tYes (tCB (fun xs H Q => ∃ a n, xs = [.str a] ∧ PySem.intText? a = some n ∧ a.length ≤ 640 ∧ Q (.int n) H) (tCons (tVar 3) tNil)) [3]) ρ (.list (dI ((pcs s).map valP))) := fun all ρ hρ h1 => by
    refine ed_lcM (l := pcs s) (e1 := PyData.str) (e2 := PyData.int) (f := valP) (it_list (ed_var h1)) (by omega) fun D a ha => ⟨_, tg_name (by decide) (by decide), ?_⟩
    obtain ⟨q1, q2⟩ := okPs_at hps ha
    refine ed_cb (ea_cons (ed_var ?_) ea_nil) (rc_ints (val_of (q2 (List.all_eq_true.mp all a ha))) q1)
    have hw2 : (wipeR ρ [3]).length = 4 := by rw [wipeR_length]; exact hρ
    rw [List.getElem?_set_self (by omega)]
  have ne : ∀ (ρ : Rho) (ns zs : List Int), ρ[2]? = some (some (.list (dI ns))) → zs.Perm ns → zs.Pairwise (· ≥ ·) →
      EvDT O N_swings_from.length (tTest (tOp (rNeD K) (tVar 2) (tCKw (rSortedKw K true [.bl true]) (tCons (tVar 2) tNil) (tCons (tC (.bl true)) tNil)))) ρ (!decide (ns = zs)) := fun ρ ns zs h2 hp hz => by
    apply et_is
    · apply et_test
      apply ed_op
      · exact ed_var h2
      · exact ed_sortedRev (ed_var h2) hp hz
      · exact rd_neD (shaped_ints (.lst _)) (shaped_ints (.lst _))
    · rw [eqv_ints2]
  unfold readS
  rw [if_neg c]
  have first : EvDT O N_swings_from.length (tTest (tOp rEq (tVar 0) (tC (.str "-")))) (argR N_swings_from [.str s]) false := by
    apply et_is
    · walk_at "et"
    · exact decide_eq_false c
  by_cases a : (pcs s).all sizeOk = true
  · rw [if_pos a]
    by_cases f : ((pcs s).map valP).Pairwise (· ≥ ·)
    · rw [if_pos f]
      refine rr_when first (fun z => by cases z) fun _ => ?_
      refine rr_seq (rn_asg split (by decide)) ?_
      refine rr_when (sizes _ rfl rfl) (fun z => by rw [a] at z; cases z) fun _ => ?_
      refine rr_seq (rn_asg (nums a _ rfl rfl) (by decide)) ?_
      refine rr_when (ne _ _ _ rfl (.refl _) f) (fun z => by rw [decide_eq_true rfl] at z; cases z) fun _ => ?_
      apply rr_ret
      exact ed_cb (ea_cons (ed_var rfl) ea_nil) (rc_tuple (.lst _))
    · rw [if_neg f]
      obtain ⟨zs, hp, hz⟩ := sort_down ((pcs s).map valP)
      have nz : (pcs s).map valP ≠ zs := fun z => f (z ▸ hz)
      refine re_when first (fun z => by cases z) fun _ => ?_
      refine re_seq (rn_asg split (by decide)) ?_
      refine re_when (sizes _ rfl rfl) (fun z => by rw [a] at z; cases z) fun _ => ?_
      refine re_seq (rn_asg (nums a _ rfl rfl) (by decide)) ?_
      refine re_when (ne _ _ _ rfl hp hz) (fun _ => ?_) fun z => by rw [decide_eq_false nz] at z; cases z
      apply re_raise
      walk_at "ea"
  · rw [if_neg a]
    refine re_when first (fun z => by cases z) fun _ => ?_
    refine re_seq (rn_asg split (by decide)) ?_
    refine re_when (sizes _ rfl rfl) (fun _ => ?_) fun z => by rw [Bool.eq_false_iff.mpr a] at z; cases z
    apply re_raise
    walk_at "ea"
/-! heaps -/
def okH (s : Str) : Bool := decide (s.length ≤ 90000) && (!numOk (Txt.partition s (": " : Str)).1 || (decide ((Txt.partition s (": " : Str)).1.length ≤ 640) && (PySem.intText? (Txt.partition s (": " : Str)).1).isSome && okS (Txt.partition s (": " : Str)).2.2))
def readH (s : Str) : PyData ⊕ Int := if numOk (Txt.partition s (": " : Str)).1 = true then
  (match readS (Txt.partition s (": " : Str)).2.2 with
    | .inl d => .inl (.tuple [.int (valP (Txt.partition s (": " : Str)).1), d])
    | .inr k => .inr k) else .inr 0
def R_heap_from (ds : List PyData) (r : PyData ⊕ Int) : Prop := ∃ s : Str, okH s = true ∧ ds = [.str s] ∧ r = readH s
theorem ok_heap_from (T : Txt K mg) : FnOk P w K mg base (L2.CX P w) 4 T.f_heap_from T.fd_heap_from ["text"] (spDX T.C_BadText "piece" R_heap_from) := by
  refine pure_okX T.F_heap_from sc_heap_from (fun ds d h => ?_) (by decide) (fun cdv A outer s H E hr => ?_)
  · obtain ⟨_, _, rfl, rfl⟩ := h
    rfl
  have G_is_number_text := ok_is_number_text (P := P) (w := w) (base := base) T
  have hr_is_number_text : Room 1 _ := hr.mono (by decide)
  have b_is_number_text := T.b_is_number_text
  have G_swings_from := ok_swings_from (P := P) (w := w) (base := base) T
  have hr_swings_from : Room 3 _ := hr.mono (by decide)
  have b_swings_from := T.b_swings_from
  have hu := hu64 hr
  refine ⟨_, (pss_cons (ps_asg (pe_partition (pv 0) pe_str) (kgTup (K := K) (n := 3) (by rfl) (by rfl) (pgs_cons (pg_name (i := 1) sc_heap_from.nd rfl (Or.inl rfl)) (pgs_cons (pg_name (i := 2) sc_heap_from.nd rfl (Or.inl rfl)) (pgs_cons (pg_name (i := 3) sc_heap_from.nd rfl (Or.inl rfl)) pgs_nil)))))
  (pss_cons (ps_if (pt_not (pt_val (pe_call G_is_number_text hr_is_number_text rfl T.m_is_number_text T.F_is_number_text.kp b_is_number_text .nil pass0 (pa_cons (pv 1) pa_nil)))) (pss_one (ps_rz (by rfl) (by rfl) T.E_BadText (ok_init_BadText T) T.bI_BadText (by rfl) (hr.mono (by decide)) (takes_of rfl rfl rfl rfl) (by rfl) (pa_cons pe_int pa_nil))) pss_nil)
  (pss_one (ps_ret (pe_tup (pa_cons (pe_callTy call_int_str (by rfl) T.z_int (by decide +kernel) (pa_cons (pv 1) pa_nil)) (pa_cons (pe_callS G_swings_from hr_swings_from rfl T.m_swings_from T.F_swings_from.kp b_swings_from (fun σ => passAt (takes_of rfl rfl rfl rfl) σ) (pa_cons (pv 3) pa_nil)) pa_nil))))))), fun O ds r hR => ?_⟩
  obtain ⟨s, hok, rfl, rfl⟩ := hR
  have hl : s.length ≤ 90000 := of_decide_eq_true (Bool.and_eq_true_iff.mp hok).1
  unfold readH
  cases hpa : Txt.partition s (": " : Str) with
  | mk wa re =>
  cases re with
  | mk mi sw =>
  unfold okH at hok
  rw [hpa] at hok
  have hk := (Bool.and_eq_true_iff.mp hok).2
  dsimp only at hk ⊢
  by_cases nk : numOk wa = true
  · rw [if_pos nk]
    rw [nk] at hk
    have hk : (decide (wa.length ≤ 640) && (PySem.intText? wa).isSome && okS sw) = true := hk
    obtain ⟨hk1, hk2⟩ := Bool.and_eq_true_iff.mp hk
    obtain ⟨hk3, hk4⟩ := Bool.and_eq_true_iff.mp hk1
    have hk3 := of_decide_eq_true hk3
    have hv := val_of hk4
    have at2 : R_swings_from [.str sw] (readS sw) := ⟨sw, hk2, rfl, rfl⟩
    cases hr : readS sw with
    | inl d =>
      rw [hr] at at2
      apply rr_seq
      · apply rn_asgG (vs := [1, 2, 3])
        · apply ed_is
          · apply ed_partition
            · walk_at "ev"
            · walk_at "ev"
            · decide +kernel
            · omega
          · rw [hpa]
        · walk_at "tg"
      apply rr_when (b := false)
      · apply et_is
        · walk_at "et"
        · rw [nk]
          rfl
      · intro z
        cases z
      intro _
      apply rr_ret
      refine ed_tup (ea_cons (ed_cb (by walk_at "ea") (rc_ints hv hk3)) (ea_cons (ed_callX (by walk_at "ea") at2) ea_nil)) (Nat.le_of_ble_eq_true rfl)
    | inr k =>
      rw [hr] at at2
      apply re_seq
      · apply rn_asgG (vs := [1, 2, 3])
        · apply ed_is
          · apply ed_partition
            · walk_at "ev"
            · walk_at "ev"
            · decide +kernel
            · omega
          · rw [hpa]
        · walk_at "tg"
      apply re_when (b := false)
      · apply et_is
        · walk_at "et"
        · rw [nk]
          rfl
      · intro z
        cases z
      intro _
      apply re_ret
      apply ee_tup2
      · exact ed_cb (by walk_at "ea") (rc_ints hv hk3)
      · exact ee_call (by walk_at "ea") at2
  · rw [if_neg nk]
    apply re_seq
    · apply rn_asgG (vs := [1, 2, 3])
      · apply ed_is
        · apply ed_partition
          · walk_at "ev"
          · walk_at "ev"
          · decide +kernel
          · omega
        · rw [hpa]
      · walk_at "tg"
    apply re_when (b := true)
    · apply et_is
      · walk_at "et"
      · rw [Bool.eq_false_iff.mpr nk]
        rfl
    · intro _
      apply re_raise
      walk_at "ea"
    · intro z
      cases z
/-! ### what the law hears -/
def outD : PyData ⊕ Int → PyData
  | .inl d => d
  | .inr k => .list [.int k]
def readB (b : Bool) (s : Str) : PyData ⊕ Int := if b = true then readH s else readS s
def okB2 (b : Bool) (s : Str) : Bool := if b = true then okH s else okS s
def R_heard (ds : List PyData) (d : PyData) : Prop := ∃ (s : Str) (b : Bool), okB2 b s = true ∧ ds = [.str s, .bool b] ∧ d = outD (readB b s)
theorem ok__law_heard (T : Txt K mg) : FnOk P w K mg base CX0 5 T.f__law_heard T.fd__law_heard ["_law_flat", "_law_is_heap_so"] (spD R_heard) := by
  refine T.F__law_heard.ok sc__law_heard (fun vs H Q E h => ?_) (fun cdv A outer s H vs Q E hr h => ?_)
  · obtain ⟨O, ds, d, _, hd, ⟨_, _, _, rfl, _⟩, _⟩ := h
    rw [hd.length]
    rfl
  have G_heap_from := ok_heap_from (P := P) (w := w) (base := base) T
  have hr_heap_from : Room 4 _ := hr.mono (by decide)
  have b_heap_from := T.b_heap_from
  have G_swings_from := ok_swings_from (P := P) (w := w) (base := base) T
  have hr_swings_from : Room 3 _ := hr.mono (by decide)
  have b_swings_from := T.b_swings_from
  have hu := hu64 hr
  refine ⟨_, (pss_cons (ps_asg (pe_tup (pa_cons pe_non (pa_cons pe_non pa_nil))) (kgTup (K := K) (n := 2) (by rfl) (by rfl) (pgs_cons (pg_name (i := 2) sc__law_heard.nd rfl (Or.inl rfl)) (pgs_cons (pg_name (i := 3) sc__law_heard.nd rfl (Or.inl rfl)) pgs_nil))))
  (pss_cons (ps_try_keep (i := 4) rfl rfl rfl sc__law_heard.nd rfl rfl ⟨by rfl, by decide, .inl T.E_BadText.gC⟩ (fun W pn xe tk _ => (pss_one (ps_set (i := 3) sc__law_heard.nd rfl (Or.inl rfl) (pe_ifExp (pt_val (pv 1)) (pe_callS G_heap_from hr_heap_from rfl T.m_heap_from T.F_heap_from.kp b_heap_from (fun σ => passAt tk σ) (pa_cons (pv 0) pa_nil)) (pe_callS G_swings_from hr_swings_from rfl T.m_swings_from T.F_swings_from.kp b_swings_from (fun σ => passAt tk σ) (pa_cons (pv 0) pa_nil)))))) (fun a oe cls d pn _ _ => (pss_one (ps_set (i := 2) sc__law_heard.nd rfl (Or.inl rfl) (pv 4)))))
  (pss_one (ps_ret (pe_ifExp (pt_cmpR op_isN (pv 2) pe_non (nomark _)) (pv 3) (pe_lst (pa_cons (pe_kept (by rfl) T.E_BadText (pv 2)) pa_nil))))))), ?_⟩
  obtain ⟨O, ds, d, ho, hd, ⟨x, b, hok, rfl, rfl⟩, k⟩ := h
  cases hd with
  | cons h1 h2 =>
    cases h1
    cases h2 with
    | cons h3 h4 =>
    cases h3
    cases h4
    refine ⟨(by show 2 ≤ sizeLine; decide), fun p np => ⟨p, [.non, .non], rfl, Evl.st_of upd_same, rfl, .non, [.non], rfl, .non, [], rfl, rfl, ?_⟩⟩
    have x1 : Evl.Ex H (upd H p (.tup [.non, .non])) := Evl.Ex.new np
    generalize upd H p (.tup [.non, .non]) = H1 at x1
    refine ⟨_, rfl, b, rfl, ?_⟩
    cases b with
    | true =>
      refine iteT ⟨_, rfl, O, [.str x], readH x, own_ex x1 ho, .cons (.str x) .nil, ⟨x, hok, rfl, rfl⟩, ?_⟩
      have k : ∀ v H', Evl.Ex H H' → Dq (sub H' O) v (outD (readH x)) → Q v H' := k
      generalize readH x = r at k
      cases r with
      | inl d =>
        refine fun v H2 x2 d2 => ?_
        refine ⟨_, rfl, rfl, _, rfl, iteT ⟨_, rfl, ?_⟩⟩
        exact k v H2 (x1.trans x2) d2
      | inr i =>
        refine fun dd H2 x2 n2 h2 => ⟨T.E_BadText.te, fun a na => ⟨_, rfl, fun n6 => ?_⟩⟩
        have x3 : Evl.Ex H2 (upd H2 a (exk a (.ref T.C_BadText) (some dd))) := Evl.Ex.new na
        have h3 := x3 _ _ h2
        refine ⟨_, rfl, rfl, _, rfl, iteF ⟨_, rfl, a, dd, .int i, rfl, upd_same, h3, (by show 1 ≤ sizeLine; decide), fun q nq => ?_⟩⟩
        have x4 := ((x1.trans x2).trans x3).trans (Evl.Ex.new (o := .lst [.int i]) nq)
        refine k (.ref q) _ x4 (.lst (sub_mk upd_same ?_) (.cons (.int i) .nil))
        exact not_own (own_ex ((x1.trans x2).trans x3) ho) nq
    | false =>
      refine iteF ⟨_, rfl, O, [.str x], readS x, own_ex x1 ho, .cons (.str x) .nil, ⟨x, hok, rfl, rfl⟩, ?_⟩
      have k : ∀ v H', Evl.Ex H H' → Dq (sub H' O) v (outD (readS x)) → Q v H' := k
      generalize readS x = r at k
      cases r with
      | inl d =>
        refine fun v H2 x2 d2 => ?_
        refine ⟨_, rfl, rfl, _, rfl, iteT ⟨_, rfl, ?_⟩⟩
        exact k v H2 (x1.trans x2) d2
      | inr i =>
        refine fun dd H2 x2 n2 h2 => ⟨T.E_BadText.te, fun a na => ⟨_, rfl, fun n6 => ?_⟩⟩
        have x3 : Evl.Ex H2 (upd H2 a (exk a (.ref T.C_BadText) (some dd))) := Evl.Ex.new na
        have h3 := x3 _ _ h2
        refine ⟨_, rfl, rfl, _, rfl, iteF ⟨_, rfl, a, dd, .int i, rfl, upd_same, h3, (by show 1 ≤ sizeLine; decide), fun q nq => ?_⟩⟩
        have x4 := ((x1.trans x2).trans x3).trans (Evl.Ex.new (o := .lst [.int i]) nq)
        refine k (.ref q) _ x4 (.lst (sub_mk upd_same ?_) (.cons (.int i) .nil))
        exact not_own (own_ex ((x1.trans x2).trans x3) ho) nq
end
end K04
namespace K04
open PySem L2 PyProof.Rows DL TL RZ
local macro_rules | `(tactic| walk_at "len") => `(tactic| first
  | exact Nat.le_of_ble_eq_true rfl
  | assumption
  | (simp only [List.length_map, List.length_cons, List.length_nil, dI, dS, dB, List.length_reverse, List.length_append, List.length_range, rngD]; omega)
  | omega)
local macro_rules | `(tactic| walk_at "rd") => `(tactic| first
  | with_reducible exact rd_add
  | with_reducible exact rd_sub
  | with_reducible exact rd_eqs
  | with_reducible exact rd_eqi
  | with_reducible exact rd_eqb
  | with_reducible exact rd_eqN
  | with_reducible exact rd_nes
  | with_reducible exact rd_nei
  | with_reducible exact rd_neb
  | with_reducible exact rd_B
  | with_reducible exact rd_isN
  | with_reducible exact rd_inS
  | ((with_reducible apply rd_cats); walk_at "len")
  | ((with_reducible apply rd_catl); walk_at "len")
  | ((with_reducible apply rd_repl) <;> (first | decide | omega))
  | ((with_reducible apply rd_reps); exact ⟨by decide +kernel, by intro _ _; decide +kernel, by intro _ _; decide +kernel⟩)
  | ((with_reducible apply rd_neD) <;> (first | rfl | decide +kernel))
  | ((with_reducible apply rd_eqD) <;> (first | rfl | decide +kernel))
  | (apply rd_I (C := CMul) (g := fun i j => i * j); exact (by first | exact .inl ⟨by decide, by decide⟩ | exact .inr ⟨by decide, by decide⟩))
  | (apply rd_I (C := CPow) (g := fun i j => i ^ j.toNat); exact ⟨by decide, by decide, by decide⟩))
local macro_rules | `(tactic| walk_at "rc") => `(tactic| first
  | with_reducible exact rc_lenL
  | with_reducible exact rc_lenT
  | with_reducible exact rc_int
  | with_reducible exact rc_intb
  | with_reducible exact rc_abs
  | with_reducible exact rc_all
  | with_reducible exact rc_list (.lst _)
  | with_reducible exact rc_list (.tup _)
  | with_reducible exact rc_tuple (.lst _)
  | with_reducible exact rc_tuple (.tup _)
  | ((with_reducible apply rc_str); first | assumption | decide +kernel)
  | ((with_reducible apply rc_lenS); assumption))
local macro_rules | `(tactic| walk_at "ea") => `(tactic| first
  | with_reducible exact ea_nil
  | ((with_reducible apply ea_cons); (walk_at "ev"); (walk_at "ea")))
local macro_rules | `(tactic| walk_at "call") => `(tactic| fail "call")
local macro_rules | `(tactic| walk_at "it") => `(tactic| first
  | ((with_reducible apply it_list); walk_at "ev")
  | ((with_reducible apply it_tup); walk_at "ev")
  | ((with_reducible apply it_rng); (walk_at "ea"); walk_at "len")
  | ((with_reducible apply it_enum); walk_at "ev")
  | ((with_reducible apply it_zip); (walk_at "ev"); (walk_at "ev"))
  | ((with_reducible apply it_zipA); rotate_left; (walk_at "ev"); (walk_at "ev"); first | exact .lst _ _ | exact .tup _ _)
  | ((with_reducible apply it_seq); rotate_left; (walk_at "ev"); first | exact .lst _ | exact .tup _ | assumption))
local macro_rules | `(tactic| walk_at "tgs") => `(tactic| first
  | with_reducible exact .nil
  | (apply TgsD.cons; (walk_at "tg"); (walk_at "tgs")))
local macro_rules | `(tactic| walk_at "tg") => `(tactic| first
  | ((with_reducible apply tg_name) <;> decide)
  | (apply tg_tup; (walk_at "tgs"); rfl))
local macro_rules | `(tactic| walk_at "all2") => `(tactic| first
  | exact .nil
  | (apply All2.cons; (apply Exists.intro; apply And.intro; (walk_at "tg"); (walk_at "ev")); (walk_at "all2")))
local macro_rules | `(tactic| walk_at "ej") => `(tactic| first
  | with_reducible exact .nil
  | (apply EvJ.cons; (walk_at "ev"); (walk_at "ej")))
local macro_rules | `(tactic| walk_at "eo") => `(tactic| first
  | with_reducible exact eo_none
  | ((with_reducible apply eo_some); walk_at "ev"))
local macro_rules | `(tactic| walk_at "ev") => `(tactic| first
  | ((with_reducible apply ed_var); exact rfl)
  | with_reducible exact ed_int
  | with_reducible exact ed_str
  | with_reducible exact ed_bl
  | with_reducible exact ed_non
  | ((with_reducible apply ed_tup); (walk_at "ea"); (walk_at "len"))
  | ((with_reducible apply ed_lst); (walk_at "ea"); (walk_at "len"))
  | ((with_reducible apply ed_call); (walk_at "ea"); (walk_at "call"))
  | ((with_reducible apply ed_callN); (walk_at "ea"); rfl; (exact fun H vs q => q); (walk_at "call"))
  | ((with_reducible apply ed_op); (walk_at "ev"); (walk_at "ev"); (walk_at "rd"))
  | ((with_reducible apply ed_isi); (walk_at "ev"); decide)
  | ((with_reducible apply ed_isiT); (walk_at "ev"); decide; decide)
  | ((with_reducible apply ed_neg); walk_at "ev")
  | ((with_reducible apply ed_andV); (walk_at "ev"); intro _; walk_at "ev")
  | ((with_reducible apply ed_orV); (walk_at "ev"); intro _; walk_at "ev")
  | ((with_reducible apply ed_notV); walk_at "ev")
  | ((with_reducible apply ed_split); (walk_at "ev"); (walk_at "ev"); (decide +kernel); walk_at "len")
  | ((with_reducible apply ed_partition); (walk_at "ev"); (walk_at "ev"); (decide +kernel); walk_at "len")
  | ((with_reducible apply ed_isdigit); walk_at "ev")
  | ((with_reducible apply ed_isascii); walk_at "ev")
  | ((with_reducible apply ed_startswith); (walk_at "ev"); walk_at "ev")
  | ((with_reducible apply ed_revL); walk_at "ev")
  | ((with_reducible apply ed_slL); (walk_at "ev"); (walk_at "eo"); walk_at "eo")
  | ((with_reducible apply ed_slS); (walk_at "ev"); (walk_at "eo"); (walk_at "eo"); walk_at "len")
  | ((with_reducible apply ed_joined); (walk_at "ej"); walk_at "len")
  | ((with_reducible apply ed_fmtI); (walk_at "ev"); first | assumption | decide +kernel)
  | ((with_reducible apply ed_fmtS); (walk_at "ev"); walk_at "len")
  | ((with_reducible apply ed_cb); (walk_at "ea"); walk_at "rc")
  | (apply ed_lc; (walk_at "it"); (walk_at "len"); intro D'; walk_at "all2"))
local macro_rules | `(tactic| walk_at "et") => `(tactic| first
  | ((with_reducible apply et_test); walk_at "ev")
  | ((with_reducible apply et_B); walk_at "ev")
  | ((with_reducible apply DL.et_not); walk_at "et")
  | ((with_reducible apply et_and); (walk_at "et"); intro _; walk_at "et")
  | ((with_reducible apply et_or); (walk_at "et"); intro _; walk_at "et"))
local macro_rules | `(tactic| walk_at "etb") => `(tactic| (apply et_is; (walk_at "et"); first | rfl | decide | (simp [tyIs, tyN]; done)))

section
variable {P : Program} {w : World} {K : PySem.W.Frag} {mg : Str → Option Value} {base : Heap}
/-! ### the law's own compare, of like data -/
theorem same_step (T : Txt K mg) {m : Nat} (G__law_same : FnOk P w K mg base CX0 m T.f__law_same T.fd__law_same ["_law_got", "_law_due"] (spD (R_same m))) : FnOk P w K mg base CX0 (m + 1) T.f__law_same T.fd__law_same ["_law_got", "_law_due"] (spD (R_same (m + 1))) := by
  refine pure_ok T.F__law_same sc__law_same (fun ds d h => ?_) (by decide) (fun cdv A outer s H E hr => ?_)
  · obtain ⟨x, _, rfl, rfl⟩ := h
    rfl
  have hr__law_same := hr
  have b__law_same := T.b__law_same
  have hu := hu64 hr
  refine ⟨_, (pss_cons (ps_if (pt_val (pe_callB (kIsiT (K := K) (by rfl)) (by rfl) T.z_isinstance (by decide +kernel) (pa_cons (pv 1) (pa_cons (pe_tup (pa_cons (pe_bltn (v := .ty "list") (u := .type "list") (by rfl) T.z_list (by decide +kernel) (by rfl)) (pa_cons (pe_bltn (v := .ty "tuple") (u := .type "tuple") (by rfl) T.z_tuple (by decide +kernel) (by rfl)) pa_nil))) pa_nil)))) (pss_cons (ps_if (pt_cmpR op_ne (pe_callB (kIsi (K := K) (by rfl)) (by rfl) T.z_isinstance (by decide +kernel) (pa_cons (pv 0) (pa_cons (pe_bltn (v := .ty "list") (u := .type "list") (by rfl) T.z_list (by decide +kernel) (by rfl)) pa_nil))) (pe_callB (kIsi (K := K) (by rfl)) (by rfl) T.z_isinstance (by decide +kernel) (pa_cons (pv 1) (pa_cons (pe_bltn (v := .ty "list") (u := .type "list") (by rfl) T.z_list (by decide +kernel) (by rfl)) pa_nil))) (nomark _)) (pss_one (ps_ret pe_bl)) pss_nil)
  (pss_cons (ps_if (pt_cmpR op_ne (pe_callB (kIsi (K := K) (by rfl)) (by rfl) T.z_isinstance (by decide +kernel) (pa_cons (pv 0) (pa_cons (pe_bltn (v := .ty "tuple") (u := .type "tuple") (by rfl) T.z_tuple (by decide +kernel) (by rfl)) pa_nil))) (pe_callB (kIsi (K := K) (by rfl)) (by rfl) T.z_isinstance (by decide +kernel) (pa_cons (pv 1) (pa_cons (pe_bltn (v := .ty "tuple") (u := .type "tuple") (by rfl) T.z_tuple (by decide +kernel) (by rfl)) pa_nil))) (nomark _)) (pss_one (ps_ret pe_bl)) pss_nil)
  (pss_one (ps_ret (pe_and (pe_cmpR op_eq (pe_callB (kLen (K := K) (by rfl)) (by rfl) T.z_len PySem.boot_len (pa_cons (pv 0) pa_nil)) (pe_callB (kLen (K := K) (by rfl)) (by rfl) T.z_len PySem.boot_len (pa_cons (pv 1) pa_nil)) (nomark _)) (pe_one (pe_callB (kAll (K := K) (by rfl) (by rfl)) (by rfl) T.z_all (by decide +kernel) (pa_cons (pe_lc (own := [("_law_mine", 2), ("_law_its", 3)]) rfl sc__law_same.nd (kiZipA (K := K) (by rfl) (by rfl) T.z_zip (pa_cons (pv 0) (pa_cons (pv 1) pa_nil))) (blkOk_by (N := N__law_same) (sc := defScope s__law_same) (by decide +kernel)) (fun _ _ _ _ _ => (kgTup (K := K) (n := 2) (by rfl) (by rfl) (pgs_cons (pg_name (i := 2) sc__law_same.nd rfl (Or.inl rfl)) (pgs_cons (pg_name (i := 3) sc__law_same.nd rfl (Or.inl rfl)) pgs_nil)))) (fun _ _ _ _ _ => pts_nil) (fun _ _ _ _ _ => (pe_call G__law_same hr__law_same rfl T.m__law_same T.F__law_same.kp b__law_same .nil pass0 (pa_cons (pv 2) (pa_cons (pv 3) pa_nil))))) pa_nil)))))))) pss_nil)
  (pss_cons (ps_if ((pw_or (pt_cmpR op_isN (pv 1) pe_non (nomark _)) (pw_or1 (pt_val (pe_callB (kIsiT (K := K) (by rfl)) (by rfl) T.z_isinstance (by decide +kernel) (pa_cons (pv 1) (pa_cons (pe_tup (pa_cons (pe_bltn (v := .ty "bool") (u := .type "bool") (by rfl) T.z_bool (by decide +kernel) (by rfl)) (pa_cons (pe_bltn (v := .ty "str") (u := .type "str") (by rfl) T.z_str (by decide +kernel) (by rfl)) pa_nil))) pa_nil))))))).pt (pss_one (ps_ret (pe_and (pe_cmpR op_eq (pv 0) (pv 1) (nomark _)) (pe_and (pe_cmpR op_eq (pe_callB (kIsi (K := K) (by rfl)) (by rfl) T.z_isinstance (by decide +kernel) (pa_cons (pv 0) (pa_cons (pe_bltn (v := .ty "bool") (u := .type "bool") (by rfl) T.z_bool (by decide +kernel) (by rfl)) pa_nil))) (pe_callB (kIsi (K := K) (by rfl)) (by rfl) T.z_isinstance (by decide +kernel) (pa_cons (pv 1) (pa_cons (pe_bltn (v := .ty "bool") (u := .type "bool") (by rfl) T.z_bool (by decide +kernel) (by rfl)) pa_nil))) (nomark _)) (pe_one (pe_cmpR op_eq (pe_cmpR op_isN (pv 0) pe_non (nomark _)) (pe_cmpR op_isN (pv 1) pe_non (nomark _)) (nomark _))))))) pss_nil)
  (pss_one (ps_ret (pe_and (pe_callB (kIsi (K := K) (by rfl)) (by rfl) T.z_isinstance (by decide +kernel) (pa_cons (pv 0) (pa_cons (pe_bltn (v := .ty "int") (u := .type "int") (by rfl) T.z_int (by decide +kernel) (by rfl)) pa_nil))) (pe_and (pe_not (pe_callB (kIsi (K := K) (by rfl)) (by rfl) T.z_isinstance (by decide +kernel) (pa_cons (pv 0) (pa_cons (pe_bltn (v := .ty "bool") (u := .type "bool") (by rfl) T.z_bool (by decide +kernel) (by rfl)) pa_nil)))) (pe_one (pe_cmpR op_eq (pv 0) (pv 1) (nomark _))))))))), fun O ds d hR => ?_⟩
  obtain ⟨x, hx, rfl, rfl⟩ := hR
  cases x with
  | dict kvs => exact hx.elim
  | list xs =>
    obtain ⟨hl, hx⟩ := hx
    have hz : (zipD xs xs).length ≤ 100000 := by
      rw [zip_same, List.length_map]
      omega
    apply rr_fst
    apply rr_if (b := true)
    · walk_at "etb"
    · intro _
      apply rr_when (b := false)
      · walk_at "etb"
      · intro z
        cases z
      intro _
      apply rr_when (b := false)
      · walk_at "etb"
      · intro z
        cases z
      intro _
      apply rr_ret
      apply ed_is
      · apply ed_andV
        · walk_at "ev"
        · intro _
          apply ed_cb
          · apply ea_cons
            · refine ed_lc (es := dB (xs.map fun _ => true)) (it_zipA (.lst xs xs) (by walk_at "ev") (by walk_at "ev")) hz fun D => ?_
              rw [zip_same]
              unfold dB
              rw [List.map_map]
              exact All2.of fun y hy => ⟨_, by walk_at "tg", ed_call (by walk_at "ea") ⟨y, hx y hy, rfl, rfl⟩⟩
            · exact ea_nil
          · exact rc_all
      · rw [all_true fun _ _ => rfl]
        simp
    · intro z
      cases z
  | tuple xs =>
    obtain ⟨hl, hx⟩ := hx
    have hz : (zipD xs xs).length ≤ 100000 := by
      rw [zip_same, List.length_map]
      omega
    apply rr_fst
    apply rr_if (b := true)
    · walk_at "etb"
    · intro _
      apply rr_when (b := false)
      · walk_at "etb"
      · intro z
        cases z
      intro _
      apply rr_when (b := false)
      · walk_at "etb"
      · intro z
        cases z
      intro _
      apply rr_ret
      apply ed_is
      · apply ed_andV
        · walk_at "ev"
        · intro _
          apply ed_cb
          · apply ea_cons
            · refine ed_lc (es := dB (xs.map fun _ => true)) (it_zipA (.tup xs xs) (by walk_at "ev") (by walk_at "ev")) hz fun D => ?_
              rw [zip_same]
              unfold dB
              rw [List.map_map]
              exact All2.of fun y hy => ⟨_, by walk_at "tg", ed_call (by walk_at "ea") ⟨y, hx y hy, rfl, rfl⟩⟩
            · exact ea_nil
          · exact rc_all
      · rw [all_true fun _ _ => rfl]
        simp
    · intro z
      cases z
  | none =>
    apply rr_when (b := false)
    · walk_at "etb"
    · intro z
      cases z
    intro _
    apply rr_when (b := true)
    · walk_at "etb"
    · intro _
      apply rr_ret
      apply ed_is
      · walk_at "ev"
      · rfl
    · intro z
      cases z
  | bool b =>
    apply rr_when (b := false)
    · walk_at "etb"
    · intro z
      cases z
    intro _
    apply rr_when (b := true)
    · walk_at "etb"
    · intro _
      apply rr_ret
      apply ed_is
      · walk_at "ev"
      · cases b <;> rfl
    · intro z
      cases z
  | str y =>
    apply rr_when (b := false)
    · walk_at "etb"
    · intro z
      cases z
    intro _
    apply rr_when (b := true)
    · walk_at "etb"
    · intro _
      apply rr_ret
      apply ed_is
      · walk_at "ev"
      · simp [tyIs, tyN]
    · intro z
      cases z
  | int i =>
    apply rr_when (b := false)
    · walk_at "etb"
    · intro z
      cases z
    intro _
    apply rr_when (b := false)
    · walk_at "etb"
    · intro z
      cases z
    · intro _
      apply rr_ret
      apply ed_is
      · walk_at "ev"
      · simp [tyIs, tyN]
theorem same_all (T : Txt K mg) : ∀ m, FnOk P w K mg base CX0 m T.f__law_same T.fd__law_same ["_law_got", "_law_due"] (spD (R_same m))
  | 0 => none_left fun ds d h => by
    obtain ⟨x, hx, _⟩ := h
    exact hx
  | m + 1 => same_step T (same_all T m)
theorem ok__law_same (T : Txt K mg) : FnOk P w K mg base CX0 7 T.f__law_same T.fd__law_same ["_law_got", "_law_due"] (spD (R_same 7)) := same_all T 7
end
end K04
namespace K04
open PySem L2 PyProof.Rows DL TL RZ
local macro_rules | `(tactic| walk_at "len") => `(tactic| first
  | exact Nat.le_of_ble_eq_true rfl
  | assumption
  | (simp only [List.length_map, List.length_cons, List.length_nil, dI, dS, dB, List.length_reverse, List.length_append, List.length_range, rngD]; omega)
  | omega)
local macro_rules | `(tactic| walk_at "rd") => `(tactic| first
  | with_reducible exact rd_add
  | with_reducible exact rd_sub
  | with_reducible exact rd_eqs
  | with_reducible exact rd_eqi
  | with_reducible exact rd_eqb
  | with_reducible exact rd_eqN
  | with_reducible exact rd_nes
  | with_reducible exact rd_nei
  | with_reducible exact rd_neb
  | with_reducible exact rd_B
  | with_reducible exact rd_isN
  | with_reducible exact rd_inS
  | ((with_reducible apply rd_cats); walk_at "len")
  | ((with_reducible apply rd_catl); walk_at "len")
  | ((with_reducible apply rd_repl) <;> (first | decide | omega))
  | ((with_reducible apply rd_reps); exact ⟨by decide +kernel, by intro _ _; decide +kernel, by intro _ _; decide +kernel⟩)
  | ((with_reducible apply rd_neD) <;> (first | rfl | decide +kernel))
  | ((with_reducible apply rd_eqD) <;> (first | rfl | decide +kernel))
  | (apply rd_I (C := CMul) (g := fun i j => i * j); exact (by first | exact .inl ⟨by decide, by decide⟩ | exact .inr ⟨by decide, by decide⟩))
  | (apply rd_I (C := CPow) (g := fun i j => i ^ j.toNat); exact ⟨by decide, by decide, by decide⟩))
local macro_rules | `(tactic| walk_at "rc") => `(tactic| first
  | with_reducible exact rc_lenL
  | with_reducible exact rc_lenT
  | with_reducible exact rc_int
  | with_reducible exact rc_intb
  | with_reducible exact rc_abs
  | with_reducible exact rc_all
  | with_reducible exact rc_list (.lst _)
  | with_reducible exact rc_list (.tup _)
  | with_reducible exact rc_tuple (.lst _)
  | with_reducible exact rc_tuple (.tup _)
  | ((with_reducible apply rc_str); first | assumption | decide +kernel)
  | ((with_reducible apply rc_lenS); assumption))
local macro_rules | `(tactic| walk_at "ea") => `(tactic| first
  | with_reducible exact ea_nil
  | ((with_reducible apply ea_cons); (walk_at "ev"); (walk_at "ea")))
local macro_rules | `(tactic| walk_at "call") => `(tactic| fail "call")
local macro_rules | `(tactic| walk_at "it") => `(tactic| first
  | ((with_reducible apply it_list); walk_at "ev")
  | ((with_reducible apply it_tup); walk_at "ev")
  | ((with_reducible apply it_rng); (walk_at "ea"); walk_at "len")
  | ((with_reducible apply it_enum); walk_at "ev")
  | ((with_reducible apply it_zip); (walk_at "ev"); (walk_at "ev"))
  | ((with_reducible apply it_zipA); rotate_left; (walk_at "ev"); (walk_at "ev"); first | exact .lst _ _ | exact .tup _ _)
  | ((with_reducible apply it_seq); rotate_left; (walk_at "ev"); first | exact .lst _ | exact .tup _ | assumption))
local macro_rules | `(tactic| walk_at "tgs") => `(tactic| first
  | with_reducible exact .nil
  | (apply TgsD.cons; (walk_at "tg"); (walk_at "tgs")))
local macro_rules | `(tactic| walk_at "tg") => `(tactic| first
  | ((with_reducible apply tg_name) <;> decide)
  | (apply tg_tup; (walk_at "tgs"); rfl))
local macro_rules | `(tactic| walk_at "all2") => `(tactic| first
  | exact .nil
  | (apply All2.cons; (apply Exists.intro; apply And.intro; (walk_at "tg"); (walk_at "ev")); (walk_at "all2")))
local macro_rules | `(tactic| walk_at "ej") => `(tactic| first
  | with_reducible exact .nil
  | (apply EvJ.cons; (walk_at "ev"); (walk_at "ej")))
local macro_rules | `(tactic| walk_at "eo") => `(tactic| first
  | with_reducible exact eo_none
  | ((with_reducible apply eo_some); walk_at "ev"))
local macro_rules | `(tactic| walk_at "ev") => `(tactic| first
  | ((with_reducible apply ed_var); exact rfl)
  | with_reducible exact ed_int
  | with_reducible exact ed_str
  | with_reducible exact ed_bl
  | with_reducible exact ed_non
  | ((with_reducible apply ed_tup); (walk_at "ea"); (walk_at "len"))
  | ((with_reducible apply ed_lst); (walk_at "ea"); (walk_at "len"))
  | ((with_reducible apply ed_call); (walk_at "ea"); (walk_at "call"))
  | ((with_reducible apply ed_callN); (walk_at "ea"); rfl; (exact fun H vs q => q); (walk_at "call"))
  | ((with_reducible apply ed_op); (walk_at "ev"); (walk_at "ev"); (walk_at "rd"))
  | ((with_reducible apply ed_isi); (walk_at "ev"); decide)
  | ((with_reducible apply ed_isiT); (walk_at "ev"); decide; decide)
  | ((with_reducible apply ed_neg); walk_at "ev")
  | ((with_reducible apply ed_andV); (walk_at "ev"); intro _; walk_at "ev")
  | ((with_reducible apply ed_orV); (walk_at "ev"); intro _; walk_at "ev")
  | ((with_reducible apply ed_notV); walk_at "ev")
  | ((with_reducible apply ed_split); (walk_at "ev"); (walk_at "ev"); (decide +kernel); walk_at "len")
  | ((with_reducible apply ed_partition); (walk_at "ev"); (walk_at "ev"); (decide +kernel); walk_at "len")
  | ((with_reducible apply ed_isdigit); walk_at "ev")
  | ((with_reducible apply ed_isascii); walk_at "ev")
  | ((with_reducible apply ed_startswith); (walk_at "ev"); walk_at "ev")
  | ((with_reducible apply ed_revL); walk_at "ev")
  | ((with_reducible apply ed_slL); (walk_at "ev"); (walk_at "eo"); walk_at "eo")
  | ((with_reducible apply ed_slS); (walk_at "ev"); (walk_at "eo"); (walk_at "eo"); walk_at "len")
  | ((with_reducible apply ed_joined); (walk_at "ej"); walk_at "len")
  | ((with_reducible apply ed_fmtI); (walk_at "ev"); first | assumption | decide +kernel)
  | ((with_reducible apply ed_fmtS); (walk_at "ev"); walk_at "len")
  | ((with_reducible apply ed_cb); (walk_at "ea"); walk_at "rc")
  | (apply ed_lc; (walk_at "it"); (walk_at "len"); intro D'; walk_at "all2"))
local macro_rules | `(tactic| walk_at "et") => `(tactic| first
  | ((with_reducible apply et_test); walk_at "ev")
  | ((with_reducible apply et_B); walk_at "ev")
  | ((with_reducible apply DL.et_not); walk_at "et")
  | ((with_reducible apply et_and); (walk_at "et"); intro _; walk_at "et")
  | ((with_reducible apply et_or); (walk_at "et"); intro _; walk_at "et"))
local macro_rules | `(tactic| walk_at "etb") => `(tactic| (apply et_is; (walk_at "et"); first | rfl | decide | (simp [tyIs, tyN]; done)))

section
variable {P : Program} {w : World} {K : PySem.W.Frag} {mg : Str → Option Value} {base : Heap}
theorem r_heard {s : Str} {b : Bool} (h : okB2 b s = true) : R_heard [.str s, .bool b] (outD (readB b s)) := ⟨s, b, h, rfl, rfl⟩
local macro_rules | `(tactic| walk_at "call") => `(tactic| exact r_heard (by decide +kernel))
def R_by_hand (ds : List PyData) (d : PyData) : Prop := ds = [] ∧ d = .bool true
theorem ok__law_by_hand_right (T : Txt K mg) : FnOk P w K mg base CX0 8 T.f__law_by_hand_right T.fd__law_by_hand_right [] (spD R_by_hand) := by
  refine pure_ok T.F__law_by_hand_right sc__law_by_hand_right (fun ds d h => ?_) (by decide) (fun cdv A outer s H E hr => ?_)
  · obtain ⟨rfl, rfl⟩ := h
    rfl
  have G__law_same := ok__law_same (P := P) (w := w) (base := base) T
  have hr__law_same : Room 7 _ := hr.mono (by decide)
  have b__law_same := T.b__law_same
  have G__law_heard := ok__law_heard (P := P) (w := w) (base := base) T
  have hr__law_heard : Room 5 _ := hr.mono (by decide)
  have b__law_heard := T.b__law_heard
  have hu := hu64 hr
  refine ⟨_, (pss_cons (ps_set (i := 0) sc__law_by_hand_right.nd rfl (Or.inl rfl) (pe_lst (pa_cons pe_str (pa_cons pe_str (pa_cons pe_str (pa_cons pe_str (pa_cons pe_str (pa_cons pe_str (pa_cons pe_str (pa_cons pe_str pa_nil))))))))))
  (pss_cons (ps_set (i := 0) sc__law_by_hand_right.nd rfl (Or.inl rfl) (pe_op op_cat (pv 0) (pe_lst (pa_cons pe_str (pa_cons pe_str (pa_cons pe_str (pa_cons pe_str (pa_cons pe_str (pa_cons pe_str (pa_cons pe_str pa_nil))))))))))
  (pss_cons (ps_set (i := 0) sc__law_by_hand_right.nd rfl (Or.inl rfl) (pe_op op_cat (pv 0) (pe_lst (pa_cons pe_str (pa_cons pe_str (pa_cons pe_str (pa_cons pe_str (pa_cons pe_str (pa_cons pe_str (pa_cons pe_str pa_nil))))))))))
  (pss_cons (ps_set (i := 0) sc__law_by_hand_right.nd rfl (Or.inl rfl) (pe_op op_cat (pv 0) (pe_lst (pa_cons pe_str (pa_cons pe_str (pa_cons pe_str (pa_cons pe_str (pa_cons pe_str (pa_cons pe_str pa_nil)))))))))
  (pss_cons (ps_setLc (i := 1) (own := [("_law_flat", 3)]) rfl sc__law_by_hand_right.nd rfl rfl (sw_true rfl rfl rfl rfl) (kiList (K := K) (by rfl) (pv 0)) (blkOk_by (N := N__law_by_hand_right) (sc := defScope s__law_by_hand_right) (by decide +kernel)) (fun _ _ _ _ _ => (pg_name (i := 3) sc__law_by_hand_right.nd rfl (Or.inl rfl))) (fun _ _ _ _ _ => pts_nil) (fun _ _ _ _ _ => (pe_call G__law_heard hr__law_heard rfl T.m__law_heard T.F__law_heard.kp b__law_heard .nil pass0 (pa_cons (pv 3) (pa_cons pe_bl pa_nil)))))
  (pss_cons (ps_if (pt_not (pt_val (pe_call G__law_same hr__law_same rfl T.m__law_same T.F__law_same.kp b__law_same .nil pass0 (pa_cons (pv 1) (pa_cons (pe_op op_rep (pe_lst (pa_cons (pe_lst (pa_cons pe_int pa_nil)) pa_nil)) (pe_callB (kLen (K := K) (by rfl)) (by rfl) T.z_len PySem.boot_len (pa_cons (pv 0) pa_nil))) pa_nil))))) (pss_one (ps_ret pe_bl)) pss_nil)
  (pss_cons (ps_set (i := 2) sc__law_by_hand_right.nd rfl (Or.inl rfl) (pe_lst (pa_cons pe_str (pa_cons pe_str (pa_cons pe_str (pa_cons pe_str (pa_cons pe_str (pa_cons pe_str (pa_cons pe_str pa_nil)))))))))
  (pss_cons (ps_set (i := 2) sc__law_by_hand_right.nd rfl (Or.inl rfl) (pe_op op_cat (pv 2) (pe_lst (pa_cons pe_str (pa_cons pe_str (pa_cons pe_str (pa_cons pe_str (pa_cons pe_str (pa_cons pe_str (pa_cons pe_str pa_nil))))))))))
  (pss_cons (ps_set (i := 2) sc__law_by_hand_right.nd rfl (Or.inl rfl) (pe_op op_cat (pv 2) (pe_lst (pa_cons pe_str (pa_cons pe_str (pa_cons pe_str (pa_cons pe_str (pa_cons pe_str (pa_cons pe_str pa_nil)))))))))
  (pss_cons (ps_set (i := 2) sc__law_by_hand_right.nd rfl (Or.inl rfl) (pe_op op_cat (pv 2) (pe_lst (pa_cons pe_str (pa_cons pe_str (pa_cons pe_str (pa_cons pe_str (pa_cons pe_str pa_nil))))))))
  (pss_cons (ps_set (i := 2) sc__law_by_hand_right.nd rfl (Or.inl rfl) (pe_op op_cat (pv 2) (pe_lst (pa_cons pe_str (pa_cons pe_str (pa_cons pe_str (pa_cons pe_str (pa_cons pe_str (pa_cons pe_str (pa_cons pe_str (pa_cons pe_str (pa_cons pe_str pa_nil))))))))))))
  (pss_cons (ps_setLc (i := 1) (own := [("_law_flat", 3)]) rfl sc__law_by_hand_right.nd rfl rfl (sw_true rfl rfl rfl rfl) (kiList (K := K) (by rfl) (pv 2)) (blkOk_by (N := N__law_by_hand_right) (sc := defScope s__law_by_hand_right) (by decide +kernel)) (fun _ _ _ _ _ => (pg_name (i := 3) sc__law_by_hand_right.nd rfl (Or.inl rfl))) (fun _ _ _ _ _ => pts_nil) (fun _ _ _ _ _ => (pe_call G__law_heard hr__law_heard rfl T.m__law_heard T.F__law_heard.kp b__law_heard .nil pass0 (pa_cons (pv 3) (pa_cons pe_bl pa_nil)))))
  (pss_cons (ps_if (pt_not (pt_val (pe_call G__law_same hr__law_same rfl T.m__law_same T.F__law_same.kp b__law_same .nil pass0 (pa_cons (pv 1) (pa_cons (pe_op op_rep (pe_lst (pa_cons (pe_lst (pa_cons pe_int pa_nil)) pa_nil)) (pe_callB (kLen (K := K) (by rfl)) (by rfl) T.z_len PySem.boot_len (pa_cons (pv 2) pa_nil))) pa_nil))))) (pss_one (ps_ret pe_bl)) pss_nil)
  (pss_cons (ps_set (i := 1) sc__law_by_hand_right.nd rfl (Or.inl rfl) (pe_lst (pa_cons (pe_call G__law_heard hr__law_heard rfl T.m__law_heard T.F__law_heard.kp b__law_heard .nil pass0 (pa_cons pe_str (pa_cons pe_bl pa_nil))) (pa_cons (pe_call G__law_heard hr__law_heard rfl T.m__law_heard T.F__law_heard.kp b__law_heard .nil pass0 (pa_cons pe_str (pa_cons pe_bl pa_nil))) pa_nil))))
  (pss_cons (ps_set (i := 1) sc__law_by_hand_right.nd rfl (Or.inl rfl) (pe_op op_cat (pv 1) (pe_lst (pa_cons (pe_call G__law_heard hr__law_heard rfl T.m__law_heard T.F__law_heard.kp b__law_heard .nil pass0 (pa_cons pe_str (pa_cons pe_bl pa_nil))) (pa_cons (pe_call G__law_heard hr__law_heard rfl T.m__law_heard T.F__law_heard.kp b__law_heard .nil pass0 (pa_cons pe_str (pa_cons pe_bl pa_nil))) pa_nil)))))
  (pss_one (ps_ret (pe_call G__law_same hr__law_same rfl T.m__law_same T.F__law_same.kp b__law_same .nil pass0 (pa_cons (pv 1) (pa_cons (pe_lst (pa_cons (pe_tup (pa_cons pe_int (pa_cons pe_int pa_nil))) (pa_cons (pe_tup pa_nil) (pa_cons (pe_tup (pa_cons pe_int (pa_cons (pe_tup (pa_cons pe_int (pa_cons pe_int pa_nil))) pa_nil))) (pa_cons (pe_tup (pa_cons pe_int (pa_cons (pe_tup pa_nil) pa_nil))) pa_nil))))) pa_nil)))))))))))))))))))), fun O ds d hR => ?_⟩
  obtain ⟨rfl, rfl⟩ := hR
  iterate 5
    apply rr_seq
    · apply rn_asg
      · walk_at "ev"
      · decide
  apply rr_when (b := false)
  · apply et_is
    · apply DL.et_not
      apply et_B
      apply ed_call
      · walk_at "ea"
      · apply r_same
        · kernel_rfl
        · exact okD_of rfl
    · rfl
  · intro z
    cases z
  intro _
  iterate 6
    apply rr_seq
    · apply rn_asg
      · walk_at "ev"
      · decide
  apply rr_when (b := false)
  · apply et_is
    · apply DL.et_not
      apply et_B
      apply ed_call
      · walk_at "ea"
      · apply r_same
        · kernel_rfl
        · exact okD_of rfl
    · rfl
  · intro z
    cases z
  intro _
  iterate 2
    apply rr_seq
    · apply rn_asg
      · walk_at "ev"
      · decide
  apply rr_ret
  apply ed_call
  · walk_at "ea"
  · apply r_same
    · kernel_rfl
    · exact okD_of rfl
end
end K04
namespace K04
open PySem L2 PyProof.Rows DL TL RZ
section
variable {P : Program} {w : World} {K : PySem.W.Frag} {mg : Str → Option Value} {base : Heap}
/-! ### the law's draws -/
theorem ok__law_take (T : Txt K mg) : FnOk P w K mg base CX0 1 T.f__law_take T.fd__law_take ["_law_box_here", "_law_size_so"] spTake := by
  refine T.F__law_take.ok sc__law_take (fun vs H Q E h => ?_) (fun cdv A outer s H vs Q E hr h => ?_)
  · obtain ⟨p, c, m, rfl, _⟩ := h
    rfl
  have hu := hu64 hr
  obtain ⟨p, c, m, rfl, ⟨b0, b1, b2, hb, h0, h1, h2, h3, h4⟩, hc, hm, hm2, k⟩ := h
  refine ⟨_, (pss_cons (ps_if (pt_cmpR op_gt (pe_ix (kIxL (K := K) (by rfl)) (pv 0) pe_int (fun _ _ => rfl)) pe_int (nomark _)) (pss_cons (ps_set (i := 2) sc__law_take.nd rfl (Or.inl rfl) (pe_op op_mod (pe_callTy call_int1 (by rfl) T.z_int (by decide +kernel) (pa_cons (pe_ix (kIxL (K := K) (by rfl)) (pv 0) pe_int (fun _ _ => rfl)) pa_nil)) (pv 1)))
  (pss_cons (ps_asg (pe_op op_fdivW (pe_ix (kIxL (K := K) (by rfl)) (pv 0) pe_int (fun _ _ => rfl)) (pv 1)) (pg_sub (pv 0) pe_int set_list))
  (pss_one (ps_ret (pv 2))))) pss_nil)
  (pss_cons (ps_asg (pe_op op_add (pe_ix (kIxL (K := K) (by rfl)) (pv 0) pe_int (fun _ _ => rfl)) pe_int) (pg_sub (pv 0) pe_int set_list))
  (pss_cons (ps_set (i := 3) sc__law_take.nd rfl (Or.inl rfl) (pe_op op_mod (pe_callTy call_int1 (by rfl) T.z_int (by decide +kernel) (pa_cons (pe_op op_mul (pe_op op_add (pe_ix (kIxL (K := K) (by rfl)) (pv 0) pe_int (fun _ _ => rfl)) (pe_op op_mul pe_int (pe_ix (kIxL (K := K) (by rfl)) (pv 0) pe_int (fun _ _ => rfl)))) (pe_op op_add pe_int (pe_ix (kIxL (K := K) (by rfl)) (pv 0) pe_int (fun _ _ => rfl)))) pa_nil)) pe_int))
  (pss_cons (ps_set (i := 4) sc__law_take.nd rfl (Or.inl rfl) (pe_op op_add (pe_op op_mod (pe_callTy call_int1 (by rfl) T.z_int (by decide +kernel) (pa_cons (pv 3) pa_nil)) pe_int) pe_int))
  (pss_cons (ps_set (i := 5) sc__law_take.nd rfl (Or.inl rfl) (pe_op op_mod (pe_callTy call_int1 (by rfl) T.z_int (by decide +kernel) (pa_cons (pe_op op_mul (pe_op op_add (pe_op op_add (pv 3) (pe_ix (kIxL (K := K) (by rfl)) (pv 0) pe_int (fun _ _ => rfl))) (pe_op op_fdivW (pe_ix (kIxL (K := K) (by rfl)) (pv 0) pe_int (fun _ _ => rfl)) pe_int)) (pv 4)) pa_nil)) pe_int))
  (pss_one (ps_ret (pe_op op_mod (pe_callTy call_int1 (by rfl) T.z_int (by decide +kernel) (pa_cons (pe_op op_fdivW (pe_op op_mod (pe_callTy call_int1 (by rfl) T.z_int (by decide +kernel) (pa_cons (pe_op op_add (pe_op op_mul (pv 5) pe_int) (pv 3)) pa_nil)) pe_int) pe_int) pa_nil)) (pv 1))))))))), ?_⟩
  have sq : SqL K H p [.int b0, .int b1, .int b2] := .inl (.inl hb)
  have e0 : Evl.Ev (tVar 0) (L2.start N__law_take [V.ref p, V.int m]) H (.ref p) := Evl.ev_var rfl
  have box : ∀ {σ : L2.St} {H' : Hp} {i : Int} {v : V} {xs : List V}, σ[0]? = some (some (.ref p)) → H' p = some (.lst xs) → atI xs i = some v → Evl.Ev (tOp (rIxL K) (tVar 0) (tC (.int i))) σ H' v :=
    fun hσ hH ha => Evl.ev_op (Evl.ev_var hσ) Evl.ev_c (Evl.rv_ixL (.inl (.inl hH)) ha)
  refine Evl.q_when (b := decide (0 < b0)) (Evl.et_test (Evl.ev_op (box rfl hb rfl) Evl.ev_c (Evl.rv_I0))) (fun z H1 x1 => ?_) (fun z H1 x1 => ?_)
  · have z := of_decide_eq_true z
    have hb1 := x1 _ _ hb
    refine Evl.q_asg (Evl.ev_op (rc1 (K := K) (box rfl hb1 rfl)) (Evl.ev_var rfl) (Evl.rv_I hm)) fun H2 x2 => ?_
    have hb2 := x2 _ _ hb1
    refine Evl.q_setL (l := p) (j := 0) hb2 (Evl.ev_op (box rfl hb2 rfl) (Evl.ev_var rfl) (Evl.rv_I ⟨hm, hm2⟩)) (Evl.ev_var rfl) (Evl.ev_c (v := .int ((0 : Nat) : Int))) (show 0 < 3 by decide) fun H3 x3 => ?_
    refine Evl.s_ret (Evl.ev_var rfl) fun H4 x4 => ?_
    refine k (b0 % m) H4 (Int.emod_nonneg _ (by omega)) (Int.emod_lt_of_pos _ hm) ?_ ?_
    · exact ((Ex.o [p] (x1.trans (x2.trans x3))).trans (ExO.upd (List.mem_singleton.mpr rfl))).trans (Ex.o [p] x4)
    · exact ⟨b0 / m, b1, b2, x4 _ _ upd_same, Int.ediv_nonneg h0 (by omega), h1, h2, h3, by omega⟩
  · have z := of_decide_eq_false z
    have hb1 := x1 _ _ hb
    refine Evl.q_setL (l := p) (j := 2) hb1 (Evl.ev_op (box rfl hb1 rfl) Evl.ev_c Evl.rv_I0) (Evl.ev_var rfl) (Evl.ev_c (v := .int ((2 : Nat) : Int))) (show 2 < 3 by decide) fun H2 x2 => ?_
    have hb2 : upd H2 p (.lst (([.int b0, .int b1, .int b2] : List V).set 2 (.int (b2 + 1)))) p = some (.lst [.int b0, .int b1, .int (b2 + 1)]) := upd_same
    refine Evl.q_asg (Evl.ev_op (rc1 (K := K) (Evl.ev_op (Evl.ev_op (box rfl hb2 rfl) (Evl.ev_op Evl.ev_c (box rfl hb2 rfl) (Evl.rv_I (.inl ⟨by decide, by decide⟩))) Evl.rv_I0) (Evl.ev_op Evl.ev_c (box rfl hb2 rfl) Evl.rv_I0) (Evl.rv_I (.inr ⟨by omega, by omega⟩)))) Evl.ev_c (Evl.rv_I (by decide))) fun H3 x3 => ?_
    have hb3 := x3 _ _ hb2
    have o1 : ∀ x : Int, 0 ≤ x % 2147483647 ∧ x % 2147483647 < 2147483647 := fun x => ⟨Int.emod_nonneg _ (by decide), Int.emod_lt_of_pos _ (by decide)⟩
    generalize ho : ((b1 + 48271 * (b2 + 1)) * (39373 + (b2 + 1))) % 2147483647 = once
    have ho1 := o1 ((b1 + 48271 * (b2 + 1)) * (39373 + (b2 + 1)))
    rw [ho] at ho1
    refine Evl.q_asg (v := .int (once % 40009 + 7)) (Evl.ev_op (Evl.ev_op (rc1 (K := K) (Evl.ev_var rfl)) Evl.ev_c (Evl.rv_I (by decide))) Evl.ev_c Evl.rv_I0) fun H4 x4 => ?_
    have hb4 := x4 _ _ hb3
    have hf : 0 ≤ once % 40009 + 7 ∧ once % 40009 + 7 < 40016 := by
      have q1 := Int.emod_nonneg once (b := 40009) (by decide)
      have q2 := Int.emod_lt_of_pos once (b := 40009) (by decide)
      omega
    refine Evl.q_asg (Evl.ev_op (rc1 (K := K) (Evl.ev_op (Evl.ev_op (Evl.ev_op (Evl.ev_var rfl) (box rfl hb4 rfl) Evl.rv_I0) (Evl.ev_op (box rfl hb4 rfl) Evl.ev_c (Evl.rv_I ⟨by decide, by decide⟩)) Evl.rv_I0) (Evl.ev_var rfl) (Evl.rv_I (.inr ⟨by omega, by omega⟩)))) Evl.ev_c (Evl.rv_I (by decide))) fun H5 x5 => ?_
    have hb5 := x5 _ _ hb4
    refine Evl.s_ret (Evl.ev_op (rc1 (K := K) (Evl.ev_op (Evl.ev_op (rc1 (K := K) (Evl.ev_op (Evl.ev_op (Evl.ev_var rfl) Evl.ev_c (Evl.rv_I (.inr ⟨by decide, by decide⟩))) (Evl.ev_var rfl) Evl.rv_I0)) Evl.ev_c (Evl.rv_I (by decide))) Evl.ev_c (Evl.rv_I ⟨by decide, by decide⟩))) (Evl.ev_var rfl) (Evl.rv_I hm)) fun H6 x6 => ?_
    refine k _ H6 (Int.emod_nonneg _ (by omega)) (Int.emod_lt_of_pos _ hm) ?_ ?_
    · exact (((Ex.o [p] x1).trans (Ex.o [p] x2)).trans (ExO.upd (List.mem_singleton.mpr rfl))).trans (Ex.o [p] (x3.trans (x4.trans (x5.trans x6))))
    · exact ⟨b0, b1, b2 + 1, x6 _ _ hb5, h0, h1, h2, by omega, by omega⟩
theorem ok__law_of (T : Txt K mg) : FnOk P w K mg base CX0 2 T.f__law_of T.fd__law_of ["_law_box_here", "_law_goods_so"] spOf := by
  refine T.F__law_of.ok sc__law_of (fun vs H Q E h => ?_) (fun cdv A outer s H vs Q E hr h => ?_)
  · obtain ⟨p, c, x, ds, rfl, _⟩ := h
    rfl
  have G__law_take := ok__law_take (P := P) (w := w) (base := base) T
  have hr__law_take : Room 1 _ := hr.mono (by decide)
  have b__law_take := T.b__law_take
  have hu := hu64 hr
  obtain ⟨p, c, x, ds, rfl, hb, hc, hx, hl, hl2, k⟩ := h
  refine ⟨_, (pss_one (ps_ret (pe_ix (kIxL (K := K) (by rfl)) (pv 1) (pe_call G__law_take hr__law_take rfl T.m__law_take T.F__law_take.kp b__law_take .nil pass0 (pa_cons (pv 0) (pa_cons (pe_callB (kLen (K := K) (by rfl)) (by rfl) T.z_len PySem.boot_len (pa_cons (pv 1) pa_nil)) pa_nil))) (fun _ _ => rfl)))), ?_⟩
  cases hx with
  | @lst a xs _ ha hxs =>
    have len := hxs.length
    have hlog : ((ds.length : Int)).natAbs.log2 < 9000 := by
      have e : ((ds.length : Int)).natAbs = ds.length := by omega
      rw [e]
      exact Nat.lt_trans ((Nat.log2_lt (by omega)).mpr (show ds.length < 2 ^ 10 by omega)) (by decide)
    refine ⟨_, rfl, _, rfl, _, rfl, a, xs, rfl, .inl (Evl.sq_of (sub_of ha).1), p, c, (ds.length : Int), ?_, hb, hc, by omega, hlog, fun r H1 r0 r1 e1 b1 => ?_⟩
    · rw [← len]
      rfl
    have hr2 : r.toNat < ds.length := by omega
    obtain ⟨v, hv, dv⟩ := hxs.get (List.getElem?_eq_getElem hr2)
    refine ⟨a, xs, r, v, rfl, rfl, Evl.sq_of (e1.at (sub_of ha).1 (sub_of ha).2), ?_, k _ v H1 (List.getElem_mem hr2) (dv.mono e1) e1 b1⟩
    have e : r = ((r.toNat : Nat) : Int) := by omega
    rw [e]
    exact atI_nat hv
theorem ok__law_box (T : Txt K mg) : FnOk P w K mg base CX0 1 T.f__law_box T.fd__law_box ["_law_script", "_law_k"] (spBox K) := by
  refine T.F__law_box.ok sc__law_box (fun vs H Q E h => ?_) (fun cdv A outer s H vs Q E hr h => ?_)
  · obtain ⟨a, cs, j, rfl, _⟩ := h
    rfl
  have hu := hu64 hr
  obtain ⟨a, cs, j, rfl, hs, j0, j2, k⟩ := h
  refine ⟨_, (pss_cons (ps_set (i := 2) sc__law_box.nd rfl (Or.inl rfl) (pe_ifExp (pt_cmpR op_lt (pv 1) (pe_callB (kLen (K := K) (by rfl)) (by rfl) T.z_len PySem.boot_len (pa_cons (pv 0) pa_nil)) (nomark _)) (pe_ix (kIxL (K := K) (by rfl)) (pv 0) (pv 1) (fun _ _ => rfl)) pe_int))
  (pss_one (ps_ret (pe_lst (pa_cons (pe_op op_mul (pe_callB call_abs (by rfl) T.z_abs (by decide +kernel) (pa_cons (pv 2) pa_nil)) (pe_callTy call_int1 (by rfl) T.z_int (by decide +kernel) (pa_cons (pe_cmpR op_ge (pe_callB call_abs (by rfl) T.z_abs (by decide +kernel) (pa_cons (pv 2) pa_nil)) (pe_op op_pow pe_int pe_int) (nomark _)) pa_nil))) (pa_cons (pe_op op_add (pe_op op_add (pe_op op_mod (pe_callTy call_int1 (by rfl) T.z_int (by decide +kernel) (pa_cons (pv 2) pa_nil)) pe_int) (pe_op op_mul pe_int (pv 1))) pe_int) (pa_cons pe_int pa_nil))))))), ?_⟩
  have body : ∀ i : Int, Evl.Ev (tIf (tTest (tOp (rI0 fun i j => .bl (decide (i < j))) (tVar 1) (tCB (rLen K) (tCons (tVar 0) tNil)))) (tOp (rIxL K) (tVar 0) (tVar 1)) (tC (.int 0))) (L2.start N__law_box [V.ref a, V.int j]) H (.int (if j < (cs.length : Int) then cs.getD j.toNat 0 else 0)) := fun _ => by
    refine Evl.ev_if (b := decide (j < (cs.length : Int))) (Evl.et_test (Evl.ev_op (Evl.ev_var rfl) (Evl.ev_is (Evl.ev_len (Evl.ev_var rfl) hs) (by rw [List.length_map])) Evl.rv_I0)) (fun z => ?_) (fun z => ?_)
    · have z := of_decide_eq_true z
      rw [if_pos z]
      have hj : j.toNat < cs.length := by omega
      refine Evl.ev_op (Evl.ev_var rfl) (Evl.ev_var rfl) (Evl.rv_ixL hs ?_)
      have e : j = ((j.toNat : Nat) : Int) := by omega
      rw [e]
      refine atI_nat ?_
      rw [List.getElem?_map, List.getElem?_eq_getElem hj, Int.toNat_natCast, List.getD_eq_getElem?_getD, List.getElem?_eq_getElem hj]
      rfl
    · rw [if_neg (of_decide_eq_false z)]
      exact Evl.ev_c
  refine Evl.q_asg (body 0) fun H1 x1 => ?_
  generalize (if j < (cs.length : Int) then cs.getD j.toNat 0 else 0) = cell
  have ab : Evl.Ev (tCB (fun xs H Q => ∃ i, xs = [.int i] ∧ Q (.int (if i < 0 then -i else i)) H) (tCons (tVar 2) tNil)) ((L2.start N__law_box [V.ref a, V.int j]).set 2 (some (.int cell))) H1 (.int (if cell < 0 then -cell else cell)) := rabs (Evl.ev_var rfl)
  refine Evl.s_retL (Evl.el_lst (Evl.ea_cons (Evl.ev_op ab (rcb (K := K) (Evl.ev_op ab (Evl.ev_op Evl.ev_c Evl.ev_c (Evl.rv_I ⟨by decide, by decide, by decide⟩)) Evl.rv_I0)) (Evl.rv_I (.inr ?_)))
    (Evl.ea_cons (Evl.ev_op (Evl.ev_op (Evl.ev_op (rc1 (K := K) (Evl.ev_var rfl)) Evl.ev_c (Evl.rv_I (by decide))) (Evl.ev_op Evl.ev_c (Evl.ev_var rfl) (Evl.rv_I (.inl ⟨by decide, by decide⟩))) Evl.rv_I0) Evl.ev_c Evl.rv_I0) (Evl.ea_cons Evl.ev_c Evl.ea_nil))) (Nat.le_of_ble_eq_true rfl)) fun p H2 hp x2 h2 => ?_
  · generalize decide (10 ^ Int.toNat 18 ≤ if cell < 0 then -cell else cell) = b
    cases b <;> exact ⟨by decide, by decide⟩
  · refine k p H2 (Evl.fresh_back x1 hp) (x1.trans x2) ⟨_, _, _, h2, ?_, ?_, ?_, by decide, by decide⟩
    · have q := abs_pos cell
      refine Int.mul_nonneg q ?_
      generalize decide (10 ^ Int.toNat 18 ≤ if cell < 0 then -cell else cell) = b
      cases b <;> decide
    · have q1 := Int.emod_nonneg cell (b := 2305843009213693951) (by decide)
      omega
    · have q2 := Int.emod_lt_of_pos cell (b := 2305843009213693951) (by decide)
      omega
theorem ok__law_cells (T : Txt K mg) : FnOk P w K mg base CX0 1 T.f__law_cells T.fd__law_cells ["_law_script", "_law_top_so"] (spCells K) := by
  refine T.F__law_cells.ok sc__law_cells (fun vs H Q E h => ?_) (fun cdv A outer s H vs Q E hr h => ?_)
  · obtain ⟨a, ns, rfl, _⟩ := h
    rfl
  have hu := hu64 hr
  obtain ⟨a, ns, rfl, hs, h63, k⟩ := h
  refine ⟨_, (pss_cons (ps_set (i := 2) sc__law_cells.nd rfl (Or.inl rfl) (kOrT (K := K) (by rfl) (pe_callTy (kList (K := K) (by rfl)) (by rfl) T.z_list (by decide +kernel) (pa_cons (pe_slice (kSlL (K := K) (by rfl)) (pv 0) po_none (po_some (pv 1))) pa_nil)) (pe_one (pe_lst (pa_cons pe_int pa_nil)))))
  (pss_cons (ps_for PassesOwn.never rfl (kiEnum (K := K) (by rfl) (by rfl) T.z_enumerate (pa_cons (pe_slice (kSlL (K := K) (by rfl)) (pv 0) (po_some (pv 1)) (po_some pe_int)) pa_nil)) (kgTup (K := K) (n := 2) (by rfl) (by rfl) (pgs_cons (pg_name (i := 3) sc__law_cells.nd rfl (Or.inl rfl)) (pgs_cons (pg_name (i := 4) sc__law_cells.nd rfl (Or.inl rfl)) pgs_nil))) (pss_cons (ps_set (i := 5) sc__law_cells.nd rfl (Or.inl rfl) (pe_op op_mod (pe_callTy call_int1 (by rfl) T.z_int (by decide +kernel) (pa_cons (pv 3) pa_nil)) (pv 1)))
  (pss_one (ps_asg (pe_op op_add (pe_ix (kIxL (K := K) (by rfl)) (pv 2) (pv 5) (fun _ _ => rfl)) (pe_op op_mul (pv 4) (pe_op op_add (pv 3) pe_int))) (pg_sub (pv 2) (pv 5) set_list)))))
  (pss_one (ps_ret (pv 2))))), ?_⟩
  -- what stands in slot 2: a new list of one to three ints, three if the script goes on
  have first : ∀ (D : Ends) (u : TS), (∀ (p : Addr) (cs : List Int) (H1 : Hp), H p = none → Evl.Ex H H1 → H1 p = some (.lst (cs.map V.int)) → 1 ≤ cs.length → cs.length ≤ 3 → (3 < ns.length → cs.length = 3) → u D ((L2.start N__law_cells [V.ref a, V.int 3]).set 2 (some (.ref p))) H1) →
      tSeq (tAsg (tOrT K (tCB (rListOf K) (tCons (tSl (rSlL K) (tVar 0) tNoPart (tPart (tVar 1))) tNil)) (tLst (tCons (tC (.int 0)) tNil))) (gName 2)) u D (L2.start N__law_cells [V.ref a, V.int 3]) H := fun D u hu' => by
    have e3 : cutV (ns.map V.int) none (some 3) = (ns.take 3).map V.int := by
      rw [cut_map, HT.sIx_none, show HT.sIx ns.length ns.length (some 3) = min 3 ns.length from HT.sIx_nat _ _ 3, List.drop_zero, Nat.sub_zero]
      congr 1
      by_cases c : ns.length ≤ 3
      · rw [Nat.min_eq_right c, List.take_of_length_le (Nat.le_refl _), List.take_of_length_le c]
      · rw [Nat.min_eq_left (by omega)]
    refine ⟨_, rfl, _, rfl, 3, rfl, a, ns.map V.int, rfl, hs, fun p1 n1 => ?_⟩
    have x1 : Evl.Ex H (upd H p1 (.lst (cutV (ns.map V.int) none (some 3)))) := Evl.Ex.new n1
    rw [e3] at x1 ⊢
    refine ⟨p1, _, rfl, .inl (Evl.sq_of upd_same), fun p2 n2 => ?_⟩
    have x2 := x1.trans (Evl.Ex.new (o := .lst ((ns.take 3).map V.int)) n2)
    refine ⟨!((ns.take 3).map V.int).isEmpty, .inl ⟨_, Evl.sq_of upd_same, rfl⟩, ?_⟩
    cases ns with
    | nil =>
      refine iteF ⟨(by show 1 ≤ sizeLine; decide), fun p3 n3 => ?_⟩
      exact hu' p3 [0] _ (Evl.fresh_back x2 n3) (x2.trans (Evl.Ex.new n3)) upd_same (by decide) (by decide) (fun z => by simp at z)
    | cons n0 nr =>
      refine iteT ?_
      refine hu' p2 ((n0 :: nr).take 3) _ (Evl.fresh_back x1 n2) x2 upd_same ?_ ?_ fun z => ?_
      · rw [List.length_take, List.length_cons]
        omega
      · rw [List.length_take]
        omega
      · rw [List.length_take]
        omega
  refine first _ _ fun p cs H1 hp x1 h1 c1 c3 cz => ?_
  have hs1 : SqL K H1 a (ns.map V.int) := Evl.ex_l x1 hs
  refine ⟨_, rfl, _, rfl, 3, rfl, 63, rfl, a, ns.map V.int, rfl, hs1, fun q nq => ?_⟩
  rw [cut_map]
  generalize hms : (ns.drop (HT.sIx ns.length 0 (some 3))).take (HT.sIx ns.length ns.length (some 63) - HT.sIx ns.length 0 (some 3)) = ms
  have hm : 0 < ms.length → 3 < ns.length := fun z => by
    have e : HT.sIx ns.length 0 (some 3) = min 3 ns.length := HT.sIx_nat _ _ 3
    rw [← hms, List.length_take, List.length_drop, e] at z
    omega
  have hmz : ms.length ≤ 63 := by
    rw [← hms, List.length_take, List.length_drop]
    omega
  have x2 : Evl.Ex H1 (upd H1 q (.lst (ms.map V.int))) := Evl.Ex.new nq
  have hnp : H p = none := hp
  have npq : q ≠ p := fun z => by rw [z, h1] at nq; cases nq
  refine ⟨q, ms.map V.int, rfl, Evl.sq_of upd_same, for_it (walk_enum (xs := ms.map V.int)) (fun i σ H2 => ∃ (cs2 : List Int) (o3 o4 o5 : Option V), σ = [some (.ref a), some (.int 3), some (.ref p), o3, o4, o5] ∧ cs2.length = cs.length ∧ H2 p = some (.lst (cs2.map V.int)) ∧ H2 q = some (.lst (ms.map V.int)) ∧ Evl.Ex H H2)
    ⟨cs, none, none, none, rfl, rfl, x2 _ _ h1, upd_same, x1.trans x2⟩ (fun i σ H2 _ ⟨_, _, _, _, _, _, _, hq, _⟩ => Evl.sq_of hq) ?_ ?_⟩
  · rintro i x σ H2 H3 hi ⟨cs2, o3, o4, o5, rfl, l2, hp2, hq2, x3⟩ ⟨Tt, y1, y2, rfl, nT, rfl, q1, q2⟩
    cases q1
    have q2 : (ms.map V.int)[i]? = some y2 := q2
    obtain ⟨z, rfl⟩ : ∃ z, y2 = V.int z := by
      rw [List.getElem?_map] at q2
      cases e : ms[i]? with
      | none =>
        rw [e] at q2
        cases q2
      | some z =>
        rw [e] at q2
        exact ⟨z, (Option.some.inj q2).symm⟩
    have x4 : Evl.Ex H2 (upd H2 Tt (.tup [.int (i : Nat), .int z])) := Evl.Ex.new nT
    have hi2 : i < ms.length := by
      rw [List.length_map] at hi
      exact hi
    have hcs : cs2.length = 3 := by
      rw [l2]
      exact cz (hm (by omega))
    refine ⟨Tt, [.int (i : Nat), .int z], rfl, Evl.st_of upd_same, rfl, .int (i : Nat), [.int z], rfl, .int z, [], rfl, rfl, ?_⟩
    -- at = int(k) % top
    refine Evl.q_asg (Evl.ev_op (rc1 (K := K) (Evl.ev_var rfl)) (Evl.ev_var rfl) (Evl.rv_I (by decide))) fun H4 x5 => ?_
    obtain ⟨j, hj, hj3⟩ : ∃ j : Nat, ((i : Nat) : Int) % 3 = (j : Int) ∧ j < 3 := ⟨i % 3, by omega, Nat.mod_lt _ (by decide)⟩
    rw [hj]
    have hp4 : H4 p = some (.lst (cs2.map V.int)) := x5 _ _ (x4 _ _ hp2)
    have hjl : j < (cs2.map V.int).length := by rw [List.length_map]; omega
    have hget : (cs2.map V.int)[j]? = some (.int (cs2[j]'(by omega))) := by
      rw [List.getElem?_map, List.getElem?_eq_getElem (by omega)]
      rfl
    refine Evl.s_setL (l := p) (j := j) hp4 (Evl.ev_op (Evl.ev_op (Evl.ev_var rfl) (Evl.ev_var rfl) (Evl.rv_ixL (Evl.sq_of hp4) (atI_nat hget))) (Evl.ev_op (Evl.ev_var rfl) (Evl.ev_op (Evl.ev_var rfl) Evl.ev_c Evl.rv_I0) (Evl.rv_I (.inr ⟨by omega, by omega⟩))) Evl.rv_I0) (Evl.ev_var rfl) (Evl.ev_var rfl) hjl fun H5 x6 => ?_
    refine ⟨cs2.set j (cs2[j]'(by omega) + z * (((i : Nat) : Int) + 2)), some (.int (i : Nat)), some (.int z), some (.int (j : Int)), rfl, by rw [List.length_set]; exact l2, ?_, ?_, ?_⟩
    · rw [List.map_set]
      exact upd_same
    · rw [upd_ne npq]
      exact x6 _ _ (x5 _ _ (x4 _ _ hq2))
    · exact Evl.Ex.mut (x3.trans (x4.trans (x5.trans x6))) hnp
  · rintro σ H2 ⟨cs2, o3, o4, o5, rfl, l2, hp2, hq2, x3⟩
    exact ⟨_, rfl, k p cs2 H2 hnp x3 hp2 (by omega) (by omega)⟩
end
end K04
namespace K04
open PySem L2 PyProof.Rows DL TL RZ
theorem swT_tl {n : Int} {ns : List Int} (h : 0 ≤ n) : ∃ r, (swT (n :: ns)).cps.toList = numL n.toNat ++ r := by
  unfold swT
  rw [if_neg (by simp), join_eq]
  have e := tl_join (" " : Str) ((n :: ns).map numS)
  refine ⟨(if ns = [] then [] else tl (" " : Str) ++ joinL (tl (" " : Str)) ((ns.map numS).map tl)), ?_⟩
  rw [show (Str.join (" " : Str) ((n :: ns).map numS)).cps.toList = tl (Str.join (" " : Str) ((n :: ns).map numS)) from rfl, e]
  cases ns with
  | nil =>
    show tl (numS n) = numL n.toNat ++ []
    rw [List.append_nil]
    exact numS_tl h
  | cons m ns =>
    show tl (numS n) ++ (tl (" " : Str) ++ joinL (tl (" " : Str)) (((m :: ns).map numS).map tl)) = _
    rw [show tl (numS n) = numL n.toNat from numS_tl h, if_neg (by simp)]
theorem swT_dash {ns : List Int} (h : ∀ n, n ∈ ns → 0 ≤ n) (e : swT ns = ("-" : Str)) : ns = [] := by
  cases ns with
  | nil => rfl
  | cons n ns =>
    obtain ⟨r, q⟩ := swT_tl (ns := ns) (h n (List.mem_cons_self ..))
    rw [e] at q
    have d0 : ("-" : Str).cps.toList = [45] := by decide +kernel
    rw [d0] at q
    cases z : numL n.toNat with
    | nil => exact absurd z (numL_ne _)
    | cons c s =>
      have hc := numL_digits n.toNat c (by rw [z]; exact List.mem_cons_self ..)
      rw [z] at q
      have := (List.cons.inj q).1
      omega
theorem split_nums {ns : List Int} (hne : ns ≠ []) (h : ∀ n, n ∈ ns → 0 ≤ n) : Txt.split (swT ns) (" " : Str) = ns.map numS := by
  unfold swT
  rw [if_neg hne]
  have ey : tl (" " : Str) = 32 :: [] := by decide +kernel
  refine split_join ey (by decide +kernel) (fun z => hne (List.map_eq_nil_iff.mp z)) fun p hp => ?_
  obtain ⟨n, hn, rfl⟩ := List.mem_map.mp hp
  exact numS_free (h n hn) (.inl (by decide))

theorem cat_tl (a b : Str) : (a ++ b).cps.toList = a.cps.toList ++ b.cps.toList := tl_append a b
/-! ### each text of at most 640 signs is read by the rules -/
theorem ascii_digit : ∀ c : Fin 128, Unicode.isDigit c.val = true → 48 ≤ c.val ∧ c.val ≤ 57 := by decide +kernel
theorem num_int {p : Str} (h : numOk p = true) (hl : p.length ≤ 640) : (PySem.intText? p).isSome = true := by
  unfold numOk at h
  by_cases c : (!(Txt.isascii p && Txt.isdigit p)) = true
  · rw [if_pos c] at h
    cases h
  · have c2 : (Txt.isascii p && Txt.isdigit p) = true := by simpa using c
    obtain ⟨c3, c4⟩ := Bool.and_eq_true_iff.mp c2
    have c5 : (decide (p.length > 0) && p.cps.all Unicode.isDigit) = true := c4
    obtain ⟨c6, c7⟩ := Bool.and_eq_true_iff.mp c5
    have c6 := of_decide_eq_true c6
    have c8 : p.cps.all (· < 128) = true := c3
    rw [← Array.all_toList, List.all_eq_true] at c7 c8
    have dig : NumText.AllDigits p.cps.toList := fun x hx => by
      have h1 := c7 x hx
      have h2 := of_decide_eq_true (c8 x hx)
      exact ascii_digit ⟨x, h2⟩ h1
    have ne : p.cps.toList ≠ [] := fun z => by
      rw [str_len, z] at c6
      exact Nat.lt_irrefl 0 c6
    rw [intText_digits dig ne (by omega)]
    rfl
theorem size_num {p : Str} (h : sizeOk p = true) : numOk p = true := by
  unfold sizeOk at h
  exact (Bool.and_eq_true_iff.mp h).2
theorem joinL_in {S : List Nat} : ∀ {a : List (List Nat)} {p : List Nat}, p ∈ a → p.length ≤ (joinL S a).length
  | [q], p, h => by
    rw [List.mem_singleton.mp h]
    exact Nat.le_refl _
  | q :: r :: t, p, h => by
    show p.length ≤ (q ++ (S ++ joinL S (r :: t))).length
    rw [List.length_append, List.length_append]
    rcases List.mem_cons.mp h with rfl | h
    · omega
    · have := joinL_in (S := S) h
      omega
theorem joinL_many {S : List Nat} (hS : S.length = 1) : ∀ a : List (List Nat), a.length ≤ (joinL S a).length + 1
  | [] => Nat.zero_le _
  | [q] => by
    show 1 ≤ _
    omega
  | q :: r :: t => by
    have ih := joinL_many hS (r :: t)
    show (r :: t).length + 1 ≤ (q ++ (S ++ joinL S (r :: t))).length + 1
    rw [List.length_append, List.length_append]
    omega
theorem okS_of {s : Str} (h : s.length ≤ 640) : okS s = true := by
  unfold okS
  rw [decide_eq_true (by omega), Bool.true_and]
  have e := PySem.StrLaws.join_split s (" " : Str)
  have t := tl_join (" " : Str) (pcs s)
  have ey : tl (" " : Str) = [32] := by decide +kernel
  rw [show Str.join (" " : Str) (pcs s) = s from e, ey] at t
  have sl : s.length = (joinL [32] ((pcs s).map tl)).length := by
    rw [← t]
    rfl
  have many := joinL_many (S := [32]) rfl ((pcs s).map tl)
  rw [List.length_map] at many
  have each : ∀ p, p ∈ pcs s → p.length ≤ 640 := fun p hp => by
    have q := joinL_in (S := [32]) (List.mem_map_of_mem (f := tl) hp)
    have : p.length = (tl p).length := rfl
    omega
  have ok : okPs (pcs s) = true := by
    unfold okPs
    rw [decide_eq_true (by omega), Bool.true_and, List.all_eq_true]
    intro p hp
    rw [decide_eq_true (each p hp), Bool.true_and]
    cases z : sizeOk p with
    | false => rfl
    | true =>
      rw [num_int (size_num z) (each p hp)]
      rfl
  rw [ok, Bool.or_true]
theorem okH_of {s : Str} (h : s.length ≤ 640) : okH s = true := by
  have q := PySem.StrLaws.partition_sum s (": " : Str)
  have l := congrArg Str.length q
  rw [Str.length_append, Str.length_append] at l
  unfold okH
  rw [decide_eq_true (by omega), Bool.true_and, okS_of (by omega), Bool.and_true, decide_eq_true (by omega), Bool.true_and]
  cases z : numOk (Txt.partition s (": " : Str)).1 with
  | false => rfl
  | true =>
    rw [num_int z (by omega)]
    rfl
/-! ### wrong texts -/
theorem digit_bad {s : Str} {c : Nat} (hc : c ∈ s.cps.toList) (h : Unicode.isDigit c = false) : numOk s = false := by
  have q : Txt.isdigit s = false := by
    unfold Txt.isdigit
    have e : s.cps.all Unicode.isDigit = false := by
      rw [← Array.all_toList]
      exact List.all_eq_false.mpr ⟨c, hc, by rw [h]; exact Bool.false_ne_true⟩
    show (_ && s.cps.all Unicode.isDigit) = false
    rw [e, Bool.and_false]
  unfold numOk
  rw [q, Bool.and_false, if_pos (by rfl)]
theorem size_bad {s : Str} (h : numOk s = false) : sizeOk s = false := by
  unfold sizeOk
  rw [h, Bool.and_false]
theorem read_bad {s p : Str} (hs : s ≠ ("-" : Str)) (hp : p ∈ pcs s) (h : sizeOk p = false) : readS s = .inr 0 := by
  unfold readS
  rw [if_neg hs, if_neg]
  intro z
  rw [List.all_eq_true.mp z p hp] at h
  cases h
theorem dash_tl : ("-" : Str).cps.toList = [45] := by decide +kernel
theorem not_dash {s : Str} {c : Nat} (hc : c ∈ s.cps.toList) (h : c ≠ 45) : s ≠ ("-" : Str) := fun z => by
  rw [z, dash_tl] at hc
  exact h (List.mem_singleton.mp hc)
theorem read_sign {s : Str} {c : Nat} (hs : s ≠ ("-" : Str)) (hc : c ∈ s.cps.toList) (h32 : c ≠ 32) (hd : Unicode.isDigit c = false) : readS s = .inr 0 := by
  obtain ⟨p, hp, hcp⟩ := in_piece hc h32
  exact read_bad hs hp (size_bad (digit_bad hcp hd))
/-- the pieces of SWINGS that are written -/
def pz (ns : List Int) : List Str := if ns = [] then [("-" : Str)] else ns.map numS
theorem swT_pz (ns : List Int) : swT ns = Txt.join (" " : Str) (pz ns) := by
  unfold swT pz
  by_cases h : ns = []
  · rw [if_pos h, if_pos h]
    rfl
  · rw [if_neg h, if_neg h]
theorem pz_ne (ns : List Int) : pz ns ≠ [] := by
  unfold pz
  split
  · simp
  · rename_i h
    exact fun z => h (List.map_eq_nil_iff.mp z)
theorem pz_free {ns : List Int} (h : ∀ n, n ∈ ns → 0 ≤ n) {p : Str} (hp : p ∈ pz ns) : 32 ∉ p.cps.toList := by
  unfold pz at hp
  split at hp
  · rw [List.mem_singleton.mp hp, dash_tl]
    decide
  · obtain ⟨n, hn, rfl⟩ := List.mem_map.mp hp
    exact numS_free (h n hn) (.inl (by decide))
theorem split_ps {ps : List Str} (hne : ps ≠ []) (h : ∀ p, p ∈ ps → 32 ∉ p.cps.toList) : pcs (Txt.join (" " : Str) ps) = ps := by
  have ey : tl (" " : Str) = 32 :: [] := by decide +kernel
  exact split_join ey (by decide +kernel) hne h
theorem sp_tl : (" " : Str).cps.toList = [32] := by decide +kernel
theorem pcs_snoc {ns : List Int} {q : Str} (h : ∀ n, n ∈ ns → 0 ≤ n) (hq : 32 ∉ q.cps.toList) : pcs (swT ns ++ (" " : Str) ++ q) = pz ns ++ [q] := by
  have e : swT ns ++ (" " : Str) ++ q = Txt.join (" " : Str) (pz ns ++ [q]) := by
    refine str_ext ?_
    rw [cat_tl, cat_tl, swT_pz, join_eq, join_eq, sp_tl]
    have t1 := tl_join (" " : Str) (pz ns)
    have t2 := tl_join (" " : Str) (pz ns ++ [q])
    have ey : tl (" " : Str) = [32] := sp_tl
    rw [ey] at t1 t2
    rw [show (Str.join (" " : Str) (pz ns)).cps.toList = _ from t1, show (Str.join (" " : Str) (pz ns ++ [q])).cps.toList = _ from t2, List.map_append, List.map_singleton, joinL_snoc (fun z => pz_ne ns (List.map_eq_nil_iff.mp z)), List.append_assoc]
  rw [e]
  refine split_ps (by simp) fun p hp => ?_
  rcases List.mem_append.mp hp with hp | hp
  · exact pz_free h hp
  · rw [List.mem_singleton.mp hp]
    exact hq
theorem pcs_cons {ns : List Int} (h : ∀ n, n ∈ ns → 0 ≤ n) : pcs ((" " : Str) ++ swT ns) = ("" : Str) :: pz ns := by
  have e : (" " : Str) ++ swT ns = Txt.join (" " : Str) (("" : Str) :: pz ns) := by
    refine str_ext ?_
    rw [cat_tl, swT_pz, join_eq, join_eq, sp_tl]
    have t1 := tl_join (" " : Str) (pz ns)
    have t2 := tl_join (" " : Str) (("" : Str) :: pz ns)
    have ey : tl (" " : Str) = [32] := sp_tl
    rw [ey] at t1 t2
    rw [show (Str.join (" " : Str) (pz ns)).cps.toList = _ from t1, show (Str.join (" " : Str) (("" : Str) :: pz ns)).cps.toList = _ from t2]
    cases z : pz ns with
    | nil => exact absurd z (pz_ne ns)
    | cons a r => rfl
  rw [e]
  refine split_ps (by simp) fun p hp => ?_
  rcases List.mem_cons.mp hp with rfl | hp
  · decide +kernel
  · exact pz_free h hp
end K04
namespace K04
open PySem L2 PyProof.Rows DL TL RZ
/-- drawn SWINGS -/
structure Fall4 (ns : List Int) : Prop where
  fall : Fall ns
  few : ns.length ≤ 4
  small : ∀ n, n ∈ ns → n < 10 ^ 31
theorem Fall4.pos {ns : List Int} (h : Fall4 ns) : ∀ n, n ∈ ns → 0 ≤ n := fun n hn => (h.fall.1.1 n hn).1
theorem c1 : (" " : Str).length = 1 := by decide +kernel
theorem swT_len4 {ns : List Int} (h : Fall4 ns) : (swT ns).length ≤ 164 := by
  unfold swT
  by_cases e : ns = []
  · rw [if_pos e]
    decide +kernel
  · rw [if_neg e]
    have q := Txt_join_len (" " : Str) (ns.map numS)
    rw [c1] at q
    have q2 := sum_le (c := 40) (xs := ns.map numS) fun x hx => by
      obtain ⟨m, hm, rfl⟩ := List.mem_map.mp hx
      obtain ⟨h1, h2⟩ := h.fall.1.1 m hm
      exact (numS_int h1 h2).2
    rw [List.length_map] at q q2
    have := h.few
    omega
def n9 : Str := Txt.mul ("9" : Str) 32
theorem n9_len : n9.length = 32 := by decide +kernel
theorem n9_free : 32 ∉ n9.cps.toList := by decide +kernel
theorem n9_val : valP n9 = 99999999999999999999999999999999 := by decide +kernel
theorem pow31 : ((10 : Int) ^ 31) = 10000000000000000000000000000000 := by decide
theorem val_num {n : Int} (h : 0 ≤ n ∧ n < 10 ^ 40) : valP (numS n) = n := by
  unfold valP
  rw [(numS_int h.1 h.2).1]
  rfl
theorem read_good {ns : List Int} (h : Fall ns) : readS (swT ns) = .inl (.tuple (dI ns)) := by
  by_cases e : ns = []
  · subst e
    unfold readS
    rw [if_pos (by rfl)]
    rfl
  · have nd : swT ns ≠ ("-" : Str) := fun z => e (swT_dash (fun n hn => (h.1.1 n hn).1) z)
    have sp : pcs (swT ns) = ns.map numS := split_nums e fun n hn => (h.1.1 n hn).1
    have vs : (ns.map numS).map valP = ns := by
      rw [List.map_map]
      exact (List.map_congr_left fun n hn => val_num (h.1.1 n hn)).trans (List.map_id ns)
    unfold readS
    rw [if_neg nd, sp, vs, if_pos, if_pos h.2.2]
    rw [List.all_eq_true]
    intro p hp
    obtain ⟨n, hn, rfl⟩ := List.mem_map.mp hp
    exact sizeOk_num (h.2.1 n hn)
theorem read9 {ns : List Int} (h : Fall4 ns) : readS (swT ns ++ (" " : Str) ++ n9) = .inr 0 := by
  have sp := pcs_snoc h.pos n9_free
  have nd : swT ns ++ (" " : Str) ++ n9 ≠ ("-" : Str) := not_dash (c := 32) (by
    rw [cat_tl, cat_tl, sp_tl]
    simp) (by decide)
  by_cases e : ns = []
  · refine read_bad nd (p := ("-" : Str)) ?_ (by decide +kernel)
    rw [sp]
    unfold pz
    rw [if_pos e]
    simp
  · unfold readS
    rw [if_neg nd]
    split
    · rw [if_neg]
      rw [sp, List.map_append]
      unfold pz
      rw [if_neg e]
      intro z
      have q := (List.pairwise_append.mp z).2.2
      obtain ⟨n, hn⟩ : ∃ n, n ∈ ns := List.exists_mem_of_ne_nil ns e
      have q2 := q n (List.mem_map.mpr ⟨numS n, List.mem_map_of_mem hn, val_num (h.fall.1.1 n hn)⟩) (valP n9) (List.mem_singleton.mpr rfl)
      have s := h.small n hn
      rw [n9_val] at q2
      rw [pow31] at s
      have q2 : n ≥ 99999999999999999999999999999999 := q2
      omega
    · rfl
theorem read_end {ns : List Int} (h : Fall4 ns) : readS (swT ns ++ (" " : Str)) = .inr 0 := by
  have sp := pcs_snoc (q := ("" : Str)) h.pos (by decide +kernel)
  have e : swT ns ++ (" " : Str) ++ ("" : Str) = swT ns ++ (" " : Str) := str_ext (by
    rw [cat_tl, show ("" : Str).cps.toList = [] from rfl, List.append_nil])
  rw [e] at sp
  refine read_bad (p := ("" : Str)) (not_dash (c := 32) ?_ (by decide)) ?_ (by decide +kernel)
  · rw [cat_tl, sp_tl]
    simp
  · rw [sp]
    simp
def bents (ns : List Int) : List Str := [swT ns ++ (" 0" : Str), (" " : Str) ++ swT ns, swT ns ++ ("x" : Str), ("+" : Str) ++ swT ns, swT ns ++ (" " : Str) ++ n9]
theorem bentS {ns : List Int} {b : Str} (h : Fall4 ns) (hb : b ∈ bents ns) : b.length ≤ 250 ∧ readS b = .inr 0 := by
  have hl := swT_len4 h
  have l0 : (" 0" : Str).length = 2 := by decide +kernel
  have lx : ("x" : Str).length = 1 := by decide +kernel
  have lp : ("+" : Str).length = 1 := by decide +kernel
  have nl := n9_len
  unfold bents at hb
  simp only [List.mem_cons, List.not_mem_nil, or_false] at hb
  rcases hb with rfl | rfl | rfl | rfl | rfl
  · refine ⟨by rw [Str.length_append]; omega, ?_⟩
    have e : swT ns ++ (" 0" : Str) = swT ns ++ (" " : Str) ++ ("0" : Str) := str_ext (by
      rw [cat_tl, cat_tl, cat_tl, List.append_assoc]
      rfl)
    have sp := pcs_snoc (q := ("0" : Str)) h.pos (by decide +kernel)
    rw [e]
    refine read_bad (p := ("0" : Str)) (not_dash (c := 32) ?_ (by decide)) ?_ (by decide +kernel)
    · rw [cat_tl, cat_tl, sp_tl]
      simp
    · rw [sp]
      simp
  · refine ⟨by rw [Str.length_append, c1]; omega, ?_⟩
    refine read_bad (p := ("" : Str)) (not_dash (c := 32) ?_ (by decide)) ?_ (by decide +kernel)
    · rw [cat_tl, sp_tl]
      simp
    · rw [pcs_cons h.pos]
      simp
  · refine ⟨by rw [Str.length_append]; omega, ?_⟩
    have hc : 120 ∈ (swT ns ++ ("x" : Str)).cps.toList := by
      rw [cat_tl, show ("x" : Str).cps.toList = [120] from by decide +kernel]
      simp
    exact read_sign (not_dash hc (by decide)) hc (by decide) (by decide +kernel)
  · refine ⟨by rw [Str.length_append]; omega, ?_⟩
    have hc : 43 ∈ (("+" : Str) ++ swT ns).cps.toList := by
      rw [cat_tl, show ("+" : Str).cps.toList = [43] from by decide +kernel]
      simp
    exact read_sign (not_dash hc (by decide)) hc (by decide) (by decide +kernel)
  · exact ⟨by rw [Str.length_append, Str.length_append, c1]; omega, read9 h⟩
/-! ### heaps -/
theorem col_tl : (": " : Str).cps.toList = [58, 32] := by decide +kernel
theorem part_at {a b : Str} (h : 58 ∉ a.cps.toList) : Txt.partition (a ++ (": " : Str) ++ b) (": " : Str) = (a, (": " : Str), b) :=
  partition_app (s := 58) (S := [32]) col_tl h
theorem readH_at {a b : Str} (h : 58 ∉ a.cps.toList) : readH (a ++ (": " : Str) ++ b) = if numOk a = true then (match readS b with | .inl d => .inl (.tuple [.int (valP a), d]) | .inr k => .inr k) else .inr 0 := by
  unfold readH
  rw [part_at h] <;> rfl
theorem numS_58 {n : Int} (h : 0 ≤ n) : 58 ∉ (numS n).cps.toList := numS_free h (.inr (by decide))
theorem goodH {n : Int} {ns : List Int} (hn : 0 ≤ n ∧ n < 10 ^ 40) (h : Fall4 ns) : readH (hpT n ns) = .inl (.tuple [.int n, .tuple (dI ns)]) := by
  unfold hpT
  rw [readH_at (numS_58 hn.1), if_pos (numOk_num hn.1), read_good h.fall, val_num hn]
theorem starts_yes {x : Str} {r : List Nat} (e : x.cps.toList = 48 :: r) : Txt.startswith x ("0" : Str) = true := by
  unfold Txt.startswith
  have hx : x.cps = (48 :: r).toArray := by rw [← e]
  have l0 : ("0" : Str).length = 1 := by decide +kernel
  have c0 : ("0" : Str).cps = #[48] := by decide +kernel
  have s0 : Builtin.Str.subAt x ("0" : Str) 0 = true := by
    unfold Builtin.Str.subAt
    rw [l0, c0, hx]
    simp
  rw [s0, l0, str_len, e]
  simp
theorem num_zero {n : Int} (h : 0 ≤ n) : numOk (("0" : Str) ++ numS n) = false := by
  have z0 : ("0" : Str).cps.toList = [48] := by decide +kernel
  have e : (("0" : Str) ++ numS n).cps.toList = 48 :: numL n.toNat := by
    rw [cat_tl, numS_tl h, z0]
    rfl
  unfold numOk
  split
  · rfl
  · rw [starts_yes e, decide_eq_false fun z => ?_]
    · rfl
    · rw [z, z0] at e
      exact numL_ne _ (List.cons.inj e).2.symm
def ills (n : Int) (ns : List Int) : List Str := [("-" : Str) ++ hpT n ns, hpT n ns ++ (" " : Str), Txt.replace (hpT n ns) (": " : Str) (":" : Str), ("0" : Str) ++ hpT n ns, hpT n ns ++ (" " : Str) ++ n9]
theorem hpT_len {n : Int} {ns : List Int} (hn : 0 ≤ n ∧ n < 10 ^ 40) (h : Fall4 ns) : (hpT n ns).length ≤ 206 := by
  have hl := swT_len4 h
  have h2 := (numS_int hn.1 hn.2).2
  have c2 : (": " : Str).length = 2 := by decide +kernel
  unfold hpT
  rw [Str.length_append, Str.length_append, c2]
  omega
open PySem.StrLaws in
theorem repl_free : ∀ (A R : List Nat), 58 ∉ A → replL [58, 32] [58] (A ++ R) = A ++ replL [58, 32] [58] R
  | [], _, _ => rfl
  | c :: A, R, h => by
    have hc : c ≠ 58 := fun z => h (z ▸ List.mem_cons_self)
    have m : ¬ (c :: (A ++ R)).take ([58, 32] : List Nat).length = [58, 32] := fun z => by
      have z2 : c :: (A ++ R).take 1 = [58, 32] := z
      exact hc (List.cons.inj z2).1
    show replL [58, 32] [58] (c :: (A ++ R)) = c :: (A ++ _)
    rw [replL_miss m, repl_free A R fun z => h (List.mem_cons_of_mem _ z)]
theorem one58 : ∀ (A P B Q : List Nat), 58 ∉ A → 58 ∉ B → A ++ 58 :: B = P ++ 58 :: Q → B = Q
  | [], [], B, Q, _, _, e => (List.cons.inj e).2
  | [], p :: P, B, Q, _, hB, e => by
    have e2 : 58 :: B = p :: (P ++ 58 :: Q) := e
    have := (List.cons.inj e2).2
    exact absurd (by rw [this]; simp) hB
  | a :: A, [], B, Q, hA, _, e => by
    have e2 : a :: (A ++ 58 :: B) = 58 :: Q := e
    exact absurd (by rw [(List.cons.inj e2).1]; exact List.mem_cons_self) hA
  | a :: A, p :: P, B, Q, hA, hB, e => by
    have e2 : a :: (A ++ 58 :: B) = p :: (P ++ 58 :: Q) := e
    exact one58 A P B Q (fun z => hA (List.mem_cons_of_mem _ z)) hB (List.cons.inj e2).2
theorem swT_58 {ns : List Int} (h : ∀ n, n ∈ ns → 0 ≤ n) : 58 ∉ (swT ns).cps.toList := by
  intro hm
  rw [swT_pz, join_eq] at hm
  have t1 := tl_join (" " : Str) (pz ns)
  have ey : tl (" " : Str) = [32] := sp_tl
  rw [ey] at t1
  rw [show (Str.join (" " : Str) (pz ns)).cps.toList = _ from t1] at hm
  rcases mem_joinL hm with z | ⟨q, hq, hc⟩
  · simp at z
  · obtain ⟨p, hp, rfl⟩ := List.mem_map.mp hq
    unfold pz at hp
    split at hp
    · rw [List.mem_singleton.mp hp] at hc
      rw [show tl ("-" : Str) = [45] from dash_tl] at hc
      simp at hc
    · obtain ⟨n, hn, rfl⟩ := List.mem_map.mp hp
      exact numS_58 (h n hn) hc
theorem swT_first {ns : List Int} {t : List Nat} (h : ∀ n, n ∈ ns → 0 ≤ n) : (swT ns).cps.toList ≠ 32 :: t := by
  intro e
  cases ns with
  | nil =>
    have d : (swT []).cps.toList = [45] := dash_tl
    rw [d] at e
    cases e
  | cons n ns =>
    obtain ⟨r, q⟩ := swT_tl (ns := ns) (h n List.mem_cons_self)
    rw [q] at e
    cases z : numL n.toNat with
    | nil => exact numL_ne _ z
    | cons c s =>
      have hc := numL_digits n.toNat c (by rw [z]; exact List.mem_cons_self)
      rw [z] at e
      have := (List.cons.inj e).1
      omega
open PySem.StrLaws in
theorem illR {n : Int} {ns : List Int} (hn : 0 ≤ n ∧ n < 10 ^ 40) (h : Fall4 ns) : readH (Txt.replace (hpT n ns) (": " : Str) (":" : Str)) = .inr 0 := by
  have hA := numS_58 hn.1
  have hB := swT_58 h.pos
  have tr : (Txt.replace (hpT n ns) (": " : Str) (":" : Str)).cps.toList = (numS n).cps.toList ++ 58 :: (swT ns).cps.toList := by
    have q := replace_list (x := hpT n ns) (y := (": " : Str)) (z := (":" : Str)) (by decide +kernel)
    rw [q, col_tl, show (":" : Str).cps.toList = [58] from by decide +kernel]
    unfold hpT
    rw [cat_tl, cat_tl, col_tl, List.append_assoc, repl_free _ _ hA]
    congr 1
    show replL [58, 32] [58] (58 :: 32 :: (swT ns).cps.toList) = _
    rw [replL_hit (by simp) rfl]
    show [58] ++ replL [58, 32] [58] (swT ns).cps.toList = _
    have z := repl_free (swT ns).cps.toList [] hB
    rw [List.append_nil, replL_nil, List.append_nil] at z
    rw [z]
    rfl
  generalize Txt.replace (hpT n ns) (": " : Str) (":" : Str) = r at tr
  unfold readH
  rw [if_neg]
  rcases partition_head r (": " : Str) with ⟨e, _⟩ | ⟨i, _, hAt, _⟩
  · rw [e, digit_bad (c := 58) (by rw [tr]; simp) (by decide +kernel)]
    exact Bool.false_ne_true
  · exfalso
    have t := at_take hAt
    rw [tr, col_tl] at t
    have t2 : ∃ Q, ((numS n).cps.toList ++ 58 :: (swT ns).cps.toList).drop i = 58 :: 32 :: Q := by
      have l2 : (": " : Str).length = 2 := by decide +kernel
      generalize ((numS n).cps.toList ++ 58 :: (swT ns).cps.toList).drop i = D at t
      match D, t with
      | [], t => simp at t
      | [_], t => simp at t
      | a :: b :: D, t =>
        have t : [a, b] = [58, 32] := by simpa using t
        exact ⟨D, by rw [(List.cons.inj t).1, (List.cons.inj (List.cons.inj t).2).1]⟩
    obtain ⟨Q, hQ⟩ := t2
    have e := List.take_append_drop i ((numS n).cps.toList ++ 58 :: (swT ns).cps.toList)
    rw [hQ] at e
    exact swT_first h.pos (one58 _ _ _ _ hA hB e.symm)
theorem illH {n : Int} {ns : List Int} {b : Str} (hn : 0 ≤ n ∧ n < 10 ^ 40) (h : Fall4 ns) (hb : b ∈ ills n ns) : b.length ≤ 500 ∧ readH b = .inr 0 := by
  have hl := hpT_len hn h
  have ld : ("-" : Str).length = 1 := by decide +kernel
  have l0 : ("0" : Str).length = 1 := by decide +kernel
  have lc : (":" : Str).length = 1 := by decide +kernel
  have nl := n9_len
  unfold ills at hb
  simp only [List.mem_cons, List.not_mem_nil, or_false] at hb
  rcases hb with rfl | rfl | rfl | rfl | rfl
  · refine ⟨by rw [Str.length_append]; omega, ?_⟩
    have e : ("-" : Str) ++ hpT n ns = (("-" : Str) ++ numS n) ++ (": " : Str) ++ swT ns := str_ext (by
      unfold hpT
      simp only [cat_tl, List.append_assoc])
    rw [e, readH_at, if_neg]
    · rw [digit_bad (c := 45) (by rw [cat_tl, dash_tl]; simp) (by decide +kernel)]
      exact Bool.false_ne_true
    · rw [cat_tl, dash_tl]
      intro z
      rcases List.mem_append.mp z with z | z
      · simp at z
      · exact numS_58 hn.1 z
  · refine ⟨by rw [Str.length_append, c1]; omega, ?_⟩
    have e : hpT n ns ++ (" " : Str) = numS n ++ (": " : Str) ++ (swT ns ++ (" " : Str)) := str_ext (by
      unfold hpT
      simp only [cat_tl, List.append_assoc])
    rw [e, readH_at (numS_58 hn.1), if_pos (numOk_num hn.1), read_end h]
  · refine ⟨?_, illR hn h⟩
    have q := TK.replace_len (hpT n ns) (": " : Str) (":" : Str)
    rw [lc] at q
    omega
  · refine ⟨by rw [Str.length_append]; omega, ?_⟩
    have e : ("0" : Str) ++ hpT n ns = (("0" : Str) ++ numS n) ++ (": " : Str) ++ swT ns := str_ext (by
      unfold hpT
      simp only [cat_tl, List.append_assoc])
    rw [e, readH_at, if_neg]
    · rw [num_zero hn.1]
      exact Bool.false_ne_true
    · rw [cat_tl, show ("0" : Str).cps.toList = [48] from by decide +kernel]
      intro z
      rcases List.mem_append.mp z with z | z
      · simp at z
      · exact numS_58 hn.1 z
  · refine ⟨by rw [Str.length_append, Str.length_append, c1]; omega, ?_⟩
    have e : hpT n ns ++ (" " : Str) ++ n9 = numS n ++ (": " : Str) ++ (swT ns ++ (" " : Str) ++ n9) := str_ext (by
      unfold hpT
      simp only [cat_tl, List.append_assoc])
    rw [e, readH_at (numS_58 hn.1), if_pos (numOk_num hn.1), read9 h]
end K04
namespace K04
open PySem L2 PyProof.Rows DL TL RZ
local macro_rules | `(tactic| walk_at "len") => `(tactic| first
  | exact Nat.le_of_ble_eq_true rfl
  | assumption
  | (simp only [List.length_map, List.length_cons, List.length_nil, dI, dS, dB, List.length_reverse, List.length_append, List.length_range, rngD]; omega)
  | omega)
local macro_rules | `(tactic| walk_at "rd") => `(tactic| first
  | with_reducible exact rd_add
  | with_reducible exact rd_sub
  | with_reducible exact rd_eqs
  | with_reducible exact rd_eqi
  | with_reducible exact rd_eqb
  | with_reducible exact rd_eqN
  | with_reducible exact rd_nes
  | with_reducible exact rd_nei
  | with_reducible exact rd_neb
  | with_reducible exact rd_B
  | with_reducible exact rd_isN
  | with_reducible exact rd_inS
  | ((with_reducible apply rd_cats); walk_at "len")
  | ((with_reducible apply rd_catl); walk_at "len")
  | ((with_reducible apply rd_repl) <;> (first | decide | omega))
  | ((with_reducible apply rd_reps); exact ⟨by decide +kernel, by intro _ _; decide +kernel, by intro _ _; decide +kernel⟩)
  | ((with_reducible apply rd_neD) <;> (first | rfl | decide +kernel))
  | ((with_reducible apply rd_eqD) <;> (first | rfl | decide +kernel))
  | (apply rd_I (C := CMul) (g := fun i j => i * j); exact (by first | exact .inl ⟨by decide, by decide⟩ | exact .inr ⟨by decide, by decide⟩))
  | (apply rd_I (C := CPow) (g := fun i j => i ^ j.toNat); exact ⟨by decide, by decide, by decide⟩))
local macro_rules | `(tactic| walk_at "rc") => `(tactic| first
  | with_reducible exact rc_lenL
  | with_reducible exact rc_lenT
  | with_reducible exact rc_int
  | with_reducible exact rc_intb
  | with_reducible exact rc_abs
  | with_reducible exact rc_all
  | with_reducible exact rc_list (.lst _)
  | with_reducible exact rc_list (.tup _)
  | with_reducible exact rc_tuple (.lst _)
  | with_reducible exact rc_tuple (.tup _)
  | ((with_reducible apply rc_str); first | assumption | decide +kernel)
  | ((with_reducible apply rc_lenS); assumption))
local macro_rules | `(tactic| walk_at "ea") => `(tactic| first
  | with_reducible exact ea_nil
  | ((with_reducible apply ea_cons); (walk_at "ev"); (walk_at "ea")))
local macro_rules | `(tactic| walk_at "call") => `(tactic| fail "call")
local macro_rules | `(tactic| walk_at "it") => `(tactic| first
  | ((with_reducible apply it_list); walk_at "ev")
  | ((with_reducible apply it_tup); walk_at "ev")
  | ((with_reducible apply it_rng); (walk_at "ea"); walk_at "len")
  | ((with_reducible apply it_enum); walk_at "ev")
  | ((with_reducible apply it_zip); (walk_at "ev"); (walk_at "ev"))
  | ((with_reducible apply it_zipA); rotate_left; (walk_at "ev"); (walk_at "ev"); first | exact .lst _ _ | exact .tup _ _)
  | ((with_reducible apply it_seq); rotate_left; (walk_at "ev"); first | exact .lst _ | exact .tup _ | assumption))
local macro_rules | `(tactic| walk_at "tgs") => `(tactic| first
  | with_reducible exact .nil
  | (apply TgsD.cons; (walk_at "tg"); (walk_at "tgs")))
local macro_rules | `(tactic| walk_at "tg") => `(tactic| first
  | ((with_reducible apply tg_name) <;> decide)
  | (apply tg_tup; (walk_at "tgs"); rfl))
local macro_rules | `(tactic| walk_at "all2") => `(tactic| first
  | exact .nil
  | (apply All2.cons; (apply Exists.intro; apply And.intro; (walk_at "tg"); (walk_at "ev")); (walk_at "all2")))
local macro_rules | `(tactic| walk_at "ej") => `(tactic| first
  | with_reducible exact .nil
  | (apply EvJ.cons; (walk_at "ev"); (walk_at "ej")))
local macro_rules | `(tactic| walk_at "eo") => `(tactic| first
  | with_reducible exact eo_none
  | ((with_reducible apply eo_some); walk_at "ev"))
local macro_rules | `(tactic| walk_at "ev") => `(tactic| first
  | ((with_reducible apply ed_var); exact rfl)
  | with_reducible exact ed_int
  | with_reducible exact ed_str
  | with_reducible exact ed_bl
  | with_reducible exact ed_non
  | ((with_reducible apply ed_tup); (walk_at "ea"); (walk_at "len"))
  | ((with_reducible apply ed_lst); (walk_at "ea"); (walk_at "len"))
  | ((with_reducible apply ed_call); (walk_at "ea"); (walk_at "call"))
  | ((with_reducible apply ed_callN); (walk_at "ea"); rfl; (exact fun H vs q => q); (walk_at "call"))
  | ((with_reducible apply ed_op); (walk_at "ev"); (walk_at "ev"); (walk_at "rd"))
  | ((with_reducible apply ed_isi); (walk_at "ev"); decide)
  | ((with_reducible apply ed_isiT); (walk_at "ev"); decide; decide)
  | ((with_reducible apply ed_neg); walk_at "ev")
  | ((with_reducible apply ed_andV); (walk_at "ev"); intro _; walk_at "ev")
  | ((with_reducible apply ed_orV); (walk_at "ev"); intro _; walk_at "ev")
  | ((with_reducible apply ed_notV); walk_at "ev")
  | ((with_reducible apply ed_split); (walk_at "ev"); (walk_at "ev"); (decide +kernel); walk_at "len")
  | ((with_reducible apply ed_partition); (walk_at "ev"); (walk_at "ev"); (decide +kernel); walk_at "len")
  | ((with_reducible apply ed_isdigit); walk_at "ev")
  | ((with_reducible apply ed_isascii); walk_at "ev")
  | ((with_reducible apply ed_startswith); (walk_at "ev"); walk_at "ev")
  | ((with_reducible apply ed_revL); walk_at "ev")
  | ((with_reducible apply ed_slL); (walk_at "ev"); (walk_at "eo"); walk_at "eo")
  | ((with_reducible apply ed_slS); (walk_at "ev"); (walk_at "eo"); (walk_at "eo"); walk_at "len")
  | ((with_reducible apply ed_joined); (walk_at "ej"); walk_at "len")
  | ((with_reducible apply ed_fmtI); (walk_at "ev"); first | assumption | decide +kernel)
  | ((with_reducible apply ed_fmtS); (walk_at "ev"); walk_at "len")
  | ((with_reducible apply ed_cb); (walk_at "ea"); walk_at "rc")
  | (apply ed_lc; (walk_at "it"); (walk_at "len"); intro D'; walk_at "all2"))
local macro_rules | `(tactic| walk_at "et") => `(tactic| first
  | ((with_reducible apply et_test); walk_at "ev")
  | ((with_reducible apply et_B); walk_at "ev")
  | ((with_reducible apply DL.et_not); walk_at "et")
  | ((with_reducible apply et_and); (walk_at "et"); intro _; walk_at "et")
  | ((with_reducible apply et_or); (walk_at "et"); intro _; walk_at "et"))
local macro_rules | `(tactic| walk_at "etb") => `(tactic| (apply et_is; (walk_at "et"); first | rfl | decide | (simp [tyIs, tyN]; done)))

section
variable {P : Program} {w : World} {K : PySem.W.Frag} {mg : Str → Option Value} {base : Heap}
/-- drawn SWINGS, at most four -/
def spFalling : Sp := fun vs H Q _ => ∃ (p : Addr) (c : Nat) (m : Int), vs = [.ref p, .int m] ∧ Box p c H ∧ c ≤ 1000 ∧ 0 ≤ m ∧ m ≤ 4 ∧
  ∀ (ns : List Int) (v : V) (H' : Hp), Fall4 ns → Dq (sub H' [p]) v (.tuple (dI ns)) → ExO [p] H H' → Box p (c + 8) H' → Q v H'
def sizesD (r : Int) : List Int := [1, 1, 2, 3, 9, 10, 10 ^ (30 : Int).toNat - r]
theorem sizes_ok {r n : Int} (r0 : 0 ≤ r) (r1 : r < 9) (h : n ∈ sizesD r) : 0 < n ∧ n < 10 ^ 31 := by
  have e : (10 : Int) ^ (30 : Int).toNat = 1000000000000000000000000000000 := by decide
  have e2 := pow31
  simp only [sizesD, List.mem_cons, List.not_mem_nil, or_false] at h
  rw [e] at h
  rw [e2]
  omega
theorem ok__law_falling (T : Txt K mg) : FnOk P w K mg base CX0 3 T.f__law_falling T.fd__law_falling ["_law_box_here", "_law_most_so"] spFalling := by
  refine T.F__law_falling.ok sc__law_falling (fun vs H Q E h => ?_) (fun cdv A outer s H vs Q E hr h => ?_)
  · obtain ⟨p, c, m, rfl, _⟩ := h
    rfl
  have G__law_of := ok__law_of (P := P) (w := w) (base := base) T
  have hr__law_of : Room 2 _ := hr.mono (by decide)
  have b__law_of := T.b__law_of
  have G__law_take := ok__law_take (P := P) (w := w) (base := base) T
  have hr__law_take : Room 1 _ := hr.mono (by decide)
  have b__law_take := T.b__law_take
  have hu := hu64 hr
  obtain ⟨p, c, m, rfl, hb, hc, m0, m1, k⟩ := h
  refine ⟨_, (pss_cons (ps_set (i := 2) sc__law_falling.nd rfl (Or.inr rfl) (pe_lst (pa_cons pe_int (pa_cons pe_int (pa_cons pe_int (pa_cons pe_int (pa_cons pe_int (pa_cons pe_int (pa_cons (pe_op op_sub (pe_op op_pow pe_int pe_int) (pe_call G__law_take hr__law_take rfl T.m__law_take T.F__law_take.kp b__law_take .nil pass0 (pa_cons (pv 0) (pa_cons pe_int pa_nil)))) pa_nil)))))))))
  (pss_cons (ps_setLc (i := 3) (own := [("_law_turn", 4)]) rfl sc__law_falling.nd rfl rfl (sw_true rfl rfl rfl rfl) (pi_range1 rfl T.z_range (pa_cons (pe_call G__law_take hr__law_take rfl T.m__law_take T.F__law_take.kp b__law_take .nil pass0 (pa_cons (pv 0) (pa_cons (pe_op op_add (pv 1) pe_int) pa_nil))) pa_nil)) (blkOk_by (N := N__law_falling) (sc := defScope s__law_falling) (by decide +kernel)) (fun _ _ _ _ _ => (pg_name (i := 4) sc__law_falling.nd rfl (Or.inl rfl))) (fun _ _ _ _ _ => pts_nil) (fun _ _ _ _ _ => (pe_call G__law_of hr__law_of rfl T.m__law_of T.F__law_of.kp b__law_of .nil pass0 (pa_cons (pv 0) (pa_cons (pv 2) pa_nil)))))
  (pss_one (ps_ret (pe_callTy (kTuple (K := K) (by rfl)) (by rfl) T.z_tuple (by decide +kernel) (pa_cons (kRev (K := K) (by rfl) (pe_callB (kSorted (K := K) (by rfl)) (by rfl) T.z_sorted (by decide +kernel) (pa_cons (pv 3) pa_nil))) pa_nil)))))), ?_⟩
  refine ⟨10, 30, rfl, rfl, ⟨by decide, by decide, by decide⟩, _, rfl, p, c, 9, rfl, hb, by omega, by decide, by decide, fun r H1 r0 r1 e1 b1 => ?_⟩
  refine ⟨_, _, rfl, rfl, (by show 7 ≤ sizeLine; decide), fun q nq => ?_⟩
  have bq : Box p (c + 1) (upd H1 q (.lst ((sizesD r).map V.int))) := b1.ex (Evl.Ex.new nq)
  have eq : ExO [p] H (upd H1 q (.lst ((sizesD r).map V.int))) := e1.trans (Ex.o _ (Evl.Ex.new nq))
  have hq : (upd H1 q (.lst ((sizesD r).map V.int))) q = some (.lst ((sizesD r).map V.int)) := upd_same
  have nqp : q ∉ [p] := fun z => by
    obtain ⟨b0, b1', b2, e, _⟩ := b1
    rw [List.mem_singleton.mp z] at nq
    rw [nq] at e
    cases e
  generalize hH2 : upd H1 q (.lst ((sizesD r).map V.int)) = H2 at bq eq hq
  show tSeq _ _ _ _ (upd H1 q (.lst ((sizesD r).map V.int)))
  rw [hH2]
  have hlog : (m + 1).natAbs.log2 < 9000 := by
    have e : (m + 1).natAbs < 2 ^ 4 := by omega
    exact Nat.lt_trans ((Nat.log2_lt (by omega)).mpr e) (by decide)
  refine ⟨_, rfl, _, rfl, _, _, rfl, rfl, p, c + 1, m + 1, rfl, bq, by omega, by omega, hlog, fun t H3 t0 t1 e3 b3 => ?_⟩
  have hq3 := e3.at hq nqp
  have eH3 := eq.trans e3
  refine ⟨t, rfl, by omega, by omega, fun Dl nD => ?_⟩
  have nDs : sub H [p] Dl = none := fresh_o eH3 nD
  have nDp : Dl ≠ p := fun z => by
    obtain ⟨b0, b1', b2, e, _⟩ := b3
    rw [z, e] at nD
    cases nD
  have nDq : q ≠ Dl := fun z => by
    rw [← z, hq3] at nD
    cases nD
  refine lc_range (lo := 0) (n := t.toNat) (fun i H' => ∃ ns : List Int, H' Dl = some (.lst (ns.map V.int)) ∧ ns.length = i ∧ (∀ n, n ∈ ns → 0 < n ∧ n < 10 ^ 31) ∧ ExO [p] H H' ∧ Box p (c + 2 + i) H' ∧ H' q = some (.lst ((sizesD r).map V.int))) ?_ ?_ ?_
  · refine ⟨[], upd_same, rfl, fun n hn => (by cases hn), ExO_mut eH3 nDs, ?_, ?_⟩
    · exact (b3.ex (Evl.Ex.new nD)).mono (by omega)
    · rw [upd_ne nDq]
      exact hq3
  · rintro i H4 hi ⟨ns, hD, hl, hns, e4, b4, hq4⟩
    refine ⟨rfl, ?_⟩
    refine tYes_go ?_
    have hgoods : Dq (sub H4 [p]) (.ref q) (.list (dI (sizesD r))) := .lst (sub_mk hq4 nqp) (dq_ints _)
    refine ⟨_, rfl, _, rfl, p, c + 2 + i, .ref q, dI (sizesD r), rfl, b4, by omega, hgoods, by show 0 < 7; decide, by show 7 ≤ 1000; decide, fun d v H5 hd dv e5 b5 => ?_⟩
    obtain ⟨n, hn, rfl⟩ := List.mem_map.mp hd
    cases dv
    have hD5 : H5 Dl = some (.lst (ns.map V.int)) := e5.at hD (fun z => nDp (List.mem_singleton.mp z))
    refine ⟨_, hD5, Evl.sz_lt (by rw [List.length_map]; omega), ns ++ [n], ?_, ?_, ?_, ?_, ?_, ?_⟩
    · rw [List.map_append]
      exact upd_same
    · rw [List.length_append, hl]
      rfl
    · intro x hx
      rcases List.mem_append.mp hx with hx | hx
      · exact hns x hx
      · rw [List.mem_singleton.mp hx]
        exact sizes_ok r0 r1 hn
    · exact ExO_mut (e4.trans e5) nDs
    · obtain ⟨b0, b1', b2, e, rr⟩ := b5
      exact ⟨b0, b1', b2, by rw [upd_ne (Ne.symm nDp)]; exact e, rr.1, rr.2.1, rr.2.2.1, rr.2.2.2.1, by have := rr.2.2.2.2; omega⟩
    · rw [upd_ne nDq]
      exact e5.at hq4 nqp
  · rintro H4 ⟨ns, hD, hl, hns, e4, b4, hq4⟩
    obtain ⟨zs, hp, hz⟩ := sort_ex ns
    have sd : SD [p] H4 (((L2.start N__law_falling [V.ref p, V.int m]).set 2 (some (.ref q))).set 3 (some (.ref Dl))) ((List.replicate 5 none).set 3 (some (.list (dI ns)))) :=
      (sd_none b4.own 5).set (.lst (sub_mk hD (fun z => nDp (List.mem_singleton.mp z))) (dq_ints _)) (show 3 < 5 by decide)
    have run : RunR [p] 5 (tRet (tCB (rTupleOf K) (tCons (tRevL K (tCB (rSortedI K) (tCons (tVar 3) tNil))) tNil))) ((List.replicate 5 none).set 3 (some (.list (dI ns)))) (.tuple (dI zs.reverse)) := by
      apply rr_ret
      apply ed_is
      · apply ed_cb
        · apply ea_cons
          · apply ed_revL
            exact ed_cb (by walk_at "ea") (rc_sorted hp hz)
          · exact ea_nil
        · exact rc_tuple (.lst _)
      · unfold dI
        rw [List.map_reverse]
    refine run _ _ H4 rfl sd fun v H5 e5 d5 => ?_
    refine k zs.reverse v H5 ⟨⟨⟨fun n hn => ?_, ?_⟩, fun n hn => ?_, ?_⟩, ?_, fun n hn => ?_⟩ d5 (e4.trans (Ex.o _ e5)) ((b4.ex e5).mono (by omega))
    · have q1 := hns n (hp.subset (List.mem_reverse.mp hn))
      have e1 := pow31
      have e2 := pow40
      rw [e1] at q1
      rw [e2]
      omega
    · rw [List.length_reverse, hp.length_eq, hl]
      omega
    · exact (hns n (hp.subset (List.mem_reverse.mp hn))).1
    · rw [List.pairwise_reverse]
      exact hz
    · rw [List.length_reverse, hp.length_eq, hl]
      omega
    · exact (hns n (hp.subset (List.mem_reverse.mp hn))).2
/-! ### the law's own words for SWINGS -/
def R_fall_words (ds : List PyData) (d : PyData) : Prop := ∃ ns, Num ns ∧ ds = [.tuple (dI ns)] ∧ d = .str (swT ns)
theorem ne_nil_ints (ns : List Int) : (!PyData.eqv (.tuple (dI ns)) (.tuple [])) = decide (ns ≠ []) := by
  cases ns with
  | nil => rfl
  | cons n ns => rfl
theorem ok__law_fall_words (T : Txt K mg) : FnOk P w K mg base CX0 1 T.f__law_fall_words T.fd__law_fall_words ["_law_fall_so"] (spD R_fall_words) := by
  refine pure_ok T.F__law_fall_words sc__law_fall_words (fun ds d h => ?_) (by decide) (fun cdv A outer s H E hr => ?_)
  · obtain ⟨_, _, rfl, rfl⟩ := h
    rfl
  have hu := hu64 hr
  refine ⟨_, (pss_one (ps_ret (pe_ifExp (pt_cmpR (kNeD (K := K) (by rfl) hu) (pv 0) (pe_tup pa_nil) (nomark _)) (kJoin (K := K) (by rfl) pe_str (pe_lc (own := [("_law_own", 1)]) rfl sc__law_fall_words.nd (kiTup (K := K) (by rfl) (pv 0)) (blkOk_by (N := N__law_fall_words) (sc := defScope s__law_fall_words) (by decide +kernel)) (fun _ _ _ _ _ => (pg_name (i := 1) sc__law_fall_words.nd rfl (Or.inl rfl))) (fun _ _ _ _ _ => pts_nil) (fun _ _ _ _ _ => (pe_callTy call_str_int (by rfl) T.z_str (by decide +kernel) (pa_cons (pv 1) pa_nil))))) pe_str))), fun O ds d hR => ?_⟩
  obtain ⟨ns, hn, rfl, rfl⟩ := hR
  have c0 : (" " : Str).length = 1 := by decide +kernel
  apply rr_ret
  apply ed_if (b := decide (ns ≠ []))
  · rw [← ne_nil_ints]
    apply et_test
    exact ed_op (by walk_at "ev") (by walk_at "ev") (rd_neD (shaped_ints (.tup _)) (shaped_ints (ns := []) (.tup _)))
  · intro c
    have c := of_decide_eq_true c
    apply ed_is
    · apply ed_join (xs := ns.map numS) (x := .list (dS (ns.map numS)))
      · walk_at "ev"
      · refine ed_lcM (l := ns) (e1 := PyData.int) (e2 := PyData.str) (f := numS) (by walk_at "it") (by have := hn.2; omega) fun D a ha => ?_
        obtain ⟨a0, a1⟩ := hn.1 a ha
        refine ⟨_, by walk_at "tg", ?_⟩
        have hl := log_ok a0 a1
        exact ed_cb (by walk_at "ea") (rc_str hl)
      · exact .lst _
      · rw [c0]
        have := numS_le hn
        omega
    · unfold swT
      rw [if_neg c]
  · intro c
    have c := Decidable.not_not.mp (of_decide_eq_false c)
    subst c
    apply ed_is
    · walk_at "ev"
    · rfl
def wantsD : List Int := [0, 1, 7, 10 ^ (20 : Int).toNat]
theorem wants_ok {n : Int} (h : n ∈ wantsD) : 0 ≤ n ∧ n < 10 ^ 40 := by
  have e : (10 : Int) ^ (20 : Int).toNat = 100000000000000000000 := by decide
  have e2 := pow40
  simp only [wantsD, List.mem_cons, List.not_mem_nil, or_false] at h
  rw [e] at h
  rw [e2]
  omega
theorem ed_replC {O : List Addr} {m : Nat} {te : TE} {ρ : Rho} {x y z : Str} (h : EvD O m te ρ (.str x)) (hl : x.length + (x.length + 1) * z.length ≤ 16777216) : EvD O m (CwR.tReplC te y z) ρ (.str (Txt.replace x y z)) := fun σ H hn s Q q =>
  h σ H hn s _ fun v H1 x1 d1 => by
    cases d1
    exact ⟨x, rfl, hl, q _ H1 x1 (.str _)⟩
def rhoC (ns : List Int) (n : Int) (z : Nat) : Rho := [none, some (.tuple (dI ns)), some (.int n), some (.str (swT ns)), some (.str (hpT n ns)), some (.int (z : Int)), none, none, none]
theorem ix_draw {O : List Addr} {m : Nat} {ta : TA} {tb : TE} {ρ : Rho} {xs : List Str} {σ : L2.St} {H : Hp} {Q' : VK} (h : EvDA O m ta ρ (xs.map PyData.str)) (hl : xs.length ≤ 1000) (hm : σ.length = m) (sd : SD O H σ ρ)
    (k : ∀ (q : Addr) (H6 : Hp), Evl.Ex H H6 → q ∉ O → H6 q = some (.lst (xs.map V.str)) → tb σ H6 fun y H7 => rIxL K (.ref q) y H7 Q') : tOp (rIxL K) (tLst ta) tb σ H Q' :=
  h σ H hm sd _ fun vs H1 x1 d1 => by
    have ev := strs_dq d1
    subst ev
    refine ⟨by rw [List.length_map]; exact Nat.le_trans hl (by decide), fun q nq => ?_⟩
    exact k q _ (x1.trans (Evl.Ex.new nq)) (not_own (own_ex x1 sd.own) nq) upd_same
def rhoE (ns : List Int) (n : Int) (b c : Str) : Rho := [none, some (.tuple (dI ns)), some (.int n), some (.str (swT ns)), some (.str (hpT n ns)), none, some (.str b), some (.str c), none]
theorem r1 {ns : List Int} (h : Fall4 ns) : R_fall_words [.tuple (dI ns)] (.str (swT ns)) := ⟨ns, h.fall.1, rfl, rfl⟩
theorem ok__law_case_right (T : Txt K mg) : FnOk P w K mg base CX0 8 T.f__law_case_right T.fd__law_case_right ["_law_box_here"] spCase := by
  refine T.F__law_case_right.ok sc__law_case_right (fun vs H Q E h => ?_) (fun cdv A outer s H vs Q E hr h => ?_)
  · obtain ⟨p, c, rfl, _⟩ := h
    rfl
  have G__law_fall_words := ok__law_fall_words (P := P) (w := w) (base := base) T
  have hr__law_fall_words : Room 1 _ := hr.mono (by decide)
  have b__law_fall_words := T.b__law_fall_words
  have G__law_same := ok__law_same (P := P) (w := w) (base := base) T
  have hr__law_same : Room 7 _ := hr.mono (by decide)
  have b__law_same := T.b__law_same
  have G__law_falling := ok__law_falling (P := P) (w := w) (base := base) T
  have hr__law_falling : Room 3 _ := hr.mono (by decide)
  have b__law_falling := T.b__law_falling
  have G__law_of := ok__law_of (P := P) (w := w) (base := base) T
  have hr__law_of : Room 2 _ := hr.mono (by decide)
  have b__law_of := T.b__law_of
  have G__law_take := ok__law_take (P := P) (w := w) (base := base) T
  have hr__law_take : Room 1 _ := hr.mono (by decide)
  have b__law_take := T.b__law_take
  have G__law_heard := ok__law_heard (P := P) (w := w) (base := base) T
  have hr__law_heard : Room 5 _ := hr.mono (by decide)
  have b__law_heard := T.b__law_heard
  have hu := hu64 hr
  obtain ⟨p, c, rfl, hb, hc, k⟩ := h
  refine ⟨_, (pss_cons (ps_par (i := 1) (j := 2) rfl sc__law_case_right.nd rfl rfl (by decide) rfl rfl (pa_cons (pe_call G__law_falling hr__law_falling rfl T.m__law_falling T.F__law_falling.kp b__law_falling .nil pass0 (pa_cons (pv 0) (pa_cons pe_int pa_nil))) (pa_cons (pe_call G__law_of hr__law_of rfl T.m__law_of T.F__law_of.kp b__law_of .nil pass0 (pa_cons (pv 0) (pa_cons (pe_lst (pa_cons pe_int (pa_cons pe_int (pa_cons pe_int (pa_cons (pe_op op_pow pe_int pe_int) pa_nil))))) pa_nil))) pa_nil)) rfl)
  (pss_cons (ps_set (i := 3) sc__law_case_right.nd rfl (Or.inl rfl) (pe_call G__law_fall_words hr__law_fall_words rfl T.m__law_fall_words T.F__law_fall_words.kp b__law_fall_words .nil pass0 (pa_cons (pv 1) pa_nil)))
  (pss_cons (ps_par (i := 4) (j := 5) rfl sc__law_case_right.nd rfl rfl (by decide) rfl rfl (pa_cons (pe_op op_add_str (pe_op op_add_str (pe_callTy call_str_int (by rfl) T.z_str (by decide +kernel) (pa_cons (pv 2) pa_nil)) pe_str) (pv 3)) (pa_cons (pe_call G__law_take hr__law_take rfl T.m__law_take T.F__law_take.kp b__law_take .nil pass0 (pa_cons (pv 0) (pa_cons pe_int pa_nil))) pa_nil)) rfl)
  (pss_cons (ps_set (i := 6) sc__law_case_right.nd rfl (Or.inl rfl) (pe_ix (kIxL (K := K) (by rfl)) (pe_lst (pa_cons (pe_op op_add_str (pv 3) pe_str) (pa_cons (pe_op op_add_str pe_str (pv 3)) (pa_cons (pe_op op_add_str (pv 3) pe_str) (pa_cons (pe_op op_add_str pe_str (pv 3)) (pa_cons (pe_op op_add_str (pe_op op_add_str (pv 3) pe_str) (pe_op op_repS pe_str pe_int)) pa_nil)))))) (pv 5) (fun _ _ => rfl)))
  (pss_cons (ps_set (i := 7) sc__law_case_right.nd rfl (Or.inl rfl) (pe_ix (kIxL (K := K) (by rfl)) (pe_lst (pa_first op_add_str (pv 4) (pat_cons (CwR.PET.of (pe_op op_add_str (pv 4) pe_str)) (pat_cons (CwR.pet_replC (pv 4)) (pat_cons (CwR.PET.of (pe_op op_add_str pe_str (pv 4))) (pat_cons (CwR.PET.of (pe_op op_add_str (pe_op op_add_str (pv 4) pe_str) (pe_op op_repS pe_str pe_int))) pat_nil)))))) (pe_call G__law_take hr__law_take rfl T.m__law_take T.F__law_take.kp b__law_take .nil pass0 (pa_cons (pv 0) (pa_cons pe_int pa_nil))) (fun _ _ => rfl)))
  (pss_cons (ps_set (i := 8) sc__law_case_right.nd rfl (Or.inl rfl) (pe_lst (pa_cons (pe_call G__law_heard hr__law_heard rfl T.m__law_heard T.F__law_heard.kp b__law_heard .nil pass0 (pa_cons (pv 6) (pa_cons pe_bl pa_nil))) (pa_cons (pe_call G__law_heard hr__law_heard rfl T.m__law_heard T.F__law_heard.kp b__law_heard .nil pass0 (pa_cons (pv 7) (pa_cons pe_bl pa_nil))) (pa_cons (pe_call G__law_heard hr__law_heard rfl T.m__law_heard T.F__law_heard.kp b__law_heard .nil pass0 (pa_cons (pv 3) (pa_cons pe_bl pa_nil))) (pa_cons (pe_call G__law_heard hr__law_heard rfl T.m__law_heard T.F__law_heard.kp b__law_heard .nil pass0 (pa_cons (pv 4) (pa_cons pe_bl pa_nil))) pa_nil))))))
  (pss_one (ps_ret (pe_call G__law_same hr__law_same rfl T.m__law_same T.F__law_same.kp b__law_same .nil pass0 (pa_cons (pv 8) (pa_cons (pe_lst (pa_cons (pe_lst (pa_cons pe_int pa_nil)) (pa_cons (pe_lst (pa_cons pe_int pa_nil)) (pa_cons (pv 1) (pa_cons (pe_tup (pa_cons (pv 2) (pa_cons (pv 1) pa_nil))) pa_nil))))) pa_nil))))))))))), ?_⟩
  refine ⟨_, rfl, p, c, 4, rfl, hb, by omega, by decide, by decide, fun ns v H1 hF hv e1 b1 => ?_⟩
  have bq : ∀ q : Addr, H1 q = none → Box p (c + 8) (upd H1 q (.lst (wantsD.map V.int))) := fun q nq => b1.ex (Evl.Ex.new nq)
  refine ⟨_, rfl, 10, 20, rfl, rfl, ⟨by decide, by decide, by decide⟩, (by show 4 ≤ sizeLine; decide), fun q nq => ?_⟩
  have x2 : Evl.Ex H1 (upd H1 q (.lst (wantsD.map V.int))) := Evl.Ex.new nq
  have nqp : q ∉ [p] := fun z => b1.own q z nq
  refine ⟨p, c + 8, .ref q, dI wantsD, rfl, bq q nq, by omega, .lst (xs := wantsD.map V.int) (sub_mk upd_same nqp) (dq_ints wantsD), by show 0 < 4; decide, by show 4 ≤ 1000; decide, fun d u H2 hd du e3 b3 => ?_⟩
  obtain ⟨n, hn, rfl⟩ := List.mem_map.mp hd
  have hw := wants_ok hn
  cases du
  have hv2 : Dq (sub H2 [p]) v (.tuple (dI ns)) := (hv.mono (Ex.o [p] x2)).mono e3
  have g2 := (e1.trans (Ex.o [p] x2)).trans e3
  have hlog := log_ok hw.1 hw.2
  have hnl := (numS_int hw.1 hw.2).2
  have hsl := swT_len4 hF
  have hol := hpT_len hw hF
  have l0 : (" 0" : Str).length = 2 := by decide +kernel
  have lx : ("x" : Str).length = 1 := by decide +kernel
  have lp : ("+" : Str).length = 1 := by decide +kernel
  have ld : ("-" : Str).length = 1 := by decide +kernel
  have lz : ("0" : Str).length = 1 := by decide +kernel
  have lc : (":" : Str).length = 1 := by decide +kernel
  have lb := c1
  have lcc : (": " : Str).length = 2 := by decide +kernel
  have nl := n9_len
  refine ⟨v, .int n, rfl, ?_⟩
  refine ⟨_, rfl, [p], [.tuple (dI ns)], .str (swT ns), b3.own, by exact .cons hv2 .nil, r1 hF, fun w2 H3 x3 d3 => ?_⟩
  cases d3
  have nlen : (numS n ++ (": " : Str)).length = (numS n).length + 2 := by rw [Str.length_append, lcc]
  refine ⟨_, rfl, n, rfl, hlog, _, _, rfl, rfl, ?_, _, rfl, _, _, rfl, rfl, ?_, _, rfl, p, c + 9, 5, rfl, b3.ex x3, by omega, by decide, by decide, fun z H4 z0 z1 e4 b4 => ?_⟩
  · show (numS n).length + _ ≤ _
    exact Nat.le_trans (show _ ≤ 42 by omega) (by decide)
  · show (numS n ++ (": " : Str)).length + _ ≤ _
    exact Nat.le_trans (show _ ≤ 206 by omega) (by decide)
  refine ⟨_, _, rfl, ?_⟩
  obtain ⟨zi, rfl⟩ := Int.eq_ofNat_of_zero_le z0
  have hzi : zi < (bents ns).length := by show zi < 5; omega
  have hv4 : Dq (sub H4 [p]) v (.tuple (dI ns)) := (hv2.mono (Ex.o [p] x3)).mono e4
  have g4 := (g2.trans (Ex.o [p] x3)).trans e4
  dsimp only
  have sd : SD [p] H4 ((((((L2.start N__law_case_right [V.ref p]).set 1 (some v)).set 2 (some (.int n))).set 3 (some (.str (swT ns)))).set 4 (some (.str (hpT n ns)))).set 5 (some (.int (zi : Int))))
      (rhoC ns n zi) :=
    ((((((sd_none b4.own 9).set hv4 (show 1 < 9 by decide)).set (.int n) (show 2 < 9 by decide)).set (.str _) (show 3 < 9 by decide)).set (.str _) (show 4 < 9 by decide)).set (.int _) (show 5 < 9 by decide))
  have n9e : EvD [p] 9 (tOp rRepS (tC (.str "9")) (tC (.int 32))) (rhoC ns n zi) (.str n9) :=
    ed_op ed_str ed_int (rd_reps ⟨by decide +kernel, by intro _ _; decide +kernel, by intro _ _; decide +kernel⟩)
  have sc1 : (swT ns ++ (" " : Str)).length = (swT ns).length + 1 := by rw [Str.length_append, lb]
  have sc2 : (hpT n ns ++ (" " : Str)).length = (hpT n ns).length + 1 := by rw [Str.length_append, lb]
  have ga : EvDA [p] 9 _ (rhoC ns n zi) ((bents ns).map PyData.str) :=
    ea_cons (ed_op (ed_var (i := 3) rfl) (ed_str (i := " 0")) (rd_cats (by omega))) (ea_cons (ed_op (ed_str (i := " ")) (ed_var (i := 3) rfl) (rd_cats (by omega))) (ea_cons (ed_op (ed_var (i := 3) rfl) (ed_str (i := "x")) (rd_cats (by omega)))
      (ea_cons (ed_op (ed_str (i := "+")) (ed_var (i := 3) rfl) (rd_cats (by omega))) (ea_cons (ed_op (ed_op (ed_var (i := 3) rfl) (ed_str (i := " ")) (rd_cats (by omega))) n9e (rd_cats (by omega))) ea_nil))))
  have hget : ((bents ns).map PyData.str)[zi]? = some (.str ((bents ns)[zi])) := by
    rw [List.getElem?_map, List.getElem?_eq_getElem hzi]
    rfl
  refine (ed_op (ed_lst ga (Nat.le_of_ble_eq_true rfl)) (ed_var (i := 5) rfl) (rd_ixL (K := K) hget)) _ H4 rfl sd _ fun w6 H5 x5 d5 => ?_
  cases d5
  have hb := List.getElem_mem hzi
  generalize (bents ns)[zi] = b at hb
  obtain ⟨bl, br⟩ := bentS hF hb
  have b5 : Box p (c + 10) H5 := b4.ex x5
  have hv5 : Dq (sub H5 [p]) v (.tuple (dI ns)) := hv4.mono (Ex.o [p] x5)
  have g5 := g4.trans (Ex.o [p] x5)
  have sd5 : SD [p] H5 ((((((L2.start N__law_case_right [V.ref p]).set 1 (some v)).set 2 (some (.int n))).set 3 (some (.str (swT ns)))).set 4 (some (.str (hpT n ns)))).set 5 (some (.int (zi : Int))) |>.set 6 (some (.str b))) (rhoC ns n zi) :=
    ((((((sd_none (σ := ((((((L2.start N__law_case_right [V.ref p]).set 1 (some v)).set 2 (some (.int n))).set 3 (some (.str (swT ns)))).set 4 (some (.str (hpT n ns)))).set 5 (some (.int (zi : Int))) |>.set 6 (some (.str b)))) b5.own 9).set hv5 (show 1 < 9 by decide)).set (.int n) (show 2 < 9 by decide)).set (.str _) (show 3 < 9 by decide)).set (.str _) (show 4 < 9 by decide)).set (.int _) (show 5 < 9 by decide))
  have gi : EvDA [p] 9 _ (rhoC ns n zi) ((ills n ns).map PyData.str) :=
    ea_cons (ed_op (ed_str (i := "-")) (ed_var (i := 4) rfl) (rd_cats (by omega))) (ea_cons (ed_op (ed_var (i := 4) rfl) (ed_str (i := " ")) (rd_cats (by omega))) (ea_cons (ed_replC (y := ": ") (z := ":") (ed_var (i := 4) rfl) (by rw [lc]; omega))
      (ea_cons (ed_op (ed_str (i := "0")) (ed_var (i := 4) rfl) (rd_cats (by omega))) (ea_cons (ed_op (ed_op (ed_var (i := 4) rfl) (ed_str (i := " ")) (rd_cats (by omega))) n9e (rd_cats (by omega))) ea_nil))))
  dsimp only [gName]
  refine ix_draw gi (by show 5 ≤ 1000; decide) rfl sd5 fun q6 H6' x6' nq6p h6 => ?_
  have b6 : Box p (c + 10) H6' := b5.ex x6'
  refine ⟨_, rfl, p, c + 10, 5, rfl, b6, by omega, by decide, by decide, fun y H7 y0 y1 e7 b7 => ?_⟩
  obtain ⟨yi, rfl⟩ := Int.eq_ofNat_of_zero_le y0
  have hyi : yi < (ills n ns).length := by show yi < 5; omega
  have hgy : ((ills n ns).map V.str)[yi]? = some (.str ((ills n ns)[yi])) := by
    rw [List.getElem?_map, List.getElem?_eq_getElem hyi]
    rfl
  refine ⟨q6, _, (yi : Int), .str ((ills n ns)[yi]), rfl, rfl, Evl.sq_of (e7.at h6 nq6p), atI_nat hgy, ?_⟩
  have hi := List.getElem_mem hyi
  generalize (ills n ns)[yi] = bi at hi
  obtain ⟨il, ir⟩ := illH hw hF hi
  have hv7 : Dq (sub H7 [p]) v (.tuple (dI ns)) := (hv5.mono (Ex.o [p] x6')).mono e7
  have g7 := (g5.trans (Ex.o [p] x6')).trans e7
  have sd7 : SD [p] H7 ((((((L2.start N__law_case_right [V.ref p]).set 1 (some v)).set 2 (some (.int n))).set 3 (some (.str (swT ns)))).set 4 (some (.str (hpT n ns)))).set 5 (some (.int (zi : Int))) |>.set 6 (some (.str b)) |>.set 7 (some (.str bi))) (rhoE ns n b bi) :=
    ((((((sd_none (σ := ((((((L2.start N__law_case_right [V.ref p]).set 1 (some v)).set 2 (some (.int n))).set 3 (some (.str (swT ns)))).set 4 (some (.str (hpT n ns)))).set 5 (some (.int (zi : Int))) |>.set 6 (some (.str b)) |>.set 7 (some (.str bi)))) b7.own 9).set hv7 (show 1 < 9 by decide)).set (.int n) (show 2 < 9 by decide)).set (.str _) (show 3 < 9 by decide)).set (.str _) (show 4 < 9 by decide)).set (.str b) (show 6 < 9 by decide)).set (.str bi) (show 7 < 9 by decide)
  dsimp only [gName]
  refine run_go (O := [p]) (n := 9) (ρ := rhoE ns n b bi) (d := .bool true) ?run rfl sd7 fun v9 H9 x9 d9 => ?_
  rotate_left
  · cases d9
    exact k H9 (g7.trans (Ex.o [p] x9)) ((b7.ex x9).mono (by omega))
  have h1 : R_heard [.str b, .bool false] (.list [.int 0]) := ⟨b, false, okS_of (by omega), rfl, by show _ = outD (readS b); rw [br]; rfl⟩
  have h2 : R_heard [.str bi, .bool true] (.list [.int 0]) := ⟨bi, true, okH_of (by omega), rfl, by show _ = outD (readH bi); rw [ir]; rfl⟩
  have h3 : R_heard [.str (swT ns), .bool false] (.tuple (dI ns)) := ⟨_, false, okS_of (by omega), rfl, by show _ = outD (readS (swT ns)); rw [read_good hF.fall]; rfl⟩
  have h4 : R_heard [.str (hpT n ns), .bool true] (.tuple [.int n, .tuple (dI ns)]) := ⟨_, true, okH_of (by omega), rfl, by show _ = outD (readH (hpT n ns)); rw [goodH hw hF]; rfl⟩
  apply rr_seq
  · apply rn_asg
    · apply ed_lst
      · exact ea_cons (ed_call (ea_cons (ed_var (i := 6) rfl) (ea_cons ed_bl ea_nil)) h1) (ea_cons (ed_call (ea_cons (ed_var (i := 7) rfl) (ea_cons ed_bl ea_nil)) h2)
          (ea_cons (ed_call (ea_cons (ed_var (i := 3) rfl) (ea_cons ed_bl ea_nil)) h3) (ea_cons (ed_call (ea_cons (ed_var (i := 4) rfl) (ea_cons ed_bl ea_nil)) h4) ea_nil)))
      · exact Nat.le_of_ble_eq_true rfl
    · decide
  apply rr_ret
  apply ed_call
  · walk_at "ea"
  · apply r_same
    · rfl
    · refine ⟨by show 4 ≤ 1000; decide, fun y hy => ?_⟩
      have hln : (dI ns).length ≤ 1000 := by
        unfold dI
        rw [List.length_map]
        exact hF.fall.1.2
      have flat : ∀ (m : Nat) (z : PyData), z ∈ dI ns → okD (m + 1) z := fun m z hz => by
        obtain ⟨i, _, rfl⟩ := List.mem_map.mp hz
        trivial
      simp only [List.mem_cons, List.not_mem_nil, or_false] at hy
      rcases hy with rfl | rfl | rfl | rfl
      · exact okD_of rfl
      · exact okD_of rfl
      · exact ⟨hln, flat 4⟩
      · refine ⟨by show 2 ≤ 1000; decide, fun z hz => ?_⟩
        simp only [List.mem_cons, List.not_mem_nil, or_false] at hz
        rcases hz with rfl | rfl
        · trivial
        · exact ⟨hln, flat 3⟩
theorem ok__law_right (T : Txt K mg) : FnOk P w K mg base CX0 9 T.f__law_right T.fd__law_right ["_law_box_here"] spRight := by
  refine T.F__law_right.ok sc__law_right (fun vs H Q E h => ?_) (fun cdv A outer s H vs Q E hr h => ?_)
  · obtain ⟨p, rfl, _⟩ := h
    rfl
  have G__law_by_hand_right := ok__law_by_hand_right (P := P) (w := w) (base := base) T
  have hr__law_by_hand_right : Room 8 _ := hr.mono (by decide)
  have b__law_by_hand_right := T.b__law_by_hand_right
  have G__law_case_right := ok__law_case_right (P := P) (w := w) (base := base) T
  have hr__law_case_right : Room 8 _ := hr.mono (by decide)
  have b__law_case_right := T.b__law_case_right
  have hu := hu64 hr
  obtain ⟨p, rfl, hb, k⟩ := h
  refine ⟨_, (pss_one (ps_ret (pe_and (pe_call0 G__law_by_hand_right hr__law_by_hand_right rfl T.m__law_by_hand_right T.F__law_by_hand_right.kp b__law_by_hand_right .nil pass0) (pe_one (pe_callB (kAll (K := K) (by rfl) (by rfl)) (by rfl) T.z_all (by decide +kernel) (pa_cons (pe_lc (own := [("_law_turn", 1)]) rfl sc__law_right.nd (pi_range1 rfl T.z_range (pa_cons pe_int pa_nil)) (blkOk_by (N := N__law_right) (sc := defScope s__law_right) (by decide +kernel)) (fun _ _ _ _ _ => (pg_name (i := 1) sc__law_right.nd rfl (Or.inl rfl))) (fun _ _ _ _ _ => pts_nil) (fun _ _ _ _ _ => (pe_call G__law_case_right hr__law_case_right rfl T.m__law_case_right T.F__law_case_right.kp b__law_case_right .nil pass0 (pa_cons (pv 0) pa_nil)))) pa_nil)))))), ?_⟩
  refine ⟨[p], [], _, hb.own, .nil, ⟨rfl, rfl⟩, fun v H1 x1 d1 => ?_⟩
  cases d1
  refine ⟨true, rfl, iteT ?_⟩
  refine ⟨4, rfl, by decide, by decide, fun Dl nD => ?_⟩
  have b1 := hb.ex x1
  have nDs : sub H [p] Dl = none := fresh_o (Ex.o [p] x1) nD
  have nDp : Dl ≠ p := fun z => b1.own Dl (List.mem_singleton.mpr z) nD
  refine lc_range (lo := 0) (n := 4) (fun i H' => H' Dl = some (.lst ((List.replicate i true).map V.bl)) ∧ ExO [p] H H' ∧ Box p (30 * i) H') ?_ ?_ ?_
  · exact ⟨upd_same, ExO_mut (Ex.o [p] x1) nDs, (b1.ex (Evl.Ex.new nD))⟩
  · rintro i H2 hi ⟨hD, e2, b2⟩
    refine ⟨rfl, tYes_go ?_⟩
    refine ⟨_, rfl, p, 30 * i, rfl, b2, by omega, fun H3 e3 b3 => ?_⟩
    have hD3 := e3.at hD (fun z => nDp (List.mem_singleton.mp z))
    refine ⟨_, hD3, Evl.sz_lt (by rw [List.length_map, List.length_replicate]; omega), ?_, ExO_mut (e2.trans e3) nDs, ?_⟩
    · rw [List.replicate_succ', List.map_append]
      exact upd_same
    · obtain ⟨b0, b1', b2', e, rr⟩ := b3
      exact ⟨b0, b1', b2', by rw [upd_ne (Ne.symm nDp)]; exact e, rr.1, rr.2.1, rr.2.2.1, rr.2.2.2.1, by have := rr.2.2.2.2; omega⟩
  · rintro H2 ⟨hD, e2, b2⟩
    refine ⟨Dl, List.replicate 4 true, rfl, Evl.sq_of hD, ?_⟩
    exact k H2 e2
theorem ok_law (T : Txt K mg) : FnOk P w K mg base CX0 10 T.f_law T.fd_law ["_law_script"] (spLaw K) := by
  refine T.F_law.ok sc_law (fun vs H Q E h => ?_) (fun cdv A outer s H vs Q E hr h => ?_)
  · obtain ⟨a, ns, rfl, _⟩ := h
    rfl
  have G__law_cells := ok__law_cells (P := P) (w := w) (base := base) T
  have hr__law_cells : Room 1 _ := hr.mono (by decide)
  have b__law_cells := T.b__law_cells
  have G__law_right := ok__law_right (P := P) (w := w) (base := base) T
  have hr__law_right : Room 9 _ := hr.mono (by decide)
  have b__law_right := T.b__law_right
  have G__law_box := ok__law_box (P := P) (w := w) (base := base) T
  have hr__law_box : Room 1 _ := hr.mono (by decide)
  have b__law_box := T.b__law_box
  have hu := hu64 hr
  obtain ⟨a, ns, rfl, hs, h63, k⟩ := h
  refine ⟨_, (pss_cons (ps_set (i := 1) sc_law.nd rfl (Or.inr rfl) (pe_call G__law_cells hr__law_cells rfl T.m__law_cells T.F__law_cells.kp b__law_cells .nil pass0 (pa_cons (pv 0) (pa_cons pe_int pa_nil))))
  (pss_one (ps_ret (pe_callB (kAll (K := K) (by rfl) (by rfl)) (by rfl) T.z_all (by decide +kernel) (pa_cons (pe_lc (own := [("_law_k", 2)]) rfl sc_law.nd (pi_range1 rfl T.z_range (pa_cons (pe_callB (kLen (K := K) (by rfl)) (by rfl) T.z_len PySem.boot_len (pa_cons (pv 1) pa_nil)) pa_nil)) (blkOk_by (N := N_law) (sc := defScope s_law) (by decide +kernel)) (fun _ _ _ _ _ => (pg_name (i := 2) sc_law.nd rfl (Or.inl rfl))) (fun _ _ _ _ _ => pts_nil) (fun _ _ _ _ _ => (pe_call G__law_right hr__law_right rfl T.m__law_right T.F__law_right.kp b__law_right .nil pass0 (pa_cons (pe_call G__law_box hr__law_box rfl T.m__law_box T.F__law_box.kp b__law_box .nil pass0 (pa_cons (pv 1) (pa_cons (pv 2) pa_nil))) pa_nil)))) pa_nil))))), ?_⟩
  refine ⟨_, rfl, a, ns, rfl, hs, h63, fun p cs H1 np x1 hp c1 c3 => ?_⟩
  refine ⟨_, rfl, p, _, rfl, .inl (Evl.sq_of hp), _, rfl, by omega, by rw [List.length_map]; omega, fun Dl nD => ?_⟩
  have e0 : (((cs.map V.int).length : Nat) : Int).toNat = cs.length := by
    rw [List.length_map]
    omega
  rw [e0]
  have npD : p ≠ Dl := fun z => by rw [← z, hp] at nD; cases nD
  refine lc_range (lo := 0) (n := cs.length) (fun i H' => H' Dl = some (.lst ((List.replicate i true).map V.bl)) ∧ Evl.Ex H1 H') ?_ ?_ ?_
  · exact ⟨upd_same, Evl.Ex.new nD⟩
  · rintro i H2 hi ⟨hD, x2⟩
    refine ⟨rfl, tYes_go ?_⟩
    have ei : (0 : Int) + (i : Int) = (i : Int) := Int.zero_add _
    refine ⟨_, rfl, _, rfl, p, cs, (0 : Int) + (i : Int), rfl, Evl.sq_of (x2 _ _ hp), by omega, by omega, fun b H3 nb x3 hb => ?_⟩
    refine ⟨b, rfl, hb, fun H4 e4 => ?_⟩
    have x4 : Evl.Ex H2 H4 := fun y o hy => by
      have n2 : y ≠ b := fun z => by rw [z, nb] at hy; cases hy
      exact e4.at (x3 _ _ hy) (fun z => n2 (List.mem_singleton.mp z))
    refine ⟨_, x4 _ _ hD, Evl.sz_lt (by rw [List.length_map, List.length_replicate]; omega), ?_, Evl.Ex.mut (x2.trans x4) nD⟩
    rw [List.replicate_succ', List.map_append]
    exact upd_same
  · rintro H2 ⟨hD, x2⟩
    refine ⟨Dl, List.replicate cs.length true, rfl, Evl.sq_of hD, ?_⟩
    have e : (List.replicate cs.length true).all id = true := by
      rw [List.all_eq_true]
      intro b hb
      rw [List.eq_of_mem_replicate hb]
      rfl
    rw [e]
    exact k H2
end
end K04
namespace K04
open PySem L2 PyProof.Rows DL TL RZ
theorem all_mk {l : PySem.W.OpenLaw} {w : World} {K : PySem.W.Frag} {h : Heap} {mg : Str → Option Value} {fa : Addr} (X : K.In h) (G : h.Ns mainGlobals mg) (hfa : mg "law" = some (.ref fa))
    {f0 f1 f2 f3 f4 f5 f6 f7 f8 f9 f10 f11 f12 f13 f14 f15 : Addr} {od0 an0 od1 an1 od2 an2 od3 an3 od4 an4 od5 an5 od6 an6 od7 an7 od8 an8 od9 an9 od10 an10 od11 an11 od12 an12 od13 an13 od14 an14 od15 an15 : Option Addr} {sl0 sl1 sl2 sl3 sl4 sl5 sl6 sl7 sl8 sl9 sl10 sl11 sl12 sl13 sl14 sl15 : Array (Option Value)} {oc0 kV0 dc0 pm0 cd0 ct0 oc1 kV1 dc1 pm1 cd1 ct1 oc2 kV2 dc2 pm2 cd2 ct2 oc3 kV3 dc3 pm3 cd3 ct3 oc4 kV4 dc4 pm4 cd4 ct4 oc5 kV5 dc5 pm5 cd5 ct5 oc6 kV6 dc6 pm6 cd6 ct6 oc7 kV7 dc7 pm7 cd7 ct7 oc8 kV8 dc8 pm8 cd8 ct8 oc9 kV9 dc9 pm9 cd9 ct9 oc10 kV10 dc10 pm10 cd10 ct10 oc11 kV11 dc11 pm11 cd11 ct11 oc12 kV12 dc12 pm12 cd12 ct12 oc13 kV13 dc13 pm13 cd13 ct13 oc14 kV14 dc14 pm14 cd14 ct14 oc15 kV15 dc15 pm15 cd15 ct15 : Value}
    (a0 : PySem.W.nsIn K mainGlobals "is_number_text" = some (some (.ref f0))) (l0 : K.lookup f0 = some ⟨oc0, od0, .func (PySem.W.fnOf "is_number_text" "is_number_text" (defArgs s_is_number_text) (defBody s_is_number_text) (defScope s_is_number_text) .none kV0 dc0 pm0 an0 cd0 ct0), sl0⟩) (c0 : PySem.W.codeIn K cd0 "is_number_text" = true) (k0 : PySem.W.keepIn K (.ref f0) = true)
    (a1 : PySem.W.nsIn K mainGlobals "is_size_text" = some (some (.ref f1))) (l1 : K.lookup f1 = some ⟨oc1, od1, .func (PySem.W.fnOf "is_size_text" "is_size_text" (defArgs s_is_size_text) (defBody s_is_size_text) (defScope s_is_size_text) .none kV1 dc1 pm1 an1 cd1 ct1), sl1⟩) (c1 : PySem.W.codeIn K cd1 "is_size_text" = true) (k1 : PySem.W.keepIn K (.ref f1) = true)
    (a2 : PySem.W.nsIn K mainGlobals "swings_from" = some (some (.ref f2))) (l2 : K.lookup f2 = some ⟨oc2, od2, .func (PySem.W.fnOf "swings_from" "swings_from" (defArgs s_swings_from) (defBody s_swings_from) (defScope s_swings_from) .none kV2 dc2 pm2 an2 cd2 ct2), sl2⟩) (c2 : PySem.W.codeIn K cd2 "swings_from" = true) (k2 : PySem.W.keepIn K (.ref f2) = true)
    (a3 : PySem.W.nsIn K mainGlobals "heap_from" = some (some (.ref f3))) (l3 : K.lookup f3 = some ⟨oc3, od3, .func (PySem.W.fnOf "heap_from" "heap_from" (defArgs s_heap_from) (defBody s_heap_from) (defScope s_heap_from) .none kV3 dc3 pm3 an3 cd3 ct3), sl3⟩) (c3 : PySem.W.codeIn K cd3 "heap_from" = true) (k3 : PySem.W.keepIn K (.ref f3) = true)
    (a4 : PySem.W.nsIn K mainGlobals "_law_box" = some (some (.ref f4))) (l4 : K.lookup f4 = some ⟨oc4, od4, .func (PySem.W.fnOf "_law_box" "_law_box" (defArgs s__law_box) (defBody s__law_box) (defScope s__law_box) .none kV4 dc4 pm4 an4 cd4 ct4), sl4⟩) (c4 : PySem.W.codeIn K cd4 "_law_box" = true) (k4 : PySem.W.keepIn K (.ref f4) = true)
    (a5 : PySem.W.nsIn K mainGlobals "_law_take" = some (some (.ref f5))) (l5 : K.lookup f5 = some ⟨oc5, od5, .func (PySem.W.fnOf "_law_take" "_law_take" (defArgs s__law_take) (defBody s__law_take) (defScope s__law_take) .none kV5 dc5 pm5 an5 cd5 ct5), sl5⟩) (c5 : PySem.W.codeIn K cd5 "_law_take" = true) (k5 : PySem.W.keepIn K (.ref f5) = true)
    (a6 : PySem.W.nsIn K mainGlobals "_law_cells" = some (some (.ref f6))) (l6 : K.lookup f6 = some ⟨oc6, od6, .func (PySem.W.fnOf "_law_cells" "_law_cells" (defArgs s__law_cells) (defBody s__law_cells) (defScope s__law_cells) .none kV6 dc6 pm6 an6 cd6 ct6), sl6⟩) (c6 : PySem.W.codeIn K cd6 "_law_cells" = true) (k6 : PySem.W.keepIn K (.ref f6) = true)
    (a7 : PySem.W.nsIn K mainGlobals "_law_of" = some (some (.ref f7))) (l7 : K.lookup f7 = some ⟨oc7, od7, .func (PySem.W.fnOf "_law_of" "_law_of" (defArgs s__law_of) (defBody s__law_of) (defScope s__law_of) .none kV7 dc7 pm7 an7 cd7 ct7), sl7⟩) (c7 : PySem.W.codeIn K cd7 "_law_of" = true) (k7 : PySem.W.keepIn K (.ref f7) = true)
    (a8 : PySem.W.nsIn K mainGlobals "_law_same" = some (some (.ref f8))) (l8 : K.lookup f8 = some ⟨oc8, od8, .func (PySem.W.fnOf "_law_same" "_law_same" (defArgs s__law_same) (defBody s__law_same) (defScope s__law_same) .none kV8 dc8 pm8 an8 cd8 ct8), sl8⟩) (c8 : PySem.W.codeIn K cd8 "_law_same" = true) (k8 : PySem.W.keepIn K (.ref f8) = true)
    (a9 : PySem.W.nsIn K mainGlobals "_law_falling" = some (some (.ref f9))) (l9 : K.lookup f9 = some ⟨oc9, od9, .func (PySem.W.fnOf "_law_falling" "_law_falling" (defArgs s__law_falling) (defBody s__law_falling) (defScope s__law_falling) .none kV9 dc9 pm9 an9 cd9 ct9), sl9⟩) (c9 : PySem.W.codeIn K cd9 "_law_falling" = true) (k9 : PySem.W.keepIn K (.ref f9) = true)
    (a10 : PySem.W.nsIn K mainGlobals "_law_fall_words" = some (some (.ref f10))) (l10 : K.lookup f10 = some ⟨oc10, od10, .func (PySem.W.fnOf "_law_fall_words" "_law_fall_words" (defArgs s__law_fall_words) (defBody s__law_fall_words) (defScope s__law_fall_words) .none kV10 dc10 pm10 an10 cd10 ct10), sl10⟩) (c10 : PySem.W.codeIn K cd10 "_law_fall_words" = true) (k10 : PySem.W.keepIn K (.ref f10) = true)
    (a11 : PySem.W.nsIn K mainGlobals "_law_heard" = some (some (.ref f11))) (l11 : K.lookup f11 = some ⟨oc11, od11, .func (PySem.W.fnOf "_law_heard" "_law_heard" (defArgs s__law_heard) (defBody s__law_heard) (defScope s__law_heard) .none kV11 dc11 pm11 an11 cd11 ct11), sl11⟩) (c11 : PySem.W.codeIn K cd11 "_law_heard" = true) (k11 : PySem.W.keepIn K (.ref f11) = true)
    (a12 : PySem.W.nsIn K mainGlobals "_law_by_hand_right" = some (some (.ref f12))) (l12 : K.lookup f12 = some ⟨oc12, od12, .func (PySem.W.fnOf "_law_by_hand_right" "_law_by_hand_right" (defArgs s__law_by_hand_right) (defBody s__law_by_hand_right) (defScope s__law_by_hand_right) .none kV12 dc12 pm12 an12 cd12 ct12), sl12⟩) (c12 : PySem.W.codeIn K cd12 "_law_by_hand_right" = true) (k12 : PySem.W.keepIn K (.ref f12) = true)
    (a13 : PySem.W.nsIn K mainGlobals "_law_case_right" = some (some (.ref f13))) (l13 : K.lookup f13 = some ⟨oc13, od13, .func (PySem.W.fnOf "_law_case_right" "_law_case_right" (defArgs s__law_case_right) (defBody s__law_case_right) (defScope s__law_case_right) .none kV13 dc13 pm13 an13 cd13 ct13), sl13⟩) (c13 : PySem.W.codeIn K cd13 "_law_case_right" = true) (k13 : PySem.W.keepIn K (.ref f13) = true)
    (a14 : PySem.W.nsIn K mainGlobals "_law_right" = some (some (.ref f14))) (l14 : K.lookup f14 = some ⟨oc14, od14, .func (PySem.W.fnOf "_law_right" "_law_right" (defArgs s__law_right) (defBody s__law_right) (defScope s__law_right) .none kV14 dc14 pm14 an14 cd14 ct14), sl14⟩) (c14 : PySem.W.codeIn K cd14 "_law_right" = true) (k14 : PySem.W.keepIn K (.ref f14) = true)
    (a15 : PySem.W.nsIn K mainGlobals "law" = some (some (.ref f15))) (l15 : K.lookup f15 = some ⟨oc15, od15, .func (PySem.W.fnOf "law" "law" (defArgs s_law) (defBody s_law) (defScope s_law) .none kV15 dc15 pm15 an15 cd15 ct15), sl15⟩) (c15 : PySem.W.codeIn K cd15 "law" = true) (k15 : PySem.W.keepIn K (.ref f15) = true)
    {B_BadText C_BadText fI_BadText N_BadText : Addr} {nm_BadText q_BadText : Str} {bs_BadText sub_BadText : List Value} {sn_BadText : List Str} {ab_BadText : Bool} {col_BadText : Option Bool} {dd_BadText od_BadText an_BadText : Option Addr} {m0_BadText m1_BadText m2_BadText m3_BadText m5_BadText : Option Value} {oc_BadText kV_BadText dc_BadText pm_BadText cd_BadText ct_BadText : Value} {sl_BadText : Array (Option Value)}
    (aC_BadText : PySem.W.nsIn K mainGlobals "BadText" = some (some (.ref C_BadText)))
    (xL_BadText : K.lookup C_BadText = some (excClassObj nm_BadText q_BadText C_BadText N_BadText bs_BadText [.ref B_BadText, .type "ValueError", .type "Exception", .type "BaseException", .type "object"] true sn_BadText sub_BadText ab_BadText col_BadText dd_BadText m0_BadText m1_BadText m2_BadText m3_BadText m5_BadText "ValueError.__new__"))
    (sa_BadText : PySem.W.findIn K (.ref C_BadText) "__setattr__" = some (some (.builtin "object.__setattr__"))) (ga_BadText : PySem.W.findIn K (.ref C_BadText) "__getattribute__" = some (some (.builtin "BaseException.__getattribute__"))) (gg_BadText : PySem.W.findIn K (.ref C_BadText) "__getattr__" = some none)
    (nb_BadText : PySem.W.findIn K (.ref C_BadText) "piece" = some none) (ai_BadText : PySem.W.findIn K (.ref C_BadText) "__init__" = some (some (.ref fI_BadText))) (ti_BadText : PySem.W.typeIn K (.ref fI_BadText) = some (.type "function"))
    (li_BadText : K.lookup fI_BadText = some ⟨oc_BadText, od_BadText, .func (PySem.W.fnOf "__init__" "BadText.__init__" (defArgs i_BadText) (defBody i_BadText) (defScope i_BadText) .none kV_BadText dc_BadText pm_BadText an_BadText cd_BadText ct_BadText), sl_BadText⟩) (ci_BadText : PySem.W.codeIn K cd_BadText "BadText.__init__" = true) (ki_BadText : PySem.W.keepIn K (.ref fI_BadText) = true)
    (kC_BadText : PySem.W.keepIn K (.ref C_BadText) = true) (eC_BadText : PySem.W.subIn K (.ref C_BadText) (.type "BaseException") = some true) (tC_BadText : PySem.W.typeIn K (.ref C_BadText) = some (.type "type")) (hC_BadText : PySem.W.hasDictIn K C_BadText = true) (iC_BadText : PySem.W.isClsIn K C_BadText = true) (sC_BadText : PySem.W.subIn K (.ref C_BadText) (.ref C_BadText) = some true)
    (y0 : PySem.W.nsIn K mainGlobals "tuple" = some none) (y1 : PySem.W.nsIn K mainGlobals "all" = some none) (y2 : PySem.W.nsIn K mainGlobals "int" = some none) (y3 : PySem.W.nsIn K mainGlobals "sorted" = some none) (y4 : PySem.W.nsIn K mainGlobals "len" = some none) (y5 : PySem.W.nsIn K mainGlobals "abs" = some none) (y6 : PySem.W.nsIn K mainGlobals "enumerate" = some none) (y7 : PySem.W.nsIn K mainGlobals "list" = some none) (y8 : PySem.W.nsIn K mainGlobals "isinstance" = some none) (y9 : PySem.W.nsIn K mainGlobals "bool" = some none) (y10 : PySem.W.nsIn K mainGlobals "str" = some none) (y11 : PySem.W.nsIn K mainGlobals "zip" = some none) (y12 : PySem.W.nsIn K mainGlobals "range" = some none) :
    ∃ fd : FuncData, (∀ (s : Shared) (v : Value), BindsTo s fd ⟨[v], []⟩ [("_law_script", v)]) ∧ ∀ base : Heap, K.In base → base.Ns mainGlobals mg → FnOk l.prog w K mg base CX0 10 fa fd ["_law_script"] (spLaw K) := by
  have e := hfa.symm.trans (PySem.W.mg_of X G a15)
  cases e
  let T : Txt K mg :=
    { z_tuple := PySem.W.mg_none_of X G y0, z_all := PySem.W.mg_none_of X G y1, z_int := PySem.W.mg_none_of X G y2, z_sorted := PySem.W.mg_none_of X G y3, z_len := PySem.W.mg_none_of X G y4, z_abs := PySem.W.mg_none_of X G y5, z_enumerate := PySem.W.mg_none_of X G y6, z_list := PySem.W.mg_none_of X G y7, z_isinstance := PySem.W.mg_none_of X G y8, z_bool := PySem.W.mg_none_of X G y9, z_str := PySem.W.mg_none_of X G y10, z_zip := PySem.W.mg_none_of X G y11, z_range := PySem.W.mg_none_of X G y12,
      C_BadText := C_BadText, fI_BadText := fI_BadText, fdI_BadText := _, FI_BadText := fun_mk (st := i_BadText) li_BadText ci_BadText ki_BadText, bI_BadText := (fun_mk (st := i_BadText) li_BadText ci_BadText ki_BadText).binds (ps := ["self", "piece"]) fun _ _ _ _ _ _ us hl => match us, hl with | [_, _], _ => rfl,
      E_BadText := { gC := PySem.W.mg_of X G aC_BadText, cls := ⟨⟨_, _, _, _, _, _, _, _, _, _, _, _, _, _, _, xL_BadText, (show PySem.HandSPX.refsVE [.type "ValueError", .type "Exception", .type "BaseException", .type "object"] = true by decide +kernel)⟩, sa_BadText, eC_BadText, tC_BadText, kC_BadText⟩, ga := ga_BadText, gg := gg_BadText, noN := nb_BadText, iC := ai_BadText, tC := ti_BadText, hdC := hC_BadText, te := exm_self eC_BadText iC_BadText tC_BadText sC_BadText },
      f_is_number_text := f0, fd_is_number_text := _, F_is_number_text := fun_mk (st := s_is_number_text) l0 c0 k0, m_is_number_text := PySem.W.mg_of X G a0, b_is_number_text := (fun_mk (st := s_is_number_text) l0 c0 k0).binds (ps := ["text"]) fun _ _ _ _ _ _ us hl => match us, hl with | [_], _ => rfl,
      f_is_size_text := f1, fd_is_size_text := _, F_is_size_text := fun_mk (st := s_is_size_text) l1 c1 k1, m_is_size_text := PySem.W.mg_of X G a1, b_is_size_text := (fun_mk (st := s_is_size_text) l1 c1 k1).binds (ps := ["text"]) fun _ _ _ _ _ _ us hl => match us, hl with | [_], _ => rfl,
      f_swings_from := f2, fd_swings_from := _, F_swings_from := fun_mk (st := s_swings_from) l2 c2 k2, m_swings_from := PySem.W.mg_of X G a2, b_swings_from := (fun_mk (st := s_swings_from) l2 c2 k2).binds (ps := ["text"]) fun _ _ _ _ _ _ us hl => match us, hl with | [_], _ => rfl,
      f_heap_from := f3, fd_heap_from := _, F_heap_from := fun_mk (st := s_heap_from) l3 c3 k3, m_heap_from := PySem.W.mg_of X G a3, b_heap_from := (fun_mk (st := s_heap_from) l3 c3 k3).binds (ps := ["text"]) fun _ _ _ _ _ _ us hl => match us, hl with | [_], _ => rfl,
      f__law_box := f4, fd__law_box := _, F__law_box := fun_mk (st := s__law_box) l4 c4 k4, m__law_box := PySem.W.mg_of X G a4, b__law_box := (fun_mk (st := s__law_box) l4 c4 k4).binds (ps := ["_law_script", "_law_k"]) fun _ _ _ _ _ _ us hl => match us, hl with | [_, _], _ => rfl,
      f__law_take := f5, fd__law_take := _, F__law_take := fun_mk (st := s__law_take) l5 c5 k5, m__law_take := PySem.W.mg_of X G a5, b__law_take := (fun_mk (st := s__law_take) l5 c5 k5).binds (ps := ["_law_box_here", "_law_size_so"]) fun _ _ _ _ _ _ us hl => match us, hl with | [_, _], _ => rfl,
      f__law_cells := f6, fd__law_cells := _, F__law_cells := fun_mk (st := s__law_cells) l6 c6 k6, m__law_cells := PySem.W.mg_of X G a6, b__law_cells := (fun_mk (st := s__law_cells) l6 c6 k6).binds (ps := ["_law_script", "_law_top_so"]) fun _ _ _ _ _ _ us hl => match us, hl with | [_, _], _ => rfl,
      f__law_of := f7, fd__law_of := _, F__law_of := fun_mk (st := s__law_of) l7 c7 k7, m__law_of := PySem.W.mg_of X G a7, b__law_of := (fun_mk (st := s__law_of) l7 c7 k7).binds (ps := ["_law_box_here", "_law_goods_so"]) fun _ _ _ _ _ _ us hl => match us, hl with | [_, _], _ => rfl,
      f__law_same := f8, fd__law_same := _, F__law_same := fun_mk (st := s__law_same) l8 c8 k8, m__law_same := PySem.W.mg_of X G a8, b__law_same := (fun_mk (st := s__law_same) l8 c8 k8).binds (ps := ["_law_got", "_law_due"]) fun _ _ _ _ _ _ us hl => match us, hl with | [_, _], _ => rfl,
      f__law_falling := f9, fd__law_falling := _, F__law_falling := fun_mk (st := s__law_falling) l9 c9 k9, m__law_falling := PySem.W.mg_of X G a9, b__law_falling := (fun_mk (st := s__law_falling) l9 c9 k9).binds (ps := ["_law_box_here", "_law_most_so"]) fun _ _ _ _ _ _ us hl => match us, hl with | [_, _], _ => rfl,
      f__law_fall_words := f10, fd__law_fall_words := _, F__law_fall_words := fun_mk (st := s__law_fall_words) l10 c10 k10, m__law_fall_words := PySem.W.mg_of X G a10, b__law_fall_words := (fun_mk (st := s__law_fall_words) l10 c10 k10).binds (ps := ["_law_fall_so"]) fun _ _ _ _ _ _ us hl => match us, hl with | [_], _ => rfl,
      f__law_heard := f11, fd__law_heard := _, F__law_heard := fun_mk (st := s__law_heard) l11 c11 k11, m__law_heard := PySem.W.mg_of X G a11, b__law_heard := (fun_mk (st := s__law_heard) l11 c11 k11).binds (ps := ["_law_flat", "_law_is_heap_so"]) fun _ _ _ _ _ _ us hl => match us, hl with | [_, _], _ => rfl,
      f__law_by_hand_right := f12, fd__law_by_hand_right := _, F__law_by_hand_right := fun_mk (st := s__law_by_hand_right) l12 c12 k12, m__law_by_hand_right := PySem.W.mg_of X G a12, b__law_by_hand_right := (fun_mk (st := s__law_by_hand_right) l12 c12 k12).binds (ps := []) fun _ _ _ _ _ _ us hl => match us, hl with | [], _ => rfl,
      f__law_case_right := f13, fd__law_case_right := _, F__law_case_right := fun_mk (st := s__law_case_right) l13 c13 k13, m__law_case_right := PySem.W.mg_of X G a13, b__law_case_right := (fun_mk (st := s__law_case_right) l13 c13 k13).binds (ps := ["_law_box_here"]) fun _ _ _ _ _ _ us hl => match us, hl with | [_], _ => rfl,
      f__law_right := f14, fd__law_right := _, F__law_right := fun_mk (st := s__law_right) l14 c14 k14, m__law_right := PySem.W.mg_of X G a14, b__law_right := (fun_mk (st := s__law_right) l14 c14 k14).binds (ps := ["_law_box_here"]) fun _ _ _ _ _ _ us hl => match us, hl with | [_], _ => rfl,
      f_law := fa, fd_law := _, F_law := fun_mk (st := s_law) l15 c15 k15, m_law := PySem.W.mg_of X G a15, b_law := (fun_mk (st := s_law) l15 c15 k15).binds (ps := ["_law_script"]) fun _ _ _ _ _ _ us hl => match us, hl with | [_], _ => rfl }
  exact ⟨PySem.W.fnOf "law" "law" (defArgs s_law) (defBody s_law) (defScope s_law) .none kV15 dc15 pm15 an15 cd15 ct15, fun s v => .of_eq rfl, fun base _ _ => ok_law T⟩
theorem walk {l : PySem.W.OpenLaw} {q : Program} {loose : List Str} {XP : (Str → Option Value) → Heap → Prop} {YP : World → Heap → Prop} {d : DefRec} {K : Params → PySem.W.Frag} (hn : l.most = some 63) (hdf : d.params.defaults = [])
    (hY : ∀ (w : World) (h : Heap), YP w h → (K w.params).In h)
    (F : ∀ (w : World) (mg : Str → Option Value) (fa : Addr) (h : Heap), (K w.params).In h → h.Ns mainGlobals mg → mg d.name = some (.ref fa) →
      ∃ fd : FuncData, (∀ (s : Shared) (u : Value), BindsTo s fd ⟨[u], []⟩ [("_law_script", u)]) ∧ ∀ base : Heap, (K w.params).In base → base.Ns mainGlobals mg → FnOk l.prog w (K w.params) mg base CX0 10 fa fd ["_law_script"] (spLaw (K w.params))) :
    PySem.W.WalkO q loose XP YP l.row.toRowW d [] (fun f vs => PySem.call f vs) :=
  L2.walk_of (n := 63) (k := 10) (x := "_law_script") (CX := fun _ => CX0) (sp := fun w => spLaw (K w.params)) hn (by decide) hdf ⟨rfl, by decide, by decide⟩ hY F (fun _ _ a ns hl _ hS => ⟨a, ns, rfl, hS, hl, fun _ => rfl⟩) fun _ _ _ _ _ z => z
end K04
open PySem PySem.W PyProof.Rows
set_option maxRecDepth 100000 in
set_option maxHeartbeats 0 in
theorem PySem.Challenge.cw_allbutts_k04_wrong_texts_of_swings_and_h_holds : PySem.Challenge.rw_allbutts_k04_wrong_texts_of_swings_and_h.Holds := by
  w_on; o_law; k_head; (case hw => w_witness2)
  k_fill
  refine K04.walk (l := PySem.Challenge.rw_allbutts_k04_wrong_texts_of_swings_and_h) rfl rfl (fun w h Y => PySem.W.kIn_of Y) ?F
  case F =>
    intro w mg fa h KX G hmg
    refine' K04.all_mk KX G hmg ?a0 ?l0 ?c0 ?k0 ?a1 ?l1 ?c1 ?k1 ?a2 ?l2 ?c2 ?k2 ?a3 ?l3 ?c3 ?k3 ?a4 ?l4 ?c4 ?k4 ?a5 ?l5 ?c5 ?k5 ?a6 ?l6 ?c6 ?k6 ?a7 ?l7 ?c7 ?k7 ?a8 ?l8 ?c8 ?k8 ?a9 ?l9 ?c9 ?k9 ?a10 ?l10 ?c10 ?k10 ?a11 ?l11 ?c11 ?k11 ?a12 ?l12 ?c12 ?k12 ?a13 ?l13 ?c13 ?k13 ?a14 ?l14 ?c14 ?k14 ?a15 ?l15 ?c15 ?k15 ?aC_BadText ?xL_BadText ?sa_BadText ?ga_BadText ?gg_BadText ?nb_BadText ?ai_BadText ?ti_BadText ?li_BadText ?ci_BadText ?ki_BadText ?kC_BadText ?eC_BadText ?tC_BadText ?hC_BadText ?iC_BadText ?sC_BadText ?y0 ?y1 ?y2 ?y3 ?y4 ?y5 ?y6 ?y7 ?y8 ?y9 ?y10 ?y11 ?y12
    (case aC_BadText => k_is); (case xL_BadText => k_is); (case sa_BadText => k_is); (case ga_BadText => k_is); (case gg_BadText => k_is); (case nb_BadText => k_is); (case ai_BadText => k_is); (case ti_BadText => k_is); (case li_BadText => k_is); (case ci_BadText => k_is); (case ki_BadText => k_is); (case kC_BadText => k_is); (case eC_BadText => k_is); (case tC_BadText => k_is); (case hC_BadText => k_is); (case iC_BadText => k_is); (case sC_BadText => first | rfl | k_is)
    (case a0 => k_is); (case l0 => k_is); (case c0 => k_is); (case k0 => k_is)
    (case a1 => k_is); (case l1 => k_is); (case c1 => k_is); (case k1 => k_is)
    (case a2 => k_is); (case l2 => k_is); (case c2 => k_is); (case k2 => k_is)
    (case a3 => k_is); (case l3 => k_is); (case c3 => k_is); (case k3 => k_is)
    (case a4 => k_is); (case l4 => k_is); (case c4 => k_is); (case k4 => k_is)
    (case a5 => k_is); (case l5 => k_is); (case c5 => k_is); (case k5 => k_is)
    (case a6 => k_is); (case l6 => k_is); (case c6 => k_is); (case k6 => k_is)
    (case a7 => k_is); (case l7 => k_is); (case c7 => k_is); (case k7 => k_is)
    (case a8 => k_is); (case l8 => k_is); (case c8 => k_is); (case k8 => k_is)
    (case a9 => k_is); (case l9 => k_is); (case c9 => k_is); (case k9 => k_is)
    (case a10 => k_is); (case l10 => k_is); (case c10 => k_is); (case k10 => k_is)
    (case a11 => k_is); (case l11 => k_is); (case c11 => k_is); (case k11 => k_is)
    (case a12 => k_is); (case l12 => k_is); (case c12 => k_is); (case k12 => k_is)
    (case a13 => k_is); (case l13 => k_is); (case c13 => k_is); (case k13 => k_is)
    (case a14 => k_is); (case l14 => k_is); (case c14 => k_is); (case k14 => k_is)
    (case a15 => k_is); (case l15 => k_is); (case c15 => k_is); (case k15 => k_is)
    (case y0 => k_is); (case y1 => k_is); (case y2 => k_is); (case y3 => k_is); (case y4 => k_is); (case y5 => k_is); (case y6 => k_is); (case y7 => k_is); (case y8 => k_is); (case y9 => k_is); (case y10 => k_is); (case y11 => k_is); (case y12 => k_is)
