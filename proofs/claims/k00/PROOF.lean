import PyProof.Rows.All
import Wide.All
import OpenK.AllK
import Wide.FinOn
import HandS.ForMost
import HandS.Flow
import HandS.Evl
import HandS.IsInst
import HandS.FStr
import HandS.SortKw
import HandS.SortInts
import HandS.StrMore
import HandS.Wide
import HandS.Zip
import HandS.TupAny
import HandS.ExcInit
import HandS.Walk
import KE.KSortedM
import HandS.Defaults
import PyProof.StrOps2
import HandS.Style
import HandS.NoneIn
import HandS.TupMul
import KE.KxField
import HandS.ExcValue
import HandS.WordsExc
import HandS.Replace
import HandS.ReplaceLit
import HandS.ReplaceList
import PyProof.StrLawsChain
import HandS.Property
import KE.GoesEnum
import KE.GoesMore
import KE.KTupSum
import HandS.Conv
import KE.GoesNew
import KE.GoesZip
import HandS.WideBits
import PyProof.Claim2Refuses
import KE.DatumOrd
import KE.KDictZip
import HandS.OwnEq
import PyProof.InstSpecial
import HandS.SetFor
import HandS.Strs
import KE.KExcIs
import PyProof.Rows.CatchTuple
import KE.KTryMore
import HandS.Small
import PySem.Challenge.RW_allbutts_k00_errors
set_option Elab.async false
set_option linter.all false
set_option maxRecDepth 100000
set_option maxHeartbeats 40000000
/-! DL: what pure code evaluates to, told by data. O: the addresses whose objects may change (a law's box, a list that grows). -/
namespace DL
open PySem L2 Evl
/-- the heap without the objects at O -/
def sub (H : Hp) (O : List Addr) : Hp := fun a => if a ∈ O then none else H a
theorem sub_nil (H : Hp) : sub H [] = H := by
  funext a
  unfold sub
  rw [if_neg (by simp)]
theorem sub_of {H : Hp} {O : List Addr} {a : Addr} {o : HO} (h : sub H O a = some o) : H a = some o ∧ a ∉ O := by
  unfold sub at h
  by_cases e : a ∈ O
  · rw [if_pos e] at h
    cases h
  · rw [if_neg e] at h
    exact ⟨h, e⟩
theorem sub_mk {H : Hp} {O : List Addr} {a : Addr} {o : HO} (h : H a = some o) (n : a ∉ O) : sub H O a = some o := by
  unfold sub
  rw [if_neg n]
  exact h
/-- what was tracked outside O stands -/
def ExO (O : List Addr) (H H' : Hp) : Prop := Ex (sub H O) (sub H' O)
theorem Ex.o {H H' : Hp} (O : List Addr) (e : Ex H H') : ExO O H H' := fun a o h => by
  obtain ⟨h1, h2⟩ := sub_of h
  exact sub_mk (e a o h1) h2
theorem ExO.trans {O : List Addr} {H H1 H2 : Hp} (a : ExO O H H1) (b : ExO O H1 H2) : ExO O H H2 := Ex.trans a b
theorem ExO.refl (O : List Addr) (H : Hp) : ExO O H H := Ex.refl _
theorem ExO.at {O : List Addr} {H H' : Hp} (e : ExO O H H') {a : Addr} {o : HO} (h : H a = some o) (n : a ∉ O) : H' a = some o := (sub_of (e a o (sub_mk h n))).1
/-- an object of O changes -/
theorem ExO.upd {O : List Addr} {H : Hp} {a : Addr} {o : HO} (h : a ∈ O) : ExO O H (upd H a o) := fun b u e => by
  obtain ⟨h1, h2⟩ := sub_of e
  refine sub_mk ?_ h2
  rw [upd_ne (fun z => h2 (by rw [z]; exact h))]
  exact h1
/-- a smaller O -/
theorem ExO.less {O P : List Addr} {H H' : Hp} (e : ExO O H H') (k : ∀ a, a ∈ O → a ∈ P) : ExO P H H' := fun a o h => by
  obtain ⟨h1, h2⟩ := sub_of h
  exact sub_mk (e.at h1 (fun z => h2 (k a z))) h2

/-- an exception held as a value: its class and its own dict -/
def exk (a : Addr) (cls : Value) (d : Option Addr) : HO := .ext fun h => ∃ oe : Obj, h.get? a = some oe ∧ Zc cls d oe ∧ ∃ vs, oe.data = .fields vs
/-! ### data, all of it tracked -/
/-- a key as data -/
def keyD : Key → PyData
  | .inl i => .int i
  | .inr x => .str x
theorem keyD_inj : ∀ {j k : Key}, keyD j = keyD k → j = k
  | .inl _, .inl _, h => by cases h; rfl
  | .inr _, .inr _, h => by cases h; rfl
  | .inl _, .inr _, h => by cases h
  | .inr _, .inl _, h => by cases h
mutual
inductive Dq (H : Hp) : V → PyData → Prop
  | non : Dq H .non .none
  | bl (b : Bool) : Dq H (.bl b) (.bool b)
  | int (i : Int) : Dq H (.int i) (.int i)
  | str (x : Str) : Dq H (.str x) (.str x)
  | lst {a : Addr} {xs : List V} {ds : List PyData} : H a = some (.lst xs) → DqAll H xs ds → Dq H (.ref a) (.list ds)
  | tup {a : Addr} {xs : List V} {ds : List PyData} : H a = some (.tup xs) → DqAll H xs ds → Dq H (.ref a) (.tuple ds)
  | ob {a C dx : Addr} {fs : List (Str × V)} {ks : List (PyData × PyData)} : H a = some (.ins C dx fs) → DqF H fs ks → Dq H (.ref a) (.dict ((.int (C : Int), .none) :: ks))
  | exo {a C dx : Addr} {fs : List (Str × V)} {ks : List (PyData × PyData)} : H a = some (exk a (.ref C) (some dx)) → H dx = some (.xd fs) → DqF H fs ks → Dq H (.ref a) (.dict ((.str "error", .int (C : Int)) :: ks))
  | exn {a C : Addr} : H a = some (exk a (.ref C) none) → Dq H (.ref a) (.dict [(.str "error", .int (C : Int)), (.none, .none)])
  | dic {a : Addr} {kvs : List (Key × V)} {ks : List (PyData × PyData)} : H a = some (.dK kvs) → DqK H kvs ks → Dq H (.ref a) (.dict ((PyData.none, PyData.none) :: ks))
inductive DqK (H : Hp) : List (Key × V) → List (PyData × PyData) → Prop
  | nil : DqK H [] []
  | cons {k : Key} {x : PyData} {v : V} {kvs : List (Key × V)} {d : PyData} {ks : List (PyData × PyData)} : x = keyD k → Dq H v d → DqK H kvs ks → DqK H ((k, v) :: kvs) ((x, d) :: ks)
inductive DqF (H : Hp) : List (Str × V) → List (PyData × PyData) → Prop
  | nil : DqF H [] []
  | cons {f : Str} {v : V} {fs : List (Str × V)} {d : PyData} {ks : List (PyData × PyData)} : Dq H v d → DqF H fs ks → DqF H ((f, v) :: fs) ((.str f, d) :: ks)
inductive DqAll (H : Hp) : List V → List PyData → Prop
  | nil : DqAll H [] []
  | cons {v : V} {vs : List V} {d : PyData} {ds : List PyData} : Dq H v d → DqAll H vs ds → DqAll H (v :: vs) (d :: ds)
end
mutual
theorem Dq.mono {H H' : Hp} (e : Ex H H') : ∀ {v : V} {d : PyData}, Dq H v d → Dq H' v d
  | _, _, .non => .non
  | _, _, .bl b => .bl b
  | _, _, .int i => .int i
  | _, _, .str x => .str x
  | _, _, .lst h k => .lst (e _ _ h) (DqAll.mono e k)
  | _, _, .tup h k => .tup (e _ _ h) (DqAll.mono e k)
  | _, _, .ob h k => .ob (e _ _ h) (DqF.mono e k)
  | _, _, .exo h h2 k => .exo (e _ _ h) (e _ _ h2) (DqF.mono e k)
  | _, _, .exn h => .exn (e _ _ h)
  | _, _, .dic h k => .dic (e _ _ h) (DqK.mono e k)
theorem DqK.mono {H H' : Hp} (e : Ex H H') : ∀ {fs : List (Key × V)} {ks : List (PyData × PyData)}, DqK H fs ks → DqK H' fs ks
  | _, _, .nil => .nil
  | _, _, .cons q h k => .cons q (Dq.mono e h) (DqK.mono e k)
theorem DqF.mono {H H' : Hp} (e : Ex H H') : ∀ {fs : List (Str × V)} {ks : List (PyData × PyData)}, DqF H fs ks → DqF H' fs ks
  | _, _, .nil => .nil
  | _, _, .cons h k => .cons (Dq.mono e h) (DqF.mono e k)
theorem DqAll.mono {H H' : Hp} (e : Ex H H') : ∀ {vs : List V} {ds : List PyData}, DqAll H vs ds → DqAll H' vs ds
  | _, _, .nil => .nil
  | _, _, .cons h k => .cons (Dq.mono e h) (DqAll.mono e k)
end
mutual
theorem Dq.dp {K : PySem.W.Frag} {H : Hp} : ∀ {v : V} {d : PyData}, Dq H v d → d.canLay0 = true → Dp K H v d
  | _, _, .non, _ => .non
  | _, _, .bl b, _ => .bl b
  | _, _, .int i, _ => .int i
  | _, _, .str x, _ => .str x
  | _, _, .lst h k, c => .lst (sq_of h) (DqAll.dp k c)
  | _, _, .tup h k, c => .tup (st_of h) (DqAll.dp k c)
  | _, _, .ob _ _, c => Bool.noConfusion c
  | _, _, .dic _ _, c => Bool.noConfusion c
theorem DqAll.dp {K : PySem.W.Frag} {H : Hp} : ∀ {vs : List V} {ds : List PyData}, DqAll H vs ds → PyData.canLayAll0 ds = true → DpAll K H vs ds
  | _, _, .nil, _ => .nil
  | _, _, .cons h k, c => .cons (Dq.dp h (Bool.and_eq_true_iff.mp c).1) (DqAll.dp k (Bool.and_eq_true_iff.mp c).2)
end
theorem ex_sub (H : Hp) (O : List Addr) : Ex (sub H O) H := fun _ _ h => (sub_of h).1
theorem Dq.up {H : Hp} {O : List Addr} {v : V} {d : PyData} (h : Dq (sub H O) v d) : Dq H v d := h.mono (ex_sub H O)
theorem DqAll.up {H : Hp} {O : List Addr} {v : List V} {d : List PyData} (h : DqAll (sub H O) v d) : DqAll H v d := h.mono (ex_sub H O)
theorem DqAll.length {H : Hp} : ∀ {vs : List V} {ds : List PyData}, DqAll H vs ds → vs.length = ds.length
  | _, _, .nil => rfl
  | _, _, .cons _ k => congrArg Nat.succ k.length
theorem DqAll.get {H : Hp} : ∀ {vs : List V} {ds : List PyData} {i : Nat} {d : PyData}, DqAll H vs ds → ds[i]? = some d → ∃ v, vs[i]? = some v ∧ Dq H v d
  | _, _, _, _, .nil, e => by simp at e
  | _, _, 0, _, .cons h _, e => by
    simp at e
    subst e
    exact ⟨_, rfl, h⟩
  | _, _, i + 1, d, .cons _ k, e => by
    obtain ⟨v, h1, h2⟩ := k.get (i := i) (d := d) (by simpa using e)
    exact ⟨v, by simpa using h1, h2⟩
theorem DqAll.getV {H : Hp} : ∀ {vs : List V} {ds : List PyData} {i : Nat} {v : V}, DqAll H vs ds → vs[i]? = some v → ∃ d, ds[i]? = some d ∧ Dq H v d
  | _, _, _, _, .nil, e => by simp at e
  | _, _, 0, _, .cons h _, e => by
    simp at e
    subst e
    exact ⟨_, rfl, h⟩
  | _, _, i + 1, d, .cons _ k, e => by
    obtain ⟨v, h1, h2⟩ := k.getV (i := i) (v := d) (by simpa using e)
    exact ⟨v, by simpa using h1, h2⟩
theorem DqAll.append {H : Hp} : ∀ {vs ws : List V} {ds es : List PyData}, DqAll H vs ds → DqAll H ws es → DqAll H (vs ++ ws) (ds ++ es)
  | _, _, _, _, .nil, k => k
  | _, _, _, _, .cons h r, k => .cons h (r.append k)
theorem DqAll.take {H : Hp} : ∀ {vs : List V} {ds : List PyData} (n : Nat), DqAll H vs ds → DqAll H (vs.take n) (ds.take n)
  | _, _, 0, _ => by simpa using DqAll.nil
  | _, _, _ + 1, .nil => .nil
  | _, _, n + 1, .cons h k => .cons h (k.take n)
theorem DqAll.drop {H : Hp} : ∀ {vs : List V} {ds : List PyData} (n : Nat), DqAll H vs ds → DqAll H (vs.drop n) (ds.drop n)
  | _, _, 0, h => h
  | _, _, _ + 1, .nil => .nil
  | _, _, n + 1, .cons _ k => k.drop n
theorem DqAll.reverse {H : Hp} : ∀ {vs : List V} {ds : List PyData}, DqAll H vs ds → DqAll H vs.reverse ds.reverse
  | _, _, .nil => .nil
  | _, _, .cons h k => by
    rw [List.reverse_cons, List.reverse_cons]
    exact k.reverse.append (.cons h .nil)
theorem DqAll.flat {H : Hp} {vs : List V} {ds : List PyData} (h : DqAll H vs ds) : ∀ n : Nat, DqAll H (List.replicate n vs).flatten (List.replicate n ds).flatten
  | 0 => .nil
  | n + 1 => by
    rw [List.replicate_succ, List.replicate_succ, List.flatten_cons, List.flatten_cons]
    exact h.append (h.flat n)
/-- ints, texts, truths as data -/
def dI (ns : List Int) : List PyData := ns.map PyData.int
def dS (xs : List Str) : List PyData := xs.map PyData.str
def dB (bs : List Bool) : List PyData := bs.map PyData.bool
theorem dq_ints {H : Hp} : ∀ (ns : List Int), DqAll H (ns.map V.int) (dI ns)
  | [] => .nil
  | n :: ns => .cons (.int n) (dq_ints ns)
theorem dq_strs {H : Hp} : ∀ (ns : List Str), DqAll H (ns.map V.str) (dS ns)
  | [] => .nil
  | n :: ns => .cons (.str n) (dq_strs ns)
theorem ints_dq {H : Hp} : ∀ {ns : List Int} {vs : List V}, DqAll H vs (dI ns) → vs = ns.map V.int
  | [], _, h => by
    cases h
    rfl
  | n :: ns, _, h => by
    cases h with
    | cons h k =>
      cases h
      rw [ints_dq k]
      rfl
theorem strs_dq {H : Hp} : ∀ {ns : List Str} {vs : List V}, DqAll H vs (dS ns) → vs = ns.map V.str
  | [], _, h => by
    cases h
    rfl
  | n :: ns, _, h => by
    cases h with
    | cons h k =>
      cases h
      rw [strs_dq k]
      rfl
theorem bools_dq {H : Hp} : ∀ {ns : List Bool} {vs : List V}, DqAll H vs (dB ns) → vs = ns.map V.bl
  | [], _, h => by
    cases h
    rfl
  | n :: ns, _, h => by
    cases h with
    | cons h k =>
      cases h
      rw [bools_dq k]
      rfl

/-! ### slots -/
abbrev Rho := List (Option PyData)
/-- the slots hold such data; all of O is tracked -/
structure SD (O : List Addr) (H : Hp) (σ : L2.St) (ρ : Rho) : Prop where
  own : ∀ a, a ∈ O → H a ≠ none
  at' : ∀ (i : Nat) (d : PyData), ρ[i]? = some (some d) → ∃ v, σ[i]? = some (some v) ∧ Dq (sub H O) v d
theorem SD.mono {O : List Addr} {H H' : Hp} {σ : L2.St} {ρ : Rho} (s : SD O H σ ρ) (e : ExO O H H') (k : ∀ a, a ∈ O → H' a ≠ none) : SD O H' σ ρ :=
  ⟨k, fun i d h => by
    obtain ⟨v, h1, h2⟩ := s.at' i d h
    exact ⟨v, h1, h2.mono e⟩⟩
theorem own_ex {O : List Addr} {H H' : Hp} (e : Ex H H') (h : ∀ a, a ∈ O → H a ≠ none) : ∀ a, a ∈ O → H' a ≠ none := fun a ha z => by
  have q := h a ha
  cases r : H a with
  | none => exact q r
  | some o =>
    rw [e a o r] at z
    cases z
theorem SD.ex {O : List Addr} {H H' : Hp} {σ : L2.St} {ρ : Rho} (s : SD O H σ ρ) (e : Ex H H') : SD O H' σ ρ := s.mono (Ex.o O e) (own_ex e s.own)
theorem SD.set {O : List Addr} {H : Hp} {σ : L2.St} {ρ : Rho} {i : Nat} {v : V} {d : PyData} (s : SD O H σ ρ) (h : Dq (sub H O) v d) (hl : i < σ.length) : SD O H (σ.set i (some v)) (ρ.set i (some d)) :=
  ⟨s.own, fun j e hj => by
    by_cases z : i = j
    · subst z
      have hb : i < ρ.length := by
        have q := (List.getElem?_eq_some_iff.mp hj).1
        rw [List.length_set] at q
        exact q
      rw [List.getElem?_set_self hb] at hj
      cases hj
      exact ⟨v, List.getElem?_set_self hl, h⟩
    · rw [List.getElem?_set_ne z] at hj
      obtain ⟨w, h1, h2⟩ := s.at' j e hj
      exact ⟨w, by rw [List.getElem?_set_ne z]; exact h1, h2⟩⟩
theorem not_own {O : List Addr} {H : Hp} {p : Addr} (h : ∀ a, a ∈ O → H a ≠ none) (hp : H p = none) : p ∉ O := fun z => h p z hp

/-! ### expressions -/
section
variable (O : List Addr)
def EvD (n : Nat) (te : TE) (ρ : Rho) (d : PyData) : Prop := ∀ (σ : L2.St) (H : Hp), σ.length = n → SD O H σ ρ → ∀ Q : VK, (∀ v H', Ex H H' → Dq (sub H' O) v d → Q v H') → te σ H Q
def EvDA (n : Nat) (ta : TA) (ρ : Rho) (ds : List PyData) : Prop := ∀ (σ : L2.St) (H : Hp), σ.length = n → SD O H σ ρ → ∀ Q : List V → Hp → Prop, (∀ vs H', Ex H H' → DqAll (sub H' O) vs ds → Q vs H') → ta σ H Q
def EvDT (n : Nat) (tt : TT) (ρ : Rho) (b : Bool) : Prop := ∀ (σ : L2.St) (H : Hp), σ.length = n → SD O H σ ρ → ∀ Q : Bool → Hp → Prop, (∀ H', Ex H H' → Q b H') → tt σ H Q
/-- an operation on values -/
def RD (r : R2) (x y z : PyData) : Prop := ∀ (H : Hp) (v w : V), (∀ a, a ∈ O → H a ≠ none) → Dq (sub H O) v x → Dq (sub H O) w y → ∀ Q : VK, (∀ u H', Ex H H' → Dq (sub H' O) u z → Q u H') → r v w H Q
def RDC (r : List V → Hp → VK → Prop) (xs : List PyData) (z : PyData) : Prop := ∀ (H : Hp) (vs : List V), (∀ a, a ∈ O → H a ≠ none) → DqAll (sub H O) vs xs → ∀ Q : VK, (∀ u H', Ex H H' → Dq (sub H' O) u z → Q u H') → r vs H Q
end
section
variable {O : List Addr} {n : Nat} {ρ : Rho} {ta tb te : TE} {x y z d : PyData} {r : R2} {K : PySem.W.Frag} {t u : TT}
theorem ed_is (h : EvD O n te ρ d) (e : d = x) : EvD O n te ρ x := e ▸ h
theorem ed_var {i : Nat} (h : ρ[i]? = some (some d)) : EvD O n (tVar i) ρ d := fun σ H _ s Q q => by
  obtain ⟨v, h1, h2⟩ := s.at' i d h
  exact ⟨v, h1, q v H (Ex.refl H) h2⟩
theorem ed_int {i : Int} : EvD O n (tC (.int i)) ρ (.int i) := fun σ H _ s Q q => q _ H (Ex.refl H) (.int i)
theorem ed_str {i : Str} : EvD O n (tC (.str i)) ρ (.str i) := fun σ H _ s Q q => q _ H (Ex.refl H) (.str i)
theorem ed_bl {i : Bool} : EvD O n (tC (.bl i)) ρ (.bool i) := fun σ H _ s Q q => q _ H (Ex.refl H) (.bl i)
theorem ed_non : EvD O n (tC .non) ρ .none := fun σ H _ s Q q => q _ H (Ex.refl H) .non
theorem ed_op (ha : EvD O n ta ρ x) (hb : EvD O n tb ρ y) (hr : RD O r x y z) : EvD O n (tOp r ta tb) ρ z := fun σ H hn s Q q =>
  ha σ H hn s _ fun v H1 e1 d1 => hb σ H1 hn (s.ex e1) _ fun w H2 e2 d2 => hr H2 v w (own_ex (e1.trans e2) s.own) (d1.mono (Ex.o O e2)) d2 Q fun u H3 e3 d3 => q u H3 ((e1.trans e2).trans e3) d3
theorem ed_neg {i : Int} (ha : EvD O n ta ρ (.int i)) : EvD O n (tUn (rU fun i => .int (-i)) ta) ρ (.int (-i)) := fun σ H hn s Q q =>
  ha σ H hn s _ fun v H1 e1 d1 => by
    cases d1
    exact ⟨i, rfl, q _ H1 e1 (.int _)⟩
theorem ea_nil : EvDA O n tNil ρ [] := fun σ H _ s Q q => q _ H (Ex.refl H) .nil
theorem ea_cons {tr : TA} {xs : List PyData} (ha : EvD O n ta ρ x) (hr : EvDA O n tr ρ xs) : EvDA O n (tCons ta tr) ρ (x :: xs) := fun σ H hn s Q q =>
  ha σ H hn s _ fun v H1 e1 d1 => hr σ H1 hn (s.ex e1) _ fun vs H2 e2 d2 => q _ H2 (e1.trans e2) (.cons (d1.mono (Ex.o O e2)) d2)
theorem ed_tup {tr : TA} {xs : List PyData} (hr : EvDA O n tr ρ xs) (hl : xs.length ≤ 100000) : EvD O n (tTup tr) ρ (.tuple xs) := fun σ H hn s Q q =>
  hr σ H hn s _ fun vs H1 e1 d1 => ⟨by rw [d1.length]; exact sz_of hl, fun p hp => q _ _ (e1.trans (Ex.new hp)) (.tup (sub_mk upd_same (not_own (own_ex e1 s.own) hp)) (d1.mono (Ex.o O (Ex.new hp))))⟩
theorem ed_lst {tr : TA} {xs : List PyData} (hr : EvDA O n tr ρ xs) (hl : xs.length ≤ 100000) : EvD O n (tLst tr) ρ (.list xs) := fun σ H hn s Q q =>
  hr σ H hn s _ fun vs H1 e1 d1 => ⟨by rw [d1.length]; exact sz_of hl, fun p hp => q _ _ (e1.trans (Ex.new hp)) (.lst (sub_mk upd_same (not_own (own_ex e1 s.own) hp)) (d1.mono (Ex.o O (Ex.new hp))))⟩
theorem ed_cb {r : List V → Hp → VK → Prop} {tr : TA} {xs : List PyData} (hr : EvDA O n tr ρ xs) (h : RDC O r xs z) : EvD O n (tCB r tr) ρ z := fun σ H hn s Q q =>
  hr σ H hn s _ fun vs H1 e1 d1 => h H1 vs (own_ex e1 s.own) d1 Q fun u H2 e2 d2 => q u H2 (e1.trans e2) d2
/-! operations -/
theorem rd_add {i j : Int} : RD O (rI0 fun i j => .int (i + j)) (.int i) (.int j) (.int (i + j)) := fun H v w _ h1 h2 Q q => by
  cases h1; cases h2
  exact ⟨i, j, rfl, rfl, q _ H (Ex.refl H) (.int _)⟩
theorem rd_sub {i j : Int} : RD O (rI0 fun i j => .int (i - j)) (.int i) (.int j) (.int (i - j)) := fun H v w _ h1 h2 Q q => by
  cases h1; cases h2
  exact ⟨i, j, rfl, rfl, q _ H (Ex.refl H) (.int _)⟩
theorem rd_I {C : Int → Int → Prop} {g : Int → Int → Int} {i j : Int} (hc : C i j) : RD O (rI C fun i j => .int (g i j)) (.int i) (.int j) (.int (g i j)) := fun H v w _ h1 h2 Q q => by
  cases h1; cases h2
  exact ⟨i, j, rfl, rfl, hc, q _ H (Ex.refl H) (.int _)⟩
theorem rd_B {g : Int → Int → Bool} {i j : Int} : RD O (rI0 fun i j => .bl (g i j)) (.int i) (.int j) (.bool (g i j)) := fun H v w _ h1 h2 Q q => by
  cases h1; cases h2
  exact ⟨i, j, rfl, rfl, q _ H (Ex.refl H) (.bl _)⟩
/-- texts put together -/
theorem rd_cats {i j : Str} (h : i.length + j.length ≤ 100000) : RD O (fun x y H Q => ∃ i j, x = .str i ∧ y = .str j ∧ i.length + j.length ≤ sizeLine ∧ Q (.str (i ++ j)) H) (.str i) (.str j) (.str (i ++ j)) := fun H v w _ h1 h2 Q q => by
  cases h1; cases h2
  exact ⟨i, j, rfl, rfl, sz_of h, q _ H (Ex.refl H) (.str _)⟩
/-- lists put together -/
theorem rd_catl {xs ys : List PyData} (h : xs.length + ys.length ≤ 100000) : RD O rCat (.list xs) (.list ys) (.list (xs ++ ys)) := fun H v w ho h1 h2 Q q => by
  cases h1 with
  | lst a1 k1 =>
    cases h2 with
    | lst a2 k2 =>
      exact ⟨_, _, _, _, rfl, rfl, (sub_of a1).1, (sub_of a2).1, by rw [k1.length, k2.length]; exact sz_of h, fun p hp => q _ _ (Ex.new hp) (.lst (sub_mk upd_same (not_own ho hp)) ((k1.append k2).mono (Ex.o O (Ex.new hp))))⟩
/-- a list so many times -/
theorem rd_repl {xs : List PyData} {k : Int} (h : xs.length * k.toNat ≤ 100000) (h1 : 0 ≤ k) (h2 : k ≤ 100000) : RD O rRep (.list xs) (.int k) (.list (List.replicate k.toNat xs).flatten) := fun H v w ho a b Q q => by
  cases a with
  | lst a1 k1 =>
    cases b
    exact ⟨_, _, _, rfl, rfl, (sub_of a1).1, by omega, by omega, by rw [k1.length]; exact sz_of h, fun p hp => q _ _ (Ex.new hp) (.lst (sub_mk upd_same (not_own ho hp)) ((k1.flat _).mono (Ex.o O (Ex.new hp))))⟩
/-- deep == and != -/
theorem rd_eqD (hx : SeqAt.shaped x = true) (hy : SeqAt.shaped y = true) : RD O (rEqD K) x y (.bool (PyData.eqv x y)) := fun H v w _ h1 h2 Q q =>
  ⟨x, y, h1.up.dp (SeqAt.canLay_of_shaped hx), h2.up.dp (SeqAt.canLay_of_shaped hy), hx, hy, q _ H (Ex.refl H) (.bl _)⟩
theorem rd_neD (hx : SeqAt.shaped x = true) (hy : SeqAt.shaped y = true) : RD O (rNeD K) x y (.bool (!PyData.eqv x y)) := fun H v w _ h1 h2 Q q =>
  ⟨x, y, h1.up.dp (SeqAt.canLay_of_shaped hx), h2.up.dp (SeqAt.canLay_of_shaped hy), hx, hy, q _ H (Ex.refl H) (.bl _)⟩
/-- is None, is not None -/
theorem rd_isN : RD O (fun x y H Q => y = .non ∧ Q (.bl (decide (x = .non))) H) x .none (.bool (match x with | .none => true | _ => false)) := fun H v w _ h1 h2 Q q => by
  cases h2
  refine ⟨rfl, q _ H (Ex.refl H) ?_⟩
  cases h1 <;> exact .bl _
/-! tests -/
theorem et_test {b : Bool} (h : EvD O n te ρ (.bool b)) : EvDT O n (tTest te) ρ b := fun σ H hn s Q q => h σ H hn s _ fun v H1 e1 d1 => by
  cases d1
  exact ⟨b, rfl, q H1 e1⟩
theorem et_B {b : Bool} (h : EvD O n te ρ (.bool b)) : EvDT O n (tB te) ρ b := fun σ H hn s Q q => h σ H hn s _ fun v H1 e1 d1 => by
  cases d1
  exact ⟨b, rfl, q H1 e1⟩
theorem et_not {b : Bool} (h : EvDT O n t ρ b) : EvDT O n (tNot t) ρ (!b) := fun σ H hn s Q q => h σ H hn s _ fun H1 e1 => q H1 e1
theorem et_and {a b : Bool} (h1 : EvDT O n t ρ a) (h2 : a = true → EvDT O n u ρ b) : EvDT O n (tAnd t u) ρ (a && b) := fun σ H hn s Q q => h1 σ H hn s _ fun H1 e1 => by
  cases a with
  | true => exact h2 rfl σ H1 hn (s.ex e1) Q fun H2 e2 => q H2 (e1.trans e2)
  | false => exact q H1 e1
theorem et_or {a b : Bool} (h1 : EvDT O n t ρ a) (h2 : a = false → EvDT O n u ρ b) : EvDT O n (tOr t u) ρ (a || b) := fun σ H hn s Q q => h1 σ H hn s _ fun H1 e1 => by
  cases a with
  | false => exact h2 rfl σ H1 hn (s.ex e1) Q fun H2 e2 => q H2 (e1.trans e2)
  | true => exact q H1 e1
theorem et_is {a b : Bool} (h : EvDT O n t ρ a) (e : a = b) : EvDT O n t ρ b := e ▸ h
theorem ed_andV {a b : Bool} (h1 : EvD O n ta ρ (.bool a)) (h2 : a = true → EvD O n tb ρ (.bool b)) : EvD O n (tAndV ta tb) ρ (.bool (a && b)) := fun σ H hn s Q q => h1 σ H hn s _ fun v H1 e1 d1 => by
  cases d1
  refine ⟨a, rfl, ?_⟩
  cases a with
  | true => exact h2 rfl σ H1 hn (s.ex e1) Q fun v H2 e2 d2 => q v H2 (e1.trans e2) d2
  | false => exact q _ H1 e1 (.bl _)
theorem ed_orV {a b : Bool} (h1 : EvD O n ta ρ (.bool a)) (h2 : a = false → EvD O n tb ρ (.bool b)) : EvD O n (tOrV ta tb) ρ (.bool (a || b)) := fun σ H hn s Q q => h1 σ H hn s _ fun v H1 e1 d1 => by
  cases d1
  refine ⟨a, rfl, ?_⟩
  cases a with
  | false => exact h2 rfl σ H1 hn (s.ex e1) Q fun v H2 e2 d2 => q v H2 (e1.trans e2) d2
  | true => exact q _ H1 e1 (.bl _)
theorem ed_notV {a : Bool} (h1 : EvD O n ta ρ (.bool a)) : EvD O n (tNotV ta) ρ (.bool (!a)) := fun σ H hn s Q q => h1 σ H hn s _ fun v H1 e1 d1 => by
  cases d1
  exact ⟨a, rfl, q _ H1 e1 (.bl _)⟩
theorem ed_if {b : Bool} (h : EvDT O n t ρ b) (h1 : b = true → EvD O n ta ρ d) (h2 : b = false → EvD O n tb ρ d) : EvD O n (tIf t ta tb) ρ d := fun σ H hn s Q q => h σ H hn s _ fun H1 e1 => by
  cases b with
  | true => exact h1 rfl σ H1 hn (s.ex e1) Q fun v H2 e2 d2 => q v H2 (e1.trans e2) d2
  | false => exact h2 rfl σ H1 hn (s.ex e1) Q fun v H2 e2 d2 => q v H2 (e1.trans e2) d2
end
end DL
namespace DL
open PySem L2 Evl
/-! ### wiped slots -/
theorem wipe_get {σ : L2.St} {i : Nat} : ∀ {vs : List Nat}, i ∈ vs → i < σ.length → (L2.wipe σ vs)[i]? = some none
  | [], h, _ => by cases h
  | v :: vs, h, hl => by
    unfold L2.wipe
    by_cases e : v = i
    · subst e
      rw [List.getElem?_set_self (by rw [L2.wipe_length]; exact hl)]
    · rw [List.getElem?_set_ne e]
      rcases List.mem_cons.mp h with z | z
      · exact absurd z.symm e
      · exact wipe_get z hl
theorem wipe_ext {σ τ : L2.St} {vs : List Nat} (hl : τ.length = σ.length) (h : ∀ i, i ∉ vs → τ[i]? = σ[i]?) : L2.wipe τ vs = L2.wipe σ vs := by
  refine List.ext_getElem? fun i => ?_
  by_cases hi : i ∈ vs
  · by_cases hs : i < σ.length
    · rw [wipe_get hi hs, wipe_get hi (by omega)]
    · rw [List.getElem?_eq_none (by rw [L2.wipe_length]; omega), List.getElem?_eq_none (by rw [L2.wipe_length]; omega)]
  · rw [L2.wipe_out hi, L2.wipe_out hi, h i hi]
/-- the same of data -/
def wipeR (ρ : Rho) : List Nat → Rho
  | [] => ρ
  | v :: vs => (wipeR ρ vs).set v none
theorem SD.forget {O : List Addr} {H : Hp} {σ : L2.St} {ρ : Rho} {i : Nat} {o : Option V} (s : SD O H σ ρ) : SD O H (σ.set i o) (ρ.set i none) :=
  ⟨s.own, fun j e hj => by
    by_cases z : i = j
    · subst z
      have hb : i < ρ.length := by
        have q := (List.getElem?_eq_some_iff.mp hj).1
        rw [List.length_set] at q
        exact q
      rw [List.getElem?_set_self hb] at hj
      cases hj
    · rw [List.getElem?_set_ne z] at hj
      obtain ⟨w, h1, h2⟩ := s.at' j e hj
      exact ⟨w, by rw [List.getElem?_set_ne z]; exact h1, h2⟩⟩
theorem SD.wipe {O : List Addr} {H : Hp} {σ : L2.St} {ρ : Rho} (s : SD O H σ ρ) : ∀ vs : List Nat, SD O H (L2.wipe σ vs) (wipeR ρ vs)
  | [] => s
  | v :: vs => (s.wipe vs).forget

/-! ### statements -/
section
variable (O : List Addr)
def RunR (n : Nat) (t : TS) (ρ : Rho) (d : PyData) : Prop := ∀ (D : Ends) (σ : L2.St) (H : Hp), σ.length = n → SD O H σ ρ → (∀ v H', Ex H H' → Dq (sub H' O) v d → D.rt v H') → t D σ H
def RunN (n : Nat) (t : TS) (ρ ρ' : Rho) : Prop := ∀ (D : Ends) (σ : L2.St) (H : Hp), σ.length = n → SD O H σ ρ → (∀ σ' H', σ'.length = n → Ex H H' → SD O H' σ' ρ' → D.nx σ' H') → t D σ H
/-- a target that takes a datum; only slots in vs change -/
def TgD (n : Nat) (vs : List Nat) (g : TG) (ρ : Rho) (d : PyData) (ρ' : Rho) : Prop := ∀ (σ : L2.St) (H : Hp) (v : V), σ.length = n → SD O H σ ρ → Dq (sub H O) v d → ∀ Q : L2.St → Hp → Prop,
  (∀ σ', σ'.length = n → (∀ i, i ∉ vs → σ'[i]? = σ[i]?) → SD O H σ' ρ' → Q σ' H) → g v σ H Q
/-- what is walked: data -/
def IterD (n : Nat) (wi : TI) (ρ : Rho) (ds : List PyData) : Prop := ∀ (σ : L2.St) (H : Hp), σ.length = n → SD O H σ ρ → ∀ R : It → Hp → Prop,
  (∀ (J : It) (H1 : Hp) (G : List Addr → Hp → Prop) (Y : Nat → Hp → V → Hp → Prop), Ex H H1 → (∀ P, Walk J ds.length (G P) Y) → G O H1 → (∀ P P' H2 H3, G P H2 → Ex (sub H2 P) (sub H3 P') → G P' H3) →
    (∀ P i H2 x H3, i < ds.length → (∀ a, a ∈ P → H2 a ≠ none) → G P H2 → Y i H2 x H3 → Ex H2 H3 ∧ ∃ d, ds[i]? = some d ∧ Dq (sub H3 P) x d) → R J H1) → wi σ H R
end
section
variable {O : List Addr} {n : Nat} {ρ ρ1 ρ' : Rho} {ta tb te : TE} {x y z d : PyData} {r : R2} {K : PySem.W.Frag} {t u w : TS} {tt : TT} {g : TG} {i j : Nat} {ds es : List PyData} {wi : TI} {vs : List Nat}
theorem rn_asg (h : EvD O n te ρ d) (hi : i < n) : RunN O n (tAsg te (gName i)) ρ (ρ.set i (some d)) := fun D σ H hn s k =>
  h σ H hn s _ fun v H1 e1 d1 => k _ H1 (by rw [List.length_set]; exact hn) e1 ((s.ex e1).set d1 (by omega))
theorem rn_asgG (h : EvD O n te ρ d) (hg : TgD O n vs g ρ d ρ') : RunN O n (tAsg te g) ρ ρ' := fun D σ H hn s k =>
  h σ H hn s _ fun v H1 e1 d1 => hg σ H1 v hn (s.ex e1) d1 _ fun σ' hl _ s' => k σ' H1 hl e1 s'
theorem rn_par (h : EvDA O n ta' ρ [x, y]) (hi : i < n) (hj : j < n) : RunN O n (tPar i j ta') ρ ((ρ.set i (some x)).set j (some y)) := fun D σ H hn s k =>
  h σ H hn s _ fun vs H1 e1 d1 => by
    cases d1 with
    | cons a1 k1 =>
      cases k1 with
      | cons a2 k2 =>
        cases k2
        exact ⟨_, _, rfl, k _ H1 (by rw [List.length_set, List.length_set]; exact hn) e1 (((s.ex e1).set a1 (by omega)).set a2 (by rw [List.length_set]; omega))⟩
theorem rn_seq (h1 : RunN O n t ρ ρ1) (h2 : RunN O n u ρ1 ρ') : RunN O n (tSeq t u) ρ ρ' := fun D σ H hn s k =>
  h1 _ σ H hn s fun σ1 H1 hn1 e1 s1 => h2 D σ1 H1 hn1 s1 fun σ2 H2 hn2 e2 s2 => k σ2 H2 hn2 (e1.trans e2) s2
theorem rr_seq (h1 : RunN O n t ρ ρ1) (h2 : RunR O n u ρ1 d) : RunR O n (tSeq t u) ρ d := fun D σ H hn s k =>
  h1 _ σ H hn s fun σ1 H1 hn1 e1 s1 => h2 D σ1 H1 hn1 s1 fun v H2 e2 d2 => k v H2 (e1.trans e2) d2
/-- what comes behind a return -/
theorem rr_fst (h1 : RunR O n t ρ d) : RunR O n (tSeq t u) ρ d := fun D σ H hn s k => h1 _ σ H hn s k
theorem rr_ret (h : EvD O n te ρ d) : RunR O n (tRet te) ρ d := fun D σ H hn s k => h σ H hn s _ k
theorem rn_next : RunN O n tNext ρ ρ := fun D σ H hn s k => k σ H hn (Ex.refl H) s
theorem rn_drop (h : EvD O n te ρ d) : RunN O n (tDrop te) ρ ρ := fun D σ H hn s k => h σ H hn s _ fun v H1 e1 _ => k σ H1 hn e1 (s.ex e1)
theorem rr_if {b : Bool} (h : EvDT O n tt ρ b) (h1 : b = true → RunR O n t ρ d) (h2 : b = false → RunR O n u ρ d) : RunR O n (tIfS tt t u) ρ d := fun D σ H hn s k => h σ H hn s _ fun H1 e1 => by
  cases b with
  | true => exact h1 rfl D σ H1 hn (s.ex e1) fun v H2 e2 d2 => k v H2 (e1.trans e2) d2
  | false => exact h2 rfl D σ H1 hn (s.ex e1) fun v H2 e2 d2 => k v H2 (e1.trans e2) d2
theorem rn_if {b : Bool} (h : EvDT O n tt ρ b) (h1 : b = true → RunN O n t ρ ρ') (h2 : b = false → RunN O n u ρ ρ') : RunN O n (tIfS tt t u) ρ ρ' := fun D σ H hn s k => h σ H hn s _ fun H1 e1 => by
  cases b with
  | true => exact h1 rfl D σ H1 hn (s.ex e1) fun v H2 hn2 e2 d2 => k v H2 hn2 (e1.trans e2) d2
  | false => exact h2 rfl D σ H1 hn (s.ex e1) fun v H2 hn2 e2 d2 => k v H2 hn2 (e1.trans e2) d2
/-- if c: return ..; the rest -/
theorem rr_when {b : Bool} (h : EvDT O n tt ρ b) (h1 : b = true → RunR O n t ρ d) (h2 : b = false → RunR O n w ρ d) : RunR O n (tSeq (tIfS tt t tNext) w) ρ d := fun D σ H hn s k => h σ H hn s _ fun H1 e1 => by
  cases b with
  | true => exact h1 rfl _ σ H1 hn (s.ex e1) fun v H2 e2 d2 => k v H2 (e1.trans e2) d2
  | false => exact h2 rfl D σ H1 hn (s.ex e1) fun v H2 e2 d2 => k v H2 (e1.trans e2) d2
/-! targets -/
theorem tg_name (hi : i < n) (hv : i ∈ vs) : TgD O n vs (gName i) ρ d (ρ.set i (some d)) := fun σ H v hn s h Q q =>
  q _ (by rw [List.length_set]; exact hn) (fun k hk => List.getElem?_set_ne (fun e => hk (by rw [← e]; exact hv))) (s.set h (by omega))
/-- several targets, one datum each -/
inductive TgsD (O : List Addr) (n : Nat) (vs : List Nat) : TGs → Rho → List PyData → Rho → Prop
  | nil {ρ : Rho} : TgsD O n vs gNil ρ [] ρ
  | cons {g : TG} {gs : TGs} {ρ ρ1 ρ2 : Rho} {d : PyData} {ds : List PyData} : TgD O n vs g ρ d ρ1 → TgsD O n vs gs ρ1 ds ρ2 → TgsD O n vs (gCons g gs) ρ (d :: ds) ρ2
theorem TgsD.run {gs : TGs} (h : TgsD O n vs gs ρ ds ρ') : ∀ (σ : L2.St) (H : Hp) (us : List V), σ.length = n → SD O H σ ρ → DqAll (sub H O) us ds → ∀ Q : L2.St → Hp → Prop,
    (∀ σ', σ'.length = n → (∀ i, i ∉ vs → σ'[i]? = σ[i]?) → SD O H σ' ρ' → Q σ' H) → gs us σ H Q := by
  induction h with
  | nil =>
    intro σ H us hn s hd Q q
    cases hd
    exact ⟨rfl, q σ hn (fun _ _ => rfl) s⟩
  | cons h1 h2 ih =>
    intro σ H us hn s hd Q q
    cases hd with
    | cons a k =>
      exact ⟨_, _, rfl, h1 σ H _ hn s a _ fun σ1 l1 c1 s1 => ih σ1 H _ l1 s1 k Q fun σ2 l2 c2 s2 => q σ2 l2 (fun i hi => (c2 i hi).trans (c1 i hi)) s2⟩
theorem tg_tup {m : Nat} {gs : TGs} (h : TgsD O n vs gs ρ ds ρ') (hm : ds.length = m) : TgD O n vs (gTup K m gs) ρ (.tuple ds) ρ' := fun σ H v hn s hd Q q => by
  cases hd with
  | tup a k =>
    exact ⟨_, _, rfl, st_of (sub_of a).1, by rw [k.length]; exact hm, h.run σ H _ hn s k Q q⟩
/-! what is walked -/
theorem it_list (h : EvD O n te ρ (.list ds)) : IterD O n (iList K te) ρ ds := fun σ H hn s R q => h σ H hn s _ fun v H1 e1 d1 => by
  cases d1 with
  | @lst a xs _ ha k =>
    have hs : SqL K (sub H1 O) a xs := sq_of ha
    refine ⟨a, rfl, ⟨xs, sq_of (sub_of ha).1⟩, q (Itl K a) H1 (fun P H2 => sub H2 P a = some (.lst xs) ∧ DqAll (sub H2 P) xs ds) (YAt xs) e1 (fun P => ?_) ⟨ha, k⟩ (fun P P' H2 H3 g e => ⟨e _ _ g.1, g.2.mono e⟩) ?_⟩
    · rw [← k.length]
      exact walk_list.mono (fun H2 g => sq_of (sub_of g.1).1) fun _ _ _ _ _ _ y => y
    · rintro P i H2 x H3 _ _ ⟨g1, g2⟩ ⟨rfl, hx⟩
      obtain ⟨d, h1, h2⟩ := g2.getV hx
      exact ⟨Ex.refl _, d, h1, h2⟩
theorem it_tup (h : EvD O n te ρ (.tuple ds)) : IterD O n (iTup K te) ρ ds := fun σ H hn s R q => h σ H hn s _ fun v H1 e1 d1 => by
  cases d1 with
  | @tup a xs _ ha k =>
    refine ⟨a, rfl, ⟨xs, st_of (sub_of ha).1⟩, q (Itt K a) H1 (fun P H2 => sub H2 P a = some (.tup xs) ∧ DqAll (sub H2 P) xs ds) (YAt xs) e1 (fun P => ?_) ⟨ha, k⟩ (fun P P' H2 H3 g e => ⟨e _ _ g.1, g.2.mono e⟩) ?_⟩
    · rw [← k.length]
      exact walk_tup.mono (fun H2 g => st_of (sub_of g.1).1) fun _ _ _ _ _ _ y => y
    · rintro P i H2 x H3 _ _ ⟨g1, g2⟩ ⟨rfl, hx⟩
      obtain ⟨d, h1, h2⟩ := g2.getV hx
      exact ⟨Ex.refl _, d, h1, h2⟩
def rngD (m : Nat) : List PyData := (List.range m).map fun i => PyData.int (i : Nat)
theorem it_rng {ta' : TA} {m : Nat} (h : EvDA O n ta' ρ [.int (m : Nat)]) (hm : m ≤ 1000000) : IterD O n (iRng1 ta') ρ (rngD m) := fun σ H hn s R q => h σ H hn s _ fun vs H1 e1 d1 => by
  cases d1 with
  | cons a k =>
    cases a
    cases k
    refine ⟨(m : Int), rfl, by omega, by omega, ?_⟩
    have e : ((m : Int)).toNat = m := by omega
    rw [e]
    have l : (rngD m).length = m := by
      unfold rngD
      rw [List.length_map, List.length_range]
    refine q (Itr 0 m) H1 (fun _ _ => True) (YFn fun i => .int (0 + (i : Nat))) e1 (fun P => ?_) True.intro (fun _ _ _ _ _ _ => True.intro) ?_
    · rw [l]
      exact walk_range.mono (fun _ _ => True.intro) fun i H2 x H3 hi _ y => ⟨y.1, y.2⟩
    · rintro P i H2 x H3 hi _ _ ⟨rfl, rfl⟩
      rw [l] at hi
      refine ⟨Ex.refl _, .int (i : Nat), ?_, ?_⟩
      · unfold rngD
        rw [List.getElem?_map, List.getElem?_range hi]
        rfl
      · show Dq _ (V.int (0 + ((i : Nat) : Int))) _
        rw [Int.zero_add]
        exact .int _
/-- pairs made on the way -/
theorem pair_new {O : List Addr} {H H' : Hp} {T : Addr} {x y : V} {d e : PyData} (ho : ∀ a, a ∈ O → H a ≠ none) (hT : H T = none) (hH : H' = upd H T (.tup [x, y])) (h1 : Dq (sub H O) x d) (h2 : Dq (sub H O) y e) : Ex H H' ∧ Dq (sub H' O) (.ref T) (.tuple [d, e]) := by
  subst hH
  have e0 : Ex H (upd H T (.tup [x, y])) := Ex.new hT
  exact ⟨e0, .tup (sub_mk upd_same (not_own ho hT)) (.cons (h1.mono (Ex.o O e0)) (.cons (h2.mono (Ex.o O e0)) .nil))⟩
def enumD (ds : List PyData) : List PyData := (List.range ds.length).zipWith (fun (i : Nat) d => PyData.tuple [.int (i : Int), d]) ds
theorem it_enum (h : EvD O n te ρ (.list ds)) : IterD O n (iEnum K (tCons te tNil)) ρ (enumD ds) := fun σ H hn s R q => h σ H hn s _ fun v H1 e1 d1 => by
  cases d1 with
  | @lst a xs _ ha k =>
    have l : (enumD ds).length = ds.length := by
      unfold enumD
      rw [List.length_zipWith, List.length_range, Nat.min_self]
    refine ⟨a, xs, rfl, sq_of (sub_of ha).1, q (Ite K a) H1 (fun P H2 => sub H2 P a = some (.lst xs) ∧ DqAll (sub H2 P) xs ds) (YPair (fun i => some (.int (i : Nat))) (fun i => xs[i]?)) e1 (fun P => ?_) ⟨ha, k⟩ (fun P P' H2 H3 g e => ⟨e _ _ g.1, g.2.mono e⟩) ?_⟩
    · rw [l, ← k.length]
      exact walk_enum.mono (fun H2 g => sq_of (sub_of g.1).1) fun _ _ _ _ _ _ y => y
    · rintro P i H2 x H3 hi ho ⟨g1, g2⟩ ⟨T, x1, x2, rfl, hT, hH, q1, q2⟩
      rw [l] at hi
      obtain ⟨d, h1, h2⟩ := g2.getV q2
      cases q1
      obtain ⟨a1, a2⟩ := pair_new ho hT hH (.int (i : Nat)) h2
      refine ⟨a1, _, ?_, a2⟩
      unfold enumD
      rw [List.getElem?_zipWith, List.getElem?_range hi, h1]
def zipD (ds es : List PyData) : List PyData := ds.zipWith (fun d e => PyData.tuple [d, e]) es
theorem it_zip (h : EvD O n ta ρ (.list ds)) (h' : EvD O n tb ρ (.list es)) : IterD O n (iZip K (tCons ta (tCons tb tNil))) ρ (zipD ds es) := fun σ H hn s R q => h σ H hn s _ fun v H1 e1 d1 => h' σ H1 hn (s.ex e1) _ fun v' H2 e2 d2 => by
  cases d1 with
  | @lst a xs _ ha k =>
    cases d2 with
    | @lst b ys _ hb k' =>
      have l : (zipD ds es).length = min ds.length es.length := by
        unfold zipD
        rw [List.length_zipWith]
      have ha2 : sub H2 O a = some (.lst xs) := (Ex.o O e2) _ _ ha
      refine ⟨a, b, xs, ys, rfl, sq_of (sub_of ha2).1, sq_of (sub_of hb).1, q (Itz K a b) H2 (fun P H3 => (sub H3 P a = some (.lst xs) ∧ DqAll (sub H3 P) xs ds) ∧ (sub H3 P b = some (.lst ys) ∧ DqAll (sub H3 P) ys es)) (YPair (fun i => xs[i]?) (fun i => ys[i]?)) (e1.trans e2) (fun P => ?_)
        ⟨⟨ha2, k.mono (Ex.o O e2)⟩, ⟨hb, k'⟩⟩ (fun P P' H3 H4 g e => ⟨⟨e _ _ g.1.1, g.1.2.mono e⟩, ⟨e _ _ g.2.1, g.2.2.mono e⟩⟩) ?_⟩
      · rw [l, ← k.length, ← k'.length]
        exact (walk_zip rfl).mono (fun H3 g => ⟨sq_of (sub_of g.1.1).1, sq_of (sub_of g.2.1).1⟩) fun _ _ _ _ _ _ y => y
      · rintro P i H3 x H4 hi ho ⟨⟨g1, g2⟩, g3, g4⟩ ⟨T, x1, x2, rfl, hT, hH, q1, q2⟩
        obtain ⟨d, h1, h2⟩ := g2.getV q1
        obtain ⟨d', h1', h2'⟩ := g4.getV q2
        obtain ⟨a1, a2⟩ := pair_new ho hT hH h2 h2'
        refine ⟨a1, _, ?_, a2⟩
        unfold zipD
        rw [List.getElem?_zipWith, h1, h1']

/-! ### comprehensions -/
/-- item by item -/
inductive All2 (P : PyData → PyData → Prop) : List PyData → List PyData → Prop
  | nil : All2 P [] []
  | cons {d e : PyData} {ds es : List PyData} : P d e → All2 P ds es → All2 P (d :: ds) (e :: es)
theorem All2.length {P : PyData → PyData → Prop} : ∀ {ds es : List PyData}, All2 P ds es → ds.length = es.length
  | _, _, .nil => rfl
  | _, _, .cons _ k => congrArg Nat.succ k.length
theorem All2.get {P : PyData → PyData → Prop} : ∀ {ds es : List PyData} {i : Nat} {d : PyData}, All2 P ds es → ds[i]? = some d → ∃ e, es[i]? = some e ∧ P d e
  | _, _, _, _, .nil, h => by simp at h
  | _, _, 0, _, .cons p _, h => by
    simp at h
    subst h
    exact ⟨_, rfl, p⟩
  | _, _, i + 1, d, .cons _ k, h => by
    obtain ⟨e, h1, h2⟩ := k.get (i := i) (d := d) (by simpa using h)
    exact ⟨e, by simpa using h1, h2⟩
theorem All2.mapf {P : PyData → PyData → Prop} {f : PyData → PyData} : ∀ {ds : List PyData}, (∀ d, d ∈ ds → P d (f d)) → All2 P ds (ds.map f)
  | [], _ => .nil
  | d :: ds, h => .cons (h d (List.mem_cons_self ..)) (All2.mapf fun e he => h e (List.mem_cons_of_mem _ he))
/-- over values of some type, as data -/
theorem All2.of {α : Type} {P : PyData → PyData → Prop} {f g : α → PyData} : ∀ {l : List α}, (∀ a, a ∈ l → P (f a) (g a)) → All2 P (l.map f) (l.map g)
  | [], _ => .nil
  | a :: l, h => .cons (h a (List.mem_cons_self ..)) (All2.of fun e he => h e (List.mem_cons_of_mem _ he))
theorem take_snoc {α : Type} {l : List α} {i : Nat} {e : α} (h : l[i]? = some e) : l.take (i + 1) = l.take i ++ [e] := by
  rw [List.take_add_one, h]
  rfl
theorem ex_more {O : List Addr} {H H' : Hp} {D : Addr} (e : Ex H H') (hD : H D = none) : Ex (sub H O) (sub H' (D :: O)) := fun a o h => by
  obtain ⟨h1, h2⟩ := sub_of h
  refine sub_mk (e a o h1) fun z => ?_
  rcases List.mem_cons.mp z with z | z
  · rw [z, hD] at h1
    cases h1
  · exact h2 z
theorem sub_upd {O : List Addr} {H : Hp} {D : Addr} {o : HO} (hD : D ∈ O) : sub (upd H D o) O = sub H O := by
  funext a
  unfold sub
  by_cases e : a ∈ O
  · rw [if_pos e, if_pos e]
  · rw [if_neg e, if_neg e, upd_ne (fun z => e (by rw [z]; exact hD))]
theorem ex_less {O : List Addr} {H : Hp} {D : Addr} : Ex (sub H (D :: O)) (sub H O) := fun a o h => by
  obtain ⟨h1, h2⟩ := sub_of h
  exact sub_mk h1 fun z => h2 (List.mem_cons_of_mem _ z)
theorem SD.more {O : List Addr} {H H' : Hp} {σ : L2.St} {ρ : Rho} {D : Addr} {o : HO} (s : SD O H σ ρ) (e : Ex H H') (hD : H D = none) (hD' : H' D = some o) : SD (D :: O) H' σ ρ :=
  ⟨fun a ha z => by
    rcases List.mem_cons.mp ha with q | q
    · rw [q, hD'] at z
      cases z
    · exact own_ex e s.own a q z, fun i d h => by
    obtain ⟨v, h1, h2⟩ := s.at' i d h
    exact ⟨v, h1, h2.mono (ex_more e hD)⟩⟩
/-- [e for x in ..] -/
theorem ed_lc (hw : IterD O n wi ρ ds) (hl : ds.length ≤ 100000) (h : ∀ D, All2 (fun d e => ∃ ρ', TgD (D :: O) n vs g (wipeR ρ vs) d ρ' ∧ EvD (D :: O) n te ρ' e) ds es) : EvD O n (tLc wi g tYes te vs) ρ (.list es) := fun σ H hn s Q q => hw σ H hn s _ fun J H1 G Y e1 W g1 gk yk => by
  intro D hD
  have lw : (L2.wipe σ vs).length = n := by rw [L2.wipe_length]; exact hn
  have s1 := s.ex e1
  have len := (h D).length
  refine lc_it (W (D :: O)) (fun i H2 => ∃ acc, H2 D = some (.lst acc) ∧ DqAll (sub H2 (D :: O)) acc (es.take i) ∧ Ex H1 H2) ⟨[], upd_same, by simpa using DqAll.nil, Ex.new hD⟩ ?_ ?_ ?_
  · rintro i H2 _ ⟨acc, _, _, k2⟩
    exact gk _ _ _ _ g1 (ex_more k2 hD)
  · rintro i x H2 H3 hi ⟨acc, hA, hd, k2⟩ y
    have s2 : SD (D :: O) H2 σ ρ := s1.more k2 hD hA
    obtain ⟨e3, d, hdi, hx⟩ := yk (D :: O) i H2 x H3 hi s2.own (gk _ _ _ _ g1 (ex_more k2 hD)) y
    obtain ⟨e, hei, ρ', ht, hte⟩ := (h D).get hdi
    have s3 := (s2.ex e3).wipe vs
    refine ht (L2.wipe σ vs) H3 x lw s3 hx _ fun σ' hl' hc' s' => ⟨?_, ?_⟩
    · have ew : L2.wipe (L2.wipe σ vs) vs = L2.wipe σ vs := by
        refine wipe_ext (by rw [L2.wipe_length]) fun i hi => L2.wipe_out hi
      rw [wipe_ext (by rw [hl', lw]) hc', ew]
    · show te σ' H3 _
      refine hte σ' H3 hl' s' _ fun y H4 e4 d4 => ⟨acc, e4 _ _ (e3 _ _ hA), ?_, ?_⟩
      · have q1 := hd.length
        rw [List.length_take] at q1
        exact sz_lt (by omega)
      · refine ⟨_, upd_same, ?_, Ex.mut ((k2.trans e3).trans e4) hD⟩
        rw [sub_upd (List.mem_cons_self ..), take_snoc hei]
        exact (hd.mono (Ex.o _ (e3.trans e4))).append (.cons d4 .nil)
  · rintro H2 ⟨acc, hA, hd, k2⟩
    rw [len, List.take_length] at hd
    exact q _ H2 (e1.trans k2) (.lst (sub_mk hA (not_own s1.own hD)) (hd.mono ex_less))
end
end DL
namespace DL
open PySem L2 Evl PyProof.Rows
/-! ### a pure def's promise: a relation of the arguments' data and the answer's -/
def spD (R : List PyData → PyData → Prop) : Sp := fun vs H Q _ => ∃ (O : List Addr) (ds : List PyData) (d : PyData), (∀ a, a ∈ O → H a ≠ none) ∧ DqAll (sub H O) vs ds ∧ R ds d ∧ ∀ v H', Ex H H' → Dq (sub H' O) v d → Q v H'
/-- the slots at a def's start -/
def argR (N : List Str) (ds : List PyData) : Rho := ds.map some ++ List.replicate (N.length - ds.length) none
theorem sd_start {O : List Addr} {H : Hp} {N : List Str} {vs : List V} {ds : List PyData} (ho : ∀ a, a ∈ O → H a ≠ none) (h : DqAll (sub H O) vs ds) : SD O H (L2.start N vs) (argR N ds) :=
  ⟨ho, fun i d e => by
    unfold argR at e
    by_cases hi : i < ds.length
    · rw [List.getElem?_append_left (by rw [List.length_map]; exact hi), List.getElem?_map] at e
      have q : ds[i]? = some d := by
        cases z : ds[i]? with
        | none =>
          rw [z] at e
          cases e
        | some d' =>
          rw [z] at e
          cases e
          rfl
      obtain ⟨v, h1, h2⟩ := h.get q
      refine ⟨v, ?_, h2⟩
      unfold L2.start
      have hv : i < vs.length := by rw [h.length]; exact hi
      rw [List.getElem?_append_left (by rw [List.length_map]; exact hv), List.getElem?_map, h1]
      rfl
    · rw [List.getElem?_append_right (by rw [List.length_map]; omega), List.getElem?_replicate] at e
      split at e <;> cases e⟩
theorem start_len {N : List Str} {vs : List V} (h : vs.length ≤ N.length) : (L2.start N vs).length = N.length := by
  unfold L2.start
  rw [List.length_append, List.length_map, List.length_replicate]
  omega
section
variable {P : Program} {w : World} {K : PySem.W.Frag} {mg : Str → Option Value} {base : Heap}
theorem pure_ok {R : List PyData → PyData → Prop} {x qual : Str} {st : Stmt} {f : Addr} {fd : FuncData} {N ps : List Str} {k : Nat} (F : Fun K x qual st f fd) (S : FnScope N ps (defScope st)) (hl : ∀ ds d, R ds d → ds.length = ps.length) (hp : ps.length ≤ N.length)
    (body : ∀ (cdv : Value) (A : Around) (outer : List Env) (s : Shared) (H : Hp) (E : XK), Room k (A.deeper (envOfC qual (defScope st) s.heap.objs.size f cdv)) →
      ∃ t, PSs (cxOf CX0 P w K mg base N qual (defScope st) f cdv A outer s H E).nox (defBody st) t ∧ ∀ O ds d, R ds d → RunR O N.length t (argR N ds) d) : FnOk P w K mg base CX0 (k + 1) f fd ps (spD R) := by
  refine F.ok S (fun vs H Q E h => ?_) (fun cdv A outer s H vs Q E hr h => ?_)
  · obtain ⟨O, ds, d, _, hd, hR, _⟩ := h
    rw [hd.length]
    exact hl ds d hR
  · obtain ⟨t, ht, hb⟩ := body cdv A outer s H E hr
    obtain ⟨O, ds, d, ho, hd, hR, q⟩ := h
    refine ⟨t, ht, hb O ds d hR _ (L2.start N vs) H (start_len (by rw [hd.length, hl ds d hR]; exact hp)) (sd_start ho hd) q⟩
end
section
variable {O : List Addr} {n : Nat} {ρ : Rho} {ta tb te : TE} {x y z d : PyData} {K : PySem.W.Frag} {ds es zs : List PyData} {R : List PyData → PyData → Prop} {E : XK} {tr tk : TA}
theorem ed_call (h : EvDA O n tr ρ ds) (hR : R ds d) : EvD O n (tCall (spD R) [] E tr) ρ d := fun σ H hn s Q q =>
  h σ H hn s _ fun vs H1 e1 d1 => ⟨O, ds, d, own_ex e1 s.own, by rw [List.append_nil]; exact d1, hR, fun v H2 e2 d2 => q v H2 (e1.trans e2) d2⟩
/-- f(k = ..): pm puts the keywords' values in order -/
theorem ed_callN {m : Nat} {gV : List V → List V → List V} (h : EvDA O n tk ρ zs) (hm : zs.length = m) (hg : ∀ (H : Hp) (vs : List V), DqAll H vs zs → DqAll H (gV [] vs) ds) (hR : R ds d) : EvD O n (tCallN 0 m (spD R) gV E tNil tk) ρ d := fun σ H hn s Q q =>
  h σ H hn s _ fun vs H1 e1 d1 => ⟨rfl, by rw [d1.length]; exact hm, O, ds, d, own_ex e1 s.own, hg _ _ d1, hR, fun v H2 e2 d2 => q v H2 (e1.trans e2) d2⟩
end
section
variable {X : Cx} {CX : CXT} {k : Nat} {f : Addr} {fd : FuncData} {ps ks : List Str} {sp : Sp} {E : XK} {x : Str} {p pos : Pos} {kws : List Keyword} {tk : TA} {g : List Value → List Value → List Value} {gV : List V → List V → List V}
/-- f(k = v, ..), keywords alone -/
theorem pe_callN0 (F : FnOk X.prog X.w X.K X.mg X.base CX k f fd ps sp) (hr : Room k X.A) (hg : Gl X x) (hm : X.mg x = some (.ref f)) (hk : PySem.W.keepIn X.K (.ref f) = true) (hb : KBn X.K fd ps 0 ks g gV) (hx : Passes CX X E)
    (hkw : PK X kws tk) (hall : (backToKw pos (keywordEach kws X.env)).all (·.1.isSome) = true := by rfl) (hks : (backToKw pos (keywordEach kws X.env)).filterMap (·.1) = ks := by rfl)
    (hdb : (x == ("__debug__" : Str)) = false := by decide) (hpl : ((backTo pos (starEach [] X.env)).any (·.1) || (backToKw pos (keywordEach kws X.env)).any (·.1.isNone)) = false := by rfl) :
    PE X (.Call (.Name x p) [] kws pos) (tCallN 0 ks.length sp gV E tNil tk) := by
  refine ⟨fun pins s σ H Q I h => ?_⟩
  refine wpAny_Call_Name_kw (ld_glob I hg hm ?_ hdb)
  refine PySem.W.callWith_KW0 (h₀ := X.base) I.ok.mod.kin hk hall ?_ hpl
  refine thn (hkw.run pos pins s σ H _ I h) fun ws s2 ⟨zs, H2, I2, rz, l1, l2, q2⟩ => ⟨I2.kIn, ?_⟩
  rw [hks]
  exact run_fnN (us := []) (vs := []) F hr hb hx I2 .nil rz rfl l2 q2
/-- one parameter, by its name -/
theorem kb_one {K : PySem.W.Frag} {f : Addr} {fd : FuncData} {x qual k0 : Str} {st : Stmt} (F : Fun K x qual st f fd)
    (h : ∀ (kV doc pm : Value) (an : Option Addr) (cdv ct : Value) (u : Value), bindArgs (PySem.W.fnOf x qual (defArgs st) (defBody st) (defScope st) .none kV doc pm an cdv ct) ⟨[], [(k0, u)]⟩ = pure [(k0, u)]) : KBn K fd [k0] 0 [k0] (fun us ws => us ++ ws) (fun vs zs => vs ++ zs) := by
  obtain ⟨oc, od, kV, doc, pm, an, cdv, ct, osl, rfl, lk, hcd⟩ := F.ex
  refine ⟨fun s us ws X l1 l2 => ?_, fun r1 r2 => r1.append r2⟩
  match us, ws, l1, l2 with
  | [], [u], _, _ => exact .of_eq (h kV doc pm an cdv ct u)
/-- a text so many times -/
def rRepS : R2 := fun x y H Q => ∃ z k, x = .str z ∧ y = .int k ∧ MulOk z k ∧ Q (.str (Txt.mul z k)) H
theorem op_repS : OpR X (binaryOp .Mult) rRepS := by
  intro pins s σ H x y v u Q I rx ry h
  obtain ⟨z, k, rfl, rfl, h1, q⟩ := h
  obtain ⟨t, rfl⟩ := rx
  obtain ⟨t', rfl⟩ := ry
  exact SB.mul h1 fun t'' k' => ⟨.str (Txt.mul z k), H, I.tok k', ⟨t'', rfl⟩, q⟩
end

/-! ### operations on data, further -/
section
variable {O : List Addr} {n : Nat} {ρ : Rho} {ta tb te to : TE} {x y z d : PyData} {K : PySem.W.Frag} {ds es zs : List PyData}
theorem rd_reps {z : Str} {k : Int} (h : MulOk z k) : RD O rRepS (.str z) (.int k) (.str (Txt.mul z k)) := fun H v w _ h1 h2 Q q => by
  cases h1; cases h2
  exact ⟨z, k, rfl, rfl, h, q _ H (Ex.refl H) (.str _)⟩
theorem rd_eqs {i j : Str} : RD O rEq (.str i) (.str j) (.bool (decide (i = j))) := fun H v w _ h1 h2 Q q => by
  cases h1; cases h2
  refine ⟨rfl, ?_⟩
  have e : decide (V.str i = V.str j) = decide (i = j) := by
    by_cases c : i = j
    · rw [decide_eq_true c, decide_eq_true (by rw [c])]
    · rw [decide_eq_false c, decide_eq_false (fun z => c (V.str.inj z))]
  rw [e]
  exact q _ H (Ex.refl H) (.bl _)
theorem rd_eqi {i j : Int} : RD O rEq (.int i) (.int j) (.bool (decide (i = j))) := fun H v w _ h1 h2 Q q => by
  cases h1; cases h2
  refine ⟨rfl, ?_⟩
  have e : decide (V.int i = V.int j) = decide (i = j) := by
    by_cases c : i = j
    · rw [decide_eq_true c, decide_eq_true (by rw [c])]
    · rw [decide_eq_false c, decide_eq_false (fun z => c (V.int.inj z))]
  rw [e]
  exact q _ H (Ex.refl H) (.bl _)
theorem rd_nes {i j : Str} : RD O rNe (.str i) (.str j) (.bool (!decide (i = j))) := fun H v w _ h1 h2 Q q => by
  cases h1; cases h2
  refine ⟨rfl, ?_⟩
  have e : decide (V.str i = V.str j) = decide (i = j) := by
    by_cases c : i = j
    · rw [decide_eq_true c, decide_eq_true (by rw [c])]
    · rw [decide_eq_false c, decide_eq_false (fun z => c (V.str.inj z))]
  rw [e]
  exact q _ H (Ex.refl H) (.bl _)
theorem rd_nei {i j : Int} : RD O rNe (.int i) (.int j) (.bool (!decide (i = j))) := fun H v w _ h1 h2 Q q => by
  cases h1; cases h2
  refine ⟨rfl, ?_⟩
  have e : decide (V.int i = V.int j) = decide (i = j) := by
    by_cases c : i = j
    · rw [decide_eq_true c, decide_eq_true (by rw [c])]
    · rw [decide_eq_false c, decide_eq_false (fun z => c (V.int.inj z))]
  rw [e]
  exact q _ H (Ex.refl H) (.bl _)
/-- xs[i], i from 0 -/
theorem rd_ixL {i : Nat} (h : ds[i]? = some d) : RD O (rIxL K) (.list ds) (.int (i : Int)) d := fun H v w _ h1 h2 Q q => by
  cases h2
  cases h1 with
  | lst a k =>
    obtain ⟨v, e1, e2⟩ := k.get h
    exact ⟨_, _, _, v, rfl, rfl, sq_of (sub_of a).1, atI_nat e1, q _ H (Ex.refl H) e2⟩
theorem rd_ixT {i : Nat} (h : ds[i]? = some d) : RD O (rIxT K) (.tuple ds) (.int (i : Int)) d := fun H v w _ h1 h2 Q q => by
  cases h2
  cases h1 with
  | tup a k =>
    obtain ⟨v, e1, e2⟩ := k.get h
    exact ⟨_, _, _, v, rfl, rfl, st_of (sub_of a).1, atI_nat e1, q _ H (Ex.refl H) e2⟩
/-- x in (..): texts -/
theorem rd_inS {neg : Bool} {i : Str} {xs : List Str} : RD O (rIn K neg) (.str i) (.tuple (dS xs)) (.bool (if neg then !decide (i ∈ xs) else decide (i ∈ xs))) := fun H v w _ h1 h2 Q q => by
  cases h1
  cases h2 with
  | tup a k =>
    have e := strs_dq k
    subst e
    have f1 : (xs.map V.str).all flatV = true := by
      rw [List.all_map]
      exact List.all_eq_true.mpr fun _ _ => rfl
    have f2 : inV (.str i) (xs.map V.str) = decide (i ∈ xs) := by
      unfold inV
      rw [List.any_map]
      by_cases c : i ∈ xs
      · rw [decide_eq_true c]
        refine List.any_eq_true.mpr ⟨i, c, ?_⟩
        simp [eqV]
      · rw [decide_eq_false c]
        refine List.any_eq_false.mpr fun y hy z => c ?_
        have q : eqV (V.str y) (V.str i) = true := z
        simp [eqV] at q
        rw [← q]
        exact hy
    refine ⟨_, _, rfl, .inr (st_of (sub_of a).1), rfl, f1, ?_⟩
    rw [f2]
    exact q _ H (Ex.refl H) (.bl _)
/-! built-ins -/
abbrev rLen (K : PySem.W.Frag) : List V → Hp → VK → Prop := fun xs H Q => ∃ p ys, xs = [.ref p] ∧ (SqL K H p ys ∨ SqT K H p ys) ∧ Q (.int ys.length) H
theorem rc_lenL : RDC O (rLen K) [.list ds] (.int ds.length) := fun H vs _ h Q q => by
  cases h with
  | cons h k =>
    cases k
    cases h with
    | lst a k =>
      refine ⟨_, _, rfl, .inl (sq_of (sub_of a).1), ?_⟩
      rw [k.length]
      exact q _ H (Ex.refl H) (.int _)
theorem rc_lenT : RDC O (rLen K) [.tuple ds] (.int ds.length) := fun H vs _ h Q q => by
  cases h with
  | cons h k =>
    cases k
    cases h with
    | tup a k =>
      refine ⟨_, _, rfl, .inr (st_of (sub_of a).1), ?_⟩
      rw [k.length]
      exact q _ H (Ex.refl H) (.int _)
theorem rc_str {i : Int} (h : i.natAbs.log2 < 1920) : RDC O (fun xs H Q => ∃ i, xs = [.int i] ∧ i.natAbs.log2 < 1920 ∧ Q (.str (toString i)) H) [.int i] (.str (toString i)) := fun H vs _ h' Q q => by
  cases h' with
  | cons h' k =>
    cases k
    cases h'
    exact ⟨i, rfl, h, q _ H (Ex.refl H) (.str _)⟩
theorem rc_int {i : Int} : RDC O (fun xs H Q => (∃ i, xs = [.int i] ∧ Q (.int i) H) ∨ ∃ k, xs = [.bl k] ∧ Q (.int (if k then 1 else 0)) H) [.int i] (.int i) := fun H vs _ h' Q q => by
  cases h' with
  | cons h' k =>
    cases k
    cases h'
    exact .inl ⟨i, rfl, q _ H (Ex.refl H) (.int _)⟩
theorem rc_intb {b : Bool} : RDC O (fun xs H Q => (∃ i, xs = [.int i] ∧ Q (.int i) H) ∨ ∃ k, xs = [.bl k] ∧ Q (.int (if k then 1 else 0)) H) [.bool b] (.int (if b then 1 else 0)) := fun H vs _ h' Q q => by
  cases h' with
  | cons h' k =>
    cases k
    cases h'
    exact .inr ⟨b, rfl, q _ H (Ex.refl H) (.int _)⟩
theorem rc_ints {a : Str} {i : Int} (h : PySem.intText? a = some i) (hl : a.length ≤ 640) : RDC O (fun xs H Q => ∃ a n, xs = [.str a] ∧ PySem.intText? a = some n ∧ a.length ≤ 640 ∧ Q (.int n) H) [.str a] (.int i) := fun H vs _ h' Q q => by
  cases h' with
  | cons h' k =>
    cases k
    cases h'
    exact ⟨a, i, rfl, h, hl, q _ H (Ex.refl H) (.int _)⟩
theorem rc_abs {i : Int} : RDC O (fun xs H Q => ∃ i, xs = [.int i] ∧ Q (.int (if i < 0 then -i else i)) H) [.int i] (.int (if i < 0 then -i else i)) := fun H vs _ h' Q q => by
  cases h' with
  | cons h' k =>
    cases k
    cases h'
    exact ⟨i, rfl, q _ H (Ex.refl H) (.int _)⟩
abbrev rListOf (K : PySem.W.Frag) : List V → Hp → VK → Prop := fun xs H Q => ∃ p ys, xs = [.ref p] ∧ (SqL K H p ys ∨ SqT K H p ys) ∧ ∀ l, H l = none → Q (.ref l) (upd H l (.lst ys))
abbrev rTupleOf (K : PySem.W.Frag) : List V → Hp → VK → Prop := fun xs H Q => ∃ p ys, xs = [.ref p] ∧ ((SqL K H p ys ∧ ∀ l, H l = none → Q (.ref l) (upd H l (.tup ys))) ∨ (SqT K H p ys ∧ Q (.ref p) H))
/-- a list or a tuple of such data -/
inductive SeqD : PyData → List PyData → Prop
  | lst (ds : List PyData) : SeqD (.list ds) ds
  | tup (ds : List PyData) : SeqD (.tuple ds) ds
theorem seq_rd {H : Hp} {v : V} (hs : SeqD x ds) (h : Dq (sub H O) v x) : ∃ p ys, v = .ref p ∧ (SqL K H p ys ∨ SqT K H p ys) ∧ DqAll (sub H O) ys ds := by
  cases hs with
  | lst =>
    cases h with
    | lst a k => exact ⟨_, _, rfl, .inl (sq_of (sub_of a).1), k⟩
  | tup =>
    cases h with
    | tup a k => exact ⟨_, _, rfl, .inr (st_of (sub_of a).1), k⟩
theorem rc_list (hs : SeqD x ds) : RDC O (rListOf K) [x] (.list ds) := fun H vs ho h Q q => by
  cases h with
  | cons h k =>
    cases k
    obtain ⟨p, ys, rfl, h1, h2⟩ := seq_rd (K := K) hs h
    exact ⟨p, ys, rfl, h1, fun l hl => q _ _ (Ex.new hl) (.lst (sub_mk upd_same (not_own ho hl)) (h2.mono (Ex.o O (Ex.new hl))))⟩
theorem rc_tuple (hs : SeqD x ds) : RDC O (rTupleOf K) [x] (.tuple ds) := fun H vs ho h Q q => by
  cases h with
  | cons h k =>
    cases k
    cases hs with
    | lst =>
      cases h with
      | lst a k => exact ⟨_, _, rfl, .inl ⟨sq_of (sub_of a).1, fun l hl => q _ _ (Ex.new hl) (.tup (sub_mk upd_same (not_own ho hl)) (k.mono (Ex.o O (Ex.new hl))))⟩⟩
    | tup =>
      cases h with
      | tup a k => exact ⟨_, _, rfl, .inr ⟨st_of (sub_of a).1, q _ H (Ex.refl H) (.tup a k)⟩⟩
theorem rc_all {bs : List Bool} : RDC O (rAll K) [.list (dB bs)] (.bool (bs.all id)) := fun H vs _ h Q q => by
  cases h with
  | cons h k =>
    cases k
    cases h with
    | lst a k =>
      have e := bools_dq k
      subst e
      exact ⟨_, bs, rfl, sq_of (sub_of a).1, q _ H (Ex.refl H) (.bl _)⟩
/-- sorted(..) of ints: zs is the list in order -/
theorem rc_sorted {ns zs : List Int} (hp : zs.Perm ns) (hz : zs.Pairwise (· ≤ ·)) : RDC O (rSortedI K) [.list (dI ns)] (.list (dI zs)) := fun H vs ho h Q q => by
  cases h with
  | cons h k =>
    cases k
    cases h with
    | lst a k =>
      have e := ints_dq k
      subst e
      refine ⟨_, ns, rfl, sq_of (sub_of a).1, fun ns' p p1 p2 hp' => ?_⟩
      have e2 : ns' = zs := PySem.W.ksm_same (p1.trans hp.symm) p2 hz
      subst e2
      exact q _ _ (Ex.new hp') (.lst (sub_mk upd_same (not_own ho hp')) (dq_ints _))
/-! methods of texts -/
theorem ed_m1 {r : V → List V → Hp → VK → Prop} {a b : Str} (ho : EvD O n to ρ (.str a)) (he : EvD O n te ρ (.str b)) (hr : ∀ (H : Hp), (∀ a, a ∈ O → H a ≠ none) → ∀ Q : VK, (∀ u H', Ex H H' → Dq (sub H' O) u z → Q u H') → r (.str a) [.str b] H Q) : EvD O n (tM1 r to te) ρ z := fun σ H hn s Q q =>
  ho σ H hn s _ fun v H1 e1 d1 => by
    cases d1
    exact ⟨⟨a, rfl⟩, he σ H1 hn (s.ex e1) _ fun v H2 e2 d2 => by
      cases d2
      exact hr H2 (own_ex (e1.trans e2) s.own) Q fun u H3 e3 d3 => q u H3 ((e1.trans e2).trans e3) d3⟩
theorem ed_m0 {r : V → List V → Hp → VK → Prop} {a : Str} (ho : EvD O n to ρ (.str a)) (hr : ∀ (H : Hp), (∀ a, a ∈ O → H a ≠ none) → ∀ Q : VK, (∀ u H', Ex H H' → Dq (sub H' O) u z → Q u H') → r (.str a) [] H Q) : EvD O n (tM0 r to) ρ z := fun σ H hn s Q q =>
  ho σ H hn s _ fun v H1 e1 d1 => by
    cases d1
    exact ⟨⟨a, rfl⟩, hr H1 (own_ex e1 s.own) Q fun u H3 e3 d3 => q u H3 (e1.trans e3) d3⟩
theorem ed_isdigit {a : Str} (ho : EvD O n to ρ (.str a)) : EvD O n (tM0 (fun x xs H Q => ∃ a, x = .str a ∧ xs = [] ∧ True ∧ Q (.bl (Txt.isdigit a)) H) to) ρ (.bool (Txt.isdigit a)) :=
  ed_m0 ho fun H _ Q q => ⟨a, rfl, rfl, True.intro, q _ H (Ex.refl H) (.bl _)⟩
theorem ed_isascii {a : Str} (ho : EvD O n to ρ (.str a)) : EvD O n (tM0 (fun x xs H Q => ∃ a, x = .str a ∧ xs = [] ∧ True ∧ Q (.bl (Txt.isascii a)) H) to) ρ (.bool (Txt.isascii a)) :=
  ed_m0 ho fun H _ Q q => ⟨a, rfl, rfl, True.intro, q _ H (Ex.refl H) (.bl _)⟩
theorem ed_startswith {a b : Str} (ho : EvD O n to ρ (.str a)) (he : EvD O n te ρ (.str b)) : EvD O n (tM1 (fun x xs H Q => ∃ a b, x = .str a ∧ xs = [.str b] ∧ Q (.bl (Txt.startswith a b)) H) to te) ρ (.bool (Txt.startswith a b)) :=
  ed_m1 ho he fun H _ Q q => ⟨a, b, rfl, rfl, q _ H (Ex.refl H) (.bl _)⟩
theorem ed_split {a b : Str} (ho : EvD O n to ρ (.str a)) (he : EvD O n te ρ (.str b)) (hb : (b.length == 0) = false) (hl : a.length ≤ 100000) :
    EvD O n (tM1 (fun x xs H Q => ∃ a b, x = .str a ∧ xs = [.str b] ∧ (b.length == 0) = false ∧ a.length + 2 ≤ sizeLine ∧ rNewStrs (Txt.split a b) H Q) to te) ρ (.list (dS (Txt.split a b))) :=
  ed_m1 ho he fun H ho Q q => ⟨a, b, rfl, rfl, hb, Nat.le_trans (show a.length + 2 ≤ 100002 by omega) (by decide), fun p hp => q _ _ (Ex.new hp) (.lst (sub_mk upd_same (not_own ho hp)) (dq_strs _))⟩
theorem ed_partition {a b : Str} (ho : EvD O n to ρ (.str a)) (he : EvD O n te ρ (.str b)) (hb : (b.length == 0) = false) (hl : a.length ≤ 100000) :
    EvD O n (tM1 (fun x xs H Q => ∃ a b, x = .str a ∧ xs = [.str b] ∧ (b.length == 0) = false ∧ a.length ≤ sizeLine ∧
      ∀ p, H p = none → Q (.ref p) (upd H p (.tup [.str (Txt.partition a b).1, .str (Txt.partition a b).2.1, .str (Txt.partition a b).2.2]))) to te) ρ (.tuple [.str (Txt.partition a b).1, .str (Txt.partition a b).2.1, .str (Txt.partition a b).2.2]) :=
  ed_m1 ho he fun H ho Q q => ⟨a, b, rfl, rfl, hb, sz_of hl, fun p hp => q _ _ (Ex.new hp) (.tup (sub_mk upd_same (not_own ho hp)) (.cons (.str _) (.cons (.str _) (.cons (.str _) .nil))))⟩
theorem ed_join {a : Str} {xs : List Str} (ho : EvD O n to ρ (.str a)) (he : EvD O n te ρ x) (hx : SeqD x (dS xs)) (hl : (xs.map (·.length)).sum + xs.length * a.length ≤ 100000) :
    EvD O n (tM1 (fun x xs H Q => ∃ a p, ∃ ys : List Str, x = .str a ∧ xs = [.ref p] ∧ (SqL K H p (ys.map V.str) ∨ SqT K H p (ys.map V.str)) ∧
      (ys.map (·.length)).sum + ys.length * a.length ≤ 16777216 ∧ Q (.str (Txt.join a ys)) H) to te) ρ (.str (Txt.join a xs)) := fun σ H hn s Q q =>
  ho σ H hn s _ fun v H1 e1 d1 => by
    cases d1
    refine ⟨⟨a, rfl⟩, he σ H1 hn (s.ex e1) _ fun v H2 e2 d2 => ?_⟩
    obtain ⟨p, ys, rfl, h1, h2⟩ := seq_rd (K := K) hx d2
    have e := strs_dq h2
    subst e
    exact ⟨a, p, xs, rfl, rfl, h1, by omega, q _ H2 (e1.trans e2) (.str _)⟩
/-! slices -/
def EvDO (O : List Addr) (n : Nat) (to : TO) (ρ : Rho) (o : Option Int) : Prop := ∀ (σ : L2.St) (H : Hp), σ.length = n → SD O H σ ρ → ∀ Q : Option Int → Hp → Prop, (∀ H', Ex H H' → Q o H') → to σ H Q
theorem eo_none : EvDO O n tNoPart ρ none := fun σ H _ s Q q => q H (Ex.refl H)
theorem eo_some {i : Int} (h : EvD O n te ρ (.int i)) : EvDO O n (tPart te) ρ (some i) := fun σ H hn s Q q => h σ H hn s _ fun v H1 e1 d1 => by
  cases d1
  exact ⟨i, rfl, q H1 e1⟩
theorem ed_slS {tl th : TO} {a : Str} {lo hi : Option Int} (h : EvD O n te ρ (.str a)) (h1 : EvDO O n tl ρ lo) (h2 : EvDO O n th ρ hi) (hl : a.length ≤ 100000) : EvD O n (tSl rSlS te tl th) ρ (.str (cutS a lo hi)) := fun σ H hn s Q q =>
  h σ H hn s _ fun v H1 e1 d1 => h1 σ H1 hn (s.ex e1) _ fun H2 e2 => h2 σ H2 hn ((s.ex e1).ex e2) _ fun H3 e3 => by
    cases d1
    exact ⟨a, rfl, sz_of hl, q _ H3 ((e1.trans e2).trans e3) (.str _)⟩
/-- the part of a list -/
def cutD (ds : List PyData) (lo hi : Option Int) : List PyData := (ds.drop (HT.sIx ds.length 0 lo)).take (HT.sIx ds.length ds.length hi - HT.sIx ds.length 0 lo)
theorem DqAll.cut {H : Hp} {vs : List V} (h : DqAll H vs ds) (lo hi : Option Int) : DqAll H (cutV vs lo hi) (cutD ds lo hi) := by
  unfold cutV cutD
  rw [h.length]
  exact (h.drop _).take _
theorem ed_slL {tl th : TO} {lo hi : Option Int} (h : EvD O n te ρ (.list ds)) (h1 : EvDO O n tl ρ lo) (h2 : EvDO O n th ρ hi) : EvD O n (tSl (rSlL K) te tl th) ρ (.list (cutD ds lo hi)) := fun σ H hn s Q q =>
  h σ H hn s _ fun v H1 e1 d1 => h1 σ H1 hn (s.ex e1) _ fun H2 e2 => h2 σ H2 hn ((s.ex e1).ex e2) _ fun H3 e3 => by
    have d3 := d1.mono (Ex.o O (e2.trans e3))
    cases d3 with
    | lst a k =>
      exact ⟨_, _, rfl, sq_of (sub_of a).1, fun p hp => q _ _ (((e1.trans e2).trans e3).trans (Ex.new hp)) (.lst (sub_mk upd_same (not_own (own_ex ((e1.trans e2).trans e3) s.own) hp)) ((k.cut lo hi).mono (Ex.o O (Ex.new hp))))⟩
/-! f-strings -/
inductive EvJ (O : List Addr) (n : Nat) (ρ : Rho) : List TE → List Str → Prop
  | nil : EvJ O n ρ [] []
  | cons {t : TE} {ts : List TE} {y : Str} {ys : List Str} : EvD O n t ρ (.str y) → EvJ O n ρ ts ys → EvJ O n ρ (t :: ts) (y :: ys)
def catS : Str → List Str → Str
  | acc, [] => acc
  | acc, y :: ys => catS (acc ++ y) ys
theorem ed_js {ts : List TE} {ys : List Str} (h : EvJ O n ρ ts ys) : ∀ (acc : Str) (σ : L2.St) (H : Hp), σ.length = n → SD O H σ ρ → acc.length + (ys.map (·.length)).sum ≤ 100000 → ∀ Q : Str → Hp → Prop, (∀ H', Ex H H' → Q (catS acc ys) H') → tJs ts acc σ H Q := by
  induction h with
  | nil =>
    intro acc σ H hn s hl Q q
    exact q H (Ex.refl H)
  | @cons t ts y ys h1 h2 ih =>
    intro acc σ H hn s hl Q q
    refine h1 σ H hn s _ fun v H1 e1 d1 => ?_
    cases d1
    rw [List.map_cons, List.sum_cons] at hl
    have hy : (acc ++ y).length = acc.length + y.length := Str.length_append acc y
    exact ⟨y, rfl, sz_of (by omega), ih (acc ++ y) σ H1 hn (s.ex e1) (by omega) Q fun H2 e2 => q H2 (e1.trans e2)⟩
theorem ed_joined {ts : List TE} {ys : List Str} (h : EvJ O n ρ ts ys) (hl : (ys.map (·.length)).sum ≤ 100000) : EvD O n (fun σ H Q => tJs ts Str.empty σ H fun out H1 => Q (.str out) H1) ρ (.str (catS Str.empty ys)) := fun σ H hn s Q q =>
  ed_js h Str.empty σ H hn s (by show 0 + _ ≤ _; omega) _ fun H1 e1 => q _ H1 e1 (.str _)
theorem ed_fmtI {i : Int} (h : EvD O n te ρ (.int i)) (hi : i.natAbs.log2 < 1920) : EvD O n (tFmt te) ρ (.str (toString i)) := fun σ H hn s Q q => h σ H hn s _ fun v H1 e1 d1 => by
  cases d1
  exact .inr ⟨i, rfl, hi, q _ H1 e1 (.str _)⟩
theorem ed_fmtS {i : Str} (h : EvD O n te ρ (.str i)) (hi : i.length ≤ 100000) : EvD O n (tFmt te) ρ (.str i) := fun σ H hn s Q q => h σ H hn s _ fun v H1 e1 d1 => by
  cases d1
  exact .inl ⟨i, rfl, sz_of hi, q _ H1 e1 (.str _)⟩
end
end DL
namespace DL
open PySem L2 Evl PyProof.Rows RZ
/-! ### walking a list or a tuple -/
def iSeq (K : PySem.W.Frag) (tl : TE) : TI := fun σ H R => tl σ H fun x H1 => ∃ a, x = .ref a ∧ (((∃ xs, SqL K H1 a xs) ∧ R (Itl K a) H1) ∨ ((∃ xs, SqT K H1 a xs) ∧ R (Itt K a) H1))
section
variable {X : Cx} {tg l : Expr} {tl : TE}
theorem pi_seq (hl : PE X l tl) : PI X tg l (iSeq X.K tl) := by
  refine ⟨fun pins s σ H R I h => ?_⟩
  refine thn (hl.run pins s σ H _ I h) fun v s1 ⟨x, H1, I1, r1, q1⟩ => ?_
  obtain ⟨a, e, q⟩ := q1
  subst e
  cases r1
  have fr : ∀ b, b ∈ [s1.heap.objs.size] → FpOk X pins H1 b := fun b hb => by
    have e : b = s1.heap.objs.size := by simpa using hb
    subst e
    exact I1.fpOk (Nat.le_refl _) (I1.hok.fresh (Nat.le_refl _))
  rcases q with ⟨⟨xs, hq⟩, q⟩ | ⟨⟨xs, hq⟩, q⟩
  · obtain ⟨its, rv, p, hz⟩ := I1.list hq
    refine wpAny_pyIter_list p.isList ?_
    exact ⟨s1.heap.objs.size, [s1.heap.objs.size], _, _, H1, rfl, I1.kept (t' := s1.toks) fun b o e => Heap.get?_push_of_some _ e, turn_list a _, ⟨_, Heap.get?_push_size _ rfl, rfl, rfl⟩, fr, q⟩
  · obtain ⟨its, rv, p, hz⟩ := I1.tuple hq
    refine wpAny_pyIter_tuple (show s1.heap.IsTuple a its.toArray from p) ?_
    exact ⟨s1.heap.objs.size, [s1.heap.objs.size], _, _, H1, rfl, I1.kept (t' := s1.toks) fun b o e => Heap.get?_push_of_some _ e, turn_tuple a _, ⟨_, Heap.get?_push_size _ rfl, rfl, rfl⟩, fr, q⟩
end
section
variable {O : List Addr} {n : Nat} {ρ : Rho} {ta tb te to : TE} {x y z d : PyData} {K : PySem.W.Frag} {ds es zs : List PyData}
theorem it_seq (hs : SeqD x ds) (h : EvD O n te ρ x) : IterD O n (iSeq K te) ρ ds := fun σ H hn s R q => h σ H hn s _ fun v H1 e1 d1 => by
  cases hs with
  | lst =>
    cases d1 with
    | @lst a xs _ ha k =>
      refine ⟨a, rfl, .inl ⟨⟨xs, sq_of (sub_of ha).1⟩, q (Itl K a) H1 (fun P H2 => sub H2 P a = some (.lst xs) ∧ DqAll (sub H2 P) xs ds) (YAt xs) e1 (fun P => ?_) ⟨ha, k⟩ (fun P P' H2 H3 g e => ⟨e _ _ g.1, g.2.mono e⟩) ?_⟩⟩
      · rw [← k.length]
        exact walk_list.mono (fun H2 g => sq_of (sub_of g.1).1) fun _ _ _ _ _ _ y => y
      · rintro P i H2 x H3 _ _ ⟨g1, g2⟩ ⟨rfl, hx⟩
        obtain ⟨d, h1, h2⟩ := g2.getV hx
        exact ⟨Ex.refl _, d, h1, h2⟩
  | tup =>
    cases d1 with
    | @tup a xs _ ha k =>
      refine ⟨a, rfl, .inr ⟨⟨xs, st_of (sub_of ha).1⟩, q (Itt K a) H1 (fun P H2 => sub H2 P a = some (.tup xs) ∧ DqAll (sub H2 P) xs ds) (YAt xs) e1 (fun P => ?_) ⟨ha, k⟩ (fun P P' H2 H3 g e => ⟨e _ _ g.1, g.2.mono e⟩) ?_⟩⟩
      · rw [← k.length]
        exact walk_tup.mono (fun H2 g => st_of (sub_of g.1).1) fun _ _ _ _ _ _ y => y
      · rintro P i H2 x H3 _ _ ⟨g1, g2⟩ ⟨rfl, hx⟩
        obtain ⟨d, h1, h2⟩ := g2.getV hx
        exact ⟨Ex.refl _, d, h1, h2⟩
/-- zip of two lists or two tuples -/
inductive SameSeq : PyData → PyData → List PyData → List PyData → Prop
  | lst (ds es : List PyData) : SameSeq (.list ds) (.list es) ds es
  | tup (ds es : List PyData) : SameSeq (.tuple ds) (.tuple es) ds es
theorem it_zipA (hs : SameSeq x y ds es) (h : EvD O n ta ρ x) (h' : EvD O n tb ρ y) : IterD O n (iZipA K (tCons ta (tCons tb tNil))) ρ (zipD ds es) := fun σ H hn s R q => h σ H hn s _ fun v H1 e1 d1 => h' σ H1 hn (s.ex e1) _ fun v' H2 e2 d2 => by
  have l : (zipD ds es).length = min ds.length es.length := by
    unfold zipD
    rw [List.length_zipWith]
  cases hs with
  | lst =>
    cases d1 with
    | @lst a xs _ ha k =>
      cases d2 with
      | @lst b ys _ hb k' =>
        have ha2 : sub H2 O a = some (.lst xs) := (Ex.o O e2) _ _ ha
        refine ⟨a, b, xs, ys, rfl, .inl ⟨sq_of (sub_of ha2).1, sq_of (sub_of hb).1, q (Itz K a b) H2 (fun P H3 => (sub H3 P a = some (.lst xs) ∧ DqAll (sub H3 P) xs ds) ∧ (sub H3 P b = some (.lst ys) ∧ DqAll (sub H3 P) ys es)) (YPair (fun i => xs[i]?) (fun i => ys[i]?)) (e1.trans e2) (fun P => ?_)
          ⟨⟨ha2, k.mono (Ex.o O e2)⟩, ⟨hb, k'⟩⟩ (fun P P' H3 H4 g e => ⟨⟨e _ _ g.1.1, g.1.2.mono e⟩, ⟨e _ _ g.2.1, g.2.2.mono e⟩⟩) ?_⟩⟩
        · rw [l, ← k.length, ← k'.length]
          exact (walk_zip rfl).mono (fun H3 g => ⟨sq_of (sub_of g.1.1).1, sq_of (sub_of g.2.1).1⟩) fun _ _ _ _ _ _ y => y
        · rintro P i H3 x H4 hi ho ⟨⟨g1, g2⟩, g3, g4⟩ ⟨T, x1, x2, rfl, hT, hH, q1, q2⟩
          obtain ⟨d, h1, h2⟩ := g2.getV q1
          obtain ⟨d', h1', h2'⟩ := g4.getV q2
          obtain ⟨a1, a2⟩ := pair_new ho hT hH h2 h2'
          refine ⟨a1, _, ?_, a2⟩
          unfold zipD
          rw [List.getElem?_zipWith, h1, h1']
  | tup =>
    cases d1 with
    | @tup a xs _ ha k =>
      cases d2 with
      | @tup b ys _ hb k' =>
        have ha2 : sub H2 O a = some (.tup xs) := (Ex.o O e2) _ _ ha
        refine ⟨a, b, xs, ys, rfl, .inr ⟨st_of (sub_of ha2).1, st_of (sub_of hb).1, q (ItzT K a b) H2 (fun P H3 => (sub H3 P a = some (.tup xs) ∧ DqAll (sub H3 P) xs ds) ∧ (sub H3 P b = some (.tup ys) ∧ DqAll (sub H3 P) ys es)) (YPair (fun i => xs[i]?) (fun i => ys[i]?)) (e1.trans e2) (fun P => ?_)
          ⟨⟨ha2, k.mono (Ex.o O e2)⟩, ⟨hb, k'⟩⟩ (fun P P' H3 H4 g e => ⟨⟨e _ _ g.1.1, g.1.2.mono e⟩, ⟨e _ _ g.2.1, g.2.2.mono e⟩⟩) ?_⟩⟩
        · have W : Walk (ItzT K a b) (min xs.length ys.length) (fun H => SqT K H a xs ∧ SqT K H b ys) (YPair (fun i => xs[i]?) (fun i => ys[i]?)) := by
            refine ⟨fun i _ hi q => ?_, fun _ q => ⟨xs, ys, q.1, q.2, by omega⟩, fun i H v H' _ q y => ?_⟩
            · have h1 : i < xs.length := by omega
              have h2 : i < ys.length := by omega
              exact ⟨xs, ys, xs[i], ys[i], q.1, q.2, by simp [h1], by simp [h2]⟩
            · obtain ⟨T, x, z, h1, h2, h3, h4, h5⟩ := y
              exact ⟨T, x, z, h1, h2, h3, h4 xs q.1, h5 ys q.2⟩
          rw [l, ← k.length, ← k'.length]
          exact W.mono (fun H3 g => ⟨st_of (sub_of g.1.1).1, st_of (sub_of g.2.1).1⟩) fun _ _ _ _ _ _ y => y
        · rintro P i H3 x H4 hi ho ⟨⟨g1, g2⟩, g3, g4⟩ ⟨T, x1, x2, rfl, hT, hH, q1, q2⟩
          obtain ⟨d, h1, h2⟩ := g2.getV q1
          obtain ⟨d', h1', h2'⟩ := g4.getV q2
          obtain ⟨a1, a2⟩ := pair_new ho hT hH h2 h2'
          refine ⟨a1, _, ?_, a2⟩
          unfold zipD
          rw [List.getElem?_zipWith, h1, h1']
/-! isinstance -/
def tyN : PyData → String
  | .none => "NoneType" | .bool _ => "bool" | .int _ => "int" | .str _ => "str" | .list _ => "list" | .tuple _ => "tuple" | .dict _ => "dict"
def tyIs (a b : String) : Bool := a == b || (a == "bool" && b == "int")
theorem kit_all : ∀ a ∈ ["NoneType", "bool", "int", "str", "list", "tuple"], ∀ b ∈ ["bool", "int", "str", "list", "tuple"], kitB a b = some (tyIs a b) := by decide +kernel
theorem dq_ty {H : Hp} {v : V} (h : Dq H v d) (nd : (tyN d == "dict") = false) : TyOf K H v (.type (tyN d)) ∧ tyN d ∈ ["NoneType", "bool", "int", "str", "list", "tuple"] := by
  cases h with
  | non => exact ⟨.non, by decide⟩
  | bl b => exact ⟨.bl b, by show "bool" ∈ _; decide⟩
  | int i => exact ⟨.int i, by show "int" ∈ _; decide⟩
  | str s => exact ⟨.str s, by show "str" ∈ _; decide⟩
  | lst a k => exact ⟨.lst a, by show "list" ∈ _; decide⟩
  | tup a k => exact ⟨.tup a, by show "tuple" ∈ _; decide⟩
  | ob a k => cases nd
  | dic a k => cases nd
  | exo a b k => cases nd
  | exn a => cases nd
theorem ed_isi {T : String} (h : EvD O n te ρ d) (hT : T ∈ ["bool", "int", "str", "list", "tuple"]) (nd : (tyN d == "dict") = false := by first | rfl | decide) : EvD O n (tCB (rIsi K) (tCons te (tCons (tC (.ty T)) tNil))) ρ (.bool (tyIs (tyN d) T)) := fun σ H hn s Q q => h σ H hn s _ fun v H1 e1 d1 => by
  obtain ⟨h1, h2⟩ := dq_ty (K := K) d1.up nd
  exact ⟨v, .ty T, _, _, _, rfl, .ty T, .base h1, kit_ty (kit_all _ h2 _ hT), q _ H1 e1 (.bl _)⟩
theorem ed_isiT {T U : String} (h : EvD O n te ρ d) (hT : T ∈ ["bool", "int", "str", "list", "tuple"]) (hU : U ∈ ["bool", "int", "str", "list", "tuple"]) (nd : (tyN d == "dict") = false := by first | rfl | decide) :
    EvD O n (tCB (rIsiT K) (tCons te (tCons (tTup (tCons (tC (.ty T)) (tCons (tC (.ty U)) tNil))) tNil))) ρ (.bool (tyIs (tyN d) T || tyIs (tyN d) U)) := fun σ H hn s Q q => h σ H hn s _ fun v H1 e1 d1 => by
  refine ⟨by show 2 ≤ sizeLine; decide, fun p hp => ?_⟩
  obtain ⟨h1, h2⟩ := dq_ty (K := K) (d1.up.mono (Ex.new hp (o := .tup [.ty T, .ty U]))) nd
  have e0 : Ex H1 (upd H1 p (.tup [.ty T, .ty U])) := Ex.new hp
  refine ⟨v, p, _, _, _, (tyIs (tyN d) T || tyIs (tyN d) U), rfl, upd_same, .cons (.ty T) (.cons (.ty U) .nil), .base h1, ?_, q _ _ (e1.trans e0) (.bl _)⟩
  refine kitAny_cons (kit_ty (kit_all _ h2 _ hT)) (fun z => kitAny_cons (kit_ty (kit_all _ h2 _ hU)) (fun z' => ?_) (fun z' => ?_)) (fun z => ?_)
  · rw [z, z']
    exact kitAny_nil
  · rw [z, z']
    rfl
  · rw [z]
    rfl
/-! == and != of truths, of None, of like things -/
theorem rd_neb {a b : Bool} : RD O rNe (.bool a) (.bool b) (.bool (!decide (a = b))) := fun H v w _ h1 h2 Q q => by
  cases h1; cases h2
  refine ⟨rfl, ?_⟩
  have e : decide (V.bl a = V.bl b) = decide (a = b) := by cases a <;> cases b <;> rfl
  rw [e]
  exact q _ H (Ex.refl H) (.bl _)
theorem rd_eqb {a b : Bool} : RD O rEq (.bool a) (.bool b) (.bool (decide (a = b))) := fun H v w _ h1 h2 Q q => by
  cases h1; cases h2
  refine ⟨rfl, ?_⟩
  have e : decide (V.bl a = V.bl b) = decide (a = b) := by cases a <;> cases b <;> rfl
  rw [e]
  exact q _ H (Ex.refl H) (.bl _)
theorem rd_eqN : RD O rEq .none .none (.bool true) := fun H v w _ h1 h2 Q q => by
  cases h1; cases h2
  exact ⟨rfl, q _ H (Ex.refl H) (.bl _)⟩
/-! sorted(.., reverse = True); xs[::-1] -/
theorem ed_sortedRev {b : Bool} {ns zs : List Int} (h : EvD O n te ρ (.list (dI ns))) (hp : zs.Perm ns) (hz : OrdB b zs) : EvD O n (tCKw (rSortedKw K b [.bl b]) (tCons te tNil) (tCons (tC (.bl b)) tNil)) ρ (.list (dI zs)) := fun σ H hn s Q q => h σ H hn s _ fun v H1 e1 d1 => by
  cases d1 with
  | lst a k =>
    have e := ints_dq k
    subst e
    refine ⟨_, ns, rfl, rfl, sq_of (sub_of a).1, fun ns' p p1 p2 hp' => ?_⟩
    have e2 : ns' = zs := by
      cases b with
      | false => exact PySem.W.ksm_same (p1.trans hp.symm) p2 hz
      | true =>
        have r1 : ns'.reverse.Pairwise (· ≤ ·) := List.pairwise_reverse.mpr p2
        have r2 : zs.reverse.Pairwise (· ≤ ·) := List.pairwise_reverse.mpr hz
        have e3 := PySem.W.ksm_same (((List.reverse_perm ns').trans (p1.trans hp.symm)).trans (List.reverse_perm zs).symm) r1 r2
        exact List.reverse_inj.mp e3
    subst e2
    exact q _ _ (e1.trans (Ex.new hp')) (.lst (sub_mk upd_same (not_own (own_ex e1 s.own) hp')) (dq_ints _))
theorem ed_revL (h : EvD O n te ρ (.list ds)) : EvD O n (tRevL K te) ρ (.list ds.reverse) := fun σ H hn s Q q => h σ H hn s _ fun v H1 e1 d1 => by
  cases d1 with
  | lst a k => exact ⟨_, _, rfl, sq_of (sub_of a).1, fun p hp => q _ _ (e1.trans (Ex.new hp)) (.lst (sub_mk upd_same (not_own (own_ex e1 s.own) hp)) (k.reverse.mono (Ex.o O (Ex.new hp))))⟩
end
/-! ### what like data the law's own compare takes -/
def okD : Nat → PyData → Prop
  | 0, _ => False
  | n + 1, .list xs => xs.length ≤ 1000 ∧ ∀ y, y ∈ xs → okD n y
  | n + 1, .tuple xs => xs.length ≤ 1000 ∧ ∀ y, y ∈ xs → okD n y
  | _ + 1, .dict _ => False
  | _ + 1, _ => True
def R_same (n : Nat) (ds : List PyData) (d : PyData) : Prop := ∃ x, okD n x ∧ ds = [x, x] ∧ d = .bool true
theorem none_left {P : Program} {w : World} {K : PySem.W.Frag} {mg : Str → Option Value} {base : Heap} {f : Addr} {fd : FuncData} {ps : List Str} {R : List PyData → PyData → Prop} (no : ∀ ds d, ¬ R ds d) : FnOk P w K mg base CX0 0 f fd ps (spD R) :=
  ⟨fun vs H Q E h => by
    obtain ⟨_, ds, d, _, _, hR, _⟩ := h
    exact absurd hR (no ds d), fun A outer s H args us vs Q E _ _ _ _ h => by
    obtain ⟨_, ds, d, _, _, hR, _⟩ := h
    exact absurd hR (no ds d)⟩
end DL
namespace DL
open PySem L2 Evl PyProof.Rows TL
/-! ### numbers as texts -/
/-- a number as it is written -/
def numS (n : Int) : Str := Str.ofString (toString n)
theorem numS_tl {n : Int} (h : 0 ≤ n) : (numS n).cps.toList = numL n.toNat := by
  obtain ⟨k, rfl⟩ := Int.eq_ofNat_of_zero_le h
  exact tl_num k
theorem digit_ok : ∀ d : Fin 10, Unicode.isDigit (48 + d.val) = true := by decide +kernel
theorem isDigit_of {c : Nat} (h : 48 ≤ c ∧ c ≤ 57) : Unicode.isDigit c = true := by
  have e := digit_ok ⟨c - 48, by omega⟩
  have q : 48 + (c - 48) = c := by omega
  rw [show 48 + (⟨c - 48, by omega⟩ : Fin 10).val = c from q] at e
  exact e
theorem str_len (x : Str) : x.length = x.cps.toList.length := rfl
theorem all_cps {x : Str} {p : Nat → Bool} (h : ∀ c, c ∈ x.cps.toList → p c = true) : x.cps.all p = true := by
  rw [← Array.all_toList]
  exact List.all_eq_true.mpr h
theorem numS_digit {n : Int} (h : 0 ≤ n) : Txt.isdigit (numS n) = true := by
  unfold Txt.isdigit
  have e := numS_tl h
  have l : (numS n).length > 0 := by
    rw [str_len, e]
    exact List.length_pos_iff.mpr (numL_ne _)
  rw [all_cps (p := Unicode.isDigit) fun c hc => ?_, decide_eq_true l]
  · rfl
  · rw [e] at hc
    exact isDigit_of (numL_digits _ c hc)
theorem numS_ascii {n : Int} (h : 0 ≤ n) : Txt.isascii (numS n) = true := by
  unfold Txt.isascii
  refine all_cps fun c hc => ?_
  rw [numS_tl h] at hc
  have q := numL_digits _ c hc
  exact decide_eq_true (by omega)
theorem numS_int {n : Int} (h : 0 ≤ n) (hb : n < 10 ^ 40) : intText? (numS n) = some n ∧ (numS n).length ≤ 40 := by
  obtain ⟨k, rfl⟩ := Int.eq_ofNat_of_zero_le h
  have hk : k < 10 ^ 40 := by
    have e : ((10 : Int) ^ 40) = ((10 ^ 40 : Nat) : Int) := by decide
    omega
  have hl : (numL k).length ≤ 40 := numL_len (by decide) hk
  refine ⟨int_num (by omega), ?_⟩
  rw [str_len, numS_tl h]
  exact hl
/-- the first digit -/
theorem numL_head : ∀ n : Nat, 0 < n → ∃ c r, numL n = c :: r ∧ 49 ≤ c := fun n => by
  induction n using Nat.strongRecOn with
  | _ n ih =>
    intro hn
    by_cases h : n < 10
    · exact ⟨48 + n, [], numL_lt h, by omega⟩
    · obtain ⟨c, r, e, q⟩ := ih (n / 10) (by omega) (by omega)
      refine ⟨c, r ++ [48 + n % 10], ?_, q⟩
      rw [numL_step (by omega), e]
      rfl
theorem numS_zero : numS 0 = ("0" : Str) := by decide +kernel
theorem str_ext {x y : Str} (h : x.cps.toList = y.cps.toList) : x = y := by
  obtain ⟨a⟩ := x
  obtain ⟨b⟩ := y
  exact congrArg Str.mk (Array.toList_inj.mp h)
theorem numS_ne0 {n : Int} (h : 0 < n) : numS n ≠ ("0" : Str) := fun z => by
  obtain ⟨c, r, e, q⟩ := numL_head n.toNat (by omega)
  have e2 := numS_tl (n := n) (by omega)
  rw [z, e] at e2
  have e3 : ("0" : Str).cps.toList = [48] := by decide +kernel
  rw [e3] at e2
  have := (List.cons.inj e2).1
  omega
theorem starts0 {x : Str} {c : Nat} {r : List Nat} (e : x.cps.toList = c :: r) (h : c ≠ 48) : Txt.startswith x ("0" : Str) = false := by
  unfold Txt.startswith
  have hx : x.cps = (c :: r).toArray := by rw [← e]
  have l0 : ("0" : Str).length = 1 := by decide +kernel
  have c0 : ("0" : Str).cps = #[48] := by decide +kernel
  have s0 : Builtin.Str.subAt x ("0" : Str) 0 = false := by
    unfold Builtin.Str.subAt
    rw [l0, c0, hx]
    refine beq_eq_false_iff_ne.mpr fun z => h ?_
    have z2 := congrArg Array.toList z
    simp at z2
    exact z2
  rw [s0, Bool.and_false]
theorem numS_inj {m n : Int} (hm : 0 ≤ m) (hn : 0 ≤ n) (h : numS m = numS n) : m = n := by
  have e := congrArg (fun x : Str => x.cps.toList) h
  simp only [numS_tl hm, numS_tl hn] at e
  have := numL_inj e
  omega
theorem numS_free {n : Int} {s : Nat} (h : 0 ≤ n) (hs : s < 48 ∨ 57 < s) : s ∉ (numS n).cps.toList := by
  rw [numS_tl h]
  exact numL_free hs
end DL
namespace DL
open PySem L2 Evl PyProof.Rows TL RZ
/-! ### unpacking a list or a tuple -/
def gSeq (K : PySem.W.Frag) (n : Nat) (t : TGs) : TG := fun v σ H Q => gTup K n t v σ H Q ∨ gUnl K n t v σ H Q
theorem pg_seq {X : Cx} {es : List Expr} {k : Nat} {t : TGs} {n : Nat} {pos : Pos} (hc : X.calm = true) (h : PGs X es t)
    (hn : (assignEach es X.env).length = n := by rfl) (hst : (assignEach es X.env).findIdx? (·.1) = none := by rfl) : PG X (.Tuple es k pos) (gSeq X.K n t) := by
  refine ⟨fun pins s σ H v u Q I r hw => ?_⟩
  rcases hw with hw | hw
  · exact (pg_tup hc h hn hst).run pins s σ H v u Q I r hw
  · exact (pg_unl hc h hn hst).run pins s σ H v u Q I r hw
section
variable {O : List Addr} {n : Nat} {ρ ρ' : Rho} {ta tb te to : TE} {x y z d : PyData} {K : PySem.W.Frag} {ds es zs : List PyData} {vs : List Nat} {wi : TI} {g : TG}
theorem tg_seq {m : Nat} {gs : TGs} (hs : SeqD x ds) (h : TgsD O n vs gs ρ ds ρ') (hm : ds.length = m) : TgD O n vs (gSeq K m gs) ρ x ρ' := fun σ H v hn s hd Q q => by
  cases hs with
  | lst =>
    cases hd with
    | lst a k => exact .inr ⟨_, _, rfl, sq_of (sub_of a).1, by rw [k.length]; exact hm, h.run σ H _ hn s k Q q⟩
  | tup =>
    cases hd with
    | tup a k => exact .inl ⟨_, _, rfl, st_of (sub_of a).1, by rw [k.length]; exact hm, h.run σ H _ hn s k Q q⟩
theorem rc_lenS (hs : SeqD x ds) : RDC O (rLen K) [x] (.int ds.length) := by
  cases hs with
  | lst => exact rc_lenL
  | tup => exact rc_lenT
/-- a comprehension over data of one kind to data of one kind -/
theorem ed_lcM {α β : Type} {e1 : α → PyData} {e2 : β → PyData} {f : α → β} {l : List α} (hw : IterD O n wi ρ (l.map e1)) (hl : l.length ≤ 100000)
    (h : ∀ D a, a ∈ l → ∃ ρ', TgD (D :: O) n vs g (wipeR ρ vs) (e1 a) ρ' ∧ EvD (D :: O) n te ρ' (e2 (f a))) : EvD O n (tLc wi g tYes te vs) ρ (.list ((l.map f).map e2)) := by
  refine ed_lc hw (by rw [List.length_map]; exact hl) fun D => ?_
  rw [List.map_map]
  exact All2.of fun a ha => h D a ha
end
theorem sum_le {c : Nat} : ∀ {xs : List Str}, (∀ x, x ∈ xs → x.length ≤ c) → (xs.map (·.length)).sum ≤ c * xs.length
  | [], _ => by simp
  | x :: xs, h => by
    have h1 := h x (List.mem_cons_self ..)
    have h2 := sum_le (xs := xs) fun y hy => h y (List.mem_cons_of_mem _ hy)
    rw [List.map_cons, List.sum_cons, List.length_cons, Nat.mul_succ]
    omega
theorem pow40 : ((10 : Int) ^ 40) = 10000000000000000000000000000000000000000 := by decide
theorem log_ok {n : Int} (h0 : 0 ≤ n) (h : n < 10 ^ 40) : n.natAbs.log2 < 1920 := by
  have e : n.natAbs < 2 ^ 1919 := by
    have q : n.natAbs < 10000000000000000000000000000000000000000 := by rw [pow40] at h; omega
    exact Nat.lt_of_lt_of_le q (by decide)
  by_cases z : n.natAbs = 0
  · rw [z]; decide
  · exact Nat.lt_trans ((Nat.log2_lt z).mpr e) (by decide)
/-- deep: each tuple a list -/
def lstD : PyData → PyData
  | .list xs => .list (lstAll xs)
  | .tuple xs => .list (lstAll xs)
  | d => d
where lstAll : List PyData → List PyData
  | [] => []
  | x :: xs => lstD x :: lstAll xs
def R_lists (n : Nat) (ds : List PyData) (d : PyData) : Prop := ∃ x, okD n x ∧ ds = [x] ∧ d = lstD x
theorem lstAll_map : ∀ xs : List PyData, lstD.lstAll xs = xs.map lstD
  | [] => rfl
  | x :: xs => by
    show lstD x :: lstD.lstAll xs = _
    rw [lstAll_map xs]
    rfl
end DL
namespace DL
open PySem L2 Evl PyProof.Rows TL RZ
theorem lay_ints : ∀ ns : List Int, PyData.canLayAll0 (dI ns) = true ∧ PyData.depthAll (dI ns) = 0
  | [] => ⟨rfl, rfl⟩
  | n :: ns => by
    obtain ⟨h1, h2⟩ := lay_ints ns
    constructor
    · show (PyData.canLay0 (.int n) && PyData.canLayAll0 (dI ns)) = true
      rw [h1]
      rfl
    · show max (PyData.depth (.int n)) (PyData.depthAll (dI ns)) = 0
      rw [h2]
      rfl
theorem shaped_ints {x : PyData} {ns : List Int} (h : SeqD x (dI ns)) : SeqAt.shaped x = true := by
  obtain ⟨h1, h2⟩ := lay_ints ns
  unfold SeqAt.shaped
  cases h with
  | lst =>
    show (PyData.canLayAll0 (dI ns) && decide (PyData.depthAll (dI ns) + 1 ≤ 64)) = true
    rw [h1, h2]
    rfl
  | tup =>
    show (PyData.canLayAll0 (dI ns) && decide (PyData.depthAll (dI ns) + 1 ≤ 64)) = true
    rw [h1, h2]
    rfl
theorem eqv_ints {x : PyData} {ns : List Int} (h : SeqD x (dI ns)) : PyData.eqv x x = true := by
  refine SeqAt.eqv_refl x ?_
  cases h with
  | lst => exact (lay_ints ns).1
  | tup => exact (lay_ints ns).1
theorem all_true {α : Type} {f : α → Bool} : ∀ {l : List α}, (∀ a, a ∈ l → f a = true) → (l.map f).all id = true
  | [], _ => rfl
  | a :: l, h => by
    rw [List.map_cons, List.all_cons, h a (List.mem_cons_self ..), all_true fun b hb => h b (List.mem_cons_of_mem _ hb)]
    rfl
end DL
namespace DL
open PySem L2 Evl PyProof.Rows TL RZ
theorem hu64 {k : Nat} {A : Around} (h : Room k A) : A.units + 64 < cLine := by
  have := h.un
  omega
theorem joinL_len (S : List Nat) : ∀ parts : List (List Nat), (joinL S parts).length ≤ (parts.map (·.length)).sum + parts.length * S.length
  | [] => by simp [joinL]
  | [p] => by simp [joinL]
  | p :: q :: r => by
    have ih := joinL_len S (q :: r)
    show (p ++ (S ++ joinL S (q :: r))).length ≤ _
    rw [List.length_append, List.length_append, List.map_cons, List.sum_cons, List.length_cons (a := p), Nat.succ_mul]
    omega
theorem Txt_join_len (y : Str) (xs : List Str) : (Txt.join y xs).length ≤ (xs.map (·.length)).sum + xs.length * y.length := by
  rw [join_eq]
  have e : (Str.join y xs).length = (joinL (tl y) (xs.map tl)).length := by
    rw [← tl_join]
    rfl
  rw [e]
  have q := joinL_len (tl y) (xs.map tl)
  rw [List.length_map, List.map_map] at q
  exact q
end DL
namespace DL
open PySem L2 PyProof.Rows TL RZ
theorem zip_same (xs : List PyData) : zipD xs xs = xs.map fun y => PyData.tuple [y, y] := by
  unfold zipD
  induction xs with
  | nil => rfl
  | cons x xs ih =>
    rw [List.zipWith_cons_cons, ih]
    rfl
theorem okD_flat {n : Nat} {x : PyData} (h : okD n x) (h1 : ∀ xs, x ≠ .list xs) (h2 : ∀ xs, x ≠ .tuple xs) : ∀ m, 0 < m → okD m x := fun m hm => by
  cases m with
  | zero => omega
  | succ m =>
    cases n with
    | zero => exact h.elim
    | succ n =>
      cases x with
      | list xs => exact absurd rfl (h1 xs)
      | tuple xs => exact absurd rfl (h2 xs)
      | dict kvs => exact h.elim
      | none => trivial
      | bool b => trivial
      | int i => trivial
      | str s => trivial
/-! ### the law's box of draws, at p: three numbers; at most c draws so far -/
def Box (p : Addr) (c : Nat) (H : Hp) : Prop := ∃ b0 b1 b2 : Int, H p = some (.lst [.int b0, .int b1, .int b2]) ∧ 0 ≤ b0 ∧ 0 ≤ b1 ∧ b1 < 2 ^ 62 ∧ 0 ≤ b2 ∧ b2 ≤ c
theorem Box.mono {p : Addr} {c d : Nat} {H : Hp} (b : Box p c H) (h : c ≤ d) : Box p d H := by
  obtain ⟨b0, b1, b2, e, h0, h1, h2, h3, h4⟩ := b
  exact ⟨b0, b1, b2, e, h0, h1, h2, h3, by omega⟩
theorem Box.ex {p : Addr} {c : Nat} {H H' : Hp} (b : Box p c H) (h : Evl.Ex H H') : Box p c H' := by
  obtain ⟨b0, b1, b2, e, r⟩ := b
  exact ⟨b0, b1, b2, h _ _ e, r⟩
theorem Box.own {p : Addr} {c : Nat} {H : Hp} (b : Box p c H) : ∀ a, a ∈ [p] → H a ≠ none := fun a ha z => by
  obtain ⟨b0, b1, b2, e, _⟩ := b
  rw [List.mem_singleton.mp ha, e] at z
  cases z
/-- a draw below m -/
def spTake : Sp := fun vs H Q _ => ∃ (p : Addr) (c : Nat) (m : Int), vs = [.ref p, .int m] ∧ Box p c H ∧ c ≤ 1000000 ∧ 0 < m ∧ m.natAbs.log2 < 9000 ∧ ∀ (r : Int) (H' : Hp), 0 ≤ r → r < m → ExO [p] H H' → Box p (c + 1) H' → Q (.int r) H'
/-- one of the goods, drawn -/
def spOf : Sp := fun vs H Q _ => ∃ (p : Addr) (c : Nat) (x : V) (ds : List PyData), vs = [.ref p, x] ∧ Box p c H ∧ c ≤ 1000000 ∧ Dq (sub H [p]) x (.list ds) ∧ 0 < ds.length ∧ ds.length ≤ 1000 ∧
  ∀ (d : PyData) (v : V) (H' : Hp), d ∈ ds → Dq (sub H' [p]) v d → ExO [p] H H' → Box p (c + 1) H' → Q v H'
theorem rc1 {K : PySem.W.Frag} {σ : L2.St} {H : Hp} {te : TE} {i : Int} (h : Evl.Ev te σ H (.int i)) : Evl.Ev (tCB (fun xs H Q => (∃ i, xs = [.int i] ∧ Q (.int i) H) ∨ ∃ k, xs = [.bl k] ∧ Q (.int (if k then 1 else 0)) H) (tCons te tNil)) σ H (.int i) :=
  fun H1 e Q q => h H1 e _ fun H2 e2 => .inl ⟨i, rfl, q H2 e2⟩
theorem rcb {K : PySem.W.Frag} {σ : L2.St} {H : Hp} {te : TE} {b : Bool} (h : Evl.Ev te σ H (.bl b)) : Evl.Ev (tCB (fun xs H Q => (∃ i, xs = [.int i] ∧ Q (.int i) H) ∨ ∃ k, xs = [.bl k] ∧ Q (.int (if k then 1 else 0)) H) (tCons te tNil)) σ H (.int (if b then 1 else 0)) :=
  fun H1 e Q q => h H1 e _ fun H2 e2 => .inr ⟨b, rfl, q H2 e2⟩
theorem rabs {σ : L2.St} {H : Hp} {te : TE} {i : Int} (h : Evl.Ev te σ H (.int i)) : Evl.Ev (tCB (fun xs H Q => ∃ i, xs = [.int i] ∧ Q (.int (if i < 0 then -i else i)) H) (tCons te tNil)) σ H (.int (if i < 0 then -i else i)) :=
  fun H1 e Q q => h H1 e _ fun H2 e2 => ⟨i, rfl, q H2 e2⟩
end DL
namespace DL
open PySem L2 PyProof.Rows TL RZ
/-- the look of okD -/
def okB : Nat → PyData → Bool
  | 0, _ => false
  | n + 1, .list xs => decide (xs.length ≤ 1000) && xs.all (okB n)
  | n + 1, .tuple xs => decide (xs.length ≤ 1000) && xs.all (okB n)
  | _ + 1, .dict _ => false
  | _ + 1, _ => true
theorem okD_of : ∀ {n : Nat} {x : PyData}, okB n x = true → okD n x
  | 0, _, h => by cases h
  | n + 1, .list xs, h => by
    have h := Bool.and_eq_true_iff.mp h
    exact ⟨of_decide_eq_true h.1, fun y hy => okD_of (List.all_eq_true.mp h.2 y hy)⟩
  | n + 1, .tuple xs, h => by
    have h := Bool.and_eq_true_iff.mp h
    exact ⟨of_decide_eq_true h.1, fun y hy => okD_of (List.all_eq_true.mp h.2 y hy)⟩
  | _ + 1, .dict _, h => by cases h
  | _ + 1, .none, _ => trivial
  | _ + 1, .bool _, _ => trivial
  | _ + 1, .int _, _ => trivial
  | _ + 1, .str _, _ => trivial
theorem r_same {n : Nat} {x y : PyData} (e : x = y) (h : okD n y) : R_same n [x, y] (.bool true) := ⟨y, h, by rw [e], rfl⟩
theorem r_lists {n : Nat} {x : PyData} (h : okB n x = true) : R_lists n [x] (lstD x) := ⟨x, okD_of h, rfl, rfl⟩
/-- the ints of data -/
def unI : List PyData → List Int
  | .int i :: r => i :: unI r
  | _ => []
end DL
/-! The rules that name the written part, with it told (so that a reading within a block does not hang on the block). -/
namespace DL
open PySem L2 PyProof.Rows TL RZ
section
variable {X : Cx} {K : PySem.W.Frag}
theorem kLen (hK : X.K = K) : CallR X (.builtin "len") (rLen K) := by subst hK; exact call_len_seq
theorem kList (hK : X.K = K) : CallR X (.type "list") (rListOf K) := by subst hK; exact call_list_of
theorem kTuple (hK : X.K = K) : CallR X (.type "tuple") (rTupleOf K) := by subst hK; exact call_tuple_of
theorem kAll (hK : X.K = K) (hc : X.calm = true) : CallR X (.builtin "all") (rAll K) := by subst hK; exact cr_all hc
theorem kSum (hK : X.K = K) (hc : X.calm = true) : CallR X (.builtin "sum") (rSum K) := by subst hK; exact cr_sum hc
theorem kSorted (hK : X.K = K) : CallR X (.builtin "sorted") (rSortedI K) := by subst hK; exact cr_sortedI
theorem kSortedRev {b : Bool} (hK : X.K = K) : CallRK X (.builtin "sorted") [Str.ofString "reverse"] (rSortedKw K b [.bl b]) := by subst hK; exact cr_sortedRev
theorem kIsi (hK : X.K = K) : CallR X (.builtin "isinstance") (rIsi K) := by subst hK; exact call_isi
theorem kIsiT (hK : X.K = K) : CallR X (.builtin "isinstance") (rIsiT K) := by subst hK; exact call_isiT
theorem kIxL (hK : X.K = K) : IxR X (rIxL K) := by subst hK; exact ix_list
theorem kIxT (hK : X.K = K) : IxR X (rIxT K) := by subst hK; exact ix_tup
theorem kSlL (hK : X.K = K) : SlR X (rSlL K) := by subst hK; exact sl_list
theorem kSlA (hK : X.K = K) : SlR X (rSlA K) := by subst hK; exact sl_tupA
theorem kEqD (hK : X.K = K) (hu : X.A.units + 64 < cLine) : OpR X (compareOp .Eq) (rEqD K) := by subst hK; exact op_eqD hu
theorem kNeD (hK : X.K = K) (hu : X.A.units + 64 < cLine) : OpR X (compareOp .NotEq) (rNeD K) := by subst hK; exact op_neD hu
theorem kIn (hK : X.K = K) : OpR X (compareOp .In) (rIn K false) := by subst hK; exact op_in_seq
theorem kNotIn (hK : X.K = K) : OpR X (compareOp .NotIn) (rIn K true) := by subst hK; exact op_notIn_seq
theorem kCatA (hK : X.K = K) : OpR X (binaryOp .Add) (rCatA K) := by subst hK; exact op_catA
theorem kRepT (hK : X.K = K) : OpR X (binaryOp .Mult) (rRepT K) := by subst hK; exact op_repT
end
section
variable {X : Cx} {K : PySem.W.Frag} {tg l e e2 o a b : Expr} {tl te to ta tb : TE} {t : TA} {pos p apos tpos : Pos} {elts es rest : List Expr} {kk : Nat}
theorem kiList (hK : X.K = K) (hl : PE X l tl) : PI X tg l (iList K tl) := by subst hK; exact pi_list hl
theorem kiTup (hK : X.K = K) (hl : PE X l tl) : PI X tg l (iTup K tl) := by subst hK; exact pi_tup hl
theorem kiSeq (hK : X.K = K) (hl : PE X l tl) : PI X tg l (iSeq K tl) := by subst hK; exact pi_seq hl
theorem kiEnum (hK : X.K = K) (hg : Gl X "enumerate") (hm : X.mg "enumerate" = none) (ha : PA X [e] t) (hs : starEach [e] X.env = [(false, eval e X.env)] := by rfl) :
    PI X (.Tuple elts kk tpos) (.Call (.Name "enumerate" p) [e] [] pos) (iEnum K t) := by subst hK; exact pi_enum hg hm ha hs
theorem kiZip (hK : X.K = K) (hg : Gl X "zip") (hm : X.mg "zip" = none) (ha : PA X [e, e2] t) (hs : starEach [e, e2] X.env = (false, eval e X.env) :: starEach [e2] X.env := by rfl) (hpl : (backTo pos (starEach [e2] X.env)).any (·.1) = false := by rfl) :
    PI X (.Tuple elts kk tpos) (.Call (.Name "zip" p) [e, e2] [] pos) (iZip K t) := by subst hK; exact pi_zip hg hm ha hs hpl
theorem kiZipA (hK : X.K = K) (hg : Gl X "zip") (hm : X.mg "zip" = none) (ha : PA X [e, e2] t) (hs : starEach [e, e2] X.env = (false, eval e X.env) :: starEach [e2] X.env := by rfl) (hpl : (backTo pos (starEach [e2] X.env)).any (·.1) = false := by rfl) :
    PI X (.Tuple elts kk tpos) (.Call (.Name "zip" p) [e, e2] [] pos) (iZipA K t) := by subst hK; exact pi_zipA hg hm ha hs hpl
theorem kJoin (hK : X.K = K) (ho : PE X o to) (he : PE X e te) (hs : starEach [e] X.env = [(false, eval e X.env)] := by rfl) (hbase : attributeBase o "join" X.env (eval o X.env) = eval o X.env := by rfl) (hline : (apos.endLine == pos.line) = true := by rfl) :
    PE X (.Call (.Attribute o "join" apos) [e] [] pos) (tM1 (fun x xs H Q => ∃ a p, ∃ ys : List Str, x = .str a ∧ xs = [.ref p] ∧ (SqL K H p (ys.map V.str) ∨ SqT K H p (ys.map V.str)) ∧
      (ys.map (·.length)).sum + ys.length * a.length ≤ 16777216 ∧ Q (.str (Txt.join a ys)) H) to te) := by subst hK; exact pe_join ho he hs hbase hline
theorem kRev {k : Nat} {p1 p2 p3 : Pos} (hK : X.K = K) (he : PE X e te) : PE X (.Subscript e (.Slice none none (some (.UnaryOp .USub (.Constant (.int 1) k p1) p2)) p3) pos) (tRevL K te) := by subst hK; exact pe_revL he
theorem kOrT (hK : X.K = K) (ha : PE X a ta) (hb : PE X (.BoolOp .Or (b :: rest) pos) tb) : PE X (.BoolOp .Or (a :: b :: rest) pos) (tOrT K ta tb) := by subst hK; exact pe_orT ha hb
theorem kgTup {t : TGs} {n : Nat} (hK : X.K = K) (hc : X.calm = true) (h : PGs X es t) (hn : (assignEach es X.env).length = n := by rfl) (hst : (assignEach es X.env).findIdx? (·.1) = none := by rfl) : PG X (.Tuple es kk pos) (gTup K n t) := by subst hK; exact pg_tup hc h hn hst
theorem kgSeq {t : TGs} {n : Nat} (hK : X.K = K) (hc : X.calm = true) (h : PGs X es t) (hn : (assignEach es X.env).length = n := by rfl) (hst : (assignEach es X.env).findIdx? (·.1) = none := by rfl) : PG X (.Tuple es kk pos) (gSeq K n t) := by subst hK; exact pg_seq hc h hn hst
end
end DL
namespace DL
open PySem PySem.W PySem.Calls L2 PyProof.Rows TL RZ
open Builtin.Float (FormatSpec parseFormatSpec)
/-! ### a number with its sign ahead -/
/-- a number as it is written with its sign -/
def plusS (i : Int) : Str := if i < 0 then Str.ofString (toString i) else ("+" : Str) ++ Str.ofString (toString i)
def fPlus : FormatSpec := { align := 62, sign := some 43, type := some 100 }
theorem fPlus_ok : parseFormatSpec (Str.ofString "+d").cps.toList "int" 62 = .ok fPlus := by kernel_rfl
def fieldP (i : Int) : Str := intField' fPlus (decide (i < 0)) [] ((Nat.toDigits 10 i.natAbs).map fun c => (if (100 : Nat) == 88 then c.toUpper else c).toNat) [] 3
theorem field_tl (i : Int) : (fieldP i).cps.toList = (if i < 0 then 45 else 43) :: (Nat.toDigits 10 i.natAbs).map Char.toNat := by
  unfold fieldP intField' fPlus
  by_cases h : i < 0
  · simp [h]
  · simp [h]
theorem plus_meets {i : Int} {t : Tok} (hi : i.natAbs.log2 < 1920) (hz : (plusS i).length ≤ sizeLine) (e : fieldP i = plusS i) :
    ∀ u, Meets (Builtin.«int.__format__» ⟨[.int i t, .str (Str.ofString "+d") u], []⟩) (fun _ R s => ∀ t' k, R (.ok (.ret (.str (plusS i) t'))) { s with toks := k }) := by
  intro u
  apply KPc.meets_of
  intro prog w A s Q E k
  unfold Builtin.«int.__format__»
  refine wpAny_bind (wpAny_of_eq (a := (_, _)) rfl ?_)
  refine wpAny_bind (wpAny_of_eq (a := _) rfl ?_)
  kxf_if
  refine wpAny_bind (wpAny_typeNameOf (T := "str") (typeIs_str _ _ _) (by decide) fun _ => ?_)
  refine wpAny_bind (wpAny_of_eq (a := some _) rfl ?_)
  kxf_if
  kxf_if
  refine wpAny_bind (wpAny_typeNameOfCut_int ?_)
  rw [fPlus_ok]
  (repeat kxf_if)
  refine wpAny_bind (wpAny_of_eq (PySem.overDigitLimit_small hi) ?_)
  (repeat kxf_if)
  refine KXf.ret_text (T := plusS i) (Eq.trans ?_ e) ?_ k
  · rfl
  · show (fieldP i).length ≤ _
    rw [e]
    exact hz
end DL
namespace DL
open PySem PySem.W PySem.Calls L2 PyProof.Rows TL RZ NumText
theorem ofInt_tl (i : Int) : (Str.ofString (toString i)).cps.toList = if i < 0 then 45 :: numL i.natAbs else numL i.natAbs := by
  cases i with
  | ofNat k =>
    rw [if_neg (by exact Int.not_lt.mpr (Int.natCast_nonneg k))]
    exact tl_num k
  | negSucc k =>
    rw [if_pos (Int.negSucc_lt_zero k)]
    have e : toString (Int.negSucc k) = "-" ++ toString (k + 1) := rfl
    rw [e]
    have q := tl_ofString ("-" ++ toString (k + 1))
    unfold tl at q
    rw [q, String.toList_append, List.map_append]
    have q2 := tl_num (k + 1)
    have e2 : (toString (((k + 1 : Nat)) : Int)) = toString (k + 1) := rfl
    rw [e2, tl_ofString] at q2
    rw [q2]
    rfl
/-- the signs of a number that is written with its sign -/
def sigL (i : Int) : List Nat := (if i < 0 then 45 else 43) :: numL i.natAbs
theorem plusS_tl (i : Int) : (plusS i).cps.toList = sigL i := by
  unfold plusS sigL
  by_cases h : i < 0
  · rw [if_pos h, if_pos h, ofInt_tl, if_pos h]
  · rw [if_neg h, if_neg h]
    have e := tl_append ("+" : Str) (Str.ofString (toString i))
    unfold tl at e
    rw [e, ofInt_tl, if_neg h]
    have p0 : ("+" : Str).cps.toList = [43] := by decide +kernel
    rw [p0]
    rfl
theorem field_plus (i : Int) : fieldP i = plusS i := str_ext (by rw [field_tl, plusS_tl]; rfl)
theorem natAbs40 {i : Int} (h : -(10 ^ 40) < i ∧ i < 10 ^ 40) : i.natAbs < 10 ^ 40 := by
  have e := pow40
  have e2 : (10 ^ 40 : Nat) = 10000000000000000000000000000000000000000 := by decide
  rw [e] at h
  rw [e2]
  omega
theorem numL_len40 {i : Int} (h : -(10 ^ 40) < i ∧ i < 10 ^ 40) : (numL i.natAbs).length ≤ 40 := numL_len (by decide) (natAbs40 h)
theorem plusS_len {i : Int} (h : -(10 ^ 40) < i ∧ i < 10 ^ 40) : (plusS i).length ≤ 41 := by
  rw [str_len, plusS_tl]
  have := numL_len40 h
  show _ + 1 ≤ _
  omega
theorem log_abs {i : Int} (h : -(10 ^ 40) < i ∧ i < 10 ^ 40) : i.natAbs.log2 < 1920 := by
  have q := natAbs40 h
  have e2 : (10 ^ 40 : Nat) = 10000000000000000000000000000000000000000 := by decide
  rw [e2] at q
  have e : i.natAbs < 2 ^ 1919 := Nat.lt_of_lt_of_le q (by decide)
  by_cases z : i.natAbs = 0
  · rw [z]; decide
  · exact Nat.lt_trans ((Nat.log2_lt z).mpr e) (by decide)
/-- a number read back from its text with a sign -/
theorem int_plus {i : Int} (h : -(10 ^ 40) < i ∧ i < 10 ^ 40) : PySem.intText? (plusS i) = some i := by
  have hl := numL_len40 h
  have hv := numL_val i.natAbs
  by_cases n : i < 0
  · have hx : (plusS i).cps.toList = 45 :: numL i.natAbs := by
      rw [plusS_tl]
      unfold sigL
      rw [if_pos n]
    rw [intText_neg hx (numL_digits _) (numL_ne _) (by have := plusS_len h; omega), hv]
    exact congrArg some (by omega)
  · have hx : (plusS i).cps.toList = 43 :: numL i.natAbs := by
      rw [plusS_tl]
      unfold sigL
      rw [if_neg n]
    have dig := numL_digits i.natAbs
    have e1 : numTextOf (plusS i) = 43 :: numL i.natAbs := by
      rw [← hx]
      refine if_pos (all_cps fun c hc => ?_)
      rw [hx] at hc
      rcases List.mem_cons.mp hc with rfl | hc
      · decide
      · have := dig c hc
        exact decide_eq_true (by omega)
    have e2 : numSeenOf (plusS i) = 43 :: numL i.natAbs := by
      show (numTextOf (plusS i)).takeWhile _ = _
      rw [e1]
      refine takeWhile_all fun c hc => ?_
      rcases List.mem_cons.mp hc with rfl | hc
      · decide
      · have := dig c hc
        exact bne_iff_ne.mpr (by omega)
    have es : sign ((43 :: numL i.natAbs).dropWhile blank) = (false, numL i.natAbs) := by
      rw [dropWhile_of (by decide)]
      rfl
    have ec : core (43 :: numL i.natAbs) = numL i.natAbs := by
      unfold core
      rw [es]
      show ((numL i.natAbs).reverse.dropWhile blank).reverse = _
      rw [dropWhile_digits dig.reverse, List.reverse_reverse]
    unfold PySem.intText?
    rw [e1, e2, if_pos (beq_self_eq_true _), ec, es, digits_of dig (numL_ne _)]
    have hsz := push_size (numL i.natAbs) #[]
    have hw := push_foldl (numL i.natAbs) #[]
    dsimp only
    rw [if_pos (by rw [hsz]; simp only [Array.size_empty]; omega)]
    unfold digitsVal at hv
    unfold worth
    rw [hw]
    show some (((List.foldl (fun acc c => acc * 10 + (c - 48)) 0 (numL i.natAbs) : Nat) : Int)) = some i
    rw [hv]
    exact congrArg some (by omega)
/-! ### {x:+d} -/
def tPlus (te ts : TE) : TE := fun σ H Q => te σ H fun x H1 => ∃ i : Int, x = .int i ∧ i.natAbs.log2 < 1920 ∧ (plusS i).length ≤ 41 ∧ ts σ H1 fun y H2 => y = .str (Str.ofString "+d") ∧ Q (.str (plusS i)) H2
theorem pe_plus {X : Cx} {e se : Expr} {te ts : TE} {pos : Pos} (he : PE X e te) (hs : PE X se ts) : PE X (.FormattedValue e (-1) (some se) pos) (tPlus te ts) := by
  refine ⟨fun pins s σ H Q I h => ?_⟩
  refine wpAny_FormattedValue_spec (thn (he.run pins s σ H _ I h) fun v s1 hv => ?_)
  obtain ⟨x, H1, I1, r1, i, rfl, hi, hl, q⟩ := hv
  obtain ⟨t, rfl⟩ := r1
  refine thn (hs.run pins s1 σ H1 _ I1 q) fun v2 s2 hv2 => ?_
  obtain ⟨y, H2, I2, r2, rfl, q2⟩ := hv2
  obtain ⟨t2, rfl⟩ := r2
  refine ⟨_, _, rfl, ?_⟩
  exact KXf.field_int rfl (by decide +kernel) (by decide +kernel) (plus_meets hi (Nat.le_trans hl (by decide)) (field_plus i)) fun t' k => ⟨.str (plusS i), H2, I2.tok _, ⟨_, rfl⟩, q2⟩
section
variable {O : List Addr} {n : Nat} {ρ : Rho} {te ts : TE}
theorem ed_plus {i : Int} (h : EvD O n te ρ (.int i)) (h2 : EvD O n ts ρ (.str (Str.ofString "+d"))) (hi : -(10 ^ 40) < i ∧ i < 10 ^ 40) : EvD O n (tPlus te ts) ρ (.str (plusS i)) := fun σ H hn s Q q => h σ H hn s _ fun v H1 e1 d1 => by
  cases d1
  refine ⟨i, rfl, log_abs hi, plusS_len hi, h2 σ H1 hn (s.ex e1) _ fun v2 H2 e2 d2 => ?_⟩
  cases d2
  exact ⟨rfl, q _ H2 (e1.trans e2) (.str _)⟩
end
end DL
namespace DL
open PySem L2 Evl PyProof.Rows TL RZ
section
variable {O : List Addr} {n : Nat} {ρ ρ1 ρ' : Rho} {g : TG} {tb : TS} {ds : List PyData} {wi : TI} {vs : List Nat} {K : PySem.W.Frag}
theorem tg_is {d : PyData} (h : TgD O n vs g ρ d ρ1) (e : ρ1 = ρ') : TgD O n vs g ρ d ρ' := e ▸ h
theorem wipeR_length (ρ : Rho) : ∀ vs : List Nat, (wipeR ρ vs).length = ρ.length
  | [] => rfl
  | v :: vs => by
    show ((wipeR ρ vs).set v none).length = _
    rw [List.length_set]
    exact wipeR_length ρ vs
/-- a for over data: R by the turn -/
theorem rn_for (hw : IterD O n wi ρ ds) (R : Nat → Rho) (h0 : R 0 = ρ) (hs : ∀ i d, ds[i]? = some d → ∃ ρ', TgD O n vs g (R i) d ρ' ∧ RunN O n tb ρ' (R (i + 1))) :
    RunN O n (tFor wi g tb) ρ (R ds.length) := fun D σ H hn s k => hw σ H hn s _ fun J H1 G Y e1 W g1 gk yk => by
  refine for_it (W O) (fun i σ2 H2 => σ2.length = n ∧ Ex H1 H2 ∧ SD O H2 σ2 (R i)) ⟨hn, Ex.refl H1, by rw [h0]; exact s.ex e1⟩ (fun i σ2 H2 _ p => gk _ _ _ _ g1 (Ex.o O p.2.1)) ?_ ?_
  · rintro i x σ2 H2 H3 hi ⟨l2, x2, s2⟩ y
    obtain ⟨e3, d, hdi, hx⟩ := yk O i H2 x H3 hi s2.own (gk _ _ _ _ g1 (Ex.o O x2)) y
    obtain ⟨ρ', ht, hb⟩ := hs i d hdi
    refine ht σ2 H3 x l2 (s2.ex e3) hx _ fun σ' hl' _ s' => ?_
    exact hb _ σ' H3 hl' s' fun σ4 H4 hl4 e4 s4 => ⟨hl4, (x2.trans e3).trans e4, s4⟩
  · rintro σ2 H2 ⟨l2, x2, s2⟩
    exact k σ2 H2 l2 (e1.trans x2) s2
theorem flatD {H : Hp} {xs : List V} {ds : List PyData} (h : DqAll H xs ds) : ∀ k : Nat, DqAll H (List.replicate k xs).flatten (List.replicate k ds).flatten
  | 0 => .nil
  | k + 1 => by
    rw [List.replicate_succ, List.replicate_succ, List.flatten_cons, List.flatten_cons]
    exact h.append (flatD h k)
theorem rd_repT {xs : List PyData} {k : Int} (h : xs ≠ []) (hl : xs.length ≤ 1000) (h1 : 2 ≤ k) (h2 : k ≤ 1000) : RD O (rRepT K) (.tuple xs) (.int k) (.tuple (List.replicate k.toNat xs).flatten) := fun H v w ho a b Q q => by
  cases a with
  | tup a d =>
    cases b
    refine ⟨_, k, _, rfl, rfl, st_of (sub_of a).1, ?_, h1, h2, by rw [d.length]; exact hl, fun p hp => ?_⟩
    · intro z
      subst z
      cases d
      exact h rfl
    · exact q _ _ (Ex.new hp) (.tup (sub_mk upd_same (not_own ho hp)) ((flatD d _).mono (Ex.o _ (Ex.new hp))))
theorem rd_catT {xs ys : List PyData} (h : xs.length + ys.length ≤ 100000) : RD O (rCatA K) (.tuple xs) (.tuple ys) (.tuple (xs ++ ys)) := fun H v w ho a b Q q => by
  cases a with
  | tup a d =>
    cases b with
    | tup a2 d2 =>
      refine ⟨_, _, _, _, rfl, rfl, st_of (sub_of a).1, st_of (sub_of a2).1, sz_of (by rw [d.length, d2.length]; exact h), fun z => ?_, fun _ z => ?_, fun _ _ p hp => ?_⟩
      · subst z
        cases d
        exact q _ _ (Ex.refl H) (.tup a2 d2)
      · subst z
        cases d2
        exact q _ _ (Ex.refl H) (by rw [List.append_nil]; exact .tup a d)
      · exact q _ _ (Ex.new hp) (.tup (sub_mk upd_same (not_own ho hp)) ((d.append d2).mono (Ex.o _ (Ex.new hp))))
end
end DL
namespace DL
open PySem L2 PyProof.Rows TL RZ
/-! ### for all laws: new lists beside the law's box -/
theorem ExO_mut {O : List Addr} {H H' : Hp} {p : Addr} {o : HO} (e : ExO O H H') (h : sub H O p = none) : ExO O H (upd H' p o) := fun a u ha => by
  have q := e a u ha
  obtain ⟨q1, q2⟩ := sub_of q
  refine sub_mk ?_ q2
  rw [upd_ne (ne_of_none ha h)]
  exact q1
theorem fresh_o {O : List Addr} {H H' : Hp} {p : Addr} (e : ExO O H H') (h : H' p = none) : sub H O p = none := by
  cases z : sub H O p with
  | none => rfl
  | some o =>
    have q := (sub_of (e p o z)).1
    rw [h] at q
    cases q
theorem tYes_go {σ : L2.St} {H : Hp} {A B : Hp → Prop} (h : A H) : tYes σ H fun b H3 => if b = true then A H3 else B H3 := by
  show if true = true then A H else B H
  rw [if_pos rfl]
  exact h
theorem sd_none {O : List Addr} {H : Hp} {σ : L2.St} (ho : ∀ a, a ∈ O → H a ≠ none) (k : Nat) : SD O H σ (List.replicate k none) := ⟨ho, fun i d h => by
  rw [List.getElem?_replicate] at h
  split at h <;> cases h⟩
theorem sort_ex (ns : List Int) : ∃ zs : List Int, zs.Perm ns ∧ zs.Pairwise (· ≤ ·) := by
  refine ⟨ns.mergeSort (fun a b => decide (a ≤ b)), List.mergeSort_perm _ _, ?_⟩
  have q := List.pairwise_mergeSort (le := fun (a b : Int) => decide (a ≤ b)) (fun a b c h1 h2 => by simp at *; omega) (fun a b => by simp; omega) ns
  exact q.imp fun h => by simpa using h
theorem run_go {O : List Addr} {n : Nat} {ts : TS} {ρ : Rho} {d : PyData} {D : Ends} {σ : L2.St} {H : Hp} (h : RunR O n ts ρ d) (hn : σ.length = n) (sd : SD O H σ ρ) (k : ∀ v H', Evl.Ex H H' → Dq (sub H' O) v d → D.rt v H') : ts D σ H := h D σ H hn sd k
/-- a drawn case comes out right -/
def spCase : Sp := fun vs H Q _ => ∃ (p : Addr) (c : Nat), vs = [.ref p] ∧ Box p c H ∧ c ≤ 900 ∧ ∀ H', ExO [p] H H' → Box p (c + 30) H' → Q (.bl true) H'
/-- all cases of a box -/
def spRight : Sp := fun vs H Q _ => ∃ (p : Addr), vs = [.ref p] ∧ Box p 0 H ∧ ∀ H', ExO [p] H H' → Q (.bl true) H'
/-- the law's box, made of a cell -/
def spBox (K : PySem.W.Frag) : Sp := fun vs H Q _ => ∃ (a : Addr) (cs : List Int) (j : Int), vs = [.ref a, .int j] ∧ SqL K H a (cs.map V.int) ∧ 0 ≤ j ∧ j ≤ 2 ∧ ∀ (p : Addr) (H' : Hp), H p = none → Evl.Ex H H' → Box p 0 H' → Q (.ref p) H'
theorem abs_pos (i : Int) : 0 ≤ (if i < 0 then -i else i) := by split <;> omega
/-- the cells of the script: one to three -/
def spCells (K : PySem.W.Frag) : Sp := fun vs H Q _ => ∃ (a : Addr) (ns : List Int), vs = [.ref a, .int 3] ∧ SqL K H a (ns.map V.int) ∧ ns.length ≤ 63 ∧
  ∀ (p : Addr) (cs : List Int) (H' : Hp), H p = none → Evl.Ex H H' → H' p = some (.lst (cs.map V.int)) → 1 ≤ cs.length → cs.length ≤ 3 → Q (.ref p) H'
theorem cut_map (ns : List Int) (lo hi : Option Int) : cutV (ns.map V.int) lo hi = ((ns.drop (HT.sIx ns.length 0 lo)).take (HT.sIx ns.length ns.length hi - HT.sIx ns.length 0 lo)).map V.int := by
  unfold cutV
  rw [List.length_map, List.map_take, List.map_drop]
end DL
/-! DX: own exceptions with one field: made, raised, caught, and kept as a value behind the suite that caught them. -/
namespace DL
open PySem PySem.Spec L2 PyProof.Rows
theorem exk_ok {P : Program} {w : World} {H : Hp} {h : Heap} {a : Addr} {cls : Value} {d : Option Addr} {oe : Obj} {vs : Array Value} (e : h.get? a = some oe) (z : Zc cls d oe) (f : oe.data = .fields vs) : ObjOk P w H h a (exk a cls d) :=
  ⟨⟨oe, e, z, vs, f⟩, ⟨oe, e⟩, fun _ _ ⟨u, p, q⟩ k => ⟨u, k u p, q⟩⟩
theorem exk_at {P : Program} {w : World} {H : Hp} {h : Heap} {a : Addr} {cls : Value} {d : Option Addr} (hok : HOk P w H h) (ha : H a = some (exk a cls d)) : ∃ oe : Obj, h.get? a = some oe ∧ Zc cls d oe ∧ ∃ vs, oe.data = .fields vs := by
  have x : ObjOk P w H h a (.ext fun h => ∃ oe : Obj, h.get? a = some oe ∧ Zc cls d oe ∧ ∃ vs, oe.data = .fields vs) := hok a _ ha
  exact x.1
section
variable {X : Cx} {pins : List (Addr × Obj)} {σ : L2.St} {H : Hp} {s : Shared} {a : Addr} {o : HO}
/-- an object that is there but was not told of is told of from now on -/
theorem track (I : Inv X pins σ H s) (na : H a = none) (n0 : X.s_0.heap.get? a = none) (np : ∀ p ∈ X.pn ++ pins, p.1 ≠ a) (nL : a ≠ X.env.locals)
    (nC : ∀ x c, X.env.cells.lookup x = some c → c ≠ a) (new : ObjOk X.prog X.w (upd H a o) s.heap a o) : Inv X pins σ (upd H a o) s where
  ok := I.ok
  os := I.os
  bare := I.bare
  base :=
    { keep := I.base.keep
      slot := I.base.slot
      there := I.base.there
      free := fun b u q n hx => by
        have nb : b ≠ a := fun z => by
          rw [z, n0] at q
          cases q
        rw [upd_ne nb]
        exact I.base.free b u q n hx
      tups := fun b xs q => by
        have t := I.base.tups b xs q
        rw [upd_ne (ne_of_none t na)]
        exact t
      frzs := fun b u x q => by
        have t := I.base.frzs b u x q
        rw [upd_ne (ne_of_none t na)]
        exact t
      tbls := fun b ps q => by
        obtain ⟨m, t⟩ := I.base.tbls b ps q
        refine ⟨m, ?_⟩
        rw [upd_ne (ne_of_none t na)]
        exact t }
  loc := I.loc
  cell := I.cell
  free := by
    rw [upd_ne (Ne.symm nL)]
    exact I.free
  freeC := fun x c e => by
    rw [upd_ne (nC x c e)]
    exact I.freeC x c e
  pin := fun p hp => by
    obtain ⟨p1, p2, p3⟩ := I.pin p hp
    refine ⟨p1, ?_, p3⟩
    rw [upd_ne (np p hp)]
    exact p2
  hok := I.hok.laidN (fun _ _ q => q) na new
  len := I.len
/-- what 'except x as n' wishes where each exception of the body is the clause's and the suite goes on: behind it the exception stays told of -/
def wKeep (K : PySem.W.Frag) (c : Value) (i : Nat) (ts : Addr → Value → Option Addr → TS) (D : Ends) : WX := fun cls d σ H =>
  PySem.W.exmOne K cls c = some true ∧ ∀ a, H a = none →
    ts a cls d { nx := fun σ' H' => H' a = none → D.nx (σ'.set i none) (upd H' a (exk a cls d)), rt := fun _ _ => False } (σ.set i (some (.ref a))) H
end
section
variable {X : Cx} {x n : Str} {c : Value} {i : Nat} {body suite : List Stmt} {b₀ : Stmt} {np pos pos' : Pos} {tb : WX → TS} {ts : Addr → Value → Option Addr → TS}
theorem ps_try_keep (hs : X.stack = X.env :: X.outer) (hf : X.env.frame = some X.env.locals) (hex : X.ex = []) (hN : X.N.Nodup) (hi : X.N[i]? = some n)
    (hln : X.env.kindOf n = some .local) (hc : Names X x c)
    (hb : ∀ (W : WX) (pn : List (Addr × Obj)) (xe : Value → Shared → Prop), Takes (X.tr pn xe) W → PassesOwn (model X.prog X.w) X.A X.env xe → PSs (X.tr pn xe) body (tb W))
    (hsu : ∀ (a : Addr) (oe : Obj) (cls : Value) (d : Option Addr) (pn : List (Addr × Obj)), Zc cls d oe → (∃ vs, oe.data = .fields vs) → PSs (X.suite a ((a, oe) :: pn)) (b₀ :: suite) (ts a cls d)) :
    PS X (.Try body [.ExceptHandler (some (.Name x np)) (some n) (b₀ :: suite) pos'] [] [] pos) (fun D σ H => tb (wKeep X.K c i ts D) D σ H) := by
  refine ⟨fun pins s σ H D I h => ?_⟩
  have ok := I.ok
  have frames : X.A.frames = some (X.env :: X.outer) := by
    rw [ok.frames, hs]
  refine wpAny_Try_except ?_
  refine wpAny_mono ((hb (wKeep X.K c i ts D) (X.pn ++ pins)
    (fun e s₁ => wpAny (model X.prog X.w) X.A (noteFrame e X.env) (fun _ s₂ => wpAny (model X.prog X.w) X.A (setFlight e none)
      (fun _ s₃ => wpAny (model X.prog X.w) X.A (handleBy e X.env [.ExceptHandler (some (.Name x np)) (some n) (b₀ :: suite) pos']) (SP X pins D) X.xe s₃) X.xe s₂) X.xe s₁)
    (fun u s' xx => ?_) PassesOwn.looking).run [] s σ H D (I.toTry _) h) (fun f s1 hsp => ?_) (fun e s1 he => he)
  · obtain ⟨a, B, sI, pins', σ', H', cls, d, rfl, J', nb, up, sky, na, os, ag, hone, hyes⟩ := xx
    have J : Inv X pins σ' H' sI := J'.ofTry ok
    rw [show (X.tr (X.pn ++ pins) _).stack = X.env :: X.outer from hs] at sky
    show wpAny (model X.prog X.w) X.A (noteFrame (.ref a) X.env) _ _ _
    refine Sky.land Zc.steady frames hf sky fun h3 fl3 up3 => ?_
    have J3 : Inv X pins σ' H' { s' with heap := h3 } := J.landed nb fl3.1 (up.trans up3) os ag
    obtain ⟨oe3, vs3, he3, hz3, hd3⟩ := fl3.there
    have away : ∀ {h : Heap} {ob : Obj} {vs : Array Value}, h.FunFrames B (X.env :: X.outer) → h.get? a = some ob → ob.data = .fields vs → a ∉ frs (X.env :: X.outer) := by
      intro h ob vs ff e dd hm
      obtain ⟨_, ob', e', no⟩ := ff.mem hm
      rw [e] at e'
      cases e'
      exact no _ dd
    have nfr := away fl3.2.2.1 he3 hd3
    have nL : a ≠ X.env.locals := by
      intro z
      refine nfr (List.mem_filterMap.mpr ⟨X.env, List.mem_cons_self, ?_⟩)
      rw [hf, z]
    have nF : a ∉ X.fs := by
      intro hm
      obtain ⟨e, he, q⟩ := List.mem_filterMap.mp hm
      exact nfr (List.mem_filterMap.mpr ⟨e, List.mem_cons_of_mem _ he, q⟩)
    -- the exception is new: nothing of what stood ahead of it lies there
    have nI : sI.heap.get? a = none := by
      cases e : sI.heap.get? a with
      | none => rfl
      | some ob =>
        have z := nb a ob e (by rw [show (X.tr (X.pn ++ pins) _).stack = X.env :: X.outer from hs]; exact nfr)
        rw [fl3.2.1] at z
        cases z
    have n0 : X.s_0.heap.get? a = none := by
      cases e : X.s_0.heap.get? a with
      | none => rfl
      | some ob =>
        obtain ⟨ob', q⟩ := J.base.there a ob e (by rw [hex]; exact List.not_mem_nil)
        rw [nI] at q
        cases q
    have npin : ∀ p ∈ X.pn ++ pins, p.1 ≠ a := by
      intro p hp z
      have q := (J.pin p hp).1
      rw [z, nI] at q
      cases q
    have ncell : ∀ y k, X.env.cells.lookup y = some k → k ≠ a := by
      intro y k e z
      obtain ⟨v, ob, q, _⟩ := J.cell y k e
      rw [z, nI] at q
      cases q
    have S3 := J3.suite he3 hd3 na nL nF
    refine wpAny_handleBy_cons (codeAny_handlers_test ?_) (by intro q; cases q)
    have looks : PySem.W.Looks (model X.prog X.w) h3 (typeOf (.ref a)) cls := by
      intro A Q E s k q
      refine wpAny_typeOf_ref (k _ _ he3) ?_
      rw [hz3.1]
      exact q
    have one := PySem.W.exm_one (M := model X.prog X.w) (J3.kIn) looks hone
    have test : ∀ {Q : Value → Shared → Prop} {E : Value → Shared → Prop}, Q c { s' with heap := h3 } → wpAny (model X.prog X.w) (X.A.mark (some (.ref a))) (eval (.Name x np) X.env) Q E { s' with heap := h3 } := by
      intro Q E q
      obtain ⟨g1, g2, g3 | ⟨g3, g4, g5⟩⟩ := hc
      · exact ld_glob (X := X.suite a ((a, oe3) :: (X.pn ++ pins))) S3 g1 g3 q g2
      · exact ld_blt (X := X.suite a ((a, oe3) :: (X.pn ++ pins))) S3 g1 g3 g4 q g5 g2
    refine test (one.here ?_)
    refine codeAny_handlers_suite_as ?_
    refine HandSPX.lands_againZ fl3 fun h4 fl4 up4 => ?_
    have J4 : Inv X pins σ' H' { s' with heap := h4 } := J.landed nb fl4.1 ((up.trans up3).trans up4) os ag
    obtain ⟨oe4, vs4, he4, hz4, hd4⟩ := fl4.there
    have S4 := J4.suite he4 hd4 na nL nF
    refine store_ok (X := X.suite a ((a, oe4) :: (X.pn ++ pins))) (v := .ref a) S4 hN hi (.inl hln) rfl (fun s5 S5 => ?_) (.inr hln)
    have go := (hsu a oe4 cls d (X.pn ++ pins) hz4 ⟨_, hd4⟩).run [] s5 _ H' _ S5 (hyes a na)
    refine wpAny_mono go (fun f s6 hsp => ?_) (fun _ _ z => False.elim z)
    cases f with
    | next =>
      obtain ⟨σ6, H6, S6, q6⟩ := hsp
      obtain ⟨e6, n6, _⟩ := S6.pin (a, oe4) (List.mem_append_left _ List.mem_cons_self)
      have T6 := track (S6.unsuite ok) n6 n0 npin nL ncell (exk_ok (cls := cls) (d := d) e6 hz4 hd4)
      exact gone_ok T6 hN hi hln fun s7 J7 => ⟨_, _, J7, q6 n6⟩
    | brk =>
      obtain ⟨σ6, H6, S6, q6⟩ := hsp
      exact q6.elim
    | cont =>
      obtain ⟨σ6, H6, S6, q6⟩ := hsp
      exact q6.elim
    | ret u =>
      obtain ⟨v6, σ6, H6, S6, r6, q6⟩ := hsp
      exact q6.elim
  · cases f with
    | ret u =>
      obtain ⟨v, σ', H', J', r, q⟩ := hsp
      exact ⟨v, σ', H', J'.ofTry ok, r, q⟩
    | next =>
      obtain ⟨σ', H', J', q⟩ := hsp
      exact wpAny_execs_nil ⟨σ', H', J'.ofTry ok, q⟩
    | brk =>
      obtain ⟨σ', H', J', q⟩ := hsp
      exact ⟨σ', H', J'.ofTry ok, q⟩
    | cont =>
      obtain ⟨σ', H', J', q⟩ := hsp
      exact ⟨σ', H', J'.ofTry ok, q⟩
end
end DL
namespace DL
open PySem L2 Evl PyProof.Rows TL RZ
/-- what the written part says of an own exception class x at C with an __init__ at fI that keeps one field f -/
structure ErrC (K : PySem.W.Frag) (mg : Str → Option Value) (x : Str) (C fI : Addr) (f : Str) : Prop where
  gC : mg x = some (.ref C)
  cls : OexC K C
  ga : PySem.W.findIn K (.ref C) "__getattribute__" = some (some (.builtin "BaseException.__getattribute__"))
  gg : PySem.W.findIn K (.ref C) "__getattr__" = some none
  noN : PySem.W.findIn K (.ref C) f = some none
  iC : PySem.W.findIn K (.ref C) "__init__" = some (some (.ref fI))
  tC : PySem.W.typeIn K (.ref fI) = some (.type "function")
  hdC : PySem.W.hasDictIn K C = true
  te : PySem.W.exmOne K (.ref C) (.ref C) = some true
/-- an exception of the class is what the clause names -/
theorem exm_self {K : PySem.W.Frag} {S : Addr} (b : PySem.W.subIn K (.ref S) (.type "BaseException") = some true) (i : PySem.W.isClsIn K S = true)
    (t : PySem.W.typeIn K (.ref S) = some (.type "type")) (u : PySem.W.subIn K (.ref S) (.ref S) = some true) : PySem.W.exmOne K (.ref S) (.ref S) = some true := by
  have i2 : (PySem.W.clsIn K S).isSome = true := i
  have a1 : (PySem.W.subIn K (.ref S) (.type "BaseException") == some true) = true := by
    rw [b]
    rfl
  unfold PySem.W.exmOne
  rw [if_pos a1]
  have a2 : ((PySem.W.clsIn K S).isSome && PySem.W.typeIn K (.ref S) == some (.type "type")) = true := by
    rw [i2, t]
    rfl
  show (if _ then _ else _) = _
  rw [if_pos a2]
  exact u
/-- __init__(self, v): self.f = v -/
def spInit (C : Addr) (f : Str) : Sp := fun vs H Q _ => ∃ (a : Addr) (v : V), vs = [.ref a, v] ∧ H a = some (exo a C none) ∧
  ∀ dx, H dx = none → dx ≠ a → Q .non (upd (upd H dx (exd dx [(f, v)])) a (exo a C (some dx)))
/-- raise C(e) -/
def tRz (C : Addr) (f : Str) (W : WX) (ta : TA) : TS := fun _ σ H => tMkO C (spInit C f) [] ta σ H fun cls d H' => W cls d σ H'
theorem ps_rz {X : Cx} {K : PySem.W.Frag} {mg : Str → Option Value} {x f : Str} {C fI : Addr} {fd : FuncData} {W : WX} {k : Nat} {e : Expr} {es : List Expr} {ta : TA} {p pos pos2 : Pos} {ps : List Str}
    (hK : X.K = K) (hmg : X.mg = mg) (T : ErrC K mg x C fI f) (F1 : FnOk X.prog X.w X.K X.mg X.base CX0 k fI fd ps (spInit C f)) (hb : Binds K fd ps []) (hc : X.calm = true) (hr : Room (k + 1) X.A) (tk : Takes X W)
    (hg : Gl X x) (ha : PA X (e :: es) ta) (hdb : (x == ("__debug__" : Str)) = false := by decide) (he : starEach (e :: es) X.env = (false, eval e X.env) :: starEach es X.env := by rfl) (hpl : (backTo pos (starEach es X.env)).any (·.1) = false := by rfl) :
    PS X (.Raise (some (.Call (.Name x p) (e :: es) [] pos)) none pos2) (tRz C f W ta) := by
  subst hK
  subst hmg
  exact ps_raise hc tk (pmk_oex (dvs := []) T.cls T.iC T.tC F1 hr hb .nil (fun _ _ _ _ _ _ _ z => z.elim) hg T.gC ha hdb he hpl)
section
variable {O : List Addr} {n : Nat} {ρ ρ1 ρ' : Rho} {t u : TS} {tt : TT} {te : TE} {ta : TA} {C : Addr} {f : Str} {E : XK} {k : Int} {ds : List PyData} {d : PyData} {wi : TI} {g : TG} {vs : List Nat} {tb : TS}
/-- what is wanted where C with f = k is raised -/
def Out (C : Addr) (f : Str) (H : Hp) (E : XK) (k : Int) : Prop := ∀ (dd : Addr) (H' : Hp), Ex H H' → H dd = none → H' dd = some (.xd [(f, V.int k)]) → E (.ref C) (some dd) H'
theorem Out.ex {H H1 : Hp} (o : Out C f H E k) (e : Ex H H1) : Out C f H1 E k := fun dd H' e2 n2 h2 => by
  refine o dd H' (e.trans e2) ?_ h2
  cases z : H dd with
  | none => rfl
  | some u =>
    rw [e dd u z] at n2
    cases n2
/-- a statement that raises -/
def RunE (O : List Addr) (n : Nat) (C : Addr) (f : Str) (E : XK) (t : TS) (ρ : Rho) (k : Int) : Prop := ∀ (D : Ends) (σ : L2.St) (H : Hp), σ.length = n → SD O H σ ρ → Out C f H E k → t D σ H
theorem re_raise (h : EvDA O n ta ρ [.int k]) : RunE O n C f E (tRz C f (fun cls d _ H => E cls d H) ta) ρ k := fun D σ H hn s q => h σ H hn s _ fun vs H1 e1 d1 => by
  cases d1 with
  | cons a r =>
    cases a
    cases r
    refine ⟨by show 1 ≤ 1000; decide, fun a na => ⟨a, .int k, rfl, upd_same, fun dx ndx hne => ⟨rfl, dx, [(f, .int k)], upd_same, ?_, ?_, ?_⟩⟩⟩
    · rw [upd_ne hne]
      exact upd_same
    · rw [upd_ne hne] at ndx
      exact ndx
    · have nd : H1 dx = none := by
        rw [upd_ne hne] at ndx
        exact ndx
      refine q dx _ ?_ ?_ upd_same
      · refine e1.trans fun y o hy => ?_
        have ya : y ≠ a := ne_of_none hy na
        have yd : y ≠ dx := ne_of_none hy nd
        rw [upd_ne yd, del_ne ya, upd_ne ya, upd_ne yd, upd_ne ya]
        exact hy
      · cases z : H dx with
        | none => rfl
        | some u =>
          rw [e1 dx u z] at nd
          cases nd
theorem re_seq (h1 : RunN O n t ρ ρ1) (h2 : RunE O n C f E u ρ1 k) : RunE O n C f E (tSeq t u) ρ k := fun D σ H hn s q =>
  h1 _ σ H hn s fun σ' H' hn' e' s' => h2 D σ' H' hn' s' (q.ex e')
theorem re_fst (h1 : RunE O n C f E t ρ k) : RunE O n C f E (tSeq t u) ρ k := fun D σ H hn s q => h1 _ σ H hn s q
theorem re_when {b : Bool} (h : EvDT O n tt ρ b) (h1 : b = true → RunE O n C f E t ρ k) (h2 : b = false → RunE O n C f E u ρ k) : RunE O n C f E (tSeq (tIfS tt t tNext) u) ρ k := fun D σ H hn s q => h σ H hn s _ fun H1 e1 => by
  cases b with
  | true => exact iteT (h1 rfl _ σ H1 hn (s.ex e1) (q.ex e1))
  | false => exact iteF (h2 rfl D σ H1 hn (s.ex e1) (q.ex e1))
theorem re_if {b : Bool} (h : EvDT O n tt ρ b) (h1 : b = true → RunE O n C f E t ρ k) (h2 : b = false → RunE O n C f E u ρ k) : RunE O n C f E (tIfS tt t u) ρ k := fun D σ H hn s q => h σ H hn s _ fun H1 e1 => by
  cases b with
  | true => exact iteT (h1 rfl D σ H1 hn (s.ex e1) (q.ex e1))
  | false => exact iteF (h2 rfl D σ H1 hn (s.ex e1) (q.ex e1))
/-- a for that is left by what the m-th turn raises -/
theorem re_for {m : Nat} (hw : IterD O n wi ρ ds) (R : Nat → Rho) (h0 : R 0 = ρ) (hm : m < ds.length) (hs : ∀ i d, i < m → ds[i]? = some d → ∃ ρ', TgD O n vs g (R i) d ρ' ∧ RunN O n tb ρ' (R (i + 1)))
    (hx : ∀ d, ds[m]? = some d → ∃ ρ', TgD O n vs g (R m) d ρ' ∧ RunE O n C f E tb ρ' k) : RunE O n C f E (tFor wi g tb) ρ k := fun D σ H hn s q => hw σ H hn s _ fun J H1 G Y e1 W g1 gk yk => by
  refine for_it (W O) (fun i σ2 H2 => i ≤ m ∧ σ2.length = n ∧ Ex H1 H2 ∧ SD O H2 σ2 (R i)) ⟨Nat.zero_le _, hn, Ex.refl H1, by rw [h0]; exact s.ex e1⟩ (fun i σ2 H2 _ p => gk _ _ _ _ g1 (Ex.o O p.2.2.1)) ?_ ?_
  · rintro i x σ2 H2 H3 hi ⟨im, l2, x2, s2⟩ y
    obtain ⟨e3, d, hdi, hx3⟩ := yk O i H2 x H3 hi s2.own (gk _ _ _ _ g1 (Ex.o O x2)) y
    by_cases c : i = m
    · subst c
      obtain ⟨ρ', ht, hb⟩ := hx d hdi
      refine ht σ2 H3 x l2 (s2.ex e3) hx3 _ fun σ' hl' _ s' => ?_
      exact hb _ σ' H3 hl' s' (q.ex ((e1.trans x2).trans e3))
    · obtain ⟨ρ', ht, hb⟩ := hs i d (by omega) hdi
      refine ht σ2 H3 x l2 (s2.ex e3) hx3 _ fun σ' hl' _ s' => ?_
      exact hb _ σ' H3 hl' s' fun σ4 H4 hl4 e4 s4 => ⟨by omega, hl4, (x2.trans e3).trans e4, s4⟩
  · rintro σ2 H2 ⟨im, l2, x2, s2⟩
    exact absurd hm (by omega)
/-- an expression that raises -/
def EvE (O : List Addr) (n : Nat) (C : Addr) (f : Str) (te : TE) (ρ : Rho) (k : Int) (E : L2.St → XK) : Prop := ∀ (σ : L2.St) (H : Hp), σ.length = n → SD O H σ ρ → Out C f H (E σ) k → ∀ Q, te σ H Q
end
/-- a def that answers or raises -/
def spDX (C : Addr) (f : Str) (R : List PyData → PyData ⊕ Int → Prop) : Sp := fun vs H Q E => ∃ (O : List Addr) (ds : List PyData) (r : PyData ⊕ Int), (∀ a, a ∈ O → H a ≠ none) ∧ DqAll (sub H O) vs ds ∧ R ds r ∧
  match r with
  | .inl d => ∀ v H', Ex H H' → Dq (sub H' O) v d → Q v H'
  | .inr k => Out C f H E k
section
variable {P : Program} {w : World} {K : PySem.W.Frag} {mg : Str → Option Value} {base : Heap} {C : Addr} {g : Str}
theorem pure_okX {R : List PyData → PyData ⊕ Int → Prop} {x qual : Str} {st : Stmt} {f : Addr} {fd : FuncData} {N ps : List Str} {k : Nat} (F : Fun K x qual st f fd) (S : FnScope N ps (defScope st)) (hl : ∀ ds d, R ds d → ds.length = ps.length) (hp : ps.length ≤ N.length)
    (body : ∀ (cdv : Value) (A : Around) (outer : List Env) (s : Shared) (H : Hp) (E : XK), Room k (A.deeper (envOfC qual (defScope st) s.heap.objs.size f cdv)) →
      ∃ t, PSs (cxOf (L2.CX P w) P w K mg base N qual (defScope st) f cdv A outer s H E) (defBody st) t ∧ ∀ O ds r, R ds r → match r with
        | .inl d => RunR O N.length t (argR N ds) d
        | .inr k => RunE O N.length C g E t (argR N ds) k) : FnOk P w K mg base (L2.CX P w) (k + 1) f fd ps (spDX C g R) := by
  refine F.okX S (fun vs H Q E h => ?_) (fun cdv A outer s H vs Q E hr h => ?_)
  · obtain ⟨O, ds, r, _, hd, hR, _⟩ := h
    rw [hd.length]
    exact hl ds r hR
  · obtain ⟨t, ht, hb⟩ := body cdv A outer s H E hr
    obtain ⟨O, ds, r, ho, hd, hR, q⟩ := h
    have len : (L2.start N vs).length = N.length := start_len (by rw [hd.length, hl ds r hR]; exact hp)
    refine ⟨t, ht, ?_⟩
    have b := hb O ds r hR
    cases r with
    | inl d => exact b _ (L2.start N vs) H len (sd_start ho hd) q
    | inr k => exact b _ (L2.start N vs) H len (sd_start ho hd) q
end
section
variable {O : List Addr} {n : Nat} {ρ : Rho} {C : Addr} {f : Str} {R : List PyData → PyData ⊕ Int → Prop} {ds : List PyData} {d : PyData} {k : Int} {tr : TA} {E : L2.St → XK} {ta tb : TE}
theorem ed_callX (h : EvDA O n tr ρ ds) (hR : R ds (.inl d)) : EvD O n (tCallS (spDX C f R) E tr) ρ d := fun σ H hn s Q q =>
  h σ H hn s _ fun vs H1 e1 d1 => ⟨O, ds, .inl d, own_ex e1 s.own, d1, hR, fun v H2 e2 d2 => q v H2 (e1.trans e2) d2⟩
theorem ee_call (h : EvDA O n tr ρ ds) (hR : R ds (.inr k)) : EvE O n C f (tCallS (spDX C f R) E tr) ρ k E := fun σ H hn s q Q =>
  h σ H hn s _ fun vs H1 e1 d1 => ⟨O, ds, .inr k, own_ex e1 s.own, d1, hR, q.ex e1⟩
/-- a pair whose second one raises -/
theorem ee_tup2 {u : PyData} (h1 : EvD O n ta ρ u) (h2 : EvE O n C f tb ρ k E) : EvE O n C f (tTup (tCons ta (tCons tb tNil))) ρ k E := fun σ H hn s q Q =>
  h1 σ H hn s _ fun v H1 e1 d1 => h2 σ H1 hn (s.ex e1) (q.ex e1) _
theorem re_ret {E : XK} {te : TE} (h : EvE O n C f te ρ k (fun _ => E)) : RunE O n C f E (tRet te) ρ k := fun D σ H hn s q => h σ H hn s q _
end
/-! ### a kept exception's field -/
def tKept (C : Addr) (f : Str) (te : TE) : TE := fun σ H Q => te σ H fun x H1 => ∃ (a dd : Addr) (v : V), x = .ref a ∧ H1 a = some (exk a (.ref C) (some dd)) ∧ H1 dd = some (.xd [(f, v)]) ∧ Q v H1
theorem pe_kept {X : Cx} {K : PySem.W.Frag} {mg : Str → Option Value} {x f : Str} {C fI : Addr} {e : Expr} {te : TE} {pos : Pos} (hK : X.K = K) (T : ErrC K mg x C fI f) (he : PE X e te)
    (hb : attributeBase e f X.env (eval e X.env) = eval e X.env := by rfl) : PE X (.Attribute e f pos) (tKept C f te) := by
  subst hK
  refine ⟨fun pins s σ H Q I h => attr_of hb (thn (he.run pins s σ H _ I h) fun u s1 hh => ?_)⟩
  obtain ⟨z, H1, I1, rz, a, dd, v, ez, ea, ed, q⟩ := hh
  subst ez
  obtain rfl : u = Value.ref a := rz
  obtain ⟨oe, ha, hz, fs, hd⟩ := exk_at I1.hok ea
  have hx : ObjOk X.prog X.w H1 s1.heap dd (.xd [(f, v)]) := I1.hok dd _ ed
  obtain ⟨mA, hns, hr⟩ := hx
  obtain ⟨od, ho, hl⟩ := lookIn_ns hns
  have l : List.lookup f [(f, v)] = some v := by simp [List.lookup]
  obtain ⟨u, hu, ru⟩ := RelO.some_of (v := v) (o := mA f) (by rw [← l]; exact hr f)
  have J : PySem.W.InstAt s1.heap a oe C (some od) := ⟨ha, hz.1, by unfold PySem.W.notCls; rw [hd] <;> rfl, by rw [hz.2]; exact ho⟩
  exact HandSPX.exc_get I1.kIn J T.ga T.gg T.cls.exC (PySem.W.findObj_own T.hdC T.noN rfl (by rw [hl, hu])) (handed_of ru) ⟨v, H1, I1.tok _, ru, q⟩
end DL
namespace DL
open PySem L2 PyProof.Rows TL
section
variable {X : Cx} {e b : Expr} {es : List Expr} {te tb : TE} {t : TA} {x : Str} {j : Nat} {p pos : Pos} {op : Operator} {r : R2}
/-- written items, the first of them made with a written text: behind it a token is out -/
theorem pa_first (ho : OpR X (binaryOp op) r) (hb : PE X b tb) (hr : PAT X es t) (hs : starEach (.BinOp (.Constant (.str x) j p) op b pos :: es) X.env = (false, eval (.BinOp (.Constant (.str x) j p) op b pos) X.env) :: starEach es X.env := by rfl) :
    PA X (.BinOp (.Constant (.str x) j p) op b pos :: es) (tCons (tOp r (tC (.str x)) tb) t) := by
  refine ⟨fun pos2 pins s σ H Q I h => ?_⟩
  rw [hs]
  show wpAny _ _ (spliced ((false, eval (.BinOp (.Constant (.str x) j p) op b pos) X.env) :: backTo pos2 (starEach es X.env))) _ _ s
  refine Calls.spliced_cons (wpAny_BinOp (Calls.Constant_str ?_))
  refine wpAny_mono (PySem.wpAny_toks_of (n := 1) (show 1 ≤ s.toks + 1 by omega) (hb.run pins { s with toks := s.toks + 1 } σ H _ (I.tok _) h)) (fun u s2 q => ?_) fun _ _ z => z.2
  obtain ⟨h2, y, H2, I2, r2, q2⟩ := q
  refine wpAny_mono (PySem.wpAny_toks_of h2 (ho pins s2 σ H2 (.str x) y (.str x s.toks) u _ I2 ⟨_, rfl⟩ r2 q2)) (fun w s3 q => ?_) fun _ _ z => z.2
  obtain ⟨h3, z, H3, I3, r3, q3⟩ := q
  exact thn (hr pos2 pins s3 σ H3 _ h3 I3 q3) fun us s4 ⟨xs, H4, I4, r4, q4⟩ => ⟨z :: xs, H4, I4, .cons r3 r4, q4⟩
end
/-! ### the signs of pieces -/
theorem joinL_snoc {S : List Nat} : ∀ {a : List (List Nat)} {b : List Nat}, a ≠ [] → joinL S (a ++ [b]) = joinL S a ++ (S ++ b)
  | [], _, h => absurd rfl h
  | [p], b, _ => rfl
  | p :: q :: r, b, _ => by
    show p ++ (S ++ joinL S (q :: (r ++ [b]))) = (p ++ (S ++ joinL S (q :: r))) ++ (S ++ b)
    rw [show q :: (r ++ [b]) = (q :: r) ++ [b] from rfl, joinL_snoc (by simp)]
    simp only [List.append_assoc]
theorem mem_joinL {S : List Nat} {c : Nat} : ∀ {a : List (List Nat)}, c ∈ joinL S a → c ∈ S ∨ ∃ p, p ∈ a ∧ c ∈ p
  | [], h => by cases h
  | [p], h => .inr ⟨p, List.mem_singleton.mpr rfl, h⟩
  | p :: q :: r, h => by
    have h' : c ∈ p ++ (S ++ joinL S (q :: r)) := h
    rcases List.mem_append.mp h' with h1 | h1
    · exact .inr ⟨p, List.mem_cons_self, h1⟩
    · rcases List.mem_append.mp h1 with h2 | h2
      · exact .inl h2
      · rcases mem_joinL h2 with h3 | ⟨x, hx, hc⟩
        · exact .inl h3
        · exact .inr ⟨x, List.mem_cons_of_mem _ hx, hc⟩
/-- a sign of a text that isn't the blank stands in one of its pieces -/
theorem in_piece {s : Str} {c : Nat} (h : c ∈ s.cps.toList) (h32 : c ≠ 32) : ∃ p, p ∈ Txt.split s (" " : Str) ∧ c ∈ p.cps.toList := by
  have e := PySem.StrLaws.join_split s (" " : Str)
  have t := tl_join (" " : Str) (Txt.split s (" " : Str))
  rw [e] at t
  have ey : tl (" " : Str) = [32] := by decide +kernel
  rw [ey] at t
  have h' : c ∈ joinL [32] ((Txt.split s (" " : Str)).map tl) := by
    rw [← t]
    exact h
  rcases mem_joinL h' with h1 | ⟨q, hq, hc⟩
  · exact absurd (List.mem_singleton.mp h1) h32
  · obtain ⟨p, hp, rfl⟩ := List.mem_map.mp hq
    exact ⟨p, hp, hc⟩
end DL
/-! DY: objects of own classes as data: .dict ((.int class, .none) :: fields). -/
namespace DL
open PySem L2 Evl PyProof.Rows TL RZ
/-- an object's datum -/
def obD (C : Addr) (ks : List (PyData × PyData)) : PyData := .dict ((.int (C : Int), .none) :: ks)
def fldD (f : Str) : List (PyData × PyData) → Option PyData
  | [] => none
  | (.str g, d) :: r => if f == g then some d else fldD f r
  | _ :: r => fldD f r
theorem DqF.at {H : Hp} {f : Str} {d : PyData} : ∀ {fs : List (Str × V)} {ks : List (PyData × PyData)}, DqF H fs ks → fldD f ks = some d → ∃ v, fs.lookup f = some v ∧ Dq H v d
  | _, _, .nil, e => by cases e
  | _, _, .cons (f := g) (v := v) (fs := fs) (d := d') (ks := ks) h k, e => by
    have e : (if f == g then some d' else fldD f ks) = some d := e
    cases c : f == g with
    | true =>
      rw [c, if_pos rfl] at e
      cases e
      exact ⟨v, by simp [List.lookup, c], h⟩
    | false =>
      rw [c, if_neg Bool.false_ne_true] at e
      obtain ⟨u, h1, h2⟩ := k.at e
      exact ⟨u, by simp [List.lookup, c, h1], h2⟩
section
variable {O : List Addr} {n : Nat} {ρ : Rho} {te : TE} {d x : PyData} {ks : List (PyData × PyData)} {K : PySem.W.Frag} {C : Addr} {f : Str} {R : List PyData → PyData → Prop} {E : XK}
theorem dq_ob {H : Hp} {v : V} (h : Dq H v (obD C ks)) : ∃ (a dx : Addr) (fs : List (Str × V)), v = .ref a ∧ H a = some (.ins C dx fs) ∧ DqF H fs ks := by
  generalize e : obD C ks = q at h
  cases h with
  | ob a k =>
    unfold obD at e
    injection e with e
    injection e with e1 e2
    injection e1 with e1 e3
    injection e1 with e1
    have e1 := Int.ofNat.inj e1
    subst e1
    subst e2
    exact ⟨_, _, _, rfl, a, k⟩
  | _ => cases e
/-- e.f, an attribute of the object -/
theorem ed_fld (h : EvD O n te ρ (obD C ks)) (hc : Cls K C) (hf : NoAttr K C f) (hl : fldD f ks = some d) : EvD O n (tFld K te f) ρ d := fun σ H hn s Q q => h σ H hn s _ fun v H1 e1 d1 => by
  obtain ⟨a, dx, fs, rfl, ha, k⟩ := dq_ob d1
  obtain ⟨u, h1, h2⟩ := k.at hl
  exact ⟨a, C, dx, fs, u, rfl, (sub_of ha).1, hc, hf, h1, q u H1 e1 h2⟩
/-- e.f, a property -/
theorem ed_prop (h : EvD O n te ρ (obD C ks)) (hR : R [obD C ks] d) : EvD O n (tProp C (spD R) [] E te) ρ d := fun σ H hn s Q q => h σ H hn s _ fun v H1 e1 d1 => by
  have d1' := d1
  obtain ⟨a, dx, fs, rfl, ha, k⟩ := dq_ob d1
  exact ⟨a, dx, fs, rfl, (sub_of ha).1, O, [obD C ks], d, own_ex e1 s.own, .cons d1' .nil, hR, fun v H2 e2 d2 => q v H2 (e1.trans e2) d2⟩
/-- C(..): what an __init__ leaves of a new object -/
def spMk (C : Addr) (R : List PyData → List (PyData × PyData) → Prop) : Sp := fun vs H Q _ => ∃ (O : List Addr) (x dx : Addr) (us : List V) (ds : List PyData) (ks : List (PyData × PyData)), vs = .ref x :: us ∧ (∀ a, a ∈ O → H a ≠ none) ∧ x ∉ O ∧
  H x = some (.ins C dx []) ∧ DqAll (sub H (x :: O)) us ds ∧ R ds ks ∧ ∀ (H' : Hp) (dx' : Addr) (fs : List (Str × V)), ExO [x] H H' → H' x = some (.ins C dx' fs) → DqF (sub H' (x :: O)) fs ks → Q .non H'
theorem ed_make {ta : TA} {ds : List PyData} {R : List PyData → List (PyData × PyData) → Prop} (h : EvDA O n ta ρ ds) (hR : R ds ks) : EvD O n (tMake C (spMk C R) [] E ta) ρ (obD C ks) := fun σ H hn s Q q => h σ H hn s _ fun vs H1 e1 d1 => by
  intro x dx nx ndx hne
  have own1 := own_ex e1 s.own
  have nxO : x ∉ O := fun z => own1 x z nx
  have x2 : Ex H1 (upd (upd H1 dx (.own x)) x (.ins C dx [])) := fun y o hy => by
    have ya : y ≠ x := ne_of_none hy nx
    have yd : y ≠ dx := ne_of_none hy ndx
    rw [upd_ne ya, upd_ne yd]
    exact hy
  refine ⟨O, x, dx, vs, ds, ks, by rw [List.append_nil], own_ex x2 own1, nxO, upd_same, ?_, hR, fun H3 dx' fs e3 h3 k3 => ⟨rfl, ?_⟩⟩
  · refine d1.mono fun y o hy => ?_
    obtain ⟨h1, h2⟩ := sub_of hy
    refine sub_mk (x2 y o h1) fun z => ?_
    rcases List.mem_cons.mp z with z | z
    · rw [z, nx] at h1
      cases h1
    · exact h2 z
  · have x4 : Ex H1 H3 := fun y o hy => by
      have ya : y ≠ x := ne_of_none hy nx
      exact e3.at (x2 y o hy) fun z => ya (List.mem_singleton.mp z)
    exact q (.ref x) H3 (e1.trans x4) (.ob (sub_mk h3 nxO) (DqF.mono (fun y o hy => by
      obtain ⟨h1, h2⟩ := sub_of hy
      exact sub_mk h1 fun z => h2 (List.mem_cons_of_mem _ z)) k3))
end
end DL
/-! DM: one list of a def's own, in slot m, that it changes (found = []; found.append(x); found[i] = x); scalars in it. -/
namespace DL
open PySem L2 Evl PyProof.Rows TL RZ
/-- a scalar -/
def isFlat : PyData → Bool
  | .none | .bool _ | .int _ | .str _ => true
  | _ => false
theorem flat_dq {H H' : Hp} {v : V} {d : PyData} (h : Dq H v d) (f : isFlat d = true) : Dq H' v d := by
  cases h with
  | non => exact .non
  | bl b => exact .bl b
  | int i => exact .int i
  | str x => exact .str x
  | lst a k => cases f
  | tup a k => cases f
  | ob a k => cases f
  | dic a k => cases f
  | exo a b k => cases f
  | exn a => cases f
theorem flat_all {H H' : Hp} : ∀ {vs : List V} {ds : List PyData}, DqAll H vs ds → ds.all isFlat = true → DqAll H' vs ds
  | _, _, .nil, _ => .nil
  | _, _, .cons h k, f => .cons (flat_dq h (Bool.and_eq_true_iff.mp f).1) (flat_all k (Bool.and_eq_true_iff.mp f).2)
theorem DqAll.setAt {H : Hp} {v : V} {d : PyData} : ∀ {ws : List V} {es : List PyData}, DqAll H ws es → Dq H v d → ∀ l : Nat, DqAll H (ws.set l v) (es.set l d)
  | _, _, .nil, _, _ => .nil
  | _, _, .cons _ r, h, 0 => .cons h r
  | _, _, .cons a r, h, l + 1 => .cons a (r.setAt h l)
/-- the slots with one list of the def's own at L, told apart -/
structure SDL (O : List Addr) (m : Nat) (ds : List PyData) (H : Hp) (σ : L2.St) (ρ : Rho) (L : Addr) : Prop where
  sd : SD (L :: O) H σ ρ
  slot : σ[m]? = some (some (.ref L))
  at_ : ∃ xs, H L = some (.lst xs) ∧ DqAll (sub H O) xs ds
  flat : ds.all isFlat = true
  nL : L ∉ O
  free : ρ[m]? = some none
theorem SDL.view {O : List Addr} {m : Nat} {ds : List PyData} {H : Hp} {σ : L2.St} {ρ : Rho} {L : Addr} (s : SDL O m ds H σ ρ L) : SD O H σ (ρ.set m (some (.list ds))) := by
  have own : ∀ a, a ∈ O → H a ≠ none := fun a ha => s.sd.own a (List.mem_cons_of_mem _ ha)
  refine ⟨own, fun i d e => ?_⟩
  by_cases z : m = i
  · subst z
    have hb := (List.getElem?_eq_some_iff.mp s.free).1
    rw [List.getElem?_set_self hb] at e
    cases e
    obtain ⟨xs, h1, h2⟩ := s.at_
    exact ⟨_, s.slot, .lst (sub_mk h1 s.nL) h2⟩
  · rw [List.getElem?_set_ne z] at e
    obtain ⟨v, h1, h2⟩ := s.sd.at' i d e
    exact ⟨v, h1, h2.mono ex_less⟩
/-- all but L stands -/
theorem SDL.step {O : List Addr} {m : Nat} {ds : List PyData} {H H' : Hp} {σ : L2.St} {ρ : Rho} {L : Addr} (s : SDL O m ds H σ ρ L) (e : Ex H H') : SDL O m ds H' σ ρ L where
  sd := s.sd.ex e
  slot := s.slot
  at_ := by
    obtain ⟨xs, h1, h2⟩ := s.at_
    exact ⟨xs, e L _ h1, flat_all h2 s.flat⟩
  flat := s.flat
  nL := s.nL
  free := s.free
theorem SDL.put {O : List Addr} {m i : Nat} {ds : List PyData} {H : Hp} {σ : L2.St} {ρ : Rho} {L : Addr} {v : V} {d : PyData} (s : SDL O m ds H σ ρ L) (h : Dq (sub H (L :: O)) v d) (hi : i < σ.length) (hm : i ≠ m) : SDL O m ds H (σ.set i (some v)) (ρ.set i (some d)) L where
  sd := s.sd.set h hi
  slot := by
    rw [List.getElem?_set_ne hm]
    exact s.slot
  at_ := s.at_
  flat := s.flat
  nL := s.nL
  free := by
    rw [List.getElem?_set_ne hm]
    exact s.free
/-- the list gets other contents -/
theorem SDL.other {O : List Addr} {m : Nat} {ds es : List PyData} {H : Hp} {σ : L2.St} {ρ : Rho} {L : Addr} {xs : List V} (s : SDL O m ds H σ ρ L) (h : DqAll (sub H O) xs es) (f : es.all isFlat = true) : SDL O m es (upd H L (.lst xs)) σ ρ L where
  sd := s.sd.mono (ExO.upd (List.mem_cons_self ..)) fun a ha z => by
    by_cases c : a = L
    · rw [c, upd_same] at z
      cases z
    · rw [upd_ne c] at z
      exact s.sd.own a ha z
  slot := s.slot
  at_ := ⟨xs, upd_same, flat_all h f⟩
  flat := f
  nL := s.nL
  free := s.free
section
variable (O : List Addr)
/-- a statement that goes on: slots and list behind it -/
def RunL (n m : Nat) (t : TS) (ρ : Rho) (ds : List PyData) (ρ' : Rho) (ds' : List PyData) : Prop := ∀ (L : Addr) (D : Ends) (σ : L2.St) (H : Hp), σ.length = n → SDL O m ds H σ ρ L →
  (∀ σ' H', σ'.length = n → ExO [L] H H' → SDL O m ds' H' σ' ρ' L → D.nx σ' H') → t D σ H
/-- .. that returns -/
def RunLR (n m : Nat) (t : TS) (ρ : Rho) (ds : List PyData) (d : PyData) : Prop := ∀ (L : Addr) (D : Ends) (σ : L2.St) (H : Hp), σ.length = n → SDL O m ds H σ ρ L →
  (∀ v H', ExO [L] H H' → Dq (sub H' O) v d → D.rt v H') → t D σ H
end
section
variable {O : List Addr} {n m i : Nat} {ρ ρ1 ρ' : Rho} {ds es ds' : List PyData} {d x : PyData} {te ti : TE} {tt : TT} {t u : TS} {K : PySem.W.Frag} {g : TG} {wi : TI} {vs : List Nat} {tb : TS}
/-- slots with the list as a datum -/
abbrev vw (ρ : Rho) (m : Nat) (ds : List PyData) : Rho := ρ.set m (some (.list ds))
theorem rl_asg (h : EvD O n te (vw ρ m ds) d) (f : isFlat d = true) (hi : i < n) (hm : i ≠ m) : RunL O n m (tAsg te (gName i)) ρ ds (ρ.set i (some d)) ds := fun L D σ H hn s k =>
  h σ H hn s.view _ fun v H1 e1 d1 => k _ H1 (by rw [List.length_set]; exact hn) (Ex.o [L] e1) ((s.step e1).put (flat_dq d1 f) (by rw [hn]; exact hi) hm)
theorem rl_seq (h1 : RunL O n m t ρ ds ρ1 es) (h2 : RunL O n m u ρ1 es ρ' ds') : RunL O n m (tSeq t u) ρ ds ρ' ds' := fun L D σ H hn s k =>
  h1 L _ σ H hn s fun σ1 H1 hn1 e1 s1 => h2 L D σ1 H1 hn1 s1 fun σ2 H2 hn2 e2 s2 => k σ2 H2 hn2 (e1.trans e2) s2
theorem rl_seqR (h1 : RunL O n m t ρ ds ρ1 es) (h2 : RunLR O n m u ρ1 es d) : RunLR O n m (tSeq t u) ρ ds d := fun L D σ H hn s k =>
  h1 L _ σ H hn s fun σ1 H1 hn1 e1 s1 => h2 L D σ1 H1 hn1 s1 fun v H2 e2 d2 => k v H2 (e1.trans e2) d2
theorem rl_next : RunL O n m tNext ρ ds ρ ds := fun L D σ H hn s k => k σ H hn (ExO.refl _ H) s
theorem rl_if {b : Bool} (h : EvDT O n tt (vw ρ m ds) b) (h1 : b = true → RunL O n m t ρ ds ρ' ds') (h2 : b = false → RunL O n m u ρ ds ρ' ds') : RunL O n m (tIfS tt t u) ρ ds ρ' ds' := fun L D σ H hn s k =>
  h σ H hn s.view _ fun H1 e1 => by
    cases b with
    | true => exact iteT (h1 rfl L D σ H1 hn (s.step e1) fun σ2 H2 hn2 e2 s2 => k σ2 H2 hn2 ((Ex.o [L] e1).trans e2) s2)
    | false => exact iteF (h2 rfl L D σ H1 hn (s.step e1) fun σ2 H2 hn2 e2 s2 => k σ2 H2 hn2 ((Ex.o [L] e1).trans e2) s2)
/-- from here the list is read only -/
theorem rl_read (h : RunR O n t (vw ρ m ds) d) : RunLR O n m t ρ ds d := fun L D σ H hn s k => h D σ H hn s.view fun v H1 e1 d1 => k v H1 (Ex.o [L] e1) d1
theorem ty_lst {H : Hp} {a : Addr} {xs : List V} (h : H a = some (.lst xs)) : tyV K "list" (.ref a) H := .inl ⟨rfl, _, sq_of h⟩
/-- found.append(e) -/
theorem rl_append (h : EvD O n te (vw ρ m ds) d) (f : isFlat d = true) (hl : ds.length ≤ 100000) : RunL O n m (tDrop (tBM K "list" rAppend (tVar m) (tCons te tNil))) ρ ds ρ (ds ++ [d]) := fun L D σ H hn s k => by
  obtain ⟨xs, hx, _⟩ := s.at_
  refine ⟨_, s.slot, ty_lst hx, h σ H hn s.view _ fun v H1 e1 d1 => ?_⟩
  have s1 := s.step e1
  obtain ⟨ys, hy, dy⟩ := s1.at_
  refine ⟨L, ys, v, rfl, rfl, hy, Nat.lt_of_le_of_lt (show ys.length ≤ 100000 by have q := dy.length; omega) (by decide), ?_⟩
  refine k σ _ hn ((Ex.o [L] e1).trans (ExO.upd (List.mem_singleton.mpr rfl))) (s1.other (dy.append (.cons d1 .nil)) ?_)
  rw [List.all_append, s.flat]
  simp [f]
/-- found[i] = e -/
theorem rl_set {j : Nat} (h : EvD O n te (vw ρ m ds) d) (h2 : EvD O n ti (vw ρ m ds) (.int (j : Int))) (f : isFlat d = true) (hj : j < ds.length) : RunL O n m (tAsg te (gSub (tVar m) ti rSetL)) ρ ds ρ (ds.set j d) := fun L D σ H hn s k =>
  h σ H hn s.view _ fun v H1 e1 d1 => by
    have s1 := s.step e1
    refine ⟨_, s.slot, h2 σ H1 hn s1.view _ fun w H2 e2 d2 => ?_⟩
    cases d2
    have s2 := s1.step e2
    obtain ⟨ys, hy, dy⟩ := s2.at_
    refine ⟨L, ys, (j : Int), j, rfl, rfl, hy, ixN_nat (by rw [dy.length]; exact hj), ?_⟩
    have all : DqAll (sub H2 O) (ys.set j v) (ds.set j d) := dy.setAt (flat_dq d1 f) j
    refine k σ _ hn (((Ex.o [L] e1).trans (Ex.o [L] e2)).trans (ExO.upd (List.mem_singleton.mpr rfl))) (s2.other all ?_)
    rw [List.all_eq_true]
    intro y hy2
    rcases List.mem_or_eq_of_mem_set hy2 with hy2 | rfl
    · exact List.all_eq_true.mp s.flat y hy2
    · exact f
/-- found = [..], new -/
theorem rl_new {ta : TA} (h : EvDA O n ta ρ es) (f : es.all isFlat = true) (hl : es.length ≤ 100000) (hm : m < n) (hr : m < ρ.length) (h2 : RunLR O n m u (ρ.set m none) es d) : RunR O n (tSeq (tAsg (tLst ta) (gName m)) u) ρ d := fun D σ H hn s k =>
  h σ H hn s _ fun xs H1 e1 d1 => by
    refine ⟨by rw [d1.length]; exact sz_of hl, fun L nL => ?_⟩
    have s1 := s.ex e1
    have nLO : L ∉ O := not_own s1.own nL
    have x2 : Ex H1 (upd H1 L (.lst xs)) := Ex.new nL
    refine h2 L D (σ.set m (some (.ref L))) _ (by rw [List.length_set]; exact hn) ⟨(s1.more x2 nL upd_same).forget, by rw [List.getElem?_set_self (by omega)], ⟨xs, upd_same, flat_all d1 f⟩, f, nLO, by rw [List.getElem?_set_self hr]⟩ fun v H3 e3 d3 => ?_
    refine k v H3 (e1.trans fun y o hy => ?_) d3
    have ne : y ≠ L := ne_of_none hy nL
    exact e3.at (x2 y o hy) fun z => ne (List.mem_singleton.mp z)
/-- a for over what isn't the list -/
theorem rl_for (hw : ∀ O', IterD O' n wi ρ es) (R : Nat → Rho × List PyData) (h0 : R 0 = (ρ, ds)) (hs : ∀ (P : List Addr) i d, es[i]? = some d → ∃ ρ', TgD P n vs g (R i).1 d ρ' ∧ m ∉ vs ∧ ρ'[m]? = some none ∧ RunL O n m tb ρ' (R i).2 (R (i + 1)).1 (R (i + 1)).2) :
    RunL O n m (tFor wi g tb) ρ ds (R es.length).1 (R es.length).2 := fun L D σ H hn s k => hw (L :: O) σ H hn s.sd _ fun J H1 G Y e1 W g1 gk yk => by
  have s1 := s.step e1
  refine for_it (W (L :: O)) (fun i σ2 H2 => σ2.length = n ∧ ExO [L] H1 H2 ∧ SDL O m (R i).2 H2 σ2 (R i).1 L) ⟨hn, ExO.refl _ _, by rw [h0]; exact s1⟩ (fun i σ2 H2 _ p => gk _ _ _ _ g1 (p.2.1.less fun a ha => by rw [List.mem_singleton.mp ha]; exact List.mem_cons_self)) ?_ ?_
  · rintro i x σ2 H2 H3 hi ⟨l2, x2, s2⟩ y
    obtain ⟨e3, d, hdi, hx⟩ := yk (L :: O) i H2 x H3 hi s2.sd.own (gk _ _ _ _ g1 (x2.less fun a ha => by rw [List.mem_singleton.mp ha]; exact List.mem_cons_self)) y
    obtain ⟨ρ', ht, hmv, hfree, hb⟩ := hs (L :: O) i d hdi
    have s3 := s2.step e3
    refine ht σ2 H3 x l2 s3.sd hx _ fun σ' hl' hout s' => ?_
    refine hb L _ σ' H3 hl' ⟨s', by rw [hout m hmv]; exact s3.slot, s3.at_, s3.flat, s3.nL, hfree⟩ fun σ4 H4 hl4 e4 s4 => ⟨hl4, (x2.trans (Ex.o [L] e3)).trans e4, s4⟩
  · rintro σ2 H2 ⟨l2, x2, s2⟩
    exact k σ2 H2 l2 ((Ex.o [L] e1).trans x2) s2
/-- a while of k turns -/
theorem rl_while {k : Nat} (R : Nat → Rho × List PyData) (h0 : R 0 = (ρ, ds)) (ht : ∀ i, i ≤ k → EvDT O n tt (vw (R i).1 m (R i).2) (decide (i < k))) (hs : ∀ i, i < k → RunL O n m tb (R i).1 (R i).2 (R (i + 1)).1 (R (i + 1)).2) :
    RunL O n m (tWhile tt tb) ρ ds (R k).1 (R k).2 := fun L D σ H hn s kk => by
  refine ⟨fun w σ2 H2 => ∃ i, w = k - i ∧ i ≤ k ∧ σ2.length = n ∧ ExO [L] H H2 ∧ SDL O m (R i).2 H2 σ2 (R i).1 L, ⟨k, 0, rfl, Nat.zero_le _, hn, ExO.refl _ _, by rw [h0]; exact s⟩, ?_⟩
  rintro w σ2 H2 ⟨i, rfl, hi, l2, x2, s2⟩
  refine ht i hi σ2 H2 l2 s2.view _ fun H3 e3 => ?_
  by_cases c : i < k
  · rw [decide_eq_true c]
    refine iteT ⟨fun σ' H' => ∃ i', i' = i + 1 ∧ σ'.length = n ∧ ExO [L] H H' ∧ SDL O m (R i').2 H' σ' (R i').1 L, ?_, ?_⟩
    · rintro σ' H' ⟨i', rfl, l', x', s'⟩
      exact ⟨k - (i + 1), by omega, i + 1, rfl, by omega, l', x', s'⟩
    · exact hs i c L _ σ2 H3 l2 (s2.step e3) fun σ4 H4 l4 e4 s4 => ⟨i + 1, rfl, l4, (x2.trans (Ex.o [L] e3)).trans e4, s4⟩
  · rw [decide_eq_false c]
    have e : i = k := by omega
    subst e
    exact iteF (kk σ2 H3 l2 (x2.trans (Ex.o [L] e3)) (s2.step e3))
end
end DL
namespace DL
open PySem L2 Evl PyProof.Rows TL RZ
section
variable {O : List Addr} {n m i : Nat} {ρ ρ1 ρ' : Rho} {ds es ds' : List PyData} {d x : PyData} {te ti : TE} {tt : TT} {t u : TS} {K : PySem.W.Frag} {g : TG} {wi : TI} {vs : List Nat} {tb : TS}
/-- a store of what does not read the def's own list: any datum -/
theorem rl_asgO (h : ∀ O', EvD O' n te ρ d) (hi : i < n) (hm : i ≠ m) : RunL O n m (tAsg te (gName i)) ρ ds (ρ.set i (some d)) ds := fun L D σ H hn s k =>
  h (L :: O) σ H hn s.sd _ fun v H1 e1 d1 => k _ H1 (by rw [List.length_set]; exact hn) (Ex.o [L] e1) ((s.step e1).put d1 (by rw [hn]; exact hi) hm)
/-- a for that the k-th turn leaves with a return -/
theorem rr_for {k : Nat} (hw : IterD O n wi ρ ds) (R : Nat → Rho) (h0 : R 0 = ρ) (hk : k < ds.length) (hs : ∀ i d, i < k → ds[i]? = some d → ∃ ρ', TgD O n vs g (R i) d ρ' ∧ RunN O n tb ρ' (R (i + 1)))
    (hx : ∀ e, ds[k]? = some e → ∃ ρ', TgD O n vs g (R k) e ρ' ∧ RunR O n tb ρ' d) : RunR O n (tFor wi g tb) ρ d := fun D σ H hn s q => hw σ H hn s _ fun J H1 G Y e1 W g1 gk yk => by
  refine for_it (W O) (fun i σ2 H2 => i ≤ k ∧ σ2.length = n ∧ Ex H1 H2 ∧ SD O H2 σ2 (R i)) ⟨Nat.zero_le _, hn, Ex.refl H1, by rw [h0]; exact s.ex e1⟩ (fun i σ2 H2 _ p => gk _ _ _ _ g1 (Ex.o O p.2.2.1)) ?_ ?_
  · rintro i x σ2 H2 H3 hi ⟨ik, l2, x2, s2⟩ y
    obtain ⟨e3, e, hdi, hx3⟩ := yk O i H2 x H3 hi s2.own (gk _ _ _ _ g1 (Ex.o O x2)) y
    by_cases c : i = k
    · subst c
      obtain ⟨ρ', ht, hb⟩ := hx e hdi
      refine ht σ2 H3 x l2 (s2.ex e3) hx3 _ fun σ' hl' _ s' => ?_
      exact hb _ σ' H3 hl' s' fun v H4 e4 d4 => q v H4 (((e1.trans x2).trans e3).trans e4) d4
    · obtain ⟨ρ', ht, hb⟩ := hs i e (by omega) hdi
      refine ht σ2 H3 x l2 (s2.ex e3) hx3 _ fun σ' hl' _ s' => ?_
      exact hb _ σ' H3 hl' s' fun σ4 H4 hl4 e4 s4 => ⟨by omega, hl4, (x2.trans e3).trans e4, s4⟩
  · rintro σ2 H2 ⟨ik, l2, x2, s2⟩
    exact absurd hk (by omega)
theorem atI_last {α : Type} {xs : List α} (h : xs ≠ []) : atI xs (-1) = xs[xs.length - 1]? := by
  unfold atI ixN
  have p := List.length_pos_iff.mpr h
  rw [if_neg (by decide), if_pos (by omega)]
  show xs[((-1 : Int) + (xs.length : Int)).toNat]? = _
  congr 1
  omega
/-- xs[-1] -/
theorem rd_ixL_last (h : ds ≠ []) (hd : ds[ds.length - 1]? = some d) : RD O (rIxL K) (.list ds) (.int (-1)) d := fun H v w _ h1 h2 Q q => by
  cases h1 with
  | lst a k =>
    cases h2
    obtain ⟨u, hu, du⟩ := k.get hd
    refine ⟨_, _, _, u, rfl, rfl, sq_of (sub_of a).1, ?_, q u H (Ex.refl H) du⟩
    rw [atI_last (fun z => by subst z; cases k; exact h rfl), k.length]
    exact hu
theorem rd_ixT_last (h : ds ≠ []) (hd : ds[ds.length - 1]? = some d) : RD O (rIxT K) (.tuple ds) (.int (-1)) d := fun H v w _ h1 h2 Q q => by
  cases h1 with
  | tup a k =>
    cases h2
    obtain ⟨u, hu, du⟩ := k.get hd
    refine ⟨_, _, _, u, rfl, rfl, st_of (sub_of a).1, ?_, q u H (Ex.refl H) du⟩
    rw [atI_last (fun z => by subst z; cases k; exact h rfl), k.length]
    exact hu
end
end DL
/-! DE: enumerate over a tuple. -/
namespace DL
open PySem PySem.Spec PyProof.Rows PySem.Calls
/-- the new cells of enumerate(v) -/
def enumObj (it : Addr) (k : Int) : Obj := { cls := .type "enumerate", data := .fields #[.none, .bool false, .ref it, rawInt k, .none, .none] }
theorem meets_enum1 {v : Value} {o : Obj} {H : Heap → Prop} (B : Begins v o H) :
    Meets (Builtin.«enumerate.__new__» ⟨[.type "enumerate", v], []⟩) (fun _ R s => H s.heap ∧
      R (.ok (.ret (.ref (s.heap.push o).objs.size))) { s with heap := (s.heap.push o).push (enumObj s.heap.objs.size 0) }) :=
  .of_wp fun prog w A R s h => by
    obtain ⟨hp, g, d, tk, os⟩ := s
    obtain ⟨h1, h⟩ := h
    have sube := sub_enumerate
    have it1 : ∀ {A' : Around} {E : Value → Shared → Prop} {Q : Value → Shared → Prop}, Q (.ref hp.objs.size) ⟨hp.push o, g, d, tk, os⟩ → wpAny (model prog w) A' (pyIter v) Q E ⟨hp, g, d, tk, os⟩ := by
      intro A' E Q q
      exact B.iter prog w _ _ ⟨hp, g, d, tk, os⟩ _ h1 q
    wp_walk using it1
    refine wpAny_stack_any fun st => wpAny_pure ?_
    split
    · rename_i c _ _ _ _ _
      cases (c == Value.type "enumerate") <;> (wp_walk using it1; exact ⟨_, rfl, h⟩)
    · wp_walk using it1
      exact ⟨_, rfl, h⟩
section
variable {prog : Program} {w : World} {A : Around} {E : Value → Shared → Prop} {s : Shared}
theorem enum_begins1 {v : Value} {o : Obj} {H : Heap → Prop} {Q : Value → Shared → Prop} (B : Begins v o H) (h1 : H s.heap)
    (h : ∀ h', IsEnum h' (s.heap.objs.size + 1) s.heap.objs.size 0 .none → h'.get? s.heap.objs.size = some o →
      (∀ b o, s.heap.get? b = some o → h'.get? b = some o) → Q (.ref (s.heap.objs.size + 1)) { s with heap := h' }) :
    wpAny (model prog w) A (call (.type "enumerate") [v]) Q E s := by
  refine callType_new F.called_enumerate (by decide) (F.typeCall_enumerate_1 _) (F.newCall_enumerate_1 _) (fun obj => F.args_object_init_2 obj _)
    F.entry_enumerate_new (meets_enum1 B) ⟨h1, ?_⟩
  have hz : (s.heap.push o).objs.size = s.heap.objs.size + 1 := Heap.size_push ..
  show _ ∧ _
  rw [hz]
  have he : IsEnum ((s.heap.push o).push (enumObj s.heap.objs.size 0)) (s.heap.objs.size + 1) s.heap.objs.size 0 .none := by
    have q := Heap.get?_push_size (s.heap.push o) (o := enumObj s.heap.objs.size 0) rfl
    rw [hz] at q
    exact q
  exact ⟨⟨_, he, rfl⟩, h _ he (Heap.get?_push_of_some _ (Heap.get?_push_size _ B.free)) fun b o x => Heap.get?_push_of_some _ (Heap.get?_push_of_some _ x)⟩
end
end DL
namespace DL
open PySem PySem.Spec PyProof.Rows PySem.Calls L2
/-- the tuple at a, each item in a new pair with its place -/
def IteT (K : PySem.W.Frag) (a : Addr) : It where
  go := fun i H => ∃ (xs : List V) (x : V), SqT K H a xs ∧ xs[i]? = some x
  yld := fun i H v H' => ∃ T x, v = .ref T ∧ H T = none ∧ H' = upd H T (.tup [.int (i : Nat), x]) ∧ ∀ xs, SqT K H a xs → xs[i]? = some x
  stop := fun i H => ∃ xs : List V, SqT K H a xs ∧ xs.length = i
theorem turn_enumT {P : Program} {w : World} {K : PySem.W.Frag} {elts : List Expr} {kk : Nat} {tpos : Pos} (a e it : Addr) :
    Turn P w K (.Tuple elts kk tpos) (IteT K a) [e, it] e (fun i h => (∃ old, IsEnum h e it ((i : Nat) : Int) old) ∧ h.IsTupleIter it a i ∧ e ≠ it) where
  mem := List.mem_cons_self
  obj := fun i h st b hb => by
    obtain ⟨⟨old, he⟩, ⟨o, ho, hc, hd⟩, _⟩ := st
    rcases List.mem_cons.mp hb with rfl | hb
    · exact ⟨_, he, fun v q => nomatch q⟩
    · rw [List.mem_singleton.mp hb]
      refine ⟨o, ho, fun v q => ?_⟩
      rw [hd] at q
      cases q
  keep := fun i h h' st k => by
    obtain ⟨⟨old, he⟩, hi, hne⟩ := st
    exact ⟨⟨old, k e (by simp) _ he⟩, hi.at fun o q => k it (by simp) o q, hne⟩
  item := by
    intro X hP hw hK hc i pins s σ H E I hf st hg
    subst hP hw hK
    obtain ⟨⟨old, he⟩, hit, hne⟩ := st
    obtain ⟨xs, x, hq, hx⟩ := hg
    obtain ⟨its, rv, p, hz⟩ := I.tuple hq
    obtain ⟨u, hu, ru⟩ := rv.get hx
    have hel : e < s.heap.objs.size := Heap.lt_size he
    have hil : it < s.heap.objs.size := by
      obtain ⟨_, q, _⟩ := hit
      exact Heap.lt_size q
    have pT : s.heap.IsTuple a its.toArray := p
    have ea : e ≠ a := fun z => by
      obtain ⟨o, ho, hcl, _⟩ := pT
      have he2 : s.heap.get? e = some _ := he
      rw [← z, he2] at ho
      have ho := Option.some.inj ho
      subst ho
      have q : Value.type "enumerate" = Value.type "tuple" := hcl
      exact absurd (Value.type.inj q) (by decide)
    have ai : a ≠ it := fun z => by
      obtain ⟨o, ho, hcl, _⟩ := pT
      obtain ⟨o', ho', hcl', _⟩ := hit
      rw [z, ho'] at ho
      cases ho
      rw [hcl'] at hcl
      exact absurd (Value.type.inj hcl) (by decide)
    have D := Draws.tuple (prog := X.prog) (w := X.w) (A := X.A.in1) (I.ok.hd hc) it a ai its.toArray
    have hlt : i < its.toArray.size := by
      have q := (List.getElem?_eq_some_iff.mp hu).1
      simpa using q
    refine wpAny_pyNext_enum_itemD D he ⟨hit, pT⟩ hlt hne (by simp [hne, ea]) fun x' h' tk hx' ho hst' hT hsz hk => ?_
    have ex : x' = u := by
      have q : its.toArray[i]? = some u := by simpa using hu
      rw [q] at hx'
      exact (Option.some.inj hx').symm
    subst ex
    refine ⟨_, rfl, wpAny_letOwnedTupleGo_enum (s := { s with heap := h', toks := tk + 1 }) ho fun h'' he' sb => ?_⟩
    have hT2 : h''.get? s.heap.objs.size = some { cls := .type "tuple", data := .seq #[.int i tk, x'] } := (sb.2 _ (Nat.ne_of_gt hel)).trans hT
    have new : ObjOk X.prog X.w (upd H s.heap.objs.size (.tup [.int (i : Nat), x])) h'' s.heap.objs.size (.tup [.int (i : Nat), x]) := by
      refine ⟨by show 2 ≤ sizeLine; decide, [.int i tk, x'], .cons ⟨_, rfl⟩ (.cons ru .nil), ?_⟩
      exact ⟨_, hT2, rfl, _, rfl⟩
    have keep : ∀ b ob, b ∉ [e, it] → s.heap.get? b = some ob → h''.get? b = some ob := fun b ob hb q =>
      (sb.2 b fun z => hb (by simp [z])).trans (hk b ob (fun z => hb (by simp [z])) (fun z => hb (by simp [z])) q)
    have I1 : Inv X pins σ (upd H s.heap.objs.size (.tup [.int (i : Nat), x])) { s with heap := h'', toks := tk + 1 } :=
      I.turnedNew (ch := [e, it]) keep hf (Nat.le_refl _) new
    refine ⟨.ref s.heap.objs.size, _, I1, rfl, ⟨_, x, rfl, I.hok.fresh (Nat.le_refl _), rfl, fun ys hy => ?_⟩, ⟨⟨x', ?_⟩, hst'.1.at fun o q => (sb.2 it (Ne.symm hne)).trans q, hne⟩, fun b hb => ?_⟩
    · rw [I.tuple_inj hy hq]
      exact hx
    · have e1 : ((i + 1 : Nat) : Int) = (i : Int) + 1 := by omega
      rw [e1]
      exact he'
    · have hb' : b < s.heap.objs.size := by
        rcases List.mem_cons.mp hb with rfl | hb
        · exact hel
        · rw [List.mem_singleton.mp hb]
          exact hil
      rw [upd_ne (Nat.ne_of_lt hb')]
      exact (hf b hb).1
  done := by
    intro X hP hw hK hc i pins s σ H E I hf st hg
    subst hP hw hK
    obtain ⟨⟨old, he⟩, hit, hne⟩ := st
    obtain ⟨xs, hq, hx⟩ := hg
    obtain ⟨its, rv, p, hz⟩ := I.tuple hq
    have pT : s.heap.IsTuple a its.toArray := p
    have ai : a ≠ it := fun z => by
      obtain ⟨o, ho, hcl, _⟩ := pT
      obtain ⟨o', ho', hcl', _⟩ := hit
      rw [z, ho'] at ho
      cases ho
      rw [hcl'] at hcl
      exact absurd (Value.type.inj hcl) (by decide)
    have hl := rv.length
    have D := Draws.tuple (prog := X.prog) (w := X.w) (A := X.A.in1) (I.ok.hd hc) it a ai its.toArray
    obtain ⟨f0, f1, f2, f3, f4, f5⟩ := hf it (by simp)
    have hn : its.toArray.size = i := by
      rw [List.size_toArray]
      omega
    refine wpAny_pyNext_enum_endD D he (by rw [hn]; exact ⟨hit, pT⟩) fun h' eb => ⟨rfl, ?_⟩
    exact I.turned (t' := s.toks) (fun b o hb q => eb b o hb q) f0 f1 f3 f4 f5
  self := fun A i s Q E st h => by
    obtain ⟨⟨_, he⟩, _⟩ := st
    exact wpAny_pyIter_enum he h
def iEnumT (K : PySem.W.Frag) (ta : TA) : TI := fun σ H R => ta σ H fun vs H1 => ∃ a xs, vs = [.ref a] ∧ SqT K H1 a xs ∧ R (IteT K a) H1
theorem pi_enumT {X : Cx} {e : Expr} {ta : TA} {p pos tpos : Pos} {elts : List Expr} {kk : Nat} (hg : Gl X "enumerate") (hm : X.mg "enumerate" = none) (ha : PA X [e] ta)
    (hs : starEach [e] X.env = [(false, eval e X.env)] := by rfl) : PI X (.Tuple elts kk tpos) (.Call (.Name "enumerate" p) [e] [] pos) (iEnumT X.K ta) := by
  refine ⟨fun pins s σ H R I h => Call_ (ld_blt I hg hm boot_enumerate (callWith_type1 (thn (ha.run pos pins s σ H _ I h) fun us s1 hh => ?_) hs rfl))⟩
  obtain ⟨vs, H1, I1, r1, a, xs, ex, hq, q⟩ := hh
  subst ex
  cases r1 with
  | cons r rr =>
    cases rr
    cases r
    obtain ⟨its, rv, p', hz⟩ := I1.tuple hq
    have pT : s1.heap.IsTuple a its.toArray := p'
    refine enum_begins1 (begins_tuple a its.toArray) pT fun h' he hit hk => wpAny_pyIter_enum he ?_
    have I2 : Inv X pins σ H1 { s1 with heap := h' } := I1.kept (t' := s1.toks) hk
    have hti : h'.IsTupleIter s1.heap.objs.size a 0 := ⟨_, hit, rfl, rfl⟩
    refine ⟨s1.heap.objs.size + 1, [s1.heap.objs.size + 1, s1.heap.objs.size], _, _, H1, rfl, I2, turn_enumT a (s1.heap.objs.size + 1) s1.heap.objs.size, ⟨⟨.none, he⟩, hti, Nat.succ_ne_self _⟩, fun b hb => ?_, q⟩
    have hle : s1.heap.objs.size ≤ b := by
      rcases List.mem_cons.mp hb with rfl | hb
      · exact Nat.le_add_right _ _
      · rw [List.mem_singleton.mp hb]
        exact Nat.le_refl _
    exact I1.fpOk hle (I1.hok.fresh hle)
theorem kiEnumT {X : Cx} {K : PySem.W.Frag} {e : Expr} {ta : TA} {p pos tpos : Pos} {elts : List Expr} {kk : Nat} (hK : X.K = K) (hg : Gl X "enumerate") (hm : X.mg "enumerate" = none) (ha : PA X [e] ta)
    (hs : starEach [e] X.env = [(false, eval e X.env)] := by rfl) : PI X (.Tuple elts kk tpos) (.Call (.Name "enumerate" p) [e] [] pos) (iEnumT K ta) := by
  subst hK
  exact pi_enumT hg hm ha hs
/-- walked: the tuple's items with their places -/
theorem it_enumT {O : List Addr} {n : Nat} {ρ : Rho} {te : TE} {ds : List PyData} {K : PySem.W.Frag} (h : EvD O n te ρ (.tuple ds)) : IterD O n (iEnumT K (tCons te tNil)) ρ (enumD ds) := fun σ H hn s R q => h σ H hn s _ fun v H1 e1 d1 => by
  cases d1 with
  | @tup a xs _ ha k =>
    have l : (enumD ds).length = ds.length := by
      unfold enumD
      rw [List.length_zipWith, List.length_range, Nat.min_self]
    refine ⟨a, xs, rfl, Evl.st_of (sub_of ha).1, ?_⟩
    refine q (IteT K a) H1 (fun P H2 => sub H2 P a = some (.tup xs) ∧ DqAll (sub H2 P) xs ds) (fun i H v H' => ∃ T x, v = .ref T ∧ H T = none ∧ H' = upd H T (.tup [.int (i : Nat), x]) ∧ xs[i]? = some x) e1 (fun P => ?_) ⟨ha, k⟩ (fun P P' H2 H3 g e => ⟨e _ _ g.1, g.2.mono e⟩) ?_
    · rw [l, ← k.length]
      refine ⟨fun i H2 hi g => ?_, fun H2 g => ⟨xs, Evl.st_of (sub_of g.1).1, rfl⟩, fun i H2 x H3 hi g y => ?_⟩
      · exact ⟨xs, xs[i], Evl.st_of (sub_of g.1).1, List.getElem?_eq_getElem hi⟩
      · obtain ⟨T, z, hv, hT, hH, hz⟩ := y
        exact ⟨T, z, hv, hT, hH, hz xs (Evl.st_of (sub_of g.1).1)⟩
    · rintro P i H2 x H3 hi ho ⟨g1, g2⟩ ⟨T, z, rfl, hT, hH, hz⟩
      obtain ⟨d, h1, h2⟩ := g2.getV hz
      obtain ⟨a1, a2⟩ := pair_new ho hT hH (.int (i : Int)) h2
      refine ⟨a1, _, ?_, a2⟩
      unfold enumD
      rw [List.getElem?_zipWith, List.getElem?_range (by rw [← l]; exact hi), h1]
end DL
namespace DL
open PySem L2 PyProof.Rows TL RZ
section
variable {X : Cx} {K : PySem.W.Frag}
theorem kMin (hK : X.K = K) (hc : X.calm = true) : CallR X (.builtin "min") (rMin K) := by subst hK; exact cr_min hc
theorem kMax (hK : X.K = K) (hc : X.calm = true) : CallR X (.builtin "max") (rMax K) := by subst hK; exact cr_max hc
theorem kIndex (hK : X.K = K) : MtR X "list.index" (rIndex K) := by subst hK; exact mt_index
end
section
variable {O : List Addr} {n : Nat} {ρ : Rho} {K : PySem.W.Frag} {te ta : TE}
theorem rc_min {ns : List Int} {m : Int} (hm : m ∈ ns) (h : ∀ y, y ∈ ns → m ≤ y) : RDC O (rMin K) [.list (dI ns)] (.int m) := fun H vs _ hv Q q => by
  cases hv with
  | cons a r =>
    cases r
    cases a with
    | lst ha k =>
      have e := ints_dq k
      subst e
      refine ⟨_, ns, rfl, Evl.sq_of (sub_of ha).1, List.length_pos_of_mem hm, fun m2 h2 h3 => ?_⟩
      have e : m2 = m := by
        have q1 := h3 m hm
        have q2 := h m2 h2
        omega
      rw [e]
      exact q _ H (Evl.Ex.refl H) (.int m)
theorem rc_max {ns : List Int} {m : Int} (hm : m ∈ ns) (h : ∀ y, y ∈ ns → y ≤ m) : RDC O (rMax K) [.list (dI ns)] (.int m) := fun H vs _ hv Q q => by
  cases hv with
  | cons a r =>
    cases r
    cases a with
    | lst ha k =>
      have e := ints_dq k
      subst e
      refine ⟨_, ns, rfl, Evl.sq_of (sub_of ha).1, List.length_pos_of_mem hm, fun m2 h2 h3 => ?_⟩
      have e : m2 = m := by
        have q1 := h3 m hm
        have q2 := h m2 h2
        omega
      rw [e]
      exact q _ H (Evl.Ex.refl H) (.int m)
/-- xs.index(y) of whole numbers, y among them -/
theorem ed_index {ns : List Int} {y : Int} {j : Nat} (h : EvD O n te ρ (.list (dI ns))) (h2 : EvD O n ta ρ (.int y)) (hj : ns[j]? = some y) (hf : ∀ m z, m < j → ns[m]? = some z → z ≠ y) :
    EvD O n (tBM K "list" (rIndex K) te (tCons ta tNil)) ρ (.int (j : Int)) := fun σ H hn s Q q => h σ H hn s _ fun v H1 e1 d1 => by
  cases d1 with
  | @lst a xs _ ha k =>
    have e := ints_dq k
    subst e
    refine ⟨.inl ⟨rfl, _, Evl.sq_of (sub_of ha).1⟩, h2 σ H1 hn (s.ex e1) _ fun w H2 e2 d2 => ?_⟩
    cases d2
    have hx := e2 _ _ (sub_of ha).1
    refine ⟨a, ns.map V.int, .int y, j, .int y, rfl, rfl, Evl.sq_of hx, rfl, ?_, ?_, ?_, fun m z' hm hz => ?_, q _ H2 (e1.trans e2) (.int (j : Int))⟩
    · rw [List.all_eq_true]
      intro z hz
      obtain ⟨i, _, rfl⟩ := List.mem_map.mp hz
      rfl
    · rw [List.getElem?_map, hj]
      rfl
    · simp [eqV]
    · rw [List.getElem?_map] at hz
      cases c : ns[m]? with
      | none =>
        rw [c] at hz
        cases hz
      | some z =>
        rw [c] at hz
        have e3 := (Option.some.inj hz).symm
        subst e3
        have ne := hf m z hm c
        simp [eqV, ne]
end
end DL
/-! DE3: tuples summed and cut, the last item of a def's own list set. -/
namespace DL
open PySem L2 PyProof.Rows TL RZ
theorem sum_rawT {prog : Program} {w : World} {A : Around} {E : Value → Shared → Prop} {s : Shared} {l : Addr} {its : List Value} {ns : List Int} {Q : Value → Shared → Prop} (hh : A.handled = none) (hl : s.heap.IsTuple l its.toArray) (hi : IntsAre its ns)
    (h : ∀ h' tk t', (∀ b o, s.heap.get? b = some o → h'.get? b = some o) → Q (.int ns.sum t') { s with heap := h', toks := tk }) :
    wpAny (model prog w) A (call (.builtin "sum") [.ref l]) Q E s := by
  obtain ⟨xs, e⟩ := hi.allInts.items
  have hn : numsOf (intItems xs).toList = ns := by
    rw [← e]
    exact hi.numsOf
  rw [nums_intItems] at hn
  rw [e] at hl
  refine PySem.W.ktm_sumG hh hl fun h' tk t' hk => ?_
  have q := h h' tk t' hk
  rw [preSum_eq, List.take_of_length_le (by simp), hn]
  exact q
def rSumT (K : PySem.W.Frag) : List V → Hp → VK → Prop := fun vs H Q => ∃ (a : Addr) (ns : List Int), vs = [V.ref a] ∧ SqT K H a (ns.map V.int) ∧ Q (.int ns.sum) H
theorem kSumT {X : Cx} {K : PySem.W.Frag} (hK : X.K = K) (hc : X.calm = true) : CallR X (.builtin "sum") (rSumT K) := by
  subst hK
  intro pins s σ H vs us Q I r h
  obtain ⟨a, ns, rfl, hs, q⟩ := h
  obtain ⟨its, rv, hl, _⟩ := I.tuple hs
  rw [Vals.ref1 r]
  have pT : s.heap.IsTuple a its.toArray := hl
  exact sum_rawT (I.ok.hd hc) pT rv.ints fun h' tk t' hk => ⟨.int _, H, I.kept hk, ⟨_, rfl⟩, q⟩
section
variable {O : List Addr} {n m : Nat} {ρ ρ' : Rho} {K : PySem.W.Frag} {te ti : TE} {ds : List PyData} {d : PyData} {tl th : TO} {lo hi : Option Int}
theorem rc_sumT {ns : List Int} : RDC O (rSumT K) [.tuple (dI ns)] (.int ns.sum) := fun H vs _ hv Q q => by
  cases hv with
  | cons a r =>
    cases r
    cases a with
    | tup ha k =>
      have e := ints_dq k
      subst e
      exact ⟨_, ns, rfl, Evl.st_of (sub_of ha).1, q _ H (Evl.Ex.refl H) (.int _)⟩
theorem rc_sumL {ns : List Int} : RDC O (rSum K) [.list (dI ns)] (.int ns.sum) := fun H vs _ hv Q q => by
  cases hv with
  | cons a r =>
    cases r
    cases a with
    | lst ha k =>
      have e := ints_dq k
      subst e
      exact ⟨_, ns, rfl, Evl.sq_of (sub_of ha).1, q _ H (Evl.Ex.refl H) (.int _)⟩
theorem cut_all {ds : List PyData} (h : HT.sIx ds.length 0 lo = 0 ∧ HT.sIx ds.length ds.length hi = ds.length) : DL.cutD ds lo hi = ds := by
  unfold DL.cutD
  rw [h.1, h.2, List.drop_zero, Nat.sub_zero, List.take_of_length_le (Nat.le_refl _)]
/-- a tuple cut -/
theorem ed_slA (h : EvD O n te ρ (.tuple ds)) (h1 : EvDO O n tl ρ lo) (h2 : EvDO O n th ρ hi) : EvD O n (tSl (rSlA K) te tl th) ρ (.tuple (DL.cutD ds lo hi)) := fun σ H hn s Q q => h σ H hn s _ fun v H1 e1 d1 =>
  h1 σ H1 hn (s.ex e1) _ fun H2 e2 => h2 σ H2 hn ((s.ex e1).ex e2) _ fun H3 e3 => by
    have d3 := (d1.mono (Ex.o O e2)).mono (Ex.o O e3)
    cases d3 with
    | tup a k =>
      refine ⟨_, _, rfl, Evl.st_of (sub_of a).1, fun hw => ?_, fun _ p hp => ?_⟩
      · rw [k.length] at hw
        exact q _ H3 ((e1.trans e2).trans e3) (by rw [cut_all hw]; exact .tup a k)
      · exact q _ _ (((e1.trans e2).trans e3).trans (Evl.Ex.new hp)) (.tup (sub_mk upd_same (not_own (own_ex ((e1.trans e2).trans e3) s.own) hp)) ((k.cut lo hi).mono (Ex.o O (Evl.Ex.new hp))))
/-- found[-1] = e -/
theorem rl_setLast (h : EvD O n te (vw ρ m ds) d) (h2 : EvD O n ti (vw ρ m ds) (.int (-1))) (f : isFlat d = true) (hj : ds ≠ []) : RunL O n m (tAsg te (gSub (tVar m) ti rSetL)) ρ ds ρ (ds.set (ds.length - 1) d) := fun L D σ H hn s k =>
  h σ H hn s.view _ fun v H1 e1 d1 => by
    have s1 := s.step e1
    refine ⟨_, s.slot, h2 σ H1 hn s1.view _ fun w H2 e2 d2 => ?_⟩
    cases d2
    have s2 := s1.step e2
    obtain ⟨ys, hy, dy⟩ := s2.at_
    have hl := List.length_pos_iff.mpr hj
    have ly := dy.length
    refine ⟨L, ys, -1, ds.length - 1, rfl, rfl, hy, ?_, ?_⟩
    · unfold ixN
      rw [if_neg (by decide), if_pos (by omega)]
      congr 1
      omega
    have all : DqAll (sub H2 O) (ys.set (ds.length - 1) v) (ds.set (ds.length - 1) d) := dy.setAt (flat_dq d1 f) _
    refine k σ _ hn (((Ex.o [L] e1).trans (Ex.o [L] e2)).trans (ExO.upd (List.mem_singleton.mpr rfl))) (s2.other all ?_)
    rw [List.all_eq_true]
    intro y hy2
    rcases List.mem_or_eq_of_mem_set hy2 with hy2 | rfl
    · exact List.all_eq_true.mp s.flat y hy2
    · exact f
end
end DL
/-! DV: statements that go on, with the slots told that they may change; a new object of an own class filled by its __init__. -/
namespace DL
open PySem L2 Evl PyProof.Rows TL RZ
section
variable (O : List Addr)
/-- goes on; only slots in vs change -/
def RunV (n : Nat) (vs : List Nat) (t : TS) (ρ ρ' : Rho) : Prop := ∀ (D : Ends) (σ : L2.St) (H : Hp), σ.length = n → SD O H σ ρ →
  (∀ σ' H', σ'.length = n → Ex H H' → (∀ i, i ∉ vs → σ'[i]? = σ[i]?) → SD O H' σ' ρ' → D.nx σ' H') → t D σ H
end
section
variable {O : List Addr} {n i : Nat} {ρ ρ1 ρ' : Rho} {ds : List PyData} {d : PyData} {te : TE} {tt : TT} {t u : TS} {K : PySem.W.Frag} {g : TG} {wi : TI} {vs ws : List Nat} {tb : TS}
theorem rv_asg (h : EvD O n te ρ d) (hi : i < n) : RunV O n [i] (tAsg te (gName i)) ρ (ρ.set i (some d)) := fun D σ H hn s k =>
  h σ H hn s _ fun v H1 e1 d1 => k _ H1 (by rw [List.length_set]; exact hn) e1 (fun j hj => by rw [List.getElem?_set_ne (fun z => hj (List.mem_singleton.mpr z.symm))]) ((s.ex e1).set d1 (by rw [hn]; exact hi))
theorem rv_seq (h1 : RunV O n vs t ρ ρ1) (h2 : RunV O n ws u ρ1 ρ') : RunV O n (vs ++ ws) (tSeq t u) ρ ρ' := fun D σ H hn s k =>
  h1 _ σ H hn s fun σ1 H1 hn1 e1 c1 s1 => h2 D σ1 H1 hn1 s1 fun σ2 H2 hn2 e2 c2 s2 => k σ2 H2 hn2 (e1.trans e2) (fun j hj => by
    rw [c2 j fun z => hj (List.mem_append_right _ z), c1 j fun z => hj (List.mem_append_left _ z)]) s2
theorem rv_next : RunV O n [] tNext ρ ρ := fun D σ H hn s k => k σ H hn (Ex.refl H) (fun _ _ => rfl) s
theorem rv_if {b : Bool} (h : EvDT O n tt ρ b) (h1 : b = true → RunV O n vs t ρ ρ') (h2 : b = false → RunV O n vs u ρ ρ') : RunV O n vs (tIfS tt t u) ρ ρ' := fun D σ H hn s k => h σ H hn s _ fun H1 e1 => by
  cases b with
  | true => exact iteT (h1 rfl D σ H1 hn (s.ex e1) fun σ2 H2 l2 e2 c2 s2 => k σ2 H2 l2 (e1.trans e2) c2 s2)
  | false => exact iteF (h2 rfl D σ H1 hn (s.ex e1) fun σ2 H2 l2 e2 c2 s2 => k σ2 H2 l2 (e1.trans e2) c2 s2)
theorem rv_more (h : RunV O n vs t ρ ρ') (k : ∀ i, i ∈ vs → i ∈ ws) : RunV O n ws t ρ ρ' := fun D σ H hn s q => h D σ H hn s fun σ2 H2 l2 e2 c2 s2 => q σ2 H2 l2 e2 (fun j hj => c2 j fun z => hj (k j z)) s2
/-- a for over data -/
theorem rv_for (hw : IterD O n wi ρ ds) (R : Nat → Rho) (h0 : R 0 = ρ) (hs : ∀ i d, ds[i]? = some d → ∃ ρ', TgD O n vs g (R i) d ρ' ∧ RunV O n vs tb ρ' (R (i + 1))) :
    RunV O n vs (tFor wi g tb) ρ (R ds.length) := fun D σ H hn s k => hw σ H hn s _ fun J H1 G Y e1 W g1 gk yk => by
  refine for_it (W O) (fun i σ2 H2 => σ2.length = n ∧ Ex H1 H2 ∧ (∀ j, j ∉ vs → σ2[j]? = σ[j]?) ∧ SD O H2 σ2 (R i)) ⟨hn, Ex.refl H1, fun _ _ => rfl, by rw [h0]; exact s.ex e1⟩ (fun i σ2 H2 _ p => gk _ _ _ _ g1 (Ex.o O p.2.1)) ?_ ?_
  · rintro i x σ2 H2 H3 hi ⟨l2, x2, c2, s2⟩ y
    obtain ⟨e3, d, hdi, hx⟩ := yk O i H2 x H3 hi s2.own (gk _ _ _ _ g1 (Ex.o O x2)) y
    obtain ⟨ρ', ht, hb⟩ := hs i d hdi
    refine ht σ2 H3 x l2 (s2.ex e3) hx _ fun σ' hl' hc' s' => ?_
    exact hb _ σ' H3 hl' s' fun σ4 H4 hl4 e4 c4 s4 => ⟨hl4, (x2.trans e3).trans e4, fun j hj => by rw [c4 j hj, hc' j hj, c2 j hj], s4⟩
  · rintro σ2 H2 ⟨l2, x2, c2, s2⟩
    exact k σ2 H2 l2 (e1.trans x2) c2 s2
end
/-! ### __init__ -/
/-- self.f = e, self (slot 0) the new object at x -/
theorem init_fld {K : PySem.W.Frag} {O : List Addr} {n : Nat} {ρ : Rho} {te : TE} {d : PyData} {f : Str} {C x dx : Addr} {fs : List (Str × V)} {D : Ends} {σ : L2.St} {H : Hp} (h : EvD (x :: O) n te ρ d) (hn : σ.length = n) (s : SD (x :: O) H σ ρ) (h0 : σ[0]? = some (some (.ref x)))
    (hx : H x = some (.ins C dx fs)) (hc : Cls K C) (hf : NoAttr K C f) (hl : fs.length < 1000)
    (k : ∀ v H', ExO [x] H H' → SD (x :: O) H' σ ρ → H' x = some (.ins C dx (putF f v fs)) → Dq (sub H' (x :: O)) v d → D.nx σ H') : sFld K (tVar 0) te f D σ H :=
  h σ H hn s _ fun v H1 e1 d1 => by
    have hx1 := e1 _ _ hx
    have s1 := s.ex e1
    refine ⟨_, h0, x, C, dx, fs, rfl, hx1, hc, hf, hl, ?_⟩
    have e2 : ExO [x] H1 (upd H1 x (.ins C dx (putF f v fs))) := ExO.upd (List.mem_singleton.mpr rfl)
    have e3 : ExO (x :: O) H1 (upd H1 x (.ins C dx (putF f v fs))) := ExO.upd List.mem_cons_self
    refine k v _ ((Ex.o [x] e1).trans e2) (s1.mono e3 fun a ha z => ?_) upd_same (d1.mono e3)
    by_cases c : a = x
    · rw [c, upd_same] at z
      cases z
    · rw [upd_ne c] at z
      exact s1.own a ha z
end DL
/-! DW: max and min of two, list(range(n)), comprehensions with an if, several lists of a def's own of any data. -/
namespace DL
open PySem L2 Evl PyProof.Rows TL RZ
section
variable {O : List Addr} {n : Nat} {ρ : Rho} {ta tb te : TE} {K : PySem.W.Frag} {ds es : List PyData} {d : PyData}
theorem rc_max2 {i j : Int} : RDC O (fun xs H Q => ∃ i j, xs = [.int i, .int j] ∧ Q (.int (if j > i then j else i)) H) [.int i, .int j] (.int (max i j)) := fun H vs _ h' Q q => by
  cases h' with
  | cons a r =>
    cases a
    cases r with
    | cons b r =>
      cases b
      cases r
      refine ⟨i, j, rfl, ?_⟩
      have e : (if j > i then j else i) = max i j := by split <;> omega
      rw [e]
      exact q _ H (Ex.refl H) (.int _)
theorem rc_min2 {i j : Int} : RDC O (fun xs H Q => ∃ i j, xs = [.int i, .int j] ∧ Q (.int (if j < i then j else i)) H) [.int i, .int j] (.int (min i j)) := fun H vs _ h' Q q => by
  cases h' with
  | cons a r =>
    cases a
    cases r with
    | cons b r =>
      cases b
      cases r
      refine ⟨i, j, rfl, ?_⟩
      have e : (if j < i then j else i) = min i j := by split <;> omega
      rw [e]
      exact q _ H (Ex.refl H) (.int _)
theorem rg_dq {H : Hp} (m : Nat) : DqAll H (rgV 0 (m : Int)) (rngD m) := by
  have e1 : rgV 0 (m : Int) = ((List.range m).map fun i : Nat => (i : Int)).map V.int := by
    unfold rgV
    rw [List.map_map]
    have e : ((m : Int) - 0).toNat = m := by omega
    rw [e]
    apply List.map_congr_left
    intro i _
    show V.int (0 + (i : Int)) = V.int (i : Int)
    rw [Int.zero_add]
  have e2 : rngD m = dI ((List.range m).map fun i : Nat => (i : Int)) := by
    unfold rngD dI
    rw [List.map_map]
    rfl
  rw [e1, e2]
  exact dq_ints _
theorem ed_listRg {m : Nat} (h : EvD O n te ρ (.int (m : Int))) (hm : m ≤ 100000) : EvD O n (tLstRg (tRg1 te)) ρ (.list (rngD m)) := fun σ H hn s Q q => h σ H hn s _ fun v H1 e1 d1 => by
  cases d1
  refine ⟨_, rfl, RgOk.of_le (by decide) (by omega) (by decide) (by omega), fun p np => ?_⟩
  exact q _ _ (e1.trans (Ex.new np)) (.lst (sub_mk upd_same (not_own (own_ex e1 s.own) np)) (rg_dq m))
end
/-! ### [e for x in .. if t] -/
section
variable {O : List Addr} {n : Nat} {ρ : Rho} {te : TE} {tt : TT} {wi : TI} {g : TG} {vs : List Nat} {ds : List PyData}
theorem ed_lcF (f : Nat → List PyData) (hf : f 0 = []) (hlen : ∀ i, i < ds.length → (f i).length < 100000) (hw : IterD O n wi ρ ds)
    (h : ∀ D i d, ds[i]? = some d → ∃ ρ' b, TgD (D :: O) n vs g (wipeR ρ vs) d ρ' ∧ EvDT (D :: O) n tt ρ' b ∧ (b = true → ∃ e, EvD (D :: O) n te ρ' e ∧ f (i + 1) = f i ++ [e]) ∧ (b = false → f (i + 1) = f i)) :
    EvD O n (tLc wi g tt te vs) ρ (.list (f ds.length)) := fun σ H hn s Q q => hw σ H hn s _ fun J H1 G Y e1 W g1 gk yk => by
  intro D hD
  have lw : (L2.wipe σ vs).length = n := by rw [L2.wipe_length]; exact hn
  have s1 := s.ex e1
  refine lc_it (W (D :: O)) (fun i H2 => ∃ acc, H2 D = some (.lst acc) ∧ DqAll (sub H2 (D :: O)) acc (f i) ∧ Ex H1 H2) ⟨[], upd_same, by rw [hf]; exact DqAll.nil, Ex.new hD⟩ ?_ ?_ ?_
  · rintro i H2 _ ⟨acc, _, _, k2⟩
    exact gk _ _ _ _ g1 (ex_more k2 hD)
  · rintro i x H2 H3 hi ⟨acc, hA, hd, k2⟩ y
    have s2 : SD (D :: O) H2 σ ρ := s1.more k2 hD hA
    obtain ⟨e3, d, hdi, hx⟩ := yk (D :: O) i H2 x H3 hi s2.own (gk _ _ _ _ g1 (ex_more k2 hD)) y
    obtain ⟨ρ', b, ht, htt, hte, hsk⟩ := h D i d hdi
    have s3 := (s2.ex e3).wipe vs
    refine ht (L2.wipe σ vs) H3 x lw s3 hx _ fun σ' hl' hc' s' => ⟨?_, ?_⟩
    · have ew : L2.wipe (L2.wipe σ vs) vs = L2.wipe σ vs := by
        refine wipe_ext (by rw [L2.wipe_length]) fun i hi => L2.wipe_out hi
      rw [wipe_ext (by rw [hl', lw]) hc', ew]
    · refine htt σ' H3 hl' s' _ fun H4 e4 => ?_
      cases b with
      | false =>
        rw [if_neg Bool.false_ne_true]
        refine ⟨acc, e4 _ _ (e3 _ _ hA), ?_, (k2.trans e3).trans e4⟩
        rw [hsk rfl]
        exact hd.mono (Ex.o _ (e3.trans e4))
      | true =>
        rw [if_pos rfl]
        obtain ⟨e, he, hfe⟩ := hte rfl
        refine he σ' H4 hl' (s'.ex e4) _ fun y H5 e5 d5 => ⟨acc, e5 _ _ (e4 _ _ (e3 _ _ hA)), ?_, ?_⟩
        · have q1 := hd.length
          have q2 := hlen i hi
          exact sz_lt (n := acc.length) (Nat.lt_of_le_of_lt (Nat.le_of_eq q1) q2)
        · refine ⟨_, upd_same, ?_, Ex.mut (((k2.trans e3).trans e4).trans e5) hD⟩
          rw [sub_upd (List.mem_cons_self ..), hfe]
          exact (hd.mono (Ex.o _ ((e3.trans e4).trans e5))).append (.cons d5 .nil)
  · rintro H2 ⟨acc, hA, hd, k2⟩
    exact q _ H2 (e1.trans k2) (.lst (sub_mk hA (not_own s1.own hD)) (hd.mono ex_less))
theorem ed_lcFM {α : Type} {l : List α} {e1 e2 : α → PyData} {p : α → Bool} (hw : IterD O n wi ρ (l.map e1)) (hl : l.length ≤ 100000)
    (h : ∀ D a, a ∈ l → ∃ ρ', TgD (D :: O) n vs g (wipeR ρ vs) (e1 a) ρ' ∧ EvDT (D :: O) n tt ρ' (p a) ∧ (p a = true → EvD (D :: O) n te ρ' (e2 a))) :
    EvD O n (tLc wi g tt te vs) ρ (.list ((l.filter p).map e2)) := by
  have q := ed_lcF (O := O) (n := n) (ρ := ρ) (te := te) (tt := tt) (wi := wi) (g := g) (vs := vs) (ds := l.map e1) (fun i => ((l.take i).filter p).map e2) rfl (fun i hi => by
    rw [List.length_map] at hi
    rw [List.length_map]
    have q1 := List.length_filter_le p (l.take i)
    rw [List.length_take] at q1
    omega) hw (fun D i d hd => by
    rw [List.getElem?_map] at hd
    cases ha : l[i]? with
    | none => rw [ha] at hd; cases hd
    | some a =>
      rw [ha] at hd
      cases hd
      obtain ⟨ρ', h1, h2, h3⟩ := h D a (List.mem_of_getElem? ha)
      have e : l.take (i + 1) = l.take i ++ [a] := take_snoc ha
      refine ⟨ρ', p a, h1, h2, fun z => ⟨e2 a, h3 z, ?_⟩, fun z => ?_⟩
      · show ((l.take (i + 1)).filter p).map e2 = _
        rw [e, List.filter_append, List.map_append]
        simp [z]
      · show ((l.take (i + 1)).filter p).map e2 = _
        rw [e, List.filter_append, List.map_append]
        simp [z])
  simp only [List.length_map, List.take_length] at q
  exact q
end
/-! ### several lists of the def's own -/
theorem sub_less {H : Hp} {P P' : List Addr} (h : ∀ a, a ∈ P' → a ∈ P) : Ex (sub H P) (sub H P') := fun a o z => by
  obtain ⟨h1, h2⟩ := sub_of z
  exact sub_mk h1 fun w => h2 (h a w)
abbrev Own := Nat → Option (List PyData)
abbrev Own.none : Own := fun _ => Option.none
abbrev Own.put (c : Own) (m : Nat) (ds : List PyData) : Own := fun k => if k = m then some ds else c k
structure SDM (O : List Addr) (H0 : Hp) (c : Own) (H : Hp) (σ : L2.St) (ρ : Rho) (P : List Addr) (al : Nat → Addr) : Prop where
  less : ∀ a, a ∈ O → a ∈ P
  only : ∀ a, a ∈ P → a ∈ O ∨ ∃ m ds, c m = some ds ∧ a = al m
  sd : SD P H σ ρ
  at_ : ∀ m ds, c m = some ds → σ[m]? = some (some (.ref (al m))) ∧ (∃ xs, H (al m) = some (.lst xs) ∧ DqAll (sub H P) xs ds) ∧ ρ[m]? = some none ∧ al m ∈ P ∧ al m ∉ O ∧ H0 (al m) = none
  inj : ∀ m m' ds ds', c m = some ds → c m' = some ds' → al m = al m' → m = m'
  ex : Ex H0 H
section
variable {O P : List Addr} {H0 H H' : Hp} {c : Own} {σ : L2.St} {ρ : Rho} {al : Nat → Addr}
theorem SDM.step (s : SDM O H0 c H σ ρ P al) (e : Ex H H') : SDM O H0 c H' σ ρ P al where
  less := s.less
  only := s.only
  sd := s.sd.ex e
  at_ := fun m ds h => by
    obtain ⟨h1, ⟨xs, h2, h3⟩, h4⟩ := s.at_ m ds h
    exact ⟨h1, ⟨xs, e _ _ h2, h3.mono (Ex.o P e)⟩, h4⟩
  inj := s.inj
  ex := s.ex.trans e
theorem SDM.base {H1 : Hp} (s : SDM O H1 c H σ ρ P al) (e : Ex H0 H1) : SDM O H0 c H σ ρ P al where
  less := s.less
  only := s.only
  sd := s.sd
  at_ := fun m ds h => by
    obtain ⟨h1, h2, h3, h4, h5, h6⟩ := s.at_ m ds h
    refine ⟨h1, h2, h3, h4, h5, ?_⟩
    cases z : H0 (al m) with
    | none => rfl
    | some o =>
      rw [e _ _ z] at h6
      cases h6
  inj := s.inj
  ex := e.trans s.ex
theorem SDM.put {i : Nat} {v : V} {d : PyData} (s : SDM O H0 c H σ ρ P al) (h : Dq (sub H P) v d) (hi : i < σ.length) (hc : c i = none) : SDM O H0 c H (σ.set i (some v)) (ρ.set i (some d)) P al where
  less := s.less
  only := s.only
  sd := s.sd.set h hi
  at_ := fun m ds hm => by
    have ne : i ≠ m := fun z => by rw [z, hm] at hc; cases hc
    obtain ⟨h1, h2, h3, h4⟩ := s.at_ m ds hm
    exact ⟨by rw [List.getElem?_set_ne ne]; exact h1, h2, by rw [List.getElem?_set_ne ne]; exact h3, h4⟩
  inj := s.inj
  ex := s.ex
/-- a new list in slot m -/
theorem SDM.own {m : Nat} {p : Addr} {xs : List V} {ds : List PyData} (s : SDM O H0 c H σ ρ P al) (hp : H p = none) (d : DqAll (sub H P) xs ds) (hm : m < σ.length) (hr : m < ρ.length) (hc : c m = none) :
    SDM O H0 (c.put m ds) (upd H p (.lst xs)) (σ.set m (some (.ref p))) (ρ.set m none) (p :: P) (fun k => if k = m then p else al k) where
  less := fun a ha => List.mem_cons_of_mem _ (s.less a ha)
  only := fun a ha => by
    rcases List.mem_cons.mp ha with rfl | ha
    · exact .inr ⟨m, ds, by simp [Own.put], by simp⟩
    · rcases s.only a ha with q | ⟨k, es, h1, rfl⟩
      · exact .inl q
      · have ne : k ≠ m := fun z => by rw [z, hc] at h1; cases h1
        exact .inr ⟨k, es, by simp [Own.put, ne, h1], by simp [ne]⟩
  sd := (s.sd.more (Ex.new hp) hp upd_same).forget
  at_ := fun k es hk => by
    have pP : p ∉ P := not_own s.sd.own hp
    by_cases c2 : k = m
    · subst c2
      have hk : some ds = some es := by simpa [Own.put] using hk
      cases hk
      simp only [if_true]
      refine ⟨by rw [List.getElem?_set_self hm], ⟨xs, upd_same, d.mono (ex_more (Ex.new hp) hp)⟩, by rw [List.getElem?_set_self hr], List.mem_cons_self, fun z => pP (s.less _ z), ?_⟩
      cases z : H0 p with
      | none => rfl
      | some o =>
        rw [s.ex _ _ z] at hp
        cases hp
    · have hk : c k = some es := by simpa [Own.put, c2] using hk
      simp only [if_neg c2]
      obtain ⟨h1, ⟨ys, h2, h3⟩, h4, h5, h6⟩ := s.at_ k es hk
      exact ⟨by rw [List.getElem?_set_ne (Ne.symm c2)]; exact h1, ⟨ys, Ex.new hp _ _ h2, h3.mono (ex_more (Ex.new hp) hp)⟩, by rw [List.getElem?_set_ne (Ne.symm c2)]; exact h4, List.mem_cons_of_mem _ h5, h6⟩
  inj := fun k k' es es' hk hk' he => by
    have pP : p ∉ P := not_own s.sd.own hp
    by_cases c2 : k = m
    · by_cases c3 : k' = m
      · rw [c2, c3]
      · have hk' : c k' = some es' := by simpa [Own.put, c3] using hk'
        simp only [if_pos c2, if_neg c3] at he
        exact absurd (he ▸ (s.at_ k' es' hk').2.2.2.1) pP
    · have hk : c k = some es := by simpa [Own.put, c2] using hk
      by_cases c3 : k' = m
      · simp only [if_neg c2, if_pos c3] at he
        exact absurd (he ▸ (s.at_ k es hk).2.2.2.1) pP
      · have hk' : c k' = some es' := by simpa [Own.put, c3] using hk'
        simp only [if_neg c2, if_neg c3] at he
        exact s.inj k k' es es' hk hk' he
  ex := s.ex.trans (Ex.new hp)
/-- the list in slot m gets other contents -/
theorem SDM.other {m : Nat} {xs : List V} {ds es : List PyData} (s : SDM O H0 c H σ ρ P al) (hm : c m = some ds) (d : DqAll (sub H P) xs es) : SDM O H0 (c.put m es) (upd H (al m) (.lst xs)) σ ρ P al := by
  obtain ⟨m1, m2, m3, m4, m5, m6⟩ := s.at_ m ds hm
  have sb : sub (upd H (al m) (.lst xs)) P = sub H P := sub_upd m4
  have cs : ∀ k fs, (c.put m es) k = some fs → ∃ fs', c k = some fs' := fun k fs hk => by
    by_cases c2 : k = m
    · exact ⟨ds, by rw [c2]; exact hm⟩
    · exact ⟨fs, by simpa [Own.put, c2] using hk⟩
  refine ⟨s.less, fun a ha => ?_, ⟨fun a ha z => ?_, fun i d' hd => by rw [sb]; exact s.sd.at' i d' hd⟩, fun k fs hk => ?_, fun k k' fs fs' hk hk' he => ?_, fun a o ha => ?_⟩
  · rcases s.only a ha with q | ⟨k, fs, h1, h2⟩
    · exact .inl q
    · by_cases c2 : k = m
      · exact .inr ⟨m, es, by simp [Own.put], by rw [h2, c2]⟩
      · exact .inr ⟨k, fs, by simp [Own.put, c2, h1], h2⟩
  · by_cases c2 : a = al m
    · rw [c2, upd_same] at z
      cases z
    · rw [upd_ne c2] at z
      exact s.sd.own a ha z
  · by_cases c2 : k = m
    · subst c2
      have hk : some es = some fs := by simpa [Own.put] using hk
      cases hk
      exact ⟨m1, ⟨xs, upd_same, by rw [sb]; exact d⟩, m3, m4, m5, m6⟩
    · have hk : c k = some fs := by simpa [Own.put, c2] using hk
      obtain ⟨h1, ⟨ys, h2, h3⟩, h4⟩ := s.at_ k fs hk
      have ne : al k ≠ al m := fun z => c2 (s.inj k m fs ds hk hm z)
      exact ⟨h1, ⟨ys, by rw [upd_ne ne]; exact h2, by rw [sb]; exact h3⟩, h4⟩
  · obtain ⟨a1, b1⟩ := cs k fs hk
    obtain ⟨a2, b2⟩ := cs k' fs' hk'
    exact s.inj k k' a1 a2 b1 b2 he
  · have ne : a ≠ al m := fun z => by rw [z, m6] at ha; cases ha
    rw [upd_ne ne]
    exact s.ex a o ha
/-- slots with the own lists as data -/
def vwC (c : Own) : Nat → Rho → Rho
  | _, [] => []
  | k, x :: r => (match c k with | some ds => some (.list ds) | Option.none => x) :: vwC c (k + 1) r
theorem vwC_get (c : Own) : ∀ (ρ : Rho) (k i : Nat), (vwC c k ρ)[i]? = (ρ[i]?).map fun x => match c (k + i) with | some ds => some (.list ds) | Option.none => x
  | [], k, i => by simp [vwC]
  | x :: r, k, 0 => by simp [vwC]
  | x :: r, k, i + 1 => by
    have q := vwC_get c r (k + 1) i
    rw [show k + 1 + i = k + (i + 1) by omega] at q
    simpa [vwC] using q
theorem SDM.view (s : SDM O H0 c H σ ρ P al) : SD O H σ (vwC c 0 ρ) := ⟨fun a ha => s.sd.own a (s.less a ha), fun i d hd => by
  rw [vwC_get, Nat.zero_add] at hd
  cases hc : c i with
  | some ds =>
    obtain ⟨h1, ⟨xs, h2, h3⟩, h4, h5, h6, h7⟩ := s.at_ i ds hc
    rw [h4, hc] at hd
    simp only [Option.map_some, Option.some.injEq] at hd
    subst hd
    exact ⟨_, h1, .lst (sub_mk h2 h6) (h3.mono (sub_less s.less))⟩
  | none =>
    rw [hc] at hd
    cases hr : ρ[i]? with
    | none => rw [hr] at hd; cases hd
    | some x =>
      rw [hr] at hd
      simp only [Option.map_some, Option.some.injEq] at hd
      subst hd
      obtain ⟨v, h1, h2⟩ := s.sd.at' i d hr
      exact ⟨v, h1, h2.mono (sub_less s.less)⟩⟩
end
section
variable (O : List Addr)
def SDX (H0 : Hp) (c : Own) (H : Hp) (σ : L2.St) (ρ : Rho) : Prop := ∃ P al, SDM O H0 c H σ ρ P al
def RunM (n : Nat) (t : TS) (ρ : Rho) (c : Own) (ρ' : Rho) (c' : Own) : Prop := ∀ (H0 : Hp) (D : Ends) (σ : L2.St) (H : Hp), σ.length = n → SDX O H0 c H σ ρ →
  (∀ σ' H', σ'.length = n → SDX O H0 c' H' σ' ρ' → D.nx σ' H') → t D σ H
def RunMR (n : Nat) (t : TS) (ρ : Rho) (c : Own) (d : PyData) : Prop := ∀ (H0 : Hp) (D : Ends) (σ : L2.St) (H : Hp), σ.length = n → SDX O H0 c H σ ρ →
  (∀ v H', Ex H0 H' → Dq (sub H' O) v d → D.rt v H') → t D σ H
/-- a new list -/
def EvF (n : Nat) (te : TE) (ρ : Rho) (ds : List PyData) : Prop := ∀ (σ : L2.St) (H : Hp), σ.length = n → SD O H σ ρ → ∀ Q : VK,
  (∀ p xs H1, Ex H H1 → H1 p = none → DqAll (sub H1 O) xs ds → Q (.ref p) (upd H1 p (.lst xs))) → te σ H Q
end
section
variable {O : List Addr} {n m i j : Nat} {ρ ρ1 ρ' : Rho} {c c1 c' : Own} {ds es : List PyData} {d x : PyData} {te ti ta tb : TE} {tl : TA} {tt : TT} {t u : TS} {K : PySem.W.Frag} {g : TG} {wi : TI} {vs : List Nat}
theorem ef_lst (h : EvDA O n tl ρ ds) (hl : ds.length ≤ 100000) : EvF O n (tLst tl) ρ ds := fun σ H hn s Q q =>
  h σ H hn s _ fun vs H1 e1 d1 => ⟨by rw [d1.length]; exact sz_of hl, fun p hp => q p vs H1 e1 hp d1⟩
theorem ef_cat (ha : EvD O n ta ρ (.list ds)) (hb : EvD O n tb ρ (.list es)) (hl : ds.length + es.length ≤ 100000) : EvF O n (tOp rCat ta tb) ρ (ds ++ es) := fun σ H hn s Q q =>
  ha σ H hn s _ fun v H1 e1 d1 => hb σ H1 hn (s.ex e1) _ fun w H2 e2 d2 => by
    have d1' := d1.mono (Ex.o O e2)
    cases d1' with
    | @lst a xs _ ha k =>
      cases d2 with
      | @lst b ys _ hb k2 =>
        refine ⟨a, b, xs, ys, rfl, rfl, (sub_of ha).1, (sub_of hb).1, ?_, fun p hp => q p _ H2 (e1.trans e2) hp (k.append k2)⟩
        rw [k.length, k2.length]
        exact sz_of hl
theorem rm_enter (h : RunMR O n t ρ Own.none d) : RunR O n t ρ d := fun D σ H hn s k =>
  h H D σ H hn ⟨O, fun _ => 0, ⟨fun _ a => a, fun _ a => .inl a, s, fun _ _ z => (by cases z), fun _ _ _ _ z => (by cases z), Ex.refl H⟩⟩ k
theorem rm_leave (h : RunR O n t ρ d) : RunMR O n t ρ c d := fun H0 D σ H hn ⟨P, al, s⟩ k =>
  h D σ H hn ⟨fun a ha => s.sd.own a (s.less a ha), fun i d hd => by
    obtain ⟨v, h1, h2⟩ := s.sd.at' i d hd
    exact ⟨v, h1, h2.mono (sub_less s.less)⟩⟩ fun v H' e dd => k v H' (s.ex.trans e) dd
theorem rm_read (h : RunR O n t (vwC c 0 ρ) d) : RunMR O n t ρ c d := fun H0 D σ H hn ⟨P, al, s⟩ k =>
  h D σ H hn s.view fun v H' e dd => k v H' (s.ex.trans e) dd
theorem rm_seq (h1 : RunM O n t ρ c ρ1 c1) (h2 : RunM O n u ρ1 c1 ρ' c') : RunM O n (tSeq t u) ρ c ρ' c' := fun H0 D σ H hn s k =>
  h1 H0 _ σ H hn s fun σ1 H1 hn1 s1 => h2 H0 D σ1 H1 hn1 s1 k
theorem rm_seqR (h1 : RunM O n t ρ c ρ1 c1) (h2 : RunMR O n u ρ1 c1 d) : RunMR O n (tSeq t u) ρ c d := fun H0 D σ H hn s k =>
  h1 H0 _ σ H hn s fun σ1 H1 hn1 s1 => h2 H0 D σ1 H1 hn1 s1 k
theorem rm_next : RunM O n tNext ρ c ρ c := fun H0 D σ H hn s k => k σ H hn s
theorem rm_is (h : RunM O n t ρ c ρ1 c1) (e1 : ρ1 = ρ') (e2 : c1 = c') : RunM O n t ρ c ρ' c' := e1 ▸ e2 ▸ h
/-- x = e, any datum that reads no list of the def's own -/
theorem rm_asg (h : ∀ P, EvD P n te ρ d) (hi : i < n) (hc : c i = none) : RunM O n (tAsg te (gName i)) ρ c (ρ.set i (some d)) c := fun H0 D σ H hn ⟨P, al, s⟩ k =>
  h P σ H hn s.sd _ fun v H1 e1 d1 => k _ H1 (by rw [List.length_set]; exact hn) ⟨P, al, (s.step e1).put d1 (by rw [hn]; exact hi) hc⟩
/-- x = e, a scalar -/
theorem rm_asgV (h : EvD O n te (vwC c 0 ρ) d) (f : isFlat d = true) (hi : i < n) (hc : c i = none) : RunM O n (tAsg te (gName i)) ρ c (ρ.set i (some d)) c := fun H0 D σ H hn ⟨P, al, s⟩ k =>
  h σ H hn s.view _ fun v H1 e1 d1 => k _ H1 (by rw [List.length_set]; exact hn) ⟨P, al, (s.step e1).put (flat_dq d1 f) (by rw [hn]; exact hi) hc⟩
/-- x = e, a new list -/
theorem rm_own (h : ∀ P, EvF P n te ρ ds) (hm : m < n) (hr : m < ρ.length) (hc : c m = none) : RunM O n (tAsg te (gName m)) ρ c (ρ.set m none) (c.put m ds) := fun H0 D σ H hn ⟨P, al, s⟩ k =>
  h P σ H hn s.sd _ fun p xs H1 e1 np d1 => k _ _ (by rw [List.length_set]; exact hn) ⟨_, _, (s.step e1).own np d1 (by rw [hn]; exact hm) hr hc⟩
/-- x, y = [], e -/
theorem rm_parL (h : ∀ P, EvD P n te ρ d) (hm : m < n) (hi : i < n) (hr : m < ρ.length) (hc : c m = none) (hci : c i = none) (hmi : m ≠ i) : RunM O n (tPar m i (tCons (tLst tNil) (tCons te tNil))) ρ c ((ρ.set m none).set i (some d)) (c.put m []) := fun H0 D σ H hn ⟨P, al, s⟩ k => by
  refine ⟨(by show 0 ≤ sizeLine; decide), fun p np => ?_⟩
  have s1 := s.own (xs := []) (ds := []) np .nil (by rw [hn]; exact hm) hr hc
  have sd1 : SD (p :: P) (upd H p (.lst [])) σ ρ := s.sd.more (Ex.new np) np upd_same
  refine h (p :: P) σ _ hn sd1 _ fun v H1 e1 d1 => ?_
  refine ⟨_, _, rfl, k _ H1 (by rw [List.length_set, List.length_set]; exact hn) ⟨_, _, (s1.step e1).put d1 (by rw [List.length_set, hn]; exact hi) ?_⟩⟩
  simp [Own.put, Ne.symm hmi, hci]
/-- x, y = [], [] -/
theorem rm_parLL (hm : m < n) (hi : i < n) (hr : m < ρ.length) (hr2 : i < ρ.length) (hc : c m = none) (hci : c i = none) (hmi : m ≠ i) : RunM O n (tPar m i (tCons (tLst tNil) (tCons (tLst tNil) tNil))) ρ c ((ρ.set m none).set i none) ((c.put m []).put i []) := fun H0 D σ H hn ⟨P, al, s⟩ k => by
  refine ⟨(by show 0 ≤ sizeLine; decide), fun p np => ?_⟩
  have s1 := s.own (xs := []) (ds := []) np .nil (by rw [hn]; exact hm) hr hc
  refine ⟨(by show 0 ≤ sizeLine; decide), fun p2 np2 => ?_⟩
  have s2 := s1.own (m := i) (xs := []) (ds := []) np2 .nil (by rw [List.length_set, hn]; exact hi) (by rw [List.length_set]; exact hr2) (by simp [Own.put, Ne.symm hmi, hci])
  exact ⟨_, _, rfl, k _ _ (by rw [List.length_set, List.length_set]; exact hn) ⟨_, _, s2⟩⟩
theorem rm_append (hc : c m = some ds) (h : ∀ P, EvD P n te ρ d) (hl : ds.length ≤ 100000) : RunM O n (tDrop (tBM K "list" rAppend (tVar m) (tCons te tNil))) ρ c ρ (c.put m (ds ++ [d])) := fun H0 D σ H hn ⟨P, al, s⟩ k => by
  obtain ⟨m1, ⟨xs, hx, _⟩, _⟩ := s.at_ m ds hc
  refine ⟨_, m1, ty_lst hx, h P σ H hn s.sd _ fun v H1 e1 d1 => ?_⟩
  have s1 := s.step e1
  obtain ⟨_, ⟨ys, hy, dy⟩, _⟩ := s1.at_ m ds hc
  refine ⟨al m, ys, v, rfl, rfl, hy, Nat.lt_of_le_of_lt (show ys.length ≤ 100000 by have q := dy.length; omega) (by decide), ?_⟩
  exact k σ _ hn ⟨P, al, s1.other hc (dy.append (.cons d1 .nil))⟩
theorem rm_if {b : Bool} (h : EvDT O n tt (vwC c 0 ρ) b) (h1 : b = true → RunM O n t ρ c ρ' c') (h2 : b = false → RunM O n u ρ c ρ' c') : RunM O n (tIfS tt t u) ρ c ρ' c' := fun H0 D σ H hn ⟨P, al, s⟩ k =>
  h σ H hn s.view _ fun H1 e1 => by
    cases b with
    | true => exact iteT (h1 rfl H0 D σ H1 hn ⟨P, al, s.step e1⟩ k)
    | false => exact iteF (h2 rfl H0 D σ H1 hn ⟨P, al, s.step e1⟩ k)
/-- a for over what is none of the def's own lists -/
theorem rm_for (hw : ∀ P, IterD P n wi ρ es) (R : Nat → Rho × Own) (h0 : R 0 = (ρ, c))
    (hs : ∀ i e, es[i]? = some e → ∃ ρ', (∀ P, TgD P n vs g (R i).1 e ρ') ∧ (∀ k fs, (R i).2 k = some fs → k ∉ vs ∧ ρ'[k]? = some none) ∧ RunM O n t ρ' (R i).2 (R (i + 1)).1 (R (i + 1)).2) :
    RunM O n (tFor wi g t) ρ c (R es.length).1 (R es.length).2 := fun H0 D σ H hn ⟨P0, al0, s0⟩ k => hw P0 σ H hn s0.sd _ fun J H1 G Y e1 W g1 gk yk => by
  have s1 := s0.step e1
  let Z : List Addr := P0.filter fun a => decide (a ∉ O)
  let HB : Hp := sub H1 Z
  have zOf : ∀ a, a ∈ Z → a ∈ P0 ∧ a ∉ O := fun a ha => by
    have q := List.mem_filter.mp ha
    exact ⟨q.1, of_decide_eq_true q.2⟩
  have exB : Ex H0 HB := fun a o ha => by
    refine sub_mk (s1.ex a o ha) fun z => ?_
    obtain ⟨z1, z2⟩ := zOf a z
    rcases s1.only a z1 with q | ⟨k2, fs, h1, rfl⟩
    · exact z2 q
    · have q := (s1.at_ k2 fs h1).2.2.2.2.2
      rw [q] at ha
      cases ha
  have sB : SDM O HB c H1 σ ρ P0 al0 := ⟨s1.less, s1.only, s1.sd, fun k2 fs hk => by
    obtain ⟨h1, h2, h3, h4, h5, h6⟩ := s1.at_ k2 fs hk
    refine ⟨h1, h2, h3, h4, h5, ?_⟩
    show (if al0 k2 ∈ Z then none else H1 (al0 k2)) = none
    rw [if_pos (List.mem_filter.mpr ⟨h4, decide_eq_true h5⟩)], s1.inj, ex_sub H1 Z⟩
  -- what was there is there for all owned sets
  have toG : ∀ (P2 : List Addr) (al2 : Nat → Addr) (c2 : Own) (σ2 : L2.St) (ρ2 : Rho) (H2 : Hp), SDM O HB c2 H2 σ2 ρ2 P2 al2 → Ex (sub H1 P0) (sub H2 P2) := fun P2 al2 c2 σ2 ρ2 H2 s2 a o ha => by
    obtain ⟨h1, h2⟩ := sub_of ha
    have nz : a ∉ Z := fun z => h2 (zOf a z).1
    have hb : HB a = some o := sub_mk h1 nz
    refine sub_mk (s2.ex a o hb) fun z => ?_
    rcases s2.only a z with q | ⟨k2, fs, q1, rfl⟩
    · exact h2 (s1.less a q)
    · have q := (s2.at_ k2 fs q1).2.2.2.2.2
      rw [q] at hb
      cases hb
  have toG0 : ∀ (P2 : List Addr) (al2 : Nat → Addr) (c2 : Own) (σ2 : L2.St) (ρ2 : Rho) (H2 : Hp), SDM O HB c2 H2 σ2 ρ2 P2 al2 → Ex (sub H1 P0) (sub H2 P0) := fun P2 al2 c2 σ2 ρ2 H2 s2 a o ha => by
    obtain ⟨h1, h2⟩ := sub_of ha
    have nz : a ∉ Z := fun z => h2 (zOf a z).1
    exact sub_mk (s2.ex a o (sub_mk h1 nz)) h2
  refine for_it (W P0) (fun i σ2 H2 => σ2.length = n ∧ SDX O HB (R i).2 H2 σ2 (R i).1) ⟨hn, P0, al0, by rw [h0]; exact sB⟩ (fun i σ2 H2 _ p => ?_) ?_ ?_
  · obtain ⟨_, P2, al2, s2⟩ := p
    exact gk _ _ _ _ g1 (toG0 P2 al2 _ _ _ _ s2)
  · rintro i x σ2 H2 H3 hi ⟨l2, P2, al2, s2⟩ y
    obtain ⟨e3, e, hdi, hx⟩ := yk P2 i H2 x H3 hi s2.sd.own (gk _ _ _ _ g1 (toG P2 al2 _ _ _ _ s2)) y
    obtain ⟨ρ', ht, hfree, hb⟩ := hs i e hdi
    have s3 := s2.step e3
    refine ht P2 σ2 H3 x l2 s3.sd hx _ fun σ' hl' hout s' => ?_
    refine hb HB _ σ' H3 hl' ⟨P2, al2, ⟨s3.less, s3.only, s', fun k2 fs hk => ?_, s3.inj, s3.ex⟩⟩ fun σ4 H4 hl4 s4 => ⟨hl4, s4⟩
    obtain ⟨h1, h2, h3, h4⟩ := s3.at_ k2 fs hk
    obtain ⟨f1, f2⟩ := hfree k2 fs hk
    exact ⟨by rw [hout k2 f1]; exact h1, h2, f2, h4⟩
  · rintro σ2 H2 ⟨l2, P2, al2, s2⟩
    exact k σ2 H2 l2 ⟨P2, al2, s2.base exB⟩
end
/-! ### two parameters by name, the second one first -/
def swG (us ws : List Value) : List Value := match ws with
  | [a, b] => us ++ [b, a]
  | _ => us ++ ws
def swV (us ws : List V) : List V := match ws with
  | [a, b] => us ++ [b, a]
  | _ => us ++ ws
theorem kb_swap {K : PySem.W.Frag} {f : Addr} {fd : FuncData} {x qual k0 k1 : Str} {st : Stmt} (F : Fun K x qual st f fd)
    (h : ∀ (kV doc pm : Value) (an : Option Addr) (cdv ct : Value) (u v : Value), bindArgs (PySem.W.fnOf x qual (defArgs st) (defBody st) (defScope st) .none kV doc pm an cdv ct) ⟨[], [(k1, u), (k0, v)]⟩ = pure [(k0, v), (k1, u)]) : KBn K fd [k0, k1] 0 [k1, k0] swG swV := by
  obtain ⟨oc, od, kV, doc, pm, an, cdv, ct, osl, rfl, lk, hcd⟩ := F.ex
  refine ⟨fun s us ws X l1 l2 => ?_, fun {vs us zs ws} r1 r2 => ?_⟩
  · match us, ws, l1, l2 with
    | [], [u, v], _, _ => exact .of_eq (h kV doc pm an cdv ct u v)
  · match zs, ws, r2 with
    | [], [], r2 => exact r1.append r2
    | [_], [_], r2 => exact r1.append r2
    | [a, b], [_, _], .cons h1 (.cons h2 .nil) => exact r1.append (.cons h2 (.cons h1 .nil))
    | _ :: _ :: _ :: _, _ :: _ :: _ :: _, r2 => exact r1.append r2
theorem sw_dq {x y : PyData} : ∀ (H : Hp) (vs : List V), DqAll H vs [x, y] → DqAll H (swV [] vs) [y, x] := fun H vs h => by
  cases h with
  | cons a r =>
    cases r with
    | cons b r =>
      cases r
      exact .cons b (.cons a .nil)
/-! ### items at written places -/
section
variable {O : List Addr} {K : PySem.W.Frag} {ds : List PyData} {d : PyData}
theorem rd_ixTz {i : Int} (h0 : decide (0 ≤ i) = true) (h : ds[i.toNat]? = some d) : RD O (rIxT K) (.tuple ds) (.int i) d := by
  have e : i = ((i.toNat : Nat) : Int) := by
    have q := of_decide_eq_true h0
    omega
  rw [e]
  exact rd_ixT h
theorem rd_ixLz {i : Int} (h0 : decide (0 ≤ i) = true) (h : ds[i.toNat]? = some d) : RD O (rIxL K) (.list ds) (.int i) d := by
  have e : i = ((i.toNat : Nat) : Int) := by
    have q := of_decide_eq_true h0
    omega
  rw [e]
  exact rd_ixL h
end
/-! ### lists of shaped data -/
theorem lay_all {k : Nat} : ∀ {xs : List PyData}, (∀ x, x ∈ xs → x.canLay0 = true ∧ x.depth ≤ k) → PyData.canLayAll0 xs = true ∧ PyData.depthAll xs ≤ k
  | [], _ => ⟨rfl, Nat.zero_le _⟩
  | x :: xs, h => by
    obtain ⟨a1, a2⟩ := h x (List.mem_cons_self ..)
    obtain ⟨b1, b2⟩ := lay_all fun y hy => h y (List.mem_cons_of_mem _ hy)
    refine ⟨?_, ?_⟩
    · show (PyData.canLay0 x && PyData.canLayAll0 xs) = true
      rw [a1, b1]
      rfl
    · show max (PyData.depth x) (PyData.depthAll xs) ≤ k
      omega
theorem shaped_all {k : Nat} {x : PyData} {xs : List PyData} (hs : SeqD x xs) (h : ∀ x, x ∈ xs → x.canLay0 = true ∧ x.depth ≤ k) (hk : k + 1 ≤ 64) : SeqAt.shaped x = true := by
  obtain ⟨h1, h2⟩ := lay_all h
  unfold SeqAt.shaped
  cases hs with
  | lst =>
    show (PyData.canLayAll0 xs && decide (PyData.depthAll xs + 1 ≤ 64)) = true
    rw [h1, decide_eq_true (by omega)]
    rfl
  | tup =>
    show (PyData.canLayAll0 xs && decide (PyData.depthAll xs + 1 ≤ 64)) = true
    rw [h1, decide_eq_true (by omega)]
    rfl
end DL
/-! DZ: draws from the law's box (slot 0) amid data: what comes is known by a property alone. -/
namespace DL
open PySem L2 Evl PyProof.Rows TL RZ
theorem exo_more {O : List Addr} {p : Addr} {H H' : Hp} (e : ExO [p] H H') (h : p ∈ O) : ExO O H H' := e.less fun a ha => by
  rw [List.mem_singleton.mp ha]
  exact h
structure SB (O : List Addr) (p : Addr) (c : Nat) (H : Hp) (σ : L2.St) (ρ : Rho) : Prop where
  sd : SD O H σ ρ
  bx : σ[0]? = some (some (.ref p))
  box : Box p c H
  mem : p ∈ O
  fr : ρ[0]? = some none
theorem own_o {O : List Addr} {p : Addr} {c : Nat} {H H' : Hp} (e : ExO [p] H H') (b : Box p c H') (h : ∀ a, a ∈ O → H a ≠ none) : ∀ a, a ∈ O → H' a ≠ none := fun a ha z => by
  by_cases q : a = p
  · exact b.own a (List.mem_singleton.mpr q) z
  · cases r : H a with
    | none => exact h a ha r
    | some o =>
      have w := e.at r (fun y => q (List.mem_singleton.mp y))
      rw [z] at w
      cases w
theorem SB.step {O : List Addr} {p : Addr} {c c' : Nat} {H H' : Hp} {σ : L2.St} {ρ : Rho} (s : SB O p c H σ ρ) (e : ExO [p] H H') (b : Box p c' H') : SB O p c' H' σ ρ :=
  ⟨s.sd.mono (exo_more e s.mem) (own_o e b s.sd.own), s.bx, b, s.mem, s.fr⟩
theorem SB.put {O : List Addr} {p : Addr} {c : Nat} {H : Hp} {σ : L2.St} {ρ : Rho} {i : Nat} {v : V} {d : PyData} (s : SB O p c H σ ρ) (h : Dq (sub H O) v d) (hi : i < σ.length) (h0 : i ≠ 0) : SB O p c H (σ.set i (some v)) (ρ.set i (some d)) :=
  ⟨s.sd.set h hi, by rw [List.getElem?_set_ne h0]; exact s.bx, s.box, s.mem, by rw [List.getElem?_set_ne h0]; exact s.fr⟩
section
variable (n : Nat)
def EvB (te : TE) (ρ : Rho) (k : Nat) (S : PyData → Prop) : Prop := ∀ (O : List Addr) (p : Addr) (c : Nat) (σ : L2.St) (H : Hp), σ.length = n → SB O p c H σ ρ → c + k ≤ 1000000 → ∀ Q : VK,
  (∀ v d H', S d → ExO [p] H H' → Box p (c + k) H' → Dq (sub H' O) v d → Q v H') → te σ H Q
def EvBA (ta : TA) (ρ : Rho) (k : Nat) (S : List PyData → Prop) : Prop := ∀ (O : List Addr) (p : Addr) (c : Nat) (σ : L2.St) (H : Hp), σ.length = n → SB O p c H σ ρ → c + k ≤ 1000000 → ∀ Q : List V → Hp → Prop,
  (∀ vs ds H', S ds → ExO [p] H H' → Box p (c + k) H' → DqAll (sub H' O) vs ds → Q vs H') → ta σ H Q
def EvBT (tt : TT) (ρ : Rho) (k : Nat) (S : Bool → Prop) : Prop := ∀ (O : List Addr) (p : Addr) (c : Nat) (σ : L2.St) (H : Hp), σ.length = n → SB O p c H σ ρ → c + k ≤ 1000000 → ∀ Q : Bool → Hp → Prop,
  (∀ b H', S b → ExO [p] H H' → Box p (c + k) H' → Q b H') → tt σ H Q
def RunB (vs : List Nat) (t : TS) (ρ : Rho) (k : Nat) (S : Rho → Prop) : Prop := ∀ (O : List Addr) (p : Addr) (c : Nat) (D : Ends) (σ : L2.St) (H : Hp), σ.length = n → SB O p c H σ ρ → c + k ≤ 1000000 →
  (∀ ρ' σ' H', S ρ' → σ'.length = n → (∀ i, i ∉ vs → σ'[i]? = σ[i]?) → ExO [p] H H' → SB O p (c + k) H' σ' ρ' → D.nx σ' H') → t D σ H
def RunBR (t : TS) (ρ : Rho) (k : Nat) (S : PyData → Prop) : Prop := ∀ (O : List Addr) (p : Addr) (c : Nat) (D : Ends) (σ : L2.St) (H : Hp), σ.length = n → SB O p c H σ ρ → c + k ≤ 1000000 →
  (∀ v d H', S d → ExO [p] H H' → Box p (c + k) H' → Dq (sub H' O) v d → D.rt v H') → t D σ H
end
theorem log_lt {m : Int} (h0 : 0 ≤ m) (h : m < 2 ^ 200) : m.natAbs.log2 < 9000 := by
  by_cases c : m = 0
  · subst c
    decide
  · have e : m.natAbs < 2 ^ 200 := by
      have e2 : ((2 : Int) ^ 200) = ((2 ^ 200 : Nat) : Int) := by decide
      omega
    exact Nat.lt_trans ((Nat.log2_lt (by omega)).mpr e) (by decide)
section
variable {n i j k k1 k2 : Nat} {ρ ρ1 ρ' : Rho} {te ta tb : TE} {tr : TA} {tt : TT} {t u : TS} {S S1 S2 : PyData → Prop} {K : PySem.W.Frag} {d x : PyData} {ds : List PyData} {vs ws : List Nat} {r : R2} {E : XK}
theorem eb_pure (h : ∀ O, EvD O n te ρ d) : EvB n te ρ 0 (fun x => x = d) := fun O p c σ H hn s hc Q q =>
  h O σ H hn s.sd _ fun v H1 e1 d1 => q v d H1 rfl (Ex.o _ e1) (s.box.ex e1) d1
theorem eb_wk (h : EvB n te ρ k S) (hk : k ≤ k1) (hs : ∀ d, S d → S1 d) : EvB n te ρ k1 S1 := fun O p c σ H hn s hc Q q =>
  h O p c σ H hn s (by omega) Q fun v d H1 hd e1 b1 d1 => q v d H1 (hs d hd) e1 (b1.mono (by omega)) d1
theorem eba_nil : EvBA n tNil ρ 0 (fun ds => ds = []) := fun O p c σ H hn s hc Q q => q [] [] H rfl (ExO.refl _ H) s.box .nil
theorem eba_cons {A : List PyData → Prop} (ha : EvB n ta ρ k1 S1) (hr : EvBA n tr ρ k2 A) : EvBA n (tCons ta tr) ρ (k1 + k2) (fun ds => ∃ d r, ds = d :: r ∧ S1 d ∧ A r) := fun O p c σ H hn s hc Q q =>
  ha O p c σ H hn s (by omega) _ fun v d H1 hd e1 b1 d1 => hr O p (c + k1) σ H1 hn (s.step e1 b1) (by omega) _ fun vs ds H2 hds e2 b2 d2 =>
    q _ _ H2 ⟨d, ds, rfl, hd, hds⟩ (e1.trans e2) (by rw [← Nat.add_assoc]; exact b2) (.cons (d1.mono (exo_more e2 s.mem)) d2)
theorem eba_pure (h : ∀ O, EvDA O n tr ρ ds) : EvBA n tr ρ 0 (fun x => x = ds) := fun O p c σ H hn s hc Q q =>
  h O σ H hn s.sd _ fun v H1 e1 d1 => q v ds H1 rfl (Ex.o _ e1) (s.box.ex e1) d1
theorem eb_op (ha : EvB n ta ρ k1 S1) (hb : EvB n tb ρ k2 S2) (hr : ∀ x y, S1 x → S2 y → ∃ z, S z ∧ ∀ O, RD O r x y z) : EvB n (tOp r ta tb) ρ (k1 + k2) S := fun O p c σ H hn s hc Q q =>
  ha O p c σ H hn s (by omega) _ fun v x H1 hx e1 b1 d1 => hb O p (c + k1) σ H1 hn (s.step e1 b1) (by omega) _ fun w y H2 hy e2 b2 d2 => by
    obtain ⟨z, hz, h⟩ := hr x y hx hy
    refine h O H2 v w (own_o (e1.trans e2) b2 s.sd.own) (d1.mono (exo_more e2 s.mem)) d2 Q fun u H3 e3 d3 => ?_
    exact q u z H3 hz ((e1.trans e2).trans (Ex.o _ e3)) (by rw [← Nat.add_assoc]; exact b2.ex e3) d3
theorem eb_lst {A : List PyData → Prop} (h : EvBA n tr ρ k A) (hl : ∀ ds, A ds → ds.length ≤ 100000) : EvB n (tLst tr) ρ k (fun d => ∃ ds, d = .list ds ∧ A ds) := fun O p c σ H hn s hc Q q =>
  h O p c σ H hn s hc _ fun vs ds H1 hd e1 b1 d1 => ⟨by rw [d1.length]; exact sz_of (hl ds hd), fun l nl => by
    refine q _ (.list ds) _ ⟨ds, rfl, hd⟩ (e1.trans (Ex.o _ (Ex.new nl))) (b1.ex (Ex.new nl)) (.lst (sub_mk upd_same (not_own (own_o e1 b1 s.sd.own) nl)) (d1.mono (Ex.o O (Ex.new nl))))⟩
theorem eb_tup {A : List PyData → Prop} (h : EvBA n tr ρ k A) (hl : ∀ ds, A ds → ds.length ≤ 100000) : EvB n (tTup tr) ρ k (fun d => ∃ ds, d = .tuple ds ∧ A ds) := fun O p c σ H hn s hc Q q =>
  h O p c σ H hn s hc _ fun vs ds H1 hd e1 b1 d1 => ⟨by rw [d1.length]; exact sz_of (hl ds hd), fun l nl => by
    refine q _ (.tuple ds) _ ⟨ds, rfl, hd⟩ (e1.trans (Ex.o _ (Ex.new nl))) (b1.ex (Ex.new nl)) (.tup (sub_mk upd_same (not_own (own_o e1 b1 s.sd.own) nl)) (d1.mono (Ex.o O (Ex.new nl))))⟩
theorem eb_cb {A : List PyData → Prop} {rc : List V → Hp → VK → Prop} (h : EvBA n tr ρ k A) (hr : ∀ ds, A ds → ∃ z, S z ∧ ∀ O, RDC O rc ds z) : EvB n (tCB rc tr) ρ k S := fun O p c σ H hn s hc Q q =>
  h O p c σ H hn s hc _ fun vs ds H1 hd e1 b1 d1 => by
    obtain ⟨z, hz, h⟩ := hr ds hd
    exact h O H1 vs (own_o e1 b1 s.sd.own) d1 Q fun u H2 e2 d2 => q u z H2 hz (e1.trans (Ex.o _ e2)) (b1.ex e2) d2
/-- one draw -/
theorem eb_take (h : EvB n te ρ k (fun d => ∃ m : Int, d = .int m ∧ 0 < m ∧ m.natAbs.log2 < 9000 ∧ ∀ r : Int, 0 ≤ r → r < m → S (.int r))) : EvB n (tCall spTake [] E (tCons (tVar 0) (tCons te tNil))) ρ (k + 1) S := fun O p c σ H hn s hc Q q => by
  refine ⟨_, s.bx, h O p c σ H hn s (by omega) _ fun v d H1 hd e1 b1 d1 => ?_⟩
  obtain ⟨m, rfl, m0, m1, hm⟩ := hd
  cases d1
  exact ⟨p, c + k, m, rfl, b1, by omega, m0, m1, fun r H2 r0 r1 e2 b2 => q _ _ H2 (hm r r0 r1) (e1.trans e2) (by rw [← Nat.add_assoc]; exact b2) (.int r)⟩
theorem eb_draw {m : Int} (h : ∀ O, EvD O n te ρ (.int m)) (m0 : 0 < m) (m1 : m.natAbs.log2 < 9000) (hm : ∀ r : Int, 0 ≤ r → r < m → S (.int r)) : EvB n (tCall spTake [] E (tCons (tVar 0) (tCons te tNil))) ρ 1 S :=
  eb_wk (eb_take (S := S) (eb_wk (eb_pure h) (Nat.le_refl 0) fun d e => by
    subst e
    exact ⟨m, rfl, m0, m1, hm⟩)) (Nat.le_refl 1) fun d z => z
/-- one of the goods -/
theorem eb_of (h : EvB n te ρ k (fun d => ∃ ds, d = .list ds ∧ 0 < ds.length ∧ ds.length ≤ 1000 ∧ ∀ e, e ∈ ds → isFlat e = true ∧ S e)) : EvB n (tCall spOf [] E (tCons (tVar 0) (tCons te tNil))) ρ (k + 1) S := fun O p c σ H hn s hc Q q => by
  refine ⟨_, s.bx, h O p c σ H hn s (by omega) _ fun v d H1 hd e1 b1 d1 => ?_⟩
  obtain ⟨ds, rfl, l0, l1, hs⟩ := hd
  refine ⟨p, c + k, v, ds, rfl, b1, by omega, d1.mono (sub_less fun a ha => by rw [List.mem_singleton.mp ha]; exact s.mem), l0, l1, fun d w H2 hd dw e2 b2 => ?_⟩
  obtain ⟨f, hS⟩ := hs d hd
  exact q w d H2 hS (e1.trans e2) (by rw [← Nat.add_assoc]; exact b2) (flat_dq dw f)
theorem eb_if {B : Bool → Prop} (h : EvBT n tt ρ k B) (h1 : B true → EvB n ta ρ k1 S) (h2 : B false → EvB n tb ρ k1 S) : EvB n (tIf tt ta tb) ρ (k + k1) S := fun O p c σ H hn s hc Q q =>
  h O p c σ H hn s (by omega) _ fun b H1 hb e1 b1 => by
    cases b with
    | true =>
      show (if true = true then _ else _)
      rw [if_pos rfl]
      exact h1 hb O p (c + k) σ H1 hn (s.step e1 b1) (by omega) Q fun v d H2 hd e2 b2 d2 => q v d H2 hd (e1.trans e2) (by rw [← Nat.add_assoc]; exact b2) d2
    | false =>
      show (if false = true then _ else _)
      rw [if_neg Bool.false_ne_true]
      exact h2 hb O p (c + k) σ H1 hn (s.step e1 b1) (by omega) Q fun v d H2 hd e2 b2 d2 => q v d H2 hd (e1.trans e2) (by rw [← Nat.add_assoc]; exact b2) d2
theorem ebt_test {B : Bool → Prop} (h : EvB n te ρ k (fun d => ∃ b, d = .bool b ∧ B b)) : EvBT n (tTest te) ρ k B := fun O p c σ H hn s hc Q q =>
  h O p c σ H hn s hc _ fun v d H1 hd e1 b1 d1 => by
    obtain ⟨b, rfl, hb⟩ := hd
    cases d1
    exact ⟨b, rfl, q b H1 hb e1 b1⟩
theorem ebt_B {B : Bool → Prop} (h : EvB n te ρ k (fun d => ∃ b, d = .bool b ∧ B b)) : EvBT n (tB te) ρ k B := fun O p c σ H hn s hc Q q =>
  h O p c σ H hn s hc _ fun v d H1 hd e1 b1 d1 => by
    obtain ⟨b, rfl, hb⟩ := hd
    cases d1
    exact ⟨b, rfl, q b H1 hb e1 b1⟩
theorem ebt_not {B : Bool → Prop} (h : EvBT n tt ρ k (fun b => B (!b))) : EvBT n (tNot tt) ρ k B := fun O p c σ H hn s hc Q q => h O p c σ H hn s hc _ fun b H1 hb e1 b1 => q (!b) H1 hb e1 b1
theorem ebt_pure {b : Bool} (h : ∀ O, EvDT O n tt ρ b) : EvBT n tt ρ 0 (fun x => x = b) := fun O p c σ H hn s hc Q q =>
  h O σ H hn s.sd _ fun H1 e1 => q b H1 rfl (Ex.o _ e1) (s.box.ex e1)
/-- a call of a pure def on drawn data -/
theorem eb_callD {A : List PyData → Prop} {R : List PyData → PyData → Prop} (h : EvBA n tr ρ k A) (hR : ∀ ds, A ds → ∃ d, R ds d ∧ S d) : EvB n (tCall (spD R) [] E tr) ρ k S := fun O p c σ H hn s hc Q q =>
  h O p c σ H hn s hc _ fun vs ds H1 hd e1 b1 d1 => by
    obtain ⟨d, hRd, hS⟩ := hR ds hd
    exact ⟨O, ds, d, own_o e1 b1 s.sd.own, by rw [List.append_nil]; exact d1, hRd, fun v H2 e2 d2 => q v d H2 hS (e1.trans (Ex.o _ e2)) (b1.ex e2) d2⟩
/-- what a def that draws promises -/
def spB (kf : Nat) (R : List PyData → (PyData → Prop) → Prop) : Sp := fun vs H Q _ => ∃ (O : List Addr) (p : Addr) (c : Nat) (us : List V) (ds : List PyData) (S : PyData → Prop), vs = .ref p :: us ∧ p ∈ O ∧ (∀ a, a ∈ O → H a ≠ none) ∧ Box p c H ∧ c + kf ≤ 1000000 ∧ DqAll (sub H O) us ds ∧ R ds S ∧
  ∀ v d H', S d → ExO [p] H H' → Box p (c + kf) H' → Dq (sub H' O) v d → Q v H'
theorem eb_call {kf : Nat} {A : List PyData → Prop} {R : List PyData → (PyData → Prop) → Prop} (h : EvBA n tr ρ k A) (hR : ∀ ds, A ds → R ds S) : EvB n (tCall (spB kf R) [] E (tCons (tVar 0) tr)) ρ (k + kf) S := fun O p c σ H hn s hc Q q => by
  refine ⟨_, s.bx, h O p c σ H hn s (by omega) _ fun vs ds H1 hd e1 b1 d1 => ?_⟩
  refine ⟨O, p, c + k, vs, ds, S, by rw [List.append_nil], s.mem, own_o e1 b1 s.sd.own, b1, by omega, d1, hR ds hd, fun v d H2 hS e2 b2 d2 => ?_⟩
  exact q v d H2 hS (e1.trans e2) (by rw [← Nat.add_assoc]; exact b2) d2
/-! statements -/
theorem rb_asg (h : EvB n te ρ k S) (hi : i < n) (h0 : i ≠ 0) : RunB n [i] (tAsg te (gName i)) ρ k (fun ρ' => ∃ d, S d ∧ ρ' = ρ.set i (some d)) := fun O p c D σ H hn s hc q =>
  h O p c σ H hn s hc _ fun v d H1 hd e1 b1 d1 => q _ _ H1 ⟨d, hd, rfl⟩ (by rw [List.length_set]; exact hn) (fun j hj => by rw [List.getElem?_set_ne fun z => hj (List.mem_singleton.mpr z.symm)]) e1 ((s.step e1 b1).put d1 (by rw [hn]; exact hi) h0)
theorem rb_par {A : List PyData → Prop} (h : EvBA n tr ρ k A) (hA : ∀ ds, A ds → ∃ x y, ds = [x, y]) (hi : i < n) (hj : j < n) (h0 : i ≠ 0) (h1 : j ≠ 0) : RunB n [i, j] (tPar i j tr) ρ k (fun ρ' => ∃ x y, A [x, y] ∧ ρ' = (ρ.set i (some x)).set j (some y)) := fun O p c D σ H hn s hc q =>
  h O p c σ H hn s hc _ fun vs ds H1 hd e1 b1 d1 => by
    obtain ⟨x, y, rfl⟩ := hA ds hd
    cases d1 with
    | cons a1 k1 =>
      cases k1 with
      | cons a2 k2 =>
        cases k2
        refine ⟨_, _, rfl, q _ _ H1 ⟨x, y, hd, rfl⟩ (by rw [List.length_set, List.length_set]; exact hn) (fun m hm => ?_) e1 (((s.step e1 b1).put a1 (by rw [hn]; exact hi) h0).put a2 (by rw [List.length_set, hn]; exact hj) h1)⟩
        rw [List.getElem?_set_ne fun z => hm (by rw [← z]; simp), List.getElem?_set_ne fun z => hm (by rw [← z]; simp)]
theorem rb_wk {T T' : Rho → Prop} (h : RunB n vs t ρ k T) (hk : k ≤ k1) (hv : ∀ i, i ∈ vs → i ∈ ws) (hs : ∀ ρ', T ρ' → T' ρ') : RunB n ws t ρ k1 T' := fun O p c D σ H hn s hc q =>
  h O p c D σ H hn s (by omega) fun ρ' σ' H' hT hl hc' e b => q ρ' σ' H' (hs ρ' hT) hl (fun i hi => hc' i fun z => hi (hv i z)) e ⟨b.sd, b.bx, b.box.mono (by omega), b.mem, b.fr⟩
theorem rb_seq {T T' : Rho → Prop} (h1 : RunB n vs t ρ k1 T) (h2 : ∀ ρ1, T ρ1 → RunB n vs u ρ1 k2 T') : RunB n vs (tSeq t u) ρ (k1 + k2) T' := fun O p c D σ H hn s hc q =>
  h1 O p c _ σ H hn s (by omega) fun ρ1 σ1 H1 hT l1 c1 e1 s1 => h2 ρ1 hT O p (c + k1) D σ1 H1 l1 s1 (by omega) fun ρ2 σ2 H2 hT2 l2 c2 e2 s2 =>
    q ρ2 σ2 H2 hT2 l2 (fun i hi => (c2 i hi).trans (c1 i hi)) (e1.trans e2) (by rw [← Nat.add_assoc]; exact s2)
theorem rb_next : RunB n vs tNext ρ 0 (fun ρ' => ρ' = ρ) := fun O p c D σ H hn s hc q => q ρ σ H rfl hn (fun _ _ => rfl) (ExO.refl _ H) s
theorem rb_if {B : Bool → Prop} {T : Rho → Prop} (h : EvBT n tt ρ k B) (h1 : B true → RunB n vs t ρ k1 T) (h2 : B false → RunB n vs u ρ k1 T) : RunB n vs (tIfS tt t u) ρ (k + k1) T := fun O p c D σ H hn s hc q =>
  h O p c σ H hn s (by omega) _ fun b H1 hb e1 b1 => by
    cases b with
    | true => exact iteT (h1 hb O p (c + k) D σ H1 hn (s.step e1 b1) (by omega) fun ρ2 σ2 H2 hT l2 c2 e2 s2 => q ρ2 σ2 H2 hT l2 c2 (e1.trans e2) (by rw [← Nat.add_assoc]; exact s2))
    | false => exact iteF (h2 hb O p (c + k) D σ H1 hn (s.step e1 b1) (by omega) fun ρ2 σ2 H2 hT l2 c2 e2 s2 => q ρ2 σ2 H2 hT l2 c2 (e1.trans e2) (by rw [← Nat.add_assoc]; exact s2))
theorem rbr_ret (h : EvB n te ρ k S) : RunBR n (tRet te) ρ k S := fun O p c D σ H hn s hc q => h O p c σ H hn s hc _ q
theorem rbr_wk (h : RunBR n t ρ k S) (hk : k ≤ k1) (hs : ∀ d, S d → S1 d) : RunBR n t ρ k1 S1 := fun O p c D σ H hn s hc q =>
  h O p c D σ H hn s (by omega) fun v d H' hd e b dd => q v d H' (hs d hd) e (b.mono (by omega)) dd
theorem rbr_seq {T : Rho → Prop} (h1 : RunB n vs t ρ k1 T) (h2 : ∀ ρ1, T ρ1 → RunBR n u ρ1 k2 S) : RunBR n (tSeq t u) ρ (k1 + k2) S := fun O p c D σ H hn s hc q =>
  h1 O p c _ σ H hn s (by omega) fun ρ1 σ1 H1 hT l1 c1 e1 s1 => h2 ρ1 hT O p (c + k1) D σ1 H1 l1 s1 (by omega) fun v d H2 hd e2 b2 d2 => q v d H2 hd (e1.trans e2) (by rw [← Nat.add_assoc]; exact b2) d2
theorem rbr_pure (h : ∀ O, RunR O n t ρ d) : RunBR n t ρ 0 (fun x => x = d) := fun O p c D σ H hn s hc q =>
  h O D σ H hn s.sd fun v H1 e1 d1 => q v d H1 rfl (Ex.o _ e1) (s.box.ex e1) d1
/-- if c: return ..; the rest, c known -/
theorem rbr_when {B : Bool → Prop} (h : EvBT n tt ρ k B) (h1 : B true → RunBR n t ρ k1 S) (h2 : B false → RunBR n u ρ k1 S) : RunBR n (tSeq (tIfS tt t tNext) u) ρ (k + k1) S := fun O p c D σ H hn s hc q =>
  h O p c σ H hn s (by omega) _ fun b H1 hb e1 b1 => by
    cases b with
    | true => exact iteT (h1 hb O p (c + k) _ σ H1 hn (s.step e1 b1) (by omega) fun v d H2 hd e2 b2 d2 => q v d H2 hd (e1.trans e2) (by rw [← Nat.add_assoc]; exact b2) d2)
    | false => exact iteF (h2 hb O p (c + k) D σ H1 hn (s.step e1 b1) (by omega) fun v d H2 hd e2 b2 d2 => q v d H2 hd (e1.trans e2) (by rw [← Nat.add_assoc]; exact b2) d2)
/-- for j in range(..): .. -/
theorem rb_forR {M : Nat} (Iv : Nat → Rho → Prop) (h : EvB n te ρ k (fun d => ∃ m : Nat, d = .int (m : Int) ∧ m ≤ M)) (hM : M ≤ 1000) (hj : j < n) (hj0 : j ≠ 0) (hjv : j ∈ vs) (h0 : Iv 0 ρ)
    (hb : ∀ i, i < M → ∀ ρi, Iv i ρi → RunB n vs t (ρi.set j (some (.int (i : Int)))) k1 (Iv (i + 1))) : RunB n vs (tFor (iRng1 (tCons te tNil)) (gName j) t) ρ (k + M * k1) (fun ρ' => ∃ i, i ≤ M ∧ Iv i ρ') := fun O p c D σ H hn s hc q => by
  refine h O p c σ H hn s (by omega) _ fun v d H1 hd e1 b1 d1 => ?_
  obtain ⟨m, rfl, hm⟩ := hd
  cases d1
  refine ⟨(m : Int), rfl, by omega, by omega, ?_⟩
  have s1 := s.step e1 b1
  have e : ((m : Int)).toNat = m := by omega
  rw [e]
  refine for_it walk_range (fun i σ2 H2 => ∃ ρ2, Iv i ρ2 ∧ σ2.length = n ∧ (∀ a, a ∉ vs → σ2[a]? = σ[a]?) ∧ ExO [p] H H2 ∧ SB O p (c + k + i * k1) H2 σ2 ρ2) ⟨ρ, h0, hn, fun _ _ => rfl, e1, by rw [Nat.zero_mul]; exact s1⟩ (fun _ _ _ _ _ => True.intro) ?_ ?_
  · rintro i x σ2 H2 H3 hi ⟨ρ2, hI, l2, c2, e2, s2⟩ ⟨rfl, rfl⟩
    have hx : Dq (sub H3 O) (V.int (0 + (i : Int))) (.int (i : Int)) := by
      rw [Int.zero_add]
      exact .int _
    have hM2 : (i + 1) * k1 ≤ M * k1 := Nat.mul_le_mul_right _ (by omega)
    have hM3 : (i + 1) * k1 = i * k1 + k1 := Nat.succ_mul i k1
    refine hb i (by omega) ρ2 hI O p (c + k + i * k1) _ _ H3 (by rw [List.length_set]; exact l2) (s2.put hx (by rw [l2]; exact hj) hj0) (by omega) fun ρ3 σ3 H4 hT l3 c3 e3 s3 => ⟨ρ3, hT, l3, fun a ha => ?_, e2.trans e3, by rw [hM3, ← Nat.add_assoc]; exact s3⟩
    rw [c3 a ha, List.getElem?_set_ne fun z => ha (by rw [← z]; exact hjv)]
    exact c2 a ha
  · rintro σ2 H2 ⟨ρ2, hI, l2, c2, e2, s2⟩
    have hM2 : m * k1 ≤ M * k1 := Nat.mul_le_mul_right _ hm
    exact q ρ2 σ2 H2 ⟨m, hm, hI⟩ l2 c2 e2 ⟨s2.sd, s2.bx, s2.box.mono (by omega), s2.mem, s2.fr⟩
/-! comprehensions -/
/-- items of two lists, one by one -/
def Pair2 (P : PyData → PyData → Prop) (ds es : List PyData) : Prop := es.length = ds.length ∧ ∀ (i : Nat) (d e : PyData), ds[i]? = some d → es[i]? = some e → P d e
/-- what is walked, from here -/
def IterAt (O : List Addr) (wi : TI) (σ : L2.St) (H : Hp) (ds : List PyData) : Prop := ∀ R : It → Hp → Prop,
  (∀ (J : It) (H1 : Hp) (G : List Addr → Hp → Prop) (Y : Nat → Hp → V → Hp → Prop), Ex H H1 → (∀ P, Walk J ds.length (G P) Y) → G O H1 → (∀ P P' H2 H3, G P H2 → Ex (sub H2 P) (sub H3 P') → G P' H3) →
    (∀ P i H2 x H3, i < ds.length → (∀ a, a ∈ P → H2 a ≠ none) → G P H2 → Y i H2 x H3 → Ex H2 H3 ∧ ∃ d, ds[i]? = some d ∧ Dq (sub H3 P) x d) → R J H1) → wi σ H R
theorem itAt_tup {O : List Addr} {σ : L2.St} {H : Hp} {v : V} (h : Dq (sub H O) v (.tuple ds)) : IterAt O (iTup K (fun _ H Q => Q v H)) σ H ds := fun R q => by
  cases h with
  | @tup a xs _ ha k =>
    refine ⟨a, rfl, ⟨xs, st_of (sub_of ha).1⟩, q (Itt K a) H (fun P H2 => sub H2 P a = some (.tup xs) ∧ DqAll (sub H2 P) xs ds) (YAt xs) (Ex.refl H) (fun P => ?_) ⟨ha, k⟩ (fun P P' H2 H3 g e => ⟨e _ _ g.1, g.2.mono e⟩) ?_⟩
    · rw [← k.length]
      exact walk_tup.mono (fun H2 g => st_of (sub_of g.1).1) fun _ _ _ _ _ _ y => y
    · rintro P i H2 x H3 _ _ ⟨g1, g2⟩ ⟨rfl, hx⟩
      obtain ⟨d, h1, h2⟩ := g2.getV hx
      exact ⟨Ex.refl _, d, h1, h2⟩
theorem lc_at {wi : TI} {g : TG} {P : PyData → PyData → Prop} {O : List Addr} {p : Addr} {c : Nat} {σ : L2.St} {H : Hp} (hw : IterAt O wi σ H ds) (hn : σ.length = n) (s : SB O p c H σ ρ) (hc : c + ds.length * k1 ≤ 1000000) (hl : ds.length ≤ 1000) (hv0 : 0 ∉ vs) (h : ∀ (i : Nat) (d : PyData), ds[i]? = some d → ∃ ρ', (∀ O, TgD O n vs g (wipeR ρ vs) d ρ') ∧ ρ'[0]? = some none ∧ EvB n te ρ' k1 (P d)) :
    ∀ Q : VK, (∀ v x H', (∃ es, x = .list es ∧ Pair2 P ds es) → ExO [p] H H' → Box p (c + ds.length * k1) H' → Dq (sub H' O) v x → Q v H') → tLc wi g tYes te vs σ H Q := fun Q q => hw _ fun J H1 G Y e1 W g1 gk yk => by
  intro D hD
  have lw : (L2.wipe σ vs).length = n := by rw [L2.wipe_length]; exact hn
  have s1 := s.step (Ex.o [p] e1) (s.box.ex e1)
  have Dp : D ≠ p := fun z => s1.box.own D (List.mem_singleton.mpr z) hD
  have DO : D ∉ O := not_own s1.sd.own hD
  -- what was there but for the box
  have toG : ∀ (O' : List Addr) (H2 : Hp), ExO [p] H1 H2 → (∀ a, a ∈ O' → a ∈ D :: O) → Ex (sub H1 O) (sub H2 O') := fun O' H2 e2 hO a o ha => by
    obtain ⟨h1, h2⟩ := sub_of ha
    refine sub_mk (e2.at h1 fun z => h2 (by rw [List.mem_singleton.mp z]; exact s.mem)) fun z => ?_
    rcases List.mem_cons.mp (hO a z) with z | z
    · rw [z, hD] at h1
      cases h1
    · exact h2 z
  refine lc_it (W O) (fun i H2 => ∃ acc es, H2 D = some (.lst acc) ∧ DqAll (sub H2 (D :: O)) acc es ∧ Pair2 P (ds.take i) es ∧ ExO [p] H1 H2 ∧ Box p (c + i * k1) H2) ⟨[], [], upd_same, .nil, ⟨by simp, fun i d e h1 h2 => by cases h2⟩, Ex.o _ (Ex.new hD), by rw [Nat.zero_mul]; exact s1.box.ex (Ex.new hD)⟩ ?_ ?_ ?_
  · rintro i H2 _ ⟨acc, es, _, _, _, k2, _⟩
    exact gk _ _ _ _ g1 (toG O H2 k2 fun a ha => List.mem_cons_of_mem _ ha)
  · rintro i x H2 H3 hi ⟨acc, es, hA, hd, hP, k2, b2⟩ y
    have own2 : ∀ a, a ∈ D :: O → H2 a ≠ none := fun a ha => by
      rcases List.mem_cons.mp ha with rfl | ha
      · rw [hA]
        exact fun z => by cases z
      · exact own_o k2 b2 s1.sd.own a ha
    obtain ⟨e3, d, hdi, hx⟩ := yk (D :: O) i H2 x H3 hi own2 (gk _ _ _ _ g1 (toG _ H2 k2 fun a ha => ha)) y
    obtain ⟨ρ', ht, hf, hte⟩ := h i d hdi
    have k3 := k2.trans (Ex.o [p] e3)
    have sd3 : SD (D :: O) H3 σ ρ := ⟨own_ex e3 own2, fun a e he => by
      obtain ⟨v, h1, h2⟩ := s1.sd.at' a e he
      exact ⟨v, h1, h2.mono (toG _ H3 k3 fun a ha => ha)⟩⟩
    refine ht (D :: O) (L2.wipe σ vs) H3 x lw (sd3.wipe vs) hx _ fun σ' hl' hc' s' => ⟨?_, ?_⟩
    · have ew : L2.wipe (L2.wipe σ vs) vs = L2.wipe σ vs := by
        refine wipe_ext (by rw [L2.wipe_length]) fun i hi => L2.wipe_out hi
      rw [wipe_ext (by rw [hl', lw]) hc', ew]
    · have hM : (i + 1) * k1 = i * k1 + k1 := Nat.succ_mul i k1
      have hM2 : (i + 1) * k1 ≤ ds.length * k1 := Nat.mul_le_mul_right _ hi
      have bx' : σ'[0]? = some (some (.ref p)) := by
        rw [hc' 0 hv0, L2.wipe_out hv0]
        exact s.bx
      refine hte (D :: O) p (c + i * k1) σ' H3 hl' ⟨s', bx', b2.ex e3, List.mem_cons_of_mem _ s.mem, hf⟩ (by omega) _ fun w e H4 hS e4 b4 d4 => ⟨acc, e4.at (e3 _ _ hA) (fun z => Dp (List.mem_singleton.mp z)), ?_, ?_⟩
      · have q1 := hd.length
        have q2 := hP.1
        rw [List.length_take] at q2
        exact sz_lt (by omega)
      · have k4 := k3.trans e4
        refine ⟨_, es ++ [e], upd_same, ?_, ⟨?_, ?_⟩, ?_, ?_⟩
        · rw [sub_upd (List.mem_cons_self ..)]
          exact (hd.mono ((Ex.o (D :: O) e3).trans (exo_more e4 (List.mem_cons_of_mem _ s.mem)))).append (.cons d4 .nil)
        · have q2 := hP.1
          rw [take_snoc hdi, List.length_append, List.length_append, q2]
          rfl
        · intro a d' e' h1 h2
          rw [take_snoc hdi] at h1
          have q2 := hP.1
          by_cases ca : a < es.length
          · rw [List.getElem?_append_left ca] at h2
            rw [List.getElem?_append_left (by omega)] at h1
            exact hP.2 a d' e' h1 h2
          · rw [List.getElem?_append_right (by omega)] at h2
            rw [List.getElem?_append_right (by omega)] at h1
            rw [← q2] at h1
            cases hz : a - es.length with
            | zero =>
              rw [hz] at h1 h2
              cases h1
              cases h2
              exact hS
            | succ z =>
              rw [hz] at h1
              cases h1
        · intro a o ha
          obtain ⟨h1, h2⟩ := sub_of ha
          have nD : a ≠ D := fun z => by rw [z, hD] at h1; cases h1
          refine sub_mk ?_ h2
          rw [upd_ne nD]
          exact k4.at h1 h2
        · obtain ⟨b0, b1', b2', e', rr⟩ := b4
          rw [hM, ← Nat.add_assoc]
          exact ⟨b0, b1', b2', by rw [upd_ne (Ne.symm Dp)]; exact e', rr⟩
  · rintro H2 ⟨acc, es, hA, hd, hP, k2, b2⟩
    rw [List.take_length] at hP
    exact q _ (.list es) H2 ⟨es, rfl, hP⟩ ((Ex.o [p] e1).trans k2) b2 (.lst (sub_mk hA DO) (hd.mono ex_less))
theorem eb_lc {wi : TI} {g : TG} {P : PyData → PyData → Prop} (hw : ∀ O, IterD O n wi ρ ds) (hl : ds.length ≤ 1000) (hv0 : 0 ∉ vs) (h : ∀ (i : Nat) (d : PyData), ds[i]? = some d → ∃ ρ', (∀ O, TgD O n vs g (wipeR ρ vs) d ρ') ∧ ρ'[0]? = some none ∧ EvB n te ρ' k1 (P d)) :
    EvB n (tLc wi g tYes te vs) ρ (ds.length * k1) (fun x => ∃ es, x = .list es ∧ Pair2 P ds es) := fun O p c σ H hn s hc Q q => lc_at (hw O σ H hn s.sd) hn s hc hl hv0 h Q q
/-- [te for x in t], t a drawn tuple -/
theorem eb_lcT {tl : TE} {g : TG} {P : PyData → PyData → Prop} {A : List PyData → Prop} {M : Nat} (h0 : EvB n tl ρ k (fun x => ∃ ds, x = .tuple ds ∧ A ds)) (hA : ∀ ds, A ds → ds.length ≤ M) (hM : M ≤ 1000) (hv0 : 0 ∉ vs)
    (h : ∀ ds, A ds → ∀ (i : Nat) (d : PyData), ds[i]? = some d → ∃ ρ', (∀ O, TgD O n vs g (wipeR ρ vs) d ρ') ∧ ρ'[0]? = some none ∧ EvB n te ρ' k1 (P d)) :
    EvB n (tLc (iTup K tl) g tYes te vs) ρ (k + M * k1) (fun x => ∃ ds es, A ds ∧ x = .list es ∧ Pair2 P ds es) := fun O p c σ H hn s hc Q q => by
  refine h0 O p c σ H hn s (by omega) _ fun v x H1 hx e1 b1 d1 => ?_
  obtain ⟨ds, rfl, hAd⟩ := hx
  have hm := hA ds hAd
  have hMk : ds.length * k1 ≤ M * k1 := Nat.mul_le_mul_right _ hm
  exact lc_at (itAt_tup (K := K) d1) hn (s.step e1 b1) (by omega) (by omega) hv0 (h ds hAd) Q fun w y H2 hy e2 b2 d2 => by
    obtain ⟨es, rfl, hP⟩ := hy
    exact q w _ H2 ⟨ds, es, hAd, rfl, hP⟩ (e1.trans e2) (b2.mono (by omega)) d2
/-- [te for x in range(te0)], te0 drawn -/
theorem eb_lcR {te0 : TE} {Tm : Nat → Prop} {M : Nat} (h0 : EvB n te0 ρ k (fun d => ∃ m : Nat, d = .int (m : Int) ∧ m ≤ M ∧ Tm m)) (hM : M ≤ 1000) (hj : j < n) (hj0 : j ≠ 0) (h : ∀ i : Nat, i < M → EvB n te ((wipeR ρ [j]).set j (some (.int (i : Int)))) k1 S) :
    EvB n (tLc (iRng1 (tCons te0 tNil)) (gName j) tYes te [j]) ρ (k + M * k1) (fun x => ∃ m es, x = .list es ∧ Tm m ∧ es.length = m ∧ ∀ e, e ∈ es → S e) := fun O p c σ H hn s hc Q q => by
  refine h0 O p c σ H hn s (by omega) _ fun v d H1 hd e1 b1 d1 => ?_
  obtain ⟨m, rfl, hm, hT⟩ := hd
  cases d1
  have it : ∀ O, IterD O n (iRng1 (tCons (tC (.int (m : Int))) tNil)) ρ (rngD m) := fun O => it_rng (ea_cons ed_int ea_nil) (by omega)
  have lr : (rngD m).length = m := by
    unfold rngD
    rw [List.length_map, List.length_range]
  have rs : ∀ (r : Rho), r[0]? = some none → (wipeR r [j])[0]? = some none := fun r hr => by
    show (r.set j none)[0]? = _
    rw [List.getElem?_set_ne hj0]
    exact hr
  have hMk : m * k1 ≤ M * k1 := Nat.mul_le_mul_right _ hm
  have q1 := eb_lc (n := n) (te := te) (k1 := k1) (vs := [j]) (g := gName j) (P := fun _ e => S e) it (by rw [lr]; omega) (fun z => hj0 (List.mem_singleton.mp z).symm) (fun i d hd => by
    have hi : i < m := by
      have q := (List.getElem?_eq_some_iff.mp hd).1
      rw [lr] at q
      exact q
    unfold rngD at hd
    rw [List.getElem?_map, List.getElem?_range hi] at hd
    cases hd
    refine ⟨_, fun O => tg_name hj (List.mem_singleton.mpr rfl), ?_, h i (by omega)⟩
    rw [List.getElem?_set_ne hj0]
    exact rs ρ s.fr)
  refine q1 O p (c + k) σ H1 hn (s.step e1 b1) (by rw [lr]; omega) Q fun w x H2 hx e2 b2 d2 => ?_
  obtain ⟨es, rfl, hP⟩ := hx
  rw [lr] at b2
  refine q w _ H2 ⟨m, es, rfl, hT, by rw [hP.1, lr], fun e he => ?_⟩ (e1.trans e2) (b2.mono (by omega)) d2
  obtain ⟨i, hi, rfl⟩ := List.getElem_of_mem he
  have hi2 : i < (rngD m).length := by rw [← hP.1]; exact hi
  exact hP.2 i _ _ (List.getElem?_eq_getElem hi2) (List.getElem?_eq_getElem hi)
end
/-! ### a def that draws -/
def argB (N : List Str) (ds : List PyData) : Rho := none :: (ds.map some ++ List.replicate (N.length - 1 - ds.length) none)
section
variable {P : Program} {w : World} {K : PySem.W.Frag} {mg : Str → Option Value} {base : Heap}
theorem draw_ok {kf : Nat} {R : List PyData → (PyData → Prop) → Prop} {x qual : Str} {st : Stmt} {f : Addr} {fd : FuncData} {N ps : List Str} {k : Nat} (F : Fun K x qual st f fd) (S : FnScope N ps (defScope st)) (hl : ∀ ds T, R ds T → ds.length + 1 = ps.length) (hp : ps.length ≤ N.length)
    (body : ∀ (cdv : Value) (A : Around) (outer : List Env) (s : Shared) (H : Hp) (E : XK), Room k (A.deeper (envOfC qual (defScope st) s.heap.objs.size f cdv)) →
      ∃ t, PSs (cxOf CX0 P w K mg base N qual (defScope st) f cdv A outer s H E).nox (defBody st) t ∧ ∀ ds T, R ds T → RunBR N.length t (argB N ds) kf T) : FnOk P w K mg base CX0 (k + 1) f fd ps (spB kf R) := by
  refine F.ok S (fun vs H Q E h => ?_) (fun cdv A outer s H vs Q E hr h => ?_)
  · obtain ⟨O, p, c, us, ds, T, rfl, _, _, _, _, hd, hR, _⟩ := h
    show us.length + 1 = _
    rw [hd.length]
    exact hl ds T hR
  · obtain ⟨t, ht, hb⟩ := body cdv A outer s H E hr
    obtain ⟨O, p, c, us, ds, T, rfl, hpO, ho, bx, hc, hd, hR, q⟩ := h
    have lds : us.length + 1 ≤ N.length := by
      rw [hd.length, hl ds T hR]
      exact hp
    have e1 : L2.start N (.ref p :: us) = some (.ref p) :: (us.map some ++ List.replicate (N.length - 1 - us.length) none) := by
      unfold L2.start
      show some (V.ref p) :: (us.map some ++ List.replicate (N.length - (us.length + 1)) none) = _
      rw [show N.length - (us.length + 1) = N.length - 1 - us.length by omega]
    refine ⟨t, ht, hb ds T hR O p c _ (L2.start N (.ref p :: us)) H (start_len lds) ⟨⟨ho, fun i d e => ?_⟩, by rw [e1]; rfl, bx, hpO, rfl⟩ hc q⟩
    rw [e1]
    cases i with
    | zero => cases e
    | succ i =>
      have e : (ds.map some ++ List.replicate (N.length - 1 - ds.length) none)[i]? = some (some d) := e
      by_cases hi : i < ds.length
      · rw [List.getElem?_append_left (by rw [List.length_map]; exact hi), List.getElem?_map] at e
        have q : ds[i]? = some d := by
          cases z : ds[i]? with
          | none =>
            rw [z] at e
            cases e
          | some d' =>
            rw [z] at e
            cases e
            rfl
        obtain ⟨v, h1, h2⟩ := hd.get q
        refine ⟨v, ?_, h2⟩
        show (us.map some ++ _)[i]? = _
        have hv : i < us.length := by rw [hd.length]; exact hi
        rw [List.getElem?_append_left (by rw [List.length_map]; exact hv), List.getElem?_map, h1]
        rfl
      · rw [List.getElem?_append_right (by rw [List.length_map]; omega), List.getElem?_replicate] at e
        split at e <;> cases e
end
end DL
/-! DZ2: found = []; for j in range(..): ..; found.append(drawn); return tuple(found). -/
namespace DL
open PySem L2 Evl PyProof.Rows TL RZ
theorem wipeR_get {ρ : Rho} {a : Nat} {d : PyData} : ∀ {ws : List Nat}, (wipeR ρ ws)[a]? = some (some d) → a ∉ ws ∧ ρ[a]? = some (some d)
  | [], h => ⟨fun z => (by cases z), h⟩
  | v :: ws, h => by
    have h : ((wipeR ρ ws).set v none)[a]? = some (some d) := h
    by_cases c : v = a
    · subst c
      have hb : v < (wipeR ρ ws).length := by
        have q := (List.getElem?_eq_some_iff.mp h).1
        rw [List.length_set] at q
        exact q
      rw [List.getElem?_set_self hb] at h
      cases h
    · rw [List.getElem?_set_ne c] at h
      obtain ⟨h1, h2⟩ := wipeR_get h
      exact ⟨fun z => by
        rcases List.mem_cons.mp z with z | z
        · exact c z.symm
        · exact h1 z, h2⟩
def RunApp (n f : Nat) (ws : List Nat) (t : TS) (ρ : Rho) (k : Nat) (S : PyData → Prop) : Prop := ∀ (O : List Addr) (p L : Addr) (c : Nat) (D : Ends) (σ : L2.St) (H : Hp) (xs : List V) (es : List PyData), σ.length = n → SB O p c H σ ρ → L ∈ O → L ≠ p → σ[f]? = some (some (.ref L)) →
  H L = some (.lst xs) → DqAll (sub H O) xs es → es.length ≤ 1000 → c + k ≤ 1000000 →
  (∀ σ' H' xs' e, S e → σ'.length = n → (∀ a, a ∉ ws → σ'[a]? = σ[a]?) → ExO [p, L] H H' → Box p (c + k) H' → H' L = some (.lst xs') → DqAll (sub H' O) xs' (es ++ [e]) → D.nx σ' H') → t D σ H
section
variable {n f j k k1 k2 : Nat} {ρ : Rho} {te te0 : TE} {t u tb : TS} {S : PyData → Prop} {K : PySem.W.Frag} {ws : List Nat}
theorem ra_append (h : EvB n te ρ k S) : RunApp n f ws (tDrop (tBM K "list" rAppend (tVar f) (tCons te tNil))) ρ k S := fun O p L c D σ H xs es hn s hL hLp hf hx hd hl hc q => by
  refine ⟨_, hf, ty_lst hx, h O p c σ H hn s hc _ fun v e H1 he e1 b1 d1 => ?_⟩
  have hx1 : H1 L = some (.lst xs) := e1.at hx fun z => hLp (List.mem_singleton.mp z)
  have hd1 := hd.mono (exo_more e1 s.mem)
  refine ⟨L, xs, v, rfl, rfl, hx1, Nat.lt_of_le_of_lt (show xs.length ≤ 1000 by have q := hd1.length; omega) (by decide), ?_⟩
  refine q σ _ _ e he hn (fun _ _ => rfl) ((e1.less fun a ha => by rw [List.mem_singleton.mp ha]; simp).trans (ExO.upd (by simp))) ?_ upd_same ?_
  · obtain ⟨b0, b1', b2, e', rr⟩ := b1
    exact ⟨b0, b1', b2, by rw [upd_ne (Ne.symm hLp)]; exact e', rr⟩
  · rw [sub_upd hL]
    exact hd1.append (.cons d1 .nil)
theorem ra_seq {T : Rho → Prop} (h1 : RunB n ws t ρ k1 T) (hf : f ∉ ws) (h2 : ∀ ρ1, T ρ1 → RunApp n f ws u ρ1 k2 S) : RunApp n f ws (tSeq t u) ρ (k1 + k2) S := fun O p L c D σ H xs es hn s hL hLp hsf hx hd hl hc q =>
  h1 O p c _ σ H hn s (by omega) fun ρ1 σ1 H1 hT l1 c1 e1 s1 => h2 ρ1 hT O p L (c + k1) D σ1 H1 xs es l1 s1 hL hLp (by rw [c1 f hf]; exact hsf) (e1.at hx fun z => hLp (List.mem_singleton.mp z)) (hd.mono (exo_more e1 s.mem)) hl (by omega)
    fun σ2 H2 xs2 e he l2 c2 e2 b2 hx2 hd2 => q σ2 H2 xs2 e he l2 (fun a ha => (c2 a ha).trans (c1 a ha)) ((e1.less fun a ha => by rw [List.mem_singleton.mp ha]; simp).trans e2) (by rw [← Nat.add_assoc]; exact b2) hx2 hd2
theorem rb_collect {Tm : Nat → Prop} {M : Nat} (h0 : EvB n te0 (ρ.set f none) k (fun d => ∃ m : Nat, d = .int (m : Int) ∧ m ≤ M ∧ Tm m)) (hM : M ≤ 1000) (hf : f < n) (hf0 : f ≠ 0) (hj : j < n) (hj0 : j ≠ 0) (hjw : j ∈ ws) (hfw : f ∉ ws) (h0w : 0 ∉ ws)
    (hb : ∀ i : Nat, i < M → RunApp n f ws tb ((wipeR (ρ.set f none) ws).set j (some (.int (i : Int)))) k1 S) :
    RunBR n (tSeq (tAsg (tLst tNil) (gName f)) (tSeq (tFor (iRng1 (tCons te0 tNil)) (gName j) tb) (tRet (tCB (rTupleOf K) (tCons (tVar f) tNil))))) ρ (k + M * k1) (fun x => ∃ m es, x = .tuple es ∧ Tm m ∧ es.length = m ∧ ∀ e, e ∈ es → S e) := fun O p c D σ H hn s hc q => by
  refine ⟨(by show 0 ≤ sizeLine; decide), fun L nL => ?_⟩
  have LO : L ∉ O := not_own s.sd.own nL
  have Lp : L ≠ p := fun z => s.box.own L (List.mem_singleton.mpr z) nL
  have s0 : SB (L :: O) p c (upd H L (.lst [])) (σ.set f (some (.ref L))) (ρ.set f none) := ⟨(s.sd.more (Ex.new nL) nL upd_same).forget, by rw [List.getElem?_set_ne hf0]; exact s.bx, s.box.ex (Ex.new nL), List.mem_cons_of_mem _ s.mem, by rw [List.getElem?_set_ne hf0]; exact s.fr⟩
  refine h0 (L :: O) p c _ _ (by rw [List.length_set]; exact hn) s0 (by omega) _ fun v d H1 hd e1 b1 d1 => ?_
  obtain ⟨m, rfl, hm, hT⟩ := hd
  cases d1
  refine ⟨(m : Int), rfl, by omega, by omega, ?_⟩
  have s1 := s0.step e1 b1
  have e : ((m : Int)).toNat = m := by omega
  rw [e]
  have hL1 : H1 L = some (.lst []) := e1.at upd_same fun z => Lp (List.mem_singleton.mp z)
  refine for_it walk_range (fun i σ2 H2 => ∃ xs es, σ2.length = n ∧ (∀ a, a ∉ ws → σ2[a]? = (σ.set f (some (.ref L)))[a]?) ∧ H2 L = some (.lst xs) ∧ DqAll (sub H2 (L :: O)) xs es ∧ es.length = i ∧ (∀ e, e ∈ es → S e) ∧ ExO [p, L] H1 H2 ∧ Box p (c + k + i * k1) H2)
    ⟨[], [], by rw [List.length_set]; exact hn, fun _ _ => rfl, hL1, .nil, rfl, fun e he => (by cases he), ExO.refl _ H1, by rw [Nat.zero_mul]; exact b1⟩ (fun _ _ _ _ _ => True.intro) ?_ ?_
  · rintro i x σ2 H2 H3 hi ⟨xs, es, l2, c2, hL2, d2, le, hS, e2, b2⟩ ⟨rfl, rfl⟩
    have exO : ExO (L :: O) H1 H3 := e2.less fun a ha => by
      rcases List.mem_cons.mp ha with rfl | ha
      · exact List.mem_cons_of_mem _ s.mem
      · rw [List.mem_singleton.mp ha]
        exact List.mem_cons_self
    have own3 : ∀ a, a ∈ L :: O → H3 a ≠ none := fun a ha z => by
      by_cases c1 : a = p
      · exact b2.own a (List.mem_singleton.mpr c1) z
      · by_cases c3 : a = L
        · rw [c3, hL2] at z
          cases z
        · cases r : H1 a with
          | none => exact s1.sd.own a ha r
          | some o =>
            have w := e2.at r (fun y => by
              rcases List.mem_cons.mp y with y | y
              · exact c1 y
              · exact c3 (List.mem_singleton.mp y))
            rw [z] at w
            cases w
    have sdw : SD (L :: O) H3 σ2 (wipeR (ρ.set f none) ws) := ⟨own3, fun a d ha => by
      obtain ⟨h1, h2⟩ := wipeR_get ha
      obtain ⟨v, h3, h4⟩ := s1.sd.at' a d h2
      exact ⟨v, by rw [c2 a h1]; exact h3, h4.mono exO⟩⟩
    have bx2 : σ2[0]? = some (some (.ref p)) := by
      rw [c2 0 h0w]
      exact s0.bx
    have fr2 : (wipeR (ρ.set f none) ws)[0]? = some none := by
      have q : ∀ ws : List Nat, 0 ∉ ws → (wipeR (ρ.set f none) ws)[0]? = some none := by
        intro ws
        induction ws with
        | nil => exact fun _ => s0.fr
        | cons w ws ih =>
          intro hw
          show ((wipeR (ρ.set f none) ws).set w none)[0]? = _
          rw [List.getElem?_set_ne fun z => hw (by rw [z]; exact List.mem_cons_self)]
          exact ih fun z => hw (List.mem_cons_of_mem _ z)
      exact q ws h0w
    have hx : Dq (sub H3 (L :: O)) (V.int (0 + (i : Int))) (.int (i : Int)) := by
      rw [Int.zero_add]
      exact .int _
    have sb : SB (L :: O) p (c + k + i * k1) H3 (σ2.set j (some (V.int (0 + (i : Int))))) ((wipeR (ρ.set f none) ws).set j (some (.int (i : Int)))) :=
      SB.put ⟨sdw, bx2, b2, List.mem_cons_of_mem _ s.mem, fr2⟩ hx (by rw [l2]; exact hj) hj0
    have hM2 : (i + 1) * k1 ≤ M * k1 := Nat.mul_le_mul_right _ (by omega)
    have hM3 : (i + 1) * k1 = i * k1 + k1 := Nat.succ_mul i k1
    have jf : j ≠ f := fun z => hfw (by rw [← z]; exact hjw)
    refine hb i (by omega) (L :: O) p L (c + k + i * k1) _ _ H3 xs es (by rw [List.length_set]; exact l2) sb List.mem_cons_self Lp (by rw [List.getElem?_set_ne jf, c2 f hfw, List.getElem?_set_self (by omega)]) hL2 d2 (by omega) (by omega) fun σ4 H4 xs4 e4 he l4 c4 x4 b4 hL4 d4 => ?_
    refine ⟨xs4, es ++ [e4], l4, fun a ha => ?_, hL4, d4, by rw [List.length_append, le]; rfl, fun y hy => ?_, e2.trans x4, by rw [hM3, ← Nat.add_assoc]; exact b4⟩
    · rw [c4 a ha, List.getElem?_set_ne fun z => ha (by rw [← z]; exact hjw)]
      exact c2 a ha
    · rcases List.mem_append.mp hy with hy | hy
      · exact hS y hy
      · rw [List.mem_singleton.mp hy]
        exact he
  · rintro σ2 H2 ⟨xs, es, l2, c2, hL2, d2, le, hS, e2, b2⟩
    refine ⟨.ref L, by rw [c2 f hfw, List.getElem?_set_self (by omega)], L, xs, rfl, .inl ⟨Evl.sq_of hL2, fun q2 nq => ?_⟩⟩
    have hM2 : m * k1 ≤ M * k1 := Nat.mul_le_mul_right _ hm
    have ex : ExO [p] H H2 := fun a o ha => by
      obtain ⟨h1, h2⟩ := sub_of ha
      have nD : a ≠ L := fun z => by rw [z, nL] at h1; cases h1
      have h3 : (upd H L (.lst [])) a = some o := by
        rw [upd_ne nD]
        exact h1
      refine sub_mk (e2.at (e1.at h3 h2) fun z => ?_) h2
      rcases List.mem_cons.mp z with z | z
      · exact h2 (List.mem_singleton.mpr z)
      · exact nD (List.mem_singleton.mp z)
    have own2 : ∀ a, a ∈ O → H2 a ≠ none := own_o ex b2 s.sd.own
    refine q _ (.tuple es) _ ⟨m, es, rfl, hT, le, hS⟩ (ex.trans (Ex.o _ (Ex.new nq))) ((b2.ex (Ex.new nq)).mono (by omega)) (.tup (sub_mk upd_same (not_own own2 nq)) ?_)
    exact (d2.mono ex_less).mono (Ex.o O (Ex.new nq))
end
theorem ints_of {Pr : Int → Prop} : ∀ {es : List PyData}, (∀ e, e ∈ es → ∃ r, e = .int r ∧ Pr r) → ∃ rs : List Int, es = dI rs ∧ rs.length = es.length ∧ ∀ r, r ∈ rs → Pr r
  | [], _ => ⟨[], rfl, rfl, fun r hr => by cases hr⟩
  | e :: es, h => by
    obtain ⟨r, rfl, hr⟩ := h e (List.mem_cons_self ..)
    obtain ⟨rs, h1, h2, h3⟩ := ints_of fun y hy => h y (List.mem_cons_of_mem _ hy)
    refine ⟨r :: rs, by rw [h1]; rfl, by rw [List.length_cons, List.length_cons, h2], fun y hy => ?_⟩
    rcases List.mem_cons.mp hy with rfl | hy
    · exact hr
    · exact h3 y hy
section
variable {P : Program} {w : World} {K : PySem.W.Frag} {mg : Str → Option Value} {base : Heap}
/-- all cases of a box -/
theorem right_ok {kf : Nat} {x qual : Str} {st : Stmt} {f : Addr} {fd : FuncData} {N ps : List Str} {k : Nat} (F : Fun K x qual st f fd) (S : FnScope N ps (defScope st)) (hl : ps.length = 1) (hp : 1 ≤ N.length) (hk : kf ≤ 1000000)
    (body : ∀ (cdv : Value) (A : Around) (outer : List Env) (s : Shared) (H : Hp) (E : XK), Room k (A.deeper (envOfC qual (defScope st) s.heap.objs.size f cdv)) →
      ∃ t, PSs (cxOf CX0 P w K mg base N qual (defScope st) f cdv A outer s H E).nox (defBody st) t ∧ RunBR N.length t (argB N []) kf (fun d => d = .bool true)) : FnOk P w K mg base CX0 (k + 1) f fd ps spRight := by
  refine F.ok S (fun vs H Q E h => ?_) (fun cdv A outer s H vs Q E hr h => ?_)
  · obtain ⟨p, rfl, _⟩ := h
    exact hl.symm
  · obtain ⟨t, ht, hb⟩ := body cdv A outer s H E hr
    obtain ⟨p, rfl, bx, q⟩ := h
    have e1 : L2.start N [V.ref p] = some (.ref p) :: List.replicate (N.length - 1) none := rfl
    refine ⟨t, ht, hb [p] p 0 _ (L2.start N [.ref p]) H (start_len (by show 1 ≤ _; exact hp)) ⟨⟨bx.own, fun i d e => ?_⟩, by rw [e1]; rfl, bx, List.mem_singleton.mpr rfl, rfl⟩ (by omega) fun v d H' hd e' _ dd => ?_⟩
    · cases i with
      | zero => cases e
      | succ i =>
        have e : (List.replicate (N.length - 1) (none : Option PyData))[i]? = some (some d) := e
        rw [List.getElem?_replicate] at e
        split at e <;> cases e
    · subst hd
      cases dd
      exact q H' e'
end
section
variable {n i j k k1 : Nat} {ρ : Rho} {te : TE} {tr : TA} {tt : TT} {t u : TS} {S : PyData → Prop} {d : PyData} {b : Bool}
theorem eba_wk {A B : List PyData → Prop} (h : EvBA n tr ρ k A) (hk : k ≤ k1) (hs : ∀ ds, A ds → B ds) : EvBA n tr ρ k1 B := fun O p c σ H hn s hc Q q =>
  h O p c σ H hn s (by omega) Q fun v d H1 hd e1 b1 d1 => q v d H1 (hs d hd) e1 (b1.mono (by omega)) d1
/-- x = e, e without a draw -/
theorem rbr_let (h : ∀ O, EvD O n te ρ d) (hi : i < n) (h0 : i ≠ 0) (r : RunBR n u (ρ.set i (some d)) k S) : RunBR n (tSeq (tAsg te (gName i)) u) ρ k S := fun O p c D σ H hn s hc q =>
  h O σ H hn s.sd _ fun v H1 e1 d1 => r O p c D _ H1 (by rw [List.length_set]; exact hn) ((s.step (Ex.o [p] e1) (s.box.ex e1)).put d1 (by rw [hn]; exact hi) h0) hc fun w d2 H2 hd e2 b2 dd => q w d2 H2 hd ((Ex.o [p] e1).trans e2) b2 dd
/-- if c: return ..; the rest; c without a draw -/
theorem rbr_cond (h : ∀ O, EvDT O n tt ρ b) (h1 : b = true → RunBR n t ρ k S) (h2 : b = false → RunBR n u ρ k S) : RunBR n (tSeq (tIfS tt t tNext) u) ρ k S := fun O p c D σ H hn s hc q =>
  h O σ H hn s.sd _ fun H1 e1 => by
    have s1 := s.step (Ex.o [p] e1) (s.box.ex e1)
    cases b with
    | true => exact iteT (h1 rfl O p c _ σ H1 hn s1 hc fun v d H2 hd e2 b2 d2 => q v d H2 hd ((Ex.o [p] e1).trans e2) b2 d2)
    | false => exact iteF (h2 rfl O p c D σ H1 hn s1 hc fun v d H2 hd e2 b2 d2 => q v d H2 hd ((Ex.o [p] e1).trans e2) b2 d2)
theorem rbr_retP (h : ∀ O, EvD O n te ρ d) (hS : S d) : RunBR n (tRet te) ρ k S := fun O p c D σ H hn s hc q =>
  h O σ H hn s.sd _ fun v H1 e1 d1 => q v d H1 hS (Ex.o _ e1) ((s.box.ex e1).mono (by omega)) d1
end
theorem rbr_retE {n k : Nat} {ρ : Rho} {te : TE} {S : PyData → Prop} (h : ∀ O, ∃ d, S d ∧ EvD O n te ρ d) : RunBR n (tRet te) ρ k S := fun O p c D σ H hn s hc q => by
  obtain ⟨d, hS, hd⟩ := h O
  exact hd σ H hn s.sd _ fun v H1 e1 d1 => q v d H1 hS (Ex.o _ e1) ((s.box.ex e1).mono (by omega)) d1
/-- a cut of a drawn tuple -/
theorem eb_slT {n k : Nat} {ρ : Rho} {te : TE} {tl th : TO} {lo hi : Option Int} {K : PySem.W.Frag} {A : List Int → Prop} (h : EvB n te ρ k (fun x => ∃ ns, x = .tuple (dI ns) ∧ A ns)) (h1 : ∀ O, EvDO O n tl ρ lo) (h2 : ∀ O, EvDO O n th ρ hi) :
    EvB n (tSl (rSlA K) te tl th) ρ k (fun x => ∃ ns, A ns ∧ x = .tuple (DL.cutD (dI ns) lo hi)) := fun O p c σ H hn s hc Q q => h O p c σ H hn s hc _ fun v x H1 hx e1 b1 d1 => by
  obtain ⟨ns, rfl, hA⟩ := hx
  have s1 := s.step e1 b1
  refine h1 O σ H1 hn s1.sd _ fun H2 e2 => h2 O σ H2 hn (s1.sd.ex e2) _ fun H3 e3 => ?_
  have d3 := (d1.mono (Ex.o O e2)).mono (Ex.o O e3)
  have own3 := own_ex (e2.trans e3) s1.sd.own
  have b3 := (b1.ex e2).ex e3
  cases d3 with
  | tup a k2 =>
    refine ⟨_, _, rfl, Evl.st_of (sub_of a).1, fun hw => ?_, fun _ p2 hp => ?_⟩
    · rw [k2.length] at hw
      exact q _ _ H3 ⟨ns, hA, rfl⟩ (e1.trans (Ex.o _ (e2.trans e3))) b3 (by rw [cut_all hw]; exact .tup a k2)
    · exact q _ _ _ ⟨ns, hA, rfl⟩ ((e1.trans (Ex.o _ (e2.trans e3))).trans (Ex.o _ (Evl.Ex.new hp))) (b3.ex (Evl.Ex.new hp)) (.tup (sub_mk upd_same (not_own own3 hp)) ((k2.cut lo hi).mono (Ex.o O (Evl.Ex.new hp))))
end DL
/-! DZ3: one of the goods, of any data. -/
namespace DL
open PySem L2 Evl PyProof.Rows TL RZ
section
variable {n k : Nat} {ρ : Rho} {te : TE} {S : PyData → Prop} {E : XK}
def spOfO : Sp := fun vs H Q _ => ∃ (O : List Addr) (p : Addr) (c : Nat) (x : V) (ds : List PyData), vs = [.ref p, x] ∧ p ∈ O ∧ (∀ a, a ∈ O → H a ≠ none) ∧ Box p c H ∧ c ≤ 1000000 ∧ Dq (sub H O) x (.list ds) ∧ 0 < ds.length ∧ ds.length ≤ 1000 ∧ ∀ d v H', d ∈ ds → Dq (sub H' O) v d → ExO [p] H H' → Box p (c + 1) H' → Q v H'
theorem eb_ofO (h : EvB n te ρ k (fun d => ∃ ds, d = .list ds ∧ 0 < ds.length ∧ ds.length ≤ 1000 ∧ ∀ e, e ∈ ds → S e)) : EvB n (tCall spOfO [] E (tCons (tVar 0) (tCons te tNil))) ρ (k + 1) S := fun O p c σ H hn s hc Q q => by
  refine ⟨_, s.bx, h O p c σ H hn s (by omega) _ fun v d H1 hd e1 b1 d1 => ?_⟩
  obtain ⟨ds, rfl, l0, l1, hs⟩ := hd
  refine ⟨O, p, c + k, v, ds, rfl, s.mem, own_o e1 b1 s.sd.own, b1, by omega, d1, l0, l1, fun d w H2 hd dw e2 b2 => ?_⟩
  exact q w d H2 (hs d hd) (e1.trans e2) (by rw [← Nat.add_assoc]; exact b2) dw
end
section
variable {n i j k k1 k2 : Nat} {vs : List Nat} {ρ : Rho} {te : TE} {tr : TA} {tt : TT} {t u : TS} {g : TG} {S S1 : PyData → Prop}
/-- x = a draw, and on with what is drawn -/
theorem rbr_get (h : EvB n te ρ k1 S1) (hi : i < n) (h0 : i ≠ 0) (h2 : ∀ d, S1 d → RunBR n u (ρ.set i (some d)) k2 S) : RunBR n (tSeq (tAsg te (gName i)) u) ρ (k1 + k2) S :=
  rbr_seq (rb_asg h hi h0) fun ρ1 z => by
    obtain ⟨d, hd, rfl⟩ := z
    exact h2 d hd
theorem rb_get {T : Rho → Prop} {ws : List Nat} (h : EvB n te ρ k1 S1) (hi : i < n) (h0 : i ≠ 0) (hw : i ∈ ws) (h2 : ∀ d, S1 d → RunB n ws u (ρ.set i (some d)) k2 T) : RunB n ws (tSeq (tAsg te (gName i)) u) ρ (k1 + k2) T :=
  rb_seq (rb_wk (rb_asg h hi h0) (Nat.le_refl _) (fun a ha => by rw [List.mem_singleton.mp ha]; exact hw) fun _ z => z) fun ρ1 z => by
    obtain ⟨d, hd, rfl⟩ := z
    exact h2 d hd
/-- x, y = draws -/
theorem rbr_par {A : List PyData → Prop} (h : EvBA n tr ρ k1 A) (hA : ∀ ds, A ds → ∃ x y, ds = [x, y]) (hi : i < n) (hj : j < n) (h0 : i ≠ 0) (h1 : j ≠ 0) (h2 : ∀ x y, A [x, y] → RunBR n u ((ρ.set i (some x)).set j (some y)) k2 S) : RunBR n (tSeq (tPar i j tr) u) ρ (k1 + k2) S :=
  rbr_seq (rb_par h hA hi hj h0 h1) fun ρ1 z => by
    obtain ⟨x, y, hd, rfl⟩ := z
    exact h2 x y hd
/-- any target -/
theorem rbr_asgG (h : EvB n te ρ k1 S1) (h0 : 0 ∉ vs) (h2 : ∀ d, S1 d → ∃ ρ', (∀ O, TgD O n vs g ρ d ρ') ∧ ρ'[0]? = some none ∧ RunBR n u ρ' k2 S) : RunBR n (tSeq (tAsg te g) u) ρ (k1 + k2) S := fun O p c D σ H hn s hc q =>
  h O p c σ H hn s (by omega) _ fun v d H1 hd e1 b1 d1 => by
    obtain ⟨ρ', ht, hf, hr⟩ := h2 d hd
    have s1 := s.step e1 b1
    refine ht O σ H1 v hn s1.sd d1 _ fun σ' hl hc' s' => ?_
    refine hr O p (c + k1) D σ' H1 hl ⟨s', by rw [hc' 0 h0]; exact s1.bx, b1, s1.mem, hf⟩ (by omega) fun w d2 H2 hd2 e2 b2 dd => ?_
    exact q w d2 H2 hd2 (e1.trans e2) (by rw [← Nat.add_assoc]; exact b2) dd
/-- a test that always comes out false leads on -/
theorem rbr_pass (h : EvBT n tt ρ k1 fun b => b = false) (h2 : RunBR n u ρ k2 S) : RunBR n (tSeq (tIfS tt t tNext) u) ρ (k1 + k2) S :=
  rbr_when h (fun z => by cases z) fun _ => h2
theorem rbr_passP (h : ∀ O, EvDT O n tt ρ false) (h2 : RunBR n u ρ k2 S) : RunBR n (tSeq (tIfS tt t tNext) u) ρ k2 S :=
  rbr_cond h (fun z => by cases z) fun _ => h2
end
end DL
/-! DZ2: found = []; for j in range(..): ..; found.append(drawn); return tuple(found). -/
namespace DL
open PySem L2 Evl PyProof.Rows TL RZ
section
variable {n f j k k1 k2 : Nat} {ρ : Rho} {te te0 : TE} {t u tb : TS} {S : PyData → Prop} {K : PySem.W.Frag} {ws : List Nat}
theorem rb_collectP {Tm : Nat → Prop} {M g k0 : Nat} {tp : TE} {S0 : PyData → Prop} (hp0 : EvB n tp ρ k0 S0) (hg : g < n) (hg0 : g ≠ 0) (hgf : g ≠ f) (h0 : ∀ dg, S0 dg → EvB n te0 ((ρ.set f none).set g (some dg)) k (fun d => ∃ m : Nat, d = .int (m : Int) ∧ m ≤ M ∧ Tm m)) (hM : M ≤ 1000) (hf : f < n) (hf0 : f ≠ 0) (hj : j < n) (hj0 : j ≠ 0) (hjw : j ∈ ws) (hfw : f ∉ ws) (h0w : 0 ∉ ws)
    (hb : ∀ dg, S0 dg → ∀ i : Nat, i < M → RunApp n f ws tb ((wipeR ((ρ.set f none).set g (some dg)) ws).set j (some (.int (i : Int)))) k1 S) :
    RunBR n (tSeq (tPar f g (tCons (tLst tNil) (tCons tp tNil))) (tSeq (tFor (iRng1 (tCons te0 tNil)) (gName j) tb) (tRet (tCB (rTupleOf K) (tCons (tVar f) tNil))))) ρ (k0 + (k + M * k1)) (fun x => ∃ m es, x = .tuple es ∧ Tm m ∧ es.length = m ∧ ∀ e, e ∈ es → S e) := fun O p c D σ H hn s hc q => by
  refine ⟨(by show 0 ≤ sizeLine; decide), fun L nL => ?_⟩
  have LO : L ∉ O := not_own s.sd.own nL
  have Lp : L ≠ p := fun z => s.box.own L (List.mem_singleton.mpr z) nL
  have s00 : SB (L :: O) p c (upd H L (.lst [])) σ ρ := ⟨s.sd.more (Ex.new nL) nL upd_same, s.bx, s.box.ex (Ex.new nL), List.mem_cons_of_mem _ s.mem, s.fr⟩
  refine hp0 (L :: O) p c _ _ hn s00 (by omega) _ fun vg dg Hg hdg eg bg ddg => ?_
  refine ⟨.ref L, vg, rfl, ?_⟩
  have s01 := s00.step eg bg
  have s02 : SB (L :: O) p (c + k0) Hg (σ.set f (some (.ref L))) (ρ.set f none) := ⟨s01.sd.forget, by rw [List.getElem?_set_ne hf0]; exact s.bx, s01.box, s01.mem, by rw [List.getElem?_set_ne hf0]; exact s.fr⟩
  have s0 : SB (L :: O) p (c + k0) Hg ((σ.set f (some (.ref L))).set g (some vg)) ((ρ.set f none).set g (some dg)) := s02.put ddg (by rw [List.length_set, hn]; exact hg) hg0
  have hLg : Hg L = some (.lst []) := eg.at upd_same fun z => Lp (List.mem_singleton.mp z)
  generalize hsg : (σ.set f (some (.ref L))).set g (some vg) = sg1 at *
  have sgl : sg1.length = n := by rw [← hsg, List.length_set, List.length_set]; exact hn
  have sgf : sg1[f]? = some (some (.ref L)) := by rw [← hsg, List.getElem?_set_ne hgf, List.getElem?_set_self (by omega)]
  replace hb := hb dg hdg
  replace h0 := h0 dg hdg
  generalize (ρ.set f none).set g (some dg) = ρ1 at *
  refine h0 (L :: O) p (c + k0) _ _ sgl s0 (by omega) _ fun v d H1 hd e1 b1 d1 => ?_
  obtain ⟨m, rfl, hm, hT⟩ := hd
  cases d1
  refine ⟨(m : Int), rfl, by omega, by omega, ?_⟩
  have s1 := s0.step e1 b1
  have e : ((m : Int)).toNat = m := by omega
  rw [e]
  have hL1 : H1 L = some (.lst []) := e1.at hLg fun z => Lp (List.mem_singleton.mp z)
  refine for_it walk_range (fun i σ2 H2 => ∃ xs es, σ2.length = n ∧ (∀ a, a ∉ ws → σ2[a]? = sg1[a]?) ∧ H2 L = some (.lst xs) ∧ DqAll (sub H2 (L :: O)) xs es ∧ es.length = i ∧ (∀ e, e ∈ es → S e) ∧ ExO [p, L] H1 H2 ∧ Box p (c + k0 + k + i * k1) H2)
    ⟨[], [], sgl, fun _ _ => rfl, hL1, .nil, rfl, fun e he => (by cases he), ExO.refl _ H1, by rw [Nat.zero_mul]; exact b1⟩ (fun _ _ _ _ _ => True.intro) ?_ ?_
  · rintro i x σ2 H2 H3 hi ⟨xs, es, l2, c2, hL2, d2, le, hS, e2, b2⟩ ⟨rfl, rfl⟩
    have exO : ExO (L :: O) H1 H3 := e2.less fun a ha => by
      rcases List.mem_cons.mp ha with rfl | ha
      · exact List.mem_cons_of_mem _ s.mem
      · rw [List.mem_singleton.mp ha]
        exact List.mem_cons_self
    have own3 : ∀ a, a ∈ L :: O → H3 a ≠ none := fun a ha z => by
      by_cases c1 : a = p
      · exact b2.own a (List.mem_singleton.mpr c1) z
      · by_cases c3 : a = L
        · rw [c3, hL2] at z
          cases z
        · cases r : H1 a with
          | none => exact s1.sd.own a ha r
          | some o =>
            have w := e2.at r (fun y => by
              rcases List.mem_cons.mp y with y | y
              · exact c1 y
              · exact c3 (List.mem_singleton.mp y))
            rw [z] at w
            cases w
    have sdw : SD (L :: O) H3 σ2 (wipeR ρ1 ws) := ⟨own3, fun a d ha => by
      obtain ⟨h1, h2⟩ := wipeR_get ha
      obtain ⟨v, h3, h4⟩ := s1.sd.at' a d h2
      exact ⟨v, by rw [c2 a h1]; exact h3, h4.mono exO⟩⟩
    have bx2 : σ2[0]? = some (some (.ref p)) := by
      rw [c2 0 h0w]
      exact s0.bx
    have fr2 : (wipeR ρ1 ws)[0]? = some none := by
      have q : ∀ ws : List Nat, 0 ∉ ws → (wipeR ρ1 ws)[0]? = some none := by
        intro ws
        induction ws with
        | nil => exact fun _ => s0.fr
        | cons w ws ih =>
          intro hw
          show ((wipeR ρ1 ws).set w none)[0]? = _
          rw [List.getElem?_set_ne fun z => hw (by rw [z]; exact List.mem_cons_self)]
          exact ih fun z => hw (List.mem_cons_of_mem _ z)
      exact q ws h0w
    have hx : Dq (sub H3 (L :: O)) (V.int (0 + (i : Int))) (.int (i : Int)) := by
      rw [Int.zero_add]
      exact .int _
    have sb : SB (L :: O) p (c + k0 + k + i * k1) H3 (σ2.set j (some (V.int (0 + (i : Int))))) ((wipeR ρ1 ws).set j (some (.int (i : Int)))) :=
      SB.put ⟨sdw, bx2, b2, List.mem_cons_of_mem _ s.mem, fr2⟩ hx (by rw [l2]; exact hj) hj0
    have hM2 : (i + 1) * k1 ≤ M * k1 := Nat.mul_le_mul_right _ (by omega)
    have hM3 : (i + 1) * k1 = i * k1 + k1 := Nat.succ_mul i k1
    have jf : j ≠ f := fun z => hfw (by rw [← z]; exact hjw)
    refine hb i (by omega) (L :: O) p L (c + k0 + k + i * k1) _ _ H3 xs es (by rw [List.length_set]; exact l2) sb List.mem_cons_self Lp (by rw [List.getElem?_set_ne jf, c2 f hfw, sgf]) hL2 d2 (by omega) (by omega) fun σ4 H4 xs4 e4 he l4 c4 x4 b4 hL4 d4 => ?_
    refine ⟨xs4, es ++ [e4], l4, fun a ha => ?_, hL4, d4, by rw [List.length_append, le]; rfl, fun y hy => ?_, e2.trans x4, by rw [hM3, ← Nat.add_assoc]; exact b4⟩
    · rw [c4 a ha, List.getElem?_set_ne fun z => ha (by rw [← z]; exact hjw)]
      exact c2 a ha
    · rcases List.mem_append.mp hy with hy | hy
      · exact hS y hy
      · rw [List.mem_singleton.mp hy]
        exact he
  · rintro σ2 H2 ⟨xs, es, l2, c2, hL2, d2, le, hS, e2, b2⟩
    refine ⟨.ref L, by rw [c2 f hfw, sgf], L, xs, rfl, .inl ⟨Evl.sq_of hL2, fun q2 nq => ?_⟩⟩
    have hM2 : m * k1 ≤ M * k1 := Nat.mul_le_mul_right _ hm
    have ex : ExO [p] H H2 := fun a o ha => by
      obtain ⟨h1, h2⟩ := sub_of ha
      have nD : a ≠ L := fun z => by rw [z, nL] at h1; cases h1
      have h3 : (upd H L (.lst [])) a = some o := by
        rw [upd_ne nD]
        exact h1
      refine sub_mk (e2.at (e1.at (eg.at h3 h2) h2) fun z => ?_) h2
      rcases List.mem_cons.mp z with z | z
      · exact h2 (List.mem_singleton.mpr z)
      · exact nD (List.mem_singleton.mp z)
    have own2 : ∀ a, a ∈ O → H2 a ≠ none := own_o ex b2 s.sd.own
    refine q _ (.tuple es) _ ⟨m, es, rfl, hT, le, hS⟩ (ex.trans (Ex.o _ (Ex.new nq))) ((b2.ex (Ex.new nq)).mono (by omega)) (.tup (sub_mk upd_same (not_own own2 nq)) ?_)
    exact (d2.mono ex_less).mono (Ex.o O (Ex.new nq))
end
section
variable {n i j k k1 k2 : Nat} {vs : List Nat} {ρ ρ' ρ1 ρ2 : Rho} {te : TE} {tt : TT} {t u : TS} {g : TG} {d : PyData} {O : List Addr}
/-- statements without a draw, whatever they change -/
theorem rb_pureV {T : Rho → Prop} (h : ∀ O, RunV O n vs t ρ ρ') (h0 : 0 ∉ vs) (hf : ρ'[0]? = some none) (hT : T ρ') : RunB n vs t ρ 0 T := fun O p c D σ H hn s hc q =>
  h O D σ H hn s.sd fun σ' H' l' e' c' s' => q ρ' σ' H' hT l' c' (Ex.o _ e') ⟨s', by rw [c' 0 h0]; exact s.bx, s.box.ex e', s.mem, hf⟩
theorem rv_asgG (h : EvD O n te ρ d) (hg : TgD O n vs g ρ d ρ') : RunV O n vs (tAsg te g) ρ ρ' := fun D σ H hn s k =>
  h σ H hn s _ fun v H1 e1 d1 => hg σ H1 v hn (s.ex e1) d1 _ fun σ' hl hc s' => k σ' H1 hl e1 hc s'
theorem rv_is (h : RunV O n vs t ρ ρ1) (e : ρ1 = ρ2) : RunV O n vs t ρ ρ2 := e ▸ h
theorem rv_seq' (h1 : RunV O n vs t ρ ρ1) (h2 : RunV O n vs u ρ1 ρ') : RunV O n vs (tSeq t u) ρ ρ' := fun D σ H hn s k =>
  h1 _ σ H hn s fun σ1 H1 l1 e1 c1 s1 => h2 D σ1 H1 l1 s1 fun σ2 H2 l2 e2 c2 s2 => k σ2 H2 l2 (e1.trans e2) (fun i hi => (c2 i hi).trans (c1 i hi)) s2
theorem rb_asgG {S1 : PyData → Prop} {T : Rho → Prop} (h : EvB n te ρ k1 S1) (h0 : 0 ∉ vs) (h2 : ∀ d, S1 d → ∃ ρ', (∀ O, TgD O n vs g ρ d ρ') ∧ ρ'[0]? = some none ∧ RunB n vs u ρ' k2 T) : RunB n vs (tSeq (tAsg te g) u) ρ (k1 + k2) T := fun O p c D σ H hn s hc q =>
  h O p c σ H hn s (by omega) _ fun v d H1 hd e1 b1 d1 => by
    obtain ⟨ρ', ht, hf, hr⟩ := h2 d hd
    have s1 := s.step e1 b1
    refine ht O σ H1 v hn s1.sd d1 _ fun σ' hl hc' s' => ?_
    refine hr O p (c + k1) D σ' H1 hl ⟨s', by rw [hc' 0 h0]; exact s1.bx, b1, s1.mem, hf⟩ (by omega) fun ρ2 σ2 H2 hT l2 c2 e2 s2 => ?_
    exact q ρ2 σ2 H2 hT l2 (fun i hi => (c2 i hi).trans (hc' i hi)) (e1.trans e2) (by rw [← Nat.add_assoc]; exact s2)
theorem rb_let {T : Rho → Prop} (h : ∀ O, EvD O n te ρ d) (hi : i < n) (h0 : i ≠ 0) (hw : i ∈ vs) (h2 : RunB n vs u (ρ.set i (some d)) k2 T) : RunB n vs (tSeq (tAsg te (gName i)) u) ρ k2 T := fun O p c D σ H hn s hc q =>
  h O σ H hn s.sd _ fun v H1 e1 d1 => h2 O p c D _ H1 (by rw [List.length_set]; exact hn) ((s.step (Ex.o _ e1) (s.box.ex e1)).put d1 (by rw [hn]; exact hi) h0) hc fun ρ2 σ2 H2 hT l2 c2 e2 s2 =>
    q ρ2 σ2 H2 hT l2 (fun a ha => (c2 a ha).trans (by rw [List.getElem?_set_ne fun z => ha (by rw [← z]; exact hw)])) ((Ex.o _ e1).trans e2) s2
end
end DL
/-! DTZ: zip of a tuple and a list; three keywords from the last to the first; chained comparisons. -/
namespace DL
open PySem PySem.Spec PyProof.Rows PySem.Calls L2
/-- the tuple at a beside the list at b, each pair new -/
def ItzM (K : PySem.W.Frag) (a b : Addr) : It where
  go := fun i H => ∃ (xs ys : List V) (x y : V), SqT K H a xs ∧ SqL K H b ys ∧ xs[i]? = some x ∧ ys[i]? = some y
  yld := fun i H v H' => ∃ T x y, v = .ref T ∧ H T = none ∧ H' = upd H T (.tup [x, y]) ∧ (∀ xs, SqT K H a xs → xs[i]? = some x) ∧ ∀ ys, SqL K H b ys → ys[i]? = some y
  stop := fun i H => ∃ xs ys : List V, SqT K H a xs ∧ SqL K H b ys ∧ min xs.length ys.length = i
theorem five_lt {N M : Nat} (h : N + 4 < M) : ∀ c : Nat, c ∈ [N + 4, N + 2, N + 3, N, N + 1] → c < M := fun c hc => by
  simp only [List.mem_cons, List.not_mem_nil, or_false] at hc
  omega
theorem five_le {N : Nat} : ∀ c : Nat, c ∈ [N + 4, N + 2, N + 3, N, N + 1] → N ≤ c := fun c hc => by
  simp only [List.mem_cons, List.not_mem_nil, or_false] at hc
  omega
theorem four_five {N : Nat} : ∀ c : Nat, c ∈ [N + 4, N + 3, N, N + 1] → c ∈ [N + 4, N + 2, N + 3, N, N + 1] := fun c hc => by
  simp only [List.mem_cons, List.not_mem_nil, or_false] at hc ⊢
  omega
def tnM (N a b : Addr) (i : Nat) (h : Heap) : Prop := IsZip h (N + 4) (N + 2) (N + 3) .none ∧ IsTupOf2 h (N + 2) (.ref N) (.ref (N + 1)) ∧ (∃ x y, IsTupOf2 h (N + 3) x y) ∧ h.IsTupleIter N a i ∧ h.IsListIter (N + 1) b i
theorem turn_zipM {P : Program} {w : World} {K : PySem.W.Frag} {elts : List Expr} {kk : Nat} {tpos : Pos} {a b N : Addr} (ha : a < N) (hb : b < N) :
    Turn P w K (.Tuple elts kk tpos) (ItzM K a b) [N + 4, N + 2, N + 3, N, N + 1] (N + 4) (tnM N a b) where
  mem := List.mem_cons_self
  obj := fun i h st c hc => by
    obtain ⟨hz, hI, ⟨x, y, hO⟩, ⟨o1, g1, _, d1⟩, ⟨o2, g2, _, d2⟩⟩ := st
    simp only [List.mem_cons, List.not_mem_nil, or_false] at hc
    rcases hc with rfl | rfl | rfl | rfl | rfl
    · exact ⟨_, hz, fun v q => nomatch q⟩
    · exact ⟨_, hI, fun v q => nomatch q⟩
    · exact ⟨_, hO, fun v q => nomatch q⟩
    · exact ⟨o1, g1, fun v q => by rw [d1] at q; cases q⟩
    · exact ⟨o2, g2, fun v q => by rw [d2] at q; cases q⟩
  keep := fun i h h' st k => by
    obtain ⟨hz, hI, ⟨x, y, hO⟩, g1, g2⟩ := st
    exact ⟨k _ (by simp) _ hz, k _ (by simp) _ hI, ⟨x, y, k _ (by simp) _ hO⟩, g1.at fun o q => k _ (by simp) o q, g2.at fun o q => k _ (by simp) o q⟩
  item := by
    intro X hP hw hK hc i pins s σ H E I hf st hg
    subst hP hw hK
    have st0 := st
    obtain ⟨hz, hI, hO, g1, g2⟩ := st
    obtain ⟨xs, ys, x, y, hq, hq2, hx, hy⟩ := hg
    obtain ⟨its, rv, p, _⟩ := I.tuple hq
    obtain ⟨its2, rv2, p2, _⟩ := I.list hq2
    obtain ⟨u, hu, ru⟩ := rv.get hx
    obtain ⟨u2, hu2, ru2⟩ := rv2.get hy
    have pT : s.heap.IsTuple a its.toArray := p
    have D1 := Draws.tuple (prog := X.prog) (w := X.w) (A := X.A.in1) (I.ok.hd hc) N a (Nat.ne_of_lt ha) its.toArray
    have D2 := Draws.list (prog := X.prog) (w := X.w) (A := X.A.in1) (I.ok.hd hc) (N + 1) b (Nat.ne_of_lt (Nat.lt_succ_of_lt hb)) its2.toArray
    have G := GoesN.zip2 (elts := elts) (x1 := kk) (pos := tpos) (zip_sep2 (N := N) (fp1 := [a]) (fp2 := [b]) (fun c h => by rw [List.mem_singleton.mp h]; exact ha) (fun c h => by rw [List.mem_singleton.mp h]; exact hb)) D1 D2
    have l1 : i < its.toArray.size := by
      have q := (List.getElem?_eq_some_iff.mp hu).1
      simpa using q
    have l2 : i < its2.toArray.size := by
      have q := (List.getElem?_eq_some_iff.mp hu2).1
      simpa using q
    refine G.goes i s (fun v s2 => ∃ x H', L2.Inv X pins σ H' s2 ∧ L2.RelV x v ∧ (ItzM X.K a b).yld i H x H' ∧ tnM N a b (i + 1) s2.heap ∧ ∀ c, c ∈ [N + 4, N + 2, N + 3, N, N + 1] → H' c = none) E (by omega) ⟨hz, hI, hO, ⟨g1, pT⟩, ⟨g2, p2.isList⟩⟩ fun v h' tk hY hst hk htk => ?_
    obtain ⟨T, x', y', rfl, hT, hx', hy', hTup⟩ := hY
    have ex : x' = u := by
      have q : its.toArray[i]? = some u := by simpa using hu
      rw [q] at hx'
      exact (Option.some.inj hx').symm
    have ey : y' = u2 := by
      have q : its2.toArray[i]? = some u2 := by simpa using hu2
      rw [q] at hy'
      exact (Option.some.inj hy').symm
    subst ex
    subst ey
    have new : ObjOk X.prog X.w (upd H T (.tup [x, y])) h' T (.tup [x, y]) := ⟨by show 2 ≤ sizeLine; decide, [x', y'], .cons ru (.cons ru2 .nil), hTup⟩
    have keep : ∀ c ob, c ∉ [N + 4, N + 2, N + 3, N, N + 1] → s.heap.get? c = some ob → h'.get? c = some ob := fun c ob hc2 q => hk c ob (fun z => hc2 (four_five c z)) q
    have I1 : L2.Inv X pins σ (upd H T (.tup [x, y])) { heap := h', gens := s.gens, drawn := s.drawn, toks := tk, os := s.os } := I.turnedNew (ch := [N + 4, N + 2, N + 3, N, N + 1]) keep hf hT new
    refine ⟨.ref T, _, I1, rfl, ⟨T, x, y, rfl, I.hok.fresh hT, rfl, fun zs hz => ?_, fun zs hz => ?_⟩, ⟨hst.1, hst.2.1, hst.2.2.1, hst.2.2.2.1.1, hst.2.2.2.2.1⟩, fun c hc2 => ?_⟩
    · rw [I.tuple_inj hz hq]
      exact hx
    · rw [I.list_inj hz hq2]
      exact hy
    · have lc : c < s.heap.objs.size := five_lt (Heap.lt_size hz) c hc2
      rw [upd_ne (Nat.ne_of_lt (Nat.lt_of_lt_of_le lc hT))]
      exact (hf c hc2).1
  done := by
    intro X hP hw hK hc i pins s σ H E I hf st hg
    subst hP hw hK
    obtain ⟨hz, hI, hO, g1, g2⟩ := st
    obtain ⟨xs, ys, hq, hq2, hn⟩ := hg
    obtain ⟨its, rv, p, _⟩ := I.tuple hq
    obtain ⟨its2, rv2, p2, _⟩ := I.list hq2
    have pT : s.heap.IsTuple a its.toArray := p
    have D1 := Draws.tuple (prog := X.prog) (w := X.w) (A := X.A.in1) (I.ok.hd hc) N a (Nat.ne_of_lt ha) its.toArray
    have D2 := Draws.list (prog := X.prog) (w := X.w) (A := X.A.in1) (I.ok.hd hc) (N + 1) b (Nat.ne_of_lt (Nat.lt_succ_of_lt hb)) its2.toArray
    have G := GoesN.zip2 (elts := elts) (x1 := kk) (pos := tpos) (zip_sep2 (N := N) (fp1 := [a]) (fp2 := [b]) (fun c h => by rw [List.mem_singleton.mp h]; exact ha) (fun c h => by rw [List.mem_singleton.mp h]; exact hb)) D1 D2
    have en : min its.toArray.size its2.toArray.size = i := by
      have e1 := rv.length
      have e2 := rv2.length
      rw [List.size_toArray, List.size_toArray]
      omega
    have s0 := G.stops s (fun s1 => L2.Inv X pins σ H s1) E
    rw [en] at s0
    refine s0 ⟨hz, hI, hO, ⟨g1, pT⟩, ⟨g2, p2.isList⟩⟩ fun h' tk hk htk => ?_
    exact I.turnedL (ch := [N + 4, N + 2, N + 3, N, N + 1]) (fun c ob hc2 q => hk c ob (fun z => hc2 (four_five c z)) q) hf
  self := fun A i s Q E st h => wpAny_pyIter_zip st.1 h
def iZipM (K : PySem.W.Frag) (ta : TA) : TI := fun σ H R => ta σ H fun vs H1 => ∃ a b xs ys, vs = [.ref a, .ref b] ∧ SqT K H1 a xs ∧ SqL K H1 b ys ∧ R (ItzM K a b) H1
theorem pi_zipM {X : Cx} {e e2 : Expr} {ta : TA} {p pos tpos : Pos} {elts : List Expr} {kk : Nat} (hg : Gl X "zip") (hm : X.mg "zip" = none) (ha : PA X [e, e2] ta)
    (hs : starEach [e, e2] X.env = (false, eval e X.env) :: starEach [e2] X.env := by rfl) (hpl : (backTo pos (starEach [e2] X.env)).any (·.1) = false := by rfl) : PI X (.Tuple elts kk tpos) (.Call (.Name "zip" p) [e, e2] [] pos) (iZipM X.K ta) := by
  refine ⟨fun pins s σ H R I h => Call_ (ld_blt I hg hm boot_zip (callWith_type1 (thn (ha.run pos pins s σ H _ I h) fun us s1 hh => ?_) hs hpl))⟩
  obtain ⟨vs, H1, I1, r1, a, b, xs, ys, ex, hq, hq2, q⟩ := hh
  subst ex
  cases r1 with
  | cons r rr =>
    cases rr with
    | cons r' rr =>
      cases rr
      cases r
      cases r'
      obtain ⟨its, rv, p', hz⟩ := I1.tuple hq
      obtain ⟨its2, rv2, p2, _⟩ := I1.list hq2
      have pT : s1.heap.IsTuple a its.toArray := p'
      have la : a < s1.heap.objs.size := by
        obtain ⟨_, g, _⟩ := pT
        exact Heap.lt_size g
      have lb : b < s1.heap.objs.size := by
        obtain ⟨_, g, _⟩ := p2.isList
        exact Heap.lt_size g
      refine zip_begins2 (begins_tuple a its.toArray) (begins_list b its2.toArray) pT p2.isList fun h' hz' hI hO h0 h1 hsz hk => wpAny_pyIter_zip hz' ?_
      have I2 : L2.Inv X pins σ H1 { s1 with heap := h' } := I1.kept (t' := s1.toks) hk
      refine ⟨s1.heap.objs.size + 4, [s1.heap.objs.size + 4, s1.heap.objs.size + 2, s1.heap.objs.size + 3, s1.heap.objs.size, s1.heap.objs.size + 1], _, _, H1, rfl, I2, turn_zipM la lb, ⟨hz', hI, ⟨_, _, hO⟩, ⟨_, h0, rfl, rfl⟩, ⟨_, h1, rfl, rfl⟩⟩, fun c hc => ?_, q⟩
      have hle : s1.heap.objs.size ≤ c := five_le c hc
      exact I1.fpOk hle (I1.hok.fresh hle)
theorem kiZipM {X : Cx} {K : PySem.W.Frag} {e e2 : Expr} {ta : TA} {p pos tpos : Pos} {elts : List Expr} {kk : Nat} (hK : X.K = K) (hg : Gl X "zip") (hm : X.mg "zip" = none) (ha : PA X [e, e2] ta)
    (hs : starEach [e, e2] X.env = (false, eval e X.env) :: starEach [e2] X.env := by rfl) (hpl : (backTo pos (starEach [e2] X.env)).any (·.1) = false := by rfl) : PI X (.Tuple elts kk tpos) (.Call (.Name "zip" p) [e, e2] [] pos) (iZipM K ta) := by
  subst hK
  exact pi_zipM hg hm ha hs hpl
/-- walked: the tuple's items beside the list's -/
theorem it_zipM {O : List Addr} {n : Nat} {ρ : Rho} {ta tb : TE} {ds es : List PyData} {K : PySem.W.Frag} (h : EvD O n ta ρ (.tuple ds)) (h' : EvD O n tb ρ (.list es)) : IterD O n (iZipM K (tCons ta (tCons tb tNil))) ρ (zipD ds es) := fun σ H hn s R q => h σ H hn s _ fun v H1 e1 d1 => h' σ H1 hn (s.ex e1) _ fun v' H2 e2 d2 => by
  cases d1 with
  | @tup a xs _ ha k =>
    cases d2 with
    | @lst b ys _ hb k' =>
      have l : (zipD ds es).length = min ds.length es.length := by
        unfold zipD
        rw [List.length_zipWith]
      have ha2 : sub H2 O a = some (.tup xs) := (Ex.o O e2) _ _ ha
      refine ⟨a, b, xs, ys, rfl, Evl.st_of (sub_of ha2).1, Evl.sq_of (sub_of hb).1, q (ItzM K a b) H2 (fun P H3 => (sub H3 P a = some (.tup xs) ∧ DqAll (sub H3 P) xs ds) ∧ (sub H3 P b = some (.lst ys) ∧ DqAll (sub H3 P) ys es)) (YPair (fun i => xs[i]?) (fun i => ys[i]?)) (e1.trans e2) (fun P => ?_)
        ⟨⟨ha2, k.mono (Ex.o O e2)⟩, ⟨hb, k'⟩⟩ (fun P P' H3 H4 g e => ⟨⟨e _ _ g.1.1, g.1.2.mono e⟩, ⟨e _ _ g.2.1, g.2.2.mono e⟩⟩) ?_⟩
      · have W : Walk (ItzM K a b) (min xs.length ys.length) (fun H => SqT K H a xs ∧ SqL K H b ys) (YPair (fun i => xs[i]?) (fun i => ys[i]?)) := by
          refine ⟨fun i _ hi q => ?_, fun _ q => ⟨xs, ys, q.1, q.2, rfl⟩, fun i H v H' _ q y => ?_⟩
          · have h1 : i < xs.length := by omega
            have h2 : i < ys.length := by omega
            exact ⟨xs, ys, xs[i], ys[i], q.1, q.2, by simp [h1], by simp [h2]⟩
          · obtain ⟨T, x, z, h1, h2, h3, h4, h5⟩ := y
            exact ⟨T, x, z, h1, h2, h3, h4 xs q.1, h5 ys q.2⟩
        rw [l, ← k.length, ← k'.length]
        exact W.mono (fun H3 g => ⟨Evl.st_of (sub_of g.1.1).1, Evl.sq_of (sub_of g.2.1).1⟩) fun _ _ _ _ _ _ y => y
      · rintro P i H3 x H4 hi ho ⟨⟨g1, g2⟩, g3, g4⟩ ⟨T, x1, x2, rfl, hT, hH, q1, q2⟩
        obtain ⟨d, h1, h2⟩ := g2.getV q1
        obtain ⟨d', h1', h2'⟩ := g4.getV q2
        obtain ⟨a1, a2⟩ := pair_new ho hT hH h2 h2'
        refine ⟨a1, _, ?_, a2⟩
        unfold zipD
        rw [List.getElem?_zipWith, h1, h1']
/-! ### three parameters by name, from the last to the first -/
def sw3G (us ws : List Value) : List Value := match ws with
  | [a, b, c] => us ++ [c, b, a]
  | _ => us ++ ws
def sw3V (us ws : List V) : List V := match ws with
  | [a, b, c] => us ++ [c, b, a]
  | _ => us ++ ws
theorem kb_swap3 {K : PySem.W.Frag} {f : Addr} {fd : FuncData} {x qual k0 k1 k2 : Str} {st : Stmt} (F : Fun K x qual st f fd)
    (h : ∀ (kV doc pm : Value) (an : Option Addr) (cdv ct : Value) (u v z : Value), bindArgs (PySem.W.fnOf x qual (defArgs st) (defBody st) (defScope st) .none kV doc pm an cdv ct) ⟨[], [(k2, u), (k1, v), (k0, z)]⟩ = pure [(k0, z), (k1, v), (k2, u)]) : KBn K fd [k0, k1, k2] 0 [k2, k1, k0] sw3G sw3V := by
  obtain ⟨oc, od, kV, doc, pm, an, cdv, ct, osl, rfl, lk, hcd⟩ := F.ex
  refine ⟨fun s us ws X l1 l2 => ?_, fun {vs us zs ws} r1 r2 => ?_⟩
  · match us, ws, l1, l2 with
    | [], [u, v, z], _, _ => exact .of_eq (h kV doc pm an cdv ct u v z)
  · match zs, ws, r2 with
    | [], [], r2 => exact r1.append r2
    | [_], [_], r2 => exact r1.append r2
    | [_, _], [_, _], r2 => exact r1.append r2
    | [a, b, c], [_, _, _], .cons h1 (.cons h2 (.cons h3 .nil)) => exact r1.append (.cons h3 (.cons h2 (.cons h1 .nil)))
    | _ :: _ :: _ :: _ :: _, _ :: _ :: _ :: _ :: _, r2 => exact r1.append r2
theorem sw3_dq {x y z : PyData} : ∀ (H : Hp) (vs : List V), DqAll H vs [x, y, z] → DqAll H (sw3V [] vs) [z, y, x] := fun H vs h => by
  cases h with
  | cons a r =>
    cases r with
    | cons b r =>
      cases r with
      | cons c r =>
        cases r
        exact .cons c (.cons b (.cons a .nil))
end DL
namespace DL
open PySem L2 RZ TL
theorem ed_chain {O : List Addr} {n : Nat} {ρ : Rho} {ta tb tc : TE} {x y : PyData} {r r' : R2} {k b : Bool} (ha : EvD O n ta ρ x) (hb : EvD O n tb ρ y) (hr : RD O r x y (.bool k)) (hc : k = true → ∃ z, EvD O n tc ρ z ∧ RD O r' y z (.bool b)) (hf : k = false → b = false) : EvD O n (tChain r r' ta tb tc) ρ (.bool b) := fun σ H hn s Q q =>
  ha σ H hn s _ fun v H1 e1 d1 => hb σ H1 hn (s.ex e1) _ fun w H2 e2 d2 => hr H2 v w (own_ex (e1.trans e2) s.own) (d1.mono (Ex.o O e2)) d2 _ fun u H3 e3 d3 => by
    cases d3
    refine ⟨k, rfl, ?_⟩
    cases k with
    | true =>
      rw [if_pos rfl]
      obtain ⟨z, hz, hr2⟩ := hc rfl
      exact hz σ H3 hn ((s.ex (e1.trans e2)).ex e3) _ fun w2 H4 e4 d4 => hr2 H4 w w2 (own_ex (((e1.trans e2).trans e3).trans e4) s.own) (d2.mono (Ex.o O (e3.trans e4))) d4 Q fun u H5 e5 d5 => q u H5 ((((e1.trans e2).trans e3).trans e4).trans e5) d5
    | false =>
      rw [if_neg (by decide)]
      rw [hf rfl] at q
      exact q _ H3 ((e1.trans e2).trans e3) (.bl _)
end DL
/-! DZ5: divmod; four keywords from the last to the first; own lists within a statement; wide products. -/
namespace DL
open PySem L2 Evl PyProof.Rows TL RZ
theorem kDivmod {X : Cx} {K : PySem.W.Frag} (hK : X.K = K) : CallR X (.builtin "divmod") (fun xs H Q => ∃ i j, xs = [.int i, .int j] ∧ CDivP i j ∧ ∀ p, H p = none → Q (.ref p) (upd H p (.tup [.int (i / j), .int (i % j)]))) := call_divmodW
theorem small_div {i j : Int} (h0 : 0 < j) (h1 : j < 1000000) : CDivP i j := by
  refine ⟨h0, ?_⟩
  unfold Builtin.divisionGoesByPylong
  have l : j.natAbs.log2 < 30 := (Nat.log2_lt (by omega)).mpr (by omega)
  have e : (if j == 0 then 0 else j.natAbs.log2 / 30 + 1) ≤ 300 := by
    split
    · omega
    · have : j.natAbs.log2 / 30 = 0 := Nat.div_eq_of_lt l
      omega
  simp only
  rw [Bool.and_eq_false_iff]
  left
  exact decide_eq_false (by omega)
section
variable {O : List Addr} {n : Nat} {ρ ρ' ρ2 : Rho} {c' : Own} {t : TS}
theorem rc_divmod {i j : Int} (h : CDivP i j) : RDC O (fun xs H Q => ∃ i j, xs = [.int i, .int j] ∧ CDivP i j ∧ ∀ p, H p = none → Q (.ref p) (upd H p (.tup [.int (i / j), .int (i % j)]))) [.int i, .int j] (.tuple [.int (i / j), .int (i % j)]) := fun H vs ho hv Q q => by
  cases hv with
  | cons a r =>
    cases a
    cases r with
    | cons b r =>
      cases b
      cases r
      exact ⟨i, j, rfl, h, fun p hp => q _ _ (Ex.new hp) (.tup (sub_mk upd_same (not_own ho hp)) (.cons (.int _) (.cons (.int _) .nil)))⟩
theorem rn_own (h : RunM O n t ρ Own.none ρ' c') (e : vwC c' 0 ρ' = ρ2) : RunN O n t ρ ρ2 := fun D σ H hn s k =>
  h H D σ H hn ⟨O, fun _ => 0, ⟨fun _ a => a, fun _ a => .inl a, s, fun _ _ z => (by cases z), fun _ _ _ _ z => (by cases z), Ex.refl H⟩⟩ fun σ' H' hl ⟨P, al, s'⟩ => k σ' H' hl s'.ex (e ▸ s'.view)
end
def sw4G (us ws : List Value) : List Value := match ws with
  | [a, b, c, d] => us ++ [d, c, b, a]
  | _ => us ++ ws
def sw4V (us ws : List V) : List V := match ws with
  | [a, b, c, d] => us ++ [d, c, b, a]
  | _ => us ++ ws
theorem kb_swap4 {K : PySem.W.Frag} {f : Addr} {fd : FuncData} {x qual k0 k1 k2 k3 : Str} {st : Stmt} (F : Fun K x qual st f fd)
    (h : ∀ (kV doc pm : Value) (an : Option Addr) (cdv ct : Value) (t u v z : Value), bindArgs (PySem.W.fnOf x qual (defArgs st) (defBody st) (defScope st) .none kV doc pm an cdv ct) ⟨[], [(k3, t), (k2, u), (k1, v), (k0, z)]⟩ = pure [(k0, z), (k1, v), (k2, u), (k3, t)]) : KBn K fd [k0, k1, k2, k3] 0 [k3, k2, k1, k0] sw4G sw4V := by
  obtain ⟨oc, od, kV, doc, pm, an, cdv, ct, osl, rfl, lk, hcd⟩ := F.ex
  refine ⟨fun s us ws X l1 l2 => ?_, fun {vs us zs ws} r1 r2 => ?_⟩
  · match us, ws, l1, l2 with
    | [], [t, u, v, z], _, _ => exact .of_eq (h kV doc pm an cdv ct t u v z)
  · match zs, ws, r2 with
    | [], [], r2 => exact r1.append r2
    | [_], [_], r2 => exact r1.append r2
    | [_, _], [_, _], r2 => exact r1.append r2
    | [_, _, _], [_, _, _], r2 => exact r1.append r2
    | [a, b, c, d], [_, _, _, _], .cons h1 (.cons h2 (.cons h3 (.cons h4 .nil))) => exact r1.append (.cons h4 (.cons h3 (.cons h2 (.cons h1 .nil))))
    | _ :: _ :: _ :: _ :: _ :: _, _ :: _ :: _ :: _ :: _ :: _, r2 => exact r1.append r2
theorem sw4_dq {x y z t : PyData} : ∀ (H : Hp) (vs : List V), DqAll H vs [x, y, z, t] → DqAll H (sw4V [] vs) [t, z, y, x] := fun H vs h => by
  cases h with
  | cons a r =>
    cases r with
    | cons b r =>
      cases r with
      | cons c r =>
        cases r with
        | cons d r =>
          cases r
          exact .cons d (.cons c (.cons b (.cons a .nil)))
theorem rd_mulW {O : List Addr} {a b : Int} (ha : -(2 ^ 200) < a ∧ a < 2 ^ 200) (hb : -(2 ^ 200) < b ∧ b < 2 ^ 200) : RD O (rI CMulW fun i j => .int (i * j)) (.int a) (.int b) (.int (a * b)) := by
  refine rd_I (C := CMulW) (g := fun i j => i * j) ?_
  have l : ∀ c : Int, -(2 ^ 200) < c ∧ c < 2 ^ 200 → c.natAbs.log2 < 9000 := fun c hc => by
    have q := log_lt (m := (c.natAbs : Int)) (by omega) (by omega)
    simpa using q
  have h1 := l a ha
  have h2 := l b hb
  show a.natAbs.log2 + b.natAbs.log2 < 1000000
  omega
end DL
/-! DG: draws, own lists and returns in one judgement. -/
namespace DL
open PySem L2 Evl PyProof.Rows TL RZ
theorem rd_notN {O : List Addr} {x : PyData} : RD O (fun x y H Q => y = .non ∧ Q (.bl (!decide (x = .non))) H) x .none (.bool (match x with | .none => false | _ => true)) := fun H v w _ h1 h2 Q q => by
  cases h2
  refine ⟨rfl, q _ H (Ex.refl H) ?_⟩
  cases h1 <;> exact .bl _
abbrev Own.del (c : Own) (m : Nat) : Own := fun k => if k = m then Option.none else c k
structure SGM (O : List Addr) (p : Addr) (cnt : Nat) (H0 : Hp) (c : Own) (H : Hp) (σ : L2.St) (ρ : Rho) (P : List Addr) (al : Nat → Addr) : Prop where
  m : SDM O (sub H0 [p]) c H σ ρ P al
  bx : σ[0]? = some (some (.ref p))
  box : Box p cnt H
  mem : p ∈ O
  fr : ρ[0]? = some none
section
variable {O P : List Addr} {p : Addr} {cnt cnt' : Nat} {H0 H H' : Hp} {c : Own} {σ : L2.St} {ρ : Rho} {al : Nat → Addr}
theorem SGM.sb (s : SGM O p cnt H0 c H σ ρ P al) : SB P p cnt H σ ρ := ⟨s.m.sd, s.bx, s.box, s.m.less _ s.mem, s.fr⟩
theorem SGM.step (s : SGM O p cnt H0 c H σ ρ P al) (e : ExO [p] H H') (b : Box p cnt' H') : SGM O p cnt' H0 c H' σ ρ P al := by
  have pP := s.m.less _ s.mem
  have eP := exo_more e pP
  refine ⟨⟨s.m.less, s.m.only, s.m.sd.mono eP (own_o e b s.m.sd.own), fun k ds h => ?_, s.m.inj, fun a o ha => ?_⟩, s.bx, b, s.mem, s.fr⟩
  · obtain ⟨h1, ⟨xs, h2, h3⟩, h4, h5, h6, h7⟩ := s.m.at_ k ds h
    exact ⟨h1, ⟨xs, e.at h2 (fun z => h6 (by rw [List.mem_singleton.mp z]; exact s.mem)), h3.mono eP⟩, h4, h5, h6, h7⟩
  · exact e.at (s.m.ex a o ha) (sub_of ha).2
theorem SGM.stepX (s : SGM O p cnt H0 c H σ ρ P al) (e : Ex H H') : SGM O p cnt H0 c H' σ ρ P al := s.step (Ex.o _ e) (s.box.ex e)
theorem SGM.bmono (s : SGM O p cnt H0 c H σ ρ P al) (h : cnt ≤ cnt') : SGM O p cnt' H0 c H σ ρ P al := ⟨s.m, s.bx, s.box.mono h, s.mem, s.fr⟩
theorem SGM.put {i : Nat} {v : V} {d : PyData} (s : SGM O p cnt H0 c H σ ρ P al) (h : Dq (sub H P) v d) (hi : i < σ.length) (h0 : i ≠ 0) (hc : c i = none) : SGM O p cnt H0 c H (σ.set i (some v)) (ρ.set i (some d)) P al :=
  ⟨s.m.put h hi hc, by rw [List.getElem?_set_ne h0]; exact s.bx, s.box, s.mem, by rw [List.getElem?_set_ne h0]; exact s.fr⟩
theorem SGM.own {m : Nat} {q : Addr} {xs : List V} {ds : List PyData} (s : SGM O p cnt H0 c H σ ρ P al) (hq : H q = none) (d : DqAll (sub H P) xs ds) (hm : m < σ.length) (hr : m < ρ.length) (h0 : m ≠ 0) (hc : c m = none) :
    SGM O p cnt H0 (c.put m ds) (upd H q (.lst xs)) (σ.set m (some (.ref q))) (ρ.set m none) (q :: P) (fun k => if k = m then q else al k) :=
  ⟨s.m.own hq d hm hr hc, by rw [List.getElem?_set_ne h0]; exact s.bx, s.box.ex (Ex.new hq), s.mem, by rw [List.getElem?_set_ne h0]; exact s.fr⟩
theorem SGM.other {m : Nat} {xs : List V} {ds es : List PyData} (s : SGM O p cnt H0 c H σ ρ P al) (hm : c m = some ds) (d : DqAll (sub H P) xs es) : SGM O p cnt H0 (c.put m es) (upd H (al m) (.lst xs)) σ ρ P al := by
  have q := (s.m.at_ m ds hm).2.2.2.2.1
  refine ⟨s.m.other hm d, s.bx, ?_, s.mem, s.fr⟩
  obtain ⟨b0, b1, b2, e', rr⟩ := s.box
  exact ⟨b0, b1, b2, by rw [upd_ne (fun z => q (by rw [← z]; exact s.mem))]; exact e', rr⟩
theorem SGM.freeze {m : Nat} {ds : List PyData} (s : SGM O p cnt H0 c H σ ρ P al) (hm : c m = some ds) : SGM O p cnt H0 (c.del m) H σ (ρ.set m (some (.list ds))) (P.filter fun a => decide (a ≠ al m)) al := by
  obtain ⟨m1, ⟨xs, hx, dx⟩, m3, m4, m5, m6⟩ := s.m.at_ m ds hm
  have fl : ∀ a, a ∈ (P.filter fun a => decide (a ≠ al m)) → a ∈ P ∧ a ≠ al m := fun a ha => by
    have q := List.mem_filter.mp ha
    exact ⟨q.1, of_decide_eq_true q.2⟩
  have fm : ∀ a, a ∈ P → a ≠ al m → a ∈ (P.filter fun a => decide (a ≠ al m)) := fun a ha hn => List.mem_filter.mpr ⟨ha, decide_eq_true hn⟩
  have le := sub_less (H := H) (P := P) (P' := P.filter fun a => decide (a ≠ al m)) fun a ha => (fl a ha).1
  have m0 : m ≠ 0 := fun z => by
    rw [z, s.bx] at m1
    cases m1
    rw [z] at m5
    exact m5 (by have := s.mem; simp_all)
  have ck : ∀ k fs, (c.del m) k = some fs → k ≠ m ∧ c k = some fs := fun k fs hk => by
    by_cases c2 : k = m
    · simp [Own.del, c2] at hk
    · exact ⟨c2, by simpa [Own.del, c2] using hk⟩
  refine ⟨⟨fun a ha => fm a (s.m.less a ha) fun z => m5 (z ▸ ha), fun a ha => ?_, ⟨fun a ha => s.m.sd.own a (fl a ha).1, fun i d hd => ?_⟩, fun k fs hk => ?_, fun k k' fs fs' hk hk' he => s.m.inj k k' fs fs' (ck k fs hk).2 (ck k' fs' hk').2 he, s.m.ex⟩, s.bx, s.box, s.mem, by rw [List.getElem?_set_ne m0]; exact s.fr⟩
  · obtain ⟨a1, a2⟩ := fl a ha
    rcases s.m.only a a1 with q | ⟨k, fs, h1, rfl⟩
    · exact .inl q
    · refine .inr ⟨k, fs, ?_, rfl⟩
      have : k ≠ m := fun z => a2 (by rw [z])
      simp [Own.del, this, h1]
  · by_cases c2 : m = i
    · subst c2
      have hb : m < ρ.length := (List.getElem?_eq_some_iff.mp m3).1
      rw [List.getElem?_set_self hb] at hd
      cases hd
      exact ⟨_, m1, .lst (sub_mk hx fun z => (fl _ z).2 rfl) (dx.mono le)⟩
    · rw [List.getElem?_set_ne c2] at hd
      obtain ⟨v, h1, h2⟩ := s.m.sd.at' i d hd
      exact ⟨v, h1, h2.mono le⟩
  · obtain ⟨c2, hk⟩ := ck k fs hk
    obtain ⟨h1, ⟨ys, h2, h3⟩, h4, h5, h6, h7⟩ := s.m.at_ k fs hk
    exact ⟨h1, ⟨ys, h2, h3.mono le⟩, by rw [List.getElem?_set_ne (Ne.symm c2)]; exact h4, fm _ h5 fun z => c2 (s.m.inj k m fs ds hk hm z), h6, h7⟩
theorem SGM.exo (s : SGM O p cnt H0 c H σ ρ P al) (e : ExO [p] H H') : ExO [p] H0 H' := fun a o ha => sub_mk (e.at (s.m.ex a o ha) (sub_of ha).2) (sub_of ha).2
theorem SGM.own_o (s : SGM O p cnt H0 c H σ ρ P al) : ∀ a, a ∈ P → H a ≠ none := s.m.sd.own
end
def SGX (O : List Addr) (p : Addr) (cnt : Nat) (H0 : Hp) (c : Own) (H : Hp) (σ : L2.St) (ρ : Rho) : Prop := ∃ P al, SGM O p cnt H0 c H σ ρ P al
/-- runs: goes on with T, or returns with S; at most k draws -/
def RG (n : Nat) (t : TS) (ρ : Rho) (c : Own) (k : Nat) (T : Rho → Own → Prop) (S : PyData → Prop) : Prop := ∀ (O : List Addr) (p : Addr) (cnt : Nat) (H0 : Hp) (D : Ends) (σ : L2.St) (H : Hp), σ.length = n → SGX O p cnt H0 c H σ ρ → cnt + k ≤ 1000000 →
  (∀ ρ' c' σ' H', T ρ' c' → σ'.length = n → SGX O p (cnt + k) H0 c' H' σ' ρ' → D.nx σ' H') → (∀ v d H', S d → ExO [p] H0 H' → Box p (cnt + k) H' → Dq (sub H' O) v d → D.rt v H') → t D σ H
section
variable {n i j m k k1 k2 : Nat} {ρ ρ1 ρ' : Rho} {c c1 c' : Own} {te ta tb : TE} {tr : TA} {tt : TT} {t u : TS} {g : TG} {S S1 S2 : PyData → Prop} {T T1 : Rho → Own → Prop} {K : PySem.W.Frag} {d x : PyData} {ds es : List PyData} {vs : List Nat} {wi : TI} {E : XK}
theorem rg_wk (h : RG n t ρ c k T S) (hk : k ≤ k1) (hT : ∀ ρ' c', T ρ' c' → T1 ρ' c') (hS : ∀ d, S d → S1 d) : RG n t ρ c k1 T1 S1 := fun O p cnt H0 D σ H hn s hc q r =>
  h O p cnt H0 D σ H hn s (by omega) (fun ρ' c' σ' H' ht hl ⟨P, al, s'⟩ => q ρ' c' σ' H' (hT _ _ ht) hl ⟨P, al, s'.bmono (by omega)⟩) fun v d H' hd e b dd => r v d H' (hS d hd) e (b.mono (by omega)) dd
theorem rg_k (h : RG n t ρ c k T S) (hk : k ≤ k1) : RG n t ρ c k1 T S := rg_wk h hk (fun _ _ z => z) fun _ z => z
theorem rg_0 (h : RG n t ρ c (0 + k) T S) : RG n t ρ c k T S := by rwa [Nat.zero_add] at h
theorem rg_next (h : T ρ c) : RG n tNext ρ c 0 T S := fun O p cnt H0 D σ H hn s hc q r => q ρ c σ H h hn s
theorem rg_seq (h1 : RG n t ρ c k1 T1 S) (h2 : ∀ ρ1 c1, T1 ρ1 c1 → RG n u ρ1 c1 k2 T S) : RG n (tSeq t u) ρ c (k1 + k2) T S := fun O p cnt H0 D σ H hn s hc q r =>
  h1 O p cnt H0 _ σ H hn s (by omega) (fun ρ1 c1 σ1 H1 hT l1 s1 => h2 ρ1 c1 hT O p (cnt + k1) H0 D σ1 H1 l1 s1 (by omega) (fun ρ2 c2 σ2 H2 hT2 l2 s2 => q ρ2 c2 σ2 H2 hT2 l2 (by rw [← Nat.add_assoc]; exact s2)) fun v d H2 hd e2 b2 d2 => r v d H2 hd e2 (by rw [← Nat.add_assoc]; exact b2) d2)
    fun v d H' hd e b dd => r v d H' hd e (b.mono (by omega)) dd
/-- x = drawn -/
theorem rg_asg (h : EvB n te ρ k S1) (hi : i < n) (h0 : i ≠ 0) (hc : c i = none) : RG n (tAsg te (gName i)) ρ c k (fun ρ' c' => ∃ d, S1 d ∧ ρ' = ρ.set i (some d) ∧ c' = c) S := fun O p cnt H0 D σ H hn ⟨P, al, s⟩ hcc q r =>
  h P p cnt σ H hn s.sb hcc _ fun v d H1 hd e1 b1 d1 => q _ c _ H1 ⟨d, hd, rfl, rfl⟩ (by rw [List.length_set]; exact hn) ⟨P, al, (s.step e1 b1).put d1 (by rw [hn]; exact hi) h0 hc⟩
theorem rg_get (h : EvB n te ρ k1 S1) (hi : i < n) (h0 : i ≠ 0) (hc : c i = none) (h2 : ∀ d, S1 d → RG n u (ρ.set i (some d)) c k2 T S) : RG n (tSeq (tAsg te (gName i)) u) ρ c (k1 + k2) T S :=
  rg_seq (rg_asg h hi h0 hc) fun ρ1 c1 z => by
    obtain ⟨d, hd, rfl, rfl⟩ := z
    exact h2 d hd
/-- x = e, without a draw -/
theorem rg_let (h : ∀ O, EvD O n te ρ d) (hi : i < n) (h0 : i ≠ 0) (hc : c i = none) (h2 : RG n u (ρ.set i (some d)) c k T S) : RG n (tSeq (tAsg te (gName i)) u) ρ c k T S :=
  rg_0 (rg_get (eb_pure h) hi h0 hc fun d' e => by subst e; exact h2)
theorem rg_letE (h : ∀ O, EvD O n te ρ d) (hi : i < n) (h0 : i ≠ 0) (hc : c i = none) (h2 : T (ρ.set i (some d)) c) : RG n (tAsg te (gName i)) ρ c 0 T S :=
  rg_wk (rg_asg (eb_pure h) hi h0 hc) (Nat.le_refl _) (fun ρ' c' ⟨d', e, e1, e2⟩ => by subst e; subst e1; subst e2; exact h2) fun _ z => z
/-- any target -/
theorem rg_asgG (h : EvB n te ρ k1 S1) (h0 : 0 ∉ vs) (hv : ∀ i, i ∈ vs → c i = none) (h2 : ∀ d, S1 d → ∃ ρ', (∀ O, TgD O n vs g ρ d ρ') ∧ ρ'[0]? = some none ∧ (∀ i, i ∉ vs → ρ'[i]? = ρ[i]?) ∧ RG n u ρ' c k2 T S) : RG n (tSeq (tAsg te g) u) ρ c (k1 + k2) T S := fun O p cnt H0 D σ H hn ⟨P, al, s⟩ hcc q r =>
  h P p cnt σ H hn s.sb (by omega) _ fun v d H1 hd e1 b1 d1 => by
    obtain ⟨ρ', ht, hf, hr, hu⟩ := h2 d hd
    have s1 := s.step e1 b1
    refine ht P σ H1 v hn s1.m.sd d1 _ fun σ' hl hc' s' => ?_
    refine hu O p (cnt + k1) H0 D σ' H1 hl ⟨P, al, ⟨s1.m.less, s1.m.only, s', fun a fs ha => ?_, s1.m.inj, s1.m.ex⟩, by rw [hc' 0 h0]; exact s1.bx, s1.box, s1.mem, hf⟩ (by omega) (fun ρ2 c2 σ2 H2 hT l2 s2 => q ρ2 c2 σ2 H2 hT l2 (by rw [← Nat.add_assoc]; exact s2)) fun v d H2 hd e2 b2 d2 => r v d H2 hd e2 (by rw [← Nat.add_assoc]; exact b2) d2
    obtain ⟨q1, q2, q3, q4⟩ := s1.m.at_ a fs ha
    have na : a ∉ vs := fun z => by
      rw [hv a z] at ha
      cases ha
    exact ⟨by rw [hc' a na]; exact q1, q2, by rw [hr a na]; exact q3, q4⟩
/-- x, y = drawn, drawn -/
theorem rg_par {A : List PyData → Prop} (h : EvBA n tr ρ k1 A) (hA : ∀ ds, A ds → ∃ x y, ds = [x, y]) (hi : i < n) (hj : j < n) (h0 : i ≠ 0) (h1 : j ≠ 0) (ci : c i = none) (cj : c j = none) (h2 : ∀ x y, A [x, y] → RG n u ((ρ.set i (some x)).set j (some y)) c k2 T S) : RG n (tSeq (tPar i j tr) u) ρ c (k1 + k2) T S := fun O p cnt H0 D σ H hn ⟨P, al, s⟩ hcc q r =>
  h P p cnt σ H hn s.sb (by omega) _ fun vs ds H1 hd e1 b1 d1 => by
    obtain ⟨x, y, rfl⟩ := hA ds hd
    cases d1 with
    | cons a1 k1' =>
      cases k1' with
      | cons a2 k2' =>
        cases k2'
        refine ⟨_, _, rfl, ?_⟩
        refine h2 x y hd O p (cnt + k1) H0 D _ H1 (by rw [List.length_set, List.length_set]; exact hn) ⟨P, al, ((s.step e1 b1).put a1 (by rw [hn]; exact hi) h0 ci).put a2 (by rw [List.length_set, hn]; exact hj) h1 cj⟩ (by omega) (fun ρ2 c2 σ2 H2 hT l2 s2 => q ρ2 c2 σ2 H2 hT l2 (by rw [← Nat.add_assoc]; exact s2)) fun v d H2 hd e2 b2 d2 => r v d H2 hd e2 (by rw [← Nat.add_assoc]; exact b2) d2
/-- a new list of one's own -/
def EvBF (n : Nat) (te : TE) (ρ : Rho) (k : Nat) (A : List PyData → Prop) : Prop := ∀ (O : List Addr) (p : Addr) (cnt : Nat) (σ : L2.St) (H : Hp), σ.length = n → SB O p cnt H σ ρ → cnt + k ≤ 1000000 → ∀ Q : VK,
  (∀ q xs ds H1, A ds → ExO [p] H H1 → Box p (cnt + k) H1 → H1 q = none → DqAll (sub H1 O) xs ds → Q (.ref q) (upd H1 q (.lst xs))) → te σ H Q
theorem ebf_lst {A : List PyData → Prop} (h : EvBA n tr ρ k A) (hl : ∀ ds, A ds → ds.length ≤ 100000) : EvBF n (tLst tr) ρ k A := fun O p cnt σ H hn s hc Q q =>
  h O p cnt σ H hn s hc _ fun vs ds H1 hd e1 b1 d1 => ⟨by rw [d1.length]; exact sz_of (hl ds hd), fun l nl => q l vs ds H1 hd e1 b1 nl d1⟩
theorem ebf_pure (h : ∀ P, EvF P n te ρ ds) : EvBF n te ρ 0 (fun x => x = ds) := fun O p cnt σ H hn s hc Q q =>
  h O σ H hn s.sd _ fun l xs H1 e1 nl d1 => q l xs ds H1 rfl (Ex.o _ e1) (s.box.ex e1) nl d1
theorem rg_own {A : List PyData → Prop} (h : EvBF n te ρ k1 A) (hm : m < n) (hr : m < ρ.length) (h0 : m ≠ 0) (hc : c m = none) (h2 : ∀ ds, A ds → RG n u (ρ.set m none) (c.put m ds) k2 T S) : RG n (tSeq (tAsg te (gName m)) u) ρ c (k1 + k2) T S := fun O p cnt H0 D σ H hn ⟨P, al, s⟩ hcc q r =>
  h P p cnt σ H hn s.sb (by omega) _ fun l xs ds H1 hd e1 b1 nl d1 =>
    h2 ds hd O p (cnt + k1) H0 D _ _ (by rw [List.length_set]; exact hn) ⟨_, _, (s.step e1 b1).own nl d1 (by rw [hn]; exact hm) hr h0 hc⟩ (by omega) (fun ρ2 c2 σ2 H2 hT l2 s2 => q ρ2 c2 σ2 H2 hT l2 (by rw [← Nat.add_assoc]; exact s2)) fun v d H2 hd e2 b2 d2 => r v d H2 hd e2 (by rw [← Nat.add_assoc]; exact b2) d2
theorem rg_own0 (h : ∀ P, EvF P n te ρ ds) (hm : m < n) (hr : m < ρ.length) (h0 : m ≠ 0) (hc : c m = none) (h2 : RG n u (ρ.set m none) (c.put m ds) k T S) : RG n (tSeq (tAsg te (gName m)) u) ρ c k T S :=
  rg_0 (rg_own (ebf_pure h) hm hr h0 hc fun d' e => by subst e; exact h2)
/-- xs.append(drawn) -/
theorem rg_app (hc : c m = some ds) (h : EvB n te ρ k S1) (hl : ds.length ≤ 100000) : RG n (tDrop (tBM K "list" rAppend (tVar m) (tCons te tNil))) ρ c k (fun ρ' c' => ∃ d, S1 d ∧ ρ' = ρ ∧ c' = c.put m (ds ++ [d])) S := fun O p cnt H0 D σ H hn ⟨P, al, s⟩ hcc q r => by
  obtain ⟨m1, ⟨xs, hx, _⟩, _⟩ := s.m.at_ m ds hc
  refine ⟨_, m1, ty_lst hx, h P p cnt σ H hn s.sb hcc _ fun v d H1 hd e1 b1 d1 => ?_⟩
  have s1 := s.step e1 b1
  obtain ⟨_, ⟨ys, hy, dy⟩, _⟩ := s1.m.at_ m ds hc
  refine ⟨al m, ys, v, rfl, rfl, hy, Nat.lt_of_le_of_lt (show ys.length ≤ 100000 by have q := dy.length; omega) (by decide), ?_⟩
  exact q ρ _ σ _ ⟨d, hd, rfl, rfl⟩ hn ⟨P, al, s1.other hc (dy.append (.cons d1 .nil))⟩
theorem rg_append (hc : c m = some ds) (h : EvB n te ρ k1 S1) (hl : ds.length ≤ 100000) (h2 : ∀ d, S1 d → RG n u ρ (c.put m (ds ++ [d])) k2 T S) : RG n (tSeq (tDrop (tBM K "list" rAppend (tVar m) (tCons te tNil))) u) ρ c (k1 + k2) T S :=
  rg_seq (rg_app hc h hl) fun ρ1 c1 z => by
    obtain ⟨d, hd, rfl, rfl⟩ := z
    exact h2 d hd
theorem rg_append0 (hc : c m = some ds) (h : ∀ P, EvD P n te ρ d) (hl : ds.length ≤ 100000) (h2 : RG n u ρ (c.put m (ds ++ [d])) k T S) : RG n (tSeq (tDrop (tBM K "list" rAppend (tVar m) (tCons te tNil))) u) ρ c k T S :=
  rg_0 (rg_append hc (eb_pure h) hl fun d' e => by subst e; exact h2)
/-- the own list in m is data from here -/
theorem rg_freeze (hc : c m = some ds) (h : RG n t (ρ.set m (some (.list ds))) (c.del m) k T S) : RG n t ρ c k T S := fun O p cnt H0 D σ H hn ⟨P, al, s⟩ hcc q r =>
  h O p cnt H0 D σ H hn ⟨_, al, s.freeze hc⟩ hcc q r
theorem rg_c (h : RG n t ρ c k T S) (e : c = c') (e2 : ρ = ρ') : RG n t ρ' c' k T S := e ▸ e2 ▸ h
/-- return of data -/
theorem rg_ret (h : EvB n te ρ k S) : RG n (tRet te) ρ c k T S := fun O p cnt H0 D σ H hn ⟨P, al, s⟩ hcc q r =>
  h P p cnt σ H hn s.sb hcc _ fun v d H1 hd e1 b1 d1 => r v d H1 hd (s.exo e1) b1 (d1.mono (sub_less s.m.less))
theorem rg_ret0 (h : ∀ O, EvD O n te ρ d) (hS : S d) : RG n (tRet te) ρ c 0 T S := rg_ret (eb_wk (eb_pure h) (Nat.le_refl _) fun d' e => by subst e; exact hS)
/-- what comes behind a return -/
theorem rg_fst (h : RG n t ρ c k (fun _ _ => False) S) : RG n (tSeq t u) ρ c k T S := fun O p cnt H0 D σ H hn s hcc q r =>
  h O p cnt H0 _ σ H hn s hcc (fun _ _ _ _ z _ _ => z.elim) r
theorem rg_if {B : Bool → Prop} (h : EvBT n tt ρ k1 B) (h1 : B true → RG n t ρ c k2 T S) (h2 : B false → RG n u ρ c k2 T S) : RG n (tIfS tt t u) ρ c (k1 + k2) T S := fun O p cnt H0 D σ H hn ⟨P, al, s⟩ hcc q r =>
  h P p cnt σ H hn s.sb (by omega) _ fun b H1 hb e1 b1 => by
    have s1 := s.step e1 b1
    cases b with
    | true => exact iteT (h1 hb O p (cnt + k1) H0 D σ H1 hn ⟨P, al, s1⟩ (by omega) (fun ρ2 c2 σ2 H2 hT l2 s2 => q ρ2 c2 σ2 H2 hT l2 (by rw [← Nat.add_assoc]; exact s2)) fun v d H2 hd e2 b2 d2 => r v d H2 hd e2 (by rw [← Nat.add_assoc]; exact b2) d2)
    | false => exact iteF (h2 hb O p (cnt + k1) H0 D σ H1 hn ⟨P, al, s1⟩ (by omega) (fun ρ2 c2 σ2 H2 hT l2 s2 => q ρ2 c2 σ2 H2 hT l2 (by rw [← Nat.add_assoc]; exact s2)) fun v d H2 hd e2 b2 d2 => r v d H2 hd e2 (by rw [← Nat.add_assoc]; exact b2) d2)
/-- a test without a draw, of what the own lists hold, too -/
theorem rg_ifV {b : Bool} (h : ∀ O, EvDT O n tt (vwC c 0 ρ) b) (h1 : b = true → RG n t ρ c k T S) (h2 : b = false → RG n u ρ c k T S) : RG n (tIfS tt t u) ρ c k T S := fun O p cnt H0 D σ H hn ⟨P, al, s⟩ hcc q r =>
  h O σ H hn s.m.view _ fun H1 e1 => by
    have s1 := s.stepX e1
    cases b with
    | true => exact iteT (h1 rfl O p cnt H0 D σ H1 hn ⟨P, al, s1⟩ hcc q r)
    | false => exact iteF (h2 rfl O p cnt H0 D σ H1 hn ⟨P, al, s1⟩ hcc q r)
/-- if c: return ..; c comes out false -/
theorem rg_pass (h : ∀ O, EvDT O n tt (vwC c 0 ρ) false) (h2 : RG n u ρ c k T S) : RG n (tSeq (tIfS tt t tNext) u) ρ c k T S :=
  rg_0 (rg_seq (T1 := fun ρ' c' => ρ' = ρ ∧ c' = c) (rg_ifV h (fun z => by cases z) fun _ => rg_next ⟨rfl, rfl⟩) fun ρ1 c1 z => by
    rw [z.1, z.2]
    exact h2)
/-- the same as the last statement of a suite -/
theorem rg_passE (h : ∀ O, EvDT O n tt (vwC c 0 ρ) false) (h2 : T ρ c) : RG n (tIfS tt t tNext) ρ c 0 T S := rg_ifV h (fun z => by cases z) fun _ => rg_next h2
/-- if c: ..; the rest: c known, without a draw -/
theorem rg_cond {b : Bool} (h : ∀ O, EvDT O n tt (vwC c 0 ρ) b) (h1 : b = true → RG n (tSeq t u) ρ c k T S) (h2 : b = false → RG n u ρ c k T S) : RG n (tSeq (tIfS tt t tNext) u) ρ c k T S := fun O p cnt H0 D σ H hn ⟨P, al, s⟩ hcc q r =>
  h O σ H hn s.m.view _ fun H1 e1 => by
    have s1 := s.stepX e1
    cases b with
    | true => exact iteT (h1 rfl O p cnt H0 D σ H1 hn ⟨P, al, s1⟩ hcc q r)
    | false => exact iteF (h2 rfl O p cnt H0 D σ H1 hn ⟨P, al, s1⟩ hcc q r)
theorem rg_drop (h : EvB n te ρ k S1) (hT : T ρ c) : RG n (tDrop te) ρ c k T S := fun O p cnt H0 D σ H hn ⟨P, al, s⟩ hcc q r =>
  h P p cnt σ H hn s.sb hcc _ fun v d H1 hd e1 b1 d1 => q ρ c σ H1 hT hn ⟨P, al, s.step e1 b1⟩
/-- the same where a suite may also go on with `continue` -/
def RGC (n : Nat) (t : TS) (ρ : Rho) (c : Own) (k : Nat) (T : Rho → Own → Prop) (S : PyData → Prop) : Prop := ∀ (O : List Addr) (p : Addr) (cnt : Nat) (H0 : Hp) (D : Ends) (σ : L2.St) (H : Hp), σ.length = n → SGX O p cnt H0 c H σ ρ → cnt + k ≤ 1000000 →
  (∀ ρ' c' σ' H', T ρ' c' → σ'.length = n → SGX O p (cnt + k) H0 c' H' σ' ρ' → D.nx σ' H' ∧ D.ct σ' H') → (∀ v d H', S d → ExO [p] H0 H' → Box p (cnt + k) H' → Dq (sub H' O) v d → D.rt v H') → t D σ H
theorem rgc_of (h : RG n t ρ c k T S) : RGC n t ρ c k T S := fun O p cnt H0 D σ H hn s hc q r => h O p cnt H0 D σ H hn s hc (fun ρ' c' σ' H' hT hl s' => (q ρ' c' σ' H' hT hl s').1) r
theorem rgc_cont (h : T ρ c) : RGC n tCont ρ c 0 T S := fun O p cnt H0 D σ H hn s hc q r => (q ρ c σ H h hn s).2
theorem rgc_wk (h : RGC n t ρ c k T S) (hk : k ≤ k1) (hT : ∀ ρ' c', T ρ' c' → T1 ρ' c') (hS : ∀ d, S d → S1 d) : RGC n t ρ c k1 T1 S1 := fun O p cnt H0 D σ H hn s hc q r =>
  h O p cnt H0 D σ H hn s (by omega) (fun ρ' c' σ' H' ht hl ⟨P, al, s'⟩ => q ρ' c' σ' H' (hT _ _ ht) hl ⟨P, al, s'.bmono (by omega)⟩) fun v d H' hd e b dd => r v d H' (hS d hd) e (b.mono (by omega)) dd
theorem rgc_seq (h1 : RG n t ρ c k1 T1 S) (h2 : ∀ ρ1 c1, T1 ρ1 c1 → RGC n u ρ1 c1 k2 T S) : RGC n (tSeq t u) ρ c (k1 + k2) T S := fun O p cnt H0 D σ H hn s hc q r =>
  h1 O p cnt H0 _ σ H hn s (by omega) (fun ρ1 c1 σ1 H1 hT l1 s1 => h2 ρ1 c1 hT O p (cnt + k1) H0 D σ1 H1 l1 s1 (by omega) (fun ρ2 c2 σ2 H2 hT2 l2 s2 => q ρ2 c2 σ2 H2 hT2 l2 (by rw [← Nat.add_assoc]; exact s2)) fun v d H2 hd e2 b2 d2 => r v d H2 hd e2 (by rw [← Nat.add_assoc]; exact b2) d2)
    fun v d H' hd e b dd => r v d H' hd e (b.mono (by omega)) dd
theorem rgc_get (h : EvB n te ρ k1 S1) (hi : i < n) (h0 : i ≠ 0) (hc : c i = none) (h2 : ∀ d, S1 d → RGC n u (ρ.set i (some d)) c k2 T S) : RGC n (tSeq (tAsg te (gName i)) u) ρ c (k1 + k2) T S :=
  rgc_seq (rg_asg h hi h0 hc) fun ρ1 c1 z => by
    obtain ⟨d, hd, rfl, rfl⟩ := z
    exact h2 d hd
theorem rgc_let (h : ∀ O, EvD O n te ρ d) (hi : i < n) (h0 : i ≠ 0) (hc : c i = none) (h2 : RGC n u (ρ.set i (some d)) c k T S) : RGC n (tSeq (tAsg te (gName i)) u) ρ c k T S := by
  have q := rgc_get (eb_pure h) hi h0 hc (u := u) (k2 := k) (T := T) (S := S) (fun d' e => by subst e; exact h2)
  rwa [Nat.zero_add] at q
theorem rgc_par {A : List PyData → Prop} (h : EvBA n tr ρ k1 A) (hA : ∀ ds, A ds → ∃ x y, ds = [x, y]) (hi : i < n) (hj : j < n) (h0 : i ≠ 0) (h1 : j ≠ 0) (ci : c i = none) (cj : c j = none) (h2 : ∀ x y, A [x, y] → RGC n u ((ρ.set i (some x)).set j (some y)) c k2 T S) : RGC n (tSeq (tPar i j tr) u) ρ c (k1 + k2) T S := fun O p cnt H0 D σ H hn ⟨P, al, s⟩ hcc q r =>
  h P p cnt σ H hn s.sb (by omega) _ fun vs ds H1 hd e1 b1 d1 => by
    obtain ⟨x, y, rfl⟩ := hA ds hd
    cases d1 with
    | cons a1 k1' =>
      cases k1' with
      | cons a2 k2' =>
        cases k2'
        refine ⟨_, _, rfl, ?_⟩
        refine h2 x y hd O p (cnt + k1) H0 D _ H1 (by rw [List.length_set, List.length_set]; exact hn) ⟨P, al, ((s.step e1 b1).put a1 (by rw [hn]; exact hi) h0 ci).put a2 (by rw [List.length_set, hn]; exact hj) h1 cj⟩ (by omega) (fun ρ2 c2 σ2 H2 hT l2 s2 => q ρ2 c2 σ2 H2 hT l2 (by rw [← Nat.add_assoc]; exact s2)) fun v d H2 hd e2 b2 d2 => r v d H2 hd e2 (by rw [← Nat.add_assoc]; exact b2) d2
theorem rgc_pass (h : ∀ O, EvDT O n tt (vwC c 0 ρ) false) (h2 : RGC n u ρ c k T S) : RGC n (tSeq (tIfS tt t tNext) u) ρ c k T S := by
  have q := rgc_seq (k1 := 0) (T1 := fun ρ' c' => ρ' = ρ ∧ c' = c) (rg_ifV (n := n) (k := 0) (S := S) (t := t) (u := tNext) h (fun z => by cases z) fun _ => rg_next ⟨rfl, rfl⟩) (u := u) (k2 := k) (T := T) fun ρ1 c1 z => by
    rw [z.1, z.2]
    exact h2
  rwa [Nat.zero_add] at q
theorem rgc_asgG (h : EvB n te ρ k1 S1) (h0 : 0 ∉ vs) (hv : ∀ i, i ∈ vs → c i = none) (h2 : ∀ d, S1 d → ∃ ρ', (∀ O, TgD O n vs g ρ d ρ') ∧ ρ'[0]? = some none ∧ (∀ i, i ∉ vs → ρ'[i]? = ρ[i]?) ∧ RGC n u ρ' c k2 T S) : RGC n (tSeq (tAsg te g) u) ρ c (k1 + k2) T S := fun O p cnt H0 D σ H hn ⟨P, al, s⟩ hcc q r =>
  h P p cnt σ H hn s.sb (by omega) _ fun v d H1 hd e1 b1 d1 => by
    obtain ⟨ρ', ht, hf, hr, hu⟩ := h2 d hd
    have s1 := s.step e1 b1
    refine ht P σ H1 v hn s1.m.sd d1 _ fun σ' hl hc' s' => ?_
    refine hu O p (cnt + k1) H0 D σ' H1 hl ⟨P, al, ⟨s1.m.less, s1.m.only, s', fun a fs ha => ?_, s1.m.inj, s1.m.ex⟩, by rw [hc' 0 h0]; exact s1.bx, s1.box, s1.mem, hf⟩ (by omega) (fun ρ2 c2 σ2 H2 hT l2 s2 => q ρ2 c2 σ2 H2 hT l2 (by rw [← Nat.add_assoc]; exact s2)) fun v d H2 hd e2 b2 d2 => r v d H2 hd e2 (by rw [← Nat.add_assoc]; exact b2) d2
    obtain ⟨q1, q2, q3, q4⟩ := s1.m.at_ a fs ha
    have na : a ∉ vs := fun z => by
      rw [hv a z] at ha
      cases ha
    exact ⟨by rw [hc' a na]; exact q1, q2, by rw [hr a na]; exact q3, q4⟩
/-- t[::-1] of a drawn list -/
theorem eb_revL (h : EvB n te ρ k (fun x => ∃ ds, x = .list ds ∧ S (.list ds.reverse))) : EvB n (tRevL K te) ρ k S := fun O p cnt σ H hn s hc Q q =>
  h O p cnt σ H hn s hc _ fun v x H1 hd e1 b1 d1 => by
    obtain ⟨ds, rfl, hS⟩ := hd
    cases d1 with
    | lst a kk => exact ⟨_, _, rfl, sq_of (sub_of a).1, fun l hl => q _ _ _ hS (e1.trans (Ex.o _ (Ex.new hl))) (b1.ex (Ex.new hl)) (.lst (sub_mk upd_same (not_own (own_o e1 b1 s.sd.own) hl)) (kk.reverse.mono (Ex.o O (Ex.new hl))))⟩
/-- if c: continue; the rest -/
theorem rgc_cond {b : Bool} (h : ∀ O, EvDT O n tt (vwC c 0 ρ) b) (h1 : b = true → RGC n (tSeq t u) ρ c k T S) (h2 : b = false → RGC n u ρ c k T S) : RGC n (tSeq (tIfS tt t tNext) u) ρ c k T S := fun O p cnt H0 D σ H hn ⟨P, al, s⟩ hcc q r =>
  h O σ H hn s.m.view _ fun H1 e1 => by
    have s1 := s.stepX e1
    cases b with
    | true => exact iteT (h1 rfl O p cnt H0 D σ H1 hn ⟨P, al, s1⟩ hcc q r)
    | false => exact iteF (h2 rfl O p cnt H0 D σ H1 hn ⟨P, al, s1⟩ hcc q r)
/-- continue, whatever stands behind it -/
theorem rgc_contS (h : T ρ c) : RGC n (tSeq tCont u) ρ c k T S := fun O p cnt H0 D σ H hn ⟨P, al, s⟩ hc q r => (q ρ c σ H h hn ⟨P, al, s.bmono (by omega)⟩).2
/-- a for over what is none of the def's own lists -/
theorem rg_for_atC {P0 : List Addr} {al0 : Nat → Addr} {O : List Addr} {p : Addr} {cnt : Nat} {H0 : Hp} {D : Ends} {σ : L2.St} {H : Hp} (hw : IterAt P0 wi σ H es) (hn : σ.length = n) (s0 : SGM O p cnt H0 c H σ ρ P0 al0) (Iv : Nat → Rho → Own → Prop) (h0 : Iv 0 ρ c) (hv0 : 0 ∉ vs) (hcc : cnt + es.length * k1 ≤ 1000000)
    (hs : ∀ i e, es[i]? = some e → ∀ ρi ci, Iv i ρi ci → ∃ ρ', (∀ P, TgD P n vs g ρi e ρ') ∧ ρ'[0]? = some none ∧ (∀ a fs, ci a = some fs → a ∉ vs ∧ ρ'[a]? = some none) ∧ RGC n t ρ' ci k1 (Iv (i + 1)) S)
    (q : ∀ ρ' c' σ' H', Iv es.length ρ' c' → σ'.length = n → SGX O p (cnt + es.length * k1) H0 c' H' σ' ρ' → D.nx σ' H') (r : ∀ v d H', S d → ExO [p] H0 H' → Box p (cnt + es.length * k1) H' → Dq (sub H' O) v d → D.rt v H') : tFor wi g t D σ H := hw _ fun J H1 G Y e1 W g1 gk yk => by
  have s1 := s0.stepX e1
  -- the set of what is owned now but the box and the data
  let Z : List Addr := P0.filter fun a => decide (a ∉ O)
  let HB : Hp := sub H1 Z
  have zOf : ∀ a, a ∈ Z → a ∈ P0 ∧ a ∉ O := fun a ha => by
    have q := List.mem_filter.mp ha
    exact ⟨q.1, of_decide_eq_true q.2⟩
  have exB : Ex (sub H0 [p]) (sub HB [p]) := fun a o ha => by
    refine sub_mk (sub_mk (s1.m.ex a o ha) fun z => ?_) (sub_of ha).2
    obtain ⟨z1, z2⟩ := zOf a z
    rcases s1.m.only a z1 with q | ⟨k2, fs, h1, rfl⟩
    · exact z2 q
    · have q := (s1.m.at_ k2 fs h1).2.2.2.2.2
      rw [q] at ha
      cases ha
  have sB : SGM O p cnt HB c H1 σ ρ P0 al0 := ⟨⟨s1.m.less, s1.m.only, s1.m.sd, fun k2 fs hk => by
    obtain ⟨h1, h2, h3, h4, h5, h6⟩ := s1.m.at_ k2 fs hk
    refine ⟨h1, h2, h3, h4, h5, ?_⟩
    cases z : sub HB [p] (al0 k2) with
    | none => rfl
    | some o => exact absurd (List.mem_filter.mpr ⟨h4, decide_eq_true h5⟩) (sub_of (sub_of z).1).2, s1.m.inj, fun a o ha => (sub_of (sub_of ha).1).1⟩, s1.bx, s1.box, s1.mem, s1.fr⟩
  have toG : ∀ (P2 : List Addr) (al2 : Nat → Addr) (c2 : Own) (σ2 : L2.St) (ρ2 : Rho) (H2 : Hp) (cnt2 : Nat), SGM O p cnt2 HB c2 H2 σ2 ρ2 P2 al2 → Ex (sub H1 P0) (sub H2 P2) := fun P2 al2 c2 σ2 ρ2 H2 cnt2 s2 a o ha => by
    obtain ⟨h1, h2⟩ := sub_of ha
    have np : a ∉ [p] := fun z => h2 (by rw [List.mem_singleton.mp z]; exact s1.m.less _ s1.mem)
    have nz : a ∉ Z := fun z => h2 (zOf a z).1
    have hb : sub HB [p] a = some o := sub_mk (sub_mk h1 nz) np
    refine sub_mk (s2.m.ex a o hb) fun z => ?_
    rcases s2.m.only a z with q | ⟨k2, fs, q1, rfl⟩
    · exact h2 (s1.m.less a q)
    · have q := (s2.m.at_ k2 fs q1).2.2.2.2.2
      rw [q] at hb
      cases hb
  have toG0 : ∀ (P2 : List Addr) (al2 : Nat → Addr) (c2 : Own) (σ2 : L2.St) (ρ2 : Rho) (H2 : Hp) (cnt2 : Nat), SGM O p cnt2 HB c2 H2 σ2 ρ2 P2 al2 → Ex (sub H1 P0) (sub H2 P0) := fun P2 al2 c2 σ2 ρ2 H2 cnt2 s2 a o ha => by
    obtain ⟨h1, h2⟩ := sub_of ha
    have np : a ∉ [p] := fun z => h2 (by rw [List.mem_singleton.mp z]; exact s1.m.less _ s1.mem)
    have nz : a ∉ Z := fun z => h2 (zOf a z).1
    exact sub_mk (s2.m.ex a o (sub_mk (sub_mk h1 nz) np)) h2
  refine for_it (W P0) (fun i σ2 H2 => σ2.length = n ∧ ∃ ρ2 c2, Iv i ρ2 c2 ∧ SGX O p (cnt + i * k1) HB c2 H2 σ2 ρ2) ⟨hn, ρ, c, h0, P0, al0, by rw [Nat.zero_mul]; exact sB⟩ (fun i σ2 H2 _ z => ?_) ?_ ?_
  · obtain ⟨_, ρ2, c2, _, P2, al2, s2⟩ := z
    exact gk _ _ _ _ g1 (toG0 P2 al2 _ _ _ _ _ s2)
  · rintro i x σ2 H2 H3 hi ⟨l2, ρ2, c2, hI, P2, al2, s2⟩ y
    obtain ⟨e3, e, hdi, hx⟩ := yk P2 i H2 x H3 hi s2.m.sd.own (gk _ _ _ _ g1 (toG P2 al2 _ _ _ _ _ s2)) y
    obtain ⟨ρ', ht, hf, hfree, hb⟩ := hs i e hdi ρ2 c2 hI
    have s3 := s2.stepX e3
    have hM2 : (i + 1) * k1 ≤ es.length * k1 := Nat.mul_le_mul_right _ (by omega)
    have hM3 : (i + 1) * k1 = i * k1 + k1 := Nat.succ_mul i k1
    refine ht P2 σ2 H3 x l2 s3.m.sd hx _ fun σ' hl' hout s' => ?_
    refine hb O p (cnt + i * k1) HB _ σ' H3 hl' ⟨P2, al2, ⟨s3.m.less, s3.m.only, s', fun k2 fs hk => ?_, s3.m.inj, s3.m.ex⟩, by rw [hout 0 hv0]; exact s3.bx, s3.box, s3.mem, hf⟩ (by omega) (fun ρ4 c4 σ4 H4 hT hl4 s4 => ⟨⟨hl4, ρ4, c4, hT, by rw [hM3, ← Nat.add_assoc]; exact s4⟩, ⟨hl4, ρ4, c4, hT, by rw [hM3, ← Nat.add_assoc]; exact s4⟩⟩) fun v d H4 hd e4 b4 d4 => ?_
    · obtain ⟨h1, h2, h3, h4⟩ := s3.m.at_ k2 fs hk
      obtain ⟨f1, f2⟩ := hfree k2 fs hk
      exact ⟨by rw [hout k2 f1]; exact h1, h2, f2, h4⟩
    · exact r v d H4 hd (Ex.trans exB e4) (b4.mono (by omega)) d4
  · rintro σ2 H2 ⟨l2, ρ2, c2, hI, P2, al2, s2⟩
    refine q ρ2 c2 σ2 H2 hI l2 ⟨P2, al2, ⟨s2.m.less, s2.m.only, s2.m.sd, fun k2 fs hk => ?_, s2.m.inj, fun a o ha => ?_⟩, s2.bx, s2.box.mono (by omega), s2.mem, s2.fr⟩
    · obtain ⟨h1, h2, h3, h4, h5, h6⟩ := s2.m.at_ k2 fs hk
      refine ⟨h1, h2, h3, h4, h5, ?_⟩
      cases z : sub H0 [p] (al2 k2) with
      | none => rfl
      | some o =>
        rw [exB _ _ z] at h6
        cases h6
    · exact s2.m.ex a o (exB a o ha)
theorem rg_for_at {P0 : List Addr} {al0 : Nat → Addr} {O : List Addr} {p : Addr} {cnt : Nat} {H0 : Hp} {D : Ends} {σ : L2.St} {H : Hp} (hw : IterAt P0 wi σ H es) (hn : σ.length = n) (s0 : SGM O p cnt H0 c H σ ρ P0 al0) (Iv : Nat → Rho → Own → Prop) (h0 : Iv 0 ρ c) (hv0 : 0 ∉ vs) (hcc : cnt + es.length * k1 ≤ 1000000)
    (hs : ∀ i e, es[i]? = some e → ∀ ρi ci, Iv i ρi ci → ∃ ρ', (∀ P, TgD P n vs g ρi e ρ') ∧ ρ'[0]? = some none ∧ (∀ a fs, ci a = some fs → a ∉ vs ∧ ρ'[a]? = some none) ∧ RG n t ρ' ci k1 (Iv (i + 1)) S)
    (q : ∀ ρ' c' σ' H', Iv es.length ρ' c' → σ'.length = n → SGX O p (cnt + es.length * k1) H0 c' H' σ' ρ' → D.nx σ' H') (r : ∀ v d H', S d → ExO [p] H0 H' → Box p (cnt + es.length * k1) H' → Dq (sub H' O) v d → D.rt v H') : tFor wi g t D σ H := rg_for_atC hw hn s0 Iv h0 hv0 hcc (fun i e he ρi ci hI => by
    obtain ⟨ρ', h1, h2, h3, h4⟩ := hs i e he ρi ci hI
    exact ⟨ρ', h1, h2, h3, rgc_of h4⟩) q r
theorem rg_for {M : Nat} (hw : ∀ P, IterD P n wi ρ es) (hM : es.length ≤ M) (Iv : Nat → Rho → Own → Prop) (h0 : Iv 0 ρ c) (hv0 : 0 ∉ vs)
    (hs : ∀ i e, es[i]? = some e → ∀ ρi ci, Iv i ρi ci → ∃ ρ', (∀ P, TgD P n vs g ρi e ρ') ∧ ρ'[0]? = some none ∧ (∀ a fs, ci a = some fs → a ∉ vs ∧ ρ'[a]? = some none) ∧ RG n t ρ' ci k1 (Iv (i + 1)) S) :
    RG n (tFor wi g t) ρ c (M * k1) (Iv es.length) S := fun O p cnt H0 D σ H hn ⟨P0, al0, s0⟩ hcc q r => by
  have hMk : es.length * k1 ≤ M * k1 := Nat.mul_le_mul_right _ hM
  exact rg_for_at (hw P0 σ H hn s0.m.sd) hn s0 Iv h0 hv0 (by omega) hs (fun ρ' c' σ' H' hI hl ⟨P, al, s⟩ => q ρ' c' σ' H' hI hl ⟨P, al, s.bmono (by omega)⟩) fun v d H' hd e b dd => r v d H' hd e (b.mono (by omega)) dd
theorem rg_forC {M : Nat} (hw : ∀ P, IterD P n wi ρ es) (hM : es.length ≤ M) (Iv : Nat → Rho → Own → Prop) (h0 : Iv 0 ρ c) (hv0 : 0 ∉ vs)
    (hs : ∀ i e, es[i]? = some e → ∀ ρi ci, Iv i ρi ci → ∃ ρ', (∀ P, TgD P n vs g ρi e ρ') ∧ ρ'[0]? = some none ∧ (∀ a fs, ci a = some fs → a ∉ vs ∧ ρ'[a]? = some none) ∧ RGC n t ρ' ci k1 (Iv (i + 1)) S) :
    RG n (tFor wi g t) ρ c (M * k1) (Iv es.length) S := fun O p cnt H0 D σ H hn ⟨P0, al0, s0⟩ hcc q r => by
  have hMk : es.length * k1 ≤ M * k1 := Nat.mul_le_mul_right _ hM
  exact rg_for_atC (hw P0 σ H hn s0.m.sd) hn s0 Iv h0 hv0 (by omega) hs (fun ρ' c' σ' H' hI hl ⟨P, al, s⟩ => q ρ' c' σ' H' hI hl ⟨P, al, s.bmono (by omega)⟩) fun v d H' hd e b dd => r v d H' hd e (b.mono (by omega)) dd
/-- a for over a drawn range -/
theorem rg_forR {M : Nat} {Tm : Nat → Prop} (h : EvB n te ρ k (fun d => ∃ m : Nat, d = .int (m : Int) ∧ m ≤ M ∧ Tm m)) (hM : M ≤ 1000) (hj : j < n) (hj0 : j ≠ 0) (Iv : Nat → Rho → Own → Prop) (h0 : Iv 0 ρ c)
    (hs : ∀ i : Nat, i < M → ∀ ρi ci, Iv i ρi ci → ρi[0]? = some none ∧ (∀ a fs, ci a = some fs → a ≠ j ∧ ρi[a]? = some none) ∧ RG n t (ρi.set j (some (.int (i : Int)))) ci k1 (Iv (i + 1)) S) :
    RG n (tFor (iRng1 (tCons te tNil)) (gName j) t) ρ c (k + M * k1) (fun ρ' c' => ∃ m, Tm m ∧ m ≤ M ∧ Iv m ρ' c') S := fun O p cnt H0 D σ H hn ⟨P0, al0, s0⟩ hcc q r =>
  h P0 p cnt σ H hn s0.sb (by omega) _ fun v d H1 hd e1 b1 d1 => by
    obtain ⟨m, rfl, hm, hT⟩ := hd
    cases d1
    have s1 := s0.step e1 b1
    have lr : (rngD m).length = m := by
      unfold rngD
      rw [List.length_map, List.length_range]
    have hMk : m * k1 ≤ M * k1 := Nat.mul_le_mul_right _ hm
    have hw : IterD P0 n (iRng1 (tCons (tC (.int (m : Int))) tNil)) ρ (rngD m) := it_rng (ea_cons ed_int ea_nil) (by omega)
    refine rg_for_at (wi := iRng1 (tCons (tC (.int (m : Int))) tNil)) (es := rngD m) (vs := [j]) (k1 := k1) (S := S) (hw σ H1 hn s1.m.sd) hn s1 Iv h0 (fun z => hj0 (List.mem_singleton.mp z).symm) (by rw [lr]; omega) (fun i e hi ρi ci hI => ?_) (fun ρ' c' σ' H' hI hl ⟨P, al, s⟩ => ?_) fun v d H' hd e b dd => r v d H' hd e (b.mono (by rw [lr]; omega)) dd
    · have hi2 : i < m := by
        have q := (List.getElem?_eq_some_iff.mp hi).1
        rw [lr] at q
        exact q
      unfold rngD at hi
      rw [List.getElem?_map, List.getElem?_range hi2] at hi
      cases hi
      obtain ⟨f0, f1, f2⟩ := hs i (by omega) ρi ci hI
      refine ⟨_, fun P => tg_name hj (List.mem_singleton.mpr rfl), by rw [List.getElem?_set_ne hj0]; exact f0, fun a fs ha => ?_, f2⟩
      obtain ⟨z1, z2⟩ := f1 a fs ha
      exact ⟨fun z => z1 (List.mem_singleton.mp z), by rw [List.getElem?_set_ne (Ne.symm z1)]; exact z2⟩
    · rw [lr] at hI s
      exact q ρ' c' σ' H' ⟨m, hT, hm, hI⟩ hl ⟨P, al, s.bmono (by omega)⟩
/-- a for over a drawn tuple -/
theorem rg_forT {M : Nat} {A : List PyData → Prop} {tl : TE} (h : EvB n tl ρ k (fun x => ∃ ds, x = .tuple ds ∧ A ds)) (hA : ∀ ds, A ds → ds.length ≤ M) (Iv : List PyData → Nat → Rho → Own → Prop) (h0 : ∀ ds, A ds → Iv ds 0 ρ c) (hv0 : 0 ∉ vs)
    (hs : ∀ ds, A ds → ∀ i e, ds[i]? = some e → ∀ ρi ci, Iv ds i ρi ci → ∃ ρ', (∀ P, TgD P n vs g ρi e ρ') ∧ ρ'[0]? = some none ∧ (∀ a fs, ci a = some fs → a ∉ vs ∧ ρ'[a]? = some none) ∧ RG n t ρ' ci k1 (Iv ds (i + 1)) S) :
    RG n (tFor (iTup K tl) g t) ρ c (k + M * k1) (fun ρ' c' => ∃ ds, A ds ∧ Iv ds ds.length ρ' c') S := fun O p cnt H0 D σ H hn ⟨P0, al0, s0⟩ hcc q r =>
  h P0 p cnt σ H hn s0.sb (by omega) _ fun v x H1 hx e1 b1 d1 => by
    obtain ⟨ds, rfl, hAd⟩ := hx
    have s1 := s0.step e1 b1
    have hm := hA ds hAd
    have hMk : ds.length * k1 ≤ M * k1 := Nat.mul_le_mul_right _ hm
    exact rg_for_at (k1 := k1) (S := S) (itAt_tup (K := K) (σ := σ) d1) hn s1 (Iv ds) (h0 ds hAd) hv0 (by omega) (hs ds hAd) (fun ρ' c' σ' H' hI hl ⟨P, al, s⟩ => q ρ' c' σ' H' ⟨ds, hAd, hI⟩ hl ⟨P, al, s.bmono (by omega)⟩) fun v d H' hd e b dd => r v d H' hd e (b.mono (by omega)) dd
end
section
variable {K : PySem.W.Frag} {ρ : Rho}
/-- x, y, z = .. -/
theorem rn_par3 {O : List Addr} {n i j l : Nat} {ρ : Rho} {x y z : PyData} {tr : TA} (h : EvDA O n tr ρ [x, y, z]) (hi : i < n) (hj : j < n) (hl : l < n) : RunN O n (tPar3 i j l tr) ρ (((ρ.set i (some x)).set j (some y)).set l (some z)) := fun D σ H hn s k =>
  h σ H hn s _ fun vs H1 e1 d1 => by
    cases d1 with
    | cons a1 k1 =>
      cases k1 with
      | cons a2 k2 =>
        cases k2 with
        | cons a3 k3 =>
          cases k3
          exact ⟨_, _, _, rfl, k _ H1 (by rw [List.length_set, List.length_set, List.length_set]; exact hn) e1 ((((s.ex e1).set a1 (by omega)).set a2 (by rw [List.length_set]; omega)).set a3 (by rw [List.length_set, List.length_set]; omega))⟩
theorem sgx_start {O : List Addr} {p : Addr} {cnt : Nat} {H : Hp} {σ : L2.St} (s : SB O p cnt H σ ρ) : SGX O p cnt H Own.none H σ ρ :=
  ⟨O, fun _ => 0, ⟨fun _ a => a, fun _ a => .inl a, s.sd, fun _ _ z => (by cases z), fun _ _ _ _ z => (by cases z), ex_sub H [p]⟩, s.bx, s.box, s.mem, s.fr⟩
/-- as a def's whole suite -/
theorem vw_none {ρ : Rho} {k : Nat} : vwC Own.none k ρ = ρ := by
  induction ρ generalizing k with
  | nil => rfl
  | cons x r ih =>
    show x :: vwC Own.none (k + 1) r = x :: r
    rw [ih]
theorem put_del {m : Nat} {ds : List PyData} : (Own.none.put m ds).del m = Own.none := by
  funext k
  show (if k = m then none else if k = m then some ds else none) = none
  split <;> simp [*]
theorem put_put {c : Own} {m : Nat} {ds es : List PyData} : (c.put m ds).put m es = c.put m es := by
  funext k
  show (if k = m then some es else if k = m then some ds else c k) = if k = m then some es else c k
  split <;> simp [*]
theorem put_ne {m a : Nat} {ds fs : List PyData} (h : Own.none.put m ds a = some fs) : a = m := by
  by_cases c : a = m
  · exact c
  · simp [Own.put, c] at h
theorem rbr_rg (h : RG n t ρ Own.none k (fun _ _ => False) S) : RunBR n t ρ k S := fun O p c D σ H hn s hc q =>
  h O p c H D σ H hn (sgx_start s) hc (fun _ _ _ _ z _ _ => z.elim) q
end
section
variable {P : Program} {w : World} {K : PySem.W.Frag} {mg : Str → Option Value} {base : Heap}
/-- a case that comes out right, of a box that goes on -/
def spRightN (kf : Nat) : Sp := fun vs H Q _ => ∃ (p : Addr) (c : Nat), vs = [.ref p] ∧ Box p c H ∧ c + kf ≤ 1000000 ∧ ∀ H', ExO [p] H H' → Box p (c + kf) H' → Q (.bl true) H'
theorem rightN_ok {kf : Nat} {x qual : Str} {st : Stmt} {f : Addr} {fd : FuncData} {N ps : List Str} {k : Nat} (F : Fun K x qual st f fd) (S : FnScope N ps (defScope st)) (hl : ps.length = 1) (hp : 1 ≤ N.length)
    (body : ∀ (cdv : Value) (A : Around) (outer : List Env) (s : Shared) (H : Hp) (E : XK), Room k (A.deeper (envOfC qual (defScope st) s.heap.objs.size f cdv)) →
      ∃ t, PSs (cxOf CX0 P w K mg base N qual (defScope st) f cdv A outer s H E).nox (defBody st) t ∧ RunBR N.length t (argB N []) kf (fun d => d = .bool true)) : FnOk P w K mg base CX0 (k + 1) f fd ps (spRightN kf) := by
  refine F.ok S (fun vs H Q E h => ?_) (fun cdv A outer s H vs Q E hr h => ?_)
  · obtain ⟨p, c, rfl, _⟩ := h
    exact hl.symm
  · obtain ⟨t, ht, hb⟩ := body cdv A outer s H E hr
    obtain ⟨p, c, rfl, bx, hc, q⟩ := h
    have e1 : L2.start N [V.ref p] = some (.ref p) :: List.replicate (N.length - 1) none := rfl
    refine ⟨t, ht, hb [p] p c _ (L2.start N [.ref p]) H (start_len (by show 1 ≤ _; exact hp)) ⟨⟨bx.own, fun i d e => ?_⟩, by rw [e1]; rfl, bx, List.mem_singleton.mpr rfl, rfl⟩ (by omega) fun v d H' hd e' b' dd => ?_⟩
    · cases i with
      | zero => cases e
      | succ i =>
        have e : (List.replicate (N.length - 1) (none : Option PyData))[i]? = some (some d) := e
        rw [List.getElem?_replicate] at e
        split at e <;> cases e
    · subst hd
      cases dd
      exact q H' e' b'
end
end DL
/-! min(..) of a list of pairs of whole numbers: the first of the least -/
namespace L2
open PySem PySem.Spec PyProof.Rows PySem.W
def ltII (p q : Int × Int) : Bool := if p.1 = q.1 then decide (p.2 < q.2) else decide (p.1 < q.1)
def pII (p : Int × Int) : PyData := .tuple [.int p.1, .int p.2]
/-- the first of the least -/
def minII (x : Int × Int) (xs : List (Int × Int)) : Int × Int := xs.foldl (fun a y => if ltII y a = true then y else a) x
theorem minII_ok : ∀ (xs : List (Int × Int)) (x : Int × Int), minII x xs ∈ x :: xs ∧ ∀ y, y ∈ x :: xs → ltII y (minII x xs) = false
  | [], x => ⟨List.mem_cons_self .., fun y hy => by
    rw [List.mem_singleton.mp hy]
    unfold ltII
    show (if x.1 = x.1 then decide (x.2 < x.2) else _) = false
    rw [if_pos rfl]
    exact decide_eq_false (Int.lt_irrefl _)⟩
  | z :: xs, x => by
    have e : minII x (z :: xs) = minII (if ltII z x = true then z else x) xs := rfl
    obtain ⟨h1, h2⟩ := minII_ok xs (if ltII z x = true then z else x)
    rw [e]
    have lts : ∀ a b c : Int × Int, ltII a b = false → ltII b c = false → ltII a c = false := fun a b c => by
      unfold ltII
      repeat' split
      all_goals simp only [decide_eq_false_iff_not]
      all_goals omega
    have q := h2 _ (List.mem_cons_self ..)
    refine ⟨?_, fun y hy => ?_⟩
    · rcases List.mem_cons.mp h1 with h | h
      · rw [h]
        split
        · exact List.mem_cons_of_mem _ (List.mem_cons_self ..)
        · exact List.mem_cons_self ..
      · exact List.mem_cons_of_mem _ (List.mem_cons_of_mem _ h)
    · rcases List.mem_cons.mp hy with rfl | hy
      · by_cases c : ltII z y = true
        · rw [if_pos c] at q ⊢
          refine lts _ z _ ?_ q
          unfold ltII at c ⊢
          split at c
          · rename_i e1
            rw [if_pos e1.symm]
            have := of_decide_eq_true c
            exact decide_eq_false (by omega)
          · rename_i e1
            rw [if_neg (fun e2 => e1 e2.symm)]
            have := of_decide_eq_true c
            exact decide_eq_false (by omega)
        · rw [if_neg c] at q ⊢
          exact q
      · rcases List.mem_cons.mp hy with rfl | hy
        · by_cases c : ltII y x = true
          · rw [if_pos c] at q ⊢
            exact q
          · rw [if_neg c] at q ⊢
            exact lts _ x _ (Bool.eq_false_iff.mpr c) q
        · exact h2 y (List.mem_cons_of_mem _ hy)
def rMinP (K : PySem.W.Frag) : List V → Hp → VK → Prop := fun vs H Q => ∃ (a : Addr) (xs : List V) (p : Int × Int) (ps : List (Int × Int)), vs = [V.ref a] ∧ SqL K H a xs ∧ DpAll K H xs ((p :: ps).map pII) ∧ ∀ (i : Nat) (x : V), xs[i]? = some x → (p :: ps)[i]? = some (minII p ps) → Q x H
section
variable {X : Cx}
theorem toD_map (l : List (Int × Int)) : l.map Datum.toD = l.map pII := rfl
theorem cr_minP (hc : X.calm = true) (hu : X.A.units + 64 < cLine) : CallR X (.builtin "min") (rMinP X.K) := by
  intro pins s σ H vs us Q I r h
  obtain ⟨a, xs, p, ps, rfl, hs, hd, q⟩ := h
  obtain ⟨its, rv, hl, _⟩ := I.list hs
  rw [Vals.ref1 r]
  obtain ⟨as, hr⟩ := Dp.readsAll I ((p :: ps).map pII) xs its hd rv
  have HA : HoldAll s.heap its.toArray.toList (p :: ps) := ⟨as, hr⟩
  refine min_list_datum (α := Int × Int) (I.ok.hd hc) hl.isList HA (by show X.A.units + 1 + 1 < cLine; omega) fun i v h' tk hi hv hk => ?_
  have hi : its[i]? = some v := by simpa using hi
  have li : i < its.length := (List.getElem?_eq_some_iff.mp hi).1
  have lx : i < xs.length := by
    have := rv.length
    omega
  have hx : xs[i]? = some xs[i] := List.getElem?_eq_getElem lx
  obtain ⟨u, hu2, ru⟩ := rv.get hx
  rw [hi] at hu2
  cases hu2
  refine ⟨xs[i], H, I.kept hk, ru, q i _ hx ?_⟩
  obtain ⟨y, hy, hv2⟩ := HoldAll.at HA (i := i) (v := v) (by simpa using hi)
  rw [hy]
  obtain ⟨as1, r1⟩ := Holds.keeps hk hv2
  obtain ⟨as2, r2⟩ := hv
  have e := (r1.unique _ _ r2).1
  have em : PySem.W.minOf p ps = minII p ps := rfl
  rw [em] at e
  have e : pII y = pII (minII p ps) := e
  unfold pII at e
  have e1 := PyData.tuple.inj e
  obtain ⟨e2, e3⟩ := List.cons.inj e1
  obtain ⟨e4, _⟩ := List.cons.inj e3
  rw [show y = minII p ps from Prod.ext (PyData.int.inj e2) (PyData.int.inj e4)]
end
end L2
namespace DL
open PySem L2 Evl PyProof.Rows TL RZ
section
variable {K : PySem.W.Frag} {X : Cx} {O : List Addr}
theorem kMinP (hK : X.K = K) (hc : X.calm = true) (hu : X.A.units + 64 < cLine) : CallR X (.builtin "min") (rMinP K) := by subst hK; exact cr_minP hc hu
theorem PIIlay : ∀ ps : List (Int × Int), PyData.canLayAll0 (ps.map pII) = true
  | [] => rfl
  | p :: ps => by
    show (_ && _) = true
    rw [PIIlay ps]
    rfl
theorem rc_minP {p : Int × Int} {ps : List (Int × Int)} : RDC O (rMinP K) [.list ((p :: ps).map pII)] (pII (minII p ps)) := fun H vs _ h Q q => by
  cases h with
  | cons h k =>
    cases k
    cases h with
    | lst a k =>
      refine ⟨_, _, p, ps, rfl, sq_of (sub_of a).1, k.up.dp (PIIlay (p :: ps)), fun i x hx hm => ?_⟩
      obtain ⟨d, h1, h2⟩ := k.getV hx
      rw [List.getElem?_map, hm] at h1
      cases h1
      exact q _ H (Ex.refl H) h2
end
end DL
/-! DEZ: enumerate(zip(xs, ys)) over two lists. Within enumerate nobody lets go of zip's own pair: from the second turn on zip keeps the address of the pair that it gave out, dead or alive. -/
namespace DL
open PySem PySem.Spec PyProof.Rows PySem.Calls
/-- a zip with any hand -/
abbrev ZipH (h : Heap) (z TI TO : Addr) (hand : Value) (f : Bool) : Prop := h.get? z = some { cls := .type "zip", dict := none, data := .fields #[hand, .bool f, .bool false, .ref TI, .ref TO], slots := #[] }
section
variable {prog : Program} {w : World} {A : Around} {E : Value → Shared → Prop} {s : Shared} {z TI TO i1 i2 l1 l2 T : Addr} {hand x y a1 a2 : Value} {f : Bool} {k : Nat} {xs ys : Array Value}
theorem free_none {Q : Bool → Shared → Prop} (hz : ZipH s.heap z TI TO .none f) (q : Q true s) : wpAny (model prog w) A (Builtin.SmallTypes.ownedTupleIsFree (.ref z)) Q E s := by
  unfold Builtin.SmallTypes.ownedTupleIsFree
  exact wpAny_bind (wpAny_field hz rfl (x := .none) rfl (wpAny_pure q))
theorem dead_none {a : Addr} {Q : Option Obj → Shared → Prop} (ho : s.heap.get? a = none) (h : Q none s) : wpAny (model prog w) A (loadIfAlive a) Q E s := by
  have h' : Q (s.heap.get? a) s := by rw [ho]; exact h
  exact fun _ _ _ => h'
theorem free_dead {Q : Bool → Shared → Prop} (hz : ZipH s.heap z TI TO (rawInt T) f) (hT : s.heap.get? T = none) (q : Q true s) : wpAny (model prog w) A (Builtin.SmallTypes.ownedTupleIsFree (.ref z)) Q E s := by
  unfold Builtin.SmallTypes.ownedTupleIsFree
  refine wpAny_bind (wpAny_field hz rfl (x := rawInt T) rfl ?_)
  show wpAny _ _ (loadIfAlive ((T : Int).toNat) >>= _) _ _ _
  rw [Int.toNat_natCast]
  refine wpAny_bind (dead_none hT ?_)
  simp only [Option.isNone_none, if_true]
  exact wpAny_pure q
theorem own_item {Q : Value → Shared → Prop} (D : ZipApart z TI TO i1 i2 l1 l2) (hz : ZipH s.heap z TI TO hand f)
    (hfree : ∀ Q' : Bool → Shared → Prop, Q' true s → ∀ E', wpAny (model prog w) A (Builtin.SmallTypes.ownedTupleIsFree (.ref z)) Q' E' s)
    (hTI : IsPair s.heap TI (.ref i1) (.ref i2)) (hTO : IsPair s.heap TO a1 a2) (h1 : s.heap.IsListIter i1 l1 k) (h2 : s.heap.IsListIter i2 l2 k) (hl1 : s.heap.IsList l1 xs) (hl2 : s.heap.IsList l2 ys) (hx : xs[k]? = some x) (hy : ys[k]? = some y)
    (hQ : ∀ h', ZipH h' z TI TO (rawInt s.heap.objs.size) false → IsPair h' TO x y → h'.IsListIter i1 l1 (k + 1) → h'.IsListIter i2 l2 (k + 1) → IsPair h' s.heap.objs.size x y → h'.objs.size = s.heap.objs.size + 1 →
      (∀ c o, c ≠ z → c ≠ TO → c ≠ i1 → c ≠ i2 → s.heap.get? c = some o → h'.get? c = some o) → Q (.ref s.heap.objs.size) { s with heap := h' }) :
    wpAny (model prog w) A (Builtin.«zip.__next__» ⟨[.ref z], []⟩) (fun fin s' => ∃ v, fin = .done (.ret v) ∧ Q v s') E s := by
  obtain ⟨hp, g, d, tk, os⟩ := s
  show wpAny _ _ (field (.ref z) 2 >>= _) _ _ _
  refine wpAny_bind (wpAny_field hz rfl (x := .bool false) rfl ?_)
  show wpAny _ _ (field (.ref z) 3 >>= _) _ _ _
  refine wpAny_bind (wpAny_field hz rfl (x := .ref TI) rfl ?_)
  refine wpAny_bind (wpAny_seqItems hTI rfl ?_)
  show wpAny _ _ (Builtin.SmallTypes.ownedTupleIsFree (.ref z) >>= _) _ _ _
  refine wpAny_bind (hfree _ ?_ _)
  simp only [if_true]
  refine wpAny_bind (wpAny_rule ?_)
  refine wpAny_bind (wpAny_field hz rfl (x := .ref TO) rfl ?_)
  refine wpAny_bind (wpAny_setField_rec hz (by simp) fun g0 z0 s0 => ?_)
  have z0 : ZipH g0 z TI TO .ellipsis f := z0
  refine wpAny_bind ?_
  simp only [List.zipIdx_cons, List.zipIdx_nil, List.forIn_cons, List.forIn_nil]
  refine wpAny_bind (wpAny_bind (wpAny_onRaise ?_))
  show wpAny _ _ (Builtin.SmallTypes.nextOf (.ref i1) >>= _) _ _ ⟨g0, g, d, tk, os⟩
  refine wpAny_bind (wpAny_nextOf_list_item (s := ⟨g0, g, d, tk, os⟩) (h1.extBut s0.extBut D.i1z) (hl1.extBut s0.extBut D.l1z) hx fun g1 h1' s1 => wpAny_pure ?_)
  have u1 : IsPair g1 TO a1 a2 := s1.extBut _ _ D.TOi1 (s0.extBut _ _ D.TOz hTO)
  refine wpAny_bind (wpAny_seqItems (s := ⟨g1, g, d, tk, os⟩) u1 rfl ?_)
  refine wpAny_bind (updateSeq_IsTupOf2 (s := ⟨g1, g, d, tk, os⟩) u1 fun g2 t2 s2 => ?_)
  have t2 : IsPair g2 TO x a2 := t2
  refine wpAny_bind (wpAny_letGo (wpAny_pure ?_))
  refine wpAny_bind (wpAny_bind (wpAny_onRaise ?_))
  show wpAny _ _ (Builtin.SmallTypes.nextOf (.ref i2) >>= _) _ _ ⟨g2, g, d, tk, os⟩
  have h2g : g2.IsListIter i2 l2 k := ((h2.extBut s0.extBut D.i2z).extBut s1.extBut D.i12.symm).extBut s2.extBut D.TOi2.symm
  have l2g : g2.IsList l2 ys := ((hl2.extBut s0.extBut D.l2z).extBut s1.extBut D.l2i1).extBut s2.extBut D.l2TO
  refine wpAny_bind (wpAny_nextOf_list_item (s := ⟨g2, g, d, tk, os⟩) h2g l2g hy fun g3 h2' s3 => wpAny_pure ?_)
  have u3 : IsPair g3 TO x a2 := s3.extBut _ _ D.TOi2 t2
  refine wpAny_bind (wpAny_seqItems (s := ⟨g3, g, d, tk, os⟩) u3 rfl ?_)
  refine wpAny_bind (updateSeq_IsTupOf2 (s := ⟨g3, g, d, tk, os⟩) u3 fun g4 t4 s4 => ?_)
  have t4 : IsPair g4 TO x y := t4
  refine wpAny_bind (wpAny_letGo (wpAny_pure (wpAny_pure ?_)))
  refine wpAny_bind (wpAny_seqItems (s := ⟨g4, g, d, tk, os⟩) t4 rfl ?_)
  refine wpAny_bind (wpAny_newTuple ?_)
  have hsz : g4.objs.size = hp.objs.size := by rw [s4.1, s3.1, s2.1, s1.1, s0.1]
  have z4 : ZipH g4 z TI TO .ellipsis f := s4.extBut _ _ D.TOz.symm (s3.extBut _ _ D.i2z.symm (s2.extBut _ _ D.TOz.symm (s1.extBut _ _ D.i1z.symm z0)))
  have kp : ∀ c o, c ≠ z → c ≠ TO → c ≠ i1 → c ≠ i2 → hp.get? c = some o → g4.get? c = some o := fun c o c1 c2 c3 c4 e =>
    s4.extBut _ _ c2 (s3.extBut _ _ c4 (s2.extBut _ _ c2 (s1.extBut _ _ c3 (s0.extBut _ _ c1 e))))
  have h1g : g4.IsListIter i1 l1 (k + 1) := ((h1'.extBut s2.extBut D.TOi1.symm).extBut s3.extBut D.i12).extBut s4.extBut D.TOi1.symm
  have h2g' : g4.IsListIter i2 l2 (k + 1) := h2'.extBut s4.extBut D.TOi2.symm
  have zlt : z < g4.objs.size := Heap.lt_size z4
  show wpAny _ _ (Builtin.SmallTypes.ownedTupleHandOut (.ref z) (.ref g4.objs.size) >>= _) _ _ ⟨g4.push { cls := .type "tuple", data := .seq #[x, y] }, g, d, tk, os⟩
  refine wpAny_bind ?_
  unfold Builtin.SmallTypes.ownedTupleHandOut
  have z5 : ZipH (g4.push { cls := .type "tuple", data := .seq #[x, y] }) z TI TO .ellipsis f := Heap.get?_push_of_some _ z4
  refine wpAny_bind (wpAny_setField_rec z5 (by simp) fun g6 z6 s6 => ?_)
  have z6 : ZipH g6 z TI TO (rawInt g4.objs.size) f := z6
  refine wpAny_setField_rec z6 (by simp) fun g7 z7 s7 => ?_
  have z7 : ZipH g7 z TI TO (rawInt g4.objs.size) false := z7
  have up : ∀ c o, c ≠ z → g4.get? c = some o → g7.get? c = some o := fun c o c1 e => s7.extBut _ _ c1 (s6.extBut _ _ c1 (Heap.get?_push_of_some _ e))
  have t7 : IsPair g7 g4.objs.size x y := s7.extBut _ _ (Nat.ne_of_gt zlt) (s6.extBut _ _ (Nat.ne_of_gt zlt) (Heap.get?_push_size _ rfl))
  have sz7 : g7.objs.size = g4.objs.size + 1 := by rw [s7.1, s6.1, Heap.size_push]
  rw [hsz] at z7 t7 sz7
  refine wpAny_pure ⟨_, rfl, ?_⟩
  show Q (.ref g4.objs.size) ⟨g7, g, d, tk, os⟩
  rw [hsz]
  exact hQ g7 z7 (up _ _ D.TOz t4) (h1g.at fun o e => up _ o D.i1z e) (h2g'.at fun o e => up _ o D.i2z e) t7 sz7 fun c o c1 c2 c3 c4 e => up c o c1 (kp c o c1 c2 c3 c4 e)
/-- the end: the first list is out -/
theorem own_end {Q : Fin → Shared → Prop} (hh : A.handled = none) (D : ZipApart z TI TO i1 i2 l1 l2) (hz : ZipH s.heap z TI TO hand f)
    (hfree : ∀ Q' : Bool → Shared → Prop, Q' true s → ∀ E', wpAny (model prog w) A (Builtin.SmallTypes.ownedTupleIsFree (.ref z)) Q' E' s)
    (hTI : IsPair s.heap TI (.ref i1) (.ref i2)) (h1 : s.heap.IsListIter i1 l1 k) (hl1 : s.heap.IsList l1 xs) (hx : xs[k]? = none)
    (hE : ∀ h' e, (∀ c o, c ≠ z → c ≠ i1 → s.heap.get? c = some o → h'.get? c = some o) → (∃ o, h'.get? e = some o ∧ o.cls = .type "StopIteration") → E (.ref e) { s with heap := h' }) :
    wpAny (model prog w) A (Builtin.«zip.__next__» ⟨[.ref z], []⟩) Q E s := by
  obtain ⟨hp, g, d, tk, os⟩ := s
  show wpAny _ _ (field (.ref z) 2 >>= _) _ _ _
  refine wpAny_bind (wpAny_field hz rfl (x := .bool false) rfl ?_)
  show wpAny _ _ (field (.ref z) 3 >>= _) _ _ _
  refine wpAny_bind (wpAny_field hz rfl (x := .ref TI) rfl ?_)
  refine wpAny_bind (wpAny_seqItems hTI rfl ?_)
  show wpAny _ _ (Builtin.SmallTypes.ownedTupleIsFree (.ref z) >>= _) _ _ _
  refine wpAny_bind (hfree _ ?_ _)
  simp only [if_true]
  refine wpAny_bind (wpAny_rule ?_)
  refine wpAny_bind (wpAny_field hz rfl (x := .ref TO) rfl ?_)
  refine wpAny_bind (wpAny_setField_rec hz (by simp) fun g0 z0 s0 => ?_)
  have z0 : ZipH g0 z TI TO .ellipsis f := z0
  refine wpAny_bind ?_
  simp only [List.zipIdx_cons, List.zipIdx_nil, List.forIn_cons, List.forIn_nil]
  refine wpAny_bind (wpAny_bind (wpAny_onRaise ?_))
  show wpAny _ _ (Builtin.SmallTypes.nextOf (.ref i1) >>= _) _ _ ⟨g0, g, d, tk, os⟩
  refine wpAny_bind (wpAny_nextOf_list_end (s := ⟨g0, g, d, tk, os⟩) hh (h1.extBut s0.extBut D.i1z) (hl1.extBut s0.extBut D.l1z) hx fun g1 e s1 he => ?_)
  have z1 : ZipH g1 z TI TO .ellipsis f := s1 _ _ D.i1z.symm z0
  refine wpAny_setField_rec (s := ⟨g1, g, d, tk, os⟩) z1 (by simp) fun g2 z2 s2 => ?_
  refine hE g2 e (fun c o c1 c2 x => s2.extBut _ _ c1 (s1 _ _ c2 (s0.extBut _ _ c1 x))) ?_
  obtain ⟨o, ho, hc⟩ := he
  refine ⟨o, s2.extBut _ _ (fun q => ?_) ho, hc⟩
  rw [q] at ho
  have z1 : g1.get? z = some _ := z1
  rw [z1] at ho
  cases ho
  have q2 : Value.type "zip" = Value.type "StopIteration" := hc
  exact absurd (Value.type.inj q2) (by decide)
/-- zip between two turns of enumerate: no hand, or the hand of a pair, dead or alive -/
def ZipAny (h : Heap) (z TI TO : Addr) : Prop := ∃ hand f, ZipH h z TI TO hand f ∧ (hand = .none ∨ ∃ T : Addr, hand = rawInt T)
theorem nextOf_zip {Q : Value → Shared → Prop} (D : ZipApart z TI TO i1 i2 l1 l2) (hz : ZipAny s.heap z TI TO)
    (hTI : IsPair s.heap TI (.ref i1) (.ref i2)) (hTO : IsPair s.heap TO a1 a2) (h1 : s.heap.IsListIter i1 l1 k) (h2 : s.heap.IsListIter i2 l2 k) (hl1 : s.heap.IsList l1 xs) (hl2 : s.heap.IsList l2 ys) (hx : xs[k]? = some x) (hy : ys[k]? = some y)
    (hQ : ∀ h', ZipAny h' z TI TO → (∃ b1 b2, IsPair h' TO b1 b2) → h'.IsListIter i1 l1 (k + 1) → h'.IsListIter i2 l2 (k + 1) → IsPair h' s.heap.objs.size x y → h'.objs.size = s.heap.objs.size + 1 →
      (∀ c o, c ≠ z → c ≠ TO → c ≠ i1 → c ≠ i2 → s.heap.get? c = some o → h'.get? c = some o) → Q (.ref s.heap.objs.size) { s with heap := h' }) :
    wpAny (model prog w) A (Builtin.SmallTypes.nextOf (.ref z)) Q E s := by
  obtain ⟨hand, f, hz, hh⟩ := hz
  have hTy : s.TypeIs (.ref z) "zip" := ⟨_, hz, rfl⟩
  unfold Builtin.SmallTypes.nextOf
  refine wpAny_bind (wpAny_callSpecial?_slot (name := Str.ofString "__next__") hTy F.slot_zip_next
    (wpAny_call_entry F.slot_zip_next hTy F.entry_zip_next ?_ (F.args_zip_next_1 _)))
  rcases hh with rfl | ⟨T, rfl⟩
  · exact own_item D hz (fun Q' q E' => free_none hz q) hTI hTO h1 h2 hl1 hl2 hx hy fun h' q1 q2 q3 q4 q5 q6 q7 => wpAny_pure (hQ h' ⟨_, _, q1, .inr ⟨_, rfl⟩⟩ ⟨_, _, q2⟩ q3 q4 q5 q6 q7)
  · cases hT : s.heap.get? T with
    | none => exact own_item D hz (fun Q' q E' => free_dead hz hT q) hTI hTO h1 h2 hl1 hl2 hx hy fun h' q1 q2 q3 q4 q5 q6 q7 => wpAny_pure (hQ h' ⟨_, _, q1, .inr ⟨_, rfl⟩⟩ ⟨_, _, q2⟩ q3 q4 q5 q6 q7)
    | some oT => exact zip_next_item_held D hz hT hTI h1 h2 hl1 hl2 hx hy fun h' q1 q3 q4 q5 q6 q7 => wpAny_pure (hQ h' ⟨_, _, q1, .inr ⟨_, rfl⟩⟩ ⟨a1, a2, q7 _ _ D.TOz D.TOi1 D.TOi2 hTO⟩ q3 q4 q5 q6 fun c o c1 _ c3 c4 e => q7 c o c1 c3 c4 e)
theorem nextOf_zip_end {Q : Value → Shared → Prop} (hhd : A.handled = none) (D : ZipApart z TI TO i1 i2 l1 l2) (hz : ZipAny s.heap z TI TO)
    (hTI : IsPair s.heap TI (.ref i1) (.ref i2)) (h1 : s.heap.IsListIter i1 l1 k) (h2 : s.heap.IsListIter i2 l2 k) (hl1 : s.heap.IsList l1 xs) (hl2 : s.heap.IsList l2 ys) (hx : xs[k]? = none)
    (hE : ∀ h' e, (∀ c o, c ≠ z → c ≠ i1 → c ≠ i2 → s.heap.get? c = some o → h'.get? c = some o) → (∃ o, h'.get? e = some o ∧ o.cls = .type "StopIteration") → E (.ref e) { s with heap := h' }) :
    wpAny (model prog w) A (Builtin.SmallTypes.nextOf (.ref z)) Q E s := by
  obtain ⟨hand, f, hz, hh⟩ := hz
  have hTy : s.TypeIs (.ref z) "zip" := ⟨_, hz, rfl⟩
  unfold Builtin.SmallTypes.nextOf
  refine wpAny_bind (wpAny_callSpecial?_slot (name := Str.ofString "__next__") hTy F.slot_zip_next
    (wpAny_call_entry F.slot_zip_next hTy F.entry_zip_next ?_ (F.args_zip_next_1 _)))
  rcases hh with rfl | ⟨T, rfl⟩
  · exact own_end hhd D hz (fun Q' q E' => free_none hz q) hTI h1 hl1 hx fun h' e q1 q2 => hE h' e (fun c o c1 c2 _ x => q1 c o c1 c2 x) q2
  · cases hT : s.heap.get? T with
    | none => exact own_end hhd D hz (fun Q' q E' => free_dead hz hT q) hTI h1 hl1 hx fun h' e q1 q2 => hE h' e (fun c o c1 c2 _ x => q1 c o c1 c2 x) q2
    | some oT => exact zip_next_end_held hhd D hz hT hTI h1 h2 hl1 hl2 (.inl hx) fun h' e q1 q2 => hE h' e q1 q2
/-- a turn of enumerate over any iterator whose next item is known -/
theorem enum_item {e it : Addr} {n : Nat} {old v : Value} {N : Heap → Prop} {Q : Option Value → Shared → Prop} (he : IsEnum s.heap e it (n : Int) old)
    (hnx : ∀ (Q' : Value → Shared → Prop) (E' : Value → Shared → Prop), (∀ h1, N h1 → Q' v { s with heap := h1 }) → wpAny (model prog w) A.in1 (Builtin.SmallTypes.nextOf (.ref it)) Q' E' s)
    (hN : ∀ h1, N h1 → IsEnum h1 e it (n : Int) old)
    (hQ : ∀ h1 h' tk, N h1 → IsEnumOut h' e it ((n : Int) + 1) v h1.objs.size → h'.get? h1.objs.size = some { cls := .type "tuple", data := .seq #[.int n tk, v] } → h'.objs.size = h1.objs.size + 1 →
      (∀ b o, b ≠ e → h1.get? b = some o → h'.get? b = some o) → Q (some (.ref h1.objs.size)) { s with heap := h', toks := tk + 1 }) :
    wpAny (model prog w) A (pyNext (.ref e)) Q E s := by
  have hT : s.TypeIs (.ref e) "enumerate" := ⟨_, he, rfl⟩
  unfold pyNext
  refine wpAny_bind (wpAny_attempt (wpAny_callSpecial?_slot (name := Str.ofString "__next__") hT F.slot_enumerate_next
    (wpAny_call_entry F.slot_enumerate_next hT F.entry_enumerate_next ?_ (F.args_enumerate_next_1 _))))
  obtain ⟨hp, g, d, tk, os⟩ := s
  show wpAny _ _ (field (.ref e) 2 >>= _) _ _ _
  refine wpAny_bind (wpAny_field he rfl (x := .ref it) rfl ?_)
  refine wpAny_bind (hnx _ _ fun h1 n1 => ?_)
  have e1 : IsEnum h1 e it (n : Int) old := hN h1 n1
  show wpAny _ _ (field (.ref e) 3 >>= _) _ _ ⟨h1, g, d, tk, os⟩
  refine wpAny_bind (wpAny_field e1 rfl (x := rawInt n) rfl ?_)
  show wpAny _ _ (field (.ref e) 4 >>= _) _ _ ⟨h1, g, d, tk, os⟩
  refine wpAny_bind (wpAny_field e1 rfl (x := .none) rfl ?_)
  show wpAny _ _ (mkInt n >>= _) _ _ ⟨h1, g, d, tk, os⟩
  refine wpAny_bind (wpAny_mkInt ?_)
  show wpAny _ _ (setField (.ref e) 3 (rawInt ((n : Int) + 1)) >>= _) _ _ ⟨h1, g, d, tk + 1, os⟩
  refine wpAny_bind (wpAny_setField_rec e1 (by simp) fun h2 e2 s2 => ?_)
  have e2 : IsEnum h2 e it ((n : Int) + 1) old := e2
  show wpAny _ _ (setField (.ref e) 4 .none >>= _) _ _ ⟨h2, g, d, tk + 1, os⟩
  refine wpAny_bind (wpAny_setField_rec e2 (by simp) fun h3 e3 s3 => ?_)
  have e3 : IsEnum h3 e it ((n : Int) + 1) old := e3
  show wpAny _ _ (newTuple [.int n tk, v] >>= _) _ _ ⟨h3, g, d, tk + 1, os⟩
  refine wpAny_bind (wpAny_newTuple ?_)
  have e4 : IsEnum (h3.push { cls := .type "tuple", data := .seq #[.int n tk, v] }) e it ((n : Int) + 1) old := Heap.get?_push_of_some _ e3
  have sz : h3.objs.size = h1.objs.size := by rw [s3.1, s2.1]
  have el : e < h3.objs.size := Heap.lt_size e3
  show wpAny _ _ (Builtin.SmallTypes.ownedTupleIsFree (.ref e) >>= _) _ _ ⟨h3.push { cls := .type "tuple", data := .seq #[.int n tk, v] }, g, d, tk + 1, os⟩
  refine wpAny_bind ?_
  unfold Builtin.SmallTypes.ownedTupleIsFree
  refine wpAny_bind (wpAny_field e4 rfl (x := .none) rfl (wpAny_pure ?_))
  simp only [if_true]
  refine wpAny_bind (wpAny_rule ?_)
  refine wpAny_bind (wpAny_field e4 rfl (x := old) rfl ?_)
  refine wpAny_bind (wpAny_setField_rec e4 (by simp) fun h5 e5 s5 => ?_)
  have e5 : IsEnum h5 e it ((n : Int) + 1) v := e5
  show wpAny _ _ (Builtin.SmallTypes.ownedTupleHandOut (.ref e) (.ref h3.objs.size) >>= _) _ _ ⟨h5, g, d, tk + 1, os⟩
  refine wpAny_bind ?_
  unfold Builtin.SmallTypes.ownedTupleHandOut
  refine wpAny_bind (wpAny_setField_rec e5 (by simp) fun h6 e6 s6 => ?_)
  have e6 : IsEnumOut h6 e it ((n : Int) + 1) v h3.objs.size := e6
  refine wpAny_setField_rec e6 (by simp) fun h7 e7 s7 => ?_
  have e7 : IsEnumOut h7 e it ((n : Int) + 1) v h3.objs.size := e7
  have up : ∀ b o, b ≠ e → (h3.push { cls := .type "tuple", data := .seq #[.int n tk, v] }).get? b = some o → h7.get? b = some o := fun b o c q => s7.extBut b o c (s6.extBut b o c (s5.extBut b o c q))
  have t7 : h7.get? h3.objs.size = some { cls := .type "tuple", data := .seq #[.int n tk, v] } := up _ _ (Nat.ne_of_gt el) (Heap.get?_push_size _ rfl)
  have z7 : h7.objs.size = h3.objs.size + 1 := by rw [s7.1, s6.1, s5.1, Heap.size_push]
  rw [sz] at e7 t7 z7
  refine wpAny_bind (wpAny_letGo (wpAny_pure ⟨_, rfl, wpAny_pure ?_⟩))
  show Q (some (.ref h3.objs.size)) ⟨h7, g, d, tk + 1, os⟩
  rw [sz]
  exact hQ h1 h7 tk n1 e7 t7 z7 fun b o c q => up b o c (Heap.get?_push_of_some _ (s3.extBut b o c (s2.extBut b o c q)))
theorem enum_end {e it : Addr} {n : Int} {old : Value} {Q : Option Value → Shared → Prop} {N : Heap → Prop} (he : IsEnum s.heap e it n old)
    (hnx : ∀ (Q' : Value → Shared → Prop) (E' : Value → Shared → Prop), (∀ h' x, N h' → (∃ o, h'.get? x = some o ∧ o.cls = .type "StopIteration") → E' (.ref x) { s with heap := h' }) → wpAny (model prog w) A.in1 (Builtin.SmallTypes.nextOf (.ref it)) Q' E' s)
    (hQ : ∀ h', N h' → Q none { s with heap := h' }) : wpAny (model prog w) A (pyNext (.ref e)) Q E s := by
  have hT : s.TypeIs (.ref e) "enumerate" := ⟨_, he, rfl⟩
  unfold pyNext
  refine wpAny_bind (wpAny_attempt (wpAny_callSpecial?_slot (name := Str.ofString "__next__") hT F.slot_enumerate_next
    (wpAny_call_entry F.slot_enumerate_next hT F.entry_enumerate_next ?_ (F.args_enumerate_next_1 _))))
  show wpAny _ _ (field (.ref e) 2 >>= _) _ _ _
  refine wpAny_bind (wpAny_field he rfl (x := .ref it) rfl ?_)
  refine wpAny_bind (hnx _ _ fun h' x n1 hx => ?_)
  obtain ⟨o, ho, hc⟩ := hx
  refine wpAny_bind (wpAny_isInstance (T := "StopIteration") (b := true) ⟨o, ho, hc⟩ isSubtype_stop ?_)
  exact wpAny_pure (hQ _ n1)
/-- enumerate(zip): its only new cell -/
theorem meets_enumZ {z : Addr} : Meets (Builtin.«enumerate.__new__» ⟨[.type "enumerate", .ref z], []⟩) (fun _ R s => (∃ TI TO hand, IsZip s.heap z TI TO hand) ∧
      R (.ok (.ret (.ref s.heap.objs.size))) { s with heap := s.heap.push (enumObj z 0) }) :=
  .of_wp fun prog w A R s h => by
    obtain ⟨hp, g, d, tk, os⟩ := s
    obtain ⟨⟨TI, TO, hand, hz⟩, h⟩ := h
    have sube := sub_enumerate
    have it1 : ∀ {A' : Around} {E : Value → Shared → Prop} {Q : Value → Shared → Prop}, Q (.ref z) ⟨hp, g, d, tk, os⟩ → wpAny (model prog w) A' (pyIter (.ref z)) Q E ⟨hp, g, d, tk, os⟩ := by
      intro A' E Q q
      exact wpAny_pyIter_zip hz q
    wp_walk using it1
    refine wpAny_stack_any fun st => wpAny_pure ?_
    split
    · rename_i c _ _ _ _ _
      cases (c == Value.type "enumerate") <;> (wp_walk using it1; exact ⟨_, rfl, h⟩)
    · wp_walk using it1
      exact ⟨_, rfl, h⟩
theorem enum_beginsZ {z : Addr} {Q : Value → Shared → Prop} (hz : ∃ TI TO hand, IsZip s.heap z TI TO hand)
    (h : ∀ h', IsEnum h' s.heap.objs.size z 0 .none → h'.objs.size = s.heap.objs.size + 1 → (∀ b o, s.heap.get? b = some o → h'.get? b = some o) → Q (.ref s.heap.objs.size) { s with heap := h' }) :
    wpAny (model prog w) A (call (.type "enumerate") [.ref z]) Q E s := by
  refine callType_new F.called_enumerate (by decide) (F.typeCall_enumerate_1 _) (F.newCall_enumerate_1 _) (fun obj => F.args_object_init_2 obj _)
    F.entry_enumerate_new meets_enumZ ⟨hz, ?_⟩
  have q := Heap.get?_push_size s.heap (o := enumObj z 0) rfl
  exact ⟨⟨_, q, rfl⟩, h _ q (Heap.size_push ..) fun b o x => Heap.get?_push_of_some _ x⟩
end
end DL
namespace DL
open PySem PySem.Spec PyProof.Rows PySem.Calls L2
/-- two lists of one length beside one another, each pair in a pair with its place -/
def IteZ (K : PySem.W.Frag) (a b : Addr) : It where
  go := fun i H => ∃ (xs ys : List V) (x y : V), SqL K H a xs ∧ SqL K H b ys ∧ xs.length = ys.length ∧ xs[i]? = some x ∧ ys[i]? = some y
  yld := fun i H v H' => ∃ T1 T2 x y, v = .ref T2 ∧ H T1 = none ∧ H T2 = none ∧ T1 ≠ T2 ∧ H' = upd (upd H T1 (.tup [x, y])) T2 (.tup [.int (i : Nat), .ref T1]) ∧ (∀ xs, SqL K H a xs → xs[i]? = some x) ∧ ∀ ys, SqL K H b ys → ys[i]? = some y
  stop := fun i H => ∃ xs ys : List V, SqL K H a xs ∧ SqL K H b ys ∧ xs.length = ys.length ∧ xs.length = i
def fpZ (N : Addr) : List Addr := [N + 5, N + 4, N + 2, N + 3, N, N + 1]
theorem fpZ_of {N c : Addr} (h : c ∈ fpZ N) : c = N + 5 ∨ c = N + 4 ∨ c = N + 2 ∨ c = N + 3 ∨ c = N ∨ c = N + 1 := by
  unfold fpZ at h
  simpa only [List.mem_cons, List.not_mem_nil, or_false] using h
theorem fpZ_no {N c : Addr} (h : c ∉ fpZ N) : c ≠ N + 5 ∧ c ≠ N + 4 ∧ c ≠ N + 2 ∧ c ≠ N + 3 ∧ c ≠ N ∧ c ≠ N + 1 := by
  unfold fpZ at h
  simpa only [List.mem_cons, List.not_mem_nil, or_false, not_or] using h
def tnZ (N a b : Addr) (i : Nat) (h : Heap) : Prop := (∃ old, IsEnum h (N + 5) (N + 4) ((i : Nat) : Int) old) ∧ ZipAny h (N + 4) (N + 2) (N + 3) ∧ IsPair h (N + 2) (.ref N) (.ref (N + 1)) ∧ (∃ x y, IsPair h (N + 3) x y) ∧ h.IsListIter N a i ∧ h.IsListIter (N + 1) b i
theorem fpZ_nat {N c : Nat} (h : c = N + 5 ∨ c = N + 4 ∨ c = N + 2 ∨ c = N + 3 ∨ c = N ∨ c = N + 1) : N ≤ c ∧ c ≤ N + 5 := by omega
theorem addr_ne {p q : Nat} (h : p ≠ q) : @Ne Addr p q := h
theorem apartZ {N a b : Addr} (ha : a < N) (hb : b < N) : ZipApart (N + 4) (N + 2) (N + 3) N (N + 1) a b := by
  have ha : @LT.lt Nat _ a N := ha
  have hb : @LT.lt Nat _ b N := hb
  constructor <;> (refine addr_ne ?_; omega)
theorem turn_enumZ {P : Program} {w : World} {K : PySem.W.Frag} {elts : List Expr} {kk : Nat} {tpos : Pos} {a b N : Addr} (ha : a < N) (hb : b < N) :
    Turn P w K (.Tuple elts kk tpos) (IteZ K a b) (fpZ N) (N + 5) (tnZ N a b) where
  mem := List.mem_cons_self
  obj := fun i h st c hc => by
    obtain ⟨⟨old, he⟩, ⟨hand, f, hz, _⟩, hI, ⟨x, y, hO⟩, ⟨o1, g1, _, d1⟩, ⟨o2, g2, _, d2⟩⟩ := st
    rcases fpZ_of hc with rfl | rfl | rfl | rfl | rfl | rfl
    · exact ⟨_, he, fun v q => nomatch q⟩
    · exact ⟨_, hz, fun v q => nomatch q⟩
    · exact ⟨_, hI, fun v q => nomatch q⟩
    · exact ⟨_, hO, fun v q => nomatch q⟩
    · exact ⟨o1, g1, fun v q => by rw [d1] at q; cases q⟩
    · exact ⟨o2, g2, fun v q => by rw [d2] at q; cases q⟩
  keep := fun i h h' st k => by
    obtain ⟨⟨old, he⟩, ⟨hand, f, hz, hh⟩, hI, ⟨x, y, hO⟩, g1, g2⟩ := st
    unfold fpZ at k
    exact ⟨⟨old, k _ (by simp) _ he⟩, ⟨hand, f, k _ (by simp) _ hz, hh⟩, k _ (by simp) _ hI, ⟨x, y, k _ (by simp) _ hO⟩, g1.at fun o q => k _ (by simp) o q, g2.at fun o q => k _ (by simp) o q⟩
  item := by
    intro X hP hw hK hc i pins s σ H E I hf st hg
    subst hP hw hK
    obtain ⟨⟨old, he⟩, hz, hI, ⟨a1, a2, hO⟩, g1, g2⟩ := st
    obtain ⟨xs, ys, x, y, hq, hq2, hle, hx, hy⟩ := hg
    obtain ⟨its, rv, p, _⟩ := I.list hq
    obtain ⟨its2, rv2, p2, _⟩ := I.list hq2
    obtain ⟨u, hu, ru⟩ := rv.get hx
    obtain ⟨u2, hu2, ru2⟩ := rv2.get hy
    have D := apartZ ha hb
    have eN : @LT.lt Nat _ (N + 5) s.heap.objs.size := Heap.lt_size he
    refine enum_item (N := fun h1 => ZipAny h1 (N + 4) (N + 2) (N + 3) ∧ (∃ b1 b2, IsPair h1 (N + 3) b1 b2) ∧ h1.IsListIter N a (i + 1) ∧ h1.IsListIter (N + 1) b (i + 1) ∧ IsPair h1 s.heap.objs.size u u2 ∧ h1.objs.size = s.heap.objs.size + 1 ∧ ∀ c o, c ≠ N + 4 → c ≠ N + 3 → c ≠ N → c ≠ N + 1 → s.heap.get? c = some o → h1.get? c = some o) he
      (fun Q' E' q => nextOf_zip D hz hI hO g1 g2 p.isList p2.isList (by simpa using hu) (by simpa using hu2) fun h' q1 q2 q3 q4 q5 q6 q7 => q h' ⟨q1, q2, q3, q4, q5, q6, q7⟩)
      (fun h1 n1 => n1.2.2.2.2.2.2 _ _ (addr_ne (by omega)) (addr_ne (by omega)) (addr_ne (by omega)) (addr_ne (by omega)) he) fun h1 h' tk n1 e7 t7 z7 k7 => ?_
    obtain ⟨⟨hand, f, q1, hh⟩, ⟨b1, b2, q2⟩, q3, q4, q5, q6, q7⟩ := n1
    refine ⟨_, rfl, wpAny_letOwnedTupleGo_enum (s := { s with heap := h', toks := tk + 1 }) e7 fun h'' he' sb => ?_⟩
    have k1 : ∀ c ob, c ∉ fpZ N → s.heap.get? c = some ob → h1.get? c = some ob := fun c ob hc q => by
      have n := fpZ_no hc
      exact q7 c ob n.2.1 n.2.2.2.1 n.2.2.2.2.1 n.2.2.2.2.2 q
    have k2 : ∀ c ob, c ≠ N + 5 → h1.get? c = some ob → h''.get? c = some ob := fun c ob hc q => (sb.2 c hc).trans (k7 c ob hc q)
    have new1 : ObjOk X.prog X.w (upd H s.heap.objs.size (.tup [x, y])) h1 s.heap.objs.size (.tup [x, y]) := ⟨by show 2 ≤ sizeLine; decide, [u, u2], .cons ru (.cons ru2 .nil), ⟨_, q5, rfl, _, rfl⟩⟩
    have I1 : L2.Inv X pins σ (upd H s.heap.objs.size (.tup [x, y])) { s with heap := h1 } := I.turnedNew (t' := s.toks) (ch := fpZ N) k1 hf (Nat.le_refl _) new1
    have lt : ∀ c, c ∈ fpZ N → @LT.lt Nat _ c s.heap.objs.size := fun c hc => by
      have q := fpZ_nat (fpZ_of hc)
      omega
    have hf1 : ∀ c ∈ fpZ N, FpOk X pins (upd H s.heap.objs.size (.tup [x, y])) c := fun c hc => ⟨by rw [upd_ne (Nat.ne_of_lt (lt c hc))]; exact (hf c hc).1, (hf c hc).2⟩
    have t8 : h''.get? h1.objs.size = some { cls := .type "tuple", data := .seq #[.int i tk, .ref s.heap.objs.size] } := (sb.2 _ (addr_ne (by omega))).trans t7
    have new2 : ObjOk X.prog X.w (upd (upd H s.heap.objs.size (.tup [x, y])) h1.objs.size (.tup [.int (i : Nat), .ref s.heap.objs.size])) h'' h1.objs.size (.tup [.int (i : Nat), .ref s.heap.objs.size]) := ⟨by show 2 ≤ sizeLine; decide, [.int i tk, .ref s.heap.objs.size], .cons ⟨tk, rfl⟩ (.cons rfl .nil), ⟨_, t8, rfl, _, rfl⟩⟩
    have I2 : L2.Inv X pins σ (upd (upd H s.heap.objs.size (.tup [x, y])) h1.objs.size (.tup [.int (i : Nat), .ref s.heap.objs.size])) { s with heap := h'', toks := tk + 1 } := I1.turnedNew (t' := tk + 1) (ch := fpZ N) (fun c ob hc q => k2 c ob (fpZ_no hc).1 q) hf1 (Nat.le_refl _) new2
    refine ⟨.ref h1.objs.size, _, I2, rfl, ⟨s.heap.objs.size, h1.objs.size, x, y, rfl, I.hok.fresh (Nat.le_refl _), I.hok.fresh (by rw [q6]; exact Nat.le_succ _), addr_ne (by omega), rfl, fun zs hzs => ?_, fun zs hzs => ?_⟩, ⟨⟨.ref s.heap.objs.size, ?_⟩, ⟨hand, f, k2 _ _ (addr_ne (by omega)) q1, hh⟩, k2 _ _ (addr_ne (by omega)) (q7 _ _ (addr_ne (by omega)) (addr_ne (by omega)) (addr_ne (by omega)) (addr_ne (by omega)) hI), ⟨b1, b2, k2 _ _ (addr_ne (by omega)) q2⟩, q3.at fun o q => k2 _ o (addr_ne (by omega)) q, q4.at fun o q => k2 _ o (addr_ne (by omega)) q⟩, fun c hc2 => ?_⟩
    · rw [I.list_inj hzs hq]
      exact hx
    · rw [I.list_inj hzs hq2]
      exact hy
    · have e1 : ((i + 1 : Nat) : Int) = (i : Int) + 1 := by omega
      rw [e1]
      exact he'
    · have l := lt c hc2
      rw [upd_ne (addr_ne (by omega)), upd_ne (addr_ne (by omega))]
      exact (hf c hc2).1
  done := by
    intro X hP hw hK hc i pins s σ H E I hf st hg
    subst hP hw hK
    obtain ⟨⟨old, he⟩, hz, hI, ⟨a1, a2, hO⟩, g1, g2⟩ := st
    obtain ⟨xs, ys, hq, hq2, hle, hn⟩ := hg
    obtain ⟨its, rv, p, _⟩ := I.list hq
    obtain ⟨its2, rv2, p2, _⟩ := I.list hq2
    have D := apartZ ha hb
    have hx : its.toArray[i]? = none := by
      have := rv.length
      simp
      omega
    refine enum_end (N := fun h' => ∀ c o, c ≠ N + 4 → c ≠ N → c ≠ N + 1 → s.heap.get? c = some o → h'.get? c = some o) he
      (fun Q' E' q => nextOf_zip_end (I.ok.hd hc) D hz hI g1 g2 p.isList p2.isList hx fun h' e q1 q2 => q h' e q1 q2) fun h' n1 => ⟨rfl, ?_⟩
    exact I.turnedL (t' := s.toks) (ch := fpZ N) (fun c ob hc2 q => by
      have n := fpZ_no hc2
      exact n1 c ob n.2.1 n.2.2.2.2.1 n.2.2.2.2.2 q) hf
  self := fun A i s Q E st h => by
    obtain ⟨⟨_, he⟩, _⟩ := st
    exact wpAny_pyIter_enum he h
def iEnumZ (K : PySem.W.Frag) (ta : TA) : TI := fun σ H R => ta σ H fun vs H1 => ∃ a b xs ys, vs = [.ref a, .ref b] ∧ SqL K H1 a xs ∧ SqL K H1 b ys ∧ xs.length = ys.length ∧ R (IteZ K a b) H1
theorem pi_enumZ {X : Cx} {e e2 : Expr} {ta : TA} {p pos p2 pos2 tpos : Pos} {elts : List Expr} {kk : Nat} (hg : Gl X "enumerate") (hm : X.mg "enumerate" = none) (hgz : Gl X "zip") (hmz : X.mg "zip" = none) (ha : PA X [e, e2] ta)
    (hs0 : starEach [.Call (.Name "zip" p2) [e, e2] [] pos2] X.env = (false, eval (.Call (.Name "zip" p2) [e, e2] [] pos2) X.env) :: starEach [] X.env := by rfl)
    (hs : starEach [e, e2] X.env = (false, eval e X.env) :: starEach [e2] X.env := by rfl) (hpl : (backTo pos2 (starEach [e2] X.env)).any (·.1) = false := by rfl) :
    PI X (.Tuple elts kk tpos) (.Call (.Name "enumerate" p) [.Call (.Name "zip" p2) [e, e2] [] pos2] [] pos) (iEnumZ X.K ta) := by
  refine ⟨fun pins s σ H R I h => Call_ (ld_blt I hg hm boot_enumerate (callWith_type1 (args_cons ?_ hs0) hs0 rfl))⟩
  refine Call_ (ld_blt I hgz hmz boot_zip (callWith_type1 (thn (ha.run pos2 pins s σ H _ I h) fun us s1 hh => ?_) hs hpl))
  obtain ⟨vs, H1, I1, r1, a, b, xs, ys, ex, hq, hq2, hle, q⟩ := hh
  subst ex
  cases r1 with
  | cons r rr =>
    cases rr with
    | cons r' rr =>
      cases rr
      cases r
      cases r'
      obtain ⟨its, rv, p1, _⟩ := I1.list hq
      obtain ⟨its2, rv2, p2', _⟩ := I1.list hq2
      have la : a < s1.heap.objs.size := by
        obtain ⟨_, g, _⟩ := p1.isList
        exact Heap.lt_size g
      have lb : b < s1.heap.objs.size := by
        obtain ⟨_, g, _⟩ := p2'.isList
        exact Heap.lt_size g
      refine zip_begins2 (begins_list a its.toArray) (begins_list b its2.toArray) p1.isList p2'.isList fun h' hz' hI hO h0 h1 hsz hk => args_nil ?_
      refine enum_beginsZ (s := { s1 with heap := h' }) ⟨_, _, _, hz'⟩ fun h2 he hs2 hk2 => ?_
      have he : IsEnum h2 h'.objs.size (s1.heap.objs.size + 4) 0 .none := he
      show wpAny _ _ (pyIter (.ref h'.objs.size)) _ _ _
      rw [hsz] at he ⊢
      refine wpAny_pyIter_enum he ?_
      have kk2 : ∀ c o, s1.heap.get? c = some o → h2.get? c = some o := fun c o x => hk2 c o (hk c o x)
      have I2 : L2.Inv X pins σ H1 { s1 with heap := h2 } := I1.kept (t' := s1.toks) kk2
      refine ⟨s1.heap.objs.size + 5, fpZ s1.heap.objs.size, _, _, H1, rfl, I2, turn_enumZ la lb, ⟨⟨.none, he⟩, ⟨.none, false, hk2 _ _ hz', .inl rfl⟩, hk2 _ _ hI, ⟨_, _, hk2 _ _ hO⟩, ⟨_, hk2 _ _ h0, rfl, rfl⟩, ⟨_, hk2 _ _ h1, rfl, rfl⟩⟩, fun c hc => ?_, q⟩
      have hle : s1.heap.objs.size ≤ c := (fpZ_nat (fpZ_of hc)).1
      exact I1.fpOk hle (I1.hok.fresh hle)
theorem kiEnumZ {X : Cx} {K : PySem.W.Frag} {e e2 : Expr} {ta : TA} {p pos p2 pos2 tpos : Pos} {elts : List Expr} {kk : Nat} (hK : X.K = K) (hg : Gl X "enumerate") (hm : X.mg "enumerate" = none) (hgz : Gl X "zip") (hmz : X.mg "zip" = none) (ha : PA X [e, e2] ta)
    (hs0 : starEach [.Call (.Name "zip" p2) [e, e2] [] pos2] X.env = (false, eval (.Call (.Name "zip" p2) [e, e2] [] pos2) X.env) :: starEach [] X.env := by rfl)
    (hs : starEach [e, e2] X.env = (false, eval e X.env) :: starEach [e2] X.env := by rfl) (hpl : (backTo pos2 (starEach [e2] X.env)).any (·.1) = false := by rfl) :
    PI X (.Tuple elts kk tpos) (.Call (.Name "enumerate" p) [.Call (.Name "zip" p2) [e, e2] [] pos2] [] pos) (iEnumZ K ta) := by
  subst hK
  exact pi_enumZ hg hm hgz hmz ha hs0 hs hpl
/-- walked: two lists of one length beside one another, with their places -/
theorem it_enumZ {O : List Addr} {n : Nat} {ρ : Rho} {ta tb : TE} {ds es : List PyData} {K : PySem.W.Frag} (h : EvD O n ta ρ (.list ds)) (h' : EvD O n tb ρ (.list es)) (hl : ds.length = es.length) : IterD O n (iEnumZ K (tCons ta (tCons tb tNil))) ρ (enumD (zipD ds es)) := fun σ H hn s R q => h σ H hn s _ fun v H1 e1 d1 => h' σ H1 hn (s.ex e1) _ fun v' H2 e2 d2 => by
  cases d1 with
  | @lst a xs _ ha k =>
    cases d2 with
    | @lst b ys _ hb k' =>
      have l0 : (zipD ds es).length = ds.length := by
        unfold zipD
        rw [List.length_zipWith, ← hl, Nat.min_self]
      have l : (enumD (zipD ds es)).length = ds.length := by
        unfold enumD
        rw [List.length_zipWith, List.length_range, Nat.min_self, l0]
      have ha2 : sub H2 O a = some (.lst xs) := (Ex.o O e2) _ _ ha
      have lx : xs.length = ys.length := by rw [k.length, k'.length, hl]
      refine ⟨a, b, xs, ys, rfl, Evl.sq_of (sub_of ha2).1, Evl.sq_of (sub_of hb).1, lx, q (IteZ K a b) H2 (fun P H3 => (sub H3 P a = some (.lst xs) ∧ DqAll (sub H3 P) xs ds) ∧ (sub H3 P b = some (.lst ys) ∧ DqAll (sub H3 P) ys es)) (fun i H v H' => ∃ T1 T2 x y, v = .ref T2 ∧ H T1 = none ∧ H T2 = none ∧ T1 ≠ T2 ∧ H' = upd (upd H T1 (.tup [x, y])) T2 (.tup [.int (i : Nat), .ref T1]) ∧ xs[i]? = some x ∧ ys[i]? = some y) (e1.trans e2) (fun P => ?_)
        ⟨⟨ha2, k.mono (Ex.o O e2)⟩, ⟨hb, k'⟩⟩ (fun P P' H3 H4 g e => ⟨⟨e _ _ g.1.1, g.1.2.mono e⟩, ⟨e _ _ g.2.1, g.2.2.mono e⟩⟩) ?_⟩
      · rw [l, ← k.length]
        refine ⟨fun i H3 hi g => ?_, fun H3 g => ⟨xs, ys, Evl.sq_of (sub_of g.1.1).1, Evl.sq_of (sub_of g.2.1).1, lx, rfl⟩, fun i H3 v H4 hi g y => ?_⟩
        · exact ⟨xs, ys, xs[i], ys[i]'(by omega), Evl.sq_of (sub_of g.1.1).1, Evl.sq_of (sub_of g.2.1).1, lx, List.getElem?_eq_getElem hi, List.getElem?_eq_getElem (by omega)⟩
        · obtain ⟨T1, T2, x, z, h1, h2, h3, h4, h5, h6, h7⟩ := y
          exact ⟨T1, T2, x, z, h1, h2, h3, h4, h5, h6 xs (Evl.sq_of (sub_of g.1.1).1), h7 ys (Evl.sq_of (sub_of g.2.1).1)⟩
      · rintro P i H3 x H4 hi ho ⟨⟨g1, g2⟩, g3, g4⟩ ⟨T1, T2, x1, x2, rfl, hT1, hT2, hne, hH, q1, q2⟩
        obtain ⟨d, h1, h2⟩ := g2.getV q1
        obtain ⟨d', h1', h2'⟩ := g4.getV q2
        obtain ⟨a1, a2⟩ := pair_new ho hT1 rfl h2 h2'
        obtain ⟨b1, b2⟩ := pair_new (fun c hc z => ho c hc (by
          by_cases cT : c = T1
          · rw [cT]; exact hT1
          · rw [upd_ne cT] at z; exact z)) (show upd H3 T1 (.tup [x1, x2]) T2 = none by rw [upd_ne hne.symm]; exact hT2) hH (.int (i : Int)) a2
        refine ⟨a1.trans b1, _, ?_, b2⟩
        have hz : (zipD ds es)[i]? = some (.tuple [d, d']) := by
          unfold zipD
          rw [List.getElem?_zipWith, h1, h1']
        unfold enumD
        rw [List.getElem?_zipWith, List.getElem?_range (by rw [l0]; rw [l] at hi; exact hi), hz]
end DL
/-! DH: slices and items of what is a list or a tuple. -/
namespace DL
open PySem L2 Evl PyProof.Rows TL RZ
def rSlS (K : PySem.W.Frag) : V → Option Int → Option Int → Hp → VK → Prop := fun x lo hi H Q => rSlL K x lo hi H Q ∨ rSlA K x lo hi H Q
theorem kSlS {X : Cx} {K : PySem.W.Frag} (hK : X.K = K) : SlR X (rSlS K) := (kSlL hK).or (kSlA hK)
theorem kIxS {X : Cx} {K : PySem.W.Frag} (hK : X.K = K) : IxR X (fun x y H Q => rIxL K x y H Q ∨ rIxT K x y H Q) := (kIxL hK).or (kIxT hK)
def likeD : PyData → List PyData → PyData
  | .list _, ys => .list ys
  | _, ys => .tuple ys
theorem like_seq {x : PyData} {ds ys : List PyData} (h : SeqD x ds) : SeqD (likeD x ys) ys := by
  cases h
  · exact .lst _
  · exact .tup _
section
variable {O : List Addr} {n : Nat} {ρ : Rho} {te : TE} {tl th : TO} {lo hi : Option Int} {x d : PyData} {ds : List PyData} {K : PySem.W.Frag}
theorem ed_slQ (hs : SeqD x ds) (h : EvD O n te ρ x) (h1 : EvDO O n tl ρ lo) (h2 : EvDO O n th ρ hi) : EvD O n (tSl (rSlS K) te tl th) ρ (likeD x (DL.cutD ds lo hi)) := by
  cases hs with
  | lst =>
    have q := ed_slL (K := K) h h1 h2
    exact fun σ H hn s Q k => h σ H hn s _ fun v H1 e1 d1 => h1 σ H1 hn (s.ex e1) _ fun H2 e2 => h2 σ H2 hn ((s.ex e1).ex e2) _ fun H3 e3 => by
      have d3 := d1.mono (Ex.o O (e2.trans e3))
      cases d3 with
      | lst a k2 => exact .inl ⟨_, _, rfl, sq_of (sub_of a).1, fun p hp => k _ _ (((e1.trans e2).trans e3).trans (Ex.new hp)) (.lst (sub_mk upd_same (not_own (own_ex ((e1.trans e2).trans e3) s.own) hp)) ((k2.cut lo hi).mono (Ex.o O (Ex.new hp))))⟩
  | tup =>
    exact fun σ H hn s Q k => h σ H hn s _ fun v H1 e1 d1 => h1 σ H1 hn (s.ex e1) _ fun H2 e2 => h2 σ H2 hn ((s.ex e1).ex e2) _ fun H3 e3 => by
      have d3 := d1.mono (Ex.o O (e2.trans e3))
      have own3 := own_ex ((e1.trans e2).trans e3) s.own
      cases d3 with
      | tup a k2 =>
        refine .inr ⟨_, _, rfl, st_of (sub_of a).1, fun hw => ?_, fun _ p2 hp => ?_⟩
        · rw [k2.length] at hw
          have e : likeD (.tuple ds) (DL.cutD ds lo hi) = .tuple ds := by
            show PyData.tuple _ = _
            rw [cut_all hw]
          refine k _ H3 ((e1.trans e2).trans e3) ?_
          rw [e]
          exact .tup a k2
        · exact k _ _ (((e1.trans e2).trans e3).trans (Evl.Ex.new hp)) (.tup (sub_mk upd_same (not_own own3 hp)) ((k2.cut lo hi).mono (Ex.o O (Evl.Ex.new hp))))
theorem rd_ixS {i : Nat} (hs : SeqD x ds) (h : ds[i]? = some d) : RD O (fun x y H Q => rIxL K x y H Q ∨ rIxT K x y H Q) x (.int (i : Int)) d := fun H v w ho h1 h2 Q q => by
  cases hs with
  | lst => exact .inl (rd_ixL (K := K) h H v w ho h1 h2 Q q)
  | tup => exact .inr (rd_ixT (K := K) h H v w ho h1 h2 Q q)
end
section
variable {n k : Nat} {ρ : Rho} {te : TE} {S : PyData → Prop} {E : XK}
/-- one of the goods, a list or a tuple of anything -/
def spOfS : Sp := fun vs H Q _ => ∃ (O : List Addr) (p : Addr) (c : Nat) (x : V) (y : PyData) (ds : List PyData), vs = [.ref p, x] ∧ p ∈ O ∧ (∀ a, a ∈ O → H a ≠ none) ∧ Box p c H ∧ c ≤ 1000000 ∧ SeqD y ds ∧ Dq (sub H O) x y ∧ 0 < ds.length ∧ ds.length ≤ 1000 ∧ ∀ d v H', d ∈ ds → Dq (sub H' O) v d → ExO [p] H H' → Box p (c + 1) H' → Q v H'
theorem eb_ofS (h : EvB n te ρ k (fun d => ∃ ds, SeqD d ds ∧ 0 < ds.length ∧ ds.length ≤ 1000 ∧ ∀ e, e ∈ ds → S e)) : EvB n (tCall spOfS [] E (tCons (tVar 0) (tCons te tNil))) ρ (k + 1) S := fun O p c σ H hn s hc Q q => by
  refine ⟨_, s.bx, h O p c σ H hn s (by omega) _ fun v d H1 hd e1 b1 d1 => ?_⟩
  obtain ⟨ds, hs, l0, l1, hS⟩ := hd
  refine ⟨O, p, c + k, v, d, ds, rfl, s.mem, own_o e1 b1 s.sd.own, b1, by omega, hs, d1, l0, l1, fun d w H2 hd dw e2 b2 => ?_⟩
  exact q w d H2 (hS d hd) (e1.trans e2) (by rw [← Nat.add_assoc]; exact b2) dw
end
section
variable {O P : List Addr} {H0 H : Hp} {c : Own} {σ : L2.St} {ρ : Rho} {al : Nat → Addr}
theorem SDM.freeze {m : Nat} {ds : List PyData} (s : SDM O H0 c H σ ρ P al) (hm : c m = some ds) : SDM O H0 (c.del m) H σ (ρ.set m (some (.list ds))) (P.filter fun a => decide (a ≠ al m)) al := by
  obtain ⟨m1, ⟨xs, hx, dx⟩, m3, m4, m5, m6⟩ := s.at_ m ds hm
  have fl : ∀ a, a ∈ (P.filter fun a => decide (a ≠ al m)) → a ∈ P ∧ a ≠ al m := fun a ha => by
    have q := List.mem_filter.mp ha
    exact ⟨q.1, of_decide_eq_true q.2⟩
  have fm : ∀ a, a ∈ P → a ≠ al m → a ∈ (P.filter fun a => decide (a ≠ al m)) := fun a ha hn => List.mem_filter.mpr ⟨ha, decide_eq_true hn⟩
  have le := sub_less (H := H) (P := P) (P' := P.filter fun a => decide (a ≠ al m)) fun a ha => (fl a ha).1
  have ck : ∀ k fs, (c.del m) k = some fs → k ≠ m ∧ c k = some fs := fun k fs hk => by
    by_cases c2 : k = m
    · simp [Own.del, c2] at hk
    · exact ⟨c2, by simpa [Own.del, c2] using hk⟩
  refine ⟨fun a ha => fm a (s.less a ha) fun z => m5 (z ▸ ha), fun a ha => ?_, ⟨fun a ha => s.sd.own a (fl a ha).1, fun i d hd => ?_⟩, fun k fs hk => ?_, fun k k' fs fs' hk hk' he => s.inj k k' fs fs' (ck k fs hk).2 (ck k' fs' hk').2 he, s.ex⟩
  · obtain ⟨a1, a2⟩ := fl a ha
    rcases s.only a a1 with q | ⟨k, fs, h1, rfl⟩
    · exact .inl q
    · refine .inr ⟨k, fs, ?_, rfl⟩
      have : k ≠ m := fun z => a2 (by rw [z])
      simp [Own.del, this, h1]
  · by_cases c2 : m = i
    · subst c2
      have hb : m < ρ.length := (List.getElem?_eq_some_iff.mp m3).1
      rw [List.getElem?_set_self hb] at hd
      cases hd
      exact ⟨_, m1, .lst (sub_mk hx fun z => (fl _ z).2 rfl) (dx.mono le)⟩
    · rw [List.getElem?_set_ne c2] at hd
      obtain ⟨v, h1, h2⟩ := s.sd.at' i d hd
      exact ⟨v, h1, h2.mono le⟩
  · obtain ⟨c2, hk⟩ := ck k fs hk
    obtain ⟨h1, ⟨ys, h2, h3⟩, h4, h5, h6, h7⟩ := s.at_ k fs hk
    exact ⟨h1, ⟨ys, h2, h3.mono le⟩, by rw [List.getElem?_set_ne (Ne.symm c2)]; exact h4, fm _ h5 fun z => c2 (s.inj k m fs ds hk hm z), h6, h7⟩
theorem rm_freezeR {n m : Nat} {t : TS} {d : PyData} {ds : List PyData} (hc : c m = some ds) (h : RunMR O n t (ρ.set m (some (.list ds))) (c.del m) d) : RunMR O n t ρ c d := fun H0 D σ H hn ⟨P, al, s⟩ k =>
  h H0 D σ H hn ⟨_, al, s.freeze hc⟩ k
theorem rm_freeze {n m : Nat} {t : TS} {ρ' : Rho} {c' : Own} {ds : List PyData} (hc : c m = some ds) (h : RunM O n t (ρ.set m (some (.list ds))) (c.del m) ρ' c') : RunM O n t ρ c ρ' c' := fun H0 D σ H hn ⟨P, al, s⟩ k =>
  h H0 D σ H hn ⟨_, al, s.freeze hc⟩ k
theorem rm_c {n : Nat} {t : TS} {d : PyData} {c' : Own} {ρ' : Rho} (h : RunMR O n t ρ c d) (e : c = c') (e2 : ρ = ρ') : RunMR O n t ρ' c' d := e ▸ e2 ▸ h
end
section
variable {O : List Addr} {n : Nat} {ρ ρ' : Rho} {c : Own} {te : TE} {ds es : List PyData} {g : TG} {vs : List Nat} {d : PyData}
theorem ef_is (h : EvF O n te ρ ds) (e : ds = es) : EvF O n te ρ es := e ▸ h
/-- several names at once -/
theorem rm_asgT (h : ∀ P, EvD P n te ρ d) (hg : ∀ P, TgD P n vs g ρ d ρ') (hv : ∀ i, i ∈ vs → c i = none) (hr : ∀ i ds, c i = some ds → ρ'[i]? = ρ[i]?) : RunM O n (tAsg te g) ρ c ρ' c := fun H0 D σ H hn ⟨P, al, s⟩ k =>
  h P σ H hn s.sd _ fun v H1 e1 d1 => by
    have s1 := s.step e1
    refine hg P σ H1 v hn s1.sd d1 _ fun σ' hl hc' s' => k σ' H1 hl ⟨P, al, s1.less, s1.only, s', fun a fs ha => ?_, s1.inj, s1.ex⟩
    obtain ⟨q1, q2, q3, q4⟩ := s1.at_ a fs ha
    have na : a ∉ vs := fun z => by
      rw [hv a z] at ha
      cases ha
    exact ⟨by rw [hc' a na]; exact q1, q2, by rw [hr a fs ha]; exact q3, q4⟩
end
end DL
/-! DPO: own lists that are changed by place: xs[i] = e, xs[i], xs[j] = .., xs.pop(i), amid draws, too. -/
namespace DL
open PySem L2 Evl PyProof.Rows TL RZ
theorem sIdx_nat {j n : Nat} (h : j < n) : seqIndex? (j : Int) n = some j := by
  unfold seqIndex?
  have h1 : ¬ ((j : Int) < 0) := by omega
  simp only [h1, if_false]
  have h2 : (decide (0 ≤ (j : Int)) && decide ((j : Int) < (n : Int))) = true := by
    rw [Bool.and_eq_true]
    exact ⟨decide_eq_true (by omega), decide_eq_true (by omega)⟩
  rw [if_pos h2, Int.toNat_natCast]
theorem DqAll.eraseAt {H : Hp} : ∀ {ws : List V} {es : List PyData}, DqAll H ws es → ∀ l : Nat, DqAll H (ws.eraseIdx l) (es.eraseIdx l)
  | _, _, .nil, _ => .nil
  | _, _, .cons _ r, 0 => r
  | _, _, .cons a r, l + 1 => .cons a (r.eraseAt l)
section
variable {O : List Addr} {n m i j k k1 k2 : Nat} {ρ ρ' : Rho} {c c' : Own} {ds es : List PyData} {d x y : PyData} {te ti tj : TE} {t u : TS} {K : PySem.W.Frag} {S S1 : PyData → Prop} {T : Rho → Own → Prop}
/-- xs[i] = e, told of amid own lists alone -/
theorem rm_set (hc : c m = some ds) (h : EvD O n te (vwC c 0 ρ) x) (fx : isFlat x = true) (hi : ∀ P, EvD P n ti ρ (.int (i : Int))) (li : i < ds.length) : RunM O n (tAsg te (gSub (tVar m) ti rSetL)) ρ c ρ (c.put m (ds.set i x)) := fun H0 D σ H hn ⟨P, al, s⟩ k =>
  h σ H hn s.view _ fun v H1 e1 d1 => by
    have s1 := s.step e1
    refine ⟨_, (s1.at_ m ds hc).1, hi P σ H1 hn s1.sd _ fun w H2 e2 d2 => ?_⟩
    cases d2
    have s2 := s1.step e2
    obtain ⟨_, ⟨ys, hy, dy⟩, _⟩ := s2.at_ m ds hc
    exact ⟨al m, ys, (i : Int), i, rfl, rfl, hy, ixN_nat (by rw [dy.length]; exact li), k σ _ hn ⟨P, al, s2.other hc (dy.setAt (flat_dq d1 fx) i)⟩⟩
/-- xs[i], xs[j] = x, y -/
theorem rm_swap (hc : c m = some ds) (h : EvD O n te (vwC c 0 ρ) (.tuple [x, y])) (fx : isFlat x = true) (fy : isFlat y = true) (hi : ∀ P, EvD P n ti ρ (.int (i : Int))) (hj : ∀ P, EvD P n tj ρ (.int (j : Int))) (li : i < ds.length) (lj : j < ds.length) :
    RunM O n (tAsg te (gTup K 2 (gCons (gSub (tVar m) ti rSetL) (gCons (gSub (tVar m) tj rSetL) gNil)))) ρ c ρ (c.put m ((ds.set i x).set j y)) := fun H0 D σ H hn ⟨P, al, s⟩ k =>
  h σ H hn s.view _ fun v H1 e1 d1 => by
    have s1 := s.step e1
    cases d1 with
    | tup a kk =>
      cases kk with
      | cons a1 r1 =>
        cases r1 with
        | cons a2 r2 =>
          cases r2
          refine ⟨_, _, rfl, st_of (sub_of a).1, rfl, _, _, rfl, _, (s1.at_ m ds hc).1, hi P σ H1 hn s1.sd _ fun w H2 e2 d2 => ?_⟩
          cases d2
          have s2 := s1.step e2
          obtain ⟨_, ⟨ys, hy, dy⟩, _⟩ := s2.at_ m ds hc
          refine ⟨al m, ys, (i : Int), i, rfl, rfl, hy, ixN_nat (by rw [dy.length]; exact li), ?_⟩
          have s3 := s2.other hc (dy.setAt (flat_dq a1 fx) i)
          have hc3 : (c.put m (ds.set i x)) m = some (ds.set i x) := if_pos rfl
          refine ⟨_, _, rfl, _, (s3.at_ m _ hc3).1, hj P σ _ hn s3.sd _ fun w H4 e4 d4 => ?_⟩
          cases d4
          have s4 := s3.step e4
          obtain ⟨_, ⟨zs, hz, dz⟩, _⟩ := s4.at_ m _ hc3
          have q := s4.other hc3 (dz.setAt (flat_dq a2 fy) j)
          rw [put_put] at q
          exact ⟨al m, zs, (j : Int), j, rfl, rfl, hz, ixN_nat (by rw [dz.length, List.length_set]; exact lj), rfl, k σ _ hn ⟨P, al, q⟩⟩
/-! amid draws -/
theorem rg_setE (hc : c m = some ds) (h : ∀ O, EvD O n te (vwC c 0 ρ) x) (fx : isFlat x = true) (hi : ∀ P, EvD P n ti ρ (.int (i : Int))) (li : i < ds.length) (hT : T ρ (c.put m (ds.set i x))) : RG n (tAsg te (gSub (tVar m) ti rSetL)) ρ c 0 T S := fun O p cnt H0 D σ H hn ⟨P, al, s⟩ hcc q r =>
  h O σ H hn s.m.view _ fun v H1 e1 d1 => by
    have s1 := s.stepX e1
    refine ⟨_, (s1.m.at_ m ds hc).1, hi P σ H1 hn s1.m.sd _ fun w H2 e2 d2 => ?_⟩
    cases d2
    have s2 := s1.stepX e2
    obtain ⟨_, ⟨ys, hy, dy⟩, _⟩ := s2.m.at_ m ds hc
    exact ⟨al m, ys, (i : Int), i, rfl, rfl, hy, ixN_nat (by rw [dy.length]; exact li), q ρ _ σ _ hT hn ⟨P, al, s2.other hc (dy.setAt (flat_dq d1 fx) i)⟩⟩
theorem rg_set (hc : c m = some ds) (h : ∀ O, EvD O n te (vwC c 0 ρ) x) (fx : isFlat x = true) (hi : ∀ P, EvD P n ti ρ (.int (i : Int))) (li : i < ds.length) (h2 : RG n u ρ (c.put m (ds.set i x)) k T S) : RG n (tSeq (tAsg te (gSub (tVar m) ti rSetL)) u) ρ c k T S :=
  rg_0 (rg_seq (T1 := fun ρ' c' => ρ' = ρ ∧ c' = c.put m (ds.set i x)) (rg_setE hc h fx hi li ⟨rfl, rfl⟩) fun ρ1 c1 z => by
    rw [z.1, z.2]
    exact h2)
/-- what a place holds of the own lists, seen as data -/
theorem SGM.sbV {O P : List Addr} {p : Addr} {cnt : Nat} {H0 H : Hp} {c : Own} {σ : L2.St} {ρ : Rho} {al : Nat → Addr} (s : SGM O p cnt H0 c H σ ρ P al) (h0 : c 0 = none) : SB O p cnt H σ (vwC c 0 ρ) := ⟨s.m.view, s.bx, s.box, s.mem, by
  rw [vwC_get, s.fr]
  show some (match c (0 + 0) with | some ds => some (PyData.list ds) | Option.none => none) = _
  rw [Nat.zero_add, h0]⟩
/-- x = drawn, of what the own lists hold; a scalar -/
theorem rg_asgV (h : EvB n te (vwC c 0 ρ) k S1) (hf : ∀ d, S1 d → isFlat d = true) (hc0 : c 0 = none) (hi : i < n) (h0 : i ≠ 0) (hc : c i = none) : RG n (tAsg te (gName i)) ρ c k (fun ρ' c' => ∃ d, S1 d ∧ ρ' = ρ.set i (some d) ∧ c' = c) S := fun O p cnt H0 D σ H hn ⟨P, al, s⟩ hcc q r =>
  h O p cnt σ H hn (s.sbV hc0) hcc _ fun v d H1 hd e1 b1 d1 => q _ c _ H1 ⟨d, hd, rfl, rfl⟩ (by rw [List.length_set]; exact hn) ⟨P, al, (s.step e1 b1).put (flat_dq d1 (hf d hd)) (by rw [hn]; exact hi) h0 hc⟩
theorem rg_getV (h : EvB n te (vwC c 0 ρ) k1 S1) (hf : ∀ d, S1 d → isFlat d = true) (hc0 : c 0 = none) (hi : i < n) (h0 : i ≠ 0) (hc : c i = none) (h2 : ∀ d, S1 d → RG n u (ρ.set i (some d)) c k2 T S) : RG n (tSeq (tAsg te (gName i)) u) ρ c (k1 + k2) T S :=
  rg_seq (rg_asgV h hf hc0 hi h0 hc) fun ρ1 c1 z => by
    obtain ⟨d, hd, rfl, rfl⟩ := z
    exact h2 d hd
/-- xs.pop(drawn) as a statement -/
theorem rg_popE (hc0 : c 0 = none) (hc : c m = some ds) (hl : ds.length ≤ 100000) (h : EvB n te (vwC c 0 ρ) k (fun d => ∃ j : Nat, d = .int (j : Int) ∧ j < ds.length)) : RG n (tDrop (tBM K "list" rPopAt (tVar m) (tCons te tNil))) ρ c k (fun ρ' c' => ∃ j : Nat, j < ds.length ∧ ρ' = ρ ∧ c' = c.put m (ds.eraseIdx j)) S := fun O p cnt H0 D σ H hn ⟨P, al, s⟩ hcc q r => by
  obtain ⟨m1, ⟨xs, hx, _⟩, _⟩ := s.m.at_ m ds hc
  refine ⟨_, m1, ty_lst hx, h O p cnt σ H hn (s.sbV hc0) hcc _ fun v d H1 hd e1 b1 d1 => ?_⟩
  obtain ⟨j, rfl, hj⟩ := hd
  cases d1
  have s1 := s.step e1 b1
  obtain ⟨_, ⟨ys, hy, dy⟩, _⟩ := s1.m.at_ m ds hc
  have ly : j < ys.length := by rw [dy.length]; exact hj
  refine ⟨al m, ys, (j : Int), j, ys[j], rfl, rfl, hy, by omega, by omega, sIdx_nat ly, List.getElem?_eq_getElem ly, ?_⟩
  exact q ρ _ σ _ ⟨j, hj, rfl, rfl⟩ hn ⟨P, al, s1.other hc (dy.eraseAt j)⟩
/-- found.append(pool.pop(drawn)): of scalars -/
theorem rg_move {m2 : Nat} (hc0 : c 0 = none) (hm : m2 ≠ m) (hc : c m = some ds) (hc2 : c m2 = some es) (hl : ds.length ≤ 100000) (hl2 : es.length ≤ 100000) (hf : ∀ d, d ∈ ds → isFlat d = true) (h : EvB n te (vwC c 0 ρ) k (fun d => ∃ j : Nat, d = .int (j : Int) ∧ j < ds.length)) :
    RG n (tDrop (tBM K "list" rAppend (tVar m2) (tCons (tBM K "list" rPopAt (tVar m) (tCons te tNil)) tNil))) ρ c k (fun ρ' c' => ∃ (j : Nat) (x : PyData), ds[j]? = some x ∧ ρ' = ρ ∧ c' = (c.put m (ds.eraseIdx j)).put m2 (es ++ [x])) S := fun O p cnt H0 D σ H hn ⟨P, al, s⟩ hcc q r => by
  obtain ⟨m1, ⟨xs, hx, _⟩, _⟩ := s.m.at_ m ds hc
  obtain ⟨n1, ⟨us, hu, _⟩, _⟩ := s.m.at_ m2 es hc2
  refine ⟨_, n1, ty_lst hu, _, m1, ty_lst hx, h O p cnt σ H hn (s.sbV hc0) hcc _ fun v d H1 hd e1 b1 d1 => ?_⟩
  obtain ⟨j, rfl, hj⟩ := hd
  cases d1
  have s1 := s.step e1 b1
  obtain ⟨_, ⟨ys, hy, dy⟩, _⟩ := s1.m.at_ m ds hc
  have ly : j < ys.length := by rw [dy.length]; exact hj
  obtain ⟨x, hx1, hx2⟩ := dy.getV (List.getElem?_eq_getElem ly)
  refine ⟨al m, ys, (j : Int), j, ys[j], rfl, rfl, hy, by omega, by omega, sIdx_nat ly, List.getElem?_eq_getElem ly, ?_⟩
  have s2 := s1.other hc (dy.eraseAt j)
  have hc3 : (c.put m (ds.eraseIdx j)) m2 = some es := (if_neg hm).trans hc2
  obtain ⟨_, ⟨zs, hz, dz⟩, _⟩ := s2.m.at_ m2 es hc3
  refine ⟨al m2, zs, ys[j], rfl, rfl, hz, Nat.lt_of_le_of_lt (show zs.length ≤ 100000 by have q := dz.length; omega) (by decide), ?_⟩
  exact q ρ _ σ _ ⟨j, x, hx1, rfl, rfl⟩ hn ⟨P, al, s2.other hc3 (dz.append (.cons (flat_dq hx2 (hf x (List.mem_of_getElem? hx1))) .nil))⟩
end
end DL
namespace DL
open PySem L2 Evl PyProof.Rows TL RZ
section
variable {O : List Addr} {n : Nat} {ρ : Rho} {te : TE} {x : PyData} {ds : List PyData} {K : PySem.W.Frag}
/-- list(xs), a new one -/
theorem ef_list (h : EvD O n te ρ x) (hs : SeqD x ds) : EvF O n (tCB (rListOf K) (tCons te tNil)) ρ ds := fun σ H hn s Q q =>
  h σ H hn s _ fun v H1 e1 d1 => by
    obtain ⟨p, ys, rfl, h1, h2⟩ := seq_rd (K := K) hs d1
    exact ⟨p, ys, rfl, h1, fun l hl => q l ys H1 e1 hl h2⟩
end
end DL
/-! DPP: two names at once, one of them a new list. -/
namespace DL
open PySem L2 Evl PyProof.Rows TL RZ
section
variable {O : List Addr} {n m i j k k1 k2 : Nat} {ρ ρ' : Rho} {c c' : Own} {ds es : List PyData} {d x y : PyData} {te ta ti tj : TE} {t u : TS} {K : PySem.W.Frag} {S S1 : PyData → Prop} {T : Rho → Own → Prop}
/-- xs, i = list(..), e -/
theorem rm_parF (h1 : ∀ P, EvF P n ta ρ ds) (h : ∀ P, EvD P n te ρ d) (hm : m < n) (hi : i < n) (hr : m < ρ.length) (hc : c m = none) (hci : c i = none) (hmi : m ≠ i) : RunM O n (tPar m i (tCons ta (tCons te tNil))) ρ c ((ρ.set m none).set i (some d)) (c.put m ds) := fun H0 D σ H hn ⟨P, al, s⟩ k =>
  h1 P σ H hn s.sd _ fun p xs H1 e1 np d1 => by
    have s0 := s.step e1
    have s1 := s0.own (xs := xs) (ds := ds) np d1 (by rw [hn]; exact hm) hr hc
    have sd1 : SD (p :: P) (upd H1 p (.lst xs)) σ ρ := s0.sd.more (Ex.new np) np upd_same
    refine h (p :: P) σ _ hn sd1 _ fun v H2 e2 d2 => ?_
    refine ⟨_, _, rfl, k _ H2 (by rw [List.length_set, List.length_set]; exact hn) ⟨_, _, (s1.step e2).put d2 (by rw [List.length_set, hn]; exact hi) ?_⟩⟩
    simp [Own.put, Ne.symm hmi, hci]
/-- i, xs = drawn, list(..) -/
theorem rg_parO (h : EvB n te ρ k1 S1) (h1 : ∀ d, S1 d → ∀ P, EvF P n ta ρ ds) (hm : m < n) (hi : i < n) (hr : m < ρ.length) (h0 : i ≠ 0) (hm0 : m ≠ 0) (hc : c m = none) (hci : c i = none) (hmi : m ≠ i) (h2 : ∀ d, S1 d → RG n u ((ρ.set i (some d)).set m none) (c.put m ds) k2 T S) : RG n (tSeq (tPar i m (tCons te (tCons ta tNil))) u) ρ c (k1 + k2) T S := fun O p cnt H0 D σ H hn ⟨P, al, s⟩ hcc q r =>
  h P p cnt σ H hn s.sb (by omega) _ fun v d H1 hd e1 b1 d1 => by
    have s1 := s.step e1 b1
    refine h1 d hd P σ H1 hn s1.m.sd _ fun l xs H2 e2 nl d2 => ?_
    have s2 := (s1.stepX e2).put (d1.mono (Ex.o P e2)) (by rw [hn]; exact hi) h0 hci
    refine ⟨_, _, rfl, ?_⟩
    exact h2 d hd O p (cnt + k1) H0 D _ _ (by rw [List.length_set, List.length_set]; exact hn) ⟨_, _, s2.own nl d2 (by rw [List.length_set, hn]; exact hm) (by rw [List.length_set]; exact hr) hm0 hc⟩ (by omega) (fun ρ2 c2 σ2 H2 hT l2 s2 => q ρ2 c2 σ2 H2 hT l2 (by rw [← Nat.add_assoc]; exact s2)) fun v d H2 hd e2 b2 d2 => r v d H2 hd e2 (by rw [← Nat.add_assoc]; exact b2) d2
end
end DL
/-! DNW: defs whose answer is a new list. -/
namespace DL
open PySem L2 Evl PyProof.Rows TL RZ
/-- a def's promise: the answer is a list that nothing else holds -/
def spF (R : List PyData → List PyData → Prop) : Sp := fun vs H Q _ => ∃ (O : List Addr) (ds es : List PyData), (∀ a, a ∈ O → H a ≠ none) ∧ DqAll (sub H O) vs ds ∧ R ds es ∧ ∀ p xs H', Ex H H' → H' p = none → DqAll (sub H' O) xs es → Q (.ref p) (upd H' p (.lst xs))
section
variable (O : List Addr)
def RunRF (n : Nat) (t : TS) (ρ : Rho) (es : List PyData) : Prop := ∀ (D : Ends) (σ : L2.St) (H : Hp), σ.length = n → SD O H σ ρ →
  (∀ p xs H', Ex H H' → H' p = none → DqAll (sub H' O) xs es → D.rt (.ref p) (upd H' p (.lst xs))) → t D σ H
end
section
variable {O : List Addr} {n : Nat} {ρ ρ1 : Rho} {te : TE} {tt : TT} {wi : TI} {g : TG} {vs : List Nat} {ds es zs : List PyData} {t u : TS} {R : List PyData → List PyData → Prop} {E : XK} {tr tk : TA} {K : PySem.W.Frag}
theorem rrf_ret (h : EvF O n te ρ es) : RunRF O n (tRet te) ρ es := fun D σ H hn s k => h σ H hn s _ k
theorem rrf_seq (h1 : RunN O n t ρ ρ1) (h2 : RunRF O n u ρ1 es) : RunRF O n (tSeq t u) ρ es := fun D σ H hn s k =>
  h1 _ σ H hn s fun σ1 H1 hn1 e1 s1 => h2 D σ1 H1 hn1 s1 fun p xs H2 e2 np d => k p xs H2 (e1.trans e2) np d
theorem ed_ef (h : EvF O n te ρ es) : EvD O n te ρ (.list es) := fun σ H hn s Q q =>
  h σ H hn s _ fun p xs H1 e1 np d1 => q _ _ (e1.trans (Ex.new np)) (.lst (sub_mk upd_same (not_own (own_ex e1 s.own) np)) (d1.mono (Ex.o O (Ex.new np))))
theorem ef_callF (h : EvDA O n tr ρ ds) (hR : R ds es) : EvF O n (tCall (spF R) [] E tr) ρ es := fun σ H hn s Q q =>
  h σ H hn s _ fun vs H1 e1 d1 => ⟨O, ds, es, own_ex e1 s.own, by rw [List.append_nil]; exact d1, hR, fun p xs H2 e2 np d2 => q p xs H2 (e1.trans e2) np d2⟩
theorem ed_callF (h : EvDA O n tr ρ ds) (hR : R ds es) : EvD O n (tCall (spF R) [] E tr) ρ (.list es) := ed_ef (ef_callF h hR)
theorem ed_callFN {m : Nat} {gV : List V → List V → List V} (h : EvDA O n tk ρ zs) (hm : zs.length = m) (hg : ∀ (H : Hp) (vs : List V), DqAll H vs zs → DqAll H (gV [] vs) ds) (hR : R ds es) : EvD O n (tCallN 0 m (spF R) gV E tNil tk) ρ (.list es) := fun σ H hn s Q q =>
  h σ H hn s _ fun vs H1 e1 d1 => ⟨rfl, by rw [d1.length]; exact hm, O, ds, es, own_ex e1 s.own, hg _ _ d1, hR, fun p xs H2 e2 np d2 => q _ _ ((e1.trans e2).trans (Ex.new np)) (.lst (sub_mk upd_same (not_own (own_ex (e1.trans e2) s.own) np)) (d2.mono (Ex.o O (Ex.new np))))⟩
theorem ef_lcF (f : Nat → List PyData) (hf : f 0 = []) (hlen : ∀ i, i < ds.length → (f i).length < 100000) (hw : IterD O n wi ρ ds)
    (h : ∀ D i d, ds[i]? = some d → ∃ ρ' b, TgD (D :: O) n vs g (wipeR ρ vs) d ρ' ∧ EvDT (D :: O) n tt ρ' b ∧ (b = true → ∃ e, EvD (D :: O) n te ρ' e ∧ f (i + 1) = f i ++ [e]) ∧ (b = false → f (i + 1) = f i)) :
    EvF O n (tLc wi g tt te vs) ρ (f ds.length) := fun σ H hn s Q q => hw σ H hn s _ fun J H1 G Y e1 W g1 gk yk => by
  intro D hD
  have lw : (L2.wipe σ vs).length = n := by rw [L2.wipe_length]; exact hn
  have s1 := s.ex e1
  refine lc_it (W (D :: O)) (fun i H2 => ∃ acc, H2 D = some (.lst acc) ∧ DqAll (sub H2 (D :: O)) acc (f i) ∧ Ex H1 H2) ⟨[], upd_same, by rw [hf]; exact DqAll.nil, Ex.new hD⟩ ?_ ?_ ?_
  · rintro i H2 _ ⟨acc, _, _, k2⟩
    exact gk _ _ _ _ g1 (ex_more k2 hD)
  · rintro i x H2 H3 hi ⟨acc, hA, hd, k2⟩ y
    have s2 : SD (D :: O) H2 σ ρ := s1.more k2 hD hA
    obtain ⟨e3, d, hdi, hx⟩ := yk (D :: O) i H2 x H3 hi s2.own (gk _ _ _ _ g1 (ex_more k2 hD)) y
    obtain ⟨ρ', b, ht, htt, hte, hsk⟩ := h D i d hdi
    have s3 := (s2.ex e3).wipe vs
    refine ht (L2.wipe σ vs) H3 x lw s3 hx _ fun σ' hl' hc' s' => ⟨?_, ?_⟩
    · have ew : L2.wipe (L2.wipe σ vs) vs = L2.wipe σ vs := by
        refine wipe_ext (by rw [L2.wipe_length]) fun i hi => L2.wipe_out hi
      rw [wipe_ext (by rw [hl', lw]) hc', ew]
    · refine htt σ' H3 hl' s' _ fun H4 e4 => ?_
      cases b with
      | false =>
        rw [if_neg Bool.false_ne_true]
        refine ⟨acc, e4 _ _ (e3 _ _ hA), ?_, (k2.trans e3).trans e4⟩
        rw [hsk rfl]
        exact hd.mono (Ex.o _ (e3.trans e4))
      | true =>
        rw [if_pos rfl]
        obtain ⟨e, he, hfe⟩ := hte rfl
        refine he σ' H4 hl' (s'.ex e4) _ fun y H5 e5 d5 => ⟨acc, e5 _ _ (e4 _ _ (e3 _ _ hA)), ?_, ?_⟩
        · have q1 := hd.length
          have q2 := hlen i hi
          exact sz_lt (n := acc.length) (Nat.lt_of_le_of_lt (Nat.le_of_eq q1) q2)
        · refine ⟨_, upd_same, ?_, Ex.mut (((k2.trans e3).trans e4).trans e5) hD⟩
          rw [sub_upd (List.mem_cons_self ..), hfe]
          exact (hd.mono (Ex.o _ ((e3.trans e4).trans e5))).append (.cons d5 .nil)
  · rintro H2 ⟨acc, hA, hd, k2⟩
    have nD : sub H2 [D] D = none := by
      cases z : sub H2 [D] D with
      | none => rfl
      | some o => exact absurd (List.mem_singleton.mpr rfl) (sub_of z).2
    have eU : upd (sub H2 [D]) D (.lst acc) = H2 := by
      funext a
      by_cases c : a = D
      · rw [c, upd_same, hA]
      · rw [upd_ne c]
        have na : a ∉ [D] := fun z => c (List.mem_singleton.mp z)
        cases z : H2 a with
        | some o => exact sub_mk z na
        | none =>
          cases z2 : sub H2 [D] a with
          | none => rfl
          | some o =>
            have := (sub_of z2).1
            rw [z] at this
            cases this
    have e2 : Ex H (sub H2 [D]) := fun a o ha => by
      have h1 := e1 a o ha
      refine sub_mk (k2 a o h1) fun z => ?_
      rw [List.mem_singleton.mp z, hD] at h1
      cases h1
    have d2 : DqAll (sub (sub H2 [D]) O) acc (f ds.length) := hd.mono fun a o ha => by
      obtain ⟨h1, h2⟩ := sub_of ha
      exact sub_mk (sub_mk h1 fun z => h2 (by rw [List.mem_singleton.mp z]; exact List.mem_cons_self)) fun z => h2 (List.mem_cons_of_mem _ z)
    have r := q D acc (sub H2 [D]) e2 nD d2
    rw [eU] at r
    exact r
theorem ef_lcFM {α : Type} {l : List α} {e1 e2 : α → PyData} {p : α → Bool} (hw : IterD O n wi ρ (l.map e1)) (hl : l.length ≤ 100000)
    (h : ∀ D a, a ∈ l → ∃ ρ', TgD (D :: O) n vs g (wipeR ρ vs) (e1 a) ρ' ∧ EvDT (D :: O) n tt ρ' (p a) ∧ (p a = true → EvD (D :: O) n te ρ' (e2 a))) :
    EvF O n (tLc wi g tt te vs) ρ ((l.filter p).map e2) := by
  have q := ef_lcF (O := O) (n := n) (ρ := ρ) (te := te) (tt := tt) (wi := wi) (g := g) (vs := vs) (ds := l.map e1) (fun i => ((l.take i).filter p).map e2) rfl (fun i hi => by
    rw [List.length_map] at hi
    rw [List.length_map]
    have q1 := List.length_filter_le p (l.take i)
    rw [List.length_take] at q1
    omega) hw (fun D i d hd => by
    rw [List.getElem?_map] at hd
    cases ha : l[i]? with
    | none => rw [ha] at hd; cases hd
    | some a =>
      rw [ha] at hd
      cases hd
      obtain ⟨ρ', h1, h2, h3⟩ := h D a (List.mem_of_getElem? ha)
      have e : l.take (i + 1) = l.take i ++ [a] := take_snoc ha
      refine ⟨ρ', p a, h1, h2, fun z => ⟨e2 a, h3 z, ?_⟩, fun z => ?_⟩
      · show ((l.take (i + 1)).filter p).map e2 = _
        rw [e, List.filter_append, List.map_append]
        simp [z]
      · show ((l.take (i + 1)).filter p).map e2 = _
        rw [e, List.filter_append, List.map_append]
        simp [z])
  rw [List.length_map, List.take_length] at q
  exact q
end
section
variable {P : Program} {w : World} {K : PySem.W.Frag} {mg : Str → Option Value} {base : Heap}
theorem pure_okF {R : List PyData → List PyData → Prop} {x qual : Str} {st : Stmt} {f : Addr} {fd : FuncData} {N ps : List Str} {k : Nat} (F : Fun K x qual st f fd) (S : FnScope N ps (defScope st)) (hl : ∀ ds es, R ds es → ds.length = ps.length) (hp : ps.length ≤ N.length)
    (body : ∀ (cdv : Value) (A : Around) (outer : List Env) (s : Shared) (H : Hp) (E : XK), Room k (A.deeper (envOfC qual (defScope st) s.heap.objs.size f cdv)) →
      ∃ t, PSs (cxOf CX0 P w K mg base N qual (defScope st) f cdv A outer s H E).nox (defBody st) t ∧ ∀ O ds es, R ds es → RunRF O N.length t (argR N ds) es) : FnOk P w K mg base CX0 (k + 1) f fd ps (spF R) := by
  refine F.ok S (fun vs H Q E h => ?_) (fun cdv A outer s H vs Q E hr h => ?_)
  · obtain ⟨O, ds, es, _, hd, hR, _⟩ := h
    rw [hd.length]
    exact hl ds es hR
  · obtain ⟨t, ht, hb⟩ := body cdv A outer s H E hr
    obtain ⟨O, ds, es, ho, hd, hR, q⟩ := h
    exact ⟨t, ht, hb O ds es hR _ (L2.start N vs) H (start_len (by rw [hd.length, hl ds es hR]; exact hp)) (sd_start ho hd) q⟩
end
end DL
/-! DPQ: three names at once, drawn, of what own lists hold. -/
namespace DL
open PySem L2 Evl PyProof.Rows TL RZ
theorem dI_erase : ∀ (l : List Int) (i : Nat), (dI l).eraseIdx i = dI (l.eraseIdx i)
  | [], _ => rfl
  | a :: l, 0 => rfl
  | a :: l, i + 1 => by
    show PyData.int a :: (dI l).eraseIdx i = _
    rw [dI_erase l i]
    rfl
section
variable {n m i j l k k1 k2 : Nat} {ρ : Rho} {c : Own} {tr : TA} {u : TS} {S : PyData → Prop} {T : Rho → Own → Prop}
theorem rg_par3V {A : List PyData → Prop} (h : EvBA n tr (vwC c 0 ρ) k1 A) (hA : ∀ ds, A ds → ∃ x y z, ds = [x, y, z] ∧ isFlat x = true ∧ isFlat y = true ∧ isFlat z = true) (hc0 : c 0 = none) (hi : i < n) (hj : j < n) (hl : l < n) (h0 : i ≠ 0) (h1 : j ≠ 0) (h3 : l ≠ 0) (ci : c i = none) (cj : c j = none) (cl : c l = none)
    (h2 : ∀ x y z, A [x, y, z] → RG n u (((ρ.set i (some x)).set j (some y)).set l (some z)) c k2 T S) : RG n (tSeq (tPar3 i j l tr) u) ρ c (k1 + k2) T S := fun O p cnt H0 D σ H hn ⟨P, al, s⟩ hcc q r =>
  h O p cnt σ H hn (s.sbV hc0) (by omega) _ fun vs ds H1 hd e1 b1 d1 => by
    obtain ⟨x, y, z, rfl, f1, f2, f3⟩ := hA ds hd
    cases d1 with
    | cons a1 r1 =>
      cases r1 with
      | cons a2 r2 =>
        cases r2 with
        | cons a3 r3 =>
          cases r3
          refine ⟨_, _, _, rfl, ?_⟩
          exact h2 x y z hd O p (cnt + k1) H0 D _ H1 (by rw [List.length_set, List.length_set, List.length_set]; exact hn) ⟨P, al, (((s.step e1 b1).put (flat_dq a1 f1) (by rw [hn]; exact hi) h0 ci).put (flat_dq a2 f2) (by rw [List.length_set, hn]; exact hj) h1 cj).put (flat_dq a3 f3) (by rw [List.length_set, List.length_set, hn]; exact hl) h3 cl⟩ (by omega) (fun ρ2 c2 σ2 H2 hT l2 s2 => q ρ2 c2 σ2 H2 hT l2 (by rw [← Nat.add_assoc]; exact s2)) fun v d H2 hd e2 b2 d2 => r v d H2 hd e2 (by rw [← Nat.add_assoc]; exact b2) d2
end
end DL
/-! DWH: a while amid own lists; new lists of all items. -/
namespace DL
open PySem L2 Evl PyProof.Rows TL RZ
section
variable {O : List Addr} {n m i j : Nat} {ρ : Rho} {c : Own} {ds es : List PyData} {te : TE} {tt : TT} {t tb : TS} {wi : TI} {g : TG} {vs : List Nat}
theorem rm_while {k : Nat} (R : Nat → Rho × Own) (h0 : R 0 = (ρ, c)) (ht : ∀ i, i ≤ k → EvDT O n tt (vwC (R i).2 0 (R i).1) (decide (i < k))) (hs : ∀ i, i < k → RunM O n tb (R i).1 (R i).2 (R (i + 1)).1 (R (i + 1)).2) :
    RunM O n (tWhile tt tb) ρ c (R k).1 (R k).2 := fun H0 D σ H hn s kk => by
  refine ⟨fun w σ2 H2 => ∃ i, w = k - i ∧ i ≤ k ∧ σ2.length = n ∧ SDX O H0 (R i).2 H2 σ2 (R i).1, ⟨k, 0, rfl, Nat.zero_le _, hn, by rw [h0]; exact s⟩, ?_⟩
  rintro w σ2 H2 ⟨i, rfl, hi, l2, P, al, s2⟩
  refine ht i hi σ2 H2 l2 s2.view _ fun H3 e3 => ?_
  by_cases c : i < k
  · rw [decide_eq_true c]
    refine iteT ⟨fun σ' H' => ∃ i', i' = i + 1 ∧ σ'.length = n ∧ SDX O H0 (R i').2 H' σ' (R i').1, ?_, ?_⟩
    · rintro σ' H' ⟨i', rfl, l', s'⟩
      exact ⟨k - (i + 1), by omega, i + 1, rfl, by omega, l', s'⟩
    · exact hs i c H0 _ σ2 H3 l2 ⟨P, al, s2.step e3⟩ fun σ4 H4 l4 s4 => ⟨i + 1, rfl, l4, s4⟩
  · rw [decide_eq_false c]
    have e : i = k := by omega
    subst e
    exact iteF (kk σ2 H3 l2 ⟨P, al, s2.step e3⟩)
theorem et_yes : EvDT O n tYes ρ true := fun σ H hn s Q q => q H (Ex.refl H)
theorem ef_lcM {α β : Type} {e1 : α → PyData} {e2 : β → PyData} {f : α → β} {l : List α} (hw : IterD O n wi ρ (l.map e1)) (hl : l.length ≤ 100000)
    (h : ∀ D a, a ∈ l → ∃ ρ', TgD (D :: O) n vs g (wipeR ρ vs) (e1 a) ρ' ∧ EvD (D :: O) n te ρ' (e2 (f a))) : EvF O n (tLc wi g tYes te vs) ρ ((l.map f).map e2) := by
  have q := ef_lcFM (O := O) (n := n) (ρ := ρ) (te := te) (tt := tYes) (wi := wi) (g := g) (vs := vs) (l := l) (e1 := e1) (e2 := fun a => e2 (f a)) (p := fun _ => true) hw hl fun D a ha => by
    obtain ⟨ρ', h1, h2⟩ := h D a ha
    exact ⟨ρ', h1, et_yes, fun _ => h2⟩
  rw [List.filter_eq_self.mpr fun _ _ => rfl] at q
  rw [List.map_map]
  exact q
end
end DL
/-! DTU: tuple(range(a, b)); a new list beside another value in a tuple that is taken apart; xs[0] = xs[0] + xs.pop(). -/
namespace DL
open PySem L2 Evl PyProof.Rows TL RZ
section
variable {O : List Addr} {n m i j : Nat} {ρ : Rho} {c : Own} {ds es : List PyData} {d : PyData} {te ta tb : TE} {K : PySem.W.Frag}
theorem ed_tupRg2 {a b : Int} (ha : EvD O n ta ρ (.int a)) (hb : EvD O n tb ρ (.int b)) (h1 : -1000000 ≤ a ∧ a ≤ 1000000) (h2 : -1000000 ≤ b ∧ b ≤ 1000000) : EvD O n (tTupRg (tRg2 ta tb)) ρ (.tuple (dI ((List.range (b - a).toNat).map fun k : Nat => a + (k : Int)))) := fun σ H hn s Q q => ha σ H hn s _ fun v H1 e1 d1 => by
  cases d1
  refine hb σ H1 hn (s.ex e1) _ fun v2 H2 e2 d2 => ?_
  cases d2
  refine ⟨_, _, rfl, rfl, ⟨by omega, by omega, by omega, by omega, by omega⟩, fun p np => ?_⟩
  refine q _ _ ((e1.trans e2).trans (Evl.Ex.new np)) (.tup (sub_mk upd_same (not_own (own_ex e2 (own_ex e1 s.own)) np)) ?_)
  have e : rgV a b = ((List.range (b - a).toNat).map fun k : Nat => a + (k : Int)).map V.int := by
    unfold rgV
    rw [List.map_map]
    rfl
  rw [e]
  exact dq_ints _
/-- x, xs = e, [] : as a tuple that is taken apart -/
theorem rm_tupF (h : ∀ P, EvD P n te ρ d) (hm : m < n) (hi : i < n) (hr : m < ρ.length) (hc : c m = none) (hci : c i = none) (hmi : m ≠ i) : RunM O n (tAsg (tTup (tCons te (tCons (tLst tNil) tNil))) (gTup K 2 (gCons (gName i) (gCons (gName m) gNil)))) ρ c ((ρ.set i (some d)).set m none) (c.put m []) := fun H0 D σ H hn ⟨P, al, s⟩ k =>
  h P σ H hn s.sd _ fun v H1 e1 d1 => by
    refine ⟨(by show 0 ≤ sizeLine; decide), fun p np => ?_⟩
    refine ⟨(by show 2 ≤ sizeLine; decide), fun q nq => ?_⟩
    have s1 := (s.step e1).put d1 (by rw [hn]; exact hi) hci
    have s2 := s1.own (xs := []) (ds := []) np .nil (by rw [List.length_set, hn]; exact hm) (by rw [List.length_set]; exact hr) hc
    have e3 : Ex (upd H1 p (.lst [])) (upd (upd H1 p (.lst [])) q (.tup [v, .ref p])) := Ex.new nq
    refine ⟨q, _, rfl, st_of upd_same, rfl, _, _, rfl, _, _, rfl, rfl, ?_⟩
    exact k _ _ (by rw [List.length_set, List.length_set]; exact hn) ⟨_, _, s2.step e3⟩
theorem dI_atU {ns : List Int} {i : Nat} (h : i < ns.length) : (dI ns)[i]? = some (.int (ns.getD i 0)) := by
  unfold dI
  rw [List.getElem?_map, List.getD_eq_getElem?_getD, List.getElem?_eq_getElem h]
  rfl
/-- xs[0] = xs[0] + xs.pop() -/
theorem rl_addPop {ns : List Int} (h2 : 2 ≤ ns.length) : RunL O n m (tAsg (tOp (rI0 fun i j => .int (i + j)) (tOp (rIxL K) (tVar m) (tC (.int 0))) (tBM0 K "list" rPop (tVar m))) (gSub (tVar m) (tC (.int 0)) rSetL)) ρ (dI ns) ρ (dI (ns.dropLast.set 0 (ns.getD 0 0 + ns.getD (ns.length - 1) 0))) := fun L D σ H hn s k => by
  have hb := (List.getElem?_eq_some_iff.mp s.free).1
  have v0 : EvD O n (tOp (rIxL K) (tVar m) (tC (.int 0))) (vw ρ m (dI ns)) (.int (ns.getD 0 0)) := ed_op (ed_var (by
    show (List.set ρ m _)[m]? = _
    rw [List.getElem?_set_self hb])) (ed_int (i := ((0 : Nat) : Int))) (rd_ixL (dI_atU (by omega)))
  refine v0 σ H hn s.view _ fun v H1 e1 d1 => ?_
  cases d1
  have s1 := s.step e1
  obtain ⟨xs, hx, dx⟩ := s1.at_
  have ex := ints_dq dx
  subst ex
  have lx : (ns.map V.int).length = ns.length := List.length_map ..
  have last : (ns.map V.int)[(ns.map V.int).length - 1]? = some (.int (ns.getD (ns.length - 1) 0)) := by
    rw [lx, List.getElem?_map, List.getD_eq_getElem?_getD, List.getElem?_eq_getElem (show ns.length - 1 < ns.length by omega)]
    rfl
  refine ⟨_, s1.slot, ty_lst hx, L, _, _, rfl, rfl, hx, last, ?_⟩
  refine ⟨_, _, rfl, rfl, ?_⟩
  have flat : ∀ l : List Int, (dI l).all isFlat = true := fun l => by
    rw [List.all_eq_true]
    intro y hy
    obtain ⟨a, _, rfl⟩ := List.mem_map.mp hy
    rfl
  have s2 := s1.other (xs := (ns.map V.int).dropLast) (es := dI ns.dropLast) (by
    have e : (ns.map V.int).dropLast = ns.dropLast.map V.int := by rw [List.map_dropLast]
    rw [e]
    exact dq_ints _) (flat _)
  have ld : (ns.map V.int).dropLast.length = ns.length - 1 := by rw [List.length_dropLast, lx]
  refine ⟨_, s1.slot, L, (ns.map V.int).dropLast, 0, 0, rfl, rfl, upd_same, ixN_nat (j := 0) (by omega), ?_⟩
  refine k σ _ hn (((Ex.o [L] e1).trans (ExO.upd (List.mem_singleton.mpr rfl))).trans (ExO.upd (List.mem_singleton.mpr rfl))) (s2.other ?_ (flat _))
  have e : ((ns.map V.int).dropLast.set 0 (.int (ns.getD 0 0 + ns.getD (ns.length - 1) 0))) = (ns.dropLast.set 0 (ns.getD 0 0 + ns.getD (ns.length - 1) 0)).map V.int := by
    rw [List.map_set, List.map_dropLast]
  rw [e]
  exact dq_ints _
end
end DL
/-! DWG: while amid draws; x, xs = e, [] amid draws; a def that answers to two kinds of arguments. -/
namespace DL
open PySem L2 Evl PyProof.Rows TL RZ
theorem fn_or {P : Program} {w : World} {K : PySem.W.Frag} {mg : Str → Option Value} {base : Heap} {k : Nat} {f : Addr} {fd : FuncData} {ps : List Str} {R1 R2 : List PyData → PyData → Prop}
    (h1 : FnOk P w K mg base CX0 k f fd ps (spD R1)) (h2 : FnOk P w K mg base CX0 k f fd ps (spD R2)) : FnOk P w K mg base CX0 k f fd ps (spD fun ds d => R1 ds d ∨ R2 ds d) := by
  refine ⟨fun vs H Q E h => ?_, fun A outer s H args us vs Q E hr hE hb hv h => ?_⟩
  · obtain ⟨O, ds, d, a1, a2, a3, a4⟩ := h
    rcases a3 with a3 | a3
    · exact h1.len vs H Q E ⟨O, ds, d, a1, a2, a3, a4⟩
    · exact h2.len vs H Q E ⟨O, ds, d, a1, a2, a3, a4⟩
  · obtain ⟨O, ds, d, a1, a2, a3, a4⟩ := h
    rcases a3 with a3 | a3
    · exact h1.run A outer s H args us vs Q E hr hE hb hv ⟨O, ds, d, a1, a2, a3, a4⟩
    · exact h2.run A outer s H args us vs Q E hr hE hb hv ⟨O, ds, d, a1, a2, a3, a4⟩
section
variable {n m i k k1 : Nat} {ρ ρ' : Rho} {c c' : Own} {d : PyData} {te : TE} {tt : TT} {tb u : TS} {K : PySem.W.Frag} {S : PyData → Prop} {T : Rho → Own → Prop}
/-- x, xs = e, [] -/
theorem rg_tupF (h : ∀ P, EvD P n te ρ d) (hm : m < n) (hi : i < n) (hr : m < ρ.length) (hm0 : m ≠ 0) (hi0 : i ≠ 0) (hc : c m = none) (hci : c i = none) (hmi : m ≠ i) (h2 : RG n u ((ρ.set i (some d)).set m none) (c.put m []) k T S) :
    RG n (tSeq (tAsg (tTup (tCons te (tCons (tLst tNil) tNil))) (gTup K 2 (gCons (gName i) (gCons (gName m) gNil)))) u) ρ c k T S := fun O p0 cnt H0 D σ H hn ⟨P, al, s⟩ hcc q0 r0 =>
  h P σ H hn s.m.sd _ fun v H1 e1 d1 => by
    refine ⟨(by show 0 ≤ sizeLine; decide), fun p np => ?_⟩
    refine ⟨(by show 2 ≤ sizeLine; decide), fun q nq => ?_⟩
    have s1 := (s.stepX e1).put d1 (by rw [hn]; exact hi) hi0 hci
    have s2 := s1.own (xs := []) (ds := []) np .nil (by rw [List.length_set, hn]; exact hm) (by rw [List.length_set]; exact hr) hm0 hc
    have e3 : Ex (upd H1 p (.lst [])) (upd (upd H1 p (.lst [])) q (.tup [v, .ref p])) := Ex.new nq
    refine ⟨q, _, rfl, st_of upd_same, rfl, _, _, rfl, _, _, rfl, rfl, ?_⟩
    exact h2 O p0 cnt H0 D _ _ (by rw [List.length_set, List.length_set]; exact hn) ⟨_, _, s2.stepX e3⟩ hcc q0 r0
/-- a while amid draws: M turns -/
theorem rg_while {M : Nat} (Iv : Nat → Rho → Own → Prop) (h0 : Iv 0 ρ c) (ht : ∀ i, i ≤ M → ∀ ρi ci, Iv i ρi ci → ∀ O, EvDT O n tt (vwC ci 0 ρi) (decide (i < M)))
    (hs : ∀ i, i < M → ∀ ρi ci, Iv i ρi ci → RG n tb ρi ci k1 (Iv (i + 1)) S) : RG n (tWhile tt tb) ρ c (M * k1) (Iv M) S := fun O p cnt H0 D σ H hn s hcc q r => by
  refine ⟨fun w σ2 H2 => ∃ i ρi ci, w = M - i ∧ i ≤ M ∧ σ2.length = n ∧ Iv i ρi ci ∧ SGX O p (cnt + i * k1) H0 ci H2 σ2 ρi, ⟨M, 0, ρ, c, rfl, Nat.zero_le _, hn, h0, by rw [Nat.zero_mul, Nat.add_zero]; exact s⟩, ?_⟩
  rintro w σ2 H2 ⟨i, ρi, ci, rfl, hi, l2, hI, P, al, s2⟩
  refine ht i hi ρi ci hI O σ2 H2 l2 s2.m.view _ fun H3 e3 => ?_
  have s3 := s2.stepX e3
  have mk : i * k1 ≤ M * k1 := Nat.mul_le_mul_right _ hi
  by_cases c : i < M
  · rw [decide_eq_true c]
    have mk2 : i * k1 + k1 ≤ M * k1 := by
      have q := Nat.mul_le_mul_right k1 (show i + 1 ≤ M by omega)
      rw [Nat.succ_mul] at q
      exact q
    refine iteT ⟨fun σ' H' => ∃ ρ' c', σ'.length = n ∧ Iv (i + 1) ρ' c' ∧ SGX O p (cnt + (i + 1) * k1) H0 c' H' σ' ρ', ?_, ?_⟩
    · rintro σ' H' ⟨ρ', c', l', hI', s'⟩
      exact ⟨M - (i + 1), by omega, i + 1, ρ', c', rfl, by omega, l', hI', s'⟩
    · refine hs i c ρi ci hI O p (cnt + i * k1) H0 _ σ2 H3 l2 ⟨P, al, s3⟩ (by omega) (fun ρ' c' σ' H' hI' l' s' => ?_) fun v d H' hd e b dd => ?_
      · refine ⟨ρ', c', l', hI', ?_⟩
        rw [Nat.succ_mul, ← Nat.add_assoc]
        exact s'
      · exact r v d H' hd e (b.mono (by omega)) dd
  · rw [decide_eq_false c]
    have e : i = M := by omega
    subst e
    exact iteF (q ρi ci σ2 H3 hI l2 ⟨P, al, s3⟩)
end
end DL
/-! DLO: len() of an object of an own class. -/
namespace PySem.W
open PySem
theorem lo_special {M : Model} {A : Around} {E : Value → Shared → Prop} {s : Shared} {K : Frag} {x C f : Addr} {ox : Obj} {od : Option Obj} {name : Str} {args : List Value} {Q : Option Value → Shared → Prop} (X : K.In s.heap) (I : InstAt s.heap x ox C od) (hs : findIn K (.ref C) name = some (some (.ref f))) (hf : isFn K (.ref f) = true)
    (h : wpAny M A (call (.ref f) (.ref x :: args)) (fun v => Q (some v)) E s) : wpAny M A (callSpecial? (.ref x) name args) Q E s := by
  unfold callSpecial?
  refine wpAny_bind (wpAny_bind (I.type.here ((looks_findIn X hs).here ?_)))
  have fin : wpAny M A (call (.ref f) ([.ref x] ++ args) >>= fun v => pure (some v)) Q E s := wpAny_bind (wpAny_mono h (fun v s' h' => wpAny_pure h') fun _ _ h' => h')
  exact wpAny_holding (wpAny_bind ((bind_fn X _ (beq_iff_eq.mp hf)).here fin))
end PySem.W
namespace DL
open PySem L2 Evl PyProof.Rows TL RZ
/-- what an own __len__ promises -/
def rLenO (C : Addr) (sp : Sp) (E : XK) : List V → Hp → VK → Prop := fun xs H Q => ∃ (a dx : Addr) (fs : List (Str × V)), xs = [.ref a] ∧ H a = some (.ins C dx fs) ∧ sp [.ref a] H (fun v H' => ∃ n : Nat, v = .int (n : Int) ∧ n < 1000000000 ∧ Q (.int (n : Int)) H') E
theorem call_lenO {X : Cx} {CX : CXT} {C f : Addr} {fd : FuncData} {ps : List Str} {n : Nat} {sp : Sp} {E : XK} (F : FnOk X.prog X.w X.K X.mg X.base CX n f fd ps sp) (hr : Room (n + 1) X.A)
    (hs : PySem.W.findIn X.K (.ref C) "__len__" = some (some (.ref f))) (hf : PySem.W.isFn X.K (.ref f) = true) (hb : Binds X.K fd ps []) (hx : Passes CX X E) : CallR X (.builtin "len") (rLenO C sp E) := by
  intro pins s σ H xs us Q I r h
  obtain ⟨a, dx, fs, rfl, ha, hsp⟩ := h
  obtain ⟨u, rfl, rx⟩ := vals1 r
  cases rx
  obtain ⟨mA, J, _⟩ := ins_get I.hok ha
  obtain ⟨od, J, _⟩ := J.look
  refine Calls.call_function_entry kind_len plain_len entry_len (args_len1 _) ?_
  unfold Builtin.«len»
  refine wpAny_bind (m := oneArg "len" _) (wpAny_pure ?_)
  have e0 : Env0 X.prog X.w X.K X.mg X.base X.A.in1 X.stack s H := by
    have e := I.env0
    exact ⟨e.frames, e.mod, e.bs, e.bsz, e.funs, e.frf, e.hok, e.bare⟩
  have hl := F.len _ _ _ _ hsp
  have r2 : Vals [V.ref a] [Value.ref a] := .cons rfl .nil
  refine wpAny_bind (m := callSpecial? (.ref a) (Str.ofString "__len__")) (PySem.W.lo_special I.kIn J hs hf (wpAny_call (codeAny_mono (F.run X.A.in1 X.stack s H ⟨[.ref a], []⟩ [.ref a] [.ref a] _ E hr.in1 e0 (by
    have := hb s [.ref a] I.kIn (by simpa using hl)
    simpa using this) r2 hsp) fun r s' hq => ?_)))
  cases r with
  | error e => exact hx pins σ H s e s' I hq
  | ok fl =>
    cases fl with
    | ret w =>
      obtain ⟨z, H', I', rz, n, ez, hn, q⟩ := I.after hq
      subst ez
      obtain ⟨t, rfl⟩ := rz
      refine wpAny_bind (wpAny_holding (wpAny_pure ?_))
      refine wpAny_bind (wpAny_letGo ?_)
      show wpAny _ _ (if (n : Int) < 0 then _ else _) _ _ _
      rw [if_neg (by omega)]
      show wpAny _ _ (if (n : Int) ≥ 2 ^ 63 then _ else _) _ _ _
      rw [if_neg (by omega)]
      exact wpAny_bind (wpAny_mkInt (wpAny_pure ⟨_, rfl, ⟨.int (n : Int), H', I'.tok _, ⟨_, rfl⟩, q⟩⟩))
    | next => exact False.elim hq
    | brk => exact False.elim hq
    | cont => exact False.elim hq
theorem kLenO {X : Cx} {K : PySem.W.Frag} {mg : Str → Option Value} {P : Program} {w : World} {base : Heap} {C f : Addr} {fd : FuncData} {ps : List Str} {n : Nat} {sp : Sp} {E : XK} (F : FnOk X.prog X.w X.K X.mg X.base CX0 n f fd ps sp) (hr : Room (n + 1) X.A)
    (hs : PySem.W.findIn X.K (.ref C) "__len__" = some (some (.ref f))) (hf : PySem.W.isFn X.K (.ref f) = true) (hb : Binds X.K fd ps []) (hx : Passes CX0 X E) : CallR X (.builtin "len") (rLenO C sp E) := call_lenO F hr hs hf hb hx
section
variable {O : List Addr} {n : Nat} {ρ : Rho} {te : TE} {E : XK} {C : Addr} {ks : List (PyData × PyData)} {R : List PyData → PyData → Prop}
theorem ed_lenO {m : Nat} (h : EvD O n te ρ (obD C ks)) (hR : R [obD C ks] (.int (m : Int))) (hm : m < 1000000000) : EvD O n (tCB (rLenO C (spD R) E) (tCons te tNil)) ρ (.int (m : Int)) := fun σ H hn s Q q => h σ H hn s _ fun v H1 e1 d1 => by
  have d1' := d1
  obtain ⟨a, dx, fs, rfl, ha, k⟩ := dq_ob d1
  refine ⟨a, dx, fs, rfl, (sub_of ha).1, O, [obD C ks], .int (m : Int), own_ex e1 s.own, .cons d1' .nil, hR, fun v H2 e2 d2 => ?_⟩
  cases d2
  exact ⟨m, rfl, hm, q _ H2 (e1.trans e2) (.int _)⟩
end
end DL
namespace DL
open PySem PySem.W PySem.Calls L2 PyProof.Rows TL RZ
open Builtin.Float (FormatSpec parseFormatSpec)
/-! ### f"{n:b}" -/
def fBin : FormatSpec := { align := 62, type := some 98 }
theorem fBin_ok : parseFormatSpec (Str.ofString "b").cps.toList "int" 62 = .ok fBin := by kernel_rfl
def binS (i : Int) : Str := intField' fBin (decide (i < 0)) [] ((Nat.toDigits 2 i.natAbs).map fun c => (if (98 : Nat) == 88 then c.toUpper else c).toNat) [] 4
theorem bin_tl {i : Int} (h : 0 ≤ i) : (binS i).cps.toList = (Nat.toDigits 2 i.natAbs).map Char.toNat := by
  unfold binS intField' fBin
  have e : ¬ i < 0 := by omega
  simp [e]
theorem bin_meets {i : Int} {t : Tok} (hz : (binS i).length ≤ sizeLine) :
    ∀ u, Meets (Builtin.«int.__format__» ⟨[.int i t, .str (Str.ofString "b") u], []⟩) (fun _ R s => ∀ t' k, R (.ok (.ret (.str (binS i) t'))) { s with toks := k }) := by
  intro u
  apply KPc.meets_of
  intro prog w A s Q E k
  unfold Builtin.«int.__format__»
  refine wpAny_bind (wpAny_of_eq (a := (_, _)) rfl ?_)
  refine wpAny_bind (wpAny_of_eq (a := _) rfl ?_)
  kxf_if
  refine wpAny_bind (wpAny_typeNameOf (T := "str") (typeIs_str _ _ _) (by decide) fun _ => ?_)
  refine wpAny_bind (wpAny_of_eq (a := some _) rfl ?_)
  kxf_if
  kxf_if
  refine wpAny_bind (wpAny_typeNameOfCut_int ?_)
  rw [fBin_ok]
  (repeat kxf_if)
  refine KXf.ret_text (T := binS i) ?_ ?_ k
  · rfl
  · exact hz
def tBin (te ts : TE) : TE := fun σ H Q => te σ H fun x H1 => ∃ i : Int, x = .int i ∧ (binS i).length ≤ 100000 ∧ ts σ H1 fun y H2 => y = .str (Str.ofString "b") ∧ Q (.str (binS i)) H2
theorem pe_bin {X : Cx} {e se : Expr} {te ts : TE} {pos : Pos} (he : PE X e te) (hs : PE X se ts) : PE X (.FormattedValue e (-1) (some se) pos) (tBin te ts) := by
  refine ⟨fun pins s σ H Q I h => ?_⟩
  refine wpAny_FormattedValue_spec (thn (he.run pins s σ H _ I h) fun v s1 hv => ?_)
  obtain ⟨x, H1, I1, r1, i, rfl, hl, q⟩ := hv
  obtain ⟨t, rfl⟩ := r1
  refine thn (hs.run pins s1 σ H1 _ I1 q) fun v2 s2 hv2 => ?_
  obtain ⟨y, H2, I2, r2, rfl, q2⟩ := hv2
  obtain ⟨t2, rfl⟩ := r2
  refine ⟨_, _, rfl, ?_⟩
  exact KXf.field_int rfl (by decide +kernel) (by decide +kernel) (bin_meets (Nat.le_trans hl (by decide))) fun t' k => ⟨.str (binS i), H2, I2.tok _, ⟨_, rfl⟩, q2⟩
section
variable {O : List Addr} {n : Nat} {ρ : Rho} {te ts : TE}
theorem ed_bin {i : Int} (h : EvD O n te ρ (.int i)) (h2 : EvD O n ts ρ (.str (Str.ofString "b"))) (hl : (binS i).length ≤ 100000) : EvD O n (tBin te ts) ρ (.str (binS i)) := fun σ H hn s Q q => h σ H hn s _ fun v H1 e1 d1 => by
  cases d1
  refine ⟨i, rfl, hl, h2 σ H1 hn (s.ex e1) _ fun v2 H2 e2 d2 => ?_⟩
  cases d2
  exact ⟨rfl, q _ H2 (e1.trans e2) (.str _)⟩
/-- the signs of a text -/
def sigD (x : Str) : List PyData := x.cps.toList.map fun c => PyData.str ⟨#[c]⟩
theorem it_str {x : Str} (h : EvD O n te ρ (.str x)) : IterD O n (iStr te) ρ (sigD x) := fun σ H hn s R q => h σ H hn s _ fun v H1 e1 d1 => by
  cases d1
  have l : (sigD x).length = x.cps.size := by
    unfold sigD
    rw [List.length_map, Array.length_toList]
  refine ⟨x, rfl, q (Its x) H1 (fun _ _ => True) (fun i H v H' => H' = H ∧ ∃ c, x.cps[i]? = some c ∧ v = .str ⟨#[c]⟩) e1 (fun P => ?_) True.intro (fun _ _ _ _ _ _ => True.intro) ?_⟩
  · rw [l]
    exact walk_str.mono (fun _ _ => True.intro) fun i H2 x H3 hi _ y => y
  · rintro P i H2 v H3 hi _ _ ⟨rfl, c, hc, rfl⟩
    refine ⟨Evl.Ex.refl _, .str ⟨#[c]⟩, ?_, .str _⟩
    unfold sigD
    rw [List.getElem?_map, Array.getElem?_toList, hc]
    rfl
end
end DL
/-! DTM: tuple * int where the tuple itself comes back (an empty one, or once). -/
namespace L2
open PySem PySem.Spec PyProof.Rows
theorem tuple_mulS (l : Addr) (items : Array Value) (n : Nat) (sl : Array (Option Value)) (dd : Option Addr) (x : Int) (u : Tok) (c0 : (decide (x < -(2 ^ 63)) || decide (x ≥ 2 ^ 63)) = false) (c1 : (items.isEmpty || x == 1) = true) :
    Meets (Builtin.«tuple.__mul__» ⟨[.ref l, .int x u], []⟩) (fun _ R s => s.heap.get? l = some { cls := .type "tuple", dict := dd, data := .seq items n, slots := sl } ∧ R (.ok (.ret (Value.ref l))) s) :=
  .of_wp fun prog w A R s h => by
    obtain ⟨hp, g, d, tk, os⟩ := s
    obtain ⟨hl, h⟩ := h
    have f1 := AutoSeq1.idx_int
    wp_walk using wpAny_loadPart' hl
    repeat (first
      | (refine wpAny_ite_false (decide_eq_false (by rw [c0]; exact Bool.false_ne_true)) ?_; wp_walk using wpAny_loadPart' hl)
      | (refine wpAny_ite_true (decide_eq_true c1) ?_; wp_walk using wpAny_loadPart' hl))
    exact ⟨_, rfl, h⟩
def rRepU (K : PySem.W.Frag) : R2 := fun x y H Q => ∃ l k xs, x = .ref l ∧ y = .int k ∧ SqT K H l xs ∧ (xs = [] ∨ k = 1) ∧ 0 ≤ k ∧ k ≤ 1000 ∧ Q (.ref l) H
section
variable {X : Cx}
theorem op_repU : OpR X (binaryOp .Mult) (rRepU X.K) := by
  intro pins s σ H x y v u Q I rx ry h
  obtain ⟨l, k, xs, rfl, rfl, hT, hne, h1, h2, q⟩ := h
  cases rx
  obtain ⟨t, rfl⟩ := ry
  obtain ⟨its, r, ⟨⟨cls, dd, data, sl⟩, ho, hc, n, hd⟩, hs⟩ := I.tuple hT
  simp only at hc hd
  subst hc hd
  have hle : its.length = xs.length := r.length.symm
  have c0 : (decide (k < -(2 ^ 63)) || decide (k ≥ 2 ^ 63)) = false := by
    rw [decide_eq_false (by omega), decide_eq_false (by omega)] <;> rfl
  have c1 : (its.toArray.isEmpty || k == 1) = true := by
    rcases hne with rfl | rfl
    · cases its with
      | nil => rfl
      | cons a b => cases hle
    · rw [Bool.or_eq_true]
      exact .inr rfl
  refine wpAny_binaryOp_repeat_ref (T := "tuple") (U := "int") (by decide) ⟨_, ho, rfl⟩ (fun s' => typeIs_int s' k t) noFill_tuple_mul F.fills_int_mul F.slot_int_rmul repeat_tuple F.slot_int_index.lookup
    (call_meets F.slot_int_rmul (typeIs_int s k t) F.entry_int_rmul (F.args_int_rmul_2 _ _) (int_rmul_tuple k t l its.toArray n dd sl)
      ⟨ho, rfl, ⟨_, ho, rfl⟩, call_meets F.slot_tuple_mul ⟨_, ho, rfl⟩ F.entry_tuple_mul (F.args_tuple_mul_2 _ _) (tuple_mulS l its.toArray n sl dd k t c0 c1) ⟨ho, ?_⟩⟩)
  exact ⟨.ref l, H, I, rfl, q⟩
/-- both -/
def rRepA (K : PySem.W.Frag) : R2 := fun x y H Q => rRepT K x y H Q ∨ rRepU K x y H Q
theorem kRepA {K : PySem.W.Frag} (hK : X.K = K) : OpR X (binaryOp .Mult) (rRepA K) := by
  subst hK
  intro pins s σ H x y v u Q I rx ry h
  rcases h with h | h
  · exact op_repT pins s σ H x y v u Q I rx ry h
  · exact op_repU pins s σ H x y v u Q I rx ry h
end
end L2
namespace DL
open PySem L2 Evl PyProof.Rows TL RZ
theorem rd_repA {O : List Addr} {K : PySem.W.Frag} {xs : List PyData} {k : Int} (hl : xs.length ≤ 1000) (h1 : 1 ≤ k) (h2 : k ≤ 1000) : RD O (rRepA K) (.tuple xs) (.int k) (.tuple (List.replicate k.toNat xs).flatten) := by
  by_cases c : xs = [] ∨ k = 1
  · have e : (List.replicate k.toNat xs).flatten = xs := by
      rcases c with rfl | rfl
      · induction k.toNat with
        | zero => rfl
        | succ n ih => rw [List.replicate_succ, List.flatten_cons, ih]; rfl
      · simp
    rw [e]
    exact fun H v w ho a b Q q => by
      cases a with
      | tup a d =>
        cases b
        refine .inr ⟨_, k, _, rfl, rfl, st_of (sub_of a).1, ?_, by omega, h2, q _ H (Ex.refl H) (.tup a d)⟩
        rcases c with c | c
        · subst c
          cases d
          exact .inl rfl
        · exact .inr c
  · have c1 : xs ≠ [] := fun z => c (.inl z)
    have c2 : k ≠ 1 := fun z => c (.inr z)
    exact fun H v w ho a b Q q => .inl (rd_repT c1 hl (by omega) h2 H v w ho a b Q q)
end DL
/-! any(..) of a list of truths; tuple * n where n may be 0; draws in `and`, `or`; a for over a drawn list -/
namespace L2
open PySem PySem.Spec PyProof.Rows
theorem tuple_mulZ (l : Addr) (items : Array Value) (n : Nat) (sl : Array (Option Value)) (dd : Option Addr) (u : Tok) (c1 : (items.isEmpty || (0 : Int) == 1) = false) :
    Meets (Builtin.«tuple.__mul__» ⟨[.ref l, .int 0 u], []⟩) (fun _ R s => s.heap.get? l = some { cls := .type "tuple", dict := dd, data := .seq items n, slots := sl } ∧
      R (.ok (.ret (Value.ref s.heap.objs.size))) { s with heap := s.heap.push { cls := Value.type "tuple", data := Data.seq #[] }, toks := s.toks }) :=
  .of_wp fun prog w A R s h => by
    obtain ⟨hp, g, d, tk, os⟩ := s
    obtain ⟨hl, h⟩ := h
    have f1 := AutoSeq1.idx_int
    wp_walk using wpAny_loadPart' hl
    repeat (first
      | (refine wpAny_ite_false (decide_eq_false (by decide)) ?_; wp_walk using wpAny_loadPart' hl)
      | (refine wpAny_ite_false (decide_eq_false (by rw [c1]; exact Bool.false_ne_true)) ?_; wp_walk using wpAny_loadPart' hl)
      | (refine wpAny_ite_true (decide_eq_true rfl) ?_; wp_walk using wpAny_loadPart' hl))
    exact ⟨_, rfl, h⟩
def rRepZ (K : PySem.W.Frag) : R2 := fun x y H Q => ∃ l xs, x = .ref l ∧ y = .int 0 ∧ SqT K H l xs ∧ xs ≠ [] ∧ ∀ p, H p = none → Q (.ref p) (upd H p (.tup []))
section
variable {X : Cx}
theorem op_repZ : OpR X (binaryOp .Mult) (rRepZ X.K) := by
  intro pins s σ H x y v u Q I rx ry h
  obtain ⟨l, xs, rfl, rfl, hT, hne, q⟩ := h
  cases rx
  obtain ⟨t, rfl⟩ := ry
  obtain ⟨its, r, ⟨⟨cls, dd, data, sl⟩, ho, hc, n, hd⟩, hs⟩ := I.tuple hT
  simp only at hc hd
  subst hc hd
  have hle : its.length = xs.length := r.length.symm
  have c1 : (its.toArray.isEmpty || (0 : Int) == 1) = false := by
    cases its with
    | nil =>
      cases xs with
      | nil => exact absurd rfl hne
      | cons _ _ => cases hle
    | cons a b => rfl
  refine wpAny_binaryOp_repeat_ref (T := "tuple") (U := "int") (by decide) ⟨_, ho, rfl⟩ (fun s' => typeIs_int s' 0 t) noFill_tuple_mul F.fills_int_mul F.slot_int_rmul repeat_tuple F.slot_int_index.lookup
    (call_meets F.slot_int_rmul (typeIs_int s 0 t) F.entry_int_rmul (F.args_int_rmul_2 _ _) (int_rmul_tuple 0 t l its.toArray n dd sl)
      ⟨ho, rfl, ⟨_, ho, rfl⟩, call_meets F.slot_tuple_mul ⟨_, ho, rfl⟩ F.entry_tuple_mul (F.args_tuple_mul_2 _ _) (tuple_mulZ l its.toArray n sl dd t c1) ⟨ho, ?_⟩⟩)
  refine ⟨.ref s.heap.objs.size, _, I.laid (t' := s.toks) (o := .tup []) (fun b ob q => Heap.get?_push_of_some _ q) (Nat.le_refl _) ?_, rfl, q _ (I.hok.fresh (Nat.le_refl _))⟩
  exact ⟨by rw [sizeLine_eq]; exact Nat.zero_le _, [], .nil, IsTup.new _ _⟩
def rRepB (K : PySem.W.Frag) : R2 := fun x y H Q => rRepA K x y H Q ∨ rRepZ K x y H Q
theorem kRepB {K : PySem.W.Frag} (hK : X.K = K) : OpR X (binaryOp .Mult) (rRepB K) := by
  subst hK
  intro pins s σ H x y v u Q I rx ry h
  rcases h with h | h
  · exact kRepA rfl pins s σ H x y v u Q I rx ry h
  · exact op_repZ pins s σ H x y v u Q I rx ry h
end
end L2
namespace DL
open PySem L2 Evl PyProof.Rows TL RZ
section
variable {P : Program} {w : World} {K : PySem.W.Frag} {mg : Str → Option Value} {base : Heap} {X : Cx} {O : List Addr}
theorem rd_repB {xs : List PyData} {k : Int} (hn : xs ≠ []) (hl : xs.length ≤ 1000) (h1 : 0 ≤ k) (h2 : k ≤ 1000) : RD O (rRepB K) (.tuple xs) (.int k) (.tuple (List.replicate k.toNat xs).flatten) := fun H v w ho a b Q q => by
  by_cases c : 1 ≤ k
  · exact .inl (rd_repA hl c h2 H v w ho a b Q q)
  · have e : k = 0 := by omega
    subst e
    cases a with
    | tup a d =>
      cases b
      refine .inr ⟨_, _, rfl, rfl, st_of (sub_of a).1, fun z => hn ?_, fun p hp => q _ _ (Ex.new hp) (.tup (sub_mk upd_same (not_own ho hp)) .nil)⟩
      subst z
      cases d
      rfl
theorem kAny (hK : X.K = K) (hc : X.calm = true) : CallR X (.builtin "any") (rAny K) := by subst hK; exact cr_any hc
theorem rc_any {bs : List Bool} : RDC O (rAny K) [.list (dB bs)] (.bool (bs.any id)) := fun H vs _ h Q q => by
  cases h with
  | cons h k =>
    cases k
    cases h with
    | lst a k =>
      have e := bools_dq k
      subst e
      exact ⟨_, bs, rfl, sq_of (sub_of a).1, q _ H (Ex.refl H) (.bl _)⟩
end
section
variable {n k k1 k2 : Nat} {ρ : Rho} {te ta tb : TE} {tt tu : TT} {t : TS} {g : TG} {S : PyData → Prop} {K : PySem.W.Frag} {c : Own} {vs : List Nat} {ds es : List PyData}
/-- both drawn tests are false -/
theorem ebt_orF (h1 : EvBT n tt ρ k1 fun b => b = false) (h2 : EvBT n tu ρ k2 fun b => b = false) : EvBT n (tOr tt tu) ρ (k1 + k2) fun b => b = false := fun O p c σ H hn s hc Q q =>
  h1 O p c σ H hn s (by omega) _ fun b H1 hb e1 b1 => by
    subst hb
    exact h2 O p (c + k1) σ H1 hn (s.step e1 b1) (by omega) Q fun b2 H2 hb2 e2 b2' => q b2 H2 hb2 (e1.trans e2) (by rw [← Nat.add_assoc]; exact b2')
theorem eb_andT (h1 : EvB n ta ρ k1 fun d => d = .bool true) (h2 : EvB n tb ρ k2 fun d => d = .bool true) : EvB n (tAndV ta tb) ρ (k1 + k2) fun d => d = .bool true := fun O p c σ H hn s hc Q q =>
  h1 O p c σ H hn s (by omega) _ fun v d H1 hd e1 b1 d1 => by
    subst hd
    cases d1
    exact ⟨true, rfl, h2 O p (c + k1) σ H1 hn (s.step e1 b1) (by omega) Q fun v2 d2 H2 hd2 e2 b2 dd2 => q v2 d2 H2 hd2 (e1.trans e2) (by rw [← Nat.add_assoc]; exact b2) dd2⟩
theorem itAt_list {O : List Addr} {σ : L2.St} {H : Hp} {v : V} (h : Dq (sub H O) v (.list ds)) : IterAt O (iList K (fun _ H Q => Q v H)) σ H ds := fun R q => by
  cases h with
  | @lst a xs _ ha k =>
    refine ⟨a, rfl, ⟨xs, sq_of (sub_of ha).1⟩, q (Itl K a) H (fun P H2 => sub H2 P a = some (.lst xs) ∧ DqAll (sub H2 P) xs ds) (YAt xs) (Ex.refl H) (fun P => ?_) ⟨ha, k⟩ (fun P P' H2 H3 g e => ⟨e _ _ g.1, g.2.mono e⟩) ?_⟩
    · rw [← k.length]
      exact walk_list.mono (fun H2 g => sq_of (sub_of g.1).1) fun _ _ _ _ _ _ y => y
    · rintro P i H2 x H3 _ _ ⟨g1, g2⟩ ⟨rfl, hx⟩
      obtain ⟨d, h1, h2⟩ := g2.getV hx
      exact ⟨Ex.refl _, d, h1, h2⟩
/-- a for over a drawn list -/
theorem rg_forL {M : Nat} {A : List PyData → Prop} {tl : TE} (h : EvB n tl ρ k (fun x => ∃ ds, x = .list ds ∧ A ds)) (hA : ∀ ds, A ds → ds.length ≤ M) (Iv : List PyData → Nat → Rho → Own → Prop) (h0 : ∀ ds, A ds → Iv ds 0 ρ c) (hv0 : 0 ∉ vs)
    (hs : ∀ ds, A ds → ∀ i e, ds[i]? = some e → ∀ ρi ci, Iv ds i ρi ci → ∃ ρ', (∀ P, TgD P n vs g ρi e ρ') ∧ ρ'[0]? = some none ∧ (∀ a fs, ci a = some fs → a ∉ vs ∧ ρ'[a]? = some none) ∧ RG n t ρ' ci k1 (Iv ds (i + 1)) S) :
    RG n (tFor (iList K tl) g t) ρ c (k + M * k1) (fun ρ' c' => ∃ ds, A ds ∧ Iv ds ds.length ρ' c') S := fun O p cnt H0 D σ H hn ⟨P0, al0, s0⟩ hcc q r =>
  h P0 p cnt σ H hn s0.sb (by omega) _ fun v x H1 hx e1 b1 d1 => by
    obtain ⟨ds, rfl, hAd⟩ := hx
    have s1 := s0.step e1 b1
    have hm := hA ds hAd
    have hMk : ds.length * k1 ≤ M * k1 := Nat.mul_le_mul_right _ hm
    exact rg_for_at (k1 := k1) (S := S) (itAt_list (K := K) (σ := σ) d1) hn s1 (Iv ds) (h0 ds hAd) hv0 (by omega) (hs ds hAd) (fun ρ' c' σ' H' hI hl ⟨P, al, s⟩ => q ρ' c' σ' H' ⟨ds, hAd, hI⟩ hl ⟨P, al, s.bmono (by omega)⟩) fun v d H' hd e b dd => r v d H' hd e (b.mono (by omega)) dd
end
end DL
/-! DST: set(..) of a list of numbers, and sorted of it. -/
namespace L2
open PySem PySem.Spec PyProof.Rows
/-- a set as it is made -/
abbrev bareS (w : World) : Obj := { cls := .type "set", dict := none, data := .set #[] 0 (.fresh 0 0 (!w.params.followText "set-order")) }
section
variable {P : Program} {w : World} {A : Around} {E : Value → Shared → Prop} {s : Shared}
/-- what the set's __init__ does with a list -/
theorem init_list {lst : Addr} {vs : Array Value} {ns : List Int} (quiet : A.handled = none) (isl : s.heap.IsList lst vs) (nums : IntsAre vs.toList ns) (few : ns.length + 1 < scanBound) {R : Result → Shared → Prop}
    (fin : ∀ (h' : Heap) (tk c : Nat), SetR w h' s.heap.objs.size (fun j => decide (j ∈ ns)) c → c ≤ ns.length → (∀ b o, s.heap.get? b = some o → h'.get? b = some o) → R (.ok (.ret .none)) { s with heap := h', toks := tk }) :
    codeAny (model P w) A (.builtin "set.__init__" ⟨[.ref s.heap.objs.size, .ref lst], []⟩) R { s with heap := s.heap.push (bareS w) } := by
  have sz : vs.size = ns.length := by have q := IntsAre.length nums; rwa [Array.length_toList] at q
  have atS : (s.heap.push (bareS w)).get? s.heap.objs.size = some (bareS w) := Heap.get?_push_size _ rfl
  have tyS : Shared.TypeIs { s with heap := s.heap.push (bareS w) } (.ref s.heap.objs.size) "set" := ⟨_, atS, rfl⟩
  have up1 : (s.heap.push (bareS w)).objs.size = s.heap.objs.size + 1 := Heap.size_push ..
  obtain ⟨⟨cl, dc, dt, sl⟩, got, rfl, k, rfl⟩ := isl
  have got1 : (s.heap.push (bareS w)).get? lst = some ⟨.type "list", dc, .seq vs k, sl⟩ := Heap.get?_push_of_some _ got
  have isl1 : (s.heap.push (bareS w)).IsList lst vs := ⟨_, got1, rfl, k, rfl⟩
  have ltS : lst < s.heap.objs.size := Heap.lt_size got
  have no1 := F.sub_list_set; have no2 := F.sub_list_frozenset
  have no3 : (Value.type "list" == Value.type "dict") = false := by decide
  have each : ∀ (i : Nat) (v : Value), vs[i]? = some v → ∃ k t, ns[i]? = some k ∧ v = .int k t := fun i v e => by
    have hi : i < ns.length := by rw [← sz]; exact (Array.getElem?_eq_some_iff.mp e).1
    obtain ⟨t, q⟩ := IntsAre.int_at nums i v (by rw [Array.getElem?_toList]; exact e)
    exact ⟨_, t, by rw [List.getD_eq_getElem?_getD, List.getElem?_eq_getElem hi]; rfl, q⟩
  refine codeAny_builtin F.entry_set_init ?_
  rw [Around.under_plainId F.called_set.init.plain _]
  unfold Builtin.«set.__init__» noKeywords Builtin.Frozenset.updateFrom
  generalize hIt : pyIter = IT
  wp_walk; subst hIt
  refine wpAny_pyIter_list isl1 (wpAny_bind (wpAny_runValue ?_))
  have q1 : A.in1.in1.handled = none := by simp [quiet]
  have far : lst ≠ (s.heap.push (bareS w)).objs.size := by rw [up1]; exact Nat.ne_of_lt (Nat.lt_succ_of_lt ltS)
  have own : s.heap.objs.size ∉ [(s.heap.push (bareS w)).objs.size, lst] := fun z => by
    rcases List.mem_cons.mp z with z | z
    · rw [up1] at z; exact absurd z (Nat.ne_of_lt (Nat.lt_succ_self _))
    · exact absurd (List.mem_singleton.mp z) (Nat.ne_of_gt ltS)
  refine set_update_ints ((Walks.list q1 _ lst far vs).toS) s.heap.objs.size own ns sz few each (vs.size - 0) 0 _ (by omega) (Nat.zero_le _) ⟨⟨_, Heap.get?_push_size _ rfl, rfl, rfl⟩, isl1.push _⟩
    ⟨0, Nat.le_refl 0, setR_new_at (Heap.get?_push_of_some _ atS)⟩ fun s2 c mv cl SR => ?_
  obtain ⟨h2, g2, d2, t2, o2⟩ := s2
  cases (show g2 = s.gens from mv.gens); cases (show d2 = s.drawn from mv.drawn); cases (show o2 = s.os from mv.os)
  rw [sz] at cl
  refine wpAny_pure (wpAny_pure (fin h2 t2 c SR cl fun b o e => ?_))
  have lb : b < s.heap.objs.size := Heap.lt_size e
  refine mv.heap b o (fun z => ?_) (Heap.get?_push_of_some _ (Heap.get?_push_of_some _ e))
  rcases List.mem_cons.mp z with z | z
  · exact absurd z (Nat.ne_of_lt lb)
  · have q := List.mem_singleton.mp z
    rw [up1] at q
    exact absurd q (Nat.ne_of_lt (Nat.lt_succ_of_lt lb))
/-- set(xs) of a list of numbers -/
theorem call_setL {lst : Addr} {vs : Array Value} (ns : List Int) {Q : Value → Shared → Prop} (quiet : A.handled = none) (isl : s.heap.IsList lst vs) (nums : IntsAre vs.toList ns) (few : ns.length + 1 < scanBound)
    (fin : ∀ (h' : Heap) (tk c : Nat), SetR w h' s.heap.objs.size (fun j => decide (j ∈ ns)) c → c ≤ ns.length → (∀ b o, s.heap.get? b = some o → h'.get? b = some o) → Q (.ref s.heap.objs.size) { s with heap := h', toks := tk }) :
    wpAny (model P w) A (call (.type "set") [.ref lst]) Q E s := by
  obtain ⟨c0, t0, mro0⟩ := F.called_set.mro
  have made0 := F.called_set.made; have sub0 := F.called_set.sub
  refine wpAny_call (codeAny_of_tree (show wpAny _ _ (callAny (.type "set") _) _ _ _ from wpAny_pure ⟨Code.quiet_builtin _ (by decide +kernel), codeAny_builtin F.entry_type_call ?_⟩))
  rw [Around.under_plain (weight_type_call_type "set" [.ref lst] []) rfl]
  have nt0 := F.called_set.notType; have cc0 := F.called_set.canCreate; have tc0 := F.typeCall_set_1 (.ref lst)
  repeat (any_goals (first | assumption | wp_step))
  refine codeAny_mono (code_set_led1 (.ref lst) (E := E) (Q₁ := fun obj s1 => obj = .ref s.heap.objs.size ∧ s1 = { s with heap := s.heap.push (bareS w) }) ⟨rfl, rfl⟩) fun r s1 hr => ?_
  match r, hr with
  | .error e, hr => exact hr
  | .ok (.ret obj), hr =>
    obtain ⟨rfl, rfl⟩ := hr
    have atS : (s.heap.push (bareS w)).get? s.heap.objs.size = some (bareS w) := Heap.get?_push_size _ rfl
    have tyS : Shared.TypeIs { s with heap := s.heap.push (bareS w) } (.ref s.heap.objs.size) "set" := ⟨_, atS, rfl⟩
    have look0 := F.called_set.init.lookup; have bind0 := F.called_set.init.bind (.ref s.heap.objs.size)
    repeat (any_goals (first | assumption | wp_step))
    refine codeAny_mono (codeAny_call_builtin_code (R := wants (fun r s2 => r = .none ∧ ∃ h' tk c, s2 = { s with heap := h', toks := tk } ∧ SetR w h' s.heap.objs.size (fun j => decide (j ∈ ns)) c ∧ c ≤ ns.length ∧ (∀ b o, s.heap.get? b = some o → h'.get? b = some o)) E) (Code.quiet_builtin _ (by decide +kernel)) (check_set_init_1 tyS (init_list (A := A.in1) (by simp [quiet]) isl nums few fun h' tk c SR cl kp => ⟨rfl, h', tk, c, rfl, SR, cl, kp⟩))) fun r2 s2 hr2 => ?_
    match r2, hr2 with
    | .error e, hr2 => exact hr2
    | .ok (.ret r), hr2 =>
      obtain ⟨rfl, h', tk, c, rfl, SR, cl, kp⟩ := hr2
      repeat (any_goals (first | assumption | wp_step))
      exact fin _ _ _ SR cl kp
    | .ok .next, hr2 => exact hr2.elim
    | .ok .brk, hr2 => exact hr2.elim
    | .ok .cont, hr2 => exact hr2.elim
  | .ok .next, hr => exact hr.elim
  | .ok .brk, hr => exact hr.elim
  | .ok .cont, hr => exact hr.elim
end
section
variable {X : Cx}
def rSetLn (K : PySem.W.Frag) (w : World) : List V → Hp → VK → Prop := fun xs H Q => ∃ (l : Addr) (ns : List Int), xs = [.ref l] ∧ SqL K H l (ns.map V.int) ∧ ns.length ≤ 1000 ∧ ∀ (p : Addr) (n : Nat), H p = none → n ≤ ns.length → Q (.ref p) (upd H p (SetO w p (fun j => decide (j ∈ ns)) n))
theorem cr_setLn (hc : X.calm = true) : CallR X (.type "set") (rSetLn X.K X.w) := by
  intro pins s σ H xs us Q I r h
  obtain ⟨l, ns, rfl, hq, hl, q⟩ := h
  cases r with
  | cons r0 rr =>
    cases rr
    cases r0
    obtain ⟨its, rv, p', _⟩ := I.list hq
    refine call_setL ns (I.ok.hd hc) p'.isList (ints_of_vals rv) (by unfold scanBound; omega) fun h' tk c SR cl kp => ?_
    exact ⟨.ref _, upd H s.heap.objs.size (SetO X.w s.heap.objs.size (fun j => decide (j ∈ ns)) c), I.laid (t' := tk) kp (Nat.le_refl _) (setO_new SR), rfl, q _ c (I.hok.fresh (Nat.le_refl _)) cl⟩
theorem kSetLn {K : PySem.W.Frag} {w : World} (hK : X.K = K) (hw : X.w = w) (hc : X.calm = true) : CallR X (.type "set") (rSetLn K w) := by
  subst hK; subst hw
  exact cr_setLn hc
theorem kSortedS {w : World} (hw : X.w = w) (hc : X.calm = true) : CallR X (.builtin "sorted") (rSortedSet w) := by
  subst hw
  exact cr_sortedSet hc
end
end L2
namespace DL
open PySem L2 Evl PyProof.Rows TL RZ
/-- two rising rows of the same numbers -/
theorem rise_uniq : ∀ {a b : List Int}, a.Pairwise (· < ·) → b.Pairwise (· < ·) → (∀ k, k ∈ a ↔ k ∈ b) → a = b
  | [], [], _, _, _ => rfl
  | [], y :: b, _, _, h => absurd ((h y).mpr (List.mem_cons_self ..)) (by simp)
  | x :: a, [], _, _, h => absurd ((h x).mp (List.mem_cons_self ..)) (by simp)
  | x :: a, y :: b, ha, hb, h => by
    have h1 := List.pairwise_cons.mp ha
    have h2 := List.pairwise_cons.mp hb
    have e : x = y := by
      rcases List.mem_cons.mp ((h x).mp (List.mem_cons_self ..)) with q | q
      · exact q
      · rcases List.mem_cons.mp ((h y).mpr (List.mem_cons_self ..)) with q2 | q2
        · exact q2.symm
        · have := h1.1 y q2
          have := h2.1 x q
          omega
    subst e
    rw [rise_uniq h1.2 h2.2 fun k => ⟨fun hk => by
      rcases List.mem_cons.mp ((h k).mp (List.mem_cons_of_mem _ hk)) with q | q
      · have := h1.1 k hk
        omega
      · exact q, fun hk => by
      rcases List.mem_cons.mp ((h k).mpr (List.mem_cons_of_mem _ hk)) with q | q
      · have := h2.1 k hk
        omega
      · exact q⟩]
theorem ed_sortedSet {O : List Addr} {n : Nat} {ρ : Rho} {te : TE} {K : PySem.W.Frag} {w : World} {ns zs : List Int} (h : EvD O n te ρ (.list (dI ns))) (hl : ns.length < 64) (hz : zs.Pairwise (· < ·)) (hm : ∀ k, k ∈ zs ↔ k ∈ ns) :
    EvD O n (tCB (rSortedSet w) (tCons (tCB (rSetLn K w) (tCons te tNil)) tNil)) ρ (.list (dI zs)) := fun σ H hn s Q q => h σ H hn s _ fun v H1 e1 d1 => by
  cases d1 with
  | @lst a xs _ ha k =>
    have ex := ints_dq k
    subst ex
    refine ⟨a, ns, rfl, sq_of (sub_of ha).1, by omega, fun p m hp hm2 => ?_⟩
    refine ⟨p, _, m, rfl, upd_same, by omega, fun ms r hs hmem _ hr => ?_⟩
    have e : ms = zs := rise_uniq hs hz fun j => by rw [hmem j, hm j, decide_eq_true_eq]
    subst e
    have x2 : Ex H1 (upd (upd H1 p (SetO w p (fun j => decide (j ∈ ns)) m)) r (.lst (ms.map V.int))) := (Ex.new hp).trans (Ex.new hr)
    have own2 := own_ex (e1.trans (Ex.new hp (o := SetO w p (fun j => decide (j ∈ ns)) m))) s.own
    exact q _ _ (e1.trans x2) (.lst (sub_mk upd_same (not_own own2 hr)) (dq_ints ms))
/-! rising rows, computed -/
def insU (a : Int) : List Int → List Int
  | [] => [a]
  | y :: ys => if a < y then a :: y :: ys else if a = y then y :: ys else y :: insU a ys
def riseOf : List Int → List Int
  | [] => []
  | a :: l => insU a (riseOf l)
theorem insU_mem (a k : Int) : ∀ l, k ∈ insU a l ↔ k = a ∨ k ∈ l
  | [] => by simp [insU]
  | y :: ys => by
    have ih := insU_mem a k ys
    show k ∈ (if a < y then a :: y :: ys else if a = y then y :: ys else y :: insU a ys) ↔ _
    split
    · simp
    · split
      · rename_i h
        subst h
        simp
      · rw [List.mem_cons, ih, List.mem_cons]
        constructor
        · rintro (h | h | h)
          · exact .inr (.inl h)
          · exact .inl h
          · exact .inr (.inr h)
        · rintro (h | h | h)
          · exact .inr (.inl h)
          · exact .inl h
          · exact .inr (.inr h)
theorem insU_ok (a : Int) : ∀ l : List Int, l.Pairwise (· < ·) → (insU a l).Pairwise (· < ·)
  | [], _ => by simp [insU]
  | y :: ys, h => by
    have h2 := List.pairwise_cons.mp h
    show (if a < y then a :: y :: ys else if a = y then y :: ys else y :: insU a ys).Pairwise _
    split
    · rename_i c
      refine List.pairwise_cons.mpr ⟨fun x hx => ?_, h⟩
      rcases List.mem_cons.mp hx with rfl | hx
      · exact c
      · have := h2.1 x hx
        omega
    · split
      · exact h
      · refine List.pairwise_cons.mpr ⟨fun x hx => ?_, insU_ok a ys h2.2⟩
        rcases (insU_mem a x ys).mp hx with rfl | hx
        · omega
        · exact h2.1 x hx
theorem rise_ok : ∀ l, (riseOf l).Pairwise (· < ·)
  | [] => List.Pairwise.nil
  | a :: l => insU_ok a _ (rise_ok l)
theorem rise_mem (k : Int) : ∀ l, k ∈ riseOf l ↔ k ∈ l
  | [] => Iff.rfl
  | a :: l => by
    show k ∈ insU a (riseOf l) ↔ _
    rw [insU_mem, rise_mem k l, List.mem_cons]
theorem it_rng2 {O : List Addr} {n : Nat} {ρ : Rho} {ta' : TA} {lo hi : Nat} (h : EvDA O n ta' ρ [.int (lo : Int), .int (hi : Int)]) (hm : hi ≤ 1000000) (hl : lo ≤ hi) : IterD O n (iRng2 ta') ρ ((List.range (hi - lo)).map fun k => PyData.int ((lo + k : Nat) : Int)) := fun σ H hn s R q => h σ H hn s _ fun vs H1 e1 d1 => by
  cases d1 with
  | cons a k =>
    cases a
    cases k with
    | cons b k =>
      cases b
      cases k
      refine ⟨(lo : Int), (hi : Int), rfl, ⟨by omega, by omega, by omega, by omega⟩, ?_⟩
      have e : ((hi : Int) - (lo : Int)).toNat = hi - lo := by omega
      rw [e]
      have l : ((List.range (hi - lo)).map fun k => PyData.int ((lo + k : Nat) : Int)).length = hi - lo := by
        rw [List.length_map, List.length_range]
      refine q (Itr (lo : Int) (hi - lo)) H1 (fun _ _ => True) (YFn fun i => .int ((lo : Int) + (i : Nat))) e1 (fun P => ?_) True.intro (fun _ _ _ _ _ _ => True.intro) ?_
      · rw [l]
        exact walk_range.mono (fun _ _ => True.intro) fun i H2 x H3 hi _ y => ⟨y.1, y.2⟩
      · rintro P i H2 x H3 hi _ _ ⟨rfl, rfl⟩
        rw [l] at hi
        refine ⟨Ex.refl _, .int ((lo + i : Nat) : Int), ?_, ?_⟩
        · rw [List.getElem?_map, List.getElem?_range hi]
          rfl
        · have e2 : ((lo : Int) + (i : Int)) = ((lo + i : Nat) : Int) := by omega
          show Dq _ (V.int ((lo : Int) + (i : Int))) _
          rw [e2]
          exact .int _
theorem rm_parR {O : List Addr} {n m i : Nat} {ρ : Rho} {c : Own} {d : PyData} {te : TE} (h : ∀ P, EvD P n te ρ d) (hm : m < n) (hi : i < n) (hr : m < ρ.length) (hc : c m = none) (hci : c i = none) (hmi : m ≠ i) : RunM O n (tPar i m (tCons te (tCons (tLst tNil) tNil))) ρ c ((ρ.set i (some d)).set m none) (c.put m []) := fun H0 D σ H hn ⟨P, al, s⟩ k => by
  refine h P σ H hn s.sd _ fun v H1 e1 d1 => ?_
  refine ⟨(by show 0 ≤ sizeLine; decide), fun p np => ?_⟩
  have s1 := (s.step e1).put d1 (by rw [hn]; exact hi) hci
  have s2 := s1.own (xs := []) (ds := []) np .nil (by rw [List.length_set, hn]; exact hm) (by rw [List.length_set]; exact hr) hc
  exact ⟨_, _, rfl, k _ _ (by rw [List.length_set, List.length_set]; exact hn) ⟨_, _, s2⟩⟩
/-- x in (..), in [..]: numbers -/
theorem rd_inI {O : List Addr} {K : PySem.W.Frag} {neg : Bool} {i : Int} {x : PyData} {xs : List Int} (hs : SeqD x (dI xs)) : RD O (rIn K neg) (.int i) x (.bool (if neg then !decide (i ∈ xs) else decide (i ∈ xs))) := fun H v w _ h1 h2 Q q => by
  cases h1
  obtain ⟨p, ys, rfl, hq, k⟩ := seq_rd (K := K) hs h2
  have e := ints_dq k
  subst e
  have f1 : (xs.map V.int).all flatV = true := by
    rw [List.all_map]
    exact List.all_eq_true.mpr fun _ _ => rfl
  have f2 : inV (.int i) (xs.map V.int) = decide (i ∈ xs) := by
    unfold inV
    rw [List.any_map]
    by_cases c : i ∈ xs
    · rw [decide_eq_true c]
      refine List.any_eq_true.mpr ⟨i, c, ?_⟩
      simp [eqV]
    · rw [decide_eq_false c]
      refine List.any_eq_false.mpr fun y hy z => c ?_
      have q : eqV (V.int y) (V.int i) = true := z
      simp [eqV] at q
      rw [← q]
      exact hy
  refine ⟨p, _, rfl, hq, rfl, f1, ?_⟩
  rw [f2]
  exact q _ H (Ex.refl H) (.bl _)
section
variable {n i j k : Nat} {ρ : Rho} {c : Own} {tr : TA} {u : TS} {x y : PyData} {T : Rho → Own → Prop} {S : PyData → Prop}
/-- x, y = e, e', without a draw -/
theorem rg_parB (h : ∀ O, EvDA O n tr ρ [x, y]) (hi : i < n) (hj : j < n) (h0 : i ≠ 0) (h1 : j ≠ 0) (ci : c i = none) (cj : c j = none) : RG n (tPar i j tr) ρ c 0 (fun ρ' c' => ρ' = (ρ.set i (some x)).set j (some y) ∧ c' = c) S := fun O p cnt H0 D σ H hn ⟨P, al, s⟩ hcc q r =>
  h P σ H hn s.m.sd _ fun vs H1 e1 d1 => by
    cases d1 with
    | cons a1 k1 =>
      cases k1 with
      | cons a2 k2 =>
        cases k2
        exact ⟨_, _, rfl, q _ _ _ H1 ⟨rfl, rfl⟩ (by rw [List.length_set, List.length_set]; exact hn) ⟨P, al, ((s.stepX e1).put a1 (by rw [hn]; exact hi) h0 ci).put a2 (by rw [List.length_set, hn]; exact hj) h1 cj⟩⟩
theorem rg_par0 (h : ∀ O, EvDA O n tr ρ [x, y]) (hi : i < n) (hj : j < n) (h0 : i ≠ 0) (h1 : j ≠ 0) (ci : c i = none) (cj : c j = none) (h2 : RG n u ((ρ.set i (some x)).set j (some y)) c k T S) : RG n (tSeq (tPar i j tr) u) ρ c k T S :=
  rg_0 (rg_seq (rg_parB h hi hj h0 h1 ci cj) fun ρ1 c1 z => by
    rw [z.1, z.2]
    exact h2)
theorem rg_parE (h : ∀ O, EvDA O n tr ρ [x, y]) (hi : i < n) (hj : j < n) (h0 : i ≠ 0) (h1 : j ≠ 0) (ci : c i = none) (cj : c j = none) (h2 : T ((ρ.set i (some x)).set j (some y)) c) : RG n (tPar i j tr) ρ c 0 T S :=
  rg_wk (rg_parB h hi hj h0 h1 ci cj) (Nat.le_refl _) (fun ρ' c' z => by rw [z.1, z.2]; exact h2) fun _ z => z
end
end DL
/-! DXI: isinstance(e, ValueError) of a kept exception of an own class. -/
namespace DL
open PySem L2 Evl PyProof.Rows TL RZ
/-- what the class at C says of such a question -/
structure IsiC (K : PySem.W.Frag) (C : Addr) : Prop where
  cl : PySem.W.isClsIn K C = true
  ga : PySem.W.findIn K (.ref C) "__getattribute__" = some (some (.builtin "BaseException.__getattribute__"))
  gg : PySem.W.findIn K (.ref C) "__getattr__" = some none
  ex : PySem.W.subIn K (.ref C) (.type "BaseException") = some true
  cc : PySem.W.findIn K (.ref C) "__class__" = some (some (.builtin "object.__class__"))
  sp : PySem.W.specialIn K (.builtin "object.__class__") "__get__" = some (some (.builtin "getset_descriptor.__get__"))
  tk : PySem.W.takesIn K (.builtin "object.__class__") = some true
  mr : PySem.W.mroIn K C (.type "object") = some true
  ve : PySem.W.subIn K (.ref C) (.type "ValueError") = some true
theorem kit_ve {K : PySem.W.Frag} {C : Addr} (I : IsiC K C) : PySem.W.kitOne K (.ref C) (.type "ValueError") = some true := by
  have m : PySem.W.kitMeta "ValueError" = true := by decide +kernel
  unfold PySem.W.kitOne PySem.W.kitCls
  rw [if_neg (by intro z; have q := eq_of_beq z; cases q)]
  simp only [m, if_true, I.ve]
def rIsiE (K : PySem.W.Frag) (C : Addr) : List V → Hp → VK → Prop := fun xs H Q => ∃ (a dd : Addr) (fs : List (Str × V)), xs = [.ref a, .ty "ValueError"] ∧ H a = some (exk a (.ref C) (some dd)) ∧ H dd = some (.xd fs) ∧ Q (.bl true) H
theorem kIsiE {X : Cx} {K : PySem.W.Frag} {C : Addr} (hK : X.K = K) (C1 : IsiC K C) : CallR X (.builtin "isinstance") (rIsiE K C) := by
  subst hK
  intro pins s σ H xs us Q I r h
  obtain ⟨a, dd, fs, rfl, ea, ed, q⟩ := h
  obtain ⟨u1, u2, rfl, r1, r2⟩ := vals2 r
  obtain rfl : u1 = Value.ref a := r1
  obtain rfl : u2 = Value.type "ValueError" := r2
  obtain ⟨oe, ha, hz, vs, hd⟩ := exk_at I.hok ea
  have hx : ObjOk X.prog X.w H s.heap dd (.xd fs) := I.hok dd _ ed
  obtain ⟨mA, hns, hr⟩ := hx
  obtain ⟨od, ho, hl⟩ := lookIn_ns hns
  have J : PySem.W.InstAt s.heap a oe C (some od) := ⟨ha, hz.1, by unfold PySem.W.notCls; rw [hd] <;> rfl, by rw [hz.2]; exact ho⟩
  exact PySem.W.kia_one (PySem.W.kitx_exc C1.cl C1.ga C1.gg C1.ex C1.cc C1.sp C1.tk C1.mr) I.kIn J (kit_ve C1) (fun z => nomatch z) fun tk => ⟨.bl true, H, I.tok tk, rfl, q⟩
end DL
/-! DXK: try .. except (A, B) as n, where the suite keeps the exception; defs that raise one of several own exceptions. -/
namespace DL
open PySem PySem.Spec L2 PyProof.Rows
theorem fly_keeps {base h h' : Heap} {l : List Env} {e : Addr} {Z : Obj → Prop} (k : ∀ b o, h.get? b = some o → h'.get? b = some o) (f : HandSPX.FlyingZ base l e Z h) : HandSPX.FlyingZ base l e Z h' := by
  obtain ⟨f1, f2, f3, oe, vs, T, oT, ts, he, hz, hd, h1, hn, hne, hT, hdT, h3⟩ := f
  exact ⟨fun b o e => k b o (f1 b o e), f2, f3.of_keeps fun b o hb _ => ⟨o, k b o hb, rfl⟩, oe, vs, T, oT, ts, k _ _ he, hz, hd, h1, hn, hne, k _ _ hT, hdT, h3⟩
/-- what 'except (x1, x2) as n' wishes where each exception of the body is the clause's and the suite goes on: behind it the exception stays told of -/
def wKeep2 (K : PySem.W.Frag) (c1 c2 : Value) (i : Nat) (ts : Addr → Value → Option Addr → TS) (D : Ends) : WX := fun cls d σ H =>
  PySem.W.exmAny K cls [c1, c2] = some true ∧ ∀ a, H a = none →
    ts a cls d { nx := fun σ' H' => H' a = none → D.nx (σ'.set i none) (upd H' a (exk a cls d)), rt := fun _ _ => False } (σ.set i (some (.ref a))) H
section
variable {X : Cx} {x1 x2 n : Str} {c1 c2 : Value} {i kk : Nat} {body suite : List Stmt} {b₀ : Stmt} {p1 p2 tpos pos pos' : Pos} {tb : WX → TS} {ts : Addr → Value → Option Addr → TS}
theorem ps_try_keep2 (hs : X.stack = X.env :: X.outer) (hf : X.env.frame = some X.env.locals) (hex : X.ex = []) (hN : X.N.Nodup) (hi : X.N[i]? = some n)
    (hln : X.env.kindOf n = some .local) (hc1 : Names X x1 c1) (hc2 : Names X x2 c2)
    (hb : ∀ (W : WX) (pn : List (Addr × Obj)) (xe : Value → Shared → Prop), Takes (X.tr pn xe) W → PassesOwn (model X.prog X.w) X.A X.env xe → PSs (X.tr pn xe) body (tb W))
    (hsu : ∀ (a : Addr) (oe : Obj) (cls : Value) (d : Option Addr) (pn : List (Addr × Obj)), Zc cls d oe → (∃ vs, oe.data = .fields vs) → PSs (X.suite a ((a, oe) :: pn)) (b₀ :: suite) (ts a cls d)) :
    PS X (.Try body [.ExceptHandler (some (.Tuple [.Name x1 p1, .Name x2 p2] kk tpos)) (some n) (b₀ :: suite) pos'] [] [] pos) (fun D σ H => tb (wKeep2 X.K c1 c2 i ts D) D σ H) := by
  refine ⟨fun pins s σ H D I h => ?_⟩
  have ok := I.ok
  have frames : X.A.frames = some (X.env :: X.outer) := by
    rw [ok.frames, hs]
  refine wpAny_Try_except ?_
  refine wpAny_mono ((hb (wKeep2 X.K c1 c2 i ts D) (X.pn ++ pins)
    (fun e s₁ => wpAny (model X.prog X.w) X.A (noteFrame e X.env) (fun _ s₂ => wpAny (model X.prog X.w) X.A (setFlight e none)
      (fun _ s₃ => wpAny (model X.prog X.w) X.A (handleBy e X.env [.ExceptHandler (some (.Tuple [.Name x1 p1, .Name x2 p2] kk tpos)) (some n) (b₀ :: suite) pos']) (SP X pins D) X.xe s₃) X.xe s₂) X.xe s₁)
    (fun u s' xx => ?_) PassesOwn.looking).run [] s σ H D (I.toTry _) h) (fun f s1 hsp => ?_) (fun e s1 he => he)
  · obtain ⟨a, B, sI, pins', σ', H', cls, d, rfl, J', nb, up, sky, na, os, ag, hone, hyes⟩ := xx
    have J : Inv X pins σ' H' sI := J'.ofTry ok
    rw [show (X.tr (X.pn ++ pins) _).stack = X.env :: X.outer from hs] at sky
    show wpAny (model X.prog X.w) X.A (noteFrame (.ref a) X.env) _ _ _
    refine Sky.land Zc.steady frames hf sky fun h3 fl3 up3 => ?_
    have J3 : Inv X pins σ' H' { s' with heap := h3 } := J.landed nb fl3.1 (up.trans up3) os ag
    obtain ⟨oe3, vs3, he3, hz3, hd3⟩ := fl3.there
    have away : ∀ {h : Heap} {ob : Obj} {vs : Array Value}, h.FunFrames B (X.env :: X.outer) → h.get? a = some ob → ob.data = .fields vs → a ∉ frs (X.env :: X.outer) := by
      intro h ob vs ff e dd hm
      obtain ⟨_, ob', e', no⟩ := ff.mem hm
      rw [e] at e'
      cases e'
      exact no _ dd
    have nfr := away fl3.2.2.1 he3 hd3
    have nL : a ≠ X.env.locals := by
      intro z
      refine nfr (List.mem_filterMap.mpr ⟨X.env, List.mem_cons_self, ?_⟩)
      rw [hf, z]
    have nF : a ∉ X.fs := by
      intro hm
      obtain ⟨e, he, q⟩ := List.mem_filterMap.mp hm
      exact nfr (List.mem_filterMap.mpr ⟨e, List.mem_cons_of_mem _ he, q⟩)
    -- the exception is new: nothing of what stood ahead of it lies there
    have nI : sI.heap.get? a = none := by
      cases e : sI.heap.get? a with
      | none => rfl
      | some ob =>
        have z := nb a ob e (by rw [show (X.tr (X.pn ++ pins) _).stack = X.env :: X.outer from hs]; exact nfr)
        rw [fl3.2.1] at z
        cases z
    have n0 : X.s_0.heap.get? a = none := by
      cases e : X.s_0.heap.get? a with
      | none => rfl
      | some ob =>
        obtain ⟨ob', q⟩ := J.base.there a ob e (by rw [hex]; exact List.not_mem_nil)
        rw [nI] at q
        cases q
    have npin : ∀ p ∈ X.pn ++ pins, p.1 ≠ a := by
      intro p hp z
      have q := (J.pin p hp).1
      rw [z, nI] at q
      cases q
    have ncell : ∀ y k, X.env.cells.lookup y = some k → k ≠ a := by
      intro y k e z
      obtain ⟨v, ob, q, _⟩ := J.cell y k e
      rw [z, nI] at q
      cases q
    have S3 := J3.suite he3 hd3 na nL nF
    refine wpAny_handleBy_cons (codeAny_handlers_test ?_) (by intro q; cases q)
    have looks : PySem.W.Looks (model X.prog X.w) h3 (typeOf (.ref a)) cls := by
      intro A Q E s k q
      refine wpAny_typeOf_ref (k _ _ he3) ?_
      rw [hz3.1]
      exact q
    have test : ∀ {x : Str} {c : Value} {np : Pos} {Q : Value → Shared → Prop} {E : Value → Shared → Prop}, Names X x c → Q c { s' with heap := h3 } → wpAny (model X.prog X.w) (X.A.mark (some (.ref a))) (eval (.Name x np) X.env) Q E { s' with heap := h3 } := by
      intro x c np Q E hc q
      obtain ⟨g1, g2, g3 | ⟨g3, g4, g5⟩⟩ := hc
      · exact ld_glob (X := X.suite a ((a, oe3) :: (X.pn ++ pins))) S3 g1 g3 q g2
      · exact ld_blt (X := X.suite a ((a, oe3) :: (X.pn ++ pins))) S3 g1 g3 g4 q g5 g2
    have hkp : ∀ b o, h3.get? b = some o → (h3.push { cls := .type "tuple", data := .seq [c1, c2].toArray }).get? b = some o := fun b o e => Heap.get?_push_of_some _ e
    have upP : h3.UpToSlots (h3.push { cls := .type "tuple", data := .seq [c1, c2].toArray }) := Heap.UpToSlots.of_keeps hkp
    have fl3p := fly_keeps hkp fl3
    have J3p : Inv X pins σ' H' { s' with heap := h3.push { cls := .type "tuple", data := .seq [c1, c2].toArray } } := J.landed nb fl3p.1 ((up.trans up3).trans upP) os ag
    have one := PySem.W.exm_tup2 (M := model X.prog X.w) (e := a) (J3p.kIn) (looks.keeps hkp) (Heap.get?_push_size _ rfl) hone
    refine PyProof.Rows.Tuple_ (PyProof.Rows.spliced_more (test hc1 (PyProof.Rows.spliced_more (test hc2 (PyProof.Rows.spliced_none ?_)))))
    refine wpAny_newObj_type ?_
    refine one.here ?_
    refine codeAny_handlers_suite_as ?_
    refine HandSPX.lands_againZ fl3p fun h4 fl4 up4 => ?_
    have J4 : Inv X pins σ' H' { s' with heap := h4 } := J.landed nb fl4.1 (((up.trans up3).trans upP).trans up4) os ag
    obtain ⟨oe4, vs4, he4, hz4, hd4⟩ := fl4.there
    have S4 := J4.suite he4 hd4 na nL nF
    refine store_ok (X := X.suite a ((a, oe4) :: (X.pn ++ pins))) (v := .ref a) S4 hN hi (.inl hln) rfl (fun s5 S5 => ?_) (.inr hln)
    have go := (hsu a oe4 cls d (X.pn ++ pins) hz4 ⟨_, hd4⟩).run [] s5 _ H' _ S5 (hyes a na)
    refine wpAny_mono go (fun f s6 hsp => ?_) (fun _ _ z => False.elim z)
    cases f with
    | next =>
      obtain ⟨σ6, H6, S6, q6⟩ := hsp
      obtain ⟨e6, n6, _⟩ := S6.pin (a, oe4) (List.mem_append_left _ List.mem_cons_self)
      have T6 := track (S6.unsuite ok) n6 n0 npin nL ncell (exk_ok (cls := cls) (d := d) e6 hz4 hd4)
      exact gone_ok T6 hN hi hln fun s7 J7 => ⟨_, _, J7, q6 n6⟩
    | brk =>
      obtain ⟨σ6, H6, S6, q6⟩ := hsp
      exact q6.elim
    | cont =>
      obtain ⟨σ6, H6, S6, q6⟩ := hsp
      exact q6.elim
    | ret u =>
      obtain ⟨v6, σ6, H6, S6, r6, q6⟩ := hsp
      exact q6.elim
  · cases f with
    | ret u =>
      obtain ⟨v, σ', H', J', r, q⟩ := hsp
      exact ⟨v, σ', H', J'.ofTry ok, r, q⟩
    | next =>
      obtain ⟨σ', H', J', q⟩ := hsp
      exact wpAny_execs_nil ⟨σ', H', J'.ofTry ok, q⟩
    | brk =>
      obtain ⟨σ', H', J', q⟩ := hsp
      exact ⟨σ', H', J'.ofTry ok, q⟩
    | cont =>
      obtain ⟨σ', H', J', q⟩ := hsp
      exact ⟨σ', H', J'.ofTry ok, q⟩
end
end DL
namespace DL
open PySem L2 Evl PyProof.Rows TL RZ
/-- a def that answers or raises one of several: the class, its field, what it holds -/
abbrev Ex3 := Addr × Str × Int
def spDY (R : List PyData → PyData ⊕ Ex3 → Prop) : Sp := fun vs H Q E => ∃ (O : List Addr) (ds : List PyData) (r : PyData ⊕ Ex3), (∀ a, a ∈ O → H a ≠ none) ∧ DqAll (sub H O) vs ds ∧ R ds r ∧
  match r with
  | .inl d => ∀ v H', Ex H H' → Dq (sub H' O) v d → Q v H'
  | .inr e => Out e.1 e.2.1 H E e.2.2
section
variable {P : Program} {w : World} {K : PySem.W.Frag} {mg : Str → Option Value} {base : Heap}
theorem pure_okY {R : List PyData → PyData ⊕ Ex3 → Prop} {x qual : Str} {st : Stmt} {f : Addr} {fd : FuncData} {N ps : List Str} {k : Nat} (F : Fun K x qual st f fd) (S : FnScope N ps (defScope st)) (hl : ∀ ds d, R ds d → ds.length = ps.length) (hp : ps.length ≤ N.length)
    (body : ∀ (cdv : Value) (A : Around) (outer : List Env) (s : Shared) (H : Hp) (E : XK), Room k (A.deeper (envOfC qual (defScope st) s.heap.objs.size f cdv)) →
      ∃ t, PSs (cxOf (L2.CX P w) P w K mg base N qual (defScope st) f cdv A outer s H E) (defBody st) t ∧ ∀ O ds r, R ds r → match r with
        | .inl d => RunR O N.length t (argR N ds) d
        | .inr e => RunE O N.length e.1 e.2.1 E t (argR N ds) e.2.2) : FnOk P w K mg base (L2.CX P w) (k + 1) f fd ps (spDY R) := by
  refine F.okX S (fun vs H Q E h => ?_) (fun cdv A outer s H vs Q E hr h => ?_)
  · obtain ⟨O, ds, r, _, hd, hR, _⟩ := h
    rw [hd.length]
    exact hl ds r hR
  · obtain ⟨t, ht, hb⟩ := body cdv A outer s H E hr
    obtain ⟨O, ds, r, ho, hd, hR, q⟩ := h
    have len : (L2.start N vs).length = N.length := start_len (by rw [hd.length, hl ds r hR]; exact hp)
    refine ⟨t, ht, ?_⟩
    have b := hb O ds r hR
    cases r with
    | inl d => exact b _ (L2.start N vs) H len (sd_start ho hd) q
    | inr k => exact b _ (L2.start N vs) H len (sd_start ho hd) q
end
section
variable {O : List Addr} {n : Nat} {ρ ρ1 : Rho} {R : List PyData → PyData ⊕ Ex3 → Prop} {ds : List PyData} {d : PyData} {C : Addr} {f : Str} {k : Int} {tr : TA} {E : L2.St → XK} {te : TE} {i : Nat}
theorem ed_callY (h : EvDA O n tr ρ ds) (hR : R ds (.inl d)) : EvD O n (tCallS (spDY R) E tr) ρ d := fun σ H hn s Q q =>
  h σ H hn s _ fun vs H1 e1 d1 => ⟨O, ds, .inl d, own_ex e1 s.own, d1, hR, fun v H2 e2 d2 => q v H2 (e1.trans e2) d2⟩
theorem ee_callY (h : EvDA O n tr ρ ds) (hR : R ds (.inr (C, f, k))) : EvE O n C f (tCallS (spDY R) E tr) ρ k E := fun σ H hn s q Q =>
  h σ H hn s _ fun vs H1 e1 d1 => ⟨O, ds, .inr (C, f, k), own_ex e1 s.own, d1, hR, q.ex e1⟩
/-- an expression that raises, as a statement or in an assignment -/
theorem re_drop {E : XK} (h : EvE O n C f te ρ k (fun _ => E)) : RunE O n C f E (tDrop te) ρ k := fun D σ H hn s q => h σ H hn s q _
theorem re_asg {E : XK} {g : TG} (h : EvE O n C f te ρ k (fun _ => E)) : RunE O n C f E (tAsg te g) ρ k := fun D σ H hn s q => h σ H hn s q _
end
/-- isinstance(e, C2) of a kept exception of the class C -/
def rIsiO (C C2 : Addr) (b : Bool) : List V → Hp → VK → Prop := fun xs H Q => ∃ (a dd : Addr) (fs : List (Str × V)), xs = [.ref a, .ref C2] ∧ H a = some (exk a (.ref C) (some dd)) ∧ H dd = some (.xd fs) ∧ Q (.bl b) H
end DL
namespace DL
open PySem L2 Evl PyProof.Rows TL RZ
/-- isinstance(e, x) of a kept exception, whatever its class; what the class says is told where it is read -/
def rIsiQ (K : PySem.W.Frag) : List V → Hp → VK → Prop := fun xs H Q => ∃ (a C dd : Addr) (fs : List (Str × V)) (v2 : V) (u2 : Value) (b : Bool), xs = [.ref a, v2] ∧ H a = some (exk a (.ref C) (some dd)) ∧ H dd = some (.xd fs) ∧ IsiC K C ∧ (∀ u, RelV v2 u → u = u2) ∧ PySem.W.kitOne K (.ref C) u2 = some b ∧ Q (.bl b) H
theorem kIsiQ {X : Cx} {K : PySem.W.Frag} (hK : X.K = K) : CallR X (.builtin "isinstance") (rIsiQ K) := by
  subst hK
  intro pins s σ H xs us Q I r h
  obtain ⟨a, C, dd, fs, v2, u2', b, rfl, ea, ed, C1, hu, me, q⟩ := h
  obtain ⟨u1, u2, rfl, r1, r2⟩ := vals2 r
  obtain rfl : u1 = Value.ref a := r1
  obtain rfl := hu u2 r2
  obtain ⟨oe, ha, hz, vs, hd⟩ := exk_at I.hok ea
  have hx : ObjOk X.prog X.w H s.heap dd (.xd fs) := I.hok dd _ ed
  obtain ⟨mA, hns, hr⟩ := hx
  obtain ⟨od, ho, hl⟩ := lookIn_ns hns
  have J : PySem.W.InstAt s.heap a oe C (some od) := ⟨ha, hz.1, by unfold PySem.W.notCls; rw [hd] <;> rfl, by rw [hz.2]; exact ho⟩
  exact PySem.W.kia_one (PySem.W.kitx_exc C1.cl C1.ga C1.gg C1.ex C1.cc C1.sp C1.tk C1.mr) I.kIn J me (fun z => nomatch z) fun tk => ⟨.bl b, H, I.tok tk, rfl, q⟩
end DL
namespace DL
open PySem L2 Evl PyProof.Rows TL RZ
theorem exm_cross {K : PySem.W.Frag} {C S : Addr} {b : Bool} (e : PySem.W.subIn K (.ref S) (.type "BaseException") = some true) (i : PySem.W.isClsIn K S = true)
    (t : PySem.W.typeIn K (.ref S) = some (.type "type")) (u : PySem.W.subIn K (.ref C) (.ref S) = some b) : PySem.W.exmOne K (.ref C) (.ref S) = some b := by
  have i2 : (PySem.W.clsIn K S).isSome = true := i
  have a1 : (PySem.W.subIn K (.ref S) (.type "BaseException") == some true) = true := by
    rw [e]
    rfl
  unfold PySem.W.exmOne
  rw [if_pos a1]
  have a2 : ((PySem.W.clsIn K S).isSome && PySem.W.typeIn K (.ref S) == some (.type "type")) = true := by
    rw [i2, t]
    rfl
  show (if _ then _ else _) = _
  rw [if_pos a2]
  exact u
theorem exm_any1 {K : PySem.W.Frag} {C C2 : Addr} (h1 : PySem.W.exmOne K (.ref C) (.ref C) = some true) (h2 : PySem.W.exmOne K (.ref C) (.ref C2) = some false) : PySem.W.exmAny K (.ref C) [.ref C, .ref C2] = some true := by
  show (match PySem.W.exmOne K (.ref C) (.ref C), PySem.W.exmAny K (.ref C) [.ref C2] with | some b, some d => some (b || d) | _, _ => none) = _
  rw [h1, show PySem.W.exmAny K (.ref C) [.ref C2] = some false by show (match PySem.W.exmOne K (.ref C) (.ref C2), PySem.W.exmAny K (.ref C) [] with | some b, some d => some (b || d) | _, _ => none) = _; rw [h2]; rfl]
  rfl
theorem exm_any2 {K : PySem.W.Frag} {C C2 : Addr} (h1 : PySem.W.exmOne K (.ref C2) (.ref C2) = some true) (h2 : PySem.W.exmOne K (.ref C2) (.ref C) = some false) : PySem.W.exmAny K (.ref C2) [.ref C, .ref C2] = some true := by
  show (match PySem.W.exmOne K (.ref C2) (.ref C), PySem.W.exmAny K (.ref C2) [.ref C2] with | some b, some d => some (b || d) | _, _ => none) = _
  rw [h2, show PySem.W.exmAny K (.ref C2) [.ref C2] = some true by show (match PySem.W.exmOne K (.ref C2) (.ref C2), PySem.W.exmAny K (.ref C2) [] with | some b, some d => some (b || d) | _, _ => none) = _; rw [h1]; rfl]
  rfl
end DL
namespace DL
open PySem L2 Evl PyProof.Rows TL RZ
theorem kit_cross {K : PySem.W.Frag} {C S : Addr} (me : PySem.W.subIn K (.ref C) (.ref C) = some true) (i : PySem.W.isClsIn K S = true) (t : PySem.W.typeIn K (.ref S) = some (.type "type")) (u : PySem.W.subIn K (.ref C) (.ref S) = some false) : PySem.W.kitOne K (.ref C) (.ref S) = some false := by
  have ne : C ≠ S := fun z => by
    rw [← z, me] at u
    cases u
  have i2 : (PySem.W.clsIn K S).isSome = true := i
  have a2 : ((PySem.W.clsIn K S).isSome && PySem.W.typeIn K (.ref S) == some (.type "type")) = true := by
    rw [i2, t]
    rfl
  unfold PySem.W.kitOne
  rw [if_neg (fun z => ne (Value.ref.inj (eq_of_beq z)))]
  unfold PySem.W.kitCls
  show (if _ then _ else _) = _
  rw [if_pos a2]
  exact u
end DL
/-! DXL: behind a try whose suite kept the exception in a slot: what is read of it there. -/
namespace DL
open PySem L2 Evl PyProof.Rows TL RZ
/-- slot j holds a kept exception of C with f = k -/
def KP (j : Nat) (C : Addr) (f : Str) (k : Int) (H : Hp) (σ : L2.St) : Prop := ∃ a dd, σ[j]? = some (some (.ref a)) ∧ H a = some (exk a (.ref C) (some dd)) ∧ H dd = some (.xd [(f, .int k)])
theorem KP.ex {j : Nat} {C : Addr} {f : Str} {k : Int} {H H' : Hp} {σ : L2.St} (h : KP j C f k H σ) (e : Ex H H') : KP j C f k H' σ := by
  obtain ⟨a, dd, h1, h2, h3⟩ := h
  exact ⟨a, dd, h1, e _ _ h2, e _ _ h3⟩
section
variable (O : List Addr) (n j : Nat) (C : Addr) (f : Str) (k : Int)
def EvK (te : TE) (ρ : Rho) (d : PyData) : Prop := ∀ (σ : L2.St) (H : Hp), σ.length = n → SD O H σ ρ → KP j C f k H σ → ∀ Q : VK, (∀ v H', Ex H H' → Dq (sub H' O) v d → Q v H') → te σ H Q
def EvKA (ta : TA) (ρ : Rho) (ds : List PyData) : Prop := ∀ (σ : L2.St) (H : Hp), σ.length = n → SD O H σ ρ → KP j C f k H σ → ∀ Q : List V → Hp → Prop, (∀ vs H', Ex H H' → DqAll (sub H' O) vs ds → Q vs H') → ta σ H Q
def EvKT (tt : TT) (ρ : Rho) (b : Bool) : Prop := ∀ (σ : L2.St) (H : Hp), σ.length = n → SD O H σ ρ → KP j C f k H σ → ∀ Q : Bool → Hp → Prop, (∀ H', Ex H H' → Q b H') → tt σ H Q
def RunK (t : TS) (ρ : Rho) (d : PyData) : Prop := ∀ (D : Ends) (σ : L2.St) (H : Hp), σ.length = n → SD O H σ ρ → KP j C f k H σ → (∀ v H', Ex H H' → Dq (sub H' O) v d → D.rt v H') → t D σ H
end
section
variable {O : List Addr} {n j i : Nat} {C C2 : Addr} {f : Str} {k : Int} {te : TE} {ta : TA} {tt : TT} {t u : TS} {ρ : Rho} {d : PyData} {ds : List PyData} {K : PySem.W.Frag} {b : Bool}
theorem ek_of (h : EvD O n te ρ d) : EvK O n j C f k te ρ d := fun σ H hn s _ Q q => h σ H hn s Q q
theorem ek_kept : EvK O n j C f k (tKept C f (tVar j)) ρ (.int k) := fun σ H hn s p Q q => by
  obtain ⟨a, dd, h1, h2, h3⟩ := p
  exact ⟨_, h1, a, dd, .int k, rfl, h2, h3, q _ H (Ex.refl H) (.int k)⟩
theorem ek_ve (I : IsiC K C) : EvK O n j C f k (tCB (rIsiQ K) (tCons (tVar j) (tCons (tC (.ty "ValueError")) tNil))) ρ (.bool true) := fun σ H hn s p Q q => by
  obtain ⟨a, dd, h1, h2, h3⟩ := p
  exact ⟨_, h1, a, C, dd, _, .ty "ValueError", .type "ValueError", true, rfl, h2, h3, I, fun u r => r, kit_ve I, q _ H (Ex.refl H) (.bl true)⟩
theorem ek_isi (I : IsiC K C) (h : PySem.W.kitOne K (.ref C) (.ref C2) = some b) : EvK O n j C f k (tCB (rIsiQ K) (tCons (tVar j) (tCons (tC (.ref C2)) tNil))) ρ (.bool b) := fun σ H hn s p Q q => by
  obtain ⟨a, dd, h1, h2, h3⟩ := p
  exact ⟨_, h1, a, C, dd, _, .ref C2, .ref C2, b, rfl, h2, h3, I, fun u r => r, h, q _ H (Ex.refl H) (.bl b)⟩
theorem eka_nil : EvKA O n j C f k tNil ρ [] := fun σ H _ s _ Q q => q _ H (Ex.refl H) .nil
theorem eka_cons {tr : TA} {x : PyData} {xs : List PyData} (ha : EvK O n j C f k te ρ x) (hr : EvKA O n j C f k tr ρ xs) : EvKA O n j C f k (tCons te tr) ρ (x :: xs) := fun σ H hn s p Q q =>
  ha σ H hn s p _ fun v H1 e1 d1 => hr σ H1 hn (s.ex e1) (p.ex e1) _ fun vs H2 e2 d2 => q _ H2 (e1.trans e2) (.cons (d1.mono (Ex.o O e2)) d2)
theorem ek_lst (hr : EvKA O n j C f k ta ρ ds) (hl : ds.length ≤ 100000) : EvK O n j C f k (tLst ta) ρ (.list ds) := fun σ H hn s p Q q =>
  hr σ H hn s p _ fun vs H1 e1 d1 => ⟨by rw [d1.length]; exact sz_of hl, fun l hp => q _ _ (e1.trans (Ex.new hp)) (.lst (sub_mk upd_same (not_own (own_ex e1 s.own) hp)) (d1.mono (Ex.o O (Ex.new hp))))⟩
/-- the kept exception is not None -/
theorem ekt_isN : EvKT O n j C f k (tTest (tOp (fun x y H Q => y = .non ∧ Q (.bl (decide (x = .non))) H) (tVar j) (tC .non))) ρ false := fun σ H hn s p Q q => by
  obtain ⟨a, dd, h1, h2, h3⟩ := p
  exact ⟨_, h1, rfl, _, rfl, q H (Ex.refl H)⟩
theorem ekt_B (h : EvK O n j C f k te ρ (.bool b)) : EvKT O n j C f k (tB te) ρ b := fun σ H hn s p Q q => h σ H hn s p _ fun v H1 e1 d1 => by
  cases d1
  exact ⟨b, rfl, q H1 e1⟩
theorem rk_when (h : EvKT O n j C f k tt ρ b) (h1 : b = true → RunK O n j C f k t ρ d) (h2 : b = false → RunK O n j C f k u ρ d) : RunK O n j C f k (tSeq (tIfS tt t tNext) u) ρ d := fun D σ H hn s p q => h σ H hn s p _ fun H1 e1 => by
  cases b with
  | true => exact iteT (h1 rfl _ σ H1 hn (s.ex e1) (p.ex e1) fun v H2 e2 d2 => q v H2 (e1.trans e2) d2)
  | false => exact iteF (h2 rfl D σ H1 hn (s.ex e1) (p.ex e1) fun v H2 e2 d2 => q v H2 (e1.trans e2) d2)
theorem rk_ret (h : EvK O n j C f k te ρ d) : RunK O n j C f k (tRet te) ρ d := fun D σ H hn s p q => h σ H hn s p _ fun v H1 e1 d1 => q v H1 e1 d1
/-! ### the try -/
variable {c1 c2 : Value} {ts : Addr → Value → Option Addr → TS} {tb : WX → TS} {ρ1 : Rho}
/-- it runs through -/
theorem rn_try2 (h : ∀ W, RunN O n (tb W) ρ ρ1) : RunN O n (fun D σ H => tb (wKeep2 K c1 c2 i ts D) D σ H) ρ ρ1 := fun D σ H hn s q => h _ D σ H hn s q
/-- its body raises; the suite keeps the exception in slot j -/
theorem rr_try2 (hx : ∀ (W : WX) (D : Ends) (σ : L2.St) (H : Hp), σ.length = n → SD O H σ ρ → Out C f H (fun cls d H' => W cls d σ H') k → tb W D σ H)
    (hts : ∀ a cls d, ts a cls d = tAsg (tVar i) (gName j)) (hm : PySem.W.exmAny K (.ref C) [c1, c2] = some true) (hi : i < n) (hj : j < n) (hij : i ≠ j)
    (h2 : RunK O n j C f k u ((ρ.set j none).set i none) d) : RunR O n (tSeq (fun D σ H => tb (wKeep2 K c1 c2 i ts D) D σ H) u) ρ d := fun D σ H hn s q => by
  refine hx _ _ σ H hn s fun dd H' e1 nd hd => ⟨hm, fun a na => ?_⟩
  rw [hts]
  have li : i < σ.length := by rw [hn]; exact hi
  refine ⟨.ref a, List.getElem?_set_self li, fun na2 => ?_⟩
  have x3 : Ex H' (upd H' a (exk a (.ref C) (some dd))) := Ex.new na
  have x13 := e1.trans x3
  refine h2 D _ _ (by rw [List.length_set, List.length_set, List.length_set]; exact hn) ?_ ⟨a, dd, ?_, upd_same, x3 _ _ hd⟩ fun v H3 e3 d3 => q v H3 (x13.trans e3) d3
  · refine ⟨own_ex x13 s.own, fun l x hl => ?_⟩
    by_cases c : i = l
    · subst c
      by_cases hb : i < (ρ.set j none).length
      · rw [List.getElem?_set_self hb] at hl
        cases hl
      · rw [List.getElem?_eq_none (by rw [List.length_set]; omega)] at hl
        cases hl
    · rw [List.getElem?_set_ne c] at hl
      by_cases c2 : j = l
      · subst c2
        by_cases hb : j < ρ.length
        · rw [List.getElem?_set_self hb] at hl
          cases hl
        · rw [List.getElem?_eq_none (by rw [List.length_set]; omega)] at hl
          cases hl
      · rw [List.getElem?_set_ne c2] at hl
        obtain ⟨v, h1, h3⟩ := s.at' l x hl
        exact ⟨v, by rw [List.getElem?_set_ne c, List.getElem?_set_ne c2, List.getElem?_set_ne c]; exact h1, h3.mono (Ex.o O x13)⟩
  · rw [List.getElem?_set_ne hij, List.getElem?_set_self (by rw [List.length_set]; omega)]
end
/-! ### tests that raise -/
section
variable {O : List Addr} {n : Nat} {ρ : Rho} {C : Addr} {f : Str} {k : Int} {te : TE} {tt : TT} {t u : TS} {E : XK}
def EvTE (O : List Addr) (n : Nat) (C : Addr) (f : Str) (tt : TT) (ρ : Rho) (k : Int) (E : L2.St → XK) : Prop := ∀ (σ : L2.St) (H : Hp), σ.length = n → SD O H σ ρ → Out C f H (E σ) k → ∀ Q, tt σ H Q
theorem te_B {E : L2.St → XK} (h : EvE O n C f te ρ k E) : EvTE O n C f (tB te) ρ k E := fun σ H hn s q Q => h σ H hn s q _
theorem te_not {E : L2.St → XK} (h : EvTE O n C f tt ρ k E) : EvTE O n C f (tNot tt) ρ k E := fun σ H hn s q Q => h σ H hn s q _
theorem re_test (h : EvTE O n C f tt ρ k (fun _ => E)) : RunE O n C f E (tSeq (tIfS tt t tNext) u) ρ k := fun D σ H hn s q => h σ H hn s q _
theorem re_raiseT {ta : TA} (h : EvDA O n ta ρ [.int k]) : RunE O n C f E (tSeq (tRz C f (fun cls d _ H => E cls d H) ta) u) ρ k := re_fst (re_raise h)
/-- an expression by cases, whose chosen part raises -/
theorem ee_if {E : L2.St → XK} {ta tb : TE} {tt : TT} {b : Bool} (h : EvDT O n tt ρ b) (h1 : b = true → EvE O n C f ta ρ k E) (h2 : b = false → EvE O n C f tb ρ k E) : EvE O n C f (tIf tt ta tb) ρ k E := fun σ H hn s q Q => h σ H hn s _ fun H1 e1 => by
  cases b with
  | true => exact iteT (h1 rfl σ H1 hn (s.ex e1) (q.ex e1) Q)
  | false => exact iteF (h2 rfl σ H1 hn (s.ex e1) (q.ex e1) Q)
end
end DL
/-! KWX: an own exception class called with keywords. -/
namespace PySem
namespace HandSPX
section
variable {M : Model} {A : Around} {E : Value → Shared → Prop} {h : Heap} {g : Array GenState} {d : Drawn} {t : Nat} {os : OsState}
variable {nm q : Str} {C N : Addr} {bs bm bmB : List Value} {hdct : Bool} {sn : List Str} {sub : List Value} {ab : Bool} {col : Option Bool} {dd : Option Addr} {k0 k1 k2 k3 k5 : Option Value} {B newId initId : String} {kw : List (Str × Value)}
theorem check_new_kw (F : ExcBaseFacts B newId initId bmB) (hT : ∀ X : String, bm.contains (.type X) = bmB.contains (.type X)) {rest : List Value} {Q : Unit → Shared → Prop}
    (hC : h.get? C = some (excClassObj nm q C N bs bm hdct sn sub ab col dd k0 k1 k2 k3 k5 newId)) (hq : Q () ⟨h, g, d, t, os⟩) : wpAny M A (checkBuiltinCall newId ⟨.ref C :: rest, kw⟩) Q E ⟨h, g, d, t, os⟩ := by
  have hcont : (Value.ref C :: bm).contains (.type B) = true := by rw [List.contains_cons, hT, F.hasB, Bool.or_true]
  have hstar := F.noStar
  simp only [checkBuiltinCall, F.newKind, F.newSplit, F.newRow]
  repeat (first | refine wpAny_loadPart_at hC ?_ | (refine wpAny_isSubtype_exc hC ?_; rw [hcont]) | refine wpAny_staticBase_exc hC ?_ | refine wpAny_madeBy_exc hC ?_ | simp only [bne_self_eq_false, Bool.false_eq_true, if_false] | wp_step)
  exact hq
end
section
variable {prog : Program} {w : World} {A : Around} {E : Value → Shared → Prop} {R : Result → Shared → Prop} {h : Heap} {g : Array GenState} {d : Drawn} {t : Nat} {os : OsState}
variable {nm q : Str} {C N : Addr} {bs bm bmB : List Value} {hdct : Bool} {sn : List Str} {sub : List Value} {ab : Bool} {col : Option Bool} {dd : Option Addr} {k0 k1 k2 k3 k5 : Option Value} {B newId initId : String} {kw : List (Str × Value)}
theorem new_kw (F : ExcBaseFacts B newId initId bmB) (hT : ∀ X : String, bm.contains (.type X) = bmB.contains (.type X)) {rest : List Value}
    (hC : h.get? C = some (excClassObj nm q C N bs bm hdct sn sub ab col dd k0 k1 k2 k3 k5 newId))
    (hq : R (.ok (.ret (.ref (h.objs.size + 1)))) ⟨(h.push { cls := .type "tuple", data := .seq rest.toArray }).push
      { cls := .ref C, data := .fields #[.ref h.objs.size, .none, .none, .none, .bool false, .none] }, g, d, t, os⟩) (hrest : rest.length ≤ sizeLine) :
    codeAny (model prog w) A (.builtin newId ⟨.ref C :: rest, kw⟩) R ⟨h, g, d, t, os⟩ := by
  have hends := F.ends
  have hcB : (Value.ref C :: bm).contains (.type B) = true := by rw [List.contains_cons, hT, F.hasB, Bool.or_true]
  have hcA : (Value.ref C :: bm).contains (.type "AttributeError") = false := by rw [List.contains_cons, hT, F.noAttr]; rfl
  have hcN : (Value.ref C :: bm).contains (.type "NameError") = false := by rw [List.contains_cons, hT, F.noName]; rfl
  refine codeAny_builtinAt F.entry ?_
  unfold Builtin.«BaseException.__new__»
  refine wpAt_bind ?_
  show wpAt _ _ _ (stack >>= _) _ _ _
  refine wpAt_bind (wpAt_stack fun p below => wpAt_of_wpAny ?_)
  wp_walk
  refine wpAt_of_wpAny ?_
  rw [F.owner]
  repeat (first | with_reducible refine wpAny_madeHere_exc F.canon hC ?_ | with_reducible refine wpAny_loadPart_at hC ?_ | (with_reducible refine wpAny_isSubtype_exc hC ?_; first | rw [hcB] | rw [hcA] | rw [hcN]) | wp_step)
  show R _ _
  rw [Heap.size_push]
  exact hq
theorem type_call_kw (F : ExcBaseFacts B newId initId bmB) (hT : ∀ X : String, bm.contains (.type X) = bmB.contains (.type X)) {rest : List Value} {fI : Addr} {Q : Fin → Shared → Prop}
    (hC : h.get? C = some (excClassObj nm q C N bs bm hdct sn sub ab col dd k0 k1 k2 k3 k5 newId))
    (hi : W.Looks (model prog w) h (typeLookup (.ref C) "__init__") (some (.ref fI))) (hb : ∀ self, W.Looks (model prog w) h (bindSpecial (.ref fI) self) (.ref fI, [self])) (hrest : rest.length ≤ sizeLine)
    (hq : codeAny (model prog w) A (.call (.ref fI) ⟨.ref (h.objs.size + 1) :: rest, kw⟩)
      (fun r s' => match r with | .ok (.ret v) => v = .none ∧ Q (.done (.ret (.ref (h.objs.size + 1)))) s' | .ok _ => False | .error e => E e s')
      ⟨(h.push (W.kdv_tup rest)).push (excO C h.objs.size), g, d, t, os⟩) :
    wpAny (model prog w) A (Builtin.«type.__call__» ⟨.ref C :: rest, kw⟩) Q E ⟨h, g, d, t, os⟩ := by
  repeat (first | with_reducible refine wpAny_loadPart_at hC ?_ | with_reducible refine wpAny_madeBy_exc hC ?_ | wp_step)
  refine codeAny_call_builtin_code (Code.quiet_builtin _ F.quiet) (check_new_kw F hT hC ?_)
  refine new_kw F hT hC ?_ hrest
  show wpAny _ _ _ _ _ _
  have k : ∀ b o, h.get? b = some o → ((h.push (W.kdv_tup rest)).push (excO C h.objs.size)).get? b = some o := fun b o e => Heap.get?_push_of_some _ (Heap.get?_push_of_some _ e)
  have hC₁ := k _ _ hC
  have hget : ((h.push (W.kdv_tup rest)).push (excO C h.objs.size)).get? (h.objs.size + 1) = some (excO C h.objs.size) := by heap_get
  have hcC : (Value.ref C :: bm).contains (.ref C) = true := by simp
  have i1 := hi.keeps k
  have b1 := (hb (.ref (h.objs.size + 1))).keeps k
  unfold isInstance
  repeat (first | with_reducible refine wpAny_loadPart_at hget ?_ | (with_reducible refine wpAny_isSubtype_exc hC₁ ?_; rw [hcC]) | wp_step)
  show wpAny _ _ (typeLookup (.ref C) _) _ _ _
  refine i1.at ?_
  refine wpAny_holding (wpAny_bind (b1.at ?_))
  refine wpAny_bind (wpAny_call (codeAny_mono hq fun r s' z => ?_))
  rcases r with e | (v | _ | _ | _) <;> first | exact z | exact z.elim | skip
  obtain ⟨rfl, z⟩ := z
  first
    | exact wpAny_pure (wpAny_pure z)
    | (wp_walk; exact z)
theorem call_kw (F : ExcBaseFacts B newId initId bmB) (hT : ∀ X : String, bm.contains (.type X) = bmB.contains (.type X)) {rest : List Value} {fI : Addr}
    (hC : h.get? C = some (excClassObj nm q C N bs bm hdct sn sub ab col dd k0 k1 k2 k3 k5 newId))
    (hi : W.Looks (model prog w) h (typeLookup (.ref C) "__init__") (some (.ref fI))) (hb : ∀ self, W.Looks (model prog w) h (bindSpecial (.ref fI) self) (.ref fI, [self])) (hrest : rest.length ≤ sizeLine)
    (hq : codeAny (model prog w) (A.under (.builtin "type.__call__" ⟨.ref C :: rest, kw⟩)) (.call (.ref fI) ⟨.ref (h.objs.size + 1) :: rest, kw⟩) (W.InitBack (h.objs.size + 1) R)
      ⟨(h.push (W.kdv_tup rest)).push (excO C h.objs.size), g, d, t, os⟩) :
    codeAny (model prog w) A (.call (.ref C) ⟨rest, kw⟩) R ⟨h, g, d, t, os⟩ := by
  have f1 := tc_lookup
  have f2 := tc_bind (.ref C)
  have hTy : (⟨h, g, d, t, os⟩ : Shared).TypeIs (.ref C) "type" := ⟨_, hC, rfl⟩
  refine codeAny_of_tree ?_
  show wpAny _ _ (callAny (.ref C) _) _ _ _
  repeat (any_goals (first | assumption | with_reducible refine wpAny_loadPart_at hC ?_ | wp_step))
  refine ⟨rfl, ?_⟩
  refine codeAny_call_builtin_at (Code.quiet_builtin _ (by decide +kernel)) entry_typeCall (wpAny_check_type_call_sub hC (type_call_kw F hT hC hi hb hrest ?_))
  refine codeAny_mono hq fun r s' z => ?_
  rcases r with e | (v | _ | _ | _) <;> exact z
end
end HandSPX
end PySem
namespace L2
open PySem PySem.Spec PyProof.Rows
/-- C(k = v, ..), an own exception class with an own __init__ -/
def tMkK (C : Addr) (sp : Sp) (m : Nat) (gV : List V → List V → List V) (tk : TA) : St → Hp → XK → Prop := fun σ H Q => tk σ H fun zs H1 => zs.length = m ∧ ∀ a, H1 a = none → sp (gV [.ref a] zs) (upd H1 a (exo a C none))
  (fun v H2 => v = .non ∧ ∃ (d : Addr) (fs : List (Str × V)), H2 a = some (exo a C (some d)) ∧ H2 d = some (exd d fs) ∧ H1 d = none ∧ Q (.ref C) (some d) (upd (del H2 a) d (.xd fs))) (fun _ _ _ => False)
theorem pmk_oexK {X : Cx} {CX : CXT} {x : Str} {C fI : Addr} {k : Nat} {fd : FuncData} {ps ks : List Str} {sp : Sp} {p pos : Pos} {kws : List Keyword} {tk : TA} {g : List Value → List Value → List Value} {gV : List V → List V → List V} (T : OexC X.K C) (iC : PySem.W.findIn X.K (.ref C) "__init__" = some (some (.ref fI))) (tI : PySem.W.typeIn X.K (.ref fI) = some (.type "function"))
    (F1 : FnOk X.prog X.w X.K X.mg X.base CX k fI fd ps sp) (hr : Room (k + 1) X.A) (hb : KBn X.K fd ps 1 ks g gV) (hx : Passes CX X (fun _ _ _ => False)) (hg : Gl X x) (hm : X.mg x = some (.ref C)) (hkw : PK X kws tk)
    (hall : (backToKw pos (keywordEach kws X.env)).all (·.1.isSome) = true := by rfl) (hks : (backToKw pos (keywordEach kws X.env)).filterMap (·.1) = ks := by rfl) (hdb : (x == ("__debug__" : Str)) = false := by decide)
    (hpl : ((backTo pos (starEach [] X.env)).any (·.1) || (backToKw pos (keywordEach kws X.env)).any (·.1.isNone)) = false := by rfl) :
    PMk X (.Call (.Name x p) [] kws pos) (tMkK C sp ks.length gV tk) := by
  intro pins s σ H Q I h
  obtain ⟨nm, q, N, bs, bm, sn, sub, ab, col, dd, k0, k1, k2, k3, k5, hC, hbm⟩ := T.cls
  refine wpAny_Call_Name_kw (ld_glob I hg hm ?_ hdb)
  refine PySem.W.callWith_KW0 (h₀ := X.base) I.ok.mod.kin T.kC hall ?_ hpl
  refine thn (hkw.run pos pins s σ H _ I h) fun ws s1 ⟨zs, H1, I1, rz, l1, q1⟩ => ⟨I1.kIn, ?_⟩
  rw [hks]
  show wpAny _ _ (call (.ref C) [] (ks.zip ws)) _ _ _
  obtain ⟨hp, g0, dr, tk0, os⟩ := s1
  have hsz : hp.objs.size ≤ hp.objs.size + 1 := Nat.le_succ _
  have hn : H1 (hp.objs.size + 1) = none := I1.hok.fresh hsz
  have hq := q1 (hp.objs.size + 1) hn
  have kk : ∀ b o, hp.get? b = some o → ((hp.push (PySem.W.kdv_tup [])).push (PySem.HandSPX.excO C hp.objs.size)).get? b = some o := fun b o e => Heap.get?_push_of_some _ (Heap.get?_push_of_some _ e)
  have hget : ((hp.push (PySem.W.kdv_tup [])).push (PySem.HandSPX.excO C hp.objs.size)).get? (hp.objs.size + 1) = some (PySem.HandSPX.excO C hp.objs.size) := by heap_get
  have I2 : Inv X pins σ (upd H1 (hp.objs.size + 1) (exo (hp.objs.size + 1) C none)) ⟨(hp.push (PySem.W.kdv_tup [])).push (PySem.HandSPX.excO C hp.objs.size), g0, dr, tk0, os⟩ :=
    I1.laid (t' := tk0) (a := hp.objs.size + 1) (o := exo (hp.objs.size + 1) C none) (h' := (hp.push (PySem.W.kdv_tup [])).push (PySem.HandSPX.excO C hp.objs.size)) kk hsz (exo_ok hget)
  have r1 : Vals [V.ref (hp.objs.size + 1)] [Value.ref (hp.objs.size + 1)] := .cons rfl .nil
  have r2 := hb.rel r1 rz
  refine wpAny_call (PySem.HandSPX.call_kw F.excBase_ValueError (fun Y => PySem.HandSPX.refsVE_contains Y bm hbm) (I1.kIn _ _ hC) (PySem.W.looks_findIn I1.kIn iC) (fun self => PySem.W.bind_fn I1.kIn self tI) (Nat.zero_le _)
    (codeAny_mono (F1.run _ X.stack _ _ ⟨[Value.ref (hp.objs.size + 1)], ks.zip ws⟩ (g [Value.ref (hp.objs.size + 1)] ws) _ _ (fun _ _ _ => False) (hr.make C [] (ks.zip ws)) (I2.env0.make C [] (ks.zip ws)) (hb.to _ [Value.ref (hp.objs.size + 1)] ws I2.kIn rfl (rz.length.symm.trans l1)) r2 hq) fun r s' hq' => ?_))
  cases r with
  | error er => exact hx pins σ _ _ er s' I2 hq'
  | ok fl =>
    cases fl with
    | ret u =>
      obtain ⟨v, H2, os2, bare2, un2, hok2, rv, ev, d, fs, ea, ed, hd1, q2⟩ := hq'
      subst ev
      obtain ⟨h2, g2, d2, t2, os'⟩ := s'
      exact ⟨rv, mk_end (raises_own T.exC T.tyC) I1 hsz kk un2 hok2 os2 bare2 ea ed hd1 q2⟩
    | next => exact False.elim hq'
    | brk => exact False.elim hq'
    | cont => exact False.elim hq'
end L2
/-! DXV: own exceptions as values: made (by places, by names, of nothing), kept as data, asked by isinstance, read by their fields. -/
namespace DL
open PySem PySem.Spec L2 PyProof.Rows
/-- an expression that makes an exception, its value kept -/
def tMkV (t : L2.St → Hp → XK → Prop) : TE := fun σ H Q => t σ H fun cls d H' => ∀ a, H' a = none → Q (.ref a) (upd H' a (exk a cls d))
theorem pe_mkV {X : Cx} {e : Expr} {t : L2.St → Hp → XK → Prop} (he : PMk X e t) : PE X e (tMkV t) := by
  refine ⟨fun pins s σ H Q I h => wpAny_mono (he pins s σ H _ I h) (fun u s' x => ?_) fun _ _ z => z⟩
  obtain ⟨a, oe, vs, sI, H', cls, d, rfl, J, k, hne, ha, hz, hd, h1, na, os, ag, r, q⟩ := x
  obtain ⟨hp, g, dr, tk, os'⟩ := s'
  have J1 := J.laidN (t' := tk) (o := exk a cls d) k hne na (exk_ok ha hz hd)
  obtain rfl : os' = sI.os := os
  exact ⟨.ref a, _, { J1 with bare := ag }, rfl, q a na⟩
/-- C() of a class without an own __init__ -/
theorem pmk_own0 {X : Cx} {C : Addr} {bmB : List Value} {B newId initId : String} {x : Str} {p pos : Pos} (F : ExcBaseFacts B newId initId bmB) (q : PySem.W.excIn X.K C bmB newId = true) (gC : X.mg x = some (.ref C))
    (kC : PySem.W.keepIn X.K (.ref C) = true) (r : Raises X (.ref C)) (hg : Gl X x) (hdb : (x == ("__debug__" : Str)) = false := by decide) :
    PMk X (.Call (.Name x p) [] [] pos) (fun _ H Q => Q (.ref C) none H) := by
  intro pins s σ H Q I h
  refine wpAny_Call_Name_kw (ld_glob I hg gC ?_ hdb)
  refine PySem.W.callWith_K0 I.kIn kC ?_
  show wpAny _ _ (call (.ref C) []) _ _ _
  obtain ⟨bm, N, nm, qn, bs, hdct, sn, sub, ab, col, dd, k0, k1, k2, k3, k5, mN, hC, hN, hni, T⟩ := exc_obj I.kIn q
  refine wpAny_call_exc_subT F T hC hN hni (fun h' e hm => ?_) (Nat.zero_le _)
  exact mk_of I hm r h (I.hok.gone hm.new)
end DL
namespace DL
open PySem L2 Evl PyProof.Rows TL RZ
/-- an exception of the class at C with these fields, as data; without any: none of its own -/
def exD (C : Addr) (ks : List (PyData × PyData)) : PyData := .dict ((.str "error", .int (C : Int)) :: ks)
def exD0 (C : Addr) : PyData := exD C [(.none, .none)]
theorem dq_ex {H : Hp} {v : V} {C : Addr} {ks : List (PyData × PyData)} (h : Dq H v (exD C ks)) : ∃ a, v = .ref a ∧ (H a = some (exk a (.ref C) none) ∨ ∃ dx fs, H a = some (exk a (.ref C) (some dx)) ∧ H dx = some (.xd fs)) := by
  generalize e : exD C ks = d at h
  unfold exD at e
  cases h with
  | exo h1 h2 k =>
    injection e with e
    injection e with e1 e2
    injection e1 with e1 e3
    injection e3 with e3
    have e4 := Int.ofNat.inj e3
    subst e4
    exact ⟨_, rfl, .inr ⟨_, _, h1, h2⟩⟩
  | exn h1 =>
    injection e with e
    injection e with e1 e2
    injection e1 with e1 e3
    injection e3 with e3
    have e4 := Int.ofNat.inj e3
    subst e4
    exact ⟨_, rfl, .inl h1⟩
  | ob a k =>
    injection e with e
    injection e with e1 e2
    injection e1 with e1 e3
    cases e1
  | dic a k =>
    injection e with e
    injection e with e1 e2
    injection e1 with e1 e3
    cases e1
  | _ => cases e
theorem dq_ex1 {H : Hp} {v : V} {C : Addr} {f : Str} {d : PyData} (h : Dq H v (exD C [(.str f, d)])) : ∃ a dx w, v = .ref a ∧ H a = some (exk a (.ref C) (some dx)) ∧ H dx = some (.xd [(f, w)]) ∧ Dq H w d := by
  generalize e : exD C [(.str f, d)] = q at h
  unfold exD at e
  cases h with
  | exo h1 h2 k =>
    injection e with e
    injection e with e1 e2
    injection e1 with e1 e3
    injection e3 with e3
    have e4 := Int.ofNat.inj e3
    subst e4
    subst e2
    cases k with
    | cons hv hr =>
      cases hr
      exact ⟨_, _, _, rfl, h1, h2, hv⟩
  | exn h1 =>
    injection e with e
    injection e with e1 e2
    injection e2 with e2 e5
    injection e2 with e2 e6
    cases e2
  | ob a k =>
    injection e with e
    injection e with e1 e2
    injection e1 with e1 e3
    cases e1
  | dic a k =>
    injection e with e
    injection e with e1 e2
    injection e1 with e1 e3
    cases e1
  | _ => cases e
section
variable {O : List Addr} {n : Nat} {ρ : Rho} {C fI : Addr} {f : Str} {d : PyData} {ta : TA} {te : TE} {K : PySem.W.Frag}
theorem mk_end1 {H0 H1 : Hp} {v : V} (e1 : Ex H0 H1) (own : ∀ a, a ∈ O → H0 a ≠ none) (d1 : Dq (sub H1 O) v d) {a dx : Addr} {Q : VK} (na : H1 a = none) (nd : H1 dx = none) (hne : dx ≠ a) (q : ∀ v H', Ex H0 H' → Dq (sub H' O) v (exD C [(.str f, d)]) → Q v H') :
    ∀ b, (upd (del (upd (upd (upd H1 a (exo a C none)) dx (exd dx [(f, v)])) a (exo a C (some dx))) a) dx (.xd [(f, v)])) b = none →
      Q (.ref b) (upd (upd (del (upd (upd (upd H1 a (exo a C none)) dx (exd dx [(f, v)])) a (exo a C (some dx))) a) dx (.xd [(f, v)])) b (exk b (.ref C) (some dx))) := fun b nb => by
  have x2 : Ex H1 (upd (del (upd (upd (upd H1 a (exo a C none)) dx (exd dx [(f, v)])) a (exo a C (some dx))) a) dx (.xd [(f, v)])) := fun y o hy => by
    have ya : y ≠ a := ne_of_none hy na
    have yd : y ≠ dx := ne_of_none hy nd
    rw [upd_ne yd, del_ne ya, upd_ne ya, upd_ne yd, upd_ne ya]
    exact hy
  have hdx : (upd (del (upd (upd (upd H1 a (exo a C none)) dx (exd dx [(f, v)])) a (exo a C (some dx))) a) dx (.xd [(f, v)])) dx = some (.xd [(f, v)]) := upd_same
  generalize upd (del (upd (upd (upd H1 a (exo a C none)) dx (exd dx [(f, v)])) a (exo a C (some dx))) a) dx (.xd [(f, v)]) = H2 at x2 hdx nb
  have x3 : Ex H2 (upd H2 b (exk b (.ref C) (some dx))) := Ex.new nb
  have x13 := (e1.trans x2).trans x3
  have nbO : b ∉ O := not_own (own_ex (e1.trans x2) own) nb
  have ndO : dx ∉ O := not_own (own_ex e1 own) nd
  refine q _ _ x13 (.exo (sub_mk upd_same nbO) (sub_mk (x3 _ _ hdx) ndO) (.cons (d1.mono (Ex.o O (x2.trans x3))) .nil))
/-- C(e) -/
theorem ed_mk (h : EvDA O n ta ρ [d]) : EvD O n (tMkV (tMkO C (spInit C f) [] ta)) ρ (exD C [(.str f, d)]) := fun σ H hn s Q q => h σ H hn s _ fun vs H1 e1 d1 => by
  cases d1 with
  | @cons w _ _ _ a r =>
    cases r
    refine ⟨by show 1 ≤ 1000; decide, fun x nx => ⟨x, _, rfl, upd_same, fun dx ndx hne => ⟨rfl, dx, [(f, w)], upd_same, ?_, ?_, ?_⟩⟩⟩
    · rw [upd_ne hne]
      exact upd_same
    · rw [upd_ne hne] at ndx
      exact ndx
    · rw [upd_ne hne] at ndx
      exact mk_end1 e1 s.own a nx ndx hne q
/-- C(f = e) -/
theorem ed_mkK {g : List V → List V → List V} (hg : ∀ a zs, g [.ref a] zs = .ref a :: zs) (h : EvDA O n ta ρ [d]) : EvD O n (tMkV (tMkK C (spInit C f) 1 g ta)) ρ (exD C [(.str f, d)]) := fun σ H hn s Q q => h σ H hn s _ fun vs H1 e1 d1 => by
  cases d1 with
  | @cons w _ _ _ a r =>
    cases r
    refine ⟨rfl, fun x nx => ?_⟩
    rw [hg]
    refine ⟨x, _, rfl, upd_same, fun dx ndx hne => ⟨rfl, dx, [(f, w)], upd_same, ?_, ?_, ?_⟩⟩
    · rw [upd_ne hne]
      exact upd_same
    · rw [upd_ne hne] at ndx
      exact ndx
    · rw [upd_ne hne] at ndx
      exact mk_end1 e1 s.own a nx ndx hne q
/-- C() -/
theorem ed_mk0 : EvD O n (tMkV (fun _ H Q => Q (.ref C) none H)) ρ (exD0 C) := fun σ H hn s Q q => fun b nb =>
  q _ _ (Ex.new nb) (.exn (sub_mk upd_same (not_own s.own nb)))
/-- e.f -/
theorem ed_exf (h : EvD O n te ρ (exD C [(.str f, d)])) : EvD O n (tKept C f te) ρ d := fun σ H hn s Q q => h σ H hn s _ fun v H1 e1 d1 => by
  obtain ⟨a, dx, w, rfl, h1, h2, h3⟩ := dq_ex1 d1
  exact ⟨a, dx, w, rfl, (sub_of h1).1, (sub_of h2).1, q w H1 e1 h3⟩
/-- isinstance(e, x) of an exception -/
def rIsiX (K : PySem.W.Frag) : List V → Hp → VK → Prop := fun xs H Q => ∃ (a C : Addr) (v2 : V) (u2 : Value) (b : Bool), xs = [.ref a, v2] ∧ (H a = some (exk a (.ref C) none) ∨ ∃ dd fs, H a = some (exk a (.ref C) (some dd)) ∧ H dd = some (.xd fs)) ∧ IsiC K C ∧ (∀ u, RelV v2 u → u = u2) ∧ PySem.W.kitOne K (.ref C) u2 = some b ∧ Q (.bl b) H
theorem kIsiX {X : Cx} (hK : X.K = K) : CallR X (.builtin "isinstance") (rIsiX K) := by
  subst hK
  intro pins s σ H xs us Q I r h
  obtain ⟨a, C, v2, u2', b, rfl, ea, C1, hu, me, q⟩ := h
  obtain ⟨u1, u2, rfl, r1, r2⟩ := vals2 r
  obtain rfl : u1 = Value.ref a := r1
  obtain rfl := hu u2 r2
  rcases ea with ea | ⟨dd, fs, ea, ed⟩
  · obtain ⟨oe, ha, hz, vs, hd⟩ := exk_at I.hok ea
    have J : PySem.W.InstAt s.heap a oe C none := ⟨ha, hz.1, by unfold PySem.W.notCls; rw [hd] <;> rfl, by rw [hz.2]; trivial⟩
    exact PySem.W.kia_one (PySem.W.kitx_exc C1.cl C1.ga C1.gg C1.ex C1.cc C1.sp C1.tk C1.mr) I.kIn J me (fun z => nomatch z) fun tk => ⟨.bl b, H, I.tok tk, rfl, q⟩
  · obtain ⟨oe, ha, hz, vs, hd⟩ := exk_at I.hok ea
    have hx : ObjOk X.prog X.w H s.heap dd (.xd fs) := I.hok dd _ ed
    obtain ⟨mA, hns, hr⟩ := hx
    obtain ⟨od, ho, hl⟩ := lookIn_ns hns
    have J : PySem.W.InstAt s.heap a oe C (some od) := ⟨ha, hz.1, by unfold PySem.W.notCls; rw [hd] <;> rfl, by rw [hz.2]; exact ho⟩
    exact PySem.W.kia_one (PySem.W.kitx_exc C1.cl C1.ga C1.gg C1.ex C1.cc C1.sp C1.tk C1.mr) I.kIn J me (fun z => nomatch z) fun tk => ⟨.bl b, H, I.tok tk, rfl, q⟩
theorem ed_isx {ks : List (PyData × PyData)} {v2 : V} {u2 : Value} {b : Bool} (I : IsiC K C) (hu : ∀ u, RelV v2 u → u = u2) (hk : PySem.W.kitOne K (.ref C) u2 = some b) (h : EvD O n te ρ (exD C ks)) : EvD O n (tCB (rIsiX K) (tCons te (tCons (tC v2) tNil))) ρ (.bool b) := fun σ H hn s Q q => h σ H hn s _ fun v H1 e1 d1 => by
  obtain ⟨a, rfl, h1⟩ := dq_ex d1
  refine ⟨a, C, v2, u2, b, rfl, ?_, I, hu, hk, q _ H1 e1 (.bl b)⟩
  rcases h1 with h1 | ⟨dx, fs, h1, h2⟩
  · exact .inl (sub_of h1).1
  · exact .inr ⟨dx, fs, (sub_of h1).1, (sub_of h2).1⟩
end
/-- isinstance(e, T) for a class T of the language -/
theorem kit_ty2 {K : PySem.W.Frag} {C : Addr} {T : String} {b : Bool} (m : PySem.W.kitMeta T = true) (h : PySem.W.subIn K (.ref C) (.type T) = some b) : PySem.W.kitOne K (.ref C) (.type T) = some b := by
  unfold PySem.W.kitOne PySem.W.kitCls
  rw [if_neg (by intro z; have q := eq_of_beq z; cases q)]
  simp only [m, if_true, h]
end DL
namespace DL
open PySem L2 Evl PyProof.Rows TL RZ
/-- what the written part says of an own exception class without an __init__ -/
structure Err0 (K : PySem.W.Frag) (mg : Str → Option Value) (x : Str) (C : Addr) : Prop where
  gC : mg x = some (.ref C)
  q : PySem.W.excIn K C [.type "ValueError", .type "Exception", .type "BaseException", .type "object"] "ValueError.__new__" = true
  kC : PySem.W.keepIn K (.ref C) = true
  exC : PySem.W.subIn K (.ref C) (.type "BaseException") = some true
  tyC : PySem.W.typeIn K (.ref C) = some (.type "type")
theorem kit_sub {K : PySem.W.Frag} {C S : Addr} (i : PySem.W.isClsIn K S = true) (t : PySem.W.typeIn K (.ref S) = some (.type "type")) (u : PySem.W.subIn K (.ref C) (.ref S) = some true) : PySem.W.kitOne K (.ref C) (.ref S) = some true := by
  have i2 : (PySem.W.clsIn K S).isSome = true := i
  have a2 : ((PySem.W.clsIn K S).isSome && PySem.W.typeIn K (.ref S) == some (.type "type")) = true := by
    rw [i2, t]
    rfl
  unfold PySem.W.kitOne
  by_cases c : (Value.ref C == Value.ref S) = true
  · rw [if_pos c]
  · rw [if_neg c]
    unfold PySem.W.kitCls
    show (if _ then _ else _) = _
    rw [if_pos a2]
    exact u
theorem kb_init {K : PySem.W.Frag} {f : Addr} {fd : FuncData} {x qual k0 k1 : Str} {st : Stmt} (F : Fun K x qual st f fd)
    (h : ∀ (kV doc pm : Value) (an : Option Addr) (cdv ct : Value) (u v : Value), bindArgs (PySem.W.fnOf x qual (defArgs st) (defBody st) (defScope st) .none kV doc pm an cdv ct) ⟨[u], [(k1, v)]⟩ = pure [(k0, u), (k1, v)]) : KBn K fd [k0, k1] 1 [k1] (fun us ws => us ++ ws) (fun vs zs => vs ++ zs) := by
  obtain ⟨oc, od, kV, doc, pm, an, cdv, ct, osl, rfl, lk, hcd⟩ := F.ex
  refine ⟨fun s us ws X l1 l2 => ?_, fun r1 r2 => r1.append r2⟩
  match us, ws, l1, l2 with
  | [u], [v], _, _ => exact .of_eq (h kV doc pm an cdv ct u v)
section
variable {X : Cx} {K : PySem.W.Frag} {mg : Str → Option Value} {x f : Str} {C fI : Addr} {fd : FuncData} {k : Nat} {e : Expr} {es : List Expr} {ta tk : TA} {p pos : Pos} {ps : List Str} {kws : List Keyword}
theorem pe_mk (hK : X.K = K) (hmg : X.mg = mg) (T : ErrC K mg x C fI f) (F1 : FnOk X.prog X.w X.K X.mg X.base CX0 k fI fd ps (spInit C f)) (hb : Binds K fd ps []) (hr : Room (k + 1) X.A)
    (hg : Gl X x) (ha : PA X (e :: es) ta) (hdb : (x == ("__debug__" : Str)) = false := by decide) (he : starEach (e :: es) X.env = (false, eval e X.env) :: starEach es X.env := by rfl) (hpl : (backTo pos (starEach es X.env)).any (·.1) = false := by rfl) :
    PE X (.Call (.Name x p) (e :: es) [] pos) (tMkV (tMkO C (spInit C f) [] ta)) := by
  subst hK
  subst hmg
  exact pe_mkV (pmk_oex (dvs := []) T.cls T.iC T.tC F1 hr hb .nil (fun _ _ _ _ _ _ _ z => z.elim) hg T.gC ha hdb he hpl)
theorem pe_mkK (hK : X.K = K) (hmg : X.mg = mg) (T : ErrC K mg x C fI f) (F1 : FnOk X.prog X.w X.K X.mg X.base CX0 k fI fd ps (spInit C f)) (hb : KBn K fd ps 1 [f] (fun us ws => us ++ ws) (fun us ws => us ++ ws)) (hr : Room (k + 1) X.A)
    (hg : Gl X x) (hkw : PK X kws tk)
    (hall : (backToKw pos (keywordEach kws X.env)).all (·.1.isSome) = true := by rfl) (hks : (backToKw pos (keywordEach kws X.env)).filterMap (·.1) = [f] := by rfl) (hdb : (x == ("__debug__" : Str)) = false := by decide)
    (hpl : ((backTo pos (starEach [] X.env)).any (·.1) || (backToKw pos (keywordEach kws X.env)).any (·.1.isNone)) = false := by rfl) :
    PE X (.Call (.Name x p) [] kws pos) (tMkV (tMkK C (spInit C f) 1 (fun us ws => us ++ ws) tk)) := by
  subst hK
  subst hmg
  exact pe_mkV (pmk_oexK T.cls T.iC T.tC F1 hr hb (fun _ _ _ _ _ _ _ z => z.elim) hg T.gC hkw hall hks hdb hpl)
theorem pe_mk0 (hK : X.K = K) (hmg : X.mg = mg) (T : Err0 K mg x C) (hg : Gl X x) (hdb : (x == ("__debug__" : Str)) = false := by decide) : PE X (.Call (.Name x p) [] [] pos) (tMkV (fun _ H Q => Q (.ref C) none H)) := by
  subst hK
  subst hmg
  exact pe_mkV (pmk_own0 F.excBase_ValueError T.q T.gC T.kC (raises_own T.exC T.tyC) hg hdb)
end
end DL
namespace K00
open PySem L2 PyProof.Rows DL TL RZ
def top (i : Nat) : Stmt := PySem.Challenge.pw_allbutts_k00_errors.main.body.getD i (.Pass ⟨0, 0, 0, 0⟩)
abbrev s__law_box : Stmt := top 16
abbrev N__law_box : List Str := ["_law_script", "_law_k", "_law_cell"]
theorem sc__law_box : FnScope N__law_box ["_law_script", "_law_k"] (defScope s__law_box) := ⟨rfl, rfl, rfl, by decide +kernel, rfl, by decide +kernel, by decide +kernel⟩
abbrev s__law_take : Stmt := top 17
abbrev N__law_take : List Str := ["_law_box_here", "_law_size_so", "_law_some", "_law_once", "_law_far", "_law_again"]
theorem sc__law_take : FnScope N__law_take ["_law_box_here", "_law_size_so"] (defScope s__law_take) := ⟨rfl, rfl, rfl, by decide +kernel, rfl, by decide +kernel, by decide +kernel⟩
abbrev s__law_cells : Stmt := top 18
abbrev N__law_cells : List Str := ["_law_script", "_law_top_so", "_law_cells_so", "_law_k", "_law_cell", "_law_at_so"]
theorem sc__law_cells : FnScope N__law_cells ["_law_script", "_law_top_so"] (defScope s__law_cells) := ⟨rfl, rfl, rfl, by decide +kernel, rfl, by decide +kernel, by decide +kernel⟩
abbrev s__law_of : Stmt := top 19
abbrev N__law_of : List Str := ["_law_box_here", "_law_goods_so"]
theorem sc__law_of : FnScope N__law_of ["_law_box_here", "_law_goods_so"] (defScope s__law_of) := ⟨rfl, rfl, rfl, by decide +kernel, rfl, by decide +kernel, by decide +kernel⟩
abbrev s__law_same : Stmt := top 20
abbrev N__law_same : List Str := ["_law_got", "_law_due", "_law_mine", "_law_its"]
theorem sc__law_same : FnScope N__law_same ["_law_got", "_law_due"] (defScope s__law_same) := ⟨rfl, rfl, rfl, by decide +kernel, rfl, by decide +kernel, by decide +kernel⟩
abbrev s__law_sorts : Stmt := top 21
abbrev N__law_sorts : List Str := ["_law_caught", "_law_kinds_so"]
theorem sc__law_sorts : FnScope N__law_sorts ["_law_caught"] (defScope s__law_sorts) := ⟨rfl, rfl, rfl, by decide +kernel, rfl, by decide +kernel, by decide +kernel⟩
abbrev s__law_right : Stmt := top 22
abbrev N__law_right : List Str := ["_law_box_here", "_law_far", "_law_tag", "_law_every_so", "_law_k", "_law_own", "_law_got", "_law_due", "_law_j"]
theorem sc__law_right : FnScope N__law_right ["_law_box_here"] (defScope s__law_right) := ⟨rfl, rfl, rfl, by decide +kernel, rfl, by decide +kernel, by decide +kernel⟩
abbrev s_law : Stmt := top 23
abbrev N_law : List Str := ["_law_script", "_law_cells_here", "_law_k"]
theorem sc_law : FnScope N_law ["_law_script"] (defScope s_law) := ⟨rfl, rfl, rfl, by decide +kernel, rfl, by decide +kernel, by decide +kernel⟩
def i_BadAnswer : Stmt := match top 3 with | .ClassDef (body := b) .. => b.getD 0 (.Pass ⟨0, 0, 0, 0⟩) | _ => .Pass ⟨0, 0, 0, 0⟩
theorem sci_BadAnswer : FnScope ["self", "number"] ["self", "number"] (defScope i_BadAnswer) := ⟨rfl, rfl, rfl, by decide +kernel, rfl, by decide +kernel, by decide +kernel⟩
def i_BadLine : Stmt := match top 4 with | .ClassDef (body := b) .. => b.getD 0 (.Pass ⟨0, 0, 0, 0⟩) | _ => .Pass ⟨0, 0, 0, 0⟩
theorem sci_BadLine : FnScope ["self", "number"] ["self", "number"] (defScope i_BadLine) := ⟨rfl, rfl, rfl, by decide +kernel, rfl, by decide +kernel, by decide +kernel⟩
def i_BadRun : Stmt := match top 5 with | .ClassDef (body := b) .. => b.getD 0 (.Pass ⟨0, 0, 0, 0⟩) | _ => .Pass ⟨0, 0, 0, 0⟩
theorem sci_BadRun : FnScope ["self", "place"] ["self", "place"] (defScope i_BadRun) := ⟨rfl, rfl, rfl, by decide +kernel, rfl, by decide +kernel, by decide +kernel⟩
def i_BadText : Stmt := match top 6 with | .ClassDef (body := b) .. => b.getD 0 (.Pass ⟨0, 0, 0, 0⟩) | _ => .Pass ⟨0, 0, 0, 0⟩
theorem sci_BadText : FnScope ["self", "piece"] ["self", "piece"] (defScope i_BadText) := ⟨rfl, rfl, rfl, by decide +kernel, rfl, by decide +kernel, by decide +kernel⟩
def i_Known : Stmt := match top 7 with | .ClassDef (body := b) .. => b.getD 0 (.Pass ⟨0, 0, 0, 0⟩) | _ => .Pass ⟨0, 0, 0, 0⟩
theorem sci_Known : FnScope ["self", "name"] ["self", "name"] (defScope i_Known) := ⟨rfl, rfl, rfl, by decide +kernel, rfl, by decide +kernel, by decide +kernel⟩
def i_NoNumber : Stmt := match top 8 with | .ClassDef (body := b) .. => b.getD 0 (.Pass ⟨0, 0, 0, 0⟩) | _ => .Pass ⟨0, 0, 0, 0⟩
theorem sci_NoNumber : FnScope ["self", "number"] ["self", "number"] (defScope i_NoNumber) := ⟨rfl, rfl, rfl, by decide +kernel, rfl, by decide +kernel, by decide +kernel⟩
def i_NoPlace : Stmt := match top 9 with | .ClassDef (body := b) .. => b.getD 0 (.Pass ⟨0, 0, 0, 0⟩) | _ => .Pass ⟨0, 0, 0, 0⟩
theorem sci_NoPlace : FnScope ["self", "number"] ["self", "number"] (defScope i_NoPlace) := ⟨rfl, rfl, rfl, by decide +kernel, rfl, by decide +kernel, by decide +kernel⟩
def i_NoStep : Stmt := match top 10 with | .ClassDef (body := b) .. => b.getD 0 (.Pass ⟨0, 0, 0, 0⟩) | _ => .Pass ⟨0, 0, 0, 0⟩
theorem sci_NoStep : FnScope ["self", "place"] ["self", "place"] (defScope i_NoStep) := ⟨rfl, rfl, rfl, by decide +kernel, rfl, by decide +kernel, by decide +kernel⟩
def i_NoStrike : Stmt := match top 11 with | .ClassDef (body := b) .. => b.getD 0 (.Pass ⟨0, 0, 0, 0⟩) | _ => .Pass ⟨0, 0, 0, 0⟩
theorem sci_NoStrike : FnScope ["self", "place"] ["self", "place"] (defScope i_NoStrike) := ⟨rfl, rfl, rfl, by decide +kernel, rfl, by decide +kernel, by decide +kernel⟩
def i_NoYear : Stmt := match top 12 with | .ClassDef (body := b) .. => b.getD 0 (.Pass ⟨0, 0, 0, 0⟩) | _ => .Pass ⟨0, 0, 0, 0⟩
theorem sci_NoYear : FnScope ["self", "name"] ["self", "name"] (defScope i_NoYear) := ⟨rfl, rfl, rfl, by decide +kernel, rfl, by decide +kernel, by decide +kernel⟩
structure Txt (K : PySem.W.Frag) (mg : Str → Option Value) : Type where
  z_len : mg "len" = none
  z_abs : mg "abs" = none
  z_int : mg "int" = none
  z_enumerate : mg "enumerate" = none
  z_list : mg "list" = none
  z_isinstance : mg "isinstance" = none
  z_tuple : mg "tuple" = none
  z_all : mg "all" = none
  z_bool : mg "bool" = none
  z_str : mg "str" = none
  z_zip : mg "zip" = none
  z_LookupError : mg "LookupError" = none
  z_ValueError : mg "ValueError" = none
  z_range : mg "range" = none
  C_BadAnswer : Addr
  fI_BadAnswer : Addr
  fdI_BadAnswer : FuncData
  FI_BadAnswer : Fun K "__init__" "BadAnswer.__init__" i_BadAnswer fI_BadAnswer fdI_BadAnswer
  bI_BadAnswer : Binds K fdI_BadAnswer ["self", "number"] []
  E_BadAnswer : ErrC K mg "BadAnswer" C_BadAnswer fI_BadAnswer "number"
  I_BadAnswer : IsiC K C_BadAnswer
  C_BadLine : Addr
  fI_BadLine : Addr
  fdI_BadLine : FuncData
  FI_BadLine : Fun K "__init__" "BadLine.__init__" i_BadLine fI_BadLine fdI_BadLine
  bI_BadLine : Binds K fdI_BadLine ["self", "number"] []
  E_BadLine : ErrC K mg "BadLine" C_BadLine fI_BadLine "number"
  I_BadLine : IsiC K C_BadLine
  C_BadRun : Addr
  fI_BadRun : Addr
  fdI_BadRun : FuncData
  FI_BadRun : Fun K "__init__" "BadRun.__init__" i_BadRun fI_BadRun fdI_BadRun
  bI_BadRun : Binds K fdI_BadRun ["self", "place"] []
  E_BadRun : ErrC K mg "BadRun" C_BadRun fI_BadRun "place"
  I_BadRun : IsiC K C_BadRun
  C_BadText : Addr
  fI_BadText : Addr
  fdI_BadText : FuncData
  FI_BadText : Fun K "__init__" "BadText.__init__" i_BadText fI_BadText fdI_BadText
  bI_BadText : Binds K fdI_BadText ["self", "piece"] []
  E_BadText : ErrC K mg "BadText" C_BadText fI_BadText "piece"
  I_BadText : IsiC K C_BadText
  C_Known : Addr
  fI_Known : Addr
  fdI_Known : FuncData
  FI_Known : Fun K "__init__" "Known.__init__" i_Known fI_Known fdI_Known
  bI_Known : Binds K fdI_Known ["self", "name"] []
  E_Known : ErrC K mg "Known" C_Known fI_Known "name"
  I_Known : IsiC K C_Known
  C_NoNumber : Addr
  fI_NoNumber : Addr
  fdI_NoNumber : FuncData
  FI_NoNumber : Fun K "__init__" "NoNumber.__init__" i_NoNumber fI_NoNumber fdI_NoNumber
  bI_NoNumber : Binds K fdI_NoNumber ["self", "number"] []
  E_NoNumber : ErrC K mg "NoNumber" C_NoNumber fI_NoNumber "number"
  I_NoNumber : IsiC K C_NoNumber
  C_NoPlace : Addr
  fI_NoPlace : Addr
  fdI_NoPlace : FuncData
  FI_NoPlace : Fun K "__init__" "NoPlace.__init__" i_NoPlace fI_NoPlace fdI_NoPlace
  bI_NoPlace : Binds K fdI_NoPlace ["self", "number"] []
  E_NoPlace : ErrC K mg "NoPlace" C_NoPlace fI_NoPlace "number"
  I_NoPlace : IsiC K C_NoPlace
  C_NoStep : Addr
  fI_NoStep : Addr
  fdI_NoStep : FuncData
  FI_NoStep : Fun K "__init__" "NoStep.__init__" i_NoStep fI_NoStep fdI_NoStep
  bI_NoStep : Binds K fdI_NoStep ["self", "place"] []
  E_NoStep : ErrC K mg "NoStep" C_NoStep fI_NoStep "place"
  I_NoStep : IsiC K C_NoStep
  C_NoStrike : Addr
  fI_NoStrike : Addr
  fdI_NoStrike : FuncData
  FI_NoStrike : Fun K "__init__" "NoStrike.__init__" i_NoStrike fI_NoStrike fdI_NoStrike
  bI_NoStrike : Binds K fdI_NoStrike ["self", "place"] []
  E_NoStrike : ErrC K mg "NoStrike" C_NoStrike fI_NoStrike "place"
  I_NoStrike : IsiC K C_NoStrike
  C_NoYear : Addr
  fI_NoYear : Addr
  fdI_NoYear : FuncData
  FI_NoYear : Fun K "__init__" "NoYear.__init__" i_NoYear fI_NoYear fdI_NoYear
  bI_NoYear : Binds K fdI_NoYear ["self", "name"] []
  E_NoYear : ErrC K mg "NoYear" C_NoYear fI_NoYear "name"
  I_NoYear : IsiC K C_NoYear
  C_AllKnown : Addr
  X_AllKnown : Err0 K mg "AllKnown" C_AllKnown
  I_AllKnown : IsiC K C_AllKnown
  C_NothingDone : Addr
  X_NothingDone : Err0 K mg "NothingDone" C_NothingDone
  I_NothingDone : IsiC K C_NothingDone
  C_OtherDays : Addr
  X_OtherDays : Err0 K mg "OtherDays" C_OtherDays
  I_OtherDays : IsiC K C_OtherDays
  C_ButtError : Addr
  gC_ButtError : mg "ButtError" = some (.ref C_ButtError)
  XU_BadAnswer_ButtError : PySem.W.exmOne K (.ref C_BadAnswer) (.ref C_ButtError) = some true
  XU_BadLine_ButtError : PySem.W.exmOne K (.ref C_BadLine) (.ref C_ButtError) = some true
  XU_BadRun_ButtError : PySem.W.exmOne K (.ref C_BadRun) (.ref C_ButtError) = some true
  XU_BadText_ButtError : PySem.W.exmOne K (.ref C_BadText) (.ref C_ButtError) = some true
  XU_Known_ButtError : PySem.W.exmOne K (.ref C_Known) (.ref C_ButtError) = some true
  XU_NoNumber_ButtError : PySem.W.exmOne K (.ref C_NoNumber) (.ref C_ButtError) = some true
  XU_NoPlace_ButtError : PySem.W.exmOne K (.ref C_NoPlace) (.ref C_ButtError) = some true
  XU_NoStep_ButtError : PySem.W.exmOne K (.ref C_NoStep) (.ref C_ButtError) = some true
  XU_NoStrike_ButtError : PySem.W.exmOne K (.ref C_NoStrike) (.ref C_ButtError) = some true
  XU_NoYear_ButtError : PySem.W.exmOne K (.ref C_NoYear) (.ref C_ButtError) = some true
  KU_AllKnown : PySem.W.kitOne K (.ref C_AllKnown) (.ref C_ButtError) = some true
  KL_AllKnown : PySem.W.kitOne K (.ref C_AllKnown) (.type "LookupError") = some false
  KU_BadAnswer : PySem.W.kitOne K (.ref C_BadAnswer) (.ref C_ButtError) = some true
  KL_BadAnswer : PySem.W.kitOne K (.ref C_BadAnswer) (.type "LookupError") = some false
  KU_BadLine : PySem.W.kitOne K (.ref C_BadLine) (.ref C_ButtError) = some true
  KL_BadLine : PySem.W.kitOne K (.ref C_BadLine) (.type "LookupError") = some false
  KU_BadRun : PySem.W.kitOne K (.ref C_BadRun) (.ref C_ButtError) = some true
  KL_BadRun : PySem.W.kitOne K (.ref C_BadRun) (.type "LookupError") = some false
  KU_BadText : PySem.W.kitOne K (.ref C_BadText) (.ref C_ButtError) = some true
  KL_BadText : PySem.W.kitOne K (.ref C_BadText) (.type "LookupError") = some false
  KU_Known : PySem.W.kitOne K (.ref C_Known) (.ref C_ButtError) = some true
  KL_Known : PySem.W.kitOne K (.ref C_Known) (.type "LookupError") = some false
  KU_NoNumber : PySem.W.kitOne K (.ref C_NoNumber) (.ref C_ButtError) = some true
  KL_NoNumber : PySem.W.kitOne K (.ref C_NoNumber) (.type "LookupError") = some false
  KU_NoPlace : PySem.W.kitOne K (.ref C_NoPlace) (.ref C_ButtError) = some true
  KL_NoPlace : PySem.W.kitOne K (.ref C_NoPlace) (.type "LookupError") = some false
  KU_NoStep : PySem.W.kitOne K (.ref C_NoStep) (.ref C_ButtError) = some true
  KL_NoStep : PySem.W.kitOne K (.ref C_NoStep) (.type "LookupError") = some false
  KU_NoStrike : PySem.W.kitOne K (.ref C_NoStrike) (.ref C_ButtError) = some true
  KL_NoStrike : PySem.W.kitOne K (.ref C_NoStrike) (.type "LookupError") = some false
  KU_NoYear : PySem.W.kitOne K (.ref C_NoYear) (.ref C_ButtError) = some true
  KL_NoYear : PySem.W.kitOne K (.ref C_NoYear) (.type "LookupError") = some false
  KU_NothingDone : PySem.W.kitOne K (.ref C_NothingDone) (.ref C_ButtError) = some true
  KL_NothingDone : PySem.W.kitOne K (.ref C_NothingDone) (.type "LookupError") = some false
  KU_OtherDays : PySem.W.kitOne K (.ref C_OtherDays) (.ref C_ButtError) = some true
  KL_OtherDays : PySem.W.kitOne K (.ref C_OtherDays) (.type "LookupError") = some false
  KO_AllKnown_AllKnown : PySem.W.kitOne K (.ref C_AllKnown) (.ref C_AllKnown) = some true
  KO_AllKnown_BadAnswer : PySem.W.kitOne K (.ref C_AllKnown) (.ref C_BadAnswer) = some false
  KO_AllKnown_BadLine : PySem.W.kitOne K (.ref C_AllKnown) (.ref C_BadLine) = some false
  KO_AllKnown_BadRun : PySem.W.kitOne K (.ref C_AllKnown) (.ref C_BadRun) = some false
  KO_AllKnown_BadText : PySem.W.kitOne K (.ref C_AllKnown) (.ref C_BadText) = some false
  KO_AllKnown_Known : PySem.W.kitOne K (.ref C_AllKnown) (.ref C_Known) = some false
  KO_AllKnown_NoNumber : PySem.W.kitOne K (.ref C_AllKnown) (.ref C_NoNumber) = some false
  KO_AllKnown_NoPlace : PySem.W.kitOne K (.ref C_AllKnown) (.ref C_NoPlace) = some false
  KO_AllKnown_NoStep : PySem.W.kitOne K (.ref C_AllKnown) (.ref C_NoStep) = some false
  KO_AllKnown_NoStrike : PySem.W.kitOne K (.ref C_AllKnown) (.ref C_NoStrike) = some false
  KO_AllKnown_NoYear : PySem.W.kitOne K (.ref C_AllKnown) (.ref C_NoYear) = some false
  KO_AllKnown_NothingDone : PySem.W.kitOne K (.ref C_AllKnown) (.ref C_NothingDone) = some false
  KO_AllKnown_OtherDays : PySem.W.kitOne K (.ref C_AllKnown) (.ref C_OtherDays) = some false
  KO_BadAnswer_AllKnown : PySem.W.kitOne K (.ref C_BadAnswer) (.ref C_AllKnown) = some false
  KO_BadAnswer_BadAnswer : PySem.W.kitOne K (.ref C_BadAnswer) (.ref C_BadAnswer) = some true
  KO_BadAnswer_BadLine : PySem.W.kitOne K (.ref C_BadAnswer) (.ref C_BadLine) = some false
  KO_BadAnswer_BadRun : PySem.W.kitOne K (.ref C_BadAnswer) (.ref C_BadRun) = some false
  KO_BadAnswer_BadText : PySem.W.kitOne K (.ref C_BadAnswer) (.ref C_BadText) = some false
  KO_BadAnswer_Known : PySem.W.kitOne K (.ref C_BadAnswer) (.ref C_Known) = some false
  KO_BadAnswer_NoNumber : PySem.W.kitOne K (.ref C_BadAnswer) (.ref C_NoNumber) = some false
  KO_BadAnswer_NoPlace : PySem.W.kitOne K (.ref C_BadAnswer) (.ref C_NoPlace) = some false
  KO_BadAnswer_NoStep : PySem.W.kitOne K (.ref C_BadAnswer) (.ref C_NoStep) = some false
  KO_BadAnswer_NoStrike : PySem.W.kitOne K (.ref C_BadAnswer) (.ref C_NoStrike) = some false
  KO_BadAnswer_NoYear : PySem.W.kitOne K (.ref C_BadAnswer) (.ref C_NoYear) = some false
  KO_BadAnswer_NothingDone : PySem.W.kitOne K (.ref C_BadAnswer) (.ref C_NothingDone) = some false
  KO_BadAnswer_OtherDays : PySem.W.kitOne K (.ref C_BadAnswer) (.ref C_OtherDays) = some false
  KO_BadLine_AllKnown : PySem.W.kitOne K (.ref C_BadLine) (.ref C_AllKnown) = some false
  KO_BadLine_BadAnswer : PySem.W.kitOne K (.ref C_BadLine) (.ref C_BadAnswer) = some false
  KO_BadLine_BadLine : PySem.W.kitOne K (.ref C_BadLine) (.ref C_BadLine) = some true
  KO_BadLine_BadRun : PySem.W.kitOne K (.ref C_BadLine) (.ref C_BadRun) = some false
  KO_BadLine_BadText : PySem.W.kitOne K (.ref C_BadLine) (.ref C_BadText) = some false
  KO_BadLine_Known : PySem.W.kitOne K (.ref C_BadLine) (.ref C_Known) = some false
  KO_BadLine_NoNumber : PySem.W.kitOne K (.ref C_BadLine) (.ref C_NoNumber) = some false
  KO_BadLine_NoPlace : PySem.W.kitOne K (.ref C_BadLine) (.ref C_NoPlace) = some false
  KO_BadLine_NoStep : PySem.W.kitOne K (.ref C_BadLine) (.ref C_NoStep) = some false
  KO_BadLine_NoStrike : PySem.W.kitOne K (.ref C_BadLine) (.ref C_NoStrike) = some false
  KO_BadLine_NoYear : PySem.W.kitOne K (.ref C_BadLine) (.ref C_NoYear) = some false
  KO_BadLine_NothingDone : PySem.W.kitOne K (.ref C_BadLine) (.ref C_NothingDone) = some false
  KO_BadLine_OtherDays : PySem.W.kitOne K (.ref C_BadLine) (.ref C_OtherDays) = some false
  KO_BadRun_AllKnown : PySem.W.kitOne K (.ref C_BadRun) (.ref C_AllKnown) = some false
  KO_BadRun_BadAnswer : PySem.W.kitOne K (.ref C_BadRun) (.ref C_BadAnswer) = some false
  KO_BadRun_BadLine : PySem.W.kitOne K (.ref C_BadRun) (.ref C_BadLine) = some false
  KO_BadRun_BadRun : PySem.W.kitOne K (.ref C_BadRun) (.ref C_BadRun) = some true
  KO_BadRun_BadText : PySem.W.kitOne K (.ref C_BadRun) (.ref C_BadText) = some false
  KO_BadRun_Known : PySem.W.kitOne K (.ref C_BadRun) (.ref C_Known) = some false
  KO_BadRun_NoNumber : PySem.W.kitOne K (.ref C_BadRun) (.ref C_NoNumber) = some false
  KO_BadRun_NoPlace : PySem.W.kitOne K (.ref C_BadRun) (.ref C_NoPlace) = some false
  KO_BadRun_NoStep : PySem.W.kitOne K (.ref C_BadRun) (.ref C_NoStep) = some false
  KO_BadRun_NoStrike : PySem.W.kitOne K (.ref C_BadRun) (.ref C_NoStrike) = some false
  KO_BadRun_NoYear : PySem.W.kitOne K (.ref C_BadRun) (.ref C_NoYear) = some false
  KO_BadRun_NothingDone : PySem.W.kitOne K (.ref C_BadRun) (.ref C_NothingDone) = some false
  KO_BadRun_OtherDays : PySem.W.kitOne K (.ref C_BadRun) (.ref C_OtherDays) = some false
  KO_BadText_AllKnown : PySem.W.kitOne K (.ref C_BadText) (.ref C_AllKnown) = some false
  KO_BadText_BadAnswer : PySem.W.kitOne K (.ref C_BadText) (.ref C_BadAnswer) = some false
  KO_BadText_BadLine : PySem.W.kitOne K (.ref C_BadText) (.ref C_BadLine) = some false
  KO_BadText_BadRun : PySem.W.kitOne K (.ref C_BadText) (.ref C_BadRun) = some false
  KO_BadText_BadText : PySem.W.kitOne K (.ref C_BadText) (.ref C_BadText) = some true
  KO_BadText_Known : PySem.W.kitOne K (.ref C_BadText) (.ref C_Known) = some false
  KO_BadText_NoNumber : PySem.W.kitOne K (.ref C_BadText) (.ref C_NoNumber) = some false
  KO_BadText_NoPlace : PySem.W.kitOne K (.ref C_BadText) (.ref C_NoPlace) = some false
  KO_BadText_NoStep : PySem.W.kitOne K (.ref C_BadText) (.ref C_NoStep) = some false
  KO_BadText_NoStrike : PySem.W.kitOne K (.ref C_BadText) (.ref C_NoStrike) = some false
  KO_BadText_NoYear : PySem.W.kitOne K (.ref C_BadText) (.ref C_NoYear) = some false
  KO_BadText_NothingDone : PySem.W.kitOne K (.ref C_BadText) (.ref C_NothingDone) = some false
  KO_BadText_OtherDays : PySem.W.kitOne K (.ref C_BadText) (.ref C_OtherDays) = some false
  KO_Known_AllKnown : PySem.W.kitOne K (.ref C_Known) (.ref C_AllKnown) = some false
  KO_Known_BadAnswer : PySem.W.kitOne K (.ref C_Known) (.ref C_BadAnswer) = some false
  KO_Known_BadLine : PySem.W.kitOne K (.ref C_Known) (.ref C_BadLine) = some false
  KO_Known_BadRun : PySem.W.kitOne K (.ref C_Known) (.ref C_BadRun) = some false
  KO_Known_BadText : PySem.W.kitOne K (.ref C_Known) (.ref C_BadText) = some false
  KO_Known_Known : PySem.W.kitOne K (.ref C_Known) (.ref C_Known) = some true
  KO_Known_NoNumber : PySem.W.kitOne K (.ref C_Known) (.ref C_NoNumber) = some false
  KO_Known_NoPlace : PySem.W.kitOne K (.ref C_Known) (.ref C_NoPlace) = some false
  KO_Known_NoStep : PySem.W.kitOne K (.ref C_Known) (.ref C_NoStep) = some false
  KO_Known_NoStrike : PySem.W.kitOne K (.ref C_Known) (.ref C_NoStrike) = some false
  KO_Known_NoYear : PySem.W.kitOne K (.ref C_Known) (.ref C_NoYear) = some false
  KO_Known_NothingDone : PySem.W.kitOne K (.ref C_Known) (.ref C_NothingDone) = some false
  KO_Known_OtherDays : PySem.W.kitOne K (.ref C_Known) (.ref C_OtherDays) = some false
  KO_NoNumber_AllKnown : PySem.W.kitOne K (.ref C_NoNumber) (.ref C_AllKnown) = some false
  KO_NoNumber_BadAnswer : PySem.W.kitOne K (.ref C_NoNumber) (.ref C_BadAnswer) = some false
  KO_NoNumber_BadLine : PySem.W.kitOne K (.ref C_NoNumber) (.ref C_BadLine) = some false
  KO_NoNumber_BadRun : PySem.W.kitOne K (.ref C_NoNumber) (.ref C_BadRun) = some false
  KO_NoNumber_BadText : PySem.W.kitOne K (.ref C_NoNumber) (.ref C_BadText) = some false
  KO_NoNumber_Known : PySem.W.kitOne K (.ref C_NoNumber) (.ref C_Known) = some false
  KO_NoNumber_NoNumber : PySem.W.kitOne K (.ref C_NoNumber) (.ref C_NoNumber) = some true
  KO_NoNumber_NoPlace : PySem.W.kitOne K (.ref C_NoNumber) (.ref C_NoPlace) = some false
  KO_NoNumber_NoStep : PySem.W.kitOne K (.ref C_NoNumber) (.ref C_NoStep) = some false
  KO_NoNumber_NoStrike : PySem.W.kitOne K (.ref C_NoNumber) (.ref C_NoStrike) = some false
  KO_NoNumber_NoYear : PySem.W.kitOne K (.ref C_NoNumber) (.ref C_NoYear) = some false
  KO_NoNumber_NothingDone : PySem.W.kitOne K (.ref C_NoNumber) (.ref C_NothingDone) = some false
  KO_NoNumber_OtherDays : PySem.W.kitOne K (.ref C_NoNumber) (.ref C_OtherDays) = some false
  KO_NoPlace_AllKnown : PySem.W.kitOne K (.ref C_NoPlace) (.ref C_AllKnown) = some false
  KO_NoPlace_BadAnswer : PySem.W.kitOne K (.ref C_NoPlace) (.ref C_BadAnswer) = some false
  KO_NoPlace_BadLine : PySem.W.kitOne K (.ref C_NoPlace) (.ref C_BadLine) = some false
  KO_NoPlace_BadRun : PySem.W.kitOne K (.ref C_NoPlace) (.ref C_BadRun) = some false
  KO_NoPlace_BadText : PySem.W.kitOne K (.ref C_NoPlace) (.ref C_BadText) = some false
  KO_NoPlace_Known : PySem.W.kitOne K (.ref C_NoPlace) (.ref C_Known) = some false
  KO_NoPlace_NoNumber : PySem.W.kitOne K (.ref C_NoPlace) (.ref C_NoNumber) = some false
  KO_NoPlace_NoPlace : PySem.W.kitOne K (.ref C_NoPlace) (.ref C_NoPlace) = some true
  KO_NoPlace_NoStep : PySem.W.kitOne K (.ref C_NoPlace) (.ref C_NoStep) = some false
  KO_NoPlace_NoStrike : PySem.W.kitOne K (.ref C_NoPlace) (.ref C_NoStrike) = some false
  KO_NoPlace_NoYear : PySem.W.kitOne K (.ref C_NoPlace) (.ref C_NoYear) = some false
  KO_NoPlace_NothingDone : PySem.W.kitOne K (.ref C_NoPlace) (.ref C_NothingDone) = some false
  KO_NoPlace_OtherDays : PySem.W.kitOne K (.ref C_NoPlace) (.ref C_OtherDays) = some false
  KO_NoStep_AllKnown : PySem.W.kitOne K (.ref C_NoStep) (.ref C_AllKnown) = some false
  KO_NoStep_BadAnswer : PySem.W.kitOne K (.ref C_NoStep) (.ref C_BadAnswer) = some false
  KO_NoStep_BadLine : PySem.W.kitOne K (.ref C_NoStep) (.ref C_BadLine) = some false
  KO_NoStep_BadRun : PySem.W.kitOne K (.ref C_NoStep) (.ref C_BadRun) = some false
  KO_NoStep_BadText : PySem.W.kitOne K (.ref C_NoStep) (.ref C_BadText) = some false
  KO_NoStep_Known : PySem.W.kitOne K (.ref C_NoStep) (.ref C_Known) = some false
  KO_NoStep_NoNumber : PySem.W.kitOne K (.ref C_NoStep) (.ref C_NoNumber) = some false
  KO_NoStep_NoPlace : PySem.W.kitOne K (.ref C_NoStep) (.ref C_NoPlace) = some false
  KO_NoStep_NoStep : PySem.W.kitOne K (.ref C_NoStep) (.ref C_NoStep) = some true
  KO_NoStep_NoStrike : PySem.W.kitOne K (.ref C_NoStep) (.ref C_NoStrike) = some false
  KO_NoStep_NoYear : PySem.W.kitOne K (.ref C_NoStep) (.ref C_NoYear) = some false
  KO_NoStep_NothingDone : PySem.W.kitOne K (.ref C_NoStep) (.ref C_NothingDone) = some false
  KO_NoStep_OtherDays : PySem.W.kitOne K (.ref C_NoStep) (.ref C_OtherDays) = some false
  KO_NoStrike_AllKnown : PySem.W.kitOne K (.ref C_NoStrike) (.ref C_AllKnown) = some false
  KO_NoStrike_BadAnswer : PySem.W.kitOne K (.ref C_NoStrike) (.ref C_BadAnswer) = some false
  KO_NoStrike_BadLine : PySem.W.kitOne K (.ref C_NoStrike) (.ref C_BadLine) = some false
  KO_NoStrike_BadRun : PySem.W.kitOne K (.ref C_NoStrike) (.ref C_BadRun) = some false
  KO_NoStrike_BadText : PySem.W.kitOne K (.ref C_NoStrike) (.ref C_BadText) = some false
  KO_NoStrike_Known : PySem.W.kitOne K (.ref C_NoStrike) (.ref C_Known) = some false
  KO_NoStrike_NoNumber : PySem.W.kitOne K (.ref C_NoStrike) (.ref C_NoNumber) = some false
  KO_NoStrike_NoPlace : PySem.W.kitOne K (.ref C_NoStrike) (.ref C_NoPlace) = some false
  KO_NoStrike_NoStep : PySem.W.kitOne K (.ref C_NoStrike) (.ref C_NoStep) = some false
  KO_NoStrike_NoStrike : PySem.W.kitOne K (.ref C_NoStrike) (.ref C_NoStrike) = some true
  KO_NoStrike_NoYear : PySem.W.kitOne K (.ref C_NoStrike) (.ref C_NoYear) = some false
  KO_NoStrike_NothingDone : PySem.W.kitOne K (.ref C_NoStrike) (.ref C_NothingDone) = some false
  KO_NoStrike_OtherDays : PySem.W.kitOne K (.ref C_NoStrike) (.ref C_OtherDays) = some false
  KO_NoYear_AllKnown : PySem.W.kitOne K (.ref C_NoYear) (.ref C_AllKnown) = some false
  KO_NoYear_BadAnswer : PySem.W.kitOne K (.ref C_NoYear) (.ref C_BadAnswer) = some false
  KO_NoYear_BadLine : PySem.W.kitOne K (.ref C_NoYear) (.ref C_BadLine) = some false
  KO_NoYear_BadRun : PySem.W.kitOne K (.ref C_NoYear) (.ref C_BadRun) = some false
  KO_NoYear_BadText : PySem.W.kitOne K (.ref C_NoYear) (.ref C_BadText) = some false
  KO_NoYear_Known : PySem.W.kitOne K (.ref C_NoYear) (.ref C_Known) = some false
  KO_NoYear_NoNumber : PySem.W.kitOne K (.ref C_NoYear) (.ref C_NoNumber) = some false
  KO_NoYear_NoPlace : PySem.W.kitOne K (.ref C_NoYear) (.ref C_NoPlace) = some false
  KO_NoYear_NoStep : PySem.W.kitOne K (.ref C_NoYear) (.ref C_NoStep) = some false
  KO_NoYear_NoStrike : PySem.W.kitOne K (.ref C_NoYear) (.ref C_NoStrike) = some false
  KO_NoYear_NoYear : PySem.W.kitOne K (.ref C_NoYear) (.ref C_NoYear) = some true
  KO_NoYear_NothingDone : PySem.W.kitOne K (.ref C_NoYear) (.ref C_NothingDone) = some false
  KO_NoYear_OtherDays : PySem.W.kitOne K (.ref C_NoYear) (.ref C_OtherDays) = some false
  KO_NothingDone_AllKnown : PySem.W.kitOne K (.ref C_NothingDone) (.ref C_AllKnown) = some false
  KO_NothingDone_BadAnswer : PySem.W.kitOne K (.ref C_NothingDone) (.ref C_BadAnswer) = some false
  KO_NothingDone_BadLine : PySem.W.kitOne K (.ref C_NothingDone) (.ref C_BadLine) = some false
  KO_NothingDone_BadRun : PySem.W.kitOne K (.ref C_NothingDone) (.ref C_BadRun) = some false
  KO_NothingDone_BadText : PySem.W.kitOne K (.ref C_NothingDone) (.ref C_BadText) = some false
  KO_NothingDone_Known : PySem.W.kitOne K (.ref C_NothingDone) (.ref C_Known) = some false
  KO_NothingDone_NoNumber : PySem.W.kitOne K (.ref C_NothingDone) (.ref C_NoNumber) = some false
  KO_NothingDone_NoPlace : PySem.W.kitOne K (.ref C_NothingDone) (.ref C_NoPlace) = some false
  KO_NothingDone_NoStep : PySem.W.kitOne K (.ref C_NothingDone) (.ref C_NoStep) = some false
  KO_NothingDone_NoStrike : PySem.W.kitOne K (.ref C_NothingDone) (.ref C_NoStrike) = some false
  KO_NothingDone_NoYear : PySem.W.kitOne K (.ref C_NothingDone) (.ref C_NoYear) = some false
  KO_NothingDone_NothingDone : PySem.W.kitOne K (.ref C_NothingDone) (.ref C_NothingDone) = some true
  KO_NothingDone_OtherDays : PySem.W.kitOne K (.ref C_NothingDone) (.ref C_OtherDays) = some false
  KO_OtherDays_AllKnown : PySem.W.kitOne K (.ref C_OtherDays) (.ref C_AllKnown) = some false
  KO_OtherDays_BadAnswer : PySem.W.kitOne K (.ref C_OtherDays) (.ref C_BadAnswer) = some false
  KO_OtherDays_BadLine : PySem.W.kitOne K (.ref C_OtherDays) (.ref C_BadLine) = some false
  KO_OtherDays_BadRun : PySem.W.kitOne K (.ref C_OtherDays) (.ref C_BadRun) = some false
  KO_OtherDays_BadText : PySem.W.kitOne K (.ref C_OtherDays) (.ref C_BadText) = some false
  KO_OtherDays_Known : PySem.W.kitOne K (.ref C_OtherDays) (.ref C_Known) = some false
  KO_OtherDays_NoNumber : PySem.W.kitOne K (.ref C_OtherDays) (.ref C_NoNumber) = some false
  KO_OtherDays_NoPlace : PySem.W.kitOne K (.ref C_OtherDays) (.ref C_NoPlace) = some false
  KO_OtherDays_NoStep : PySem.W.kitOne K (.ref C_OtherDays) (.ref C_NoStep) = some false
  KO_OtherDays_NoStrike : PySem.W.kitOne K (.ref C_OtherDays) (.ref C_NoStrike) = some false
  KO_OtherDays_NoYear : PySem.W.kitOne K (.ref C_OtherDays) (.ref C_NoYear) = some false
  KO_OtherDays_NothingDone : PySem.W.kitOne K (.ref C_OtherDays) (.ref C_NothingDone) = some false
  KO_OtherDays_OtherDays : PySem.W.kitOne K (.ref C_OtherDays) (.ref C_OtherDays) = some true
  f__law_box : Addr
  fd__law_box : FuncData
  F__law_box : Fun K "_law_box" "_law_box" s__law_box f__law_box fd__law_box
  m__law_box : mg "_law_box" = some (.ref f__law_box)
  b__law_box : Binds K fd__law_box ["_law_script", "_law_k"] []
  f__law_take : Addr
  fd__law_take : FuncData
  F__law_take : Fun K "_law_take" "_law_take" s__law_take f__law_take fd__law_take
  m__law_take : mg "_law_take" = some (.ref f__law_take)
  b__law_take : Binds K fd__law_take ["_law_box_here", "_law_size_so"] []
  f__law_cells : Addr
  fd__law_cells : FuncData
  F__law_cells : Fun K "_law_cells" "_law_cells" s__law_cells f__law_cells fd__law_cells
  m__law_cells : mg "_law_cells" = some (.ref f__law_cells)
  b__law_cells : Binds K fd__law_cells ["_law_script", "_law_top_so"] []
  f__law_of : Addr
  fd__law_of : FuncData
  F__law_of : Fun K "_law_of" "_law_of" s__law_of f__law_of fd__law_of
  m__law_of : mg "_law_of" = some (.ref f__law_of)
  b__law_of : Binds K fd__law_of ["_law_box_here", "_law_goods_so"] []
  f__law_same : Addr
  fd__law_same : FuncData
  F__law_same : Fun K "_law_same" "_law_same" s__law_same f__law_same fd__law_same
  m__law_same : mg "_law_same" = some (.ref f__law_same)
  b__law_same : Binds K fd__law_same ["_law_got", "_law_due"] []
  f__law_sorts : Addr
  fd__law_sorts : FuncData
  F__law_sorts : Fun K "_law_sorts" "_law_sorts" s__law_sorts f__law_sorts fd__law_sorts
  m__law_sorts : mg "_law_sorts" = some (.ref f__law_sorts)
  b__law_sorts : Binds K fd__law_sorts ["_law_caught"] []
  f__law_right : Addr
  fd__law_right : FuncData
  F__law_right : Fun K "_law_right" "_law_right" s__law_right f__law_right fd__law_right
  m__law_right : mg "_law_right" = some (.ref f__law_right)
  b__law_right : Binds K fd__law_right ["_law_box_here"] []
  f_law : Addr
  fd_law : FuncData
  F_law : Fun K "law" "law" s_law f_law fd_law
  m_law : mg "law" = some (.ref f_law)
  b_law : Binds K fd_law ["_law_script"] []
theorem ok_init_BadAnswer {P : Program} {w : World} {K : PySem.W.Frag} {mg : Str → Option Value} {base : Heap} (T : Txt K mg) : FnOk P w K mg base CX0 1 T.fI_BadAnswer T.fdI_BadAnswer ["self", "number"] (spInit T.C_BadAnswer "number") := by
  refine T.FI_BadAnswer.ok sci_BadAnswer (fun vs H Q E h => ?_) (fun cdv A outer s H vs Q E hr h => ⟨_, pss_one (ps_ost (pv 0) (pv 1)), ?_⟩)
  · obtain ⟨a, v, rfl, _⟩ := h
    rfl
  · obtain ⟨a, v, rfl, ha, k⟩ := h
    exact ⟨v, rfl, _, rfl, a, T.C_BadAnswer, rfl, T.E_BadAnswer.cls, T.E_BadAnswer.noN, .inl ⟨ha, fun dx n ne => k dx n ne⟩⟩
theorem kbI_BadAnswer {K : PySem.W.Frag} {mg : Str → Option Value} (T : Txt K mg) : KBn K T.fdI_BadAnswer ["self", "number"] 1 ["number"] (fun us ws => us ++ ws) (fun us ws => us ++ ws) := kb_init T.FI_BadAnswer fun _ _ _ _ _ _ _ _ => rfl
theorem ok_init_BadLine {P : Program} {w : World} {K : PySem.W.Frag} {mg : Str → Option Value} {base : Heap} (T : Txt K mg) : FnOk P w K mg base CX0 1 T.fI_BadLine T.fdI_BadLine ["self", "number"] (spInit T.C_BadLine "number") := by
  refine T.FI_BadLine.ok sci_BadLine (fun vs H Q E h => ?_) (fun cdv A outer s H vs Q E hr h => ⟨_, pss_one (ps_ost (pv 0) (pv 1)), ?_⟩)
  · obtain ⟨a, v, rfl, _⟩ := h
    rfl
  · obtain ⟨a, v, rfl, ha, k⟩ := h
    exact ⟨v, rfl, _, rfl, a, T.C_BadLine, rfl, T.E_BadLine.cls, T.E_BadLine.noN, .inl ⟨ha, fun dx n ne => k dx n ne⟩⟩
theorem kbI_BadLine {K : PySem.W.Frag} {mg : Str → Option Value} (T : Txt K mg) : KBn K T.fdI_BadLine ["self", "number"] 1 ["number"] (fun us ws => us ++ ws) (fun us ws => us ++ ws) := kb_init T.FI_BadLine fun _ _ _ _ _ _ _ _ => rfl
theorem ok_init_BadRun {P : Program} {w : World} {K : PySem.W.Frag} {mg : Str → Option Value} {base : Heap} (T : Txt K mg) : FnOk P w K mg base CX0 1 T.fI_BadRun T.fdI_BadRun ["self", "place"] (spInit T.C_BadRun "place") := by
  refine T.FI_BadRun.ok sci_BadRun (fun vs H Q E h => ?_) (fun cdv A outer s H vs Q E hr h => ⟨_, pss_one (ps_ost (pv 0) (pv 1)), ?_⟩)
  · obtain ⟨a, v, rfl, _⟩ := h
    rfl
  · obtain ⟨a, v, rfl, ha, k⟩ := h
    exact ⟨v, rfl, _, rfl, a, T.C_BadRun, rfl, T.E_BadRun.cls, T.E_BadRun.noN, .inl ⟨ha, fun dx n ne => k dx n ne⟩⟩
theorem kbI_BadRun {K : PySem.W.Frag} {mg : Str → Option Value} (T : Txt K mg) : KBn K T.fdI_BadRun ["self", "place"] 1 ["place"] (fun us ws => us ++ ws) (fun us ws => us ++ ws) := kb_init T.FI_BadRun fun _ _ _ _ _ _ _ _ => rfl
theorem ok_init_BadText {P : Program} {w : World} {K : PySem.W.Frag} {mg : Str → Option Value} {base : Heap} (T : Txt K mg) : FnOk P w K mg base CX0 1 T.fI_BadText T.fdI_BadText ["self", "piece"] (spInit T.C_BadText "piece") := by
  refine T.FI_BadText.ok sci_BadText (fun vs H Q E h => ?_) (fun cdv A outer s H vs Q E hr h => ⟨_, pss_one (ps_ost (pv 0) (pv 1)), ?_⟩)
  · obtain ⟨a, v, rfl, _⟩ := h
    rfl
  · obtain ⟨a, v, rfl, ha, k⟩ := h
    exact ⟨v, rfl, _, rfl, a, T.C_BadText, rfl, T.E_BadText.cls, T.E_BadText.noN, .inl ⟨ha, fun dx n ne => k dx n ne⟩⟩
theorem kbI_BadText {K : PySem.W.Frag} {mg : Str → Option Value} (T : Txt K mg) : KBn K T.fdI_BadText ["self", "piece"] 1 ["piece"] (fun us ws => us ++ ws) (fun us ws => us ++ ws) := kb_init T.FI_BadText fun _ _ _ _ _ _ _ _ => rfl
theorem ok_init_Known {P : Program} {w : World} {K : PySem.W.Frag} {mg : Str → Option Value} {base : Heap} (T : Txt K mg) : FnOk P w K mg base CX0 1 T.fI_Known T.fdI_Known ["self", "name"] (spInit T.C_Known "name") := by
  refine T.FI_Known.ok sci_Known (fun vs H Q E h => ?_) (fun cdv A outer s H vs Q E hr h => ⟨_, pss_one (ps_ost (pv 0) (pv 1)), ?_⟩)
  · obtain ⟨a, v, rfl, _⟩ := h
    rfl
  · obtain ⟨a, v, rfl, ha, k⟩ := h
    exact ⟨v, rfl, _, rfl, a, T.C_Known, rfl, T.E_Known.cls, T.E_Known.noN, .inl ⟨ha, fun dx n ne => k dx n ne⟩⟩
theorem kbI_Known {K : PySem.W.Frag} {mg : Str → Option Value} (T : Txt K mg) : KBn K T.fdI_Known ["self", "name"] 1 ["name"] (fun us ws => us ++ ws) (fun us ws => us ++ ws) := kb_init T.FI_Known fun _ _ _ _ _ _ _ _ => rfl
theorem ok_init_NoNumber {P : Program} {w : World} {K : PySem.W.Frag} {mg : Str → Option Value} {base : Heap} (T : Txt K mg) : FnOk P w K mg base CX0 1 T.fI_NoNumber T.fdI_NoNumber ["self", "number"] (spInit T.C_NoNumber "number") := by
  refine T.FI_NoNumber.ok sci_NoNumber (fun vs H Q E h => ?_) (fun cdv A outer s H vs Q E hr h => ⟨_, pss_one (ps_ost (pv 0) (pv 1)), ?_⟩)
  · obtain ⟨a, v, rfl, _⟩ := h
    rfl
  · obtain ⟨a, v, rfl, ha, k⟩ := h
    exact ⟨v, rfl, _, rfl, a, T.C_NoNumber, rfl, T.E_NoNumber.cls, T.E_NoNumber.noN, .inl ⟨ha, fun dx n ne => k dx n ne⟩⟩
theorem kbI_NoNumber {K : PySem.W.Frag} {mg : Str → Option Value} (T : Txt K mg) : KBn K T.fdI_NoNumber ["self", "number"] 1 ["number"] (fun us ws => us ++ ws) (fun us ws => us ++ ws) := kb_init T.FI_NoNumber fun _ _ _ _ _ _ _ _ => rfl
theorem ok_init_NoPlace {P : Program} {w : World} {K : PySem.W.Frag} {mg : Str → Option Value} {base : Heap} (T : Txt K mg) : FnOk P w K mg base CX0 1 T.fI_NoPlace T.fdI_NoPlace ["self", "number"] (spInit T.C_NoPlace "number") := by
  refine T.FI_NoPlace.ok sci_NoPlace (fun vs H Q E h => ?_) (fun cdv A outer s H vs Q E hr h => ⟨_, pss_one (ps_ost (pv 0) (pv 1)), ?_⟩)
  · obtain ⟨a, v, rfl, _⟩ := h
    rfl
  · obtain ⟨a, v, rfl, ha, k⟩ := h
    exact ⟨v, rfl, _, rfl, a, T.C_NoPlace, rfl, T.E_NoPlace.cls, T.E_NoPlace.noN, .inl ⟨ha, fun dx n ne => k dx n ne⟩⟩
theorem kbI_NoPlace {K : PySem.W.Frag} {mg : Str → Option Value} (T : Txt K mg) : KBn K T.fdI_NoPlace ["self", "number"] 1 ["number"] (fun us ws => us ++ ws) (fun us ws => us ++ ws) := kb_init T.FI_NoPlace fun _ _ _ _ _ _ _ _ => rfl
theorem ok_init_NoStep {P : Program} {w : World} {K : PySem.W.Frag} {mg : Str → Option Value} {base : Heap} (T : Txt K mg) : FnOk P w K mg base CX0 1 T.fI_NoStep T.fdI_NoStep ["self", "place"] (spInit T.C_NoStep "place") := by
  refine T.FI_NoStep.ok sci_NoStep (fun vs H Q E h => ?_) (fun cdv A outer s H vs Q E hr h => ⟨_, pss_one (ps_ost (pv 0) (pv 1)), ?_⟩)
  · obtain ⟨a, v, rfl, _⟩ := h
    rfl
  · obtain ⟨a, v, rfl, ha, k⟩ := h
    exact ⟨v, rfl, _, rfl, a, T.C_NoStep, rfl, T.E_NoStep.cls, T.E_NoStep.noN, .inl ⟨ha, fun dx n ne => k dx n ne⟩⟩
theorem kbI_NoStep {K : PySem.W.Frag} {mg : Str → Option Value} (T : Txt K mg) : KBn K T.fdI_NoStep ["self", "place"] 1 ["place"] (fun us ws => us ++ ws) (fun us ws => us ++ ws) := kb_init T.FI_NoStep fun _ _ _ _ _ _ _ _ => rfl
theorem ok_init_NoStrike {P : Program} {w : World} {K : PySem.W.Frag} {mg : Str → Option Value} {base : Heap} (T : Txt K mg) : FnOk P w K mg base CX0 1 T.fI_NoStrike T.fdI_NoStrike ["self", "place"] (spInit T.C_NoStrike "place") := by
  refine T.FI_NoStrike.ok sci_NoStrike (fun vs H Q E h => ?_) (fun cdv A outer s H vs Q E hr h => ⟨_, pss_one (ps_ost (pv 0) (pv 1)), ?_⟩)
  · obtain ⟨a, v, rfl, _⟩ := h
    rfl
  · obtain ⟨a, v, rfl, ha, k⟩ := h
    exact ⟨v, rfl, _, rfl, a, T.C_NoStrike, rfl, T.E_NoStrike.cls, T.E_NoStrike.noN, .inl ⟨ha, fun dx n ne => k dx n ne⟩⟩
theorem kbI_NoStrike {K : PySem.W.Frag} {mg : Str → Option Value} (T : Txt K mg) : KBn K T.fdI_NoStrike ["self", "place"] 1 ["place"] (fun us ws => us ++ ws) (fun us ws => us ++ ws) := kb_init T.FI_NoStrike fun _ _ _ _ _ _ _ _ => rfl
theorem ok_init_NoYear {P : Program} {w : World} {K : PySem.W.Frag} {mg : Str → Option Value} {base : Heap} (T : Txt K mg) : FnOk P w K mg base CX0 1 T.fI_NoYear T.fdI_NoYear ["self", "name"] (spInit T.C_NoYear "name") := by
  refine T.FI_NoYear.ok sci_NoYear (fun vs H Q E h => ?_) (fun cdv A outer s H vs Q E hr h => ⟨_, pss_one (ps_ost (pv 0) (pv 1)), ?_⟩)
  · obtain ⟨a, v, rfl, _⟩ := h
    rfl
  · obtain ⟨a, v, rfl, ha, k⟩ := h
    exact ⟨v, rfl, _, rfl, a, T.C_NoYear, rfl, T.E_NoYear.cls, T.E_NoYear.noN, .inl ⟨ha, fun dx n ne => k dx n ne⟩⟩
theorem kbI_NoYear {K : PySem.W.Frag} {mg : Str → Option Value} (T : Txt K mg) : KBn K T.fdI_NoYear ["self", "name"] 1 ["name"] (fun us ws => us ++ ws) (fun us ws => us ++ ws) := kb_init T.FI_NoYear fun _ _ _ _ _ _ _ _ => rfl
def spLaw (K : PySem.W.Frag) : Sp := fun vs H Q _ => ∃ (a : Addr) (ns : List Int), vs = [.ref a] ∧ SqL K H a (ns.map V.int) ∧ ns.length ≤ 63 ∧ ∀ H', Q (.bl true) H'
end K00
namespace K00
open PySem L2 PyProof.Rows DL TL RZ
local macro_rules | `(tactic| walk_at "len") => `(tactic| first
  | exact Nat.le_of_ble_eq_true rfl
  | assumption
  | (simp only [List.length_map, List.length_cons, List.length_nil, dI, dS, dB, List.length_reverse, List.length_append, List.length_range, rngD]; omega)
  | omega)
local macro_rules | `(tactic| walk_at "rd") => `(tactic| first
  | with_reducible exact rd_add
  | with_reducible exact rd_sub
  | with_reducible exact rd_eqs
  | with_reducible exact rd_eqi
  | with_reducible exact rd_eqb
  | with_reducible exact rd_eqN
  | with_reducible exact rd_nes
  | with_reducible exact rd_nei
  | with_reducible exact rd_neb
  | with_reducible exact rd_B
  | with_reducible exact rd_isN
  | with_reducible exact rd_inS
  | ((with_reducible apply rd_ixTz); rfl; rfl)
  | ((with_reducible apply rd_ixLz); rfl; rfl)
  | ((with_reducible apply rd_cats); walk_at "len")
  | ((with_reducible apply rd_catl); walk_at "len")
  | ((with_reducible apply rd_repl) <;> (first | decide | omega))
  | ((with_reducible apply rd_reps); exact ⟨by decide +kernel, by intro _ _; decide +kernel, by intro _ _; decide +kernel⟩)
  | ((with_reducible apply rd_neD) <;> (first | rfl | decide +kernel))
  | ((with_reducible apply rd_eqD) <;> (first | rfl | decide +kernel))
  | (apply rd_I (C := CMul) (g := fun i j => i * j); exact (by first | exact .inl ⟨by decide, by decide⟩ | exact .inr ⟨by decide, by decide⟩))
  | (apply rd_I (C := CPow) (g := fun i j => i ^ j.toNat); exact ⟨by decide, by decide, by decide⟩))
local macro_rules | `(tactic| walk_at "rc") => `(tactic| first
  | with_reducible exact rc_lenL
  | with_reducible exact rc_lenT
  | with_reducible exact rc_int
  | with_reducible exact rc_intb
  | with_reducible exact rc_abs
  | with_reducible exact rc_all
  | with_reducible exact rc_max2
  | with_reducible exact rc_min2
  | with_reducible exact rc_sumT
  | with_reducible exact rc_sumL
  | with_reducible exact rc_list (.lst _)
  | with_reducible exact rc_list (.tup _)
  | with_reducible exact rc_tuple (.lst _)
  | with_reducible exact rc_tuple (.tup _)
  | ((with_reducible apply rc_str); first | assumption | decide +kernel)
  | ((with_reducible apply rc_lenS); assumption))
local macro_rules | `(tactic| walk_at "ea") => `(tactic| first
  | with_reducible exact ea_nil
  | ((with_reducible apply ea_cons); (walk_at "ev"); (walk_at "ea")))
local macro_rules | `(tactic| walk_at "call") => `(tactic| fail "call")
local macro_rules | `(tactic| walk_at "it") => `(tactic| first
  | ((with_reducible apply it_list); walk_at "ev")
  | ((with_reducible apply it_tup); walk_at "ev")
  | ((with_reducible apply it_rng); (walk_at "ea"); walk_at "len")
  | ((with_reducible apply it_enum); walk_at "ev")
  | ((with_reducible apply it_zip); (walk_at "ev"); (walk_at "ev"))
  | ((with_reducible apply it_zipA); rotate_left; (walk_at "ev"); (walk_at "ev"); first | exact .lst _ _ | exact .tup _ _)
  | ((with_reducible apply it_seq); rotate_left; (walk_at "ev"); first | exact .lst _ | exact .tup _ | assumption))
local macro_rules | `(tactic| walk_at "tgs") => `(tactic| first
  | with_reducible exact .nil
  | (apply TgsD.cons; (walk_at "tg"); (walk_at "tgs")))
local macro_rules | `(tactic| walk_at "tg") => `(tactic| first
  | ((with_reducible apply tg_name) <;> decide)
  | (apply tg_tup; (walk_at "tgs"); rfl)
  | (apply tg_seq; rotate_left; (walk_at "tgs"); rfl; first | exact .lst _ | exact .tup _ | assumption))
local macro_rules | `(tactic| walk_at "all2") => `(tactic| first
  | exact .nil
  | (apply All2.cons; (apply Exists.intro; apply And.intro; (walk_at "tg"); (walk_at "ev")); (walk_at "all2")))
local macro_rules | `(tactic| walk_at "ej") => `(tactic| first
  | with_reducible exact .nil
  | (apply EvJ.cons; (walk_at "ev"); (walk_at "ej")))
local macro_rules | `(tactic| walk_at "eo") => `(tactic| first
  | with_reducible exact eo_none
  | ((with_reducible apply eo_some); walk_at "ev"))
local macro_rules | `(tactic| walk_at "ev") => `(tactic| first
  | ((with_reducible apply ed_var); exact rfl)
  | with_reducible exact ed_int
  | with_reducible exact ed_str
  | with_reducible exact ed_bl
  | with_reducible exact ed_non
  | ((with_reducible apply ed_tup); (walk_at "ea"); (walk_at "len"))
  | ((with_reducible apply ed_lst); (walk_at "ea"); (walk_at "len"))
  | ((with_reducible apply ed_call); (walk_at "ea"); (walk_at "call"))
  | ((with_reducible apply ed_callN); (walk_at "ea"); rfl; (first | exact fun H vs q => q | exact sw_dq | exact sw3_dq); (walk_at "call"))
  | ((with_reducible apply ed_op); (walk_at "ev"); (walk_at "ev"); (walk_at "rd"))
  | ((with_reducible apply ed_isi); (walk_at "ev"); decide; try (first | rfl | decide))
  | ((with_reducible apply ed_isiT); (walk_at "ev"); decide; decide; try (first | rfl | decide))
  | ((with_reducible apply ed_neg); walk_at "ev")
  | ((with_reducible apply ed_andV); (walk_at "ev"); intro _; walk_at "ev")
  | ((with_reducible apply ed_orV); (walk_at "ev"); intro _; walk_at "ev")
  | ((with_reducible apply ed_notV); walk_at "ev")
  | ((with_reducible apply ed_split); (walk_at "ev"); (walk_at "ev"); (decide +kernel); walk_at "len")
  | ((with_reducible apply ed_partition); (walk_at "ev"); (walk_at "ev"); (decide +kernel); walk_at "len")
  | ((with_reducible apply ed_isdigit); walk_at "ev")
  | ((with_reducible apply ed_isascii); walk_at "ev")
  | ((with_reducible apply ed_startswith); (walk_at "ev"); walk_at "ev")
  | ((with_reducible apply ed_revL); walk_at "ev")
  | ((with_reducible apply ed_slA); (walk_at "ev"); (walk_at "eo"); walk_at "eo")
  | ((with_reducible apply ed_slL); (walk_at "ev"); (walk_at "eo"); walk_at "eo")
  | ((with_reducible apply ed_slS); (walk_at "ev"); (walk_at "eo"); (walk_at "eo"); walk_at "len")
  | ((with_reducible apply ed_joined); (walk_at "ej"); walk_at "len")
  | ((with_reducible apply ed_fmtI); (walk_at "ev"); first | assumption | decide +kernel)
  | ((with_reducible apply ed_fmtS); (walk_at "ev"); walk_at "len")
  | ((with_reducible apply ed_cb); (walk_at "ea"); walk_at "rc")
  | (apply ed_lc; (walk_at "it"); (walk_at "len"); intro D'; walk_at "all2"))
local macro_rules | `(tactic| walk_at "et") => `(tactic| first
  | ((with_reducible apply et_test); walk_at "ev")
  | ((with_reducible apply et_B); walk_at "ev")
  | ((with_reducible apply DL.et_not); walk_at "et")
  | ((with_reducible apply et_and); (walk_at "et"); intro _; walk_at "et")
  | ((with_reducible apply et_or); (walk_at "et"); intro _; walk_at "et"))
local macro_rules | `(tactic| walk_at "etb") => `(tactic| (apply et_is; (walk_at "et"); first | rfl | decide | (simp [tyIs, tyN]; done)))

section
variable {P : Program} {w : World} {K : PySem.W.Frag} {mg : Str → Option Value} {base : Heap}
/-! ### the law's own compare, of like data -/
theorem same_step (T : Txt K mg) {m : Nat} (G__law_same : FnOk P w K mg base CX0 m T.f__law_same T.fd__law_same ["_law_got", "_law_due"] (spD (R_same m))) : FnOk P w K mg base CX0 (m + 1) T.f__law_same T.fd__law_same ["_law_got", "_law_due"] (spD (R_same (m + 1))) := by
  refine pure_ok T.F__law_same sc__law_same (fun ds d h => ?_) (by decide) (fun cdv A outer s H E hr => ?_)
  · obtain ⟨x, _, rfl, rfl⟩ := h
    rfl
  have hr__law_same := hr
  have b__law_same := T.b__law_same
  have hu := hu64 hr
  refine ⟨_, (pss_cons (ps_if (pt_val (pe_callB (kIsiT (K := K) (by rfl)) (by rfl) T.z_isinstance (by decide +kernel) (pa_cons (pv 1) (pa_cons (pe_tup (pa_cons (pe_bltn (v := .ty "list") (u := .type "list") (by rfl) T.z_list (by decide +kernel) (by rfl)) (pa_cons (pe_bltn (v := .ty "tuple") (u := .type "tuple") (by rfl) T.z_tuple (by decide +kernel) (by rfl)) pa_nil))) pa_nil)))) (pss_cons (ps_if (pt_cmpR op_ne (pe_callB (kIsi (K := K) (by rfl)) (by rfl) T.z_isinstance (by decide +kernel) (pa_cons (pv 0) (pa_cons (pe_bltn (v := .ty "list") (u := .type "list") (by rfl) T.z_list (by decide +kernel) (by rfl)) pa_nil))) (pe_callB (kIsi (K := K) (by rfl)) (by rfl) T.z_isinstance (by decide +kernel) (pa_cons (pv 1) (pa_cons (pe_bltn (v := .ty "list") (u := .type "list") (by rfl) T.z_list (by decide +kernel) (by rfl)) pa_nil))) (nomark _)) (pss_one (ps_ret pe_bl)) pss_nil)
  (pss_cons (ps_if (pt_cmpR op_ne (pe_callB (kIsi (K := K) (by rfl)) (by rfl) T.z_isinstance (by decide +kernel) (pa_cons (pv 0) (pa_cons (pe_bltn (v := .ty "tuple") (u := .type "tuple") (by rfl) T.z_tuple (by decide +kernel) (by rfl)) pa_nil))) (pe_callB (kIsi (K := K) (by rfl)) (by rfl) T.z_isinstance (by decide +kernel) (pa_cons (pv 1) (pa_cons (pe_bltn (v := .ty "tuple") (u := .type "tuple") (by rfl) T.z_tuple (by decide +kernel) (by rfl)) pa_nil))) (nomark _)) (pss_one (ps_ret pe_bl)) pss_nil)
  (pss_one (ps_ret (pe_and (pe_cmpR op_eq (pe_callB (kLen (K := K) (by rfl)) (by rfl) T.z_len PySem.boot_len (pa_cons (pv 0) pa_nil)) (pe_callB (kLen (K := K) (by rfl)) (by rfl) T.z_len PySem.boot_len (pa_cons (pv 1) pa_nil)) (nomark _)) (pe_one (pe_callB (kAll (K := K) (by rfl) (by rfl)) (by rfl) T.z_all (by decide +kernel) (pa_cons (pe_lc (own := [("_law_mine", 2), ("_law_its", 3)]) rfl sc__law_same.nd (kiZipA (K := K) (by rfl) (by rfl) T.z_zip (pa_cons (pv 0) (pa_cons (pv 1) pa_nil))) (blkOk_by (N := N__law_same) (sc := defScope s__law_same) (by decide +kernel)) (fun _ _ _ _ _ => (kgTup (K := K) (n := 2) (by rfl) (by rfl) (pgs_cons (pg_name (i := 2) sc__law_same.nd rfl (by first | exact Or.inl rfl | exact Or.inr rfl)) (pgs_cons (pg_name (i := 3) sc__law_same.nd rfl (by first | exact Or.inl rfl | exact Or.inr rfl)) pgs_nil)))) (fun _ _ _ _ _ => pts_nil) (fun _ _ _ _ _ => (pe_call G__law_same hr__law_same rfl T.m__law_same T.F__law_same.kp b__law_same .nil pass0 (pa_cons (pv 2) (pa_cons (pv 3) pa_nil))))) pa_nil)))))))) pss_nil)
  (pss_cons (ps_if (PW.pt (pw_or (pt_cmpR op_isN (pv 1) pe_non (nomark _)) (pw_or1 (pt_val (pe_callB (kIsiT (K := K) (by rfl)) (by rfl) T.z_isinstance (by decide +kernel) (pa_cons (pv 1) (pa_cons (pe_tup (pa_cons (pe_bltn (v := .ty "bool") (u := .type "bool") (by rfl) T.z_bool (by decide +kernel) (by rfl)) (pa_cons (pe_bltn (v := .ty "str") (u := .type "str") (by rfl) T.z_str (by decide +kernel) (by rfl)) pa_nil))) pa_nil))))))) (pss_one (ps_ret (pe_and (pe_cmpR op_eq (pv 0) (pv 1) (nomark _)) (pe_and (pe_cmpR op_eq (pe_callB (kIsi (K := K) (by rfl)) (by rfl) T.z_isinstance (by decide +kernel) (pa_cons (pv 0) (pa_cons (pe_bltn (v := .ty "bool") (u := .type "bool") (by rfl) T.z_bool (by decide +kernel) (by rfl)) pa_nil))) (pe_callB (kIsi (K := K) (by rfl)) (by rfl) T.z_isinstance (by decide +kernel) (pa_cons (pv 1) (pa_cons (pe_bltn (v := .ty "bool") (u := .type "bool") (by rfl) T.z_bool (by decide +kernel) (by rfl)) pa_nil))) (nomark _)) (pe_one (pe_cmpR op_eq (pe_cmpR op_isN (pv 0) pe_non (nomark _)) (pe_cmpR op_isN (pv 1) pe_non (nomark _)) (nomark _))))))) pss_nil)
  (pss_one (ps_ret (pe_and (pe_callB (kIsi (K := K) (by rfl)) (by rfl) T.z_isinstance (by decide +kernel) (pa_cons (pv 0) (pa_cons (pe_bltn (v := .ty "int") (u := .type "int") (by rfl) T.z_int (by decide +kernel) (by rfl)) pa_nil))) (pe_and (pe_not (pe_callB (kIsi (K := K) (by rfl)) (by rfl) T.z_isinstance (by decide +kernel) (pa_cons (pv 0) (pa_cons (pe_bltn (v := .ty "bool") (u := .type "bool") (by rfl) T.z_bool (by decide +kernel) (by rfl)) pa_nil)))) (pe_one (pe_cmpR op_eq (pv 0) (pv 1) (nomark _))))))))), fun O ds d hR => ?_⟩
  obtain ⟨x, hx, rfl, rfl⟩ := hR
  cases x with
  | dict kvs => exact hx.elim
  | list xs =>
    obtain ⟨hl, hx⟩ := hx
    have hz : (zipD xs xs).length ≤ 100000 := by
      rw [zip_same, List.length_map]
      omega
    apply rr_fst
    apply rr_if (b := true)
    · walk_at "etb"
    · intro _
      apply rr_when (b := false)
      · walk_at "etb"
      · intro z
        cases z
      intro _
      apply rr_when (b := false)
      · walk_at "etb"
      · intro z
        cases z
      intro _
      apply rr_ret
      apply ed_is
      · apply ed_andV
        · walk_at "ev"
        · intro _
          apply ed_cb
          · apply ea_cons
            · refine ed_lc (es := dB (xs.map fun _ => true)) (it_zipA (.lst xs xs) (by walk_at "ev") (by walk_at "ev")) hz fun D => ?_
              rw [zip_same]
              unfold dB
              rw [List.map_map]
              exact All2.of fun y hy => ⟨_, by walk_at "tg", ed_call (by walk_at "ea") ⟨y, hx y hy, rfl, rfl⟩⟩
            · exact ea_nil
          · exact rc_all
      · rw [all_true fun _ _ => rfl]
        simp
    · intro z
      cases z
  | tuple xs =>
    obtain ⟨hl, hx⟩ := hx
    have hz : (zipD xs xs).length ≤ 100000 := by
      rw [zip_same, List.length_map]
      omega
    apply rr_fst
    apply rr_if (b := true)
    · walk_at "etb"
    · intro _
      apply rr_when (b := false)
      · walk_at "etb"
      · intro z
        cases z
      intro _
      apply rr_when (b := false)
      · walk_at "etb"
      · intro z
        cases z
      intro _
      apply rr_ret
      apply ed_is
      · apply ed_andV
        · walk_at "ev"
        · intro _
          apply ed_cb
          · apply ea_cons
            · refine ed_lc (es := dB (xs.map fun _ => true)) (it_zipA (.tup xs xs) (by walk_at "ev") (by walk_at "ev")) hz fun D => ?_
              rw [zip_same]
              unfold dB
              rw [List.map_map]
              exact All2.of fun y hy => ⟨_, by walk_at "tg", ed_call (by walk_at "ea") ⟨y, hx y hy, rfl, rfl⟩⟩
            · exact ea_nil
          · exact rc_all
      · rw [all_true fun _ _ => rfl]
        simp
    · intro z
      cases z
  | none =>
    apply rr_when (b := false)
    · walk_at "etb"
    · intro z
      cases z
    intro _
    apply rr_when (b := true)
    · walk_at "etb"
    · intro _
      apply rr_ret
      apply ed_is
      · walk_at "ev"
      · rfl
    · intro z
      cases z
  | bool b =>
    apply rr_when (b := false)
    · walk_at "etb"
    · intro z
      cases z
    intro _
    apply rr_when (b := true)
    · walk_at "etb"
    · intro _
      apply rr_ret
      apply ed_is
      · walk_at "ev"
      · cases b <;> rfl
    · intro z
      cases z
  | str y =>
    apply rr_when (b := false)
    · walk_at "etb"
    · intro z
      cases z
    intro _
    apply rr_when (b := true)
    · walk_at "etb"
    · intro _
      apply rr_ret
      apply ed_is
      · walk_at "ev"
      · simp [tyIs, tyN]
    · intro z
      cases z
  | int i =>
    apply rr_when (b := false)
    · walk_at "etb"
    · intro z
      cases z
    intro _
    apply rr_when (b := false)
    · walk_at "etb"
    · intro z
      cases z
    · intro _
      apply rr_ret
      apply ed_is
      · walk_at "ev"
      · simp [tyIs, tyN]
theorem same_all (T : Txt K mg) : ∀ m, FnOk P w K mg base CX0 m T.f__law_same T.fd__law_same ["_law_got", "_law_due"] (spD (R_same m))
  | 0 => none_left fun ds d h => by
    obtain ⟨x, hx, _⟩ := h
    exact hx
  | m + 1 => same_step T (same_all T m)
theorem ok__law_same (T : Txt K mg) : FnOk P w K mg base CX0 7 T.f__law_same T.fd__law_same ["_law_got", "_law_due"] (spD (R_same 7)) := same_all T 7
end
end K00
namespace K00
open PySem L2 PyProof.Rows DL TL RZ
section
variable {P : Program} {w : World} {K : PySem.W.Frag} {mg : Str → Option Value} {base : Heap}
/-! ### the law's draws -/
theorem ok__law_take (T : Txt K mg) : FnOk P w K mg base CX0 1 T.f__law_take T.fd__law_take ["_law_box_here", "_law_size_so"] spTake := by
  refine T.F__law_take.ok sc__law_take (fun vs H Q E h => ?_) (fun cdv A outer s H vs Q E hr h => ?_)
  · obtain ⟨p, c, m, rfl, _⟩ := h
    rfl
  have hu := hu64 hr
  obtain ⟨p, c, m, rfl, ⟨b0, b1, b2, hb, h0, h1, h2, h3, h4⟩, hc, hm, hm2, k⟩ := h
  refine ⟨_, (pss_cons (ps_if (pt_cmpR op_gt (pe_ix (kIxL (K := K) (by rfl)) (pv 0) pe_int (fun _ _ => rfl)) pe_int (nomark _)) (pss_cons (ps_set (i := 2) sc__law_take.nd rfl (Or.inl rfl) (pe_op op_mod (pe_callTy call_int1 (by rfl) T.z_int (by decide +kernel) (pa_cons (pe_ix (kIxL (K := K) (by rfl)) (pv 0) pe_int (fun _ _ => rfl)) pa_nil)) (pv 1)))
  (pss_cons (ps_asg (pe_op op_fdivW (pe_ix (kIxL (K := K) (by rfl)) (pv 0) pe_int (fun _ _ => rfl)) (pv 1)) (pg_sub (pv 0) pe_int set_list))
  (pss_one (ps_ret (pv 2))))) pss_nil)
  (pss_cons (ps_asg (pe_op op_add (pe_ix (kIxL (K := K) (by rfl)) (pv 0) pe_int (fun _ _ => rfl)) pe_int) (pg_sub (pv 0) pe_int set_list))
  (pss_cons (ps_set (i := 3) sc__law_take.nd rfl (Or.inl rfl) (pe_op op_mod (pe_callTy call_int1 (by rfl) T.z_int (by decide +kernel) (pa_cons (pe_op op_mul (pe_op op_add (pe_ix (kIxL (K := K) (by rfl)) (pv 0) pe_int (fun _ _ => rfl)) (pe_op op_mul pe_int (pe_ix (kIxL (K := K) (by rfl)) (pv 0) pe_int (fun _ _ => rfl)))) (pe_op op_add pe_int (pe_ix (kIxL (K := K) (by rfl)) (pv 0) pe_int (fun _ _ => rfl)))) pa_nil)) pe_int))
  (pss_cons (ps_set (i := 4) sc__law_take.nd rfl (Or.inl rfl) (pe_op op_add (pe_op op_mod (pe_callTy call_int1 (by rfl) T.z_int (by decide +kernel) (pa_cons (pv 3) pa_nil)) pe_int) pe_int))
  (pss_cons (ps_set (i := 5) sc__law_take.nd rfl (Or.inl rfl) (pe_op op_mod (pe_callTy call_int1 (by rfl) T.z_int (by decide +kernel) (pa_cons (pe_op op_mul (pe_op op_add (pe_op op_add (pv 3) (pe_ix (kIxL (K := K) (by rfl)) (pv 0) pe_int (fun _ _ => rfl))) (pe_op op_fdivW (pe_ix (kIxL (K := K) (by rfl)) (pv 0) pe_int (fun _ _ => rfl)) pe_int)) (pv 4)) pa_nil)) pe_int))
  (pss_one (ps_ret (pe_op op_mod (pe_callTy call_int1 (by rfl) T.z_int (by decide +kernel) (pa_cons (pe_op op_fdivW (pe_op op_mod (pe_callTy call_int1 (by rfl) T.z_int (by decide +kernel) (pa_cons (pe_op op_add (pe_op op_mul (pv 5) pe_int) (pv 3)) pa_nil)) pe_int) pe_int) pa_nil)) (pv 1))))))))), ?_⟩
  have sq : SqL K H p [.int b0, .int b1, .int b2] := .inl (.inl hb)
  have e0 : Evl.Ev (tVar 0) (L2.start N__law_take [V.ref p, V.int m]) H (.ref p) := Evl.ev_var rfl
  have box : ∀ {σ : L2.St} {H' : Hp} {i : Int} {v : V} {xs : List V}, σ[0]? = some (some (.ref p)) → H' p = some (.lst xs) → atI xs i = some v → Evl.Ev (tOp (rIxL K) (tVar 0) (tC (.int i))) σ H' v :=
    fun hσ hH ha => Evl.ev_op (Evl.ev_var hσ) Evl.ev_c (Evl.rv_ixL (.inl (.inl hH)) ha)
  refine Evl.q_when (b := decide (0 < b0)) (Evl.et_test (Evl.ev_op (box rfl hb rfl) Evl.ev_c (Evl.rv_I0))) (fun z H1 x1 => ?_) (fun z H1 x1 => ?_)
  · have z := of_decide_eq_true z
    have hb1 := x1 _ _ hb
    refine Evl.q_asg (Evl.ev_op (rc1 (K := K) (box rfl hb1 rfl)) (Evl.ev_var rfl) (Evl.rv_I hm)) fun H2 x2 => ?_
    have hb2 := x2 _ _ hb1
    refine Evl.q_setL (l := p) (j := 0) hb2 (Evl.ev_op (box rfl hb2 rfl) (Evl.ev_var rfl) (Evl.rv_I ⟨hm, hm2⟩)) (Evl.ev_var rfl) (Evl.ev_c (v := .int ((0 : Nat) : Int))) (show 0 < 3 by decide) fun H3 x3 => ?_
    refine Evl.s_ret (Evl.ev_var rfl) fun H4 x4 => ?_
    refine k (b0 % m) H4 (Int.emod_nonneg _ (by omega)) (Int.emod_lt_of_pos _ hm) ?_ ?_
    · exact ((Ex.o [p] (x1.trans (x2.trans x3))).trans (ExO.upd (List.mem_singleton.mpr rfl))).trans (Ex.o [p] x4)
    · exact ⟨b0 / m, b1, b2, x4 _ _ upd_same, Int.ediv_nonneg h0 (by omega), h1, h2, h3, by omega⟩
  · have z := of_decide_eq_false z
    have hb1 := x1 _ _ hb
    refine Evl.q_setL (l := p) (j := 2) hb1 (Evl.ev_op (box rfl hb1 rfl) Evl.ev_c Evl.rv_I0) (Evl.ev_var rfl) (Evl.ev_c (v := .int ((2 : Nat) : Int))) (show 2 < 3 by decide) fun H2 x2 => ?_
    have hb2 : upd H2 p (.lst (([.int b0, .int b1, .int b2] : List V).set 2 (.int (b2 + 1)))) p = some (.lst [.int b0, .int b1, .int (b2 + 1)]) := upd_same
    refine Evl.q_asg (Evl.ev_op (rc1 (K := K) (Evl.ev_op (Evl.ev_op (box rfl hb2 rfl) (Evl.ev_op Evl.ev_c (box rfl hb2 rfl) (Evl.rv_I (.inl ⟨by decide, by decide⟩))) Evl.rv_I0) (Evl.ev_op Evl.ev_c (box rfl hb2 rfl) Evl.rv_I0) (Evl.rv_I (.inr ⟨by omega, by omega⟩)))) Evl.ev_c (Evl.rv_I (by decide))) fun H3 x3 => ?_
    have hb3 := x3 _ _ hb2
    have o1 : ∀ x : Int, 0 ≤ x % 2147483647 ∧ x % 2147483647 < 2147483647 := fun x => ⟨Int.emod_nonneg _ (by decide), Int.emod_lt_of_pos _ (by decide)⟩
    generalize ho : ((b1 + 48271 * (b2 + 1)) * (39373 + (b2 + 1))) % 2147483647 = once
    have ho1 := o1 ((b1 + 48271 * (b2 + 1)) * (39373 + (b2 + 1)))
    rw [ho] at ho1
    refine Evl.q_asg (v := .int (once % 40009 + 7)) (Evl.ev_op (Evl.ev_op (rc1 (K := K) (Evl.ev_var rfl)) Evl.ev_c (Evl.rv_I (by decide))) Evl.ev_c Evl.rv_I0) fun H4 x4 => ?_
    have hb4 := x4 _ _ hb3
    have hf : 0 ≤ once % 40009 + 7 ∧ once % 40009 + 7 < 40016 := by
      have q1 := Int.emod_nonneg once (b := 40009) (by decide)
      have q2 := Int.emod_lt_of_pos once (b := 40009) (by decide)
      omega
    refine Evl.q_asg (Evl.ev_op (rc1 (K := K) (Evl.ev_op (Evl.ev_op (Evl.ev_op (Evl.ev_var rfl) (box rfl hb4 rfl) Evl.rv_I0) (Evl.ev_op (box rfl hb4 rfl) Evl.ev_c (Evl.rv_I ⟨by decide, by decide⟩)) Evl.rv_I0) (Evl.ev_var rfl) (Evl.rv_I (.inr ⟨by omega, by omega⟩)))) Evl.ev_c (Evl.rv_I (by decide))) fun H5 x5 => ?_
    have hb5 := x5 _ _ hb4
    refine Evl.s_ret (Evl.ev_op (rc1 (K := K) (Evl.ev_op (Evl.ev_op (rc1 (K := K) (Evl.ev_op (Evl.ev_op (Evl.ev_var rfl) Evl.ev_c (Evl.rv_I (.inr ⟨by decide, by decide⟩))) (Evl.ev_var rfl) Evl.rv_I0)) Evl.ev_c (Evl.rv_I (by decide))) Evl.ev_c (Evl.rv_I ⟨by decide, by decide⟩))) (Evl.ev_var rfl) (Evl.rv_I hm)) fun H6 x6 => ?_
    refine k _ H6 (Int.emod_nonneg _ (by omega)) (Int.emod_lt_of_pos _ hm) ?_ ?_
    · exact (((Ex.o [p] x1).trans (Ex.o [p] x2)).trans (ExO.upd (List.mem_singleton.mpr rfl))).trans (Ex.o [p] (x3.trans (x4.trans (x5.trans x6))))
    · exact ⟨b0, b1, b2 + 1, x6 _ _ hb5, h0, h1, h2, by omega, by omega⟩
theorem ok__law_of (T : Txt K mg) : FnOk P w K mg base CX0 2 T.f__law_of T.fd__law_of ["_law_box_here", "_law_goods_so"] spOfO := by
  refine T.F__law_of.ok sc__law_of (fun vs H Q E h => ?_) (fun cdv A outer s H vs Q E hr h => ?_)
  · obtain ⟨O, p, c, x, ds, rfl, _⟩ := h
    rfl
  have G__law_take := ok__law_take (P := P) (w := w) (base := base) T
  have hr__law_take : Room 1 _ := hr.mono (by decide)
  have b__law_take := T.b__law_take
  have hu := hu64 hr
  obtain ⟨O, p, c, x, ds, rfl, hp, ho, hb, hc, hx, hl, hl2, k⟩ := h
  refine ⟨_, (pss_one (ps_ret (pe_ix (kIxL (K := K) (by rfl)) (pv 1) (pe_call G__law_take hr__law_take rfl T.m__law_take T.F__law_take.kp b__law_take .nil pass0 (pa_cons (pv 0) (pa_cons (pe_callB (kLen (K := K) (by rfl)) (by rfl) T.z_len PySem.boot_len (pa_cons (pv 1) pa_nil)) pa_nil))) (fun _ _ => rfl)))), ?_⟩
  cases hx with
  | @lst a xs _ ha hxs =>
    have len := hxs.length
    have hlog : ((ds.length : Int)).natAbs.log2 < 9000 := by
      have e : ((ds.length : Int)).natAbs = ds.length := by omega
      rw [e]
      exact Nat.lt_trans ((Nat.log2_lt (by omega)).mpr (show ds.length < 2 ^ 10 by omega)) (by decide)
    refine ⟨_, rfl, _, rfl, _, rfl, a, xs, rfl, .inl (Evl.sq_of (sub_of ha).1), p, c, (ds.length : Int), ?_, hb, hc, by omega, hlog, fun r H1 r0 r1 e1 b1 => ?_⟩
    · rw [← len]
      rfl
    have hr2 : r.toNat < ds.length := by omega
    obtain ⟨v, hv, dv⟩ := hxs.get (List.getElem?_eq_getElem hr2)
    refine ⟨a, xs, r, v, rfl, rfl, Evl.sq_of (e1.at (sub_of ha).1 fun z => (sub_of ha).2 (by rw [List.mem_singleton.mp z]; exact hp)), ?_, k _ v H1 (List.getElem_mem hr2) (dv.mono (exo_more e1 hp)) e1 b1⟩
    have e : r = ((r.toNat : Nat) : Int) := by omega
    rw [e]
    exact atI_nat hv
theorem ok__law_box (T : Txt K mg) : FnOk P w K mg base CX0 1 T.f__law_box T.fd__law_box ["_law_script", "_law_k"] (spBox K) := by
  refine T.F__law_box.ok sc__law_box (fun vs H Q E h => ?_) (fun cdv A outer s H vs Q E hr h => ?_)
  · obtain ⟨a, cs, j, rfl, _⟩ := h
    rfl
  have hu := hu64 hr
  obtain ⟨a, cs, j, rfl, hs, j0, j2, k⟩ := h
  refine ⟨_, (pss_cons (ps_set (i := 2) sc__law_box.nd rfl (Or.inl rfl) (pe_ifExp (pt_cmpR op_lt (pv 1) (pe_callB (kLen (K := K) (by rfl)) (by rfl) T.z_len PySem.boot_len (pa_cons (pv 0) pa_nil)) (nomark _)) (pe_ix (kIxL (K := K) (by rfl)) (pv 0) (pv 1) (fun _ _ => rfl)) pe_int))
  (pss_one (ps_ret (pe_lst (pa_cons (pe_op op_mul (pe_callB call_abs (by rfl) T.z_abs (by decide +kernel) (pa_cons (pv 2) pa_nil)) (pe_callTy call_int1 (by rfl) T.z_int (by decide +kernel) (pa_cons (pe_cmpR op_ge (pe_callB call_abs (by rfl) T.z_abs (by decide +kernel) (pa_cons (pv 2) pa_nil)) (pe_op op_pow pe_int pe_int) (nomark _)) pa_nil))) (pa_cons (pe_op op_add (pe_op op_add (pe_op op_mod (pe_callTy call_int1 (by rfl) T.z_int (by decide +kernel) (pa_cons (pv 2) pa_nil)) pe_int) (pe_op op_mul pe_int (pv 1))) pe_int) (pa_cons pe_int pa_nil))))))), ?_⟩
  have body : ∀ i : Int, Evl.Ev (tIf (tTest (tOp (rI0 fun i j => .bl (decide (i < j))) (tVar 1) (tCB (DL.rLen K) (tCons (tVar 0) tNil)))) (tOp (rIxL K) (tVar 0) (tVar 1)) (tC (.int 0))) (L2.start N__law_box [V.ref a, V.int j]) H (.int (if j < (cs.length : Int) then cs.getD j.toNat 0 else 0)) := fun _ => by
    refine Evl.ev_if (b := decide (j < (cs.length : Int))) (Evl.et_test (Evl.ev_op (Evl.ev_var rfl) (Evl.ev_is (Evl.ev_len (Evl.ev_var rfl) hs) (by rw [List.length_map])) Evl.rv_I0)) (fun z => ?_) (fun z => ?_)
    · have z := of_decide_eq_true z
      rw [if_pos z]
      have hj : j.toNat < cs.length := by omega
      refine Evl.ev_op (Evl.ev_var rfl) (Evl.ev_var rfl) (Evl.rv_ixL hs ?_)
      have e : j = ((j.toNat : Nat) : Int) := by omega
      rw [e]
      refine atI_nat ?_
      rw [List.getElem?_map, List.getElem?_eq_getElem hj, Int.toNat_natCast, List.getD_eq_getElem?_getD, List.getElem?_eq_getElem hj]
      rfl
    · rw [if_neg (of_decide_eq_false z)]
      exact Evl.ev_c
  refine Evl.q_asg (body 0) fun H1 x1 => ?_
  generalize (if j < (cs.length : Int) then cs.getD j.toNat 0 else 0) = cell
  have ab : Evl.Ev (tCB (fun xs H Q => ∃ i, xs = [.int i] ∧ Q (.int (if i < 0 then -i else i)) H) (tCons (tVar 2) tNil)) ((L2.start N__law_box [V.ref a, V.int j]).set 2 (some (.int cell))) H1 (.int (if cell < 0 then -cell else cell)) := rabs (Evl.ev_var rfl)
  refine Evl.s_retL (Evl.el_lst (Evl.ea_cons (Evl.ev_op ab (rcb (K := K) (Evl.ev_op ab (Evl.ev_op Evl.ev_c Evl.ev_c (Evl.rv_I ⟨by decide, by decide, by decide⟩)) Evl.rv_I0)) (Evl.rv_I (.inr ?_)))
    (Evl.ea_cons (Evl.ev_op (Evl.ev_op (Evl.ev_op (rc1 (K := K) (Evl.ev_var rfl)) Evl.ev_c (Evl.rv_I (by decide))) (Evl.ev_op Evl.ev_c (Evl.ev_var rfl) (Evl.rv_I (.inl ⟨by decide, by decide⟩))) Evl.rv_I0) Evl.ev_c Evl.rv_I0) (Evl.ea_cons Evl.ev_c Evl.ea_nil))) (Nat.le_of_ble_eq_true rfl)) fun p H2 hp x2 h2 => ?_
  · generalize decide (10 ^ Int.toNat 18 ≤ if cell < 0 then -cell else cell) = b
    cases b <;> exact ⟨by decide, by decide⟩
  · refine k p H2 (Evl.fresh_back x1 hp) (x1.trans x2) ⟨_, _, _, h2, ?_, ?_, ?_, by decide, by decide⟩
    · have q := abs_pos cell
      refine Int.mul_nonneg q ?_
      generalize decide (10 ^ Int.toNat 18 ≤ if cell < 0 then -cell else cell) = b
      cases b <;> decide
    · have q1 := Int.emod_nonneg cell (b := 2305843009213693951) (by decide)
      omega
    · have q2 := Int.emod_lt_of_pos cell (b := 2305843009213693951) (by decide)
      omega
theorem ok__law_cells (T : Txt K mg) : FnOk P w K mg base CX0 1 T.f__law_cells T.fd__law_cells ["_law_script", "_law_top_so"] (spCells K) := by
  refine T.F__law_cells.ok sc__law_cells (fun vs H Q E h => ?_) (fun cdv A outer s H vs Q E hr h => ?_)
  · obtain ⟨a, ns, rfl, _⟩ := h
    rfl
  have hu := hu64 hr
  obtain ⟨a, ns, rfl, hs, h63, k⟩ := h
  refine ⟨_, (pss_cons (ps_set (i := 2) sc__law_cells.nd rfl (Or.inl rfl) (kOrT (K := K) (by rfl) (pe_callTy (kList (K := K) (by rfl)) (by rfl) T.z_list (by decide +kernel) (pa_cons (pe_slice (kSlL (K := K) (by rfl)) (pv 0) po_none (po_some (pv 1))) pa_nil)) (pe_one (pe_lst (pa_cons pe_int pa_nil)))))
  (pss_cons (ps_for PassesOwn.never rfl (kiEnum (K := K) (by rfl) (by rfl) T.z_enumerate (pa_cons (pe_slice (kSlL (K := K) (by rfl)) (pv 0) (po_some (pv 1)) (po_some pe_int)) pa_nil)) (kgTup (K := K) (n := 2) (by rfl) (by rfl) (pgs_cons (pg_name (i := 3) sc__law_cells.nd rfl (Or.inl rfl)) (pgs_cons (pg_name (i := 4) sc__law_cells.nd rfl (Or.inl rfl)) pgs_nil))) (pss_cons (ps_set (i := 5) sc__law_cells.nd rfl (Or.inl rfl) (pe_op op_mod (pe_callTy call_int1 (by rfl) T.z_int (by decide +kernel) (pa_cons (pv 3) pa_nil)) (pv 1)))
  (pss_one (ps_asg (pe_op op_add (pe_ix (kIxL (K := K) (by rfl)) (pv 2) (pv 5) (fun _ _ => rfl)) (pe_op op_mul (pv 4) (pe_op op_add (pv 3) pe_int))) (pg_sub (pv 2) (pv 5) set_list)))))
  (pss_one (ps_ret (pv 2))))), ?_⟩
  -- what stands in slot 2: a new list of one to three ints, three if the script goes on
  have first : ∀ (D : Ends) (u : TS), (∀ (p : Addr) (cs : List Int) (H1 : Hp), H p = none → Evl.Ex H H1 → H1 p = some (.lst (cs.map V.int)) → 1 ≤ cs.length → cs.length ≤ 3 → (3 < ns.length → cs.length = 3) → u D ((L2.start N__law_cells [V.ref a, V.int 3]).set 2 (some (.ref p))) H1) →
      tSeq (tAsg (tOrT K (tCB (rListOf K) (tCons (tSl (rSlL K) (tVar 0) tNoPart (tPart (tVar 1))) tNil)) (tLst (tCons (tC (.int 0)) tNil))) (gName 2)) u D (L2.start N__law_cells [V.ref a, V.int 3]) H := fun D u hu' => by
    have e3 : cutV (ns.map V.int) none (some 3) = (ns.take 3).map V.int := by
      rw [cut_map, HT.sIx_none, show HT.sIx ns.length ns.length (some 3) = min 3 ns.length from HT.sIx_nat _ _ 3, List.drop_zero, Nat.sub_zero]
      congr 1
      by_cases c : ns.length ≤ 3
      · rw [Nat.min_eq_right c, List.take_of_length_le (Nat.le_refl _), List.take_of_length_le c]
      · rw [Nat.min_eq_left (by omega)]
    refine ⟨_, rfl, _, rfl, 3, rfl, a, ns.map V.int, rfl, hs, fun p1 n1 => ?_⟩
    have x1 : Evl.Ex H (upd H p1 (.lst (cutV (ns.map V.int) none (some 3)))) := Evl.Ex.new n1
    rw [e3] at x1 ⊢
    refine ⟨p1, _, rfl, .inl (Evl.sq_of upd_same), fun p2 n2 => ?_⟩
    have x2 := x1.trans (Evl.Ex.new (o := .lst ((ns.take 3).map V.int)) n2)
    refine ⟨!((ns.take 3).map V.int).isEmpty, .inl ⟨_, Evl.sq_of upd_same, rfl⟩, ?_⟩
    cases ns with
    | nil =>
      refine iteF ⟨(by show 1 ≤ sizeLine; decide), fun p3 n3 => ?_⟩
      exact hu' p3 [0] _ (Evl.fresh_back x2 n3) (x2.trans (Evl.Ex.new n3)) upd_same (by decide) (by decide) (fun z => by simp at z)
    | cons n0 nr =>
      refine iteT ?_
      refine hu' p2 ((n0 :: nr).take 3) _ (Evl.fresh_back x1 n2) x2 upd_same ?_ ?_ fun z => ?_
      · rw [List.length_take, List.length_cons]
        omega
      · rw [List.length_take]
        omega
      · rw [List.length_take]
        omega
  refine first _ _ fun p cs H1 hp x1 h1 c1 c3 cz => ?_
  have hs1 : SqL K H1 a (ns.map V.int) := Evl.ex_l x1 hs
  refine ⟨_, rfl, _, rfl, 3, rfl, 63, rfl, a, ns.map V.int, rfl, hs1, fun q nq => ?_⟩
  rw [cut_map]
  generalize hms : (ns.drop (HT.sIx ns.length 0 (some 3))).take (HT.sIx ns.length ns.length (some 63) - HT.sIx ns.length 0 (some 3)) = ms
  have hm : 0 < ms.length → 3 < ns.length := fun z => by
    have e : HT.sIx ns.length 0 (some 3) = min 3 ns.length := HT.sIx_nat _ _ 3
    rw [← hms, List.length_take, List.length_drop, e] at z
    omega
  have hmz : ms.length ≤ 63 := by
    rw [← hms, List.length_take, List.length_drop]
    omega
  have x2 : Evl.Ex H1 (upd H1 q (.lst (ms.map V.int))) := Evl.Ex.new nq
  have hnp : H p = none := hp
  have npq : q ≠ p := fun z => by rw [z, h1] at nq; cases nq
  refine ⟨q, ms.map V.int, rfl, Evl.sq_of upd_same, for_it (walk_enum (xs := ms.map V.int)) (fun i σ H2 => ∃ (cs2 : List Int) (o3 o4 o5 : Option V), σ = [some (.ref a), some (.int 3), some (.ref p), o3, o4, o5] ∧ cs2.length = cs.length ∧ H2 p = some (.lst (cs2.map V.int)) ∧ H2 q = some (.lst (ms.map V.int)) ∧ Evl.Ex H H2)
    ⟨cs, none, none, none, rfl, rfl, x2 _ _ h1, upd_same, x1.trans x2⟩ (fun i σ H2 _ ⟨_, _, _, _, _, _, _, hq, _⟩ => Evl.sq_of hq) ?_ ?_⟩
  · rintro i x σ H2 H3 hi ⟨cs2, o3, o4, o5, rfl, l2, hp2, hq2, x3⟩ ⟨Tt, y1, y2, rfl, nT, rfl, q1, q2⟩
    cases q1
    have q2 : (ms.map V.int)[i]? = some y2 := q2
    obtain ⟨z, rfl⟩ : ∃ z, y2 = V.int z := by
      rw [List.getElem?_map] at q2
      cases e : ms[i]? with
      | none =>
        rw [e] at q2
        cases q2
      | some z =>
        rw [e] at q2
        exact ⟨z, (Option.some.inj q2).symm⟩
    have x4 : Evl.Ex H2 (upd H2 Tt (.tup [.int (i : Nat), .int z])) := Evl.Ex.new nT
    have hi2 : i < ms.length := by
      rw [List.length_map] at hi
      exact hi
    have hcs : cs2.length = 3 := by
      rw [l2]
      exact cz (hm (by omega))
    refine ⟨Tt, [.int (i : Nat), .int z], rfl, Evl.st_of upd_same, rfl, .int (i : Nat), [.int z], rfl, .int z, [], rfl, rfl, ?_⟩
    -- at = int(k) % top
    refine Evl.q_asg (Evl.ev_op (rc1 (K := K) (Evl.ev_var rfl)) (Evl.ev_var rfl) (Evl.rv_I (by decide))) fun H4 x5 => ?_
    obtain ⟨j, hj, hj3⟩ : ∃ j : Nat, ((i : Nat) : Int) % 3 = (j : Int) ∧ j < 3 := ⟨i % 3, by omega, Nat.mod_lt _ (by decide)⟩
    rw [hj]
    have hp4 : H4 p = some (.lst (cs2.map V.int)) := x5 _ _ (x4 _ _ hp2)
    have hjl : j < (cs2.map V.int).length := by rw [List.length_map]; omega
    have hget : (cs2.map V.int)[j]? = some (.int (cs2[j]'(by omega))) := by
      rw [List.getElem?_map, List.getElem?_eq_getElem (by omega)]
      rfl
    refine Evl.s_setL (l := p) (j := j) hp4 (Evl.ev_op (Evl.ev_op (Evl.ev_var rfl) (Evl.ev_var rfl) (Evl.rv_ixL (Evl.sq_of hp4) (atI_nat hget))) (Evl.ev_op (Evl.ev_var rfl) (Evl.ev_op (Evl.ev_var rfl) Evl.ev_c Evl.rv_I0) (Evl.rv_I (.inr ⟨by omega, by omega⟩))) Evl.rv_I0) (Evl.ev_var rfl) (Evl.ev_var rfl) hjl fun H5 x6 => ?_
    refine ⟨cs2.set j (cs2[j]'(by omega) + z * (((i : Nat) : Int) + 2)), some (.int (i : Nat)), some (.int z), some (.int (j : Int)), rfl, by rw [List.length_set]; exact l2, ?_, ?_, ?_⟩
    · rw [List.map_set]
      exact upd_same
    · rw [upd_ne npq]
      exact x6 _ _ (x5 _ _ (x4 _ _ hq2))
    · exact Evl.Ex.mut (x3.trans (x4.trans (x5.trans x6))) hnp
  · rintro σ H2 ⟨cs2, o3, o4, o5, rfl, l2, hp2, hq2, x3⟩
    exact ⟨_, rfl, k p cs2 H2 hnp x3 hp2 (by omega) (by omega)⟩
end
end K00
namespace K00
open PySem L2 PyProof.Rows DL TL RZ
local macro_rules | `(tactic| walk_at "len") => `(tactic| first
  | exact Nat.le_of_ble_eq_true rfl
  | assumption
  | (simp only [List.length_map, List.length_cons, List.length_nil, dI, dS, dB, List.length_reverse, List.length_append, List.length_range, rngD]; omega)
  | omega)
local macro_rules | `(tactic| walk_at "rd") => `(tactic| first
  | with_reducible exact rd_add
  | with_reducible exact rd_sub
  | with_reducible exact rd_eqs
  | with_reducible exact rd_eqi
  | with_reducible exact rd_eqb
  | with_reducible exact rd_eqN
  | with_reducible exact rd_nes
  | with_reducible exact rd_nei
  | with_reducible exact rd_neb
  | with_reducible exact rd_B
  | with_reducible exact rd_isN
  | with_reducible exact rd_inS
  | ((with_reducible apply rd_ixTz); rfl; rfl)
  | ((with_reducible apply rd_ixLz); rfl; rfl)
  | ((with_reducible apply rd_cats); walk_at "len")
  | ((with_reducible apply rd_catl); walk_at "len")
  | ((with_reducible apply rd_repl) <;> (first | decide | omega))
  | ((with_reducible apply rd_reps); exact ⟨by decide +kernel, by intro _ _; decide +kernel, by intro _ _; decide +kernel⟩)
  | ((with_reducible apply rd_neD) <;> (first | rfl | decide +kernel))
  | ((with_reducible apply rd_eqD) <;> (first | rfl | decide +kernel))
  | (apply rd_I (C := CMul) (g := fun i j => i * j); exact (by first | exact .inl ⟨by decide, by decide⟩ | exact .inr ⟨by decide, by decide⟩))
  | (apply rd_I (C := CPow) (g := fun i j => i ^ j.toNat); exact ⟨by decide, by decide, by decide⟩))
local macro_rules | `(tactic| walk_at "rc") => `(tactic| first
  | with_reducible exact rc_lenL
  | with_reducible exact rc_lenT
  | with_reducible exact rc_int
  | with_reducible exact rc_intb
  | with_reducible exact rc_abs
  | with_reducible exact rc_all
  | with_reducible exact rc_max2
  | with_reducible exact rc_min2
  | with_reducible exact rc_sumT
  | with_reducible exact rc_sumL
  | with_reducible exact rc_list (.lst _)
  | with_reducible exact rc_list (.tup _)
  | with_reducible exact rc_tuple (.lst _)
  | with_reducible exact rc_tuple (.tup _)
  | ((with_reducible apply rc_str); first | assumption | decide +kernel)
  | ((with_reducible apply rc_lenS); assumption))
local macro_rules | `(tactic| walk_at "ea") => `(tactic| first
  | with_reducible exact ea_nil
  | ((with_reducible apply ea_cons); (walk_at "ev"); (walk_at "ea")))
local macro_rules | `(tactic| walk_at "call") => `(tactic| fail "call")
local macro_rules | `(tactic| walk_at "it") => `(tactic| first
  | ((with_reducible apply it_list); walk_at "ev")
  | ((with_reducible apply it_tup); walk_at "ev")
  | ((with_reducible apply it_rng); (walk_at "ea"); walk_at "len")
  | ((with_reducible apply it_enum); walk_at "ev")
  | ((with_reducible apply it_zip); (walk_at "ev"); (walk_at "ev"))
  | ((with_reducible apply it_zipA); rotate_left; (walk_at "ev"); (walk_at "ev"); first | exact .lst _ _ | exact .tup _ _)
  | ((with_reducible apply it_seq); rotate_left; (walk_at "ev"); first | exact .lst _ | exact .tup _ | assumption))
local macro_rules | `(tactic| walk_at "tgs") => `(tactic| first
  | with_reducible exact .nil
  | (apply TgsD.cons; (walk_at "tg"); (walk_at "tgs")))
local macro_rules | `(tactic| walk_at "tg") => `(tactic| first
  | ((with_reducible apply tg_name) <;> decide)
  | (apply tg_tup; (walk_at "tgs"); rfl)
  | (apply tg_seq; rotate_left; (walk_at "tgs"); rfl; first | exact .lst _ | exact .tup _ | assumption))
local macro_rules | `(tactic| walk_at "all2") => `(tactic| first
  | exact .nil
  | (apply All2.cons; (apply Exists.intro; apply And.intro; (walk_at "tg"); (walk_at "ev")); (walk_at "all2")))
local macro_rules | `(tactic| walk_at "ej") => `(tactic| first
  | with_reducible exact .nil
  | (apply EvJ.cons; (walk_at "ev"); (walk_at "ej")))
local macro_rules | `(tactic| walk_at "eo") => `(tactic| first
  | with_reducible exact eo_none
  | ((with_reducible apply eo_some); walk_at "ev"))
local macro_rules | `(tactic| walk_at "ev") => `(tactic| first
  | ((with_reducible apply ed_var); exact rfl)
  | with_reducible exact ed_int
  | with_reducible exact ed_str
  | with_reducible exact ed_bl
  | with_reducible exact ed_non
  | ((with_reducible apply ed_tup); (walk_at "ea"); (walk_at "len"))
  | ((with_reducible apply ed_lst); (walk_at "ea"); (walk_at "len"))
  | ((with_reducible apply ed_call); (walk_at "ea"); (walk_at "call"))
  | ((with_reducible apply ed_callN); (walk_at "ea"); rfl; (first | exact fun H vs q => q | exact sw_dq | exact sw3_dq); (walk_at "call"))
  | ((with_reducible apply ed_op); (walk_at "ev"); (walk_at "ev"); (walk_at "rd"))
  | ((with_reducible apply ed_isi); (walk_at "ev"); decide; try (first | rfl | decide))
  | ((with_reducible apply ed_isiT); (walk_at "ev"); decide; decide; try (first | rfl | decide))
  | ((with_reducible apply ed_neg); walk_at "ev")
  | ((with_reducible apply ed_andV); (walk_at "ev"); intro _; walk_at "ev")
  | ((with_reducible apply ed_orV); (walk_at "ev"); intro _; walk_at "ev")
  | ((with_reducible apply ed_notV); walk_at "ev")
  | ((with_reducible apply ed_split); (walk_at "ev"); (walk_at "ev"); (decide +kernel); walk_at "len")
  | ((with_reducible apply ed_partition); (walk_at "ev"); (walk_at "ev"); (decide +kernel); walk_at "len")
  | ((with_reducible apply ed_isdigit); walk_at "ev")
  | ((with_reducible apply ed_isascii); walk_at "ev")
  | ((with_reducible apply ed_startswith); (walk_at "ev"); walk_at "ev")
  | ((with_reducible apply ed_revL); walk_at "ev")
  | ((with_reducible apply ed_slA); (walk_at "ev"); (walk_at "eo"); walk_at "eo")
  | ((with_reducible apply ed_slL); (walk_at "ev"); (walk_at "eo"); walk_at "eo")
  | ((with_reducible apply ed_slS); (walk_at "ev"); (walk_at "eo"); (walk_at "eo"); walk_at "len")
  | ((with_reducible apply ed_joined); (walk_at "ej"); walk_at "len")
  | ((with_reducible apply ed_fmtI); (walk_at "ev"); first | assumption | decide +kernel)
  | ((with_reducible apply ed_fmtS); (walk_at "ev"); walk_at "len")
  | ((with_reducible apply ed_cb); (walk_at "ea"); walk_at "rc")
  | (apply ed_lc; (walk_at "it"); (walk_at "len"); intro D'; walk_at "all2"))
local macro_rules | `(tactic| walk_at "et") => `(tactic| first
  | ((with_reducible apply et_test); walk_at "ev")
  | ((with_reducible apply et_B); walk_at "ev")
  | ((with_reducible apply DL.et_not); walk_at "et")
  | ((with_reducible apply et_and); (walk_at "et"); intro _; walk_at "et")
  | ((with_reducible apply et_or); (walk_at "et"); intro _; walk_at "et"))
local macro_rules | `(tactic| walk_at "etb") => `(tactic| (apply et_is; (walk_at "et"); first | rfl | decide | (simp [tyIs, tyN]; done)))

section
variable {P : Program} {w : World} {K : PySem.W.Frag} {mg : Str → Option Value} {base : Heap}
def R_sorts (T : Txt K mg) (ds : List PyData) (d : PyData) : Prop := ∃ (C : Addr) (ks : List (PyData × PyData)) (b0 b1 b2 b3 b4 b5 b6 b7 b8 b9 b10 b11 b12 : Bool), IsiC K C ∧ PySem.W.kitOne K (.ref C) (.ref T.C_BadRun) = some b0 ∧ PySem.W.kitOne K (.ref C) (.ref T.C_BadText) = some b1 ∧ PySem.W.kitOne K (.ref C) (.ref T.C_BadLine) = some b2 ∧ PySem.W.kitOne K (.ref C) (.ref T.C_NoPlace) = some b3 ∧ PySem.W.kitOne K (.ref C) (.ref T.C_NoStrike) = some b4 ∧ PySem.W.kitOne K (.ref C) (.ref T.C_NoStep) = some b5 ∧ PySem.W.kitOne K (.ref C) (.ref T.C_NothingDone) = some b6 ∧ PySem.W.kitOne K (.ref C) (.ref T.C_Known) = some b7 ∧ PySem.W.kitOne K (.ref C) (.ref T.C_OtherDays) = some b8 ∧ PySem.W.kitOne K (.ref C) (.ref T.C_NoYear) = some b9 ∧ PySem.W.kitOne K (.ref C) (.ref T.C_BadAnswer) = some b10 ∧ PySem.W.kitOne K (.ref C) (.ref T.C_AllKnown) = some b11 ∧ PySem.W.kitOne K (.ref C) (.ref T.C_NoNumber) = some b12 ∧ ds = [exD C ks] ∧ d = .list [.bool b0, .bool b1, .bool b2, .bool b3, .bool b4, .bool b5, .bool b6, .bool b7, .bool b8, .bool b9, .bool b10, .bool b11, .bool b12]
theorem ok__law_sorts (T : Txt K mg) : FnOk P w K mg base CX0 1 T.f__law_sorts T.fd__law_sorts ["_law_caught"] (spD (R_sorts T)) := by
  refine pure_ok T.F__law_sorts sc__law_sorts (fun ds d h => ?_) (by decide) (fun cdv A outer s H E hr => ?_)
  · obtain ⟨_, _, _, _, _, _, _, _, _, _, _, _, _, _, _, _, _, _, _, _, _, _, _, _, _, _, _, _, _, rfl, _⟩ := h
    rfl
  have hu := hu64 hr
  refine ⟨_, (pss_cons (ps_set (i := 1) sc__law_sorts.nd rfl (Or.inl rfl) (pe_lst (pa_cons (pe_callB (kIsiX (K := K) (by rfl)) (by rfl) T.z_isinstance (by decide +kernel) (pa_cons (pv 0) (pa_cons (pe_glob (v := .ref T.C_BadRun) (by rfl) T.E_BadRun.gC rfl) pa_nil))) (pa_cons (pe_callB (kIsiX (K := K) (by rfl)) (by rfl) T.z_isinstance (by decide +kernel) (pa_cons (pv 0) (pa_cons (pe_glob (v := .ref T.C_BadText) (by rfl) T.E_BadText.gC rfl) pa_nil))) (pa_cons (pe_callB (kIsiX (K := K) (by rfl)) (by rfl) T.z_isinstance (by decide +kernel) (pa_cons (pv 0) (pa_cons (pe_glob (v := .ref T.C_BadLine) (by rfl) T.E_BadLine.gC rfl) pa_nil))) pa_nil)))))
  (pss_cons (ps_set (i := 1) sc__law_sorts.nd rfl (Or.inl rfl) (pe_op op_cat (pv 1) (pe_lst (pa_cons (pe_callB (kIsiX (K := K) (by rfl)) (by rfl) T.z_isinstance (by decide +kernel) (pa_cons (pv 0) (pa_cons (pe_glob (v := .ref T.C_NoPlace) (by rfl) T.E_NoPlace.gC rfl) pa_nil))) (pa_cons (pe_callB (kIsiX (K := K) (by rfl)) (by rfl) T.z_isinstance (by decide +kernel) (pa_cons (pv 0) (pa_cons (pe_glob (v := .ref T.C_NoStrike) (by rfl) T.E_NoStrike.gC rfl) pa_nil))) pa_nil)))))
  (pss_cons (ps_set (i := 1) sc__law_sorts.nd rfl (Or.inl rfl) (pe_op op_cat (pv 1) (pe_lst (pa_cons (pe_callB (kIsiX (K := K) (by rfl)) (by rfl) T.z_isinstance (by decide +kernel) (pa_cons (pv 0) (pa_cons (pe_glob (v := .ref T.C_NoStep) (by rfl) T.E_NoStep.gC rfl) pa_nil))) pa_nil))))
  (pss_cons (ps_set (i := 1) sc__law_sorts.nd rfl (Or.inl rfl) (pe_op op_cat (pv 1) (pe_lst (pa_cons (pe_callB (kIsiX (K := K) (by rfl)) (by rfl) T.z_isinstance (by decide +kernel) (pa_cons (pv 0) (pa_cons (pe_glob (v := .ref T.C_NothingDone) (by rfl) T.X_NothingDone.gC rfl) pa_nil))) (pa_cons (pe_callB (kIsiX (K := K) (by rfl)) (by rfl) T.z_isinstance (by decide +kernel) (pa_cons (pv 0) (pa_cons (pe_glob (v := .ref T.C_Known) (by rfl) T.E_Known.gC rfl) pa_nil))) pa_nil)))))
  (pss_cons (ps_set (i := 1) sc__law_sorts.nd rfl (Or.inl rfl) (pe_op op_cat (pv 1) (pe_lst (pa_cons (pe_callB (kIsiX (K := K) (by rfl)) (by rfl) T.z_isinstance (by decide +kernel) (pa_cons (pv 0) (pa_cons (pe_glob (v := .ref T.C_OtherDays) (by rfl) T.X_OtherDays.gC rfl) pa_nil))) pa_nil))))
  (pss_cons (ps_set (i := 1) sc__law_sorts.nd rfl (Or.inl rfl) (pe_op op_cat (pv 1) (pe_lst (pa_cons (pe_callB (kIsiX (K := K) (by rfl)) (by rfl) T.z_isinstance (by decide +kernel) (pa_cons (pv 0) (pa_cons (pe_glob (v := .ref T.C_NoYear) (by rfl) T.E_NoYear.gC rfl) pa_nil))) (pa_cons (pe_callB (kIsiX (K := K) (by rfl)) (by rfl) T.z_isinstance (by decide +kernel) (pa_cons (pv 0) (pa_cons (pe_glob (v := .ref T.C_BadAnswer) (by rfl) T.E_BadAnswer.gC rfl) pa_nil))) pa_nil)))))
  (pss_cons (ps_set (i := 1) sc__law_sorts.nd rfl (Or.inl rfl) (pe_op op_cat (pv 1) (pe_lst (pa_cons (pe_callB (kIsiX (K := K) (by rfl)) (by rfl) T.z_isinstance (by decide +kernel) (pa_cons (pv 0) (pa_cons (pe_glob (v := .ref T.C_AllKnown) (by rfl) T.X_AllKnown.gC rfl) pa_nil))) pa_nil))))
  (pss_one (ps_ret (pe_op op_cat (pv 1) (pe_lst (pa_cons (pe_callB (kIsiX (K := K) (by rfl)) (by rfl) T.z_isinstance (by decide +kernel) (pa_cons (pv 0) (pa_cons (pe_glob (v := .ref T.C_NoNumber) (by rfl) T.E_NoNumber.gC rfl) pa_nil))) pa_nil)))))))))))), fun O ds d hR => ?_⟩
  obtain ⟨C, ks, b0, b1, b2, b3, b4, b5, b6, b7, b8, b9, b10, b11, b12, I, h0, h1, h2, h3, h4, h5, h6, h7, h8, h9, h10, h11, h12, rfl, rfl⟩ := hR
  refine rr_seq (ρ1 := [some (exD C ks), some (.list [.bool b0, .bool b1, .bool b2])]) (rn_asg (d := .list [.bool b0, .bool b1, .bool b2]) (ed_lst (xs := [.bool b0, .bool b1, .bool b2]) (ea_cons (ed_isx I (fun u r => r) h0 (ed_var rfl)) (ea_cons (ed_isx I (fun u r => r) h1 (ed_var rfl)) (ea_cons (ed_isx I (fun u r => r) h2 (ed_var rfl)) ea_nil))) (Nat.le_of_ble_eq_true rfl)) (by decide)) ?_
  refine rr_seq (ρ1 := [some (exD C ks), some (.list [.bool b0, .bool b1, .bool b2, .bool b3, .bool b4])]) (rn_asg (d := .list [.bool b0, .bool b1, .bool b2, .bool b3, .bool b4]) (ed_is (ed_op (ed_var rfl) (ed_lst (xs := [.bool b3, .bool b4]) (ea_cons (ed_isx I (fun u r => r) h3 (ed_var rfl)) (ea_cons (ed_isx I (fun u r => r) h4 (ed_var rfl)) ea_nil)) (Nat.le_of_ble_eq_true rfl)) (rd_catl (Nat.le_of_ble_eq_true rfl))) rfl) (by decide)) ?_
  refine rr_seq (ρ1 := [some (exD C ks), some (.list [.bool b0, .bool b1, .bool b2, .bool b3, .bool b4, .bool b5])]) (rn_asg (d := .list [.bool b0, .bool b1, .bool b2, .bool b3, .bool b4, .bool b5]) (ed_is (ed_op (ed_var rfl) (ed_lst (xs := [.bool b5]) (ea_cons (ed_isx I (fun u r => r) h5 (ed_var rfl)) ea_nil) (Nat.le_of_ble_eq_true rfl)) (rd_catl (Nat.le_of_ble_eq_true rfl))) rfl) (by decide)) ?_
  refine rr_seq (ρ1 := [some (exD C ks), some (.list [.bool b0, .bool b1, .bool b2, .bool b3, .bool b4, .bool b5, .bool b6, .bool b7])]) (rn_asg (d := .list [.bool b0, .bool b1, .bool b2, .bool b3, .bool b4, .bool b5, .bool b6, .bool b7]) (ed_is (ed_op (ed_var rfl) (ed_lst (xs := [.bool b6, .bool b7]) (ea_cons (ed_isx I (fun u r => r) h6 (ed_var rfl)) (ea_cons (ed_isx I (fun u r => r) h7 (ed_var rfl)) ea_nil)) (Nat.le_of_ble_eq_true rfl)) (rd_catl (Nat.le_of_ble_eq_true rfl))) rfl) (by decide)) ?_
  refine rr_seq (ρ1 := [some (exD C ks), some (.list [.bool b0, .bool b1, .bool b2, .bool b3, .bool b4, .bool b5, .bool b6, .bool b7, .bool b8])]) (rn_asg (d := .list [.bool b0, .bool b1, .bool b2, .bool b3, .bool b4, .bool b5, .bool b6, .bool b7, .bool b8]) (ed_is (ed_op (ed_var rfl) (ed_lst (xs := [.bool b8]) (ea_cons (ed_isx I (fun u r => r) h8 (ed_var rfl)) ea_nil) (Nat.le_of_ble_eq_true rfl)) (rd_catl (Nat.le_of_ble_eq_true rfl))) rfl) (by decide)) ?_
  refine rr_seq (ρ1 := [some (exD C ks), some (.list [.bool b0, .bool b1, .bool b2, .bool b3, .bool b4, .bool b5, .bool b6, .bool b7, .bool b8, .bool b9, .bool b10])]) (rn_asg (d := .list [.bool b0, .bool b1, .bool b2, .bool b3, .bool b4, .bool b5, .bool b6, .bool b7, .bool b8, .bool b9, .bool b10]) (ed_is (ed_op (ed_var rfl) (ed_lst (xs := [.bool b9, .bool b10]) (ea_cons (ed_isx I (fun u r => r) h9 (ed_var rfl)) (ea_cons (ed_isx I (fun u r => r) h10 (ed_var rfl)) ea_nil)) (Nat.le_of_ble_eq_true rfl)) (rd_catl (Nat.le_of_ble_eq_true rfl))) rfl) (by decide)) ?_
  refine rr_seq (ρ1 := [some (exD C ks), some (.list [.bool b0, .bool b1, .bool b2, .bool b3, .bool b4, .bool b5, .bool b6, .bool b7, .bool b8, .bool b9, .bool b10, .bool b11])]) (rn_asg (d := .list [.bool b0, .bool b1, .bool b2, .bool b3, .bool b4, .bool b5, .bool b6, .bool b7, .bool b8, .bool b9, .bool b10, .bool b11]) (ed_is (ed_op (ed_var rfl) (ed_lst (xs := [.bool b11]) (ea_cons (ed_isx I (fun u r => r) h11 (ed_var rfl)) ea_nil) (Nat.le_of_ble_eq_true rfl)) (rd_catl (Nat.le_of_ble_eq_true rfl))) rfl) (by decide)) ?_
  exact rr_ret (ed_is (ed_op (ed_var rfl) (ed_lst (xs := [.bool b12]) (ea_cons (ed_isx I (fun u r => r) h12 (ed_var rfl)) ea_nil) (Nat.le_of_ble_eq_true rfl)) (rd_catl (Nat.le_of_ble_eq_true rfl))) rfl)
def eA (T : Txt K mg) (r : Int) (s : Str) : List PyData := [(exD T.C_BadRun [(.str (Str.ofString "place"), .int r)]), (exD T.C_BadText [(.str (Str.ofString "piece"), .int r)]), (exD T.C_BadLine [(.str (Str.ofString "number"), .int r)]), (exD T.C_NoPlace [(.str (Str.ofString "number"), .int r)])]
def eB (T : Txt K mg) (r : Int) (s : Str) : List PyData := eA T r s ++ [(exD T.C_NoStrike [(.str (Str.ofString "place"), .int r)]), (exD T.C_NoStep [(.str (Str.ofString "place"), .int r)]), (exD0 T.C_NothingDone)]
def eX (T : Txt K mg) (r : Int) (s : Str) : List PyData := eB T r s ++ [(exD T.C_Known [(.str (Str.ofString "name"), .str s)]), (exD0 T.C_OtherDays), (exD T.C_NoYear [(.str (Str.ofString "name"), .str s)]), (exD T.C_BadAnswer [(.str (Str.ofString "number"), .int r)]), (exD0 T.C_AllKnown), (exD T.C_NoNumber [(.str (Str.ofString "number"), .int r)])]
def sorD (i : Nat) : PyData := .list (((List.range 13).map fun j : Nat => decide ((j : Int) = (i : Int))).map PyData.bool)
theorem each (T : Txt K mg) (r : Int) (s : Str) : ∀ i e, (eX T r s)[i]? = some e → ∃ (C : Addr) (ks : List (PyData × PyData)), e = exD C ks ∧ IsiC K C ∧ PySem.W.kitOne K (.ref C) (.ref T.C_ButtError) = some true ∧ PySem.W.kitOne K (.ref C) (.type "LookupError") = some false ∧ R_sorts T [e] (sorD i)
  | 0, e, h => by
    cases h
    exact ⟨T.C_BadRun, _, rfl, T.I_BadRun, T.KU_BadRun, T.KL_BadRun, T.C_BadRun, _, true, false, false, false, false, false, false, false, false, false, false, false, false, T.I_BadRun, T.KO_BadRun_BadRun, T.KO_BadRun_BadText, T.KO_BadRun_BadLine, T.KO_BadRun_NoPlace, T.KO_BadRun_NoStrike, T.KO_BadRun_NoStep, T.KO_BadRun_NothingDone, T.KO_BadRun_Known, T.KO_BadRun_OtherDays, T.KO_BadRun_NoYear, T.KO_BadRun_BadAnswer, T.KO_BadRun_AllKnown, T.KO_BadRun_NoNumber, rfl, rfl⟩
  | 1, e, h => by
    cases h
    exact ⟨T.C_BadText, _, rfl, T.I_BadText, T.KU_BadText, T.KL_BadText, T.C_BadText, _, false, true, false, false, false, false, false, false, false, false, false, false, false, T.I_BadText, T.KO_BadText_BadRun, T.KO_BadText_BadText, T.KO_BadText_BadLine, T.KO_BadText_NoPlace, T.KO_BadText_NoStrike, T.KO_BadText_NoStep, T.KO_BadText_NothingDone, T.KO_BadText_Known, T.KO_BadText_OtherDays, T.KO_BadText_NoYear, T.KO_BadText_BadAnswer, T.KO_BadText_AllKnown, T.KO_BadText_NoNumber, rfl, rfl⟩
  | 2, e, h => by
    cases h
    exact ⟨T.C_BadLine, _, rfl, T.I_BadLine, T.KU_BadLine, T.KL_BadLine, T.C_BadLine, _, false, false, true, false, false, false, false, false, false, false, false, false, false, T.I_BadLine, T.KO_BadLine_BadRun, T.KO_BadLine_BadText, T.KO_BadLine_BadLine, T.KO_BadLine_NoPlace, T.KO_BadLine_NoStrike, T.KO_BadLine_NoStep, T.KO_BadLine_NothingDone, T.KO_BadLine_Known, T.KO_BadLine_OtherDays, T.KO_BadLine_NoYear, T.KO_BadLine_BadAnswer, T.KO_BadLine_AllKnown, T.KO_BadLine_NoNumber, rfl, rfl⟩
  | 3, e, h => by
    cases h
    exact ⟨T.C_NoPlace, _, rfl, T.I_NoPlace, T.KU_NoPlace, T.KL_NoPlace, T.C_NoPlace, _, false, false, false, true, false, false, false, false, false, false, false, false, false, T.I_NoPlace, T.KO_NoPlace_BadRun, T.KO_NoPlace_BadText, T.KO_NoPlace_BadLine, T.KO_NoPlace_NoPlace, T.KO_NoPlace_NoStrike, T.KO_NoPlace_NoStep, T.KO_NoPlace_NothingDone, T.KO_NoPlace_Known, T.KO_NoPlace_OtherDays, T.KO_NoPlace_NoYear, T.KO_NoPlace_BadAnswer, T.KO_NoPlace_AllKnown, T.KO_NoPlace_NoNumber, rfl, rfl⟩
  | 4, e, h => by
    cases h
    exact ⟨T.C_NoStrike, _, rfl, T.I_NoStrike, T.KU_NoStrike, T.KL_NoStrike, T.C_NoStrike, _, false, false, false, false, true, false, false, false, false, false, false, false, false, T.I_NoStrike, T.KO_NoStrike_BadRun, T.KO_NoStrike_BadText, T.KO_NoStrike_BadLine, T.KO_NoStrike_NoPlace, T.KO_NoStrike_NoStrike, T.KO_NoStrike_NoStep, T.KO_NoStrike_NothingDone, T.KO_NoStrike_Known, T.KO_NoStrike_OtherDays, T.KO_NoStrike_NoYear, T.KO_NoStrike_BadAnswer, T.KO_NoStrike_AllKnown, T.KO_NoStrike_NoNumber, rfl, rfl⟩
  | 5, e, h => by
    cases h
    exact ⟨T.C_NoStep, _, rfl, T.I_NoStep, T.KU_NoStep, T.KL_NoStep, T.C_NoStep, _, false, false, false, false, false, true, false, false, false, false, false, false, false, T.I_NoStep, T.KO_NoStep_BadRun, T.KO_NoStep_BadText, T.KO_NoStep_BadLine, T.KO_NoStep_NoPlace, T.KO_NoStep_NoStrike, T.KO_NoStep_NoStep, T.KO_NoStep_NothingDone, T.KO_NoStep_Known, T.KO_NoStep_OtherDays, T.KO_NoStep_NoYear, T.KO_NoStep_BadAnswer, T.KO_NoStep_AllKnown, T.KO_NoStep_NoNumber, rfl, rfl⟩
  | 6, e, h => by
    cases h
    exact ⟨T.C_NothingDone, _, rfl, T.I_NothingDone, T.KU_NothingDone, T.KL_NothingDone, T.C_NothingDone, _, false, false, false, false, false, false, true, false, false, false, false, false, false, T.I_NothingDone, T.KO_NothingDone_BadRun, T.KO_NothingDone_BadText, T.KO_NothingDone_BadLine, T.KO_NothingDone_NoPlace, T.KO_NothingDone_NoStrike, T.KO_NothingDone_NoStep, T.KO_NothingDone_NothingDone, T.KO_NothingDone_Known, T.KO_NothingDone_OtherDays, T.KO_NothingDone_NoYear, T.KO_NothingDone_BadAnswer, T.KO_NothingDone_AllKnown, T.KO_NothingDone_NoNumber, rfl, rfl⟩
  | 7, e, h => by
    cases h
    exact ⟨T.C_Known, _, rfl, T.I_Known, T.KU_Known, T.KL_Known, T.C_Known, _, false, false, false, false, false, false, false, true, false, false, false, false, false, T.I_Known, T.KO_Known_BadRun, T.KO_Known_BadText, T.KO_Known_BadLine, T.KO_Known_NoPlace, T.KO_Known_NoStrike, T.KO_Known_NoStep, T.KO_Known_NothingDone, T.KO_Known_Known, T.KO_Known_OtherDays, T.KO_Known_NoYear, T.KO_Known_BadAnswer, T.KO_Known_AllKnown, T.KO_Known_NoNumber, rfl, rfl⟩
  | 8, e, h => by
    cases h
    exact ⟨T.C_OtherDays, _, rfl, T.I_OtherDays, T.KU_OtherDays, T.KL_OtherDays, T.C_OtherDays, _, false, false, false, false, false, false, false, false, true, false, false, false, false, T.I_OtherDays, T.KO_OtherDays_BadRun, T.KO_OtherDays_BadText, T.KO_OtherDays_BadLine, T.KO_OtherDays_NoPlace, T.KO_OtherDays_NoStrike, T.KO_OtherDays_NoStep, T.KO_OtherDays_NothingDone, T.KO_OtherDays_Known, T.KO_OtherDays_OtherDays, T.KO_OtherDays_NoYear, T.KO_OtherDays_BadAnswer, T.KO_OtherDays_AllKnown, T.KO_OtherDays_NoNumber, rfl, rfl⟩
  | 9, e, h => by
    cases h
    exact ⟨T.C_NoYear, _, rfl, T.I_NoYear, T.KU_NoYear, T.KL_NoYear, T.C_NoYear, _, false, false, false, false, false, false, false, false, false, true, false, false, false, T.I_NoYear, T.KO_NoYear_BadRun, T.KO_NoYear_BadText, T.KO_NoYear_BadLine, T.KO_NoYear_NoPlace, T.KO_NoYear_NoStrike, T.KO_NoYear_NoStep, T.KO_NoYear_NothingDone, T.KO_NoYear_Known, T.KO_NoYear_OtherDays, T.KO_NoYear_NoYear, T.KO_NoYear_BadAnswer, T.KO_NoYear_AllKnown, T.KO_NoYear_NoNumber, rfl, rfl⟩
  | 10, e, h => by
    cases h
    exact ⟨T.C_BadAnswer, _, rfl, T.I_BadAnswer, T.KU_BadAnswer, T.KL_BadAnswer, T.C_BadAnswer, _, false, false, false, false, false, false, false, false, false, false, true, false, false, T.I_BadAnswer, T.KO_BadAnswer_BadRun, T.KO_BadAnswer_BadText, T.KO_BadAnswer_BadLine, T.KO_BadAnswer_NoPlace, T.KO_BadAnswer_NoStrike, T.KO_BadAnswer_NoStep, T.KO_BadAnswer_NothingDone, T.KO_BadAnswer_Known, T.KO_BadAnswer_OtherDays, T.KO_BadAnswer_NoYear, T.KO_BadAnswer_BadAnswer, T.KO_BadAnswer_AllKnown, T.KO_BadAnswer_NoNumber, rfl, rfl⟩
  | 11, e, h => by
    cases h
    exact ⟨T.C_AllKnown, _, rfl, T.I_AllKnown, T.KU_AllKnown, T.KL_AllKnown, T.C_AllKnown, _, false, false, false, false, false, false, false, false, false, false, false, true, false, T.I_AllKnown, T.KO_AllKnown_BadRun, T.KO_AllKnown_BadText, T.KO_AllKnown_BadLine, T.KO_AllKnown_NoPlace, T.KO_AllKnown_NoStrike, T.KO_AllKnown_NoStep, T.KO_AllKnown_NothingDone, T.KO_AllKnown_Known, T.KO_AllKnown_OtherDays, T.KO_AllKnown_NoYear, T.KO_AllKnown_BadAnswer, T.KO_AllKnown_AllKnown, T.KO_AllKnown_NoNumber, rfl, rfl⟩
  | 12, e, h => by
    cases h
    exact ⟨T.C_NoNumber, _, rfl, T.I_NoNumber, T.KU_NoNumber, T.KL_NoNumber, T.C_NoNumber, _, false, false, false, false, false, false, false, false, false, false, false, false, true, T.I_NoNumber, T.KO_NoNumber_BadRun, T.KO_NoNumber_BadText, T.KO_NoNumber_BadLine, T.KO_NoNumber_NoPlace, T.KO_NoNumber_NoStrike, T.KO_NoNumber_NoStep, T.KO_NoNumber_NothingDone, T.KO_NoNumber_Known, T.KO_NoNumber_OtherDays, T.KO_NoNumber_NoYear, T.KO_NoNumber_BadAnswer, T.KO_NoNumber_AllKnown, T.KO_NoNumber_NoNumber, rfl, rfl⟩
  | i + 13, e, h => by cases h
theorem sor_ok (i : Nat) : okD 7 (sorD i) := ⟨by show 13 ≤ 1000; decide, fun y hy => by
  obtain ⟨b, _, rfl⟩ := List.mem_map.mp hy
  exact trivial⟩
theorem ok__law_right (T : Txt K mg) : FnOk P w K mg base CX0 8 T.f__law_right T.fd__law_right ["_law_box_here"] spRight := by
  refine right_ok (kf := 2000) T.F__law_right sc__law_right rfl (by decide) (by decide) (fun cdv A outer s H E hr => ?_)
  have G__law_same := ok__law_same (P := P) (w := w) (base := base) T
  have hr__law_same : Room 7 _ := hr.mono (by decide)
  have b__law_same := T.b__law_same
  have G__law_of := ok__law_of (P := P) (w := w) (base := base) T
  have hr__law_of : Room 2 _ := hr.mono (by decide)
  have b__law_of := T.b__law_of
  have G__law_take := ok__law_take (P := P) (w := w) (base := base) T
  have hr__law_take : Room 1 _ := hr.mono (by decide)
  have b__law_take := T.b__law_take
  have G__law_sorts := ok__law_sorts (P := P) (w := w) (base := base) T
  have hr__law_sorts : Room 1 _ := hr.mono (by decide)
  have b__law_sorts := T.b__law_sorts
  have hu := hu64 hr
  refine ⟨_, (pss_cons (ps_par (i := 1) (j := 2) rfl sc__law_right.nd rfl rfl (by decide) rfl rfl (pa_cons (pe_op op_sub (pe_call G__law_take hr__law_take rfl T.m__law_take T.F__law_take.kp b__law_take .nil pass0 (pa_cons (pv 0) (pa_cons (pe_op op_pow pe_int pe_int) pa_nil))) (pe_op op_mul pe_int (pe_op op_pow pe_int pe_int))) (pa_cons (pe_call G__law_of hr__law_of rfl T.m__law_of T.F__law_of.kp b__law_of .nil pass0 (pa_cons (pv 0) (pa_cons (pe_lst (pa_cons pe_str (pa_cons pe_str (pa_cons pe_str (pa_cons pe_str pa_nil))))) pa_nil))) pa_nil)) (by first | rfl | kernel_rfl))
  (pss_cons (ps_set (i := 3) sc__law_right.nd rfl (Or.inl rfl) (pe_lst (pa_cons (pe_mk (by rfl) (by rfl) T.E_BadRun (ok_init_BadRun T) T.bI_BadRun (hr.mono (by decide)) (by rfl) (pa_cons (pv 1) pa_nil)) (pa_cons (pe_mk (by rfl) (by rfl) T.E_BadText (ok_init_BadText T) T.bI_BadText (hr.mono (by decide)) (by rfl) (pa_cons (pv 1) pa_nil)) (pa_cons (pe_mk (by rfl) (by rfl) T.E_BadLine (ok_init_BadLine T) T.bI_BadLine (hr.mono (by decide)) (by rfl) (pa_cons (pv 1) pa_nil)) (pa_cons (pe_mk (by rfl) (by rfl) T.E_NoPlace (ok_init_NoPlace T) T.bI_NoPlace (hr.mono (by decide)) (by rfl) (pa_cons (pv 1) pa_nil)) pa_nil))))))
  (pss_cons (ps_set (i := 3) sc__law_right.nd rfl (Or.inl rfl) (pe_op op_cat (pv 3) (pe_lst (pa_cons (pe_mk (by rfl) (by rfl) T.E_NoStrike (ok_init_NoStrike T) T.bI_NoStrike (hr.mono (by decide)) (by rfl) (pa_cons (pv 1) pa_nil)) (pa_cons (pe_mk (by rfl) (by rfl) T.E_NoStep (ok_init_NoStep T) T.bI_NoStep (hr.mono (by decide)) (by rfl) (pa_cons (pv 1) pa_nil)) (pa_cons (pe_mk0 (by rfl) (by rfl) T.X_NothingDone (by rfl)) pa_nil))))))
  (pss_cons (ps_set (i := 3) sc__law_right.nd rfl (Or.inl rfl) (pe_op op_cat (pv 3) (pe_lst (pa_cons (pe_mk (by rfl) (by rfl) T.E_Known (ok_init_Known T) T.bI_Known (hr.mono (by decide)) (by rfl) (pa_cons (pv 2) pa_nil)) (pa_cons (pe_mk0 (by rfl) (by rfl) T.X_OtherDays (by rfl)) (pa_cons (pe_mk (by rfl) (by rfl) T.E_NoYear (ok_init_NoYear T) T.bI_NoYear (hr.mono (by decide)) (by rfl) (pa_cons (pv 2) pa_nil)) (pa_cons (pe_mk (by rfl) (by rfl) T.E_BadAnswer (ok_init_BadAnswer T) T.bI_BadAnswer (hr.mono (by decide)) (by rfl) (pa_cons (pv 1) pa_nil)) (pa_cons (pe_mk0 (by rfl) (by rfl) T.X_AllKnown (by rfl)) (pa_cons (pe_mk (by rfl) (by rfl) T.E_NoNumber (ok_init_NoNumber T) T.bI_NoNumber (hr.mono (by decide)) (by rfl) (pa_cons (pv 1) pa_nil)) pa_nil)))))))))
  (pss_cons (ps_for PassesOwn.never rfl (kiEnum (K := K) (by rfl) (by rfl) T.z_enumerate (pa_cons (pv 3) pa_nil)) (kgTup (K := K) (n := 2) (by rfl) (by rfl) (pgs_cons (pg_name (i := 4) sc__law_right.nd rfl (Or.inr rfl)) (pgs_cons (pg_name (i := 5) sc__law_right.nd rfl (Or.inl rfl)) pgs_nil))) (pss_cons (ps_if (pt_not (pt_val (pe_call G__law_same hr__law_same rfl T.m__law_same T.F__law_same.kp b__law_same .nil pass0 (pa_cons (pe_call G__law_sorts hr__law_sorts rfl T.m__law_sorts T.F__law_sorts.kp b__law_sorts .nil pass0 (pa_cons (pv 5) pa_nil)) (pa_cons (pe_lc (own := [("_law_j", 8)]) rfl sc__law_right.nd (pi_range1 rfl T.z_range (pa_cons pe_int pa_nil)) (blkOk_by (N := N__law_right) (sc := defScope s__law_right) (by decide +kernel)) (fun _ _ _ _ _ => (pg_name (i := 8) sc__law_right.nd rfl (by first | exact Or.inl rfl | exact Or.inr rfl))) (fun _ _ _ _ _ => pts_nil) (fun _ _ _ _ _ => (pe_cmpR op_eq (pv 8) (pv 4) (nomark _)))) pa_nil))))) (pss_one (ps_ret pe_bl)) pss_nil)
  (pss_one (ps_if (PW.pt (pw_or (pt_not (pt_val (pe_callB (kIsiX (K := K) (by rfl)) (by rfl) T.z_isinstance (by decide +kernel) (pa_cons (pv 5) (pa_cons (pe_glob (v := .ref T.C_ButtError) (by rfl) T.gC_ButtError rfl) pa_nil))))) (pw_or (pt_not (pt_val (pe_callB (kIsiX (K := K) (by rfl)) (by rfl) T.z_isinstance (by decide +kernel) (pa_cons (pv 5) (pa_cons (pe_bltn (v := .ty "ValueError") (u := .type "ValueError") (by rfl) T.z_ValueError (by decide +kernel) (by rfl)) pa_nil))))) (pw_or1 (pt_val (pe_callB (kIsiX (K := K) (by rfl)) (by rfl) T.z_isinstance (by decide +kernel) (pa_cons (pv 5) (pa_cons (pe_bltn (v := .ty "LookupError") (u := .type "LookupError") (by rfl) T.z_LookupError (by decide +kernel) (by rfl)) pa_nil)))))))) (pss_one (ps_ret pe_bl)) pss_nil))))
  (pss_cons (ps_set (i := 6) sc__law_right.nd rfl (Or.inl rfl) (pe_lst (pa_cons (pe_kept (by rfl) T.E_BadRun (pe_ix (kIxL (K := K) (by rfl)) (pv 3) pe_int (fun _ _ => rfl))) (pa_cons (pe_kept (by rfl) T.E_BadText (pe_ix (kIxL (K := K) (by rfl)) (pv 3) pe_int (fun _ _ => rfl))) (pa_cons (pe_kept (by rfl) T.E_BadLine (pe_ix (kIxL (K := K) (by rfl)) (pv 3) pe_int (fun _ _ => rfl))) (pa_cons (pe_kept (by rfl) T.E_NoPlace (pe_ix (kIxL (K := K) (by rfl)) (pv 3) pe_int (fun _ _ => rfl))) (pa_cons (pe_kept (by rfl) T.E_NoStrike (pe_ix (kIxL (K := K) (by rfl)) (pv 3) pe_int (fun _ _ => rfl))) pa_nil)))))))
  (pss_cons (ps_set (i := 6) sc__law_right.nd rfl (Or.inl rfl) (pe_op op_cat (pv 6) (pe_lst (pa_cons (pe_kept (by rfl) T.E_NoStep (pe_ix (kIxL (K := K) (by rfl)) (pv 3) pe_int (fun _ _ => rfl))) (pa_cons (pe_kept (by rfl) T.E_Known (pe_ix (kIxL (K := K) (by rfl)) (pv 3) pe_int (fun _ _ => rfl))) (pa_cons (pe_kept (by rfl) T.E_NoYear (pe_ix (kIxL (K := K) (by rfl)) (pv 3) pe_int (fun _ _ => rfl))) pa_nil))))))
  (pss_cons (ps_set (i := 6) sc__law_right.nd rfl (Or.inl rfl) (pe_op op_cat (pv 6) (pe_lst (pa_cons (pe_kept (by rfl) T.E_BadAnswer (pe_ix (kIxL (K := K) (by rfl)) (pv 3) pe_int (fun _ _ => rfl))) (pa_cons (pe_kept (by rfl) T.E_NoNumber (pe_ix (kIxL (K := K) (by rfl)) (pv 3) pe_int (fun _ _ => rfl))) pa_nil)))))
  (pss_cons (ps_set (i := 7) sc__law_right.nd rfl (Or.inl rfl) (pe_op op_cat (pe_op op_rep (pe_lst (pa_cons (pv 1) pa_nil)) pe_int) (pe_lst (pa_cons (pv 2) (pa_cons (pv 2) (pa_cons (pv 1) (pa_cons (pv 1) pa_nil)))))))
  (pss_cons (ps_set (i := 6) sc__law_right.nd rfl (Or.inl rfl) (pe_op op_cat (pv 6) (pe_lst (pa_cons (pe_kept (by rfl) T.E_BadRun (pe_mkK (by rfl) (by rfl) T.E_BadRun (ok_init_BadRun T) (kbI_BadRun T) (hr.mono (by decide)) (by rfl) (pk_cons (pv 1) pk_nil))) (pa_cons (pe_kept (by rfl) T.E_BadText (pe_mkK (by rfl) (by rfl) T.E_BadText (ok_init_BadText T) (kbI_BadText T) (hr.mono (by decide)) (by rfl) (pk_cons pe_int pk_nil))) pa_nil)))))
  (pss_cons (ps_set (i := 6) sc__law_right.nd rfl (Or.inl rfl) (pe_op op_cat (pv 6) (pe_lst (pa_cons (pe_kept (by rfl) T.E_BadLine (pe_mkK (by rfl) (by rfl) T.E_BadLine (ok_init_BadLine T) (kbI_BadLine T) (hr.mono (by decide)) (by rfl) (pk_cons (pe_un un_neg pe_int) pk_nil))) (pa_cons (pe_kept (by rfl) T.E_NoPlace (pe_mkK (by rfl) (by rfl) T.E_NoPlace (ok_init_NoPlace T) (kbI_NoPlace T) (hr.mono (by decide)) (by rfl) (pk_cons (pv 1) pk_nil))) pa_nil)))))
  (pss_cons (ps_set (i := 7) sc__law_right.nd rfl (Or.inl rfl) (pe_op op_cat (pv 7) (pe_lst (pa_cons (pv 1) (pa_cons pe_int (pa_cons (pe_un un_neg pe_int) (pa_cons (pv 1) pa_nil)))))))
  (pss_cons (ps_set (i := 6) sc__law_right.nd rfl (Or.inl rfl) (pe_op op_cat (pv 6) (pe_lst (pa_cons (pe_kept (by rfl) T.E_NoStrike (pe_mkK (by rfl) (by rfl) T.E_NoStrike (ok_init_NoStrike T) (kbI_NoStrike T) (hr.mono (by decide)) (by rfl) (pk_cons pe_int pk_nil))) (pa_cons (pe_kept (by rfl) T.E_NoStep (pe_mkK (by rfl) (by rfl) T.E_NoStep (ok_init_NoStep T) (kbI_NoStep T) (hr.mono (by decide)) (by rfl) (pk_cons (pv 1) pk_nil))) pa_nil)))))
  (pss_cons (ps_set (i := 6) sc__law_right.nd rfl (Or.inl rfl) (pe_op op_cat (pv 6) (pe_lst (pa_cons (pe_kept (by rfl) T.E_Known (pe_mkK (by rfl) (by rfl) T.E_Known (ok_init_Known T) (kbI_Known T) (hr.mono (by decide)) (by rfl) (pk_cons (pv 2) pk_nil))) (pa_cons (pe_kept (by rfl) T.E_NoYear (pe_mkK (by rfl) (by rfl) T.E_NoYear (ok_init_NoYear T) (kbI_NoYear T) (hr.mono (by decide)) (by rfl) (pk_cons pe_str pk_nil))) pa_nil)))))
  (pss_cons (ps_set (i := 7) sc__law_right.nd rfl (Or.inl rfl) (pe_op op_cat (pv 7) (pe_lst (pa_cons pe_int (pa_cons (pv 1) (pa_cons (pv 2) (pa_cons pe_str pa_nil)))))))
  (pss_one (ps_ret (pe_call G__law_same hr__law_same rfl T.m__law_same T.F__law_same.kp b__law_same .nil pass0 (pa_cons (pe_op op_cat (pv 6) (pe_lst (pa_cons (pe_kept (by rfl) T.E_BadAnswer (pe_mkK (by rfl) (by rfl) T.E_BadAnswer (ok_init_BadAnswer T) (kbI_BadAnswer T) (hr.mono (by decide)) (by rfl) (pk_cons (pv 1) pk_nil))) (pa_cons (pe_kept (by rfl) T.E_NoNumber (pe_mkK (by rfl) (by rfl) T.E_NoNumber (ok_init_NoNumber T) (kbI_NoNumber T) (hr.mono (by decide)) (by rfl) (pk_cons (pe_op op_pow pe_int pe_int) pk_nil))) pa_nil)))) (pa_cons (pe_op op_cat (pv 7) (pe_lst (pa_cons (pv 1) (pa_cons (pe_op op_pow pe_int pe_int) pa_nil)))) pa_nil)))))))))))))))))))), rbr_rg ?_⟩
  refine rg_k (k := ((1 + 0) + ((0 + 1) + 0)) + (13 * 0 + 0)) ?_ (by decide)
  refine rg_par (i := 1) (j := 2) (A := fun ds => ∃ (r : Int) (s : Str), ds = [.int r, .str s]) (eba_wk (eba_cons (k1 := 1 + 0) (k2 := (0 + 1) + 0) (S1 := fun d => ∃ r : Int, d = .int r) (eb_op (k1 := 1) (k2 := 0) (S1 := fun d => ∃ r : Int, d = .int r) (S2 := fun d => d = .int (5 * 10 ^ 8)) (eb_draw (m := 10 ^ 9) (fun O => ed_is (ed_op ed_int ed_int (rd_I (C := CPow) (g := fun i j => i ^ j.toNat) ⟨by decide, by decide, by decide⟩)) rfl) (by decide) (by decide) fun r _ _ => ⟨r, rfl⟩) (eb_pure fun O => ed_is (ed_op ed_int (ed_op ed_int ed_int (rd_I (C := CPow) (g := fun i j => i ^ j.toNat) ⟨by decide, by decide, by decide⟩)) (rd_I (g := fun i j => i * j) (.inl (by decide)))) rfl) fun x y hx hy => ?_) (eba_cons (k1 := 0 + 1) (k2 := 0) (S1 := fun d => ∃ s : Str, d = .str s) (eb_ofO (k := 0) (eb_wk (eb_pure fun O => ed_lst (xs := [.str "a", .str "ants", .str "abcdefgh", .str "zz"]) (ea_cons ed_str (ea_cons ed_str (ea_cons ed_str (ea_cons ed_str ea_nil)))) (Nat.le_of_ble_eq_true rfl)) (Nat.le_refl _) fun d hd => ?_)) eba_nil)) (Nat.le_refl _) fun ds hd => ?_) (fun ds hd => ?_) (by decide) (by decide) (by decide) (by decide) rfl rfl fun x y hxy => ?_
  · obtain ⟨r, rfl⟩ := hx
    subst hy
    exact ⟨_, ⟨_, rfl⟩, fun O => rd_sub⟩
  · subst hd
    refine ⟨_, rfl, by decide, by decide, fun e he => ?_⟩
    simp only [List.mem_cons, List.not_mem_nil, or_false] at he
    rcases he with rfl | rfl | rfl | rfl <;> exact ⟨_, rfl⟩
  · obtain ⟨_, _, rfl, ⟨r, rfl⟩, _, _, rfl, ⟨s, rfl⟩, rfl⟩ := hd
    exact ⟨r, s, rfl⟩
  · obtain ⟨r, s, rfl⟩ := hd
    exact ⟨_, _, rfl⟩
  · obtain ⟨r, s, e⟩ := hxy
    cases e
    refine rg_let (d := .list (eA T r s)) (fun O => ed_is (ed_lst (xs := [(exD T.C_BadRun [(.str (Str.ofString "place"), .int r)]), (exD T.C_BadText [(.str (Str.ofString "piece"), .int r)]), (exD T.C_BadLine [(.str (Str.ofString "number"), .int r)]), (exD T.C_NoPlace [(.str (Str.ofString "number"), .int r)])]) (ea_cons (ed_mk (ea_cons (ed_var rfl) ea_nil)) (ea_cons (ed_mk (ea_cons (ed_var rfl) ea_nil)) (ea_cons (ed_mk (ea_cons (ed_var rfl) ea_nil)) (ea_cons (ed_mk (ea_cons (ed_var rfl) ea_nil)) ea_nil)))) (Nat.le_of_ble_eq_true rfl)) rfl) (by decide) (by decide) rfl ?_
    refine rg_let (d := .list (eB T r s)) (fun O => ed_is (ed_op (ed_var rfl) (ed_lst (xs := [(exD T.C_NoStrike [(.str (Str.ofString "place"), .int r)]), (exD T.C_NoStep [(.str (Str.ofString "place"), .int r)]), (exD0 T.C_NothingDone)]) (ea_cons (ed_mk (ea_cons (ed_var rfl) ea_nil)) (ea_cons (ed_mk (ea_cons (ed_var rfl) ea_nil)) (ea_cons ed_mk0 ea_nil))) (Nat.le_of_ble_eq_true rfl)) (rd_catl (Nat.le_of_ble_eq_true rfl))) rfl) (by decide) (by decide) rfl ?_
    refine rg_let (d := .list (eX T r s)) (fun O => ed_is (ed_op (ed_var rfl) (ed_lst (xs := [(exD T.C_Known [(.str (Str.ofString "name"), .str s)]), (exD0 T.C_OtherDays), (exD T.C_NoYear [(.str (Str.ofString "name"), .str s)]), (exD T.C_BadAnswer [(.str (Str.ofString "number"), .int r)]), (exD0 T.C_AllKnown), (exD T.C_NoNumber [(.str (Str.ofString "number"), .int r)])]) (ea_cons (ed_mk (ea_cons (ed_var rfl) ea_nil)) (ea_cons ed_mk0 (ea_cons (ed_mk (ea_cons (ed_var rfl) ea_nil)) (ea_cons (ed_mk (ea_cons (ed_var rfl) ea_nil)) (ea_cons ed_mk0 (ea_cons (ed_mk (ea_cons (ed_var rfl) ea_nil)) ea_nil)))))) (Nat.le_of_ble_eq_true rfl)) (rd_catl (Nat.le_of_ble_eq_true rfl))) rfl) (by decide) (by decide) rfl ?_
    let Iv : Nat → Rho → Own → Prop := fun _ ρ c => c = Own.none ∧ ∃ a4 a5, ρ = [none, some (.int r), some (.str s), some (.list (eX T r s)), a4, a5, none, none, none]
    refine rg_seq (rg_for (M := 13) (k1 := 0) (vs := [4, 5]) (es := enumD (eX T r s)) (fun P => it_enum (ed_var rfl)) (Nat.le_of_ble_eq_true rfl) Iv ⟨rfl, _, _, rfl⟩ (by decide) fun i e he ρi ci hI => ?_) fun ρ1 c1 hI => ?_
    · obtain ⟨rfl, a4, a5, rfl⟩ := hI
      obtain ⟨e, he2, rfl⟩ : ∃ e', (eX T r s)[i]? = some e' ∧ e = .tuple [.int (i : Int), e'] := by
        unfold enumD at he
        rw [List.getElem?_zipWith_eq_some] at he
        obtain ⟨a, b, h1, h2, rfl⟩ := he
        obtain ⟨hi, e⟩ := List.getElem?_eq_some_iff.mp h1
        rw [List.getElem_range] at e
        subst e
        exact ⟨b, h2, rfl⟩
      obtain ⟨C, ks, rfl, I, hB, hL, hs⟩ := each T r s i e he2
      refine ⟨[none, some (.int r), some (.str s), some (.list (eX T r s)), some (.int (i : Int)), some (exD C ks), none, none, none], fun P => tg_is (tg_tup (.cons (tg_name (by decide) (by decide)) (.cons (tg_name (by decide) (by decide)) .nil)) rfl) rfl, rfl, fun a fs ha => (by cases ha), ?_⟩
      refine rg_pass (fun O => et_is (et_not (et_B (ed_call (ea_cons (ed_call (ea_cons (ed_var rfl) ea_nil) hs) (ea_cons (ed_is (d := sorD i) (ed_lcM (l := List.range 13) (e1 := fun j : Nat => PyData.int (j : Int)) (e2 := PyData.bool) (f := fun j : Nat => decide ((j : Int) = (i : Int))) (it_rng (m := 13) (ea_cons ed_int ea_nil) (by decide)) (by decide) fun D j hj => ⟨_, tg_name (by decide) (by decide), ed_op (ed_var rfl) (ed_var rfl) rd_eqi⟩) rfl) ea_nil)) (r_same rfl (sor_ok i))))) rfl) ?_
      exact rg_passE (fun O => et_is (et_or (et_not (et_B (ed_isx I (fun u r => r) hB (ed_var rfl)))) fun _ => et_or (et_not (et_B (ed_isx I (fun u r => r) (kit_ve I) (ed_var rfl)))) fun _ => et_B (ed_isx I (fun u r => r) hL (ed_var rfl))) rfl) ⟨rfl, _, _, rfl⟩
    obtain ⟨rfl, a4, a5, rfl⟩ := hI
    refine rg_let (d := .list [.int r, .int r, .int r, .int r, .int r]) (fun O => ed_lst (ea_cons (ed_exf (ed_op (ed_var rfl) ed_int (rd_ixLz (i := 0) rfl rfl))) (ea_cons (ed_exf (ed_op (ed_var rfl) ed_int (rd_ixLz (i := 1) rfl rfl))) (ea_cons (ed_exf (ed_op (ed_var rfl) ed_int (rd_ixLz (i := 2) rfl rfl))) (ea_cons (ed_exf (ed_op (ed_var rfl) ed_int (rd_ixLz (i := 3) rfl rfl))) (ea_cons (ed_exf (ed_op (ed_var rfl) ed_int (rd_ixLz (i := 4) rfl rfl))) ea_nil))))) (Nat.le_of_ble_eq_true rfl)) (by decide) (by decide) rfl ?_
    refine rg_let (d := .list [.int r, .int r, .int r, .int r, .int r, .int r, .str s, .str s]) (fun O => ed_is (ed_op (ed_var rfl) (ed_lst (xs := [.int r, .str s, .str s]) (ea_cons (ed_exf (ed_op (ed_var rfl) ed_int (rd_ixLz (i := 5) rfl rfl))) (ea_cons (ed_exf (ed_op (ed_var rfl) ed_int (rd_ixLz (i := 7) rfl rfl))) (ea_cons (ed_exf (ed_op (ed_var rfl) ed_int (rd_ixLz (i := 9) rfl rfl))) ea_nil))) (Nat.le_of_ble_eq_true rfl)) (rd_catl (Nat.le_of_ble_eq_true rfl))) rfl) (by decide) (by decide) rfl ?_
    refine rg_let (d := .list [.int r, .int r, .int r, .int r, .int r, .int r, .str s, .str s, .int r, .int r]) (fun O => ed_is (ed_op (ed_var rfl) (ed_lst (xs := [.int r, .int r]) (ea_cons (ed_exf (ed_op (ed_var rfl) ed_int (rd_ixLz (i := 10) rfl rfl))) (ea_cons (ed_exf (ed_op (ed_var rfl) ed_int (rd_ixLz (i := 12) rfl rfl))) ea_nil)) (Nat.le_of_ble_eq_true rfl)) (rd_catl (Nat.le_of_ble_eq_true rfl))) rfl) (by decide) (by decide) rfl ?_
    refine rg_let (d := .list [.int r, .int r, .int r, .int r, .int r, .int r, .str s, .str s, .int r, .int r]) (fun O => ed_is (ed_op (ed_op (ed_lst (xs := [.int r]) (ea_cons (ed_var rfl) ea_nil) (Nat.le_of_ble_eq_true rfl)) ed_int (rd_repl (Nat.le_of_ble_eq_true rfl) (by decide) (by decide))) (ed_lst (xs := [.str s, .str s, .int r, .int r]) (ea_cons (ed_var rfl) (ea_cons (ed_var rfl) (ea_cons (ed_var rfl) (ea_cons (ed_var rfl) ea_nil)))) (Nat.le_of_ble_eq_true rfl)) (rd_catl (Nat.le_of_ble_eq_true rfl))) rfl) (by decide) (by decide) rfl ?_
    refine rg_let (d := .list [.int r, .int r, .int r, .int r, .int r, .int r, .str s, .str s, .int r, .int r, .int r, .int 7]) (fun O => ed_is (ed_op (ed_var rfl) (ed_lst (xs := [.int r, .int 7]) (ea_cons (ed_exf (ed_mkK (fun _ _ => rfl) (ea_cons (ed_var rfl) ea_nil))) (ea_cons (ed_exf (ed_mkK (fun _ _ => rfl) (ea_cons ed_int ea_nil))) ea_nil)) (Nat.le_of_ble_eq_true rfl)) (rd_catl (Nat.le_of_ble_eq_true rfl))) rfl) (by decide) (by decide) rfl ?_
    refine rg_let (d := .list [.int r, .int r, .int r, .int r, .int r, .int r, .str s, .str s, .int r, .int r, .int r, .int 7, .int (-1), .int r]) (fun O => ed_is (ed_op (ed_var rfl) (ed_lst (xs := [.int (-1), .int r]) (ea_cons (ed_exf (ed_mkK (fun _ _ => rfl) (ea_cons (ed_neg ed_int) ea_nil))) (ea_cons (ed_exf (ed_mkK (fun _ _ => rfl) (ea_cons (ed_var rfl) ea_nil))) ea_nil)) (Nat.le_of_ble_eq_true rfl)) (rd_catl (Nat.le_of_ble_eq_true rfl))) rfl) (by decide) (by decide) rfl ?_
    refine rg_let (d := .list [.int r, .int r, .int r, .int r, .int r, .int r, .str s, .str s, .int r, .int r, .int r, .int 7, .int (-1), .int r]) (fun O => ed_is (ed_op (ed_var rfl) (ed_lst (xs := [.int r, .int 7, .int (-1), .int r]) (ea_cons (ed_var rfl) (ea_cons ed_int (ea_cons (ed_neg ed_int) (ea_cons (ed_var rfl) ea_nil)))) (Nat.le_of_ble_eq_true rfl)) (rd_catl (Nat.le_of_ble_eq_true rfl))) rfl) (by decide) (by decide) rfl ?_
    refine rg_let (d := .list [.int r, .int r, .int r, .int r, .int r, .int r, .str s, .str s, .int r, .int r, .int r, .int 7, .int (-1), .int r, .int 2, .int r]) (fun O => ed_is (ed_op (ed_var rfl) (ed_lst (xs := [.int 2, .int r]) (ea_cons (ed_exf (ed_mkK (fun _ _ => rfl) (ea_cons ed_int ea_nil))) (ea_cons (ed_exf (ed_mkK (fun _ _ => rfl) (ea_cons (ed_var rfl) ea_nil))) ea_nil)) (Nat.le_of_ble_eq_true rfl)) (rd_catl (Nat.le_of_ble_eq_true rfl))) rfl) (by decide) (by decide) rfl ?_
    refine rg_let (d := .list [.int r, .int r, .int r, .int r, .int r, .int r, .str s, .str s, .int r, .int r, .int r, .int 7, .int (-1), .int r, .int 2, .int r, .str s, .str (Str.ofString "b")]) (fun O => ed_is (ed_op (ed_var rfl) (ed_lst (xs := [.str s, .str (Str.ofString "b")]) (ea_cons (ed_exf (ed_mkK (fun _ _ => rfl) (ea_cons (ed_var rfl) ea_nil))) (ea_cons (ed_exf (ed_mkK (fun _ _ => rfl) (ea_cons ed_str ea_nil))) ea_nil)) (Nat.le_of_ble_eq_true rfl)) (rd_catl (Nat.le_of_ble_eq_true rfl))) rfl) (by decide) (by decide) rfl ?_
    refine rg_let (d := .list [.int r, .int r, .int r, .int r, .int r, .int r, .str s, .str s, .int r, .int r, .int r, .int 7, .int (-1), .int r, .int 2, .int r, .str s, .str (Str.ofString "b")]) (fun O => ed_is (ed_op (ed_var rfl) (ed_lst (xs := [.int 2, .int r, .str s, .str (Str.ofString "b")]) (ea_cons ed_int (ea_cons (ed_var rfl) (ea_cons (ed_var rfl) (ea_cons ed_str ea_nil)))) (Nat.le_of_ble_eq_true rfl)) (rd_catl (Nat.le_of_ble_eq_true rfl))) rfl) (by decide) (by decide) rfl ?_
    exact rg_ret (eb_wk (eb_pure fun O => ed_call (ea_cons (ed_is (d := .list [.int r, .int r, .int r, .int r, .int r, .int r, .str s, .str s, .int r, .int r, .int r, .int 7, .int (-1), .int r, .int 2, .int r, .str s, .str (Str.ofString "b"), .int r, .int (10 ^ 30)]) (ed_op (ed_var rfl) (ed_lst (xs := [.int r, .int (10 ^ 30)]) (ea_cons (ed_exf (ed_mkK (fun _ _ => rfl) (ea_cons (ed_var rfl) ea_nil))) (ea_cons (ed_exf (ed_mkK (fun _ _ => rfl) (ea_cons (ed_is (d := .int (10 ^ 30)) (ed_op ed_int ed_int (rd_I (C := CPow) (g := fun i j => i ^ j.toNat) ⟨by decide, by decide, by decide⟩)) rfl) ea_nil))) ea_nil)) (Nat.le_of_ble_eq_true rfl)) (rd_catl (Nat.le_of_ble_eq_true rfl))) rfl) (ea_cons (ed_is (d := .list [.int r, .int r, .int r, .int r, .int r, .int r, .str s, .str s, .int r, .int r, .int r, .int 7, .int (-1), .int r, .int 2, .int r, .str s, .str (Str.ofString "b"), .int r, .int (10 ^ 30)]) (ed_op (ed_var rfl) (ed_lst (xs := [.int r, .int (10 ^ 30)]) (ea_cons (ed_var rfl) (ea_cons (ed_is (d := .int (10 ^ 30)) (ed_op ed_int ed_int (rd_I (C := CPow) (g := fun i j => i ^ j.toNat) ⟨by decide, by decide, by decide⟩)) rfl) ea_nil)) (Nat.le_of_ble_eq_true rfl)) (rd_catl (Nat.le_of_ble_eq_true rfl))) rfl) ea_nil)) (r_same rfl (okD_of rfl))) (Nat.le_refl _) fun d hd => hd)
end
end K00
namespace K00
open PySem L2 PyProof.Rows DL TL RZ
section
variable {P : Program} {w : World} {K : PySem.W.Frag} {mg : Str → Option Value} {base : Heap}
theorem ok_law (T : Txt K mg) : FnOk P w K mg base CX0 9 T.f_law T.fd_law ["_law_script"] (spLaw K) := by
  refine T.F_law.ok sc_law (fun vs H Q E h => ?_) (fun cdv A outer s H vs Q E hr h => ?_)
  · obtain ⟨a, ns, rfl, _⟩ := h
    rfl
  have G__law_cells := ok__law_cells (P := P) (w := w) (base := base) T
  have hr__law_cells : Room 1 _ := hr.mono (by decide)
  have b__law_cells := T.b__law_cells
  have G__law_right := ok__law_right (P := P) (w := w) (base := base) T
  have hr__law_right : Room 8 _ := hr.mono (by decide)
  have b__law_right := T.b__law_right
  have G__law_box := ok__law_box (P := P) (w := w) (base := base) T
  have hr__law_box : Room 1 _ := hr.mono (by decide)
  have b__law_box := T.b__law_box
  have hu := hu64 hr
  obtain ⟨a, ns, rfl, hs, h63, k⟩ := h
  refine ⟨_, (pss_cons (ps_set (i := 1) sc_law.nd rfl (Or.inr rfl) (pe_call G__law_cells hr__law_cells rfl T.m__law_cells T.F__law_cells.kp b__law_cells .nil pass0 (pa_cons (pv 0) (pa_cons pe_int pa_nil))))
  (pss_one (ps_ret (pe_callB (kAll (K := K) (by rfl) (by rfl)) (by rfl) T.z_all (by decide +kernel) (pa_cons (pe_lc (own := [("_law_k", 2)]) rfl sc_law.nd (pi_range1 rfl T.z_range (pa_cons (pe_callB (kLen (K := K) (by rfl)) (by rfl) T.z_len PySem.boot_len (pa_cons (pv 1) pa_nil)) pa_nil)) (blkOk_by (N := N_law) (sc := defScope s_law) (by decide +kernel)) (fun _ _ _ _ _ => (pg_name (i := 2) sc_law.nd rfl (by first | exact Or.inl rfl | exact Or.inr rfl))) (fun _ _ _ _ _ => pts_nil) (fun _ _ _ _ _ => (pe_call G__law_right hr__law_right rfl T.m__law_right T.F__law_right.kp b__law_right .nil pass0 (pa_cons (pe_call G__law_box hr__law_box rfl T.m__law_box T.F__law_box.kp b__law_box .nil pass0 (pa_cons (pv 1) (pa_cons (pv 2) pa_nil))) pa_nil)))) pa_nil))))), ?_⟩
  refine ⟨_, rfl, a, ns, rfl, hs, h63, fun p cs H1 np x1 hp c1 c3 => ?_⟩
  refine ⟨_, rfl, p, _, rfl, .inl (Evl.sq_of hp), _, rfl, by omega, by rw [List.length_map]; omega, fun Dl nD => ?_⟩
  have e0 : (((cs.map V.int).length : Nat) : Int).toNat = cs.length := by
    rw [List.length_map]
    omega
  rw [e0]
  have npD : p ≠ Dl := fun z => by rw [← z, hp] at nD; cases nD
  refine lc_range (lo := 0) (n := cs.length) (fun i H' => H' Dl = some (.lst ((List.replicate i true).map V.bl)) ∧ Evl.Ex H1 H') ?_ ?_ ?_
  · exact ⟨upd_same, Evl.Ex.new nD⟩
  · rintro i H2 hi ⟨hD, x2⟩
    refine ⟨rfl, tYes_go ?_⟩
    have ei : (0 : Int) + (i : Int) = (i : Int) := Int.zero_add _
    refine ⟨_, rfl, _, rfl, p, cs, (0 : Int) + (i : Int), rfl, Evl.sq_of (x2 _ _ hp), by omega, by omega, fun b H3 nb x3 hb => ?_⟩
    refine ⟨b, rfl, hb, fun H4 e4 => ?_⟩
    have x4 : Evl.Ex H2 H4 := fun y o hy => by
      have n2 : y ≠ b := fun z => by rw [z, nb] at hy; cases hy
      exact e4.at (x3 _ _ hy) (fun z => n2 (List.mem_singleton.mp z))
    refine ⟨_, x4 _ _ hD, Evl.sz_lt (by rw [List.length_map, List.length_replicate]; omega), ?_, Evl.Ex.mut (x2.trans x4) nD⟩
    rw [List.replicate_succ', List.map_append]
    exact upd_same
  · rintro H2 ⟨hD, x2⟩
    refine ⟨Dl, List.replicate cs.length true, rfl, Evl.sq_of hD, ?_⟩
    have e : (List.replicate cs.length true).all id = true := by
      rw [List.all_eq_true]
      intro b hb
      rw [List.eq_of_mem_replicate hb]
      rfl
    rw [e]
    exact k H2
end
end K00
namespace K00
open PySem L2 PyProof.Rows DL TL RZ
theorem all_mk {l : PySem.W.OpenLaw} {w : World} {K : PySem.W.Frag} {h : Heap} {mg : Str → Option Value} {fa : Addr} (X : K.In h) (G : h.Ns mainGlobals mg) (hfa : mg "law" = some (.ref fa))
    {f0 f1 f2 f3 f4 f5 f6 f7 : Addr} {od0 an0 od1 an1 od2 an2 od3 an3 od4 an4 od5 an5 od6 an6 od7 an7 : Option Addr} {sl0 sl1 sl2 sl3 sl4 sl5 sl6 sl7 : Array (Option Value)} {oc0 kV0 dc0 pm0 cd0 ct0 oc1 kV1 dc1 pm1 cd1 ct1 oc2 kV2 dc2 pm2 cd2 ct2 oc3 kV3 dc3 pm3 cd3 ct3 oc4 kV4 dc4 pm4 cd4 ct4 oc5 kV5 dc5 pm5 cd5 ct5 oc6 kV6 dc6 pm6 cd6 ct6 oc7 kV7 dc7 pm7 cd7 ct7 : Value}
    (a0 : PySem.W.nsIn K mainGlobals "_law_box" = some (some (.ref f0))) (l0 : K.lookup f0 = some ⟨oc0, od0, .func (PySem.W.fnOf "_law_box" "_law_box" (defArgs s__law_box) (defBody s__law_box) (defScope s__law_box) .none kV0 dc0 pm0 an0 cd0 ct0), sl0⟩) (c0 : PySem.W.codeIn K cd0 "_law_box" = true) (k0 : PySem.W.keepIn K (.ref f0) = true)
    (a1 : PySem.W.nsIn K mainGlobals "_law_take" = some (some (.ref f1))) (l1 : K.lookup f1 = some ⟨oc1, od1, .func (PySem.W.fnOf "_law_take" "_law_take" (defArgs s__law_take) (defBody s__law_take) (defScope s__law_take) .none kV1 dc1 pm1 an1 cd1 ct1), sl1⟩) (c1 : PySem.W.codeIn K cd1 "_law_take" = true) (k1 : PySem.W.keepIn K (.ref f1) = true)
    (a2 : PySem.W.nsIn K mainGlobals "_law_cells" = some (some (.ref f2))) (l2 : K.lookup f2 = some ⟨oc2, od2, .func (PySem.W.fnOf "_law_cells" "_law_cells" (defArgs s__law_cells) (defBody s__law_cells) (defScope s__law_cells) .none kV2 dc2 pm2 an2 cd2 ct2), sl2⟩) (c2 : PySem.W.codeIn K cd2 "_law_cells" = true) (k2 : PySem.W.keepIn K (.ref f2) = true)
    (a3 : PySem.W.nsIn K mainGlobals "_law_of" = some (some (.ref f3))) (l3 : K.lookup f3 = some ⟨oc3, od3, .func (PySem.W.fnOf "_law_of" "_law_of" (defArgs s__law_of) (defBody s__law_of) (defScope s__law_of) .none kV3 dc3 pm3 an3 cd3 ct3), sl3⟩) (c3 : PySem.W.codeIn K cd3 "_law_of" = true) (k3 : PySem.W.keepIn K (.ref f3) = true)
    (a4 : PySem.W.nsIn K mainGlobals "_law_same" = some (some (.ref f4))) (l4 : K.lookup f4 = some ⟨oc4, od4, .func (PySem.W.fnOf "_law_same" "_law_same" (defArgs s__law_same) (defBody s__law_same) (defScope s__law_same) .none kV4 dc4 pm4 an4 cd4 ct4), sl4⟩) (c4 : PySem.W.codeIn K cd4 "_law_same" = true) (k4 : PySem.W.keepIn K (.ref f4) = true)
    (a5 : PySem.W.nsIn K mainGlobals "_law_sorts" = some (some (.ref f5))) (l5 : K.lookup f5 = some ⟨oc5, od5, .func (PySem.W.fnOf "_law_sorts" "_law_sorts" (defArgs s__law_sorts) (defBody s__law_sorts) (defScope s__law_sorts) .none kV5 dc5 pm5 an5 cd5 ct5), sl5⟩) (c5 : PySem.W.codeIn K cd5 "_law_sorts" = true) (k5 : PySem.W.keepIn K (.ref f5) = true)
    (a6 : PySem.W.nsIn K mainGlobals "_law_right" = some (some (.ref f6))) (l6 : K.lookup f6 = some ⟨oc6, od6, .func (PySem.W.fnOf "_law_right" "_law_right" (defArgs s__law_right) (defBody s__law_right) (defScope s__law_right) .none kV6 dc6 pm6 an6 cd6 ct6), sl6⟩) (c6 : PySem.W.codeIn K cd6 "_law_right" = true) (k6 : PySem.W.keepIn K (.ref f6) = true)
    (a7 : PySem.W.nsIn K mainGlobals "law" = some (some (.ref f7))) (l7 : K.lookup f7 = some ⟨oc7, od7, .func (PySem.W.fnOf "law" "law" (defArgs s_law) (defBody s_law) (defScope s_law) .none kV7 dc7 pm7 an7 cd7 ct7), sl7⟩) (c7 : PySem.W.codeIn K cd7 "law" = true) (k7 : PySem.W.keepIn K (.ref f7) = true)
    {B_BadAnswer C_BadAnswer fI_BadAnswer N_BadAnswer : Addr} {nm_BadAnswer q_BadAnswer : Str} {bs_BadAnswer sub_BadAnswer : List Value} {sn_BadAnswer : List Str} {ab_BadAnswer : Bool} {col_BadAnswer : Option Bool} {dd_BadAnswer od_BadAnswer an_BadAnswer : Option Addr} {m0_BadAnswer m1_BadAnswer m2_BadAnswer m3_BadAnswer m5_BadAnswer : Option Value} {oc_BadAnswer kV_BadAnswer dc_BadAnswer pm_BadAnswer cd_BadAnswer ct_BadAnswer : Value} {sl_BadAnswer : Array (Option Value)}
    (aC_BadAnswer : PySem.W.nsIn K mainGlobals "BadAnswer" = some (some (.ref C_BadAnswer)))
    (xL_BadAnswer : K.lookup C_BadAnswer = some (excClassObj nm_BadAnswer q_BadAnswer C_BadAnswer N_BadAnswer bs_BadAnswer [.ref B_BadAnswer, .type "ValueError", .type "Exception", .type "BaseException", .type "object"] true sn_BadAnswer sub_BadAnswer ab_BadAnswer col_BadAnswer dd_BadAnswer m0_BadAnswer m1_BadAnswer m2_BadAnswer m3_BadAnswer m5_BadAnswer "ValueError.__new__"))
    (sa_BadAnswer : PySem.W.findIn K (.ref C_BadAnswer) "__setattr__" = some (some (.builtin "object.__setattr__"))) (ga_BadAnswer : PySem.W.findIn K (.ref C_BadAnswer) "__getattribute__" = some (some (.builtin "BaseException.__getattribute__"))) (gg_BadAnswer : PySem.W.findIn K (.ref C_BadAnswer) "__getattr__" = some none)
    (nb_BadAnswer : PySem.W.findIn K (.ref C_BadAnswer) "number" = some none) (ai_BadAnswer : PySem.W.findIn K (.ref C_BadAnswer) "__init__" = some (some (.ref fI_BadAnswer))) (ti_BadAnswer : PySem.W.typeIn K (.ref fI_BadAnswer) = some (.type "function"))
    (li_BadAnswer : K.lookup fI_BadAnswer = some ⟨oc_BadAnswer, od_BadAnswer, .func (PySem.W.fnOf "__init__" "BadAnswer.__init__" (defArgs i_BadAnswer) (defBody i_BadAnswer) (defScope i_BadAnswer) .none kV_BadAnswer dc_BadAnswer pm_BadAnswer an_BadAnswer cd_BadAnswer ct_BadAnswer), sl_BadAnswer⟩) (ci_BadAnswer : PySem.W.codeIn K cd_BadAnswer "BadAnswer.__init__" = true) (ki_BadAnswer : PySem.W.keepIn K (.ref fI_BadAnswer) = true)
    (kC_BadAnswer : PySem.W.keepIn K (.ref C_BadAnswer) = true) (eC_BadAnswer : PySem.W.subIn K (.ref C_BadAnswer) (.type "BaseException") = some true) (tC_BadAnswer : PySem.W.typeIn K (.ref C_BadAnswer) = some (.type "type")) (hC_BadAnswer : PySem.W.hasDictIn K C_BadAnswer = true) (iC_BadAnswer : PySem.W.isClsIn K C_BadAnswer = true) (sC_BadAnswer : PySem.W.subIn K (.ref C_BadAnswer) (.ref C_BadAnswer) = some true)
    {B_BadLine C_BadLine fI_BadLine N_BadLine : Addr} {nm_BadLine q_BadLine : Str} {bs_BadLine sub_BadLine : List Value} {sn_BadLine : List Str} {ab_BadLine : Bool} {col_BadLine : Option Bool} {dd_BadLine od_BadLine an_BadLine : Option Addr} {m0_BadLine m1_BadLine m2_BadLine m3_BadLine m5_BadLine : Option Value} {oc_BadLine kV_BadLine dc_BadLine pm_BadLine cd_BadLine ct_BadLine : Value} {sl_BadLine : Array (Option Value)}
    (aC_BadLine : PySem.W.nsIn K mainGlobals "BadLine" = some (some (.ref C_BadLine)))
    (xL_BadLine : K.lookup C_BadLine = some (excClassObj nm_BadLine q_BadLine C_BadLine N_BadLine bs_BadLine [.ref B_BadLine, .type "ValueError", .type "Exception", .type "BaseException", .type "object"] true sn_BadLine sub_BadLine ab_BadLine col_BadLine dd_BadLine m0_BadLine m1_BadLine m2_BadLine m3_BadLine m5_BadLine "ValueError.__new__"))
    (sa_BadLine : PySem.W.findIn K (.ref C_BadLine) "__setattr__" = some (some (.builtin "object.__setattr__"))) (ga_BadLine : PySem.W.findIn K (.ref C_BadLine) "__getattribute__" = some (some (.builtin "BaseException.__getattribute__"))) (gg_BadLine : PySem.W.findIn K (.ref C_BadLine) "__getattr__" = some none)
    (nb_BadLine : PySem.W.findIn K (.ref C_BadLine) "number" = some none) (ai_BadLine : PySem.W.findIn K (.ref C_BadLine) "__init__" = some (some (.ref fI_BadLine))) (ti_BadLine : PySem.W.typeIn K (.ref fI_BadLine) = some (.type "function"))
    (li_BadLine : K.lookup fI_BadLine = some ⟨oc_BadLine, od_BadLine, .func (PySem.W.fnOf "__init__" "BadLine.__init__" (defArgs i_BadLine) (defBody i_BadLine) (defScope i_BadLine) .none kV_BadLine dc_BadLine pm_BadLine an_BadLine cd_BadLine ct_BadLine), sl_BadLine⟩) (ci_BadLine : PySem.W.codeIn K cd_BadLine "BadLine.__init__" = true) (ki_BadLine : PySem.W.keepIn K (.ref fI_BadLine) = true)
    (kC_BadLine : PySem.W.keepIn K (.ref C_BadLine) = true) (eC_BadLine : PySem.W.subIn K (.ref C_BadLine) (.type "BaseException") = some true) (tC_BadLine : PySem.W.typeIn K (.ref C_BadLine) = some (.type "type")) (hC_BadLine : PySem.W.hasDictIn K C_BadLine = true) (iC_BadLine : PySem.W.isClsIn K C_BadLine = true) (sC_BadLine : PySem.W.subIn K (.ref C_BadLine) (.ref C_BadLine) = some true)
    {B_BadRun C_BadRun fI_BadRun N_BadRun : Addr} {nm_BadRun q_BadRun : Str} {bs_BadRun sub_BadRun : List Value} {sn_BadRun : List Str} {ab_BadRun : Bool} {col_BadRun : Option Bool} {dd_BadRun od_BadRun an_BadRun : Option Addr} {m0_BadRun m1_BadRun m2_BadRun m3_BadRun m5_BadRun : Option Value} {oc_BadRun kV_BadRun dc_BadRun pm_BadRun cd_BadRun ct_BadRun : Value} {sl_BadRun : Array (Option Value)}
    (aC_BadRun : PySem.W.nsIn K mainGlobals "BadRun" = some (some (.ref C_BadRun)))
    (xL_BadRun : K.lookup C_BadRun = some (excClassObj nm_BadRun q_BadRun C_BadRun N_BadRun bs_BadRun [.ref B_BadRun, .type "ValueError", .type "Exception", .type "BaseException", .type "object"] true sn_BadRun sub_BadRun ab_BadRun col_BadRun dd_BadRun m0_BadRun m1_BadRun m2_BadRun m3_BadRun m5_BadRun "ValueError.__new__"))
    (sa_BadRun : PySem.W.findIn K (.ref C_BadRun) "__setattr__" = some (some (.builtin "object.__setattr__"))) (ga_BadRun : PySem.W.findIn K (.ref C_BadRun) "__getattribute__" = some (some (.builtin "BaseException.__getattribute__"))) (gg_BadRun : PySem.W.findIn K (.ref C_BadRun) "__getattr__" = some none)
    (nb_BadRun : PySem.W.findIn K (.ref C_BadRun) "place" = some none) (ai_BadRun : PySem.W.findIn K (.ref C_BadRun) "__init__" = some (some (.ref fI_BadRun))) (ti_BadRun : PySem.W.typeIn K (.ref fI_BadRun) = some (.type "function"))
    (li_BadRun : K.lookup fI_BadRun = some ⟨oc_BadRun, od_BadRun, .func (PySem.W.fnOf "__init__" "BadRun.__init__" (defArgs i_BadRun) (defBody i_BadRun) (defScope i_BadRun) .none kV_BadRun dc_BadRun pm_BadRun an_BadRun cd_BadRun ct_BadRun), sl_BadRun⟩) (ci_BadRun : PySem.W.codeIn K cd_BadRun "BadRun.__init__" = true) (ki_BadRun : PySem.W.keepIn K (.ref fI_BadRun) = true)
    (kC_BadRun : PySem.W.keepIn K (.ref C_BadRun) = true) (eC_BadRun : PySem.W.subIn K (.ref C_BadRun) (.type "BaseException") = some true) (tC_BadRun : PySem.W.typeIn K (.ref C_BadRun) = some (.type "type")) (hC_BadRun : PySem.W.hasDictIn K C_BadRun = true) (iC_BadRun : PySem.W.isClsIn K C_BadRun = true) (sC_BadRun : PySem.W.subIn K (.ref C_BadRun) (.ref C_BadRun) = some true)
    {B_BadText C_BadText fI_BadText N_BadText : Addr} {nm_BadText q_BadText : Str} {bs_BadText sub_BadText : List Value} {sn_BadText : List Str} {ab_BadText : Bool} {col_BadText : Option Bool} {dd_BadText od_BadText an_BadText : Option Addr} {m0_BadText m1_BadText m2_BadText m3_BadText m5_BadText : Option Value} {oc_BadText kV_BadText dc_BadText pm_BadText cd_BadText ct_BadText : Value} {sl_BadText : Array (Option Value)}
    (aC_BadText : PySem.W.nsIn K mainGlobals "BadText" = some (some (.ref C_BadText)))
    (xL_BadText : K.lookup C_BadText = some (excClassObj nm_BadText q_BadText C_BadText N_BadText bs_BadText [.ref B_BadText, .type "ValueError", .type "Exception", .type "BaseException", .type "object"] true sn_BadText sub_BadText ab_BadText col_BadText dd_BadText m0_BadText m1_BadText m2_BadText m3_BadText m5_BadText "ValueError.__new__"))
    (sa_BadText : PySem.W.findIn K (.ref C_BadText) "__setattr__" = some (some (.builtin "object.__setattr__"))) (ga_BadText : PySem.W.findIn K (.ref C_BadText) "__getattribute__" = some (some (.builtin "BaseException.__getattribute__"))) (gg_BadText : PySem.W.findIn K (.ref C_BadText) "__getattr__" = some none)
    (nb_BadText : PySem.W.findIn K (.ref C_BadText) "piece" = some none) (ai_BadText : PySem.W.findIn K (.ref C_BadText) "__init__" = some (some (.ref fI_BadText))) (ti_BadText : PySem.W.typeIn K (.ref fI_BadText) = some (.type "function"))
    (li_BadText : K.lookup fI_BadText = some ⟨oc_BadText, od_BadText, .func (PySem.W.fnOf "__init__" "BadText.__init__" (defArgs i_BadText) (defBody i_BadText) (defScope i_BadText) .none kV_BadText dc_BadText pm_BadText an_BadText cd_BadText ct_BadText), sl_BadText⟩) (ci_BadText : PySem.W.codeIn K cd_BadText "BadText.__init__" = true) (ki_BadText : PySem.W.keepIn K (.ref fI_BadText) = true)
    (kC_BadText : PySem.W.keepIn K (.ref C_BadText) = true) (eC_BadText : PySem.W.subIn K (.ref C_BadText) (.type "BaseException") = some true) (tC_BadText : PySem.W.typeIn K (.ref C_BadText) = some (.type "type")) (hC_BadText : PySem.W.hasDictIn K C_BadText = true) (iC_BadText : PySem.W.isClsIn K C_BadText = true) (sC_BadText : PySem.W.subIn K (.ref C_BadText) (.ref C_BadText) = some true)
    {B_Known C_Known fI_Known N_Known : Addr} {nm_Known q_Known : Str} {bs_Known sub_Known : List Value} {sn_Known : List Str} {ab_Known : Bool} {col_Known : Option Bool} {dd_Known od_Known an_Known : Option Addr} {m0_Known m1_Known m2_Known m3_Known m5_Known : Option Value} {oc_Known kV_Known dc_Known pm_Known cd_Known ct_Known : Value} {sl_Known : Array (Option Value)}
    (aC_Known : PySem.W.nsIn K mainGlobals "Known" = some (some (.ref C_Known)))
    (xL_Known : K.lookup C_Known = some (excClassObj nm_Known q_Known C_Known N_Known bs_Known [.ref B_Known, .type "ValueError", .type "Exception", .type "BaseException", .type "object"] true sn_Known sub_Known ab_Known col_Known dd_Known m0_Known m1_Known m2_Known m3_Known m5_Known "ValueError.__new__"))
    (sa_Known : PySem.W.findIn K (.ref C_Known) "__setattr__" = some (some (.builtin "object.__setattr__"))) (ga_Known : PySem.W.findIn K (.ref C_Known) "__getattribute__" = some (some (.builtin "BaseException.__getattribute__"))) (gg_Known : PySem.W.findIn K (.ref C_Known) "__getattr__" = some none)
    (nb_Known : PySem.W.findIn K (.ref C_Known) "name" = some none) (ai_Known : PySem.W.findIn K (.ref C_Known) "__init__" = some (some (.ref fI_Known))) (ti_Known : PySem.W.typeIn K (.ref fI_Known) = some (.type "function"))
    (li_Known : K.lookup fI_Known = some ⟨oc_Known, od_Known, .func (PySem.W.fnOf "__init__" "Known.__init__" (defArgs i_Known) (defBody i_Known) (defScope i_Known) .none kV_Known dc_Known pm_Known an_Known cd_Known ct_Known), sl_Known⟩) (ci_Known : PySem.W.codeIn K cd_Known "Known.__init__" = true) (ki_Known : PySem.W.keepIn K (.ref fI_Known) = true)
    (kC_Known : PySem.W.keepIn K (.ref C_Known) = true) (eC_Known : PySem.W.subIn K (.ref C_Known) (.type "BaseException") = some true) (tC_Known : PySem.W.typeIn K (.ref C_Known) = some (.type "type")) (hC_Known : PySem.W.hasDictIn K C_Known = true) (iC_Known : PySem.W.isClsIn K C_Known = true) (sC_Known : PySem.W.subIn K (.ref C_Known) (.ref C_Known) = some true)
    {B_NoNumber C_NoNumber fI_NoNumber N_NoNumber : Addr} {nm_NoNumber q_NoNumber : Str} {bs_NoNumber sub_NoNumber : List Value} {sn_NoNumber : List Str} {ab_NoNumber : Bool} {col_NoNumber : Option Bool} {dd_NoNumber od_NoNumber an_NoNumber : Option Addr} {m0_NoNumber m1_NoNumber m2_NoNumber m3_NoNumber m5_NoNumber : Option Value} {oc_NoNumber kV_NoNumber dc_NoNumber pm_NoNumber cd_NoNumber ct_NoNumber : Value} {sl_NoNumber : Array (Option Value)}
    (aC_NoNumber : PySem.W.nsIn K mainGlobals "NoNumber" = some (some (.ref C_NoNumber)))
    (xL_NoNumber : K.lookup C_NoNumber = some (excClassObj nm_NoNumber q_NoNumber C_NoNumber N_NoNumber bs_NoNumber [.ref B_NoNumber, .type "ValueError", .type "Exception", .type "BaseException", .type "object"] true sn_NoNumber sub_NoNumber ab_NoNumber col_NoNumber dd_NoNumber m0_NoNumber m1_NoNumber m2_NoNumber m3_NoNumber m5_NoNumber "ValueError.__new__"))
    (sa_NoNumber : PySem.W.findIn K (.ref C_NoNumber) "__setattr__" = some (some (.builtin "object.__setattr__"))) (ga_NoNumber : PySem.W.findIn K (.ref C_NoNumber) "__getattribute__" = some (some (.builtin "BaseException.__getattribute__"))) (gg_NoNumber : PySem.W.findIn K (.ref C_NoNumber) "__getattr__" = some none)
    (nb_NoNumber : PySem.W.findIn K (.ref C_NoNumber) "number" = some none) (ai_NoNumber : PySem.W.findIn K (.ref C_NoNumber) "__init__" = some (some (.ref fI_NoNumber))) (ti_NoNumber : PySem.W.typeIn K (.ref fI_NoNumber) = some (.type "function"))
    (li_NoNumber : K.lookup fI_NoNumber = some ⟨oc_NoNumber, od_NoNumber, .func (PySem.W.fnOf "__init__" "NoNumber.__init__" (defArgs i_NoNumber) (defBody i_NoNumber) (defScope i_NoNumber) .none kV_NoNumber dc_NoNumber pm_NoNumber an_NoNumber cd_NoNumber ct_NoNumber), sl_NoNumber⟩) (ci_NoNumber : PySem.W.codeIn K cd_NoNumber "NoNumber.__init__" = true) (ki_NoNumber : PySem.W.keepIn K (.ref fI_NoNumber) = true)
    (kC_NoNumber : PySem.W.keepIn K (.ref C_NoNumber) = true) (eC_NoNumber : PySem.W.subIn K (.ref C_NoNumber) (.type "BaseException") = some true) (tC_NoNumber : PySem.W.typeIn K (.ref C_NoNumber) = some (.type "type")) (hC_NoNumber : PySem.W.hasDictIn K C_NoNumber = true) (iC_NoNumber : PySem.W.isClsIn K C_NoNumber = true) (sC_NoNumber : PySem.W.subIn K (.ref C_NoNumber) (.ref C_NoNumber) = some true)
    {B_NoPlace C_NoPlace fI_NoPlace N_NoPlace : Addr} {nm_NoPlace q_NoPlace : Str} {bs_NoPlace sub_NoPlace : List Value} {sn_NoPlace : List Str} {ab_NoPlace : Bool} {col_NoPlace : Option Bool} {dd_NoPlace od_NoPlace an_NoPlace : Option Addr} {m0_NoPlace m1_NoPlace m2_NoPlace m3_NoPlace m5_NoPlace : Option Value} {oc_NoPlace kV_NoPlace dc_NoPlace pm_NoPlace cd_NoPlace ct_NoPlace : Value} {sl_NoPlace : Array (Option Value)}
    (aC_NoPlace : PySem.W.nsIn K mainGlobals "NoPlace" = some (some (.ref C_NoPlace)))
    (xL_NoPlace : K.lookup C_NoPlace = some (excClassObj nm_NoPlace q_NoPlace C_NoPlace N_NoPlace bs_NoPlace [.ref B_NoPlace, .type "ValueError", .type "Exception", .type "BaseException", .type "object"] true sn_NoPlace sub_NoPlace ab_NoPlace col_NoPlace dd_NoPlace m0_NoPlace m1_NoPlace m2_NoPlace m3_NoPlace m5_NoPlace "ValueError.__new__"))
    (sa_NoPlace : PySem.W.findIn K (.ref C_NoPlace) "__setattr__" = some (some (.builtin "object.__setattr__"))) (ga_NoPlace : PySem.W.findIn K (.ref C_NoPlace) "__getattribute__" = some (some (.builtin "BaseException.__getattribute__"))) (gg_NoPlace : PySem.W.findIn K (.ref C_NoPlace) "__getattr__" = some none)
    (nb_NoPlace : PySem.W.findIn K (.ref C_NoPlace) "number" = some none) (ai_NoPlace : PySem.W.findIn K (.ref C_NoPlace) "__init__" = some (some (.ref fI_NoPlace))) (ti_NoPlace : PySem.W.typeIn K (.ref fI_NoPlace) = some (.type "function"))
    (li_NoPlace : K.lookup fI_NoPlace = some ⟨oc_NoPlace, od_NoPlace, .func (PySem.W.fnOf "__init__" "NoPlace.__init__" (defArgs i_NoPlace) (defBody i_NoPlace) (defScope i_NoPlace) .none kV_NoPlace dc_NoPlace pm_NoPlace an_NoPlace cd_NoPlace ct_NoPlace), sl_NoPlace⟩) (ci_NoPlace : PySem.W.codeIn K cd_NoPlace "NoPlace.__init__" = true) (ki_NoPlace : PySem.W.keepIn K (.ref fI_NoPlace) = true)
    (kC_NoPlace : PySem.W.keepIn K (.ref C_NoPlace) = true) (eC_NoPlace : PySem.W.subIn K (.ref C_NoPlace) (.type "BaseException") = some true) (tC_NoPlace : PySem.W.typeIn K (.ref C_NoPlace) = some (.type "type")) (hC_NoPlace : PySem.W.hasDictIn K C_NoPlace = true) (iC_NoPlace : PySem.W.isClsIn K C_NoPlace = true) (sC_NoPlace : PySem.W.subIn K (.ref C_NoPlace) (.ref C_NoPlace) = some true)
    {B_NoStep C_NoStep fI_NoStep N_NoStep : Addr} {nm_NoStep q_NoStep : Str} {bs_NoStep sub_NoStep : List Value} {sn_NoStep : List Str} {ab_NoStep : Bool} {col_NoStep : Option Bool} {dd_NoStep od_NoStep an_NoStep : Option Addr} {m0_NoStep m1_NoStep m2_NoStep m3_NoStep m5_NoStep : Option Value} {oc_NoStep kV_NoStep dc_NoStep pm_NoStep cd_NoStep ct_NoStep : Value} {sl_NoStep : Array (Option Value)}
    (aC_NoStep : PySem.W.nsIn K mainGlobals "NoStep" = some (some (.ref C_NoStep)))
    (xL_NoStep : K.lookup C_NoStep = some (excClassObj nm_NoStep q_NoStep C_NoStep N_NoStep bs_NoStep [.ref B_NoStep, .type "ValueError", .type "Exception", .type "BaseException", .type "object"] true sn_NoStep sub_NoStep ab_NoStep col_NoStep dd_NoStep m0_NoStep m1_NoStep m2_NoStep m3_NoStep m5_NoStep "ValueError.__new__"))
    (sa_NoStep : PySem.W.findIn K (.ref C_NoStep) "__setattr__" = some (some (.builtin "object.__setattr__"))) (ga_NoStep : PySem.W.findIn K (.ref C_NoStep) "__getattribute__" = some (some (.builtin "BaseException.__getattribute__"))) (gg_NoStep : PySem.W.findIn K (.ref C_NoStep) "__getattr__" = some none)
    (nb_NoStep : PySem.W.findIn K (.ref C_NoStep) "place" = some none) (ai_NoStep : PySem.W.findIn K (.ref C_NoStep) "__init__" = some (some (.ref fI_NoStep))) (ti_NoStep : PySem.W.typeIn K (.ref fI_NoStep) = some (.type "function"))
    (li_NoStep : K.lookup fI_NoStep = some ⟨oc_NoStep, od_NoStep, .func (PySem.W.fnOf "__init__" "NoStep.__init__" (defArgs i_NoStep) (defBody i_NoStep) (defScope i_NoStep) .none kV_NoStep dc_NoStep pm_NoStep an_NoStep cd_NoStep ct_NoStep), sl_NoStep⟩) (ci_NoStep : PySem.W.codeIn K cd_NoStep "NoStep.__init__" = true) (ki_NoStep : PySem.W.keepIn K (.ref fI_NoStep) = true)
    (kC_NoStep : PySem.W.keepIn K (.ref C_NoStep) = true) (eC_NoStep : PySem.W.subIn K (.ref C_NoStep) (.type "BaseException") = some true) (tC_NoStep : PySem.W.typeIn K (.ref C_NoStep) = some (.type "type")) (hC_NoStep : PySem.W.hasDictIn K C_NoStep = true) (iC_NoStep : PySem.W.isClsIn K C_NoStep = true) (sC_NoStep : PySem.W.subIn K (.ref C_NoStep) (.ref C_NoStep) = some true)
    {B_NoStrike C_NoStrike fI_NoStrike N_NoStrike : Addr} {nm_NoStrike q_NoStrike : Str} {bs_NoStrike sub_NoStrike : List Value} {sn_NoStrike : List Str} {ab_NoStrike : Bool} {col_NoStrike : Option Bool} {dd_NoStrike od_NoStrike an_NoStrike : Option Addr} {m0_NoStrike m1_NoStrike m2_NoStrike m3_NoStrike m5_NoStrike : Option Value} {oc_NoStrike kV_NoStrike dc_NoStrike pm_NoStrike cd_NoStrike ct_NoStrike : Value} {sl_NoStrike : Array (Option Value)}
    (aC_NoStrike : PySem.W.nsIn K mainGlobals "NoStrike" = some (some (.ref C_NoStrike)))
    (xL_NoStrike : K.lookup C_NoStrike = some (excClassObj nm_NoStrike q_NoStrike C_NoStrike N_NoStrike bs_NoStrike [.ref B_NoStrike, .type "ValueError", .type "Exception", .type "BaseException", .type "object"] true sn_NoStrike sub_NoStrike ab_NoStrike col_NoStrike dd_NoStrike m0_NoStrike m1_NoStrike m2_NoStrike m3_NoStrike m5_NoStrike "ValueError.__new__"))
    (sa_NoStrike : PySem.W.findIn K (.ref C_NoStrike) "__setattr__" = some (some (.builtin "object.__setattr__"))) (ga_NoStrike : PySem.W.findIn K (.ref C_NoStrike) "__getattribute__" = some (some (.builtin "BaseException.__getattribute__"))) (gg_NoStrike : PySem.W.findIn K (.ref C_NoStrike) "__getattr__" = some none)
    (nb_NoStrike : PySem.W.findIn K (.ref C_NoStrike) "place" = some none) (ai_NoStrike : PySem.W.findIn K (.ref C_NoStrike) "__init__" = some (some (.ref fI_NoStrike))) (ti_NoStrike : PySem.W.typeIn K (.ref fI_NoStrike) = some (.type "function"))
    (li_NoStrike : K.lookup fI_NoStrike = some ⟨oc_NoStrike, od_NoStrike, .func (PySem.W.fnOf "__init__" "NoStrike.__init__" (defArgs i_NoStrike) (defBody i_NoStrike) (defScope i_NoStrike) .none kV_NoStrike dc_NoStrike pm_NoStrike an_NoStrike cd_NoStrike ct_NoStrike), sl_NoStrike⟩) (ci_NoStrike : PySem.W.codeIn K cd_NoStrike "NoStrike.__init__" = true) (ki_NoStrike : PySem.W.keepIn K (.ref fI_NoStrike) = true)
    (kC_NoStrike : PySem.W.keepIn K (.ref C_NoStrike) = true) (eC_NoStrike : PySem.W.subIn K (.ref C_NoStrike) (.type "BaseException") = some true) (tC_NoStrike : PySem.W.typeIn K (.ref C_NoStrike) = some (.type "type")) (hC_NoStrike : PySem.W.hasDictIn K C_NoStrike = true) (iC_NoStrike : PySem.W.isClsIn K C_NoStrike = true) (sC_NoStrike : PySem.W.subIn K (.ref C_NoStrike) (.ref C_NoStrike) = some true)
    {B_NoYear C_NoYear fI_NoYear N_NoYear : Addr} {nm_NoYear q_NoYear : Str} {bs_NoYear sub_NoYear : List Value} {sn_NoYear : List Str} {ab_NoYear : Bool} {col_NoYear : Option Bool} {dd_NoYear od_NoYear an_NoYear : Option Addr} {m0_NoYear m1_NoYear m2_NoYear m3_NoYear m5_NoYear : Option Value} {oc_NoYear kV_NoYear dc_NoYear pm_NoYear cd_NoYear ct_NoYear : Value} {sl_NoYear : Array (Option Value)}
    (aC_NoYear : PySem.W.nsIn K mainGlobals "NoYear" = some (some (.ref C_NoYear)))
    (xL_NoYear : K.lookup C_NoYear = some (excClassObj nm_NoYear q_NoYear C_NoYear N_NoYear bs_NoYear [.ref B_NoYear, .type "ValueError", .type "Exception", .type "BaseException", .type "object"] true sn_NoYear sub_NoYear ab_NoYear col_NoYear dd_NoYear m0_NoYear m1_NoYear m2_NoYear m3_NoYear m5_NoYear "ValueError.__new__"))
    (sa_NoYear : PySem.W.findIn K (.ref C_NoYear) "__setattr__" = some (some (.builtin "object.__setattr__"))) (ga_NoYear : PySem.W.findIn K (.ref C_NoYear) "__getattribute__" = some (some (.builtin "BaseException.__getattribute__"))) (gg_NoYear : PySem.W.findIn K (.ref C_NoYear) "__getattr__" = some none)
    (nb_NoYear : PySem.W.findIn K (.ref C_NoYear) "name" = some none) (ai_NoYear : PySem.W.findIn K (.ref C_NoYear) "__init__" = some (some (.ref fI_NoYear))) (ti_NoYear : PySem.W.typeIn K (.ref fI_NoYear) = some (.type "function"))
    (li_NoYear : K.lookup fI_NoYear = some ⟨oc_NoYear, od_NoYear, .func (PySem.W.fnOf "__init__" "NoYear.__init__" (defArgs i_NoYear) (defBody i_NoYear) (defScope i_NoYear) .none kV_NoYear dc_NoYear pm_NoYear an_NoYear cd_NoYear ct_NoYear), sl_NoYear⟩) (ci_NoYear : PySem.W.codeIn K cd_NoYear "NoYear.__init__" = true) (ki_NoYear : PySem.W.keepIn K (.ref fI_NoYear) = true)
    (kC_NoYear : PySem.W.keepIn K (.ref C_NoYear) = true) (eC_NoYear : PySem.W.subIn K (.ref C_NoYear) (.type "BaseException") = some true) (tC_NoYear : PySem.W.typeIn K (.ref C_NoYear) = some (.type "type")) (hC_NoYear : PySem.W.hasDictIn K C_NoYear = true) (iC_NoYear : PySem.W.isClsIn K C_NoYear = true) (sC_NoYear : PySem.W.subIn K (.ref C_NoYear) (.ref C_NoYear) = some true)
    {C_AllKnown : Addr} (aC_AllKnown : PySem.W.nsIn K mainGlobals "AllKnown" = some (some (.ref C_AllKnown))) (q0_AllKnown : PySem.W.excIn K C_AllKnown [.type "ValueError", .type "Exception", .type "BaseException", .type "object"] "ValueError.__new__" = true) (kC_AllKnown : PySem.W.keepIn K (.ref C_AllKnown) = true) (ga_AllKnown : PySem.W.findIn K (.ref C_AllKnown) "__getattribute__" = some (some (.builtin "BaseException.__getattribute__"))) (gg_AllKnown : PySem.W.findIn K (.ref C_AllKnown) "__getattr__" = some none) (eC_AllKnown : PySem.W.subIn K (.ref C_AllKnown) (.type "BaseException") = some true) (tC_AllKnown : PySem.W.typeIn K (.ref C_AllKnown) = some (.type "type")) (iC_AllKnown : PySem.W.isClsIn K C_AllKnown = true) (sC_AllKnown : PySem.W.subIn K (.ref C_AllKnown) (.ref C_AllKnown) = some true)
    {C_NothingDone : Addr} (aC_NothingDone : PySem.W.nsIn K mainGlobals "NothingDone" = some (some (.ref C_NothingDone))) (q0_NothingDone : PySem.W.excIn K C_NothingDone [.type "ValueError", .type "Exception", .type "BaseException", .type "object"] "ValueError.__new__" = true) (kC_NothingDone : PySem.W.keepIn K (.ref C_NothingDone) = true) (ga_NothingDone : PySem.W.findIn K (.ref C_NothingDone) "__getattribute__" = some (some (.builtin "BaseException.__getattribute__"))) (gg_NothingDone : PySem.W.findIn K (.ref C_NothingDone) "__getattr__" = some none) (eC_NothingDone : PySem.W.subIn K (.ref C_NothingDone) (.type "BaseException") = some true) (tC_NothingDone : PySem.W.typeIn K (.ref C_NothingDone) = some (.type "type")) (iC_NothingDone : PySem.W.isClsIn K C_NothingDone = true) (sC_NothingDone : PySem.W.subIn K (.ref C_NothingDone) (.ref C_NothingDone) = some true)
    {C_OtherDays : Addr} (aC_OtherDays : PySem.W.nsIn K mainGlobals "OtherDays" = some (some (.ref C_OtherDays))) (q0_OtherDays : PySem.W.excIn K C_OtherDays [.type "ValueError", .type "Exception", .type "BaseException", .type "object"] "ValueError.__new__" = true) (kC_OtherDays : PySem.W.keepIn K (.ref C_OtherDays) = true) (ga_OtherDays : PySem.W.findIn K (.ref C_OtherDays) "__getattribute__" = some (some (.builtin "BaseException.__getattribute__"))) (gg_OtherDays : PySem.W.findIn K (.ref C_OtherDays) "__getattr__" = some none) (eC_OtherDays : PySem.W.subIn K (.ref C_OtherDays) (.type "BaseException") = some true) (tC_OtherDays : PySem.W.typeIn K (.ref C_OtherDays) = some (.type "type")) (iC_OtherDays : PySem.W.isClsIn K C_OtherDays = true) (sC_OtherDays : PySem.W.subIn K (.ref C_OtherDays) (.ref C_OtherDays) = some true)
    (cl_AllKnown : PySem.W.findIn K (.ref C_AllKnown) "__class__" = some (some (.builtin "object.__class__"))) (sp_AllKnown : PySem.W.specialIn K (.builtin "object.__class__") "__get__" = some (some (.builtin "getset_descriptor.__get__"))) (tk_AllKnown : PySem.W.takesIn K (.builtin "object.__class__") = some true) (mr_AllKnown : PySem.W.mroIn K C_AllKnown (.type "object") = some true) (ve_AllKnown : PySem.W.subIn K (.ref C_AllKnown) (.type "ValueError") = some true)
    (cl_BadAnswer : PySem.W.findIn K (.ref C_BadAnswer) "__class__" = some (some (.builtin "object.__class__"))) (sp_BadAnswer : PySem.W.specialIn K (.builtin "object.__class__") "__get__" = some (some (.builtin "getset_descriptor.__get__"))) (tk_BadAnswer : PySem.W.takesIn K (.builtin "object.__class__") = some true) (mr_BadAnswer : PySem.W.mroIn K C_BadAnswer (.type "object") = some true) (ve_BadAnswer : PySem.W.subIn K (.ref C_BadAnswer) (.type "ValueError") = some true)
    (cl_BadLine : PySem.W.findIn K (.ref C_BadLine) "__class__" = some (some (.builtin "object.__class__"))) (sp_BadLine : PySem.W.specialIn K (.builtin "object.__class__") "__get__" = some (some (.builtin "getset_descriptor.__get__"))) (tk_BadLine : PySem.W.takesIn K (.builtin "object.__class__") = some true) (mr_BadLine : PySem.W.mroIn K C_BadLine (.type "object") = some true) (ve_BadLine : PySem.W.subIn K (.ref C_BadLine) (.type "ValueError") = some true)
    (cl_BadRun : PySem.W.findIn K (.ref C_BadRun) "__class__" = some (some (.builtin "object.__class__"))) (sp_BadRun : PySem.W.specialIn K (.builtin "object.__class__") "__get__" = some (some (.builtin "getset_descriptor.__get__"))) (tk_BadRun : PySem.W.takesIn K (.builtin "object.__class__") = some true) (mr_BadRun : PySem.W.mroIn K C_BadRun (.type "object") = some true) (ve_BadRun : PySem.W.subIn K (.ref C_BadRun) (.type "ValueError") = some true)
    (cl_BadText : PySem.W.findIn K (.ref C_BadText) "__class__" = some (some (.builtin "object.__class__"))) (sp_BadText : PySem.W.specialIn K (.builtin "object.__class__") "__get__" = some (some (.builtin "getset_descriptor.__get__"))) (tk_BadText : PySem.W.takesIn K (.builtin "object.__class__") = some true) (mr_BadText : PySem.W.mroIn K C_BadText (.type "object") = some true) (ve_BadText : PySem.W.subIn K (.ref C_BadText) (.type "ValueError") = some true)
    (cl_Known : PySem.W.findIn K (.ref C_Known) "__class__" = some (some (.builtin "object.__class__"))) (sp_Known : PySem.W.specialIn K (.builtin "object.__class__") "__get__" = some (some (.builtin "getset_descriptor.__get__"))) (tk_Known : PySem.W.takesIn K (.builtin "object.__class__") = some true) (mr_Known : PySem.W.mroIn K C_Known (.type "object") = some true) (ve_Known : PySem.W.subIn K (.ref C_Known) (.type "ValueError") = some true)
    (cl_NoNumber : PySem.W.findIn K (.ref C_NoNumber) "__class__" = some (some (.builtin "object.__class__"))) (sp_NoNumber : PySem.W.specialIn K (.builtin "object.__class__") "__get__" = some (some (.builtin "getset_descriptor.__get__"))) (tk_NoNumber : PySem.W.takesIn K (.builtin "object.__class__") = some true) (mr_NoNumber : PySem.W.mroIn K C_NoNumber (.type "object") = some true) (ve_NoNumber : PySem.W.subIn K (.ref C_NoNumber) (.type "ValueError") = some true)
    (cl_NoPlace : PySem.W.findIn K (.ref C_NoPlace) "__class__" = some (some (.builtin "object.__class__"))) (sp_NoPlace : PySem.W.specialIn K (.builtin "object.__class__") "__get__" = some (some (.builtin "getset_descriptor.__get__"))) (tk_NoPlace : PySem.W.takesIn K (.builtin "object.__class__") = some true) (mr_NoPlace : PySem.W.mroIn K C_NoPlace (.type "object") = some true) (ve_NoPlace : PySem.W.subIn K (.ref C_NoPlace) (.type "ValueError") = some true)
    (cl_NoStep : PySem.W.findIn K (.ref C_NoStep) "__class__" = some (some (.builtin "object.__class__"))) (sp_NoStep : PySem.W.specialIn K (.builtin "object.__class__") "__get__" = some (some (.builtin "getset_descriptor.__get__"))) (tk_NoStep : PySem.W.takesIn K (.builtin "object.__class__") = some true) (mr_NoStep : PySem.W.mroIn K C_NoStep (.type "object") = some true) (ve_NoStep : PySem.W.subIn K (.ref C_NoStep) (.type "ValueError") = some true)
    (cl_NoStrike : PySem.W.findIn K (.ref C_NoStrike) "__class__" = some (some (.builtin "object.__class__"))) (sp_NoStrike : PySem.W.specialIn K (.builtin "object.__class__") "__get__" = some (some (.builtin "getset_descriptor.__get__"))) (tk_NoStrike : PySem.W.takesIn K (.builtin "object.__class__") = some true) (mr_NoStrike : PySem.W.mroIn K C_NoStrike (.type "object") = some true) (ve_NoStrike : PySem.W.subIn K (.ref C_NoStrike) (.type "ValueError") = some true)
    (cl_NoYear : PySem.W.findIn K (.ref C_NoYear) "__class__" = some (some (.builtin "object.__class__"))) (sp_NoYear : PySem.W.specialIn K (.builtin "object.__class__") "__get__" = some (some (.builtin "getset_descriptor.__get__"))) (tk_NoYear : PySem.W.takesIn K (.builtin "object.__class__") = some true) (mr_NoYear : PySem.W.mroIn K C_NoYear (.type "object") = some true) (ve_NoYear : PySem.W.subIn K (.ref C_NoYear) (.type "ValueError") = some true)
    (cl_NothingDone : PySem.W.findIn K (.ref C_NothingDone) "__class__" = some (some (.builtin "object.__class__"))) (sp_NothingDone : PySem.W.specialIn K (.builtin "object.__class__") "__get__" = some (some (.builtin "getset_descriptor.__get__"))) (tk_NothingDone : PySem.W.takesIn K (.builtin "object.__class__") = some true) (mr_NothingDone : PySem.W.mroIn K C_NothingDone (.type "object") = some true) (ve_NothingDone : PySem.W.subIn K (.ref C_NothingDone) (.type "ValueError") = some true)
    (cl_OtherDays : PySem.W.findIn K (.ref C_OtherDays) "__class__" = some (some (.builtin "object.__class__"))) (sp_OtherDays : PySem.W.specialIn K (.builtin "object.__class__") "__get__" = some (some (.builtin "getset_descriptor.__get__"))) (tk_OtherDays : PySem.W.takesIn K (.builtin "object.__class__") = some true) (mr_OtherDays : PySem.W.mroIn K C_OtherDays (.type "object") = some true) (ve_OtherDays : PySem.W.subIn K (.ref C_OtherDays) (.type "ValueError") = some true)
    (su_AllKnown_BadAnswer : PySem.W.subIn K (.ref C_AllKnown) (.ref C_BadAnswer) = some false)
    (su_AllKnown_BadLine : PySem.W.subIn K (.ref C_AllKnown) (.ref C_BadLine) = some false)
    (su_AllKnown_BadRun : PySem.W.subIn K (.ref C_AllKnown) (.ref C_BadRun) = some false)
    (su_AllKnown_BadText : PySem.W.subIn K (.ref C_AllKnown) (.ref C_BadText) = some false)
    (su_AllKnown_Known : PySem.W.subIn K (.ref C_AllKnown) (.ref C_Known) = some false)
    (su_AllKnown_NoNumber : PySem.W.subIn K (.ref C_AllKnown) (.ref C_NoNumber) = some false)
    (su_AllKnown_NoPlace : PySem.W.subIn K (.ref C_AllKnown) (.ref C_NoPlace) = some false)
    (su_AllKnown_NoStep : PySem.W.subIn K (.ref C_AllKnown) (.ref C_NoStep) = some false)
    (su_AllKnown_NoStrike : PySem.W.subIn K (.ref C_AllKnown) (.ref C_NoStrike) = some false)
    (su_AllKnown_NoYear : PySem.W.subIn K (.ref C_AllKnown) (.ref C_NoYear) = some false)
    (su_AllKnown_NothingDone : PySem.W.subIn K (.ref C_AllKnown) (.ref C_NothingDone) = some false)
    (su_AllKnown_OtherDays : PySem.W.subIn K (.ref C_AllKnown) (.ref C_OtherDays) = some false)
    (su_BadAnswer_AllKnown : PySem.W.subIn K (.ref C_BadAnswer) (.ref C_AllKnown) = some false)
    (su_BadAnswer_BadLine : PySem.W.subIn K (.ref C_BadAnswer) (.ref C_BadLine) = some false)
    (su_BadAnswer_BadRun : PySem.W.subIn K (.ref C_BadAnswer) (.ref C_BadRun) = some false)
    (su_BadAnswer_BadText : PySem.W.subIn K (.ref C_BadAnswer) (.ref C_BadText) = some false)
    (su_BadAnswer_Known : PySem.W.subIn K (.ref C_BadAnswer) (.ref C_Known) = some false)
    (su_BadAnswer_NoNumber : PySem.W.subIn K (.ref C_BadAnswer) (.ref C_NoNumber) = some false)
    (su_BadAnswer_NoPlace : PySem.W.subIn K (.ref C_BadAnswer) (.ref C_NoPlace) = some false)
    (su_BadAnswer_NoStep : PySem.W.subIn K (.ref C_BadAnswer) (.ref C_NoStep) = some false)
    (su_BadAnswer_NoStrike : PySem.W.subIn K (.ref C_BadAnswer) (.ref C_NoStrike) = some false)
    (su_BadAnswer_NoYear : PySem.W.subIn K (.ref C_BadAnswer) (.ref C_NoYear) = some false)
    (su_BadAnswer_NothingDone : PySem.W.subIn K (.ref C_BadAnswer) (.ref C_NothingDone) = some false)
    (su_BadAnswer_OtherDays : PySem.W.subIn K (.ref C_BadAnswer) (.ref C_OtherDays) = some false)
    (su_BadLine_AllKnown : PySem.W.subIn K (.ref C_BadLine) (.ref C_AllKnown) = some false)
    (su_BadLine_BadAnswer : PySem.W.subIn K (.ref C_BadLine) (.ref C_BadAnswer) = some false)
    (su_BadLine_BadRun : PySem.W.subIn K (.ref C_BadLine) (.ref C_BadRun) = some false)
    (su_BadLine_BadText : PySem.W.subIn K (.ref C_BadLine) (.ref C_BadText) = some false)
    (su_BadLine_Known : PySem.W.subIn K (.ref C_BadLine) (.ref C_Known) = some false)
    (su_BadLine_NoNumber : PySem.W.subIn K (.ref C_BadLine) (.ref C_NoNumber) = some false)
    (su_BadLine_NoPlace : PySem.W.subIn K (.ref C_BadLine) (.ref C_NoPlace) = some false)
    (su_BadLine_NoStep : PySem.W.subIn K (.ref C_BadLine) (.ref C_NoStep) = some false)
    (su_BadLine_NoStrike : PySem.W.subIn K (.ref C_BadLine) (.ref C_NoStrike) = some false)
    (su_BadLine_NoYear : PySem.W.subIn K (.ref C_BadLine) (.ref C_NoYear) = some false)
    (su_BadLine_NothingDone : PySem.W.subIn K (.ref C_BadLine) (.ref C_NothingDone) = some false)
    (su_BadLine_OtherDays : PySem.W.subIn K (.ref C_BadLine) (.ref C_OtherDays) = some false)
    (su_BadRun_AllKnown : PySem.W.subIn K (.ref C_BadRun) (.ref C_AllKnown) = some false)
    (su_BadRun_BadAnswer : PySem.W.subIn K (.ref C_BadRun) (.ref C_BadAnswer) = some false)
    (su_BadRun_BadLine : PySem.W.subIn K (.ref C_BadRun) (.ref C_BadLine) = some false)
    (su_BadRun_BadText : PySem.W.subIn K (.ref C_BadRun) (.ref C_BadText) = some false)
    (su_BadRun_Known : PySem.W.subIn K (.ref C_BadRun) (.ref C_Known) = some false)
    (su_BadRun_NoNumber : PySem.W.subIn K (.ref C_BadRun) (.ref C_NoNumber) = some false)
    (su_BadRun_NoPlace : PySem.W.subIn K (.ref C_BadRun) (.ref C_NoPlace) = some false)
    (su_BadRun_NoStep : PySem.W.subIn K (.ref C_BadRun) (.ref C_NoStep) = some false)
    (su_BadRun_NoStrike : PySem.W.subIn K (.ref C_BadRun) (.ref C_NoStrike) = some false)
    (su_BadRun_NoYear : PySem.W.subIn K (.ref C_BadRun) (.ref C_NoYear) = some false)
    (su_BadRun_NothingDone : PySem.W.subIn K (.ref C_BadRun) (.ref C_NothingDone) = some false)
    (su_BadRun_OtherDays : PySem.W.subIn K (.ref C_BadRun) (.ref C_OtherDays) = some false)
    (su_BadText_AllKnown : PySem.W.subIn K (.ref C_BadText) (.ref C_AllKnown) = some false)
    (su_BadText_BadAnswer : PySem.W.subIn K (.ref C_BadText) (.ref C_BadAnswer) = some false)
    (su_BadText_BadLine : PySem.W.subIn K (.ref C_BadText) (.ref C_BadLine) = some false)
    (su_BadText_BadRun : PySem.W.subIn K (.ref C_BadText) (.ref C_BadRun) = some false)
    (su_BadText_Known : PySem.W.subIn K (.ref C_BadText) (.ref C_Known) = some false)
    (su_BadText_NoNumber : PySem.W.subIn K (.ref C_BadText) (.ref C_NoNumber) = some false)
    (su_BadText_NoPlace : PySem.W.subIn K (.ref C_BadText) (.ref C_NoPlace) = some false)
    (su_BadText_NoStep : PySem.W.subIn K (.ref C_BadText) (.ref C_NoStep) = some false)
    (su_BadText_NoStrike : PySem.W.subIn K (.ref C_BadText) (.ref C_NoStrike) = some false)
    (su_BadText_NoYear : PySem.W.subIn K (.ref C_BadText) (.ref C_NoYear) = some false)
    (su_BadText_NothingDone : PySem.W.subIn K (.ref C_BadText) (.ref C_NothingDone) = some false)
    (su_BadText_OtherDays : PySem.W.subIn K (.ref C_BadText) (.ref C_OtherDays) = some false)
    (su_Known_AllKnown : PySem.W.subIn K (.ref C_Known) (.ref C_AllKnown) = some false)
    (su_Known_BadAnswer : PySem.W.subIn K (.ref C_Known) (.ref C_BadAnswer) = some false)
    (su_Known_BadLine : PySem.W.subIn K (.ref C_Known) (.ref C_BadLine) = some false)
    (su_Known_BadRun : PySem.W.subIn K (.ref C_Known) (.ref C_BadRun) = some false)
    (su_Known_BadText : PySem.W.subIn K (.ref C_Known) (.ref C_BadText) = some false)
    (su_Known_NoNumber : PySem.W.subIn K (.ref C_Known) (.ref C_NoNumber) = some false)
    (su_Known_NoPlace : PySem.W.subIn K (.ref C_Known) (.ref C_NoPlace) = some false)
    (su_Known_NoStep : PySem.W.subIn K (.ref C_Known) (.ref C_NoStep) = some false)
    (su_Known_NoStrike : PySem.W.subIn K (.ref C_Known) (.ref C_NoStrike) = some false)
    (su_Known_NoYear : PySem.W.subIn K (.ref C_Known) (.ref C_NoYear) = some false)
    (su_Known_NothingDone : PySem.W.subIn K (.ref C_Known) (.ref C_NothingDone) = some false)
    (su_Known_OtherDays : PySem.W.subIn K (.ref C_Known) (.ref C_OtherDays) = some false)
    (su_NoNumber_AllKnown : PySem.W.subIn K (.ref C_NoNumber) (.ref C_AllKnown) = some false)
    (su_NoNumber_BadAnswer : PySem.W.subIn K (.ref C_NoNumber) (.ref C_BadAnswer) = some false)
    (su_NoNumber_BadLine : PySem.W.subIn K (.ref C_NoNumber) (.ref C_BadLine) = some false)
    (su_NoNumber_BadRun : PySem.W.subIn K (.ref C_NoNumber) (.ref C_BadRun) = some false)
    (su_NoNumber_BadText : PySem.W.subIn K (.ref C_NoNumber) (.ref C_BadText) = some false)
    (su_NoNumber_Known : PySem.W.subIn K (.ref C_NoNumber) (.ref C_Known) = some false)
    (su_NoNumber_NoPlace : PySem.W.subIn K (.ref C_NoNumber) (.ref C_NoPlace) = some false)
    (su_NoNumber_NoStep : PySem.W.subIn K (.ref C_NoNumber) (.ref C_NoStep) = some false)
    (su_NoNumber_NoStrike : PySem.W.subIn K (.ref C_NoNumber) (.ref C_NoStrike) = some false)
    (su_NoNumber_NoYear : PySem.W.subIn K (.ref C_NoNumber) (.ref C_NoYear) = some false)
    (su_NoNumber_NothingDone : PySem.W.subIn K (.ref C_NoNumber) (.ref C_NothingDone) = some false)
    (su_NoNumber_OtherDays : PySem.W.subIn K (.ref C_NoNumber) (.ref C_OtherDays) = some false)
    (su_NoPlace_AllKnown : PySem.W.subIn K (.ref C_NoPlace) (.ref C_AllKnown) = some false)
    (su_NoPlace_BadAnswer : PySem.W.subIn K (.ref C_NoPlace) (.ref C_BadAnswer) = some false)
    (su_NoPlace_BadLine : PySem.W.subIn K (.ref C_NoPlace) (.ref C_BadLine) = some false)
    (su_NoPlace_BadRun : PySem.W.subIn K (.ref C_NoPlace) (.ref C_BadRun) = some false)
    (su_NoPlace_BadText : PySem.W.subIn K (.ref C_NoPlace) (.ref C_BadText) = some false)
    (su_NoPlace_Known : PySem.W.subIn K (.ref C_NoPlace) (.ref C_Known) = some false)
    (su_NoPlace_NoNumber : PySem.W.subIn K (.ref C_NoPlace) (.ref C_NoNumber) = some false)
    (su_NoPlace_NoStep : PySem.W.subIn K (.ref C_NoPlace) (.ref C_NoStep) = some false)
    (su_NoPlace_NoStrike : PySem.W.subIn K (.ref C_NoPlace) (.ref C_NoStrike) = some false)
    (su_NoPlace_NoYear : PySem.W.subIn K (.ref C_NoPlace) (.ref C_NoYear) = some false)
    (su_NoPlace_NothingDone : PySem.W.subIn K (.ref C_NoPlace) (.ref C_NothingDone) = some false)
    (su_NoPlace_OtherDays : PySem.W.subIn K (.ref C_NoPlace) (.ref C_OtherDays) = some false)
    (su_NoStep_AllKnown : PySem.W.subIn K (.ref C_NoStep) (.ref C_AllKnown) = some false)
    (su_NoStep_BadAnswer : PySem.W.subIn K (.ref C_NoStep) (.ref C_BadAnswer) = some false)
    (su_NoStep_BadLine : PySem.W.subIn K (.ref C_NoStep) (.ref C_BadLine) = some false)
    (su_NoStep_BadRun : PySem.W.subIn K (.ref C_NoStep) (.ref C_BadRun) = some false)
    (su_NoStep_BadText : PySem.W.subIn K (.ref C_NoStep) (.ref C_BadText) = some false)
    (su_NoStep_Known : PySem.W.subIn K (.ref C_NoStep) (.ref C_Known) = some false)
    (su_NoStep_NoNumber : PySem.W.subIn K (.ref C_NoStep) (.ref C_NoNumber) = some false)
    (su_NoStep_NoPlace : PySem.W.subIn K (.ref C_NoStep) (.ref C_NoPlace) = some false)
    (su_NoStep_NoStrike : PySem.W.subIn K (.ref C_NoStep) (.ref C_NoStrike) = some false)
    (su_NoStep_NoYear : PySem.W.subIn K (.ref C_NoStep) (.ref C_NoYear) = some false)
    (su_NoStep_NothingDone : PySem.W.subIn K (.ref C_NoStep) (.ref C_NothingDone) = some false)
    (su_NoStep_OtherDays : PySem.W.subIn K (.ref C_NoStep) (.ref C_OtherDays) = some false)
    (su_NoStrike_AllKnown : PySem.W.subIn K (.ref C_NoStrike) (.ref C_AllKnown) = some false)
    (su_NoStrike_BadAnswer : PySem.W.subIn K (.ref C_NoStrike) (.ref C_BadAnswer) = some false)
    (su_NoStrike_BadLine : PySem.W.subIn K (.ref C_NoStrike) (.ref C_BadLine) = some false)
    (su_NoStrike_BadRun : PySem.W.subIn K (.ref C_NoStrike) (.ref C_BadRun) = some false)
    (su_NoStrike_BadText : PySem.W.subIn K (.ref C_NoStrike) (.ref C_BadText) = some false)
    (su_NoStrike_Known : PySem.W.subIn K (.ref C_NoStrike) (.ref C_Known) = some false)
    (su_NoStrike_NoNumber : PySem.W.subIn K (.ref C_NoStrike) (.ref C_NoNumber) = some false)
    (su_NoStrike_NoPlace : PySem.W.subIn K (.ref C_NoStrike) (.ref C_NoPlace) = some false)
    (su_NoStrike_NoStep : PySem.W.subIn K (.ref C_NoStrike) (.ref C_NoStep) = some false)
    (su_NoStrike_NoYear : PySem.W.subIn K (.ref C_NoStrike) (.ref C_NoYear) = some false)
    (su_NoStrike_NothingDone : PySem.W.subIn K (.ref C_NoStrike) (.ref C_NothingDone) = some false)
    (su_NoStrike_OtherDays : PySem.W.subIn K (.ref C_NoStrike) (.ref C_OtherDays) = some false)
    (su_NoYear_AllKnown : PySem.W.subIn K (.ref C_NoYear) (.ref C_AllKnown) = some false)
    (su_NoYear_BadAnswer : PySem.W.subIn K (.ref C_NoYear) (.ref C_BadAnswer) = some false)
    (su_NoYear_BadLine : PySem.W.subIn K (.ref C_NoYear) (.ref C_BadLine) = some false)
    (su_NoYear_BadRun : PySem.W.subIn K (.ref C_NoYear) (.ref C_BadRun) = some false)
    (su_NoYear_BadText : PySem.W.subIn K (.ref C_NoYear) (.ref C_BadText) = some false)
    (su_NoYear_Known : PySem.W.subIn K (.ref C_NoYear) (.ref C_Known) = some false)
    (su_NoYear_NoNumber : PySem.W.subIn K (.ref C_NoYear) (.ref C_NoNumber) = some false)
    (su_NoYear_NoPlace : PySem.W.subIn K (.ref C_NoYear) (.ref C_NoPlace) = some false)
    (su_NoYear_NoStep : PySem.W.subIn K (.ref C_NoYear) (.ref C_NoStep) = some false)
    (su_NoYear_NoStrike : PySem.W.subIn K (.ref C_NoYear) (.ref C_NoStrike) = some false)
    (su_NoYear_NothingDone : PySem.W.subIn K (.ref C_NoYear) (.ref C_NothingDone) = some false)
    (su_NoYear_OtherDays : PySem.W.subIn K (.ref C_NoYear) (.ref C_OtherDays) = some false)
    (su_NothingDone_AllKnown : PySem.W.subIn K (.ref C_NothingDone) (.ref C_AllKnown) = some false)
    (su_NothingDone_BadAnswer : PySem.W.subIn K (.ref C_NothingDone) (.ref C_BadAnswer) = some false)
    (su_NothingDone_BadLine : PySem.W.subIn K (.ref C_NothingDone) (.ref C_BadLine) = some false)
    (su_NothingDone_BadRun : PySem.W.subIn K (.ref C_NothingDone) (.ref C_BadRun) = some false)
    (su_NothingDone_BadText : PySem.W.subIn K (.ref C_NothingDone) (.ref C_BadText) = some false)
    (su_NothingDone_Known : PySem.W.subIn K (.ref C_NothingDone) (.ref C_Known) = some false)
    (su_NothingDone_NoNumber : PySem.W.subIn K (.ref C_NothingDone) (.ref C_NoNumber) = some false)
    (su_NothingDone_NoPlace : PySem.W.subIn K (.ref C_NothingDone) (.ref C_NoPlace) = some false)
    (su_NothingDone_NoStep : PySem.W.subIn K (.ref C_NothingDone) (.ref C_NoStep) = some false)
    (su_NothingDone_NoStrike : PySem.W.subIn K (.ref C_NothingDone) (.ref C_NoStrike) = some false)
    (su_NothingDone_NoYear : PySem.W.subIn K (.ref C_NothingDone) (.ref C_NoYear) = some false)
    (su_NothingDone_OtherDays : PySem.W.subIn K (.ref C_NothingDone) (.ref C_OtherDays) = some false)
    (su_OtherDays_AllKnown : PySem.W.subIn K (.ref C_OtherDays) (.ref C_AllKnown) = some false)
    (su_OtherDays_BadAnswer : PySem.W.subIn K (.ref C_OtherDays) (.ref C_BadAnswer) = some false)
    (su_OtherDays_BadLine : PySem.W.subIn K (.ref C_OtherDays) (.ref C_BadLine) = some false)
    (su_OtherDays_BadRun : PySem.W.subIn K (.ref C_OtherDays) (.ref C_BadRun) = some false)
    (su_OtherDays_BadText : PySem.W.subIn K (.ref C_OtherDays) (.ref C_BadText) = some false)
    (su_OtherDays_Known : PySem.W.subIn K (.ref C_OtherDays) (.ref C_Known) = some false)
    (su_OtherDays_NoNumber : PySem.W.subIn K (.ref C_OtherDays) (.ref C_NoNumber) = some false)
    (su_OtherDays_NoPlace : PySem.W.subIn K (.ref C_OtherDays) (.ref C_NoPlace) = some false)
    (su_OtherDays_NoStep : PySem.W.subIn K (.ref C_OtherDays) (.ref C_NoStep) = some false)
    (su_OtherDays_NoStrike : PySem.W.subIn K (.ref C_OtherDays) (.ref C_NoStrike) = some false)
    (su_OtherDays_NoYear : PySem.W.subIn K (.ref C_OtherDays) (.ref C_NoYear) = some false)
    (su_OtherDays_NothingDone : PySem.W.subIn K (.ref C_OtherDays) (.ref C_NothingDone) = some false)
    (lk_AllKnown : PySem.W.subIn K (.ref C_AllKnown) (.type "LookupError") = some false)
    (lk_BadAnswer : PySem.W.subIn K (.ref C_BadAnswer) (.type "LookupError") = some false)
    (lk_BadLine : PySem.W.subIn K (.ref C_BadLine) (.type "LookupError") = some false)
    (lk_BadRun : PySem.W.subIn K (.ref C_BadRun) (.type "LookupError") = some false)
    (lk_BadText : PySem.W.subIn K (.ref C_BadText) (.type "LookupError") = some false)
    (lk_Known : PySem.W.subIn K (.ref C_Known) (.type "LookupError") = some false)
    (lk_NoNumber : PySem.W.subIn K (.ref C_NoNumber) (.type "LookupError") = some false)
    (lk_NoPlace : PySem.W.subIn K (.ref C_NoPlace) (.type "LookupError") = some false)
    (lk_NoStep : PySem.W.subIn K (.ref C_NoStep) (.type "LookupError") = some false)
    (lk_NoStrike : PySem.W.subIn K (.ref C_NoStrike) (.type "LookupError") = some false)
    (lk_NoYear : PySem.W.subIn K (.ref C_NoYear) (.type "LookupError") = some false)
    (lk_NothingDone : PySem.W.subIn K (.ref C_NothingDone) (.type "LookupError") = some false)
    (lk_OtherDays : PySem.W.subIn K (.ref C_OtherDays) (.type "LookupError") = some false)
    {CB_ButtError : Addr} (aB_ButtError : PySem.W.nsIn K mainGlobals "ButtError" = some (some (.ref CB_ButtError))) (eB_ButtError : PySem.W.subIn K (.ref CB_ButtError) (.type "BaseException") = some true) (iB_ButtError : PySem.W.isClsIn K CB_ButtError = true) (tB_ButtError : PySem.W.typeIn K (.ref CB_ButtError) = some (.type "type")) (uB_AllKnown_ButtError : PySem.W.subIn K (.ref C_AllKnown) (.ref CB_ButtError) = some true) (uB_BadAnswer_ButtError : PySem.W.subIn K (.ref C_BadAnswer) (.ref CB_ButtError) = some true) (uB_BadLine_ButtError : PySem.W.subIn K (.ref C_BadLine) (.ref CB_ButtError) = some true) (uB_BadRun_ButtError : PySem.W.subIn K (.ref C_BadRun) (.ref CB_ButtError) = some true) (uB_BadText_ButtError : PySem.W.subIn K (.ref C_BadText) (.ref CB_ButtError) = some true) (uB_Known_ButtError : PySem.W.subIn K (.ref C_Known) (.ref CB_ButtError) = some true) (uB_NoNumber_ButtError : PySem.W.subIn K (.ref C_NoNumber) (.ref CB_ButtError) = some true) (uB_NoPlace_ButtError : PySem.W.subIn K (.ref C_NoPlace) (.ref CB_ButtError) = some true) (uB_NoStep_ButtError : PySem.W.subIn K (.ref C_NoStep) (.ref CB_ButtError) = some true) (uB_NoStrike_ButtError : PySem.W.subIn K (.ref C_NoStrike) (.ref CB_ButtError) = some true) (uB_NoYear_ButtError : PySem.W.subIn K (.ref C_NoYear) (.ref CB_ButtError) = some true) (uB_NothingDone_ButtError : PySem.W.subIn K (.ref C_NothingDone) (.ref CB_ButtError) = some true) (uB_OtherDays_ButtError : PySem.W.subIn K (.ref C_OtherDays) (.ref CB_ButtError) = some true)
    (y0 : PySem.W.nsIn K mainGlobals "len" = some none) (y1 : PySem.W.nsIn K mainGlobals "abs" = some none) (y2 : PySem.W.nsIn K mainGlobals "int" = some none) (y3 : PySem.W.nsIn K mainGlobals "enumerate" = some none) (y4 : PySem.W.nsIn K mainGlobals "list" = some none) (y5 : PySem.W.nsIn K mainGlobals "isinstance" = some none) (y6 : PySem.W.nsIn K mainGlobals "tuple" = some none) (y7 : PySem.W.nsIn K mainGlobals "all" = some none) (y8 : PySem.W.nsIn K mainGlobals "bool" = some none) (y9 : PySem.W.nsIn K mainGlobals "str" = some none) (y10 : PySem.W.nsIn K mainGlobals "zip" = some none) (y11 : PySem.W.nsIn K mainGlobals "LookupError" = some none) (y12 : PySem.W.nsIn K mainGlobals "ValueError" = some none) (y13 : PySem.W.nsIn K mainGlobals "range" = some none) :
    ∃ fd : FuncData, (∀ (s : Shared) (v : Value), BindsTo s fd ⟨[v], []⟩ [("_law_script", v)]) ∧ ∀ base : Heap, K.In base → base.Ns mainGlobals mg → FnOk l.prog w K mg base CX0 9 fa fd ["_law_script"] (spLaw K) := by
  have e := hfa.symm.trans (PySem.W.mg_of X G a7)
  cases e
  let T : Txt K mg :=
    { z_len := PySem.W.mg_none_of X G y0, z_abs := PySem.W.mg_none_of X G y1, z_int := PySem.W.mg_none_of X G y2, z_enumerate := PySem.W.mg_none_of X G y3, z_list := PySem.W.mg_none_of X G y4, z_isinstance := PySem.W.mg_none_of X G y5, z_tuple := PySem.W.mg_none_of X G y6, z_all := PySem.W.mg_none_of X G y7, z_bool := PySem.W.mg_none_of X G y8, z_str := PySem.W.mg_none_of X G y9, z_zip := PySem.W.mg_none_of X G y10, z_LookupError := PySem.W.mg_none_of X G y11, z_ValueError := PySem.W.mg_none_of X G y12, z_range := PySem.W.mg_none_of X G y13,
      C_BadAnswer := C_BadAnswer, fI_BadAnswer := fI_BadAnswer, fdI_BadAnswer := _, FI_BadAnswer := fun_mk (st := i_BadAnswer) li_BadAnswer ci_BadAnswer ki_BadAnswer, bI_BadAnswer := (fun_mk (st := i_BadAnswer) li_BadAnswer ci_BadAnswer ki_BadAnswer).binds (ps := ["self", "number"]) fun _ _ _ _ _ _ us hl => match us, hl with | [_, _], _ => rfl,
      E_BadAnswer := { gC := PySem.W.mg_of X G aC_BadAnswer, cls := ⟨⟨_, _, _, _, _, _, _, _, _, _, _, _, _, _, _, xL_BadAnswer, (show PySem.HandSPX.refsVE [.type "ValueError", .type "Exception", .type "BaseException", .type "object"] = true by decide +kernel)⟩, sa_BadAnswer, eC_BadAnswer, tC_BadAnswer, kC_BadAnswer⟩, ga := ga_BadAnswer, gg := gg_BadAnswer, noN := nb_BadAnswer, iC := ai_BadAnswer, tC := ti_BadAnswer, hdC := hC_BadAnswer, te := exm_self eC_BadAnswer iC_BadAnswer tC_BadAnswer sC_BadAnswer },
      I_BadAnswer := ⟨iC_BadAnswer, ga_BadAnswer, gg_BadAnswer, eC_BadAnswer, cl_BadAnswer, sp_BadAnswer, tk_BadAnswer, mr_BadAnswer, ve_BadAnswer⟩,
      C_BadLine := C_BadLine, fI_BadLine := fI_BadLine, fdI_BadLine := _, FI_BadLine := fun_mk (st := i_BadLine) li_BadLine ci_BadLine ki_BadLine, bI_BadLine := (fun_mk (st := i_BadLine) li_BadLine ci_BadLine ki_BadLine).binds (ps := ["self", "number"]) fun _ _ _ _ _ _ us hl => match us, hl with | [_, _], _ => rfl,
      E_BadLine := { gC := PySem.W.mg_of X G aC_BadLine, cls := ⟨⟨_, _, _, _, _, _, _, _, _, _, _, _, _, _, _, xL_BadLine, (show PySem.HandSPX.refsVE [.type "ValueError", .type "Exception", .type "BaseException", .type "object"] = true by decide +kernel)⟩, sa_BadLine, eC_BadLine, tC_BadLine, kC_BadLine⟩, ga := ga_BadLine, gg := gg_BadLine, noN := nb_BadLine, iC := ai_BadLine, tC := ti_BadLine, hdC := hC_BadLine, te := exm_self eC_BadLine iC_BadLine tC_BadLine sC_BadLine },
      I_BadLine := ⟨iC_BadLine, ga_BadLine, gg_BadLine, eC_BadLine, cl_BadLine, sp_BadLine, tk_BadLine, mr_BadLine, ve_BadLine⟩,
      C_BadRun := C_BadRun, fI_BadRun := fI_BadRun, fdI_BadRun := _, FI_BadRun := fun_mk (st := i_BadRun) li_BadRun ci_BadRun ki_BadRun, bI_BadRun := (fun_mk (st := i_BadRun) li_BadRun ci_BadRun ki_BadRun).binds (ps := ["self", "place"]) fun _ _ _ _ _ _ us hl => match us, hl with | [_, _], _ => rfl,
      E_BadRun := { gC := PySem.W.mg_of X G aC_BadRun, cls := ⟨⟨_, _, _, _, _, _, _, _, _, _, _, _, _, _, _, xL_BadRun, (show PySem.HandSPX.refsVE [.type "ValueError", .type "Exception", .type "BaseException", .type "object"] = true by decide +kernel)⟩, sa_BadRun, eC_BadRun, tC_BadRun, kC_BadRun⟩, ga := ga_BadRun, gg := gg_BadRun, noN := nb_BadRun, iC := ai_BadRun, tC := ti_BadRun, hdC := hC_BadRun, te := exm_self eC_BadRun iC_BadRun tC_BadRun sC_BadRun },
      I_BadRun := ⟨iC_BadRun, ga_BadRun, gg_BadRun, eC_BadRun, cl_BadRun, sp_BadRun, tk_BadRun, mr_BadRun, ve_BadRun⟩,
      C_BadText := C_BadText, fI_BadText := fI_BadText, fdI_BadText := _, FI_BadText := fun_mk (st := i_BadText) li_BadText ci_BadText ki_BadText, bI_BadText := (fun_mk (st := i_BadText) li_BadText ci_BadText ki_BadText).binds (ps := ["self", "piece"]) fun _ _ _ _ _ _ us hl => match us, hl with | [_, _], _ => rfl,
      E_BadText := { gC := PySem.W.mg_of X G aC_BadText, cls := ⟨⟨_, _, _, _, _, _, _, _, _, _, _, _, _, _, _, xL_BadText, (show PySem.HandSPX.refsVE [.type "ValueError", .type "Exception", .type "BaseException", .type "object"] = true by decide +kernel)⟩, sa_BadText, eC_BadText, tC_BadText, kC_BadText⟩, ga := ga_BadText, gg := gg_BadText, noN := nb_BadText, iC := ai_BadText, tC := ti_BadText, hdC := hC_BadText, te := exm_self eC_BadText iC_BadText tC_BadText sC_BadText },
      I_BadText := ⟨iC_BadText, ga_BadText, gg_BadText, eC_BadText, cl_BadText, sp_BadText, tk_BadText, mr_BadText, ve_BadText⟩,
      C_Known := C_Known, fI_Known := fI_Known, fdI_Known := _, FI_Known := fun_mk (st := i_Known) li_Known ci_Known ki_Known, bI_Known := (fun_mk (st := i_Known) li_Known ci_Known ki_Known).binds (ps := ["self", "name"]) fun _ _ _ _ _ _ us hl => match us, hl with | [_, _], _ => rfl,
      E_Known := { gC := PySem.W.mg_of X G aC_Known, cls := ⟨⟨_, _, _, _, _, _, _, _, _, _, _, _, _, _, _, xL_Known, (show PySem.HandSPX.refsVE [.type "ValueError", .type "Exception", .type "BaseException", .type "object"] = true by decide +kernel)⟩, sa_Known, eC_Known, tC_Known, kC_Known⟩, ga := ga_Known, gg := gg_Known, noN := nb_Known, iC := ai_Known, tC := ti_Known, hdC := hC_Known, te := exm_self eC_Known iC_Known tC_Known sC_Known },
      I_Known := ⟨iC_Known, ga_Known, gg_Known, eC_Known, cl_Known, sp_Known, tk_Known, mr_Known, ve_Known⟩,
      C_NoNumber := C_NoNumber, fI_NoNumber := fI_NoNumber, fdI_NoNumber := _, FI_NoNumber := fun_mk (st := i_NoNumber) li_NoNumber ci_NoNumber ki_NoNumber, bI_NoNumber := (fun_mk (st := i_NoNumber) li_NoNumber ci_NoNumber ki_NoNumber).binds (ps := ["self", "number"]) fun _ _ _ _ _ _ us hl => match us, hl with | [_, _], _ => rfl,
      E_NoNumber := { gC := PySem.W.mg_of X G aC_NoNumber, cls := ⟨⟨_, _, _, _, _, _, _, _, _, _, _, _, _, _, _, xL_NoNumber, (show PySem.HandSPX.refsVE [.type "ValueError", .type "Exception", .type "BaseException", .type "object"] = true by decide +kernel)⟩, sa_NoNumber, eC_NoNumber, tC_NoNumber, kC_NoNumber⟩, ga := ga_NoNumber, gg := gg_NoNumber, noN := nb_NoNumber, iC := ai_NoNumber, tC := ti_NoNumber, hdC := hC_NoNumber, te := exm_self eC_NoNumber iC_NoNumber tC_NoNumber sC_NoNumber },
      I_NoNumber := ⟨iC_NoNumber, ga_NoNumber, gg_NoNumber, eC_NoNumber, cl_NoNumber, sp_NoNumber, tk_NoNumber, mr_NoNumber, ve_NoNumber⟩,
      C_NoPlace := C_NoPlace, fI_NoPlace := fI_NoPlace, fdI_NoPlace := _, FI_NoPlace := fun_mk (st := i_NoPlace) li_NoPlace ci_NoPlace ki_NoPlace, bI_NoPlace := (fun_mk (st := i_NoPlace) li_NoPlace ci_NoPlace ki_NoPlace).binds (ps := ["self", "number"]) fun _ _ _ _ _ _ us hl => match us, hl with | [_, _], _ => rfl,
      E_NoPlace := { gC := PySem.W.mg_of X G aC_NoPlace, cls := ⟨⟨_, _, _, _, _, _, _, _, _, _, _, _, _, _, _, xL_NoPlace, (show PySem.HandSPX.refsVE [.type "ValueError", .type "Exception", .type "BaseException", .type "object"] = true by decide +kernel)⟩, sa_NoPlace, eC_NoPlace, tC_NoPlace, kC_NoPlace⟩, ga := ga_NoPlace, gg := gg_NoPlace, noN := nb_NoPlace, iC := ai_NoPlace, tC := ti_NoPlace, hdC := hC_NoPlace, te := exm_self eC_NoPlace iC_NoPlace tC_NoPlace sC_NoPlace },
      I_NoPlace := ⟨iC_NoPlace, ga_NoPlace, gg_NoPlace, eC_NoPlace, cl_NoPlace, sp_NoPlace, tk_NoPlace, mr_NoPlace, ve_NoPlace⟩,
      C_NoStep := C_NoStep, fI_NoStep := fI_NoStep, fdI_NoStep := _, FI_NoStep := fun_mk (st := i_NoStep) li_NoStep ci_NoStep ki_NoStep, bI_NoStep := (fun_mk (st := i_NoStep) li_NoStep ci_NoStep ki_NoStep).binds (ps := ["self", "place"]) fun _ _ _ _ _ _ us hl => match us, hl with | [_, _], _ => rfl,
      E_NoStep := { gC := PySem.W.mg_of X G aC_NoStep, cls := ⟨⟨_, _, _, _, _, _, _, _, _, _, _, _, _, _, _, xL_NoStep, (show PySem.HandSPX.refsVE [.type "ValueError", .type "Exception", .type "BaseException", .type "object"] = true by decide +kernel)⟩, sa_NoStep, eC_NoStep, tC_NoStep, kC_NoStep⟩, ga := ga_NoStep, gg := gg_NoStep, noN := nb_NoStep, iC := ai_NoStep, tC := ti_NoStep, hdC := hC_NoStep, te := exm_self eC_NoStep iC_NoStep tC_NoStep sC_NoStep },
      I_NoStep := ⟨iC_NoStep, ga_NoStep, gg_NoStep, eC_NoStep, cl_NoStep, sp_NoStep, tk_NoStep, mr_NoStep, ve_NoStep⟩,
      C_NoStrike := C_NoStrike, fI_NoStrike := fI_NoStrike, fdI_NoStrike := _, FI_NoStrike := fun_mk (st := i_NoStrike) li_NoStrike ci_NoStrike ki_NoStrike, bI_NoStrike := (fun_mk (st := i_NoStrike) li_NoStrike ci_NoStrike ki_NoStrike).binds (ps := ["self", "place"]) fun _ _ _ _ _ _ us hl => match us, hl with | [_, _], _ => rfl,
      E_NoStrike := { gC := PySem.W.mg_of X G aC_NoStrike, cls := ⟨⟨_, _, _, _, _, _, _, _, _, _, _, _, _, _, _, xL_NoStrike, (show PySem.HandSPX.refsVE [.type "ValueError", .type "Exception", .type "BaseException", .type "object"] = true by decide +kernel)⟩, sa_NoStrike, eC_NoStrike, tC_NoStrike, kC_NoStrike⟩, ga := ga_NoStrike, gg := gg_NoStrike, noN := nb_NoStrike, iC := ai_NoStrike, tC := ti_NoStrike, hdC := hC_NoStrike, te := exm_self eC_NoStrike iC_NoStrike tC_NoStrike sC_NoStrike },
      I_NoStrike := ⟨iC_NoStrike, ga_NoStrike, gg_NoStrike, eC_NoStrike, cl_NoStrike, sp_NoStrike, tk_NoStrike, mr_NoStrike, ve_NoStrike⟩,
      C_NoYear := C_NoYear, fI_NoYear := fI_NoYear, fdI_NoYear := _, FI_NoYear := fun_mk (st := i_NoYear) li_NoYear ci_NoYear ki_NoYear, bI_NoYear := (fun_mk (st := i_NoYear) li_NoYear ci_NoYear ki_NoYear).binds (ps := ["self", "name"]) fun _ _ _ _ _ _ us hl => match us, hl with | [_, _], _ => rfl,
      E_NoYear := { gC := PySem.W.mg_of X G aC_NoYear, cls := ⟨⟨_, _, _, _, _, _, _, _, _, _, _, _, _, _, _, xL_NoYear, (show PySem.HandSPX.refsVE [.type "ValueError", .type "Exception", .type "BaseException", .type "object"] = true by decide +kernel)⟩, sa_NoYear, eC_NoYear, tC_NoYear, kC_NoYear⟩, ga := ga_NoYear, gg := gg_NoYear, noN := nb_NoYear, iC := ai_NoYear, tC := ti_NoYear, hdC := hC_NoYear, te := exm_self eC_NoYear iC_NoYear tC_NoYear sC_NoYear },
      I_NoYear := ⟨iC_NoYear, ga_NoYear, gg_NoYear, eC_NoYear, cl_NoYear, sp_NoYear, tk_NoYear, mr_NoYear, ve_NoYear⟩,
      C_AllKnown := C_AllKnown, X_AllKnown := ⟨PySem.W.mg_of X G aC_AllKnown, q0_AllKnown, kC_AllKnown, eC_AllKnown, tC_AllKnown⟩, I_AllKnown := ⟨iC_AllKnown, ga_AllKnown, gg_AllKnown, eC_AllKnown, cl_AllKnown, sp_AllKnown, tk_AllKnown, mr_AllKnown, ve_AllKnown⟩,
      C_NothingDone := C_NothingDone, X_NothingDone := ⟨PySem.W.mg_of X G aC_NothingDone, q0_NothingDone, kC_NothingDone, eC_NothingDone, tC_NothingDone⟩, I_NothingDone := ⟨iC_NothingDone, ga_NothingDone, gg_NothingDone, eC_NothingDone, cl_NothingDone, sp_NothingDone, tk_NothingDone, mr_NothingDone, ve_NothingDone⟩,
      C_OtherDays := C_OtherDays, X_OtherDays := ⟨PySem.W.mg_of X G aC_OtherDays, q0_OtherDays, kC_OtherDays, eC_OtherDays, tC_OtherDays⟩, I_OtherDays := ⟨iC_OtherDays, ga_OtherDays, gg_OtherDays, eC_OtherDays, cl_OtherDays, sp_OtherDays, tk_OtherDays, mr_OtherDays, ve_OtherDays⟩,
      KU_AllKnown := DL.kit_sub iB_ButtError tB_ButtError uB_AllKnown_ButtError, KL_AllKnown := DL.kit_ty2 (by decide +kernel) lk_AllKnown,
      KU_BadAnswer := DL.kit_sub iB_ButtError tB_ButtError uB_BadAnswer_ButtError, KL_BadAnswer := DL.kit_ty2 (by decide +kernel) lk_BadAnswer,
      KU_BadLine := DL.kit_sub iB_ButtError tB_ButtError uB_BadLine_ButtError, KL_BadLine := DL.kit_ty2 (by decide +kernel) lk_BadLine,
      KU_BadRun := DL.kit_sub iB_ButtError tB_ButtError uB_BadRun_ButtError, KL_BadRun := DL.kit_ty2 (by decide +kernel) lk_BadRun,
      KU_BadText := DL.kit_sub iB_ButtError tB_ButtError uB_BadText_ButtError, KL_BadText := DL.kit_ty2 (by decide +kernel) lk_BadText,
      KU_Known := DL.kit_sub iB_ButtError tB_ButtError uB_Known_ButtError, KL_Known := DL.kit_ty2 (by decide +kernel) lk_Known,
      KU_NoNumber := DL.kit_sub iB_ButtError tB_ButtError uB_NoNumber_ButtError, KL_NoNumber := DL.kit_ty2 (by decide +kernel) lk_NoNumber,
      KU_NoPlace := DL.kit_sub iB_ButtError tB_ButtError uB_NoPlace_ButtError, KL_NoPlace := DL.kit_ty2 (by decide +kernel) lk_NoPlace,
      KU_NoStep := DL.kit_sub iB_ButtError tB_ButtError uB_NoStep_ButtError, KL_NoStep := DL.kit_ty2 (by decide +kernel) lk_NoStep,
      KU_NoStrike := DL.kit_sub iB_ButtError tB_ButtError uB_NoStrike_ButtError, KL_NoStrike := DL.kit_ty2 (by decide +kernel) lk_NoStrike,
      KU_NoYear := DL.kit_sub iB_ButtError tB_ButtError uB_NoYear_ButtError, KL_NoYear := DL.kit_ty2 (by decide +kernel) lk_NoYear,
      KU_NothingDone := DL.kit_sub iB_ButtError tB_ButtError uB_NothingDone_ButtError, KL_NothingDone := DL.kit_ty2 (by decide +kernel) lk_NothingDone,
      KU_OtherDays := DL.kit_sub iB_ButtError tB_ButtError uB_OtherDays_ButtError, KL_OtherDays := DL.kit_ty2 (by decide +kernel) lk_OtherDays,
      C_ButtError := CB_ButtError, gC_ButtError := PySem.W.mg_of X G aB_ButtError, XU_BadAnswer_ButtError := DL.exm_cross eB_ButtError iB_ButtError tB_ButtError uB_BadAnswer_ButtError, XU_BadLine_ButtError := DL.exm_cross eB_ButtError iB_ButtError tB_ButtError uB_BadLine_ButtError, XU_BadRun_ButtError := DL.exm_cross eB_ButtError iB_ButtError tB_ButtError uB_BadRun_ButtError, XU_BadText_ButtError := DL.exm_cross eB_ButtError iB_ButtError tB_ButtError uB_BadText_ButtError, XU_Known_ButtError := DL.exm_cross eB_ButtError iB_ButtError tB_ButtError uB_Known_ButtError, XU_NoNumber_ButtError := DL.exm_cross eB_ButtError iB_ButtError tB_ButtError uB_NoNumber_ButtError, XU_NoPlace_ButtError := DL.exm_cross eB_ButtError iB_ButtError tB_ButtError uB_NoPlace_ButtError, XU_NoStep_ButtError := DL.exm_cross eB_ButtError iB_ButtError tB_ButtError uB_NoStep_ButtError, XU_NoStrike_ButtError := DL.exm_cross eB_ButtError iB_ButtError tB_ButtError uB_NoStrike_ButtError, XU_NoYear_ButtError := DL.exm_cross eB_ButtError iB_ButtError tB_ButtError uB_NoYear_ButtError,
      KO_AllKnown_AllKnown := if_pos (beq_self_eq_true _),
      KO_AllKnown_BadAnswer := DL.kit_cross sC_AllKnown iC_BadAnswer tC_BadAnswer su_AllKnown_BadAnswer,
      KO_AllKnown_BadLine := DL.kit_cross sC_AllKnown iC_BadLine tC_BadLine su_AllKnown_BadLine,
      KO_AllKnown_BadRun := DL.kit_cross sC_AllKnown iC_BadRun tC_BadRun su_AllKnown_BadRun,
      KO_AllKnown_BadText := DL.kit_cross sC_AllKnown iC_BadText tC_BadText su_AllKnown_BadText,
      KO_AllKnown_Known := DL.kit_cross sC_AllKnown iC_Known tC_Known su_AllKnown_Known,
      KO_AllKnown_NoNumber := DL.kit_cross sC_AllKnown iC_NoNumber tC_NoNumber su_AllKnown_NoNumber,
      KO_AllKnown_NoPlace := DL.kit_cross sC_AllKnown iC_NoPlace tC_NoPlace su_AllKnown_NoPlace,
      KO_AllKnown_NoStep := DL.kit_cross sC_AllKnown iC_NoStep tC_NoStep su_AllKnown_NoStep,
      KO_AllKnown_NoStrike := DL.kit_cross sC_AllKnown iC_NoStrike tC_NoStrike su_AllKnown_NoStrike,
      KO_AllKnown_NoYear := DL.kit_cross sC_AllKnown iC_NoYear tC_NoYear su_AllKnown_NoYear,
      KO_AllKnown_NothingDone := DL.kit_cross sC_AllKnown iC_NothingDone tC_NothingDone su_AllKnown_NothingDone,
      KO_AllKnown_OtherDays := DL.kit_cross sC_AllKnown iC_OtherDays tC_OtherDays su_AllKnown_OtherDays,
      KO_BadAnswer_AllKnown := DL.kit_cross sC_BadAnswer iC_AllKnown tC_AllKnown su_BadAnswer_AllKnown,
      KO_BadAnswer_BadAnswer := if_pos (beq_self_eq_true _),
      KO_BadAnswer_BadLine := DL.kit_cross sC_BadAnswer iC_BadLine tC_BadLine su_BadAnswer_BadLine,
      KO_BadAnswer_BadRun := DL.kit_cross sC_BadAnswer iC_BadRun tC_BadRun su_BadAnswer_BadRun,
      KO_BadAnswer_BadText := DL.kit_cross sC_BadAnswer iC_BadText tC_BadText su_BadAnswer_BadText,
      KO_BadAnswer_Known := DL.kit_cross sC_BadAnswer iC_Known tC_Known su_BadAnswer_Known,
      KO_BadAnswer_NoNumber := DL.kit_cross sC_BadAnswer iC_NoNumber tC_NoNumber su_BadAnswer_NoNumber,
      KO_BadAnswer_NoPlace := DL.kit_cross sC_BadAnswer iC_NoPlace tC_NoPlace su_BadAnswer_NoPlace,
      KO_BadAnswer_NoStep := DL.kit_cross sC_BadAnswer iC_NoStep tC_NoStep su_BadAnswer_NoStep,
      KO_BadAnswer_NoStrike := DL.kit_cross sC_BadAnswer iC_NoStrike tC_NoStrike su_BadAnswer_NoStrike,
      KO_BadAnswer_NoYear := DL.kit_cross sC_BadAnswer iC_NoYear tC_NoYear su_BadAnswer_NoYear,
      KO_BadAnswer_NothingDone := DL.kit_cross sC_BadAnswer iC_NothingDone tC_NothingDone su_BadAnswer_NothingDone,
      KO_BadAnswer_OtherDays := DL.kit_cross sC_BadAnswer iC_OtherDays tC_OtherDays su_BadAnswer_OtherDays,
      KO_BadLine_AllKnown := DL.kit_cross sC_BadLine iC_AllKnown tC_AllKnown su_BadLine_AllKnown,
      KO_BadLine_BadAnswer := DL.kit_cross sC_BadLine iC_BadAnswer tC_BadAnswer su_BadLine_BadAnswer,
      KO_BadLine_BadLine := if_pos (beq_self_eq_true _),
      KO_BadLine_BadRun := DL.kit_cross sC_BadLine iC_BadRun tC_BadRun su_BadLine_BadRun,
      KO_BadLine_BadText := DL.kit_cross sC_BadLine iC_BadText tC_BadText su_BadLine_BadText,
      KO_BadLine_Known := DL.kit_cross sC_BadLine iC_Known tC_Known su_BadLine_Known,
      KO_BadLine_NoNumber := DL.kit_cross sC_BadLine iC_NoNumber tC_NoNumber su_BadLine_NoNumber,
      KO_BadLine_NoPlace := DL.kit_cross sC_BadLine iC_NoPlace tC_NoPlace su_BadLine_NoPlace,
      KO_BadLine_NoStep := DL.kit_cross sC_BadLine iC_NoStep tC_NoStep su_BadLine_NoStep,
      KO_BadLine_NoStrike := DL.kit_cross sC_BadLine iC_NoStrike tC_NoStrike su_BadLine_NoStrike,
      KO_BadLine_NoYear := DL.kit_cross sC_BadLine iC_NoYear tC_NoYear su_BadLine_NoYear,
      KO_BadLine_NothingDone := DL.kit_cross sC_BadLine iC_NothingDone tC_NothingDone su_BadLine_NothingDone,
      KO_BadLine_OtherDays := DL.kit_cross sC_BadLine iC_OtherDays tC_OtherDays su_BadLine_OtherDays,
      KO_BadRun_AllKnown := DL.kit_cross sC_BadRun iC_AllKnown tC_AllKnown su_BadRun_AllKnown,
      KO_BadRun_BadAnswer := DL.kit_cross sC_BadRun iC_BadAnswer tC_BadAnswer su_BadRun_BadAnswer,
      KO_BadRun_BadLine := DL.kit_cross sC_BadRun iC_BadLine tC_BadLine su_BadRun_BadLine,
      KO_BadRun_BadRun := if_pos (beq_self_eq_true _),
      KO_BadRun_BadText := DL.kit_cross sC_BadRun iC_BadText tC_BadText su_BadRun_BadText,
      KO_BadRun_Known := DL.kit_cross sC_BadRun iC_Known tC_Known su_BadRun_Known,
      KO_BadRun_NoNumber := DL.kit_cross sC_BadRun iC_NoNumber tC_NoNumber su_BadRun_NoNumber,
      KO_BadRun_NoPlace := DL.kit_cross sC_BadRun iC_NoPlace tC_NoPlace su_BadRun_NoPlace,
      KO_BadRun_NoStep := DL.kit_cross sC_BadRun iC_NoStep tC_NoStep su_BadRun_NoStep,
      KO_BadRun_NoStrike := DL.kit_cross sC_BadRun iC_NoStrike tC_NoStrike su_BadRun_NoStrike,
      KO_BadRun_NoYear := DL.kit_cross sC_BadRun iC_NoYear tC_NoYear su_BadRun_NoYear,
      KO_BadRun_NothingDone := DL.kit_cross sC_BadRun iC_NothingDone tC_NothingDone su_BadRun_NothingDone,
      KO_BadRun_OtherDays := DL.kit_cross sC_BadRun iC_OtherDays tC_OtherDays su_BadRun_OtherDays,
      KO_BadText_AllKnown := DL.kit_cross sC_BadText iC_AllKnown tC_AllKnown su_BadText_AllKnown,
      KO_BadText_BadAnswer := DL.kit_cross sC_BadText iC_BadAnswer tC_BadAnswer su_BadText_BadAnswer,
      KO_BadText_BadLine := DL.kit_cross sC_BadText iC_BadLine tC_BadLine su_BadText_BadLine,
      KO_BadText_BadRun := DL.kit_cross sC_BadText iC_BadRun tC_BadRun su_BadText_BadRun,
      KO_BadText_BadText := if_pos (beq_self_eq_true _),
      KO_BadText_Known := DL.kit_cross sC_BadText iC_Known tC_Known su_BadText_Known,
      KO_BadText_NoNumber := DL.kit_cross sC_BadText iC_NoNumber tC_NoNumber su_BadText_NoNumber,
      KO_BadText_NoPlace := DL.kit_cross sC_BadText iC_NoPlace tC_NoPlace su_BadText_NoPlace,
      KO_BadText_NoStep := DL.kit_cross sC_BadText iC_NoStep tC_NoStep su_BadText_NoStep,
      KO_BadText_NoStrike := DL.kit_cross sC_BadText iC_NoStrike tC_NoStrike su_BadText_NoStrike,
      KO_BadText_NoYear := DL.kit_cross sC_BadText iC_NoYear tC_NoYear su_BadText_NoYear,
      KO_BadText_NothingDone := DL.kit_cross sC_BadText iC_NothingDone tC_NothingDone su_BadText_NothingDone,
      KO_BadText_OtherDays := DL.kit_cross sC_BadText iC_OtherDays tC_OtherDays su_BadText_OtherDays,
      KO_Known_AllKnown := DL.kit_cross sC_Known iC_AllKnown tC_AllKnown su_Known_AllKnown,
      KO_Known_BadAnswer := DL.kit_cross sC_Known iC_BadAnswer tC_BadAnswer su_Known_BadAnswer,
      KO_Known_BadLine := DL.kit_cross sC_Known iC_BadLine tC_BadLine su_Known_BadLine,
      KO_Known_BadRun := DL.kit_cross sC_Known iC_BadRun tC_BadRun su_Known_BadRun,
      KO_Known_BadText := DL.kit_cross sC_Known iC_BadText tC_BadText su_Known_BadText,
      KO_Known_Known := if_pos (beq_self_eq_true _),
      KO_Known_NoNumber := DL.kit_cross sC_Known iC_NoNumber tC_NoNumber su_Known_NoNumber,
      KO_Known_NoPlace := DL.kit_cross sC_Known iC_NoPlace tC_NoPlace su_Known_NoPlace,
      KO_Known_NoStep := DL.kit_cross sC_Known iC_NoStep tC_NoStep su_Known_NoStep,
      KO_Known_NoStrike := DL.kit_cross sC_Known iC_NoStrike tC_NoStrike su_Known_NoStrike,
      KO_Known_NoYear := DL.kit_cross sC_Known iC_NoYear tC_NoYear su_Known_NoYear,
      KO_Known_NothingDone := DL.kit_cross sC_Known iC_NothingDone tC_NothingDone su_Known_NothingDone,
      KO_Known_OtherDays := DL.kit_cross sC_Known iC_OtherDays tC_OtherDays su_Known_OtherDays,
      KO_NoNumber_AllKnown := DL.kit_cross sC_NoNumber iC_AllKnown tC_AllKnown su_NoNumber_AllKnown,
      KO_NoNumber_BadAnswer := DL.kit_cross sC_NoNumber iC_BadAnswer tC_BadAnswer su_NoNumber_BadAnswer,
      KO_NoNumber_BadLine := DL.kit_cross sC_NoNumber iC_BadLine tC_BadLine su_NoNumber_BadLine,
      KO_NoNumber_BadRun := DL.kit_cross sC_NoNumber iC_BadRun tC_BadRun su_NoNumber_BadRun,
      KO_NoNumber_BadText := DL.kit_cross sC_NoNumber iC_BadText tC_BadText su_NoNumber_BadText,
      KO_NoNumber_Known := DL.kit_cross sC_NoNumber iC_Known tC_Known su_NoNumber_Known,
      KO_NoNumber_NoNumber := if_pos (beq_self_eq_true _),
      KO_NoNumber_NoPlace := DL.kit_cross sC_NoNumber iC_NoPlace tC_NoPlace su_NoNumber_NoPlace,
      KO_NoNumber_NoStep := DL.kit_cross sC_NoNumber iC_NoStep tC_NoStep su_NoNumber_NoStep,
      KO_NoNumber_NoStrike := DL.kit_cross sC_NoNumber iC_NoStrike tC_NoStrike su_NoNumber_NoStrike,
      KO_NoNumber_NoYear := DL.kit_cross sC_NoNumber iC_NoYear tC_NoYear su_NoNumber_NoYear,
      KO_NoNumber_NothingDone := DL.kit_cross sC_NoNumber iC_NothingDone tC_NothingDone su_NoNumber_NothingDone,
      KO_NoNumber_OtherDays := DL.kit_cross sC_NoNumber iC_OtherDays tC_OtherDays su_NoNumber_OtherDays,
      KO_NoPlace_AllKnown := DL.kit_cross sC_NoPlace iC_AllKnown tC_AllKnown su_NoPlace_AllKnown,
      KO_NoPlace_BadAnswer := DL.kit_cross sC_NoPlace iC_BadAnswer tC_BadAnswer su_NoPlace_BadAnswer,
      KO_NoPlace_BadLine := DL.kit_cross sC_NoPlace iC_BadLine tC_BadLine su_NoPlace_BadLine,
      KO_NoPlace_BadRun := DL.kit_cross sC_NoPlace iC_BadRun tC_BadRun su_NoPlace_BadRun,
      KO_NoPlace_BadText := DL.kit_cross sC_NoPlace iC_BadText tC_BadText su_NoPlace_BadText,
      KO_NoPlace_Known := DL.kit_cross sC_NoPlace iC_Known tC_Known su_NoPlace_Known,
      KO_NoPlace_NoNumber := DL.kit_cross sC_NoPlace iC_NoNumber tC_NoNumber su_NoPlace_NoNumber,
      KO_NoPlace_NoPlace := if_pos (beq_self_eq_true _),
      KO_NoPlace_NoStep := DL.kit_cross sC_NoPlace iC_NoStep tC_NoStep su_NoPlace_NoStep,
      KO_NoPlace_NoStrike := DL.kit_cross sC_NoPlace iC_NoStrike tC_NoStrike su_NoPlace_NoStrike,
      KO_NoPlace_NoYear := DL.kit_cross sC_NoPlace iC_NoYear tC_NoYear su_NoPlace_NoYear,
      KO_NoPlace_NothingDone := DL.kit_cross sC_NoPlace iC_NothingDone tC_NothingDone su_NoPlace_NothingDone,
      KO_NoPlace_OtherDays := DL.kit_cross sC_NoPlace iC_OtherDays tC_OtherDays su_NoPlace_OtherDays,
      KO_NoStep_AllKnown := DL.kit_cross sC_NoStep iC_AllKnown tC_AllKnown su_NoStep_AllKnown,
      KO_NoStep_BadAnswer := DL.kit_cross sC_NoStep iC_BadAnswer tC_BadAnswer su_NoStep_BadAnswer,
      KO_NoStep_BadLine := DL.kit_cross sC_NoStep iC_BadLine tC_BadLine su_NoStep_BadLine,
      KO_NoStep_BadRun := DL.kit_cross sC_NoStep iC_BadRun tC_BadRun su_NoStep_BadRun,
      KO_NoStep_BadText := DL.kit_cross sC_NoStep iC_BadText tC_BadText su_NoStep_BadText,
      KO_NoStep_Known := DL.kit_cross sC_NoStep iC_Known tC_Known su_NoStep_Known,
      KO_NoStep_NoNumber := DL.kit_cross sC_NoStep iC_NoNumber tC_NoNumber su_NoStep_NoNumber,
      KO_NoStep_NoPlace := DL.kit_cross sC_NoStep iC_NoPlace tC_NoPlace su_NoStep_NoPlace,
      KO_NoStep_NoStep := if_pos (beq_self_eq_true _),
      KO_NoStep_NoStrike := DL.kit_cross sC_NoStep iC_NoStrike tC_NoStrike su_NoStep_NoStrike,
      KO_NoStep_NoYear := DL.kit_cross sC_NoStep iC_NoYear tC_NoYear su_NoStep_NoYear,
      KO_NoStep_NothingDone := DL.kit_cross sC_NoStep iC_NothingDone tC_NothingDone su_NoStep_NothingDone,
      KO_NoStep_OtherDays := DL.kit_cross sC_NoStep iC_OtherDays tC_OtherDays su_NoStep_OtherDays,
      KO_NoStrike_AllKnown := DL.kit_cross sC_NoStrike iC_AllKnown tC_AllKnown su_NoStrike_AllKnown,
      KO_NoStrike_BadAnswer := DL.kit_cross sC_NoStrike iC_BadAnswer tC_BadAnswer su_NoStrike_BadAnswer,
      KO_NoStrike_BadLine := DL.kit_cross sC_NoStrike iC_BadLine tC_BadLine su_NoStrike_BadLine,
      KO_NoStrike_BadRun := DL.kit_cross sC_NoStrike iC_BadRun tC_BadRun su_NoStrike_BadRun,
      KO_NoStrike_BadText := DL.kit_cross sC_NoStrike iC_BadText tC_BadText su_NoStrike_BadText,
      KO_NoStrike_Known := DL.kit_cross sC_NoStrike iC_Known tC_Known su_NoStrike_Known,
      KO_NoStrike_NoNumber := DL.kit_cross sC_NoStrike iC_NoNumber tC_NoNumber su_NoStrike_NoNumber,
      KO_NoStrike_NoPlace := DL.kit_cross sC_NoStrike iC_NoPlace tC_NoPlace su_NoStrike_NoPlace,
      KO_NoStrike_NoStep := DL.kit_cross sC_NoStrike iC_NoStep tC_NoStep su_NoStrike_NoStep,
      KO_NoStrike_NoStrike := if_pos (beq_self_eq_true _),
      KO_NoStrike_NoYear := DL.kit_cross sC_NoStrike iC_NoYear tC_NoYear su_NoStrike_NoYear,
      KO_NoStrike_NothingDone := DL.kit_cross sC_NoStrike iC_NothingDone tC_NothingDone su_NoStrike_NothingDone,
      KO_NoStrike_OtherDays := DL.kit_cross sC_NoStrike iC_OtherDays tC_OtherDays su_NoStrike_OtherDays,
      KO_NoYear_AllKnown := DL.kit_cross sC_NoYear iC_AllKnown tC_AllKnown su_NoYear_AllKnown,
      KO_NoYear_BadAnswer := DL.kit_cross sC_NoYear iC_BadAnswer tC_BadAnswer su_NoYear_BadAnswer,
      KO_NoYear_BadLine := DL.kit_cross sC_NoYear iC_BadLine tC_BadLine su_NoYear_BadLine,
      KO_NoYear_BadRun := DL.kit_cross sC_NoYear iC_BadRun tC_BadRun su_NoYear_BadRun,
      KO_NoYear_BadText := DL.kit_cross sC_NoYear iC_BadText tC_BadText su_NoYear_BadText,
      KO_NoYear_Known := DL.kit_cross sC_NoYear iC_Known tC_Known su_NoYear_Known,
      KO_NoYear_NoNumber := DL.kit_cross sC_NoYear iC_NoNumber tC_NoNumber su_NoYear_NoNumber,
      KO_NoYear_NoPlace := DL.kit_cross sC_NoYear iC_NoPlace tC_NoPlace su_NoYear_NoPlace,
      KO_NoYear_NoStep := DL.kit_cross sC_NoYear iC_NoStep tC_NoStep su_NoYear_NoStep,
      KO_NoYear_NoStrike := DL.kit_cross sC_NoYear iC_NoStrike tC_NoStrike su_NoYear_NoStrike,
      KO_NoYear_NoYear := if_pos (beq_self_eq_true _),
      KO_NoYear_NothingDone := DL.kit_cross sC_NoYear iC_NothingDone tC_NothingDone su_NoYear_NothingDone,
      KO_NoYear_OtherDays := DL.kit_cross sC_NoYear iC_OtherDays tC_OtherDays su_NoYear_OtherDays,
      KO_NothingDone_AllKnown := DL.kit_cross sC_NothingDone iC_AllKnown tC_AllKnown su_NothingDone_AllKnown,
      KO_NothingDone_BadAnswer := DL.kit_cross sC_NothingDone iC_BadAnswer tC_BadAnswer su_NothingDone_BadAnswer,
      KO_NothingDone_BadLine := DL.kit_cross sC_NothingDone iC_BadLine tC_BadLine su_NothingDone_BadLine,
      KO_NothingDone_BadRun := DL.kit_cross sC_NothingDone iC_BadRun tC_BadRun su_NothingDone_BadRun,
      KO_NothingDone_BadText := DL.kit_cross sC_NothingDone iC_BadText tC_BadText su_NothingDone_BadText,
      KO_NothingDone_Known := DL.kit_cross sC_NothingDone iC_Known tC_Known su_NothingDone_Known,
      KO_NothingDone_NoNumber := DL.kit_cross sC_NothingDone iC_NoNumber tC_NoNumber su_NothingDone_NoNumber,
      KO_NothingDone_NoPlace := DL.kit_cross sC_NothingDone iC_NoPlace tC_NoPlace su_NothingDone_NoPlace,
      KO_NothingDone_NoStep := DL.kit_cross sC_NothingDone iC_NoStep tC_NoStep su_NothingDone_NoStep,
      KO_NothingDone_NoStrike := DL.kit_cross sC_NothingDone iC_NoStrike tC_NoStrike su_NothingDone_NoStrike,
      KO_NothingDone_NoYear := DL.kit_cross sC_NothingDone iC_NoYear tC_NoYear su_NothingDone_NoYear,
      KO_NothingDone_NothingDone := if_pos (beq_self_eq_true _),
      KO_NothingDone_OtherDays := DL.kit_cross sC_NothingDone iC_OtherDays tC_OtherDays su_NothingDone_OtherDays,
      KO_OtherDays_AllKnown := DL.kit_cross sC_OtherDays iC_AllKnown tC_AllKnown su_OtherDays_AllKnown,
      KO_OtherDays_BadAnswer := DL.kit_cross sC_OtherDays iC_BadAnswer tC_BadAnswer su_OtherDays_BadAnswer,
      KO_OtherDays_BadLine := DL.kit_cross sC_OtherDays iC_BadLine tC_BadLine su_OtherDays_BadLine,
      KO_OtherDays_BadRun := DL.kit_cross sC_OtherDays iC_BadRun tC_BadRun su_OtherDays_BadRun,
      KO_OtherDays_BadText := DL.kit_cross sC_OtherDays iC_BadText tC_BadText su_OtherDays_BadText,
      KO_OtherDays_Known := DL.kit_cross sC_OtherDays iC_Known tC_Known su_OtherDays_Known,
      KO_OtherDays_NoNumber := DL.kit_cross sC_OtherDays iC_NoNumber tC_NoNumber su_OtherDays_NoNumber,
      KO_OtherDays_NoPlace := DL.kit_cross sC_OtherDays iC_NoPlace tC_NoPlace su_OtherDays_NoPlace,
      KO_OtherDays_NoStep := DL.kit_cross sC_OtherDays iC_NoStep tC_NoStep su_OtherDays_NoStep,
      KO_OtherDays_NoStrike := DL.kit_cross sC_OtherDays iC_NoStrike tC_NoStrike su_OtherDays_NoStrike,
      KO_OtherDays_NoYear := DL.kit_cross sC_OtherDays iC_NoYear tC_NoYear su_OtherDays_NoYear,
      KO_OtherDays_NothingDone := DL.kit_cross sC_OtherDays iC_NothingDone tC_NothingDone su_OtherDays_NothingDone,
      KO_OtherDays_OtherDays := if_pos (beq_self_eq_true _),
      f__law_box := f0, fd__law_box := _, F__law_box := fun_mk (st := s__law_box) l0 c0 k0, m__law_box := PySem.W.mg_of X G a0, b__law_box := (fun_mk (st := s__law_box) l0 c0 k0).binds (ps := ["_law_script", "_law_k"]) fun _ _ _ _ _ _ us hl => match us, hl with | [_, _], _ => rfl,
      f__law_take := f1, fd__law_take := _, F__law_take := fun_mk (st := s__law_take) l1 c1 k1, m__law_take := PySem.W.mg_of X G a1, b__law_take := (fun_mk (st := s__law_take) l1 c1 k1).binds (ps := ["_law_box_here", "_law_size_so"]) fun _ _ _ _ _ _ us hl => match us, hl with | [_, _], _ => rfl,
      f__law_cells := f2, fd__law_cells := _, F__law_cells := fun_mk (st := s__law_cells) l2 c2 k2, m__law_cells := PySem.W.mg_of X G a2, b__law_cells := (fun_mk (st := s__law_cells) l2 c2 k2).binds (ps := ["_law_script", "_law_top_so"]) fun _ _ _ _ _ _ us hl => match us, hl with | [_, _], _ => rfl,
      f__law_of := f3, fd__law_of := _, F__law_of := fun_mk (st := s__law_of) l3 c3 k3, m__law_of := PySem.W.mg_of X G a3, b__law_of := (fun_mk (st := s__law_of) l3 c3 k3).binds (ps := ["_law_box_here", "_law_goods_so"]) fun _ _ _ _ _ _ us hl => match us, hl with | [_, _], _ => rfl,
      f__law_same := f4, fd__law_same := _, F__law_same := fun_mk (st := s__law_same) l4 c4 k4, m__law_same := PySem.W.mg_of X G a4, b__law_same := (fun_mk (st := s__law_same) l4 c4 k4).binds (ps := ["_law_got", "_law_due"]) fun _ _ _ _ _ _ us hl => match us, hl with | [_, _], _ => rfl,
      f__law_sorts := f5, fd__law_sorts := _, F__law_sorts := fun_mk (st := s__law_sorts) l5 c5 k5, m__law_sorts := PySem.W.mg_of X G a5, b__law_sorts := (fun_mk (st := s__law_sorts) l5 c5 k5).binds (ps := ["_law_caught"]) fun _ _ _ _ _ _ us hl => match us, hl with | [_], _ => rfl,
      f__law_right := f6, fd__law_right := _, F__law_right := fun_mk (st := s__law_right) l6 c6 k6, m__law_right := PySem.W.mg_of X G a6, b__law_right := (fun_mk (st := s__law_right) l6 c6 k6).binds (ps := ["_law_box_here"]) fun _ _ _ _ _ _ us hl => match us, hl with | [_], _ => rfl,
      f_law := fa, fd_law := _, F_law := fun_mk (st := s_law) l7 c7 k7, m_law := PySem.W.mg_of X G a7, b_law := (fun_mk (st := s_law) l7 c7 k7).binds (ps := ["_law_script"]) fun _ _ _ _ _ _ us hl => match us, hl with | [_], _ => rfl }
  exact ⟨PySem.W.fnOf "law" "law" (defArgs s_law) (defBody s_law) (defScope s_law) .none kV7 dc7 pm7 an7 cd7 ct7, fun s v => .of_eq rfl, fun base _ _ => ok_law T⟩
theorem walk {l : PySem.W.OpenLaw} {q : Program} {loose : List Str} {XP : (Str → Option Value) → Heap → Prop} {YP : World → Heap → Prop} {d : DefRec} {K : Params → PySem.W.Frag} (hn : l.most = some 63) (hdf : d.params.defaults = [])
    (hY : ∀ (w : World) (h : Heap), YP w h → (K w.params).In h)
    (F : ∀ (w : World) (mg : Str → Option Value) (fa : Addr) (h : Heap), (K w.params).In h → h.Ns mainGlobals mg → mg d.name = some (.ref fa) →
      ∃ fd : FuncData, (∀ (s : Shared) (u : Value), BindsTo s fd ⟨[u], []⟩ [("_law_script", u)]) ∧ ∀ base : Heap, (K w.params).In base → base.Ns mainGlobals mg → FnOk l.prog w (K w.params) mg base CX0 9 fa fd ["_law_script"] (spLaw (K w.params))) :
    PySem.W.WalkO q loose XP YP l.row.toRowW d [] (fun f vs => PySem.call f vs) :=
  L2.walk_of (n := 63) (k := 9) (x := "_law_script") (CX := fun _ => CX0) (sp := fun w => spLaw (K w.params)) hn (by decide) hdf ⟨rfl, by decide, by decide⟩ hY F (fun _ _ a ns hl _ hS => ⟨a, ns, rfl, hS, hl, fun _ => rfl⟩) fun _ _ _ _ _ z => z
end K00
open PySem PySem.W PyProof.Rows
set_option maxRecDepth 100000 in
set_option maxHeartbeats 0 in
theorem PySem.Challenge.cw_allbutts_k00_errors_holds : PySem.Challenge.rw_allbutts_k00_errors.Holds := by
  w_on; o_law; k_head; (case hw => w_witness2)
  k_fill
  refine K00.walk (l := PySem.Challenge.rw_allbutts_k00_errors) rfl rfl (fun w h Y => PySem.W.kIn_of Y) ?F
  case F =>
    intro w mg fa h KX G hmg
    refine' K00.all_mk KX G hmg ?a0 ?l0 ?c0 ?k0 ?a1 ?l1 ?c1 ?k1 ?a2 ?l2 ?c2 ?k2 ?a3 ?l3 ?c3 ?k3 ?a4 ?l4 ?c4 ?k4 ?a5 ?l5 ?c5 ?k5 ?a6 ?l6 ?c6 ?k6 ?a7 ?l7 ?c7 ?k7 ?aC_BadAnswer ?xL_BadAnswer ?sa_BadAnswer ?ga_BadAnswer ?gg_BadAnswer ?nb_BadAnswer ?ai_BadAnswer ?ti_BadAnswer ?li_BadAnswer ?ci_BadAnswer ?ki_BadAnswer ?kC_BadAnswer ?eC_BadAnswer ?tC_BadAnswer ?hC_BadAnswer ?iC_BadAnswer ?sC_BadAnswer ?aC_BadLine ?xL_BadLine ?sa_BadLine ?ga_BadLine ?gg_BadLine ?nb_BadLine ?ai_BadLine ?ti_BadLine ?li_BadLine ?ci_BadLine ?ki_BadLine ?kC_BadLine ?eC_BadLine ?tC_BadLine ?hC_BadLine ?iC_BadLine ?sC_BadLine ?aC_BadRun ?xL_BadRun ?sa_BadRun ?ga_BadRun ?gg_BadRun ?nb_BadRun ?ai_BadRun ?ti_BadRun ?li_BadRun ?ci_BadRun ?ki_BadRun ?kC_BadRun ?eC_BadRun ?tC_BadRun ?hC_BadRun ?iC_BadRun ?sC_BadRun ?aC_BadText ?xL_BadText ?sa_BadText ?ga_BadText ?gg_BadText ?nb_BadText ?ai_BadText ?ti_BadText ?li_BadText ?ci_BadText ?ki_BadText ?kC_BadText ?eC_BadText ?tC_BadText ?hC_BadText ?iC_BadText ?sC_BadText ?aC_Known ?xL_Known ?sa_Known ?ga_Known ?gg_Known ?nb_Known ?ai_Known ?ti_Known ?li_Known ?ci_Known ?ki_Known ?kC_Known ?eC_Known ?tC_Known ?hC_Known ?iC_Known ?sC_Known ?aC_NoNumber ?xL_NoNumber ?sa_NoNumber ?ga_NoNumber ?gg_NoNumber ?nb_NoNumber ?ai_NoNumber ?ti_NoNumber ?li_NoNumber ?ci_NoNumber ?ki_NoNumber ?kC_NoNumber ?eC_NoNumber ?tC_NoNumber ?hC_NoNumber ?iC_NoNumber ?sC_NoNumber ?aC_NoPlace ?xL_NoPlace ?sa_NoPlace ?ga_NoPlace ?gg_NoPlace ?nb_NoPlace ?ai_NoPlace ?ti_NoPlace ?li_NoPlace ?ci_NoPlace ?ki_NoPlace ?kC_NoPlace ?eC_NoPlace ?tC_NoPlace ?hC_NoPlace ?iC_NoPlace ?sC_NoPlace ?aC_NoStep ?xL_NoStep ?sa_NoStep ?ga_NoStep ?gg_NoStep ?nb_NoStep ?ai_NoStep ?ti_NoStep ?li_NoStep ?ci_NoStep ?ki_NoStep ?kC_NoStep ?eC_NoStep ?tC_NoStep ?hC_NoStep ?iC_NoStep ?sC_NoStep ?aC_NoStrike ?xL_NoStrike ?sa_NoStrike ?ga_NoStrike ?gg_NoStrike ?nb_NoStrike ?ai_NoStrike ?ti_NoStrike ?li_NoStrike ?ci_NoStrike ?ki_NoStrike ?kC_NoStrike ?eC_NoStrike ?tC_NoStrike ?hC_NoStrike ?iC_NoStrike ?sC_NoStrike ?aC_NoYear ?xL_NoYear ?sa_NoYear ?ga_NoYear ?gg_NoYear ?nb_NoYear ?ai_NoYear ?ti_NoYear ?li_NoYear ?ci_NoYear ?ki_NoYear ?kC_NoYear ?eC_NoYear ?tC_NoYear ?hC_NoYear ?iC_NoYear ?sC_NoYear ?aC_AllKnown ?q0_AllKnown ?kC_AllKnown ?ga_AllKnown ?gg_AllKnown ?eC_AllKnown ?tC_AllKnown ?iC_AllKnown ?sC_AllKnown ?aC_NothingDone ?q0_NothingDone ?kC_NothingDone ?ga_NothingDone ?gg_NothingDone ?eC_NothingDone ?tC_NothingDone ?iC_NothingDone ?sC_NothingDone ?aC_OtherDays ?q0_OtherDays ?kC_OtherDays ?ga_OtherDays ?gg_OtherDays ?eC_OtherDays ?tC_OtherDays ?iC_OtherDays ?sC_OtherDays ?cl_AllKnown ?sp_AllKnown ?tk_AllKnown ?mr_AllKnown ?ve_AllKnown ?cl_BadAnswer ?sp_BadAnswer ?tk_BadAnswer ?mr_BadAnswer ?ve_BadAnswer ?cl_BadLine ?sp_BadLine ?tk_BadLine ?mr_BadLine ?ve_BadLine ?cl_BadRun ?sp_BadRun ?tk_BadRun ?mr_BadRun ?ve_BadRun ?cl_BadText ?sp_BadText ?tk_BadText ?mr_BadText ?ve_BadText ?cl_Known ?sp_Known ?tk_Known ?mr_Known ?ve_Known ?cl_NoNumber ?sp_NoNumber ?tk_NoNumber ?mr_NoNumber ?ve_NoNumber ?cl_NoPlace ?sp_NoPlace ?tk_NoPlace ?mr_NoPlace ?ve_NoPlace ?cl_NoStep ?sp_NoStep ?tk_NoStep ?mr_NoStep ?ve_NoStep ?cl_NoStrike ?sp_NoStrike ?tk_NoStrike ?mr_NoStrike ?ve_NoStrike ?cl_NoYear ?sp_NoYear ?tk_NoYear ?mr_NoYear ?ve_NoYear ?cl_NothingDone ?sp_NothingDone ?tk_NothingDone ?mr_NothingDone ?ve_NothingDone ?cl_OtherDays ?sp_OtherDays ?tk_OtherDays ?mr_OtherDays ?ve_OtherDays ?su_AllKnown_BadAnswer ?su_AllKnown_BadLine ?su_AllKnown_BadRun ?su_AllKnown_BadText ?su_AllKnown_Known ?su_AllKnown_NoNumber ?su_AllKnown_NoPlace ?su_AllKnown_NoStep ?su_AllKnown_NoStrike ?su_AllKnown_NoYear ?su_AllKnown_NothingDone ?su_AllKnown_OtherDays ?su_BadAnswer_AllKnown ?su_BadAnswer_BadLine ?su_BadAnswer_BadRun ?su_BadAnswer_BadText ?su_BadAnswer_Known ?su_BadAnswer_NoNumber ?su_BadAnswer_NoPlace ?su_BadAnswer_NoStep ?su_BadAnswer_NoStrike ?su_BadAnswer_NoYear ?su_BadAnswer_NothingDone ?su_BadAnswer_OtherDays ?su_BadLine_AllKnown ?su_BadLine_BadAnswer ?su_BadLine_BadRun ?su_BadLine_BadText ?su_BadLine_Known ?su_BadLine_NoNumber ?su_BadLine_NoPlace ?su_BadLine_NoStep ?su_BadLine_NoStrike ?su_BadLine_NoYear ?su_BadLine_NothingDone ?su_BadLine_OtherDays ?su_BadRun_AllKnown ?su_BadRun_BadAnswer ?su_BadRun_BadLine ?su_BadRun_BadText ?su_BadRun_Known ?su_BadRun_NoNumber ?su_BadRun_NoPlace ?su_BadRun_NoStep ?su_BadRun_NoStrike ?su_BadRun_NoYear ?su_BadRun_NothingDone ?su_BadRun_OtherDays ?su_BadText_AllKnown ?su_BadText_BadAnswer ?su_BadText_BadLine ?su_BadText_BadRun ?su_BadText_Known ?su_BadText_NoNumber ?su_BadText_NoPlace ?su_BadText_NoStep ?su_BadText_NoStrike ?su_BadText_NoYear ?su_BadText_NothingDone ?su_BadText_OtherDays ?su_Known_AllKnown ?su_Known_BadAnswer ?su_Known_BadLine ?su_Known_BadRun ?su_Known_BadText ?su_Known_NoNumber ?su_Known_NoPlace ?su_Known_NoStep ?su_Known_NoStrike ?su_Known_NoYear ?su_Known_NothingDone ?su_Known_OtherDays ?su_NoNumber_AllKnown ?su_NoNumber_BadAnswer ?su_NoNumber_BadLine ?su_NoNumber_BadRun ?su_NoNumber_BadText ?su_NoNumber_Known ?su_NoNumber_NoPlace ?su_NoNumber_NoStep ?su_NoNumber_NoStrike ?su_NoNumber_NoYear ?su_NoNumber_NothingDone ?su_NoNumber_OtherDays ?su_NoPlace_AllKnown ?su_NoPlace_BadAnswer ?su_NoPlace_BadLine ?su_NoPlace_BadRun ?su_NoPlace_BadText ?su_NoPlace_Known ?su_NoPlace_NoNumber ?su_NoPlace_NoStep ?su_NoPlace_NoStrike ?su_NoPlace_NoYear ?su_NoPlace_NothingDone ?su_NoPlace_OtherDays ?su_NoStep_AllKnown ?su_NoStep_BadAnswer ?su_NoStep_BadLine ?su_NoStep_BadRun ?su_NoStep_BadText ?su_NoStep_Known ?su_NoStep_NoNumber ?su_NoStep_NoPlace ?su_NoStep_NoStrike ?su_NoStep_NoYear ?su_NoStep_NothingDone ?su_NoStep_OtherDays ?su_NoStrike_AllKnown ?su_NoStrike_BadAnswer ?su_NoStrike_BadLine ?su_NoStrike_BadRun ?su_NoStrike_BadText ?su_NoStrike_Known ?su_NoStrike_NoNumber ?su_NoStrike_NoPlace ?su_NoStrike_NoStep ?su_NoStrike_NoYear ?su_NoStrike_NothingDone ?su_NoStrike_OtherDays ?su_NoYear_AllKnown ?su_NoYear_BadAnswer ?su_NoYear_BadLine ?su_NoYear_BadRun ?su_NoYear_BadText ?su_NoYear_Known ?su_NoYear_NoNumber ?su_NoYear_NoPlace ?su_NoYear_NoStep ?su_NoYear_NoStrike ?su_NoYear_NothingDone ?su_NoYear_OtherDays ?su_NothingDone_AllKnown ?su_NothingDone_BadAnswer ?su_NothingDone_BadLine ?su_NothingDone_BadRun ?su_NothingDone_BadText ?su_NothingDone_Known ?su_NothingDone_NoNumber ?su_NothingDone_NoPlace ?su_NothingDone_NoStep ?su_NothingDone_NoStrike ?su_NothingDone_NoYear ?su_NothingDone_OtherDays ?su_OtherDays_AllKnown ?su_OtherDays_BadAnswer ?su_OtherDays_BadLine ?su_OtherDays_BadRun ?su_OtherDays_BadText ?su_OtherDays_Known ?su_OtherDays_NoNumber ?su_OtherDays_NoPlace ?su_OtherDays_NoStep ?su_OtherDays_NoStrike ?su_OtherDays_NoYear ?su_OtherDays_NothingDone ?lk_AllKnown ?lk_BadAnswer ?lk_BadLine ?lk_BadRun ?lk_BadText ?lk_Known ?lk_NoNumber ?lk_NoPlace ?lk_NoStep ?lk_NoStrike ?lk_NoYear ?lk_NothingDone ?lk_OtherDays ?aB_ButtError ?eB_ButtError ?iB_ButtError ?tB_ButtError ?uB_AllKnown_ButtError ?uB_BadAnswer_ButtError ?uB_BadLine_ButtError ?uB_BadRun_ButtError ?uB_BadText_ButtError ?uB_Known_ButtError ?uB_NoNumber_ButtError ?uB_NoPlace_ButtError ?uB_NoStep_ButtError ?uB_NoStrike_ButtError ?uB_NoYear_ButtError ?uB_NothingDone_ButtError ?uB_OtherDays_ButtError   ?y0 ?y1 ?y2 ?y3 ?y4 ?y5 ?y6 ?y7 ?y8 ?y9 ?y10 ?y11 ?y12 ?y13
    (case aC_BadAnswer => k_is); (case xL_BadAnswer => k_is); (case sa_BadAnswer => k_is); (case ga_BadAnswer => k_is); (case gg_BadAnswer => k_is); (case nb_BadAnswer => k_is); (case ai_BadAnswer => k_is); (case ti_BadAnswer => k_is); (case li_BadAnswer => k_is); (case ci_BadAnswer => k_is); (case ki_BadAnswer => k_is); (case kC_BadAnswer => k_is); (case eC_BadAnswer => k_is); (case tC_BadAnswer => k_is); (case hC_BadAnswer => k_is); (case iC_BadAnswer => k_is); (case sC_BadAnswer => first | rfl | k_is)
    (case aC_BadLine => k_is); (case xL_BadLine => k_is); (case sa_BadLine => k_is); (case ga_BadLine => k_is); (case gg_BadLine => k_is); (case nb_BadLine => k_is); (case ai_BadLine => k_is); (case ti_BadLine => k_is); (case li_BadLine => k_is); (case ci_BadLine => k_is); (case ki_BadLine => k_is); (case kC_BadLine => k_is); (case eC_BadLine => k_is); (case tC_BadLine => k_is); (case hC_BadLine => k_is); (case iC_BadLine => k_is); (case sC_BadLine => first | rfl | k_is)
    (case aC_BadRun => k_is); (case xL_BadRun => k_is); (case sa_BadRun => k_is); (case ga_BadRun => k_is); (case gg_BadRun => k_is); (case nb_BadRun => k_is); (case ai_BadRun => k_is); (case ti_BadRun => k_is); (case li_BadRun => k_is); (case ci_BadRun => k_is); (case ki_BadRun => k_is); (case kC_BadRun => k_is); (case eC_BadRun => k_is); (case tC_BadRun => k_is); (case hC_BadRun => k_is); (case iC_BadRun => k_is); (case sC_BadRun => first | rfl | k_is)
    (case aC_BadText => k_is); (case xL_BadText => k_is); (case sa_BadText => k_is); (case ga_BadText => k_is); (case gg_BadText => k_is); (case nb_BadText => k_is); (case ai_BadText => k_is); (case ti_BadText => k_is); (case li_BadText => k_is); (case ci_BadText => k_is); (case ki_BadText => k_is); (case kC_BadText => k_is); (case eC_BadText => k_is); (case tC_BadText => k_is); (case hC_BadText => k_is); (case iC_BadText => k_is); (case sC_BadText => first | rfl | k_is)
    (case aC_Known => k_is); (case xL_Known => k_is); (case sa_Known => k_is); (case ga_Known => k_is); (case gg_Known => k_is); (case nb_Known => k_is); (case ai_Known => k_is); (case ti_Known => k_is); (case li_Known => k_is); (case ci_Known => k_is); (case ki_Known => k_is); (case kC_Known => k_is); (case eC_Known => k_is); (case tC_Known => k_is); (case hC_Known => k_is); (case iC_Known => k_is); (case sC_Known => first | rfl | k_is)
    (case aC_NoNumber => k_is); (case xL_NoNumber => k_is); (case sa_NoNumber => k_is); (case ga_NoNumber => k_is); (case gg_NoNumber => k_is); (case nb_NoNumber => k_is); (case ai_NoNumber => k_is); (case ti_NoNumber => k_is); (case li_NoNumber => k_is); (case ci_NoNumber => k_is); (case ki_NoNumber => k_is); (case kC_NoNumber => k_is); (case eC_NoNumber => k_is); (case tC_NoNumber => k_is); (case hC_NoNumber => k_is); (case iC_NoNumber => k_is); (case sC_NoNumber => first | rfl | k_is)
    (case aC_NoPlace => k_is); (case xL_NoPlace => k_is); (case sa_NoPlace => k_is); (case ga_NoPlace => k_is); (case gg_NoPlace => k_is); (case nb_NoPlace => k_is); (case ai_NoPlace => k_is); (case ti_NoPlace => k_is); (case li_NoPlace => k_is); (case ci_NoPlace => k_is); (case ki_NoPlace => k_is); (case kC_NoPlace => k_is); (case eC_NoPlace => k_is); (case tC_NoPlace => k_is); (case hC_NoPlace => k_is); (case iC_NoPlace => k_is); (case sC_NoPlace => first | rfl | k_is)
    (case aC_NoStep => k_is); (case xL_NoStep => k_is); (case sa_NoStep => k_is); (case ga_NoStep => k_is); (case gg_NoStep => k_is); (case nb_NoStep => k_is); (case ai_NoStep => k_is); (case ti_NoStep => k_is); (case li_NoStep => k_is); (case ci_NoStep => k_is); (case ki_NoStep => k_is); (case kC_NoStep => k_is); (case eC_NoStep => k_is); (case tC_NoStep => k_is); (case hC_NoStep => k_is); (case iC_NoStep => k_is); (case sC_NoStep => first | rfl | k_is)
    (case aC_NoStrike => k_is); (case xL_NoStrike => k_is); (case sa_NoStrike => k_is); (case ga_NoStrike => k_is); (case gg_NoStrike => k_is); (case nb_NoStrike => k_is); (case ai_NoStrike => k_is); (case ti_NoStrike => k_is); (case li_NoStrike => k_is); (case ci_NoStrike => k_is); (case ki_NoStrike => k_is); (case kC_NoStrike => k_is); (case eC_NoStrike => k_is); (case tC_NoStrike => k_is); (case hC_NoStrike => k_is); (case iC_NoStrike => k_is); (case sC_NoStrike => first | rfl | k_is)
    (case aC_NoYear => k_is); (case xL_NoYear => k_is); (case sa_NoYear => k_is); (case ga_NoYear => k_is); (case gg_NoYear => k_is); (case nb_NoYear => k_is); (case ai_NoYear => k_is); (case ti_NoYear => k_is); (case li_NoYear => k_is); (case ci_NoYear => k_is); (case ki_NoYear => k_is); (case kC_NoYear => k_is); (case eC_NoYear => k_is); (case tC_NoYear => k_is); (case hC_NoYear => k_is); (case iC_NoYear => k_is); (case sC_NoYear => first | rfl | k_is)
    (case aC_AllKnown => k_is); (case q0_AllKnown => k_exc); (case kC_AllKnown => k_is); (case ga_AllKnown => k_is); (case gg_AllKnown => k_is); (case eC_AllKnown => k_is); (case tC_AllKnown => k_is); (case iC_AllKnown => k_is); (case sC_AllKnown => k_is)
    (case aC_NothingDone => k_is); (case q0_NothingDone => k_exc); (case kC_NothingDone => k_is); (case ga_NothingDone => k_is); (case gg_NothingDone => k_is); (case eC_NothingDone => k_is); (case tC_NothingDone => k_is); (case iC_NothingDone => k_is); (case sC_NothingDone => k_is)
    (case aC_OtherDays => k_is); (case q0_OtherDays => k_exc); (case kC_OtherDays => k_is); (case ga_OtherDays => k_is); (case gg_OtherDays => k_is); (case eC_OtherDays => k_is); (case tC_OtherDays => k_is); (case iC_OtherDays => k_is); (case sC_OtherDays => k_is)
    (case cl_AllKnown => k_is); (case sp_AllKnown => k_is); (case tk_AllKnown => k_is); (case mr_AllKnown => k_is); (case ve_AllKnown => k_is)
    (case cl_BadAnswer => k_is); (case sp_BadAnswer => k_is); (case tk_BadAnswer => k_is); (case mr_BadAnswer => k_is); (case ve_BadAnswer => k_is)
    (case cl_BadLine => k_is); (case sp_BadLine => k_is); (case tk_BadLine => k_is); (case mr_BadLine => k_is); (case ve_BadLine => k_is)
    (case cl_BadRun => k_is); (case sp_BadRun => k_is); (case tk_BadRun => k_is); (case mr_BadRun => k_is); (case ve_BadRun => k_is)
    (case cl_BadText => k_is); (case sp_BadText => k_is); (case tk_BadText => k_is); (case mr_BadText => k_is); (case ve_BadText => k_is)
    (case cl_Known => k_is); (case sp_Known => k_is); (case tk_Known => k_is); (case mr_Known => k_is); (case ve_Known => k_is)
    (case cl_NoNumber => k_is); (case sp_NoNumber => k_is); (case tk_NoNumber => k_is); (case mr_NoNumber => k_is); (case ve_NoNumber => k_is)
    (case cl_NoPlace => k_is); (case sp_NoPlace => k_is); (case tk_NoPlace => k_is); (case mr_NoPlace => k_is); (case ve_NoPlace => k_is)
    (case cl_NoStep => k_is); (case sp_NoStep => k_is); (case tk_NoStep => k_is); (case mr_NoStep => k_is); (case ve_NoStep => k_is)
    (case cl_NoStrike => k_is); (case sp_NoStrike => k_is); (case tk_NoStrike => k_is); (case mr_NoStrike => k_is); (case ve_NoStrike => k_is)
    (case cl_NoYear => k_is); (case sp_NoYear => k_is); (case tk_NoYear => k_is); (case mr_NoYear => k_is); (case ve_NoYear => k_is)
    (case cl_NothingDone => k_is); (case sp_NothingDone => k_is); (case tk_NothingDone => k_is); (case mr_NothingDone => k_is); (case ve_NothingDone => k_is)
    (case cl_OtherDays => k_is); (case sp_OtherDays => k_is); (case tk_OtherDays => k_is); (case mr_OtherDays => k_is); (case ve_OtherDays => k_is)
    (case su_AllKnown_BadAnswer => first | k_is | rfl)
    (case su_AllKnown_BadLine => first | k_is | rfl)
    (case su_AllKnown_BadRun => first | k_is | rfl)
    (case su_AllKnown_BadText => first | k_is | rfl)
    (case su_AllKnown_Known => first | k_is | rfl)
    (case su_AllKnown_NoNumber => first | k_is | rfl)
    (case su_AllKnown_NoPlace => first | k_is | rfl)
    (case su_AllKnown_NoStep => first | k_is | rfl)
    (case su_AllKnown_NoStrike => first | k_is | rfl)
    (case su_AllKnown_NoYear => first | k_is | rfl)
    (case su_AllKnown_NothingDone => first | k_is | rfl)
    (case su_AllKnown_OtherDays => first | k_is | rfl)
    (case su_BadAnswer_AllKnown => first | k_is | rfl)
    (case su_BadAnswer_BadLine => first | k_is | rfl)
    (case su_BadAnswer_BadRun => first | k_is | rfl)
    (case su_BadAnswer_BadText => first | k_is | rfl)
    (case su_BadAnswer_Known => first | k_is | rfl)
    (case su_BadAnswer_NoNumber => first | k_is | rfl)
    (case su_BadAnswer_NoPlace => first | k_is | rfl)
    (case su_BadAnswer_NoStep => first | k_is | rfl)
    (case su_BadAnswer_NoStrike => first | k_is | rfl)
    (case su_BadAnswer_NoYear => first | k_is | rfl)
    (case su_BadAnswer_NothingDone => first | k_is | rfl)
    (case su_BadAnswer_OtherDays => first | k_is | rfl)
    (case su_BadLine_AllKnown => first | k_is | rfl)
    (case su_BadLine_BadAnswer => first | k_is | rfl)
    (case su_BadLine_BadRun => first | k_is | rfl)
    (case su_BadLine_BadText => first | k_is | rfl)
    (case su_BadLine_Known => first | k_is | rfl)
    (case su_BadLine_NoNumber => first | k_is | rfl)
    (case su_BadLine_NoPlace => first | k_is | rfl)
    (case su_BadLine_NoStep => first | k_is | rfl)
    (case su_BadLine_NoStrike => first | k_is | rfl)
    (case su_BadLine_NoYear => first | k_is | rfl)
    (case su_BadLine_NothingDone => first | k_is | rfl)
    (case su_BadLine_OtherDays => first | k_is | rfl)
    (case su_BadRun_AllKnown => first | k_is | rfl)
    (case su_BadRun_BadAnswer => first | k_is | rfl)
    (case su_BadRun_BadLine => first | k_is | rfl)
    (case su_BadRun_BadText => first | k_is | rfl)
    (case su_BadRun_Known => first | k_is | rfl)
    (case su_BadRun_NoNumber => first | k_is | rfl)
    (case su_BadRun_NoPlace => first | k_is | rfl)
    (case su_BadRun_NoStep => first | k_is | rfl)
    (case su_BadRun_NoStrike => first | k_is | rfl)
    (case su_BadRun_NoYear => first | k_is | rfl)
    (case su_BadRun_NothingDone => first | k_is | rfl)
    (case su_BadRun_OtherDays => first | k_is | rfl)
    (case su_BadText_AllKnown => first | k_is | rfl)
    (case su_BadText_BadAnswer => first | k_is | rfl)
    (case su_BadText_BadLine => first | k_is | rfl)
    (case su_BadText_BadRun => first | k_is | rfl)
    (case su_BadText_Known => first | k_is | rfl)
    (case su_BadText_NoNumber => first | k_is | rfl)
    (case su_BadText_NoPlace => first | k_is | rfl)
    (case su_BadText_NoStep => first | k_is | rfl)
    (case su_BadText_NoStrike => first | k_is | rfl)
    (case su_BadText_NoYear => first | k_is | rfl)
    (case su_BadText_NothingDone => first | k_is | rfl)
    (case su_BadText_OtherDays => first | k_is | rfl)
    (case su_Known_AllKnown => first | k_is | rfl)
    (case su_Known_BadAnswer => first | k_is | rfl)
    (case su_Known_BadLine => first | k_is | rfl)
    (case su_Known_BadRun => first | k_is | rfl)
    (case su_Known_BadText => first | k_is | rfl)
    (case su_Known_NoNumber => first | k_is | rfl)
    (case su_Known_NoPlace => first | k_is | rfl)
    (case su_Known_NoStep => first | k_is | rfl)
    (case su_Known_NoStrike => first | k_is | rfl)
    (case su_Known_NoYear => first | k_is | rfl)
    (case su_Known_NothingDone => first | k_is | rfl)
    (case su_Known_OtherDays => first | k_is | rfl)
    (case su_NoNumber_AllKnown => first | k_is | rfl)
    (case su_NoNumber_BadAnswer => first | k_is | rfl)
    (case su_NoNumber_BadLine => first | k_is | rfl)
    (case su_NoNumber_BadRun => first | k_is | rfl)
    (case su_NoNumber_BadText => first | k_is | rfl)
    (case su_NoNumber_Known => first | k_is | rfl)
    (case su_NoNumber_NoPlace => first | k_is | rfl)
    (case su_NoNumber_NoStep => first | k_is | rfl)
    (case su_NoNumber_NoStrike => first | k_is | rfl)
    (case su_NoNumber_NoYear => first | k_is | rfl)
    (case su_NoNumber_NothingDone => first | k_is | rfl)
    (case su_NoNumber_OtherDays => first | k_is | rfl)
    (case su_NoPlace_AllKnown => first | k_is | rfl)
    (case su_NoPlace_BadAnswer => first | k_is | rfl)
    (case su_NoPlace_BadLine => first | k_is | rfl)
    (case su_NoPlace_BadRun => first | k_is | rfl)
    (case su_NoPlace_BadText => first | k_is | rfl)
    (case su_NoPlace_Known => first | k_is | rfl)
    (case su_NoPlace_NoNumber => first | k_is | rfl)
    (case su_NoPlace_NoStep => first | k_is | rfl)
    (case su_NoPlace_NoStrike => first | k_is | rfl)
    (case su_NoPlace_NoYear => first | k_is | rfl)
    (case su_NoPlace_NothingDone => first | k_is | rfl)
    (case su_NoPlace_OtherDays => first | k_is | rfl)
    (case su_NoStep_AllKnown => first | k_is | rfl)
    (case su_NoStep_BadAnswer => first | k_is | rfl)
    (case su_NoStep_BadLine => first | k_is | rfl)
    (case su_NoStep_BadRun => first | k_is | rfl)
    (case su_NoStep_BadText => first | k_is | rfl)
    (case su_NoStep_Known => first | k_is | rfl)
    (case su_NoStep_NoNumber => first | k_is | rfl)
    (case su_NoStep_NoPlace => first | k_is | rfl)
    (case su_NoStep_NoStrike => first | k_is | rfl)
    (case su_NoStep_NoYear => first | k_is | rfl)
    (case su_NoStep_NothingDone => first | k_is | rfl)
    (case su_NoStep_OtherDays => first | k_is | rfl)
    (case su_NoStrike_AllKnown => first | k_is | rfl)
    (case su_NoStrike_BadAnswer => first | k_is | rfl)
    (case su_NoStrike_BadLine => first | k_is | rfl)
    (case su_NoStrike_BadRun => first | k_is | rfl)
    (case su_NoStrike_BadText => first | k_is | rfl)
    (case su_NoStrike_Known => first | k_is | rfl)
    (case su_NoStrike_NoNumber => first | k_is | rfl)
    (case su_NoStrike_NoPlace => first | k_is | rfl)
    (case su_NoStrike_NoStep => first | k_is | rfl)
    (case su_NoStrike_NoYear => first | k_is | rfl)
    (case su_NoStrike_NothingDone => first | k_is | rfl)
    (case su_NoStrike_OtherDays => first | k_is | rfl)
    (case su_NoYear_AllKnown => first | k_is | rfl)
    (case su_NoYear_BadAnswer => first | k_is | rfl)
    (case su_NoYear_BadLine => first | k_is | rfl)
    (case su_NoYear_BadRun => first | k_is | rfl)
    (case su_NoYear_BadText => first | k_is | rfl)
    (case su_NoYear_Known => first | k_is | rfl)
    (case su_NoYear_NoNumber => first | k_is | rfl)
    (case su_NoYear_NoPlace => first | k_is | rfl)
    (case su_NoYear_NoStep => first | k_is | rfl)
    (case su_NoYear_NoStrike => first | k_is | rfl)
    (case su_NoYear_NothingDone => first | k_is | rfl)
    (case su_NoYear_OtherDays => first | k_is | rfl)
    (case su_NothingDone_AllKnown => first | k_is | rfl)
    (case su_NothingDone_BadAnswer => first | k_is | rfl)
    (case su_NothingDone_BadLine => first | k_is | rfl)
    (case su_NothingDone_BadRun => first | k_is | rfl)
    (case su_NothingDone_BadText => first | k_is | rfl)
    (case su_NothingDone_Known => first | k_is | rfl)
    (case su_NothingDone_NoNumber => first | k_is | rfl)
    (case su_NothingDone_NoPlace => first | k_is | rfl)
    (case su_NothingDone_NoStep => first | k_is | rfl)
    (case su_NothingDone_NoStrike => first | k_is | rfl)
    (case su_NothingDone_NoYear => first | k_is | rfl)
    (case su_NothingDone_OtherDays => first | k_is | rfl)
    (case su_OtherDays_AllKnown => first | k_is | rfl)
    (case su_OtherDays_BadAnswer => first | k_is | rfl)
    (case su_OtherDays_BadLine => first | k_is | rfl)
    (case su_OtherDays_BadRun => first | k_is | rfl)
    (case su_OtherDays_BadText => first | k_is | rfl)
    (case su_OtherDays_Known => first | k_is | rfl)
    (case su_OtherDays_NoNumber => first | k_is | rfl)
    (case su_OtherDays_NoPlace => first | k_is | rfl)
    (case su_OtherDays_NoStep => first | k_is | rfl)
    (case su_OtherDays_NoStrike => first | k_is | rfl)
    (case su_OtherDays_NoYear => first | k_is | rfl)
    (case su_OtherDays_NothingDone => first | k_is | rfl)
    (case lk_AllKnown => first | k_is | rfl); (case lk_BadAnswer => first | k_is | rfl); (case lk_BadLine => first | k_is | rfl); (case lk_BadRun => first | k_is | rfl); (case lk_BadText => first | k_is | rfl); (case lk_Known => first | k_is | rfl); (case lk_NoNumber => first | k_is | rfl); (case lk_NoPlace => first | k_is | rfl); (case lk_NoStep => first | k_is | rfl); (case lk_NoStrike => first | k_is | rfl); (case lk_NoYear => first | k_is | rfl); (case lk_NothingDone => first | k_is | rfl); (case lk_OtherDays => first | k_is | rfl); (case aB_ButtError => first | k_is | rfl); (case eB_ButtError => first | k_is | rfl); (case iB_ButtError => first | k_is | rfl); (case tB_ButtError => first | k_is | rfl); (case uB_AllKnown_ButtError => first | k_is | rfl); (case uB_BadAnswer_ButtError => first | k_is | rfl); (case uB_BadLine_ButtError => first | k_is | rfl); (case uB_BadRun_ButtError => first | k_is | rfl); (case uB_BadText_ButtError => first | k_is | rfl); (case uB_Known_ButtError => first | k_is | rfl); (case uB_NoNumber_ButtError => first | k_is | rfl); (case uB_NoPlace_ButtError => first | k_is | rfl); (case uB_NoStep_ButtError => first | k_is | rfl); (case uB_NoStrike_ButtError => first | k_is | rfl); (case uB_NoYear_ButtError => first | k_is | rfl); (case uB_NothingDone_ButtError => first | k_is | rfl); (case uB_OtherDays_ButtError => first | k_is | rfl)
    (case a0 => k_is); (case l0 => k_is); (case c0 => k_is); (case k0 => k_is)
    (case a1 => k_is); (case l1 => k_is); (case c1 => k_is); (case k1 => k_is)
    (case a2 => k_is); (case l2 => k_is); (case c2 => k_is); (case k2 => k_is)
    (case a3 => k_is); (case l3 => k_is); (case c3 => k_is); (case k3 => k_is)
    (case a4 => k_is); (case l4 => k_is); (case c4 => k_is); (case k4 => k_is)
    (case a5 => k_is); (case l5 => k_is); (case c5 => k_is); (case k5 => k_is)
    (case a6 => k_is); (case l6 => k_is); (case c6 => k_is); (case k6 => k_is)
    (case a7 => k_is); (case l7 => k_is); (case c7 => k_is); (case k7 => k_is)
    (case y0 => k_is); (case y1 => k_is); (case y2 => k_is); (case y3 => k_is); (case y4 => k_is); (case y5 => k_is); (case y6 => k_is); (case y7 => k_is); (case y8 => k_is); (case y9 => k_is); (case y10 => k_is); (case y11 => k_is); (case y12 => k_is); (case y13 => k_is)
