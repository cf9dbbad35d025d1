import PyProof.Rows.All
import Wide.All
import OpenK.AllK
import Wide.FinOn
import HandS.ForMost
import HandS.Flow
import HandS.Evl
import HandS.IsInst
import HandS.FStr
import HandS.SortKw
import HandS.SortInts
import HandS.StrMore
import HandS.Wide
import HandS.Zip
import HandS.TupAny
import HandS.ExcInit
import HandS.Walk
import KE.KSortedM
import HandS.Defaults
import PyProof.StrOps2
import HandS.Style
import HandS.NoneIn
import HandS.TupMul
import KE.KxField
import HandS.ExcValue
import HandS.WordsExc
import HandS.Replace
import HandS.ReplaceLit
import HandS.ReplaceList
import PyProof.StrLawsChain
import HandS.Property
import KE.GoesEnum
import KE.GoesMore
import KE.KTupSum
import HandS.Conv
import KE.GoesNew
import KE.GoesZip
import HandS.WideBits
import PyProof.Claim2Refuses
import KE.DatumOrd
import KE.KDictZip
import HandS.OwnEq
import PyProof.InstSpecial
import HandS.SetFor
import HandS.Strs
import KE.DataMinMax
import KE.KExcIs
import PyProof.Rows.CatchTuple
import KE.KTryMore
import HandS.Small
import HandS.Codes
import HandS.RevRange
import HandS.ForDict
import HandS.More
import PySem.Challenge.RW_allbutts_k08_years_as_texts
set_option Elab.async false
set_option linter.all false
set_option maxRecDepth 100000
set_option maxHeartbeats 40000000
/-! DL: what pure code evaluates to, told by data. O: the addresses whose objects may change (a law's box, a list that grows). -/
namespace DL
open PySem L2 Evl
/-- the heap without the objects at O -/
def sub (H : Hp) (O : List Addr) : Hp := fun a => if a ∈ O then none else H a
theorem sub_nil (H : Hp) : sub H [] = H := by
  funext a
  unfold sub
  rw [if_neg (by simp)]
theorem sub_of {H : Hp} {O : List Addr} {a : Addr} {o : HO} (h : sub H O a = some o) : H a = some o ∧ a ∉ O := by
  unfold sub at h
  by_cases e : a ∈ O
  · rw [if_pos e] at h
    cases h
  · rw [if_neg e] at h
    exact ⟨h, e⟩
theorem sub_mk {H : Hp} {O : List Addr} {a : Addr} {o : HO} (h : H a = some o) (n : a ∉ O) : sub H O a = some o := by
  unfold sub
  rw [if_neg n]
  exact h
/-- what was tracked outside O stands -/
def ExO (O : List Addr) (H H' : Hp) : Prop := Ex (sub H O) (sub H' O)
theorem Ex.o {H H' : Hp} (O : List Addr) (e : Ex H H') : ExO O H H' := fun a o h => by
  obtain ⟨h1, h2⟩ := sub_of h
  exact sub_mk (e a o h1) h2
theorem ExO.trans {O : List Addr} {H H1 H2 : Hp} (a : ExO O H H1) (b : ExO O H1 H2) : ExO O H H2 := Ex.trans a b
theorem ExO.refl (O : List Addr) (H : Hp) : ExO O H H := Ex.refl _
theorem ExO.at {O : List Addr} {H H' : Hp} (e : ExO O H H') {a : Addr} {o : HO} (h : H a = some o) (n : a ∉ O) : H' a = some o := (sub_of (e a o (sub_mk h n))).1
/-- an object of O changes -/
theorem ExO.upd {O : List Addr} {H : Hp} {a : Addr} {o : HO} (h : a ∈ O) : ExO O H (upd H a o) := fun b u e => by
  obtain ⟨h1, h2⟩ := sub_of e
  refine sub_mk ?_ h2
  rw [upd_ne (fun z => h2 (by rw [z]; exact h))]
  exact h1
/-- a smaller O -/
theorem ExO.less {O P : List Addr} {H H' : Hp} (e : ExO O H H') (k : ∀ a, a ∈ O → a ∈ P) : ExO P H H' := fun a o h => by
  obtain ⟨h1, h2⟩ := sub_of h
  exact sub_mk (e.at h1 (fun z => h2 (k a z))) h2

/-- an exception held as a value: its class and its own dict -/
def exk (a : Addr) (cls : Value) (d : Option Addr) : HO := .ext fun h => ∃ oe : Obj, h.get? a = some oe ∧ Zc cls d oe ∧ ∃ vs, oe.data = .fields vs
/-! ### data, all of it tracked -/
/-- a key as data -/
def keyD : Key → PyData
  | .inl i => .int i
  | .inr x => .str x
theorem keyD_inj : ∀ {j k : Key}, keyD j = keyD k → j = k
  | .inl _, .inl _, h => by cases h; rfl
  | .inr _, .inr _, h => by cases h; rfl
  | .inl _, .inr _, h => by cases h
  | .inr _, .inl _, h => by cases h
mutual
inductive Dq (H : Hp) : V → PyData → Prop
  | non : Dq H .non .none
  | bl (b : Bool) : Dq H (.bl b) (.bool b)
  | int (i : Int) : Dq H (.int i) (.int i)
  | str (x : Str) : Dq H (.str x) (.str x)
  | lst {a : Addr} {xs : List V} {ds : List PyData} : H a = some (.lst xs) → DqAll H xs ds → Dq H (.ref a) (.list ds)
  | tup {a : Addr} {xs : List V} {ds : List PyData} : H a = some (.tup xs) → DqAll H xs ds → Dq H (.ref a) (.tuple ds)
  | ob {a C dx : Addr} {fs : List (Str × V)} {ks : List (PyData × PyData)} : H a = some (.ins C dx fs) → DqF H fs ks → Dq H (.ref a) (.dict ((.int (C : Int), .none) :: ks))
  | exo {a C dx : Addr} {fs : List (Str × V)} {ks : List (PyData × PyData)} : H a = some (exk a (.ref C) (some dx)) → H dx = some (.xd fs) → DqF H fs ks → Dq H (.ref a) (.dict ((.str "error", .int (C : Int)) :: ks))
  | exn {a C : Addr} : H a = some (exk a (.ref C) none) → Dq H (.ref a) (.dict [(.str "error", .int (C : Int)), (.none, .none)])
  | dic {a : Addr} {kvs : List (Key × V)} {ks : List (PyData × PyData)} : Rd H a (.dK kvs) → DqK H kvs ks → Dq H (.ref a) (.dict ((PyData.none, PyData.none) :: ks))
inductive DqK (H : Hp) : List (Key × V) → List (PyData × PyData) → Prop
  | nil : DqK H [] []
  | cons {k : Key} {x : PyData} {v : V} {kvs : List (Key × V)} {d : PyData} {ks : List (PyData × PyData)} : x = keyD k → Dq H v d → DqK H kvs ks → DqK H ((k, v) :: kvs) ((x, d) :: ks)
inductive DqF (H : Hp) : List (Str × V) → List (PyData × PyData) → Prop
  | nil : DqF H [] []
  | cons {f : Str} {v : V} {fs : List (Str × V)} {d : PyData} {ks : List (PyData × PyData)} : Dq H v d → DqF H fs ks → DqF H ((f, v) :: fs) ((.str f, d) :: ks)
inductive DqAll (H : Hp) : List V → List PyData → Prop
  | nil : DqAll H [] []
  | cons {v : V} {vs : List V} {d : PyData} {ds : List PyData} : Dq H v d → DqAll H vs ds → DqAll H (v :: vs) (d :: ds)
end
mutual
theorem Dq.mono {H H' : Hp} (e : Ex H H') : ∀ {v : V} {d : PyData}, Dq H v d → Dq H' v d
  | _, _, .non => .non
  | _, _, .bl b => .bl b
  | _, _, .int i => .int i
  | _, _, .str x => .str x
  | _, _, .lst h k => .lst (e _ _ h) (DqAll.mono e k)
  | _, _, .tup h k => .tup (e _ _ h) (DqAll.mono e k)
  | _, _, .ob h k => .ob (e _ _ h) (DqF.mono e k)
  | _, _, .exo h h2 k => .exo (e _ _ h) (e _ _ h2) (DqF.mono e k)
  | _, _, .exn h => .exn (e _ _ h)
  | _, _, .dic h k => .dic (h.imp (e _ _) fun ⟨o, h⟩ => ⟨o, e _ _ h⟩) (DqK.mono e k)
theorem DqK.mono {H H' : Hp} (e : Ex H H') : ∀ {fs : List (Key × V)} {ks : List (PyData × PyData)}, DqK H fs ks → DqK H' fs ks
  | _, _, .nil => .nil
  | _, _, .cons q h k => .cons q (Dq.mono e h) (DqK.mono e k)
theorem DqF.mono {H H' : Hp} (e : Ex H H') : ∀ {fs : List (Str × V)} {ks : List (PyData × PyData)}, DqF H fs ks → DqF H' fs ks
  | _, _, .nil => .nil
  | _, _, .cons h k => .cons (Dq.mono e h) (DqF.mono e k)
theorem DqAll.mono {H H' : Hp} (e : Ex H H') : ∀ {vs : List V} {ds : List PyData}, DqAll H vs ds → DqAll H' vs ds
  | _, _, .nil => .nil
  | _, _, .cons h k => .cons (Dq.mono e h) (DqAll.mono e k)
end
mutual
theorem Dq.dp {K : PySem.W.Frag} {H : Hp} : ∀ {v : V} {d : PyData}, Dq H v d → d.canLay0 = true → Dp K H v d
  | _, _, .non, _ => .non
  | _, _, .bl b, _ => .bl b
  | _, _, .int i, _ => .int i
  | _, _, .str x, _ => .str x
  | _, _, .lst h k, c => .lst (sq_of h) (DqAll.dp k c)
  | _, _, .tup h k, c => .tup (st_of h) (DqAll.dp k c)
  | _, _, .ob _ _, c => Bool.noConfusion c
  | _, _, .dic _ _, c => Bool.noConfusion c
theorem DqAll.dp {K : PySem.W.Frag} {H : Hp} : ∀ {vs : List V} {ds : List PyData}, DqAll H vs ds → PyData.canLayAll0 ds = true → DpAll K H vs ds
  | _, _, .nil, _ => .nil
  | _, _, .cons h k, c => .cons (Dq.dp h (Bool.and_eq_true_iff.mp c).1) (DqAll.dp k (Bool.and_eq_true_iff.mp c).2)
end
theorem ex_sub (H : Hp) (O : List Addr) : Ex (sub H O) H := fun _ _ h => (sub_of h).1
theorem Dq.up {H : Hp} {O : List Addr} {v : V} {d : PyData} (h : Dq (sub H O) v d) : Dq H v d := h.mono (ex_sub H O)
theorem DqAll.up {H : Hp} {O : List Addr} {v : List V} {d : List PyData} (h : DqAll (sub H O) v d) : DqAll H v d := h.mono (ex_sub H O)
theorem DqAll.length {H : Hp} : ∀ {vs : List V} {ds : List PyData}, DqAll H vs ds → vs.length = ds.length
  | _, _, .nil => rfl
  | _, _, .cons _ k => congrArg Nat.succ k.length
theorem DqAll.get {H : Hp} : ∀ {vs : List V} {ds : List PyData} {i : Nat} {d : PyData}, DqAll H vs ds → ds[i]? = some d → ∃ v, vs[i]? = some v ∧ Dq H v d
  | _, _, _, _, .nil, e => by simp at e
  | _, _, 0, _, .cons h _, e => by
    simp at e
    subst e
    exact ⟨_, rfl, h⟩
  | _, _, i + 1, d, .cons _ k, e => by
    obtain ⟨v, h1, h2⟩ := k.get (i := i) (d := d) (by simpa using e)
    exact ⟨v, by simpa using h1, h2⟩
theorem DqAll.getV {H : Hp} : ∀ {vs : List V} {ds : List PyData} {i : Nat} {v : V}, DqAll H vs ds → vs[i]? = some v → ∃ d, ds[i]? = some d ∧ Dq H v d
  | _, _, _, _, .nil, e => by simp at e
  | _, _, 0, _, .cons h _, e => by
    simp at e
    subst e
    exact ⟨_, rfl, h⟩
  | _, _, i + 1, d, .cons _ k, e => by
    obtain ⟨v, h1, h2⟩ := k.getV (i := i) (v := d) (by simpa using e)
    exact ⟨v, by simpa using h1, h2⟩
theorem DqAll.append {H : Hp} : ∀ {vs ws : List V} {ds es : List PyData}, DqAll H vs ds → DqAll H ws es → DqAll H (vs ++ ws) (ds ++ es)
  | _, _, _, _, .nil, k => k
  | _, _, _, _, .cons h r, k => .cons h (r.append k)
theorem DqAll.take {H : Hp} : ∀ {vs : List V} {ds : List PyData} (n : Nat), DqAll H vs ds → DqAll H (vs.take n) (ds.take n)
  | _, _, 0, _ => by simpa using DqAll.nil
  | _, _, _ + 1, .nil => .nil
  | _, _, n + 1, .cons h k => .cons h (k.take n)
theorem DqAll.drop {H : Hp} : ∀ {vs : List V} {ds : List PyData} (n : Nat), DqAll H vs ds → DqAll H (vs.drop n) (ds.drop n)
  | _, _, 0, h => h
  | _, _, _ + 1, .nil => .nil
  | _, _, n + 1, .cons _ k => k.drop n
theorem DqAll.reverse {H : Hp} : ∀ {vs : List V} {ds : List PyData}, DqAll H vs ds → DqAll H vs.reverse ds.reverse
  | _, _, .nil => .nil
  | _, _, .cons h k => by
    rw [List.reverse_cons, List.reverse_cons]
    exact k.reverse.append (.cons h .nil)
theorem DqAll.flat {H : Hp} {vs : List V} {ds : List PyData} (h : DqAll H vs ds) : ∀ n : Nat, DqAll H (List.replicate n vs).flatten (List.replicate n ds).flatten
  | 0 => .nil
  | n + 1 => by
    rw [List.replicate_succ, List.replicate_succ, List.flatten_cons, List.flatten_cons]
    exact h.append (h.flat n)
/-- ints, texts, truths as data -/
def dI (ns : List Int) : List PyData := ns.map PyData.int
def dS (xs : List Str) : List PyData := xs.map PyData.str
def dB (bs : List Bool) : List PyData := bs.map PyData.bool
theorem dq_ints {H : Hp} : ∀ (ns : List Int), DqAll H (ns.map V.int) (dI ns)
  | [] => .nil
  | n :: ns => .cons (.int n) (dq_ints ns)
theorem dq_strs {H : Hp} : ∀ (ns : List Str), DqAll H (ns.map V.str) (dS ns)
  | [] => .nil
  | n :: ns => .cons (.str n) (dq_strs ns)
theorem ints_dq {H : Hp} : ∀ {ns : List Int} {vs : List V}, DqAll H vs (dI ns) → vs = ns.map V.int
  | [], _, h => by
    cases h
    rfl
  | n :: ns, _, h => by
    cases h with
    | cons h k =>
      cases h
      rw [ints_dq k]
      rfl
theorem strs_dq {H : Hp} : ∀ {ns : List Str} {vs : List V}, DqAll H vs (dS ns) → vs = ns.map V.str
  | [], _, h => by
    cases h
    rfl
  | n :: ns, _, h => by
    cases h with
    | cons h k =>
      cases h
      rw [strs_dq k]
      rfl
theorem bools_dq {H : Hp} : ∀ {ns : List Bool} {vs : List V}, DqAll H vs (dB ns) → vs = ns.map V.bl
  | [], _, h => by
    cases h
    rfl
  | n :: ns, _, h => by
    cases h with
    | cons h k =>
      cases h
      rw [bools_dq k]
      rfl

/-! ### slots -/
abbrev Rho := List (Option PyData)
/-- the slots hold such data; all of O is tracked -/
structure SD (O : List Addr) (H : Hp) (σ : L2.St) (ρ : Rho) : Prop where
  own : ∀ a, a ∈ O → H a ≠ none
  at' : ∀ (i : Nat) (d : PyData), ρ[i]? = some (some d) → ∃ v, σ[i]? = some (some v) ∧ Dq (sub H O) v d
theorem SD.mono {O : List Addr} {H H' : Hp} {σ : L2.St} {ρ : Rho} (s : SD O H σ ρ) (e : ExO O H H') (k : ∀ a, a ∈ O → H' a ≠ none) : SD O H' σ ρ :=
  ⟨k, fun i d h => by
    obtain ⟨v, h1, h2⟩ := s.at' i d h
    exact ⟨v, h1, h2.mono e⟩⟩
theorem own_ex {O : List Addr} {H H' : Hp} (e : Ex H H') (h : ∀ a, a ∈ O → H a ≠ none) : ∀ a, a ∈ O → H' a ≠ none := fun a ha z => by
  have q := h a ha
  cases r : H a with
  | none => exact q r
  | some o =>
    rw [e a o r] at z
    cases z
theorem SD.ex {O : List Addr} {H H' : Hp} {σ : L2.St} {ρ : Rho} (s : SD O H σ ρ) (e : Ex H H') : SD O H' σ ρ := s.mono (Ex.o O e) (own_ex e s.own)
theorem SD.set {O : List Addr} {H : Hp} {σ : L2.St} {ρ : Rho} {i : Nat} {v : V} {d : PyData} (s : SD O H σ ρ) (h : Dq (sub H O) v d) (hl : i < σ.length) : SD O H (σ.set i (some v)) (ρ.set i (some d)) :=
  ⟨s.own, fun j e hj => by
    by_cases z : i = j
    · subst z
      have hb : i < ρ.length := by
        have q := (List.getElem?_eq_some_iff.mp hj).1
        rw [List.length_set] at q
        exact q
      rw [List.getElem?_set_self hb] at hj
      cases hj
      exact ⟨v, List.getElem?_set_self hl, h⟩
    · rw [List.getElem?_set_ne z] at hj
      obtain ⟨w, h1, h2⟩ := s.at' j e hj
      exact ⟨w, by rw [List.getElem?_set_ne z]; exact h1, h2⟩⟩
theorem not_own {O : List Addr} {H : Hp} {p : Addr} (h : ∀ a, a ∈ O → H a ≠ none) (hp : H p = none) : p ∉ O := fun z => h p z hp

/-! ### expressions -/
section
variable (O : List Addr)
def EvD (n : Nat) (te : TE) (ρ : Rho) (d : PyData) : Prop := ∀ (σ : L2.St) (H : Hp), σ.length = n → SD O H σ ρ → ∀ Q : VK, (∀ v H', Ex H H' → Dq (sub H' O) v d → Q v H') → te σ H Q
def EvDA (n : Nat) (ta : TA) (ρ : Rho) (ds : List PyData) : Prop := ∀ (σ : L2.St) (H : Hp), σ.length = n → SD O H σ ρ → ∀ Q : List V → Hp → Prop, (∀ vs H', Ex H H' → DqAll (sub H' O) vs ds → Q vs H') → ta σ H Q
def EvDT (n : Nat) (tt : TT) (ρ : Rho) (b : Bool) : Prop := ∀ (σ : L2.St) (H : Hp), σ.length = n → SD O H σ ρ → ∀ Q : Bool → Hp → Prop, (∀ H', Ex H H' → Q b H') → tt σ H Q
/-- an operation on values -/
def RD (r : R2) (x y z : PyData) : Prop := ∀ (H : Hp) (v w : V), (∀ a, a ∈ O → H a ≠ none) → Dq (sub H O) v x → Dq (sub H O) w y → ∀ Q : VK, (∀ u H', Ex H H' → Dq (sub H' O) u z → Q u H') → r v w H Q
def RDC (r : List V → Hp → VK → Prop) (xs : List PyData) (z : PyData) : Prop := ∀ (H : Hp) (vs : List V), (∀ a, a ∈ O → H a ≠ none) → DqAll (sub H O) vs xs → ∀ Q : VK, (∀ u H', Ex H H' → Dq (sub H' O) u z → Q u H') → r vs H Q
end
section
variable {O : List Addr} {n : Nat} {ρ : Rho} {ta tb te : TE} {x y z d : PyData} {r : R2} {K : PySem.W.Frag} {t u : TT}
theorem ed_is (h : EvD O n te ρ d) (e : d = x) : EvD O n te ρ x := e ▸ h
theorem ed_var {i : Nat} (h : ρ[i]? = some (some d)) : EvD O n (tVar i) ρ d := fun σ H _ s Q q => by
  obtain ⟨v, h1, h2⟩ := s.at' i d h
  exact ⟨v, h1, q v H (Ex.refl H) h2⟩
theorem ed_int {i : Int} : EvD O n (tC (.int i)) ρ (.int i) := fun σ H _ s Q q => q _ H (Ex.refl H) (.int i)
theorem ed_str {i : Str} : EvD O n (tC (.str i)) ρ (.str i) := fun σ H _ s Q q => q _ H (Ex.refl H) (.str i)
theorem ed_bl {i : Bool} : EvD O n (tC (.bl i)) ρ (.bool i) := fun σ H _ s Q q => q _ H (Ex.refl H) (.bl i)
theorem ed_non : EvD O n (tC .non) ρ .none := fun σ H _ s Q q => q _ H (Ex.refl H) .non
theorem ed_op (ha : EvD O n ta ρ x) (hb : EvD O n tb ρ y) (hr : RD O r x y z) : EvD O n (tOp r ta tb) ρ z := fun σ H hn s Q q =>
  ha σ H hn s _ fun v H1 e1 d1 => hb σ H1 hn (s.ex e1) _ fun w H2 e2 d2 => hr H2 v w (own_ex (e1.trans e2) s.own) (d1.mono (Ex.o O e2)) d2 Q fun u H3 e3 d3 => q u H3 ((e1.trans e2).trans e3) d3
theorem ed_neg {i : Int} (ha : EvD O n ta ρ (.int i)) : EvD O n (tUn (rU fun i => .int (-i)) ta) ρ (.int (-i)) := fun σ H hn s Q q =>
  ha σ H hn s _ fun v H1 e1 d1 => by
    cases d1
    exact ⟨i, rfl, q _ H1 e1 (.int _)⟩
theorem ea_nil : EvDA O n tNil ρ [] := fun σ H _ s Q q => q _ H (Ex.refl H) .nil
theorem ea_cons {tr : TA} {xs : List PyData} (ha : EvD O n ta ρ x) (hr : EvDA O n tr ρ xs) : EvDA O n (tCons ta tr) ρ (x :: xs) := fun σ H hn s Q q =>
  ha σ H hn s _ fun v H1 e1 d1 => hr σ H1 hn (s.ex e1) _ fun vs H2 e2 d2 => q _ H2 (e1.trans e2) (.cons (d1.mono (Ex.o O e2)) d2)
theorem ed_tup {tr : TA} {xs : List PyData} (hr : EvDA O n tr ρ xs) (hl : xs.length ≤ 100000) : EvD O n (tTup tr) ρ (.tuple xs) := fun σ H hn s Q q =>
  hr σ H hn s _ fun vs H1 e1 d1 => ⟨by rw [d1.length]; exact sz_of hl, fun p hp => q _ _ (e1.trans (Ex.new hp)) (.tup (sub_mk upd_same (not_own (own_ex e1 s.own) hp)) (d1.mono (Ex.o O (Ex.new hp))))⟩
theorem ed_lst {tr : TA} {xs : List PyData} (hr : EvDA O n tr ρ xs) (hl : xs.length ≤ 100000) : EvD O n (tLst tr) ρ (.list xs) := fun σ H hn s Q q =>
  hr σ H hn s _ fun vs H1 e1 d1 => ⟨by rw [d1.length]; exact sz_of hl, fun p hp => q _ _ (e1.trans (Ex.new hp)) (.lst (sub_mk upd_same (not_own (own_ex e1 s.own) hp)) (d1.mono (Ex.o O (Ex.new hp))))⟩
theorem ed_cb {r : List V → Hp → VK → Prop} {tr : TA} {xs : List PyData} (hr : EvDA O n tr ρ xs) (h : RDC O r xs z) : EvD O n (tCB r tr) ρ z := fun σ H hn s Q q =>
  hr σ H hn s _ fun vs H1 e1 d1 => h H1 vs (own_ex e1 s.own) d1 Q fun u H2 e2 d2 => q u H2 (e1.trans e2) d2
/-! operations -/
theorem rd_add {i j : Int} : RD O (rI0 fun i j => .int (i + j)) (.int i) (.int j) (.int (i + j)) := fun H v w _ h1 h2 Q q => by
  cases h1; cases h2
  exact ⟨i, j, rfl, rfl, q _ H (Ex.refl H) (.int _)⟩
theorem rd_sub {i j : Int} : RD O (rI0 fun i j => .int (i - j)) (.int i) (.int j) (.int (i - j)) := fun H v w _ h1 h2 Q q => by
  cases h1; cases h2
  exact ⟨i, j, rfl, rfl, q _ H (Ex.refl H) (.int _)⟩
theorem rd_I {C : Int → Int → Prop} {g : Int → Int → Int} {i j : Int} (hc : C i j) : RD O (rI C fun i j => .int (g i j)) (.int i) (.int j) (.int (g i j)) := fun H v w _ h1 h2 Q q => by
  cases h1; cases h2
  exact ⟨i, j, rfl, rfl, hc, q _ H (Ex.refl H) (.int _)⟩
theorem rd_B {g : Int → Int → Bool} {i j : Int} : RD O (rI0 fun i j => .bl (g i j)) (.int i) (.int j) (.bool (g i j)) := fun H v w _ h1 h2 Q q => by
  cases h1; cases h2
  exact ⟨i, j, rfl, rfl, q _ H (Ex.refl H) (.bl _)⟩
/-- texts put together -/
theorem rd_cats {i j : Str} (h : i.length + j.length ≤ 100000) : RD O (fun x y H Q => ∃ i j, x = .str i ∧ y = .str j ∧ i.length + j.length ≤ sizeLine ∧ Q (.str (i ++ j)) H) (.str i) (.str j) (.str (i ++ j)) := fun H v w _ h1 h2 Q q => by
  cases h1; cases h2
  exact ⟨i, j, rfl, rfl, sz_of h, q _ H (Ex.refl H) (.str _)⟩
/-- lists put together -/
theorem rd_catl {xs ys : List PyData} (h : xs.length + ys.length ≤ 100000) : RD O rCat (.list xs) (.list ys) (.list (xs ++ ys)) := fun H v w ho h1 h2 Q q => by
  cases h1 with
  | lst a1 k1 =>
    cases h2 with
    | lst a2 k2 =>
      exact ⟨_, _, _, _, rfl, rfl, (sub_of a1).1, (sub_of a2).1, by rw [k1.length, k2.length]; exact sz_of h, fun p hp => q _ _ (Ex.new hp) (.lst (sub_mk upd_same (not_own ho hp)) ((k1.append k2).mono (Ex.o O (Ex.new hp))))⟩
/-- a list so many times -/
theorem rd_repl {xs : List PyData} {k : Int} (h : xs.length * k.toNat ≤ 100000) (h1 : 0 ≤ k) (h2 : k ≤ 100000) : RD O rRep (.list xs) (.int k) (.list (List.replicate k.toNat xs).flatten) := fun H v w ho a b Q q => by
  cases a with
  | lst a1 k1 =>
    cases b
    exact ⟨_, _, _, rfl, rfl, (sub_of a1).1, by omega, by omega, by rw [k1.length]; exact sz_of h, fun p hp => q _ _ (Ex.new hp) (.lst (sub_mk upd_same (not_own ho hp)) ((k1.flat _).mono (Ex.o O (Ex.new hp))))⟩
/-- deep == and != -/
theorem rd_eqD (hx : SeqAt.shaped x = true) (hy : SeqAt.shaped y = true) : RD O (rEqD K) x y (.bool (PyData.eqv x y)) := fun H v w _ h1 h2 Q q =>
  ⟨x, y, h1.up.dp (SeqAt.canLay_of_shaped hx), h2.up.dp (SeqAt.canLay_of_shaped hy), hx, hy, q _ H (Ex.refl H) (.bl _)⟩
theorem rd_neD (hx : SeqAt.shaped x = true) (hy : SeqAt.shaped y = true) : RD O (rNeD K) x y (.bool (!PyData.eqv x y)) := fun H v w _ h1 h2 Q q =>
  ⟨x, y, h1.up.dp (SeqAt.canLay_of_shaped hx), h2.up.dp (SeqAt.canLay_of_shaped hy), hx, hy, q _ H (Ex.refl H) (.bl _)⟩
/-- is None, is not None -/
theorem rd_isN : RD O (fun x y H Q => y = .non ∧ Q (.bl (decide (x = .non))) H) x .none (.bool (match x with | .none => true | _ => false)) := fun H v w _ h1 h2 Q q => by
  cases h2
  refine ⟨rfl, q _ H (Ex.refl H) ?_⟩
  cases h1 <;> exact .bl _
/-! tests -/
theorem et_test {b : Bool} (h : EvD O n te ρ (.bool b)) : EvDT O n (tTest te) ρ b := fun σ H hn s Q q => h σ H hn s _ fun v H1 e1 d1 => by
  cases d1
  exact ⟨b, rfl, q H1 e1⟩
theorem et_B {b : Bool} (h : EvD O n te ρ (.bool b)) : EvDT O n (tB te) ρ b := fun σ H hn s Q q => h σ H hn s _ fun v H1 e1 d1 => by
  cases d1
  exact ⟨b, rfl, q H1 e1⟩
theorem et_not {b : Bool} (h : EvDT O n t ρ b) : EvDT O n (tNot t) ρ (!b) := fun σ H hn s Q q => h σ H hn s _ fun H1 e1 => q H1 e1
theorem et_and {a b : Bool} (h1 : EvDT O n t ρ a) (h2 : a = true → EvDT O n u ρ b) : EvDT O n (tAnd t u) ρ (a && b) := fun σ H hn s Q q => h1 σ H hn s _ fun H1 e1 => by
  cases a with
  | true => exact h2 rfl σ H1 hn (s.ex e1) Q fun H2 e2 => q H2 (e1.trans e2)
  | false => exact q H1 e1
theorem et_or {a b : Bool} (h1 : EvDT O n t ρ a) (h2 : a = false → EvDT O n u ρ b) : EvDT O n (tOr t u) ρ (a || b) := fun σ H hn s Q q => h1 σ H hn s _ fun H1 e1 => by
  cases a with
  | false => exact h2 rfl σ H1 hn (s.ex e1) Q fun H2 e2 => q H2 (e1.trans e2)
  | true => exact q H1 e1
theorem et_is {a b : Bool} (h : EvDT O n t ρ a) (e : a = b) : EvDT O n t ρ b := e ▸ h
theorem ed_andV {a b : Bool} (h1 : EvD O n ta ρ (.bool a)) (h2 : a = true → EvD O n tb ρ (.bool b)) : EvD O n (tAndV ta tb) ρ (.bool (a && b)) := fun σ H hn s Q q => h1 σ H hn s _ fun v H1 e1 d1 => by
  cases d1
  refine ⟨a, rfl, ?_⟩
  cases a with
  | true => exact h2 rfl σ H1 hn (s.ex e1) Q fun v H2 e2 d2 => q v H2 (e1.trans e2) d2
  | false => exact q _ H1 e1 (.bl _)
theorem ed_orV {a b : Bool} (h1 : EvD O n ta ρ (.bool a)) (h2 : a = false → EvD O n tb ρ (.bool b)) : EvD O n (tOrV ta tb) ρ (.bool (a || b)) := fun σ H hn s Q q => h1 σ H hn s _ fun v H1 e1 d1 => by
  cases d1
  refine ⟨a, rfl, ?_⟩
  cases a with
  | false => exact h2 rfl σ H1 hn (s.ex e1) Q fun v H2 e2 d2 => q v H2 (e1.trans e2) d2
  | true => exact q _ H1 e1 (.bl _)
theorem ed_notV {a : Bool} (h1 : EvD O n ta ρ (.bool a)) : EvD O n (tNotV ta) ρ (.bool (!a)) := fun σ H hn s Q q => h1 σ H hn s _ fun v H1 e1 d1 => by
  cases d1
  exact ⟨a, rfl, q _ H1 e1 (.bl _)⟩
theorem ed_if {b : Bool} (h : EvDT O n t ρ b) (h1 : b = true → EvD O n ta ρ d) (h2 : b = false → EvD O n tb ρ d) : EvD O n (tIf t ta tb) ρ d := fun σ H hn s Q q => h σ H hn s _ fun H1 e1 => by
  cases b with
  | true => exact h1 rfl σ H1 hn (s.ex e1) Q fun v H2 e2 d2 => q v H2 (e1.trans e2) d2
  | false => exact h2 rfl σ H1 hn (s.ex e1) Q fun v H2 e2 d2 => q v H2 (e1.trans e2) d2
end
end DL
namespace DL
open PySem L2 Evl
/-! ### wiped slots -/
theorem wipe_get {σ : L2.St} {i : Nat} : ∀ {vs : List Nat}, i ∈ vs → i < σ.length → (L2.wipe σ vs)[i]? = some none
  | [], h, _ => by cases h
  | v :: vs, h, hl => by
    unfold L2.wipe
    by_cases e : v = i
    · subst e
      rw [List.getElem?_set_self (by rw [L2.wipe_length]; exact hl)]
    · rw [List.getElem?_set_ne e]
      rcases List.mem_cons.mp h with z | z
      · exact absurd z.symm e
      · exact wipe_get z hl
theorem wipe_ext {σ τ : L2.St} {vs : List Nat} (hl : τ.length = σ.length) (h : ∀ i, i ∉ vs → τ[i]? = σ[i]?) : L2.wipe τ vs = L2.wipe σ vs := by
  refine List.ext_getElem? fun i => ?_
  by_cases hi : i ∈ vs
  · by_cases hs : i < σ.length
    · rw [wipe_get hi hs, wipe_get hi (by omega)]
    · rw [List.getElem?_eq_none (by rw [L2.wipe_length]; omega), List.getElem?_eq_none (by rw [L2.wipe_length]; omega)]
  · rw [L2.wipe_out hi, L2.wipe_out hi, h i hi]
/-- the same of data -/
def wipeR (ρ : Rho) : List Nat → Rho
  | [] => ρ
  | v :: vs => (wipeR ρ vs).set v none
theorem SD.forget {O : List Addr} {H : Hp} {σ : L2.St} {ρ : Rho} {i : Nat} {o : Option V} (s : SD O H σ ρ) : SD O H (σ.set i o) (ρ.set i none) :=
  ⟨s.own, fun j e hj => by
    by_cases z : i = j
    · subst z
      have hb : i < ρ.length := by
        have q := (List.getElem?_eq_some_iff.mp hj).1
        rw [List.length_set] at q
        exact q
      rw [List.getElem?_set_self hb] at hj
      cases hj
    · rw [List.getElem?_set_ne z] at hj
      obtain ⟨w, h1, h2⟩ := s.at' j e hj
      exact ⟨w, by rw [List.getElem?_set_ne z]; exact h1, h2⟩⟩
theorem SD.wipe {O : List Addr} {H : Hp} {σ : L2.St} {ρ : Rho} (s : SD O H σ ρ) : ∀ vs : List Nat, SD O H (L2.wipe σ vs) (wipeR ρ vs)
  | [] => s
  | v :: vs => (s.wipe vs).forget

/-! ### statements -/
section
variable (O : List Addr)
def RunR (n : Nat) (t : TS) (ρ : Rho) (d : PyData) : Prop := ∀ (D : Ends) (σ : L2.St) (H : Hp), σ.length = n → SD O H σ ρ → (∀ v H', Ex H H' → Dq (sub H' O) v d → D.rt v H') → t D σ H
def RunN (n : Nat) (t : TS) (ρ ρ' : Rho) : Prop := ∀ (D : Ends) (σ : L2.St) (H : Hp), σ.length = n → SD O H σ ρ → (∀ σ' H', σ'.length = n → Ex H H' → SD O H' σ' ρ' → D.nx σ' H') → t D σ H
/-- a target that takes a datum; only slots in vs change -/
def TgD (n : Nat) (vs : List Nat) (g : TG) (ρ : Rho) (d : PyData) (ρ' : Rho) : Prop := ∀ (σ : L2.St) (H : Hp) (v : V), σ.length = n → SD O H σ ρ → Dq (sub H O) v d → ∀ Q : L2.St → Hp → Prop,
  (∀ σ', σ'.length = n → (∀ i, i ∉ vs → σ'[i]? = σ[i]?) → SD O H σ' ρ' → Q σ' H) → g v σ H Q
/-- what is walked: data -/
def IterD (n : Nat) (wi : TI) (ρ : Rho) (ds : List PyData) : Prop := ∀ (σ : L2.St) (H : Hp), σ.length = n → SD O H σ ρ → ∀ R : It → Hp → Prop,
  (∀ (J : It) (H1 : Hp) (G : List Addr → Hp → Prop) (Y : Nat → Hp → V → Hp → Prop), Ex H H1 → (∀ P, Walk J ds.length (G P) Y) → G O H1 → (∀ P P' H2 H3, G P H2 → Ex (sub H2 P) (sub H3 P') → G P' H3) →
    (∀ P i H2 x H3, i < ds.length → (∀ a, a ∈ P → H2 a ≠ none) → G P H2 → Y i H2 x H3 → Ex H2 H3 ∧ ∃ d, ds[i]? = some d ∧ Dq (sub H3 P) x d) → R J H1) → wi σ H R
end
section
variable {O : List Addr} {n : Nat} {ρ ρ1 ρ' : Rho} {ta tb te : TE} {x y z d : PyData} {r : R2} {K : PySem.W.Frag} {t u w : TS} {tt : TT} {g : TG} {i j : Nat} {ds es : List PyData} {wi : TI} {vs : List Nat}
theorem rn_asg (h : EvD O n te ρ d) (hi : i < n) : RunN O n (tAsg te (gName i)) ρ (ρ.set i (some d)) := fun D σ H hn s k =>
  h σ H hn s _ fun v H1 e1 d1 => k _ H1 (by rw [List.length_set]; exact hn) e1 ((s.ex e1).set d1 (by omega))
theorem rn_asgG (h : EvD O n te ρ d) (hg : TgD O n vs g ρ d ρ') : RunN O n (tAsg te g) ρ ρ' := fun D σ H hn s k =>
  h σ H hn s _ fun v H1 e1 d1 => hg σ H1 v hn (s.ex e1) d1 _ fun σ' hl _ s' => k σ' H1 hl e1 s'
theorem rn_par (h : EvDA O n ta' ρ [x, y]) (hi : i < n) (hj : j < n) : RunN O n (tPar i j ta') ρ ((ρ.set i (some x)).set j (some y)) := fun D σ H hn s k =>
  h σ H hn s _ fun vs H1 e1 d1 => by
    cases d1 with
    | cons a1 k1 =>
      cases k1 with
      | cons a2 k2 =>
        cases k2
        exact ⟨_, _, rfl, k _ H1 (by rw [List.length_set, List.length_set]; exact hn) e1 (((s.ex e1).set a1 (by omega)).set a2 (by rw [List.length_set]; omega))⟩
theorem rn_seq (h1 : RunN O n t ρ ρ1) (h2 : RunN O n u ρ1 ρ') : RunN O n (tSeq t u) ρ ρ' := fun D σ H hn s k =>
  h1 _ σ H hn s fun σ1 H1 hn1 e1 s1 => h2 D σ1 H1 hn1 s1 fun σ2 H2 hn2 e2 s2 => k σ2 H2 hn2 (e1.trans e2) s2
theorem rr_seq (h1 : RunN O n t ρ ρ1) (h2 : RunR O n u ρ1 d) : RunR O n (tSeq t u) ρ d := fun D σ H hn s k =>
  h1 _ σ H hn s fun σ1 H1 hn1 e1 s1 => h2 D σ1 H1 hn1 s1 fun v H2 e2 d2 => k v H2 (e1.trans e2) d2
/-- what comes behind a return -/
theorem rr_fst (h1 : RunR O n t ρ d) : RunR O n (tSeq t u) ρ d := fun D σ H hn s k => h1 _ σ H hn s k
theorem rr_ret (h : EvD O n te ρ d) : RunR O n (tRet te) ρ d := fun D σ H hn s k => h σ H hn s _ k
theorem rn_next : RunN O n tNext ρ ρ := fun D σ H hn s k => k σ H hn (Ex.refl H) s
theorem rn_drop (h : EvD O n te ρ d) : RunN O n (tDrop te) ρ ρ := fun D σ H hn s k => h σ H hn s _ fun v H1 e1 _ => k σ H1 hn e1 (s.ex e1)
theorem rr_if {b : Bool} (h : EvDT O n tt ρ b) (h1 : b = true → RunR O n t ρ d) (h2 : b = false → RunR O n u ρ d) : RunR O n (tIfS tt t u) ρ d := fun D σ H hn s k => h σ H hn s _ fun H1 e1 => by
  cases b with
  | true => exact h1 rfl D σ H1 hn (s.ex e1) fun v H2 e2 d2 => k v H2 (e1.trans e2) d2
  | false => exact h2 rfl D σ H1 hn (s.ex e1) fun v H2 e2 d2 => k v H2 (e1.trans e2) d2
theorem rn_if {b : Bool} (h : EvDT O n tt ρ b) (h1 : b = true → RunN O n t ρ ρ') (h2 : b = false → RunN O n u ρ ρ') : RunN O n (tIfS tt t u) ρ ρ' := fun D σ H hn s k => h σ H hn s _ fun H1 e1 => by
  cases b with
  | true => exact h1 rfl D σ H1 hn (s.ex e1) fun v H2 hn2 e2 d2 => k v H2 hn2 (e1.trans e2) d2
  | false => exact h2 rfl D σ H1 hn (s.ex e1) fun v H2 hn2 e2 d2 => k v H2 hn2 (e1.trans e2) d2
/-- if c: return ..; the rest -/
theorem rr_when {b : Bool} (h : EvDT O n tt ρ b) (h1 : b = true → RunR O n t ρ d) (h2 : b = false → RunR O n w ρ d) : RunR O n (tSeq (tIfS tt t tNext) w) ρ d := fun D σ H hn s k => h σ H hn s _ fun H1 e1 => by
  cases b with
  | true => exact h1 rfl _ σ H1 hn (s.ex e1) fun v H2 e2 d2 => k v H2 (e1.trans e2) d2
  | false => exact h2 rfl D σ H1 hn (s.ex e1) fun v H2 e2 d2 => k v H2 (e1.trans e2) d2
/-! targets -/
theorem tg_name (hi : i < n) (hv : i ∈ vs) : TgD O n vs (gName i) ρ d (ρ.set i (some d)) := fun σ H v hn s h Q q =>
  q _ (by rw [List.length_set]; exact hn) (fun k hk => List.getElem?_set_ne (fun e => hk (by rw [← e]; exact hv))) (s.set h (by omega))
/-- several targets, one datum each -/
inductive TgsD (O : List Addr) (n : Nat) (vs : List Nat) : TGs → Rho → List PyData → Rho → Prop
  | nil {ρ : Rho} : TgsD O n vs gNil ρ [] ρ
  | cons {g : TG} {gs : TGs} {ρ ρ1 ρ2 : Rho} {d : PyData} {ds : List PyData} : TgD O n vs g ρ d ρ1 → TgsD O n vs gs ρ1 ds ρ2 → TgsD O n vs (gCons g gs) ρ (d :: ds) ρ2
theorem TgsD.run {gs : TGs} (h : TgsD O n vs gs ρ ds ρ') : ∀ (σ : L2.St) (H : Hp) (us : List V), σ.length = n → SD O H σ ρ → DqAll (sub H O) us ds → ∀ Q : L2.St → Hp → Prop,
    (∀ σ', σ'.length = n → (∀ i, i ∉ vs → σ'[i]? = σ[i]?) → SD O H σ' ρ' → Q σ' H) → gs us σ H Q := by
  induction h with
  | nil =>
    intro σ H us hn s hd Q q
    cases hd
    exact ⟨rfl, q σ hn (fun _ _ => rfl) s⟩
  | cons h1 h2 ih =>
    intro σ H us hn s hd Q q
    cases hd with
    | cons a k =>
      exact ⟨_, _, rfl, h1 σ H _ hn s a _ fun σ1 l1 c1 s1 => ih σ1 H _ l1 s1 k Q fun σ2 l2 c2 s2 => q σ2 l2 (fun i hi => (c2 i hi).trans (c1 i hi)) s2⟩
theorem tg_tup {m : Nat} {gs : TGs} (h : TgsD O n vs gs ρ ds ρ') (hm : ds.length = m) : TgD O n vs (gTup K m gs) ρ (.tuple ds) ρ' := fun σ H v hn s hd Q q => by
  cases hd with
  | tup a k =>
    exact ⟨_, _, rfl, st_of (sub_of a).1, by rw [k.length]; exact hm, h.run σ H _ hn s k Q q⟩
/-! what is walked -/
theorem it_list (h : EvD O n te ρ (.list ds)) : IterD O n (iList K te) ρ ds := fun σ H hn s R q => h σ H hn s _ fun v H1 e1 d1 => by
  cases d1 with
  | @lst a xs _ ha k =>
    have hs : SqL K (sub H1 O) a xs := sq_of ha
    refine ⟨a, rfl, ⟨xs, sq_of (sub_of ha).1⟩, q (Itl K a) H1 (fun P H2 => sub H2 P a = some (.lst xs) ∧ DqAll (sub H2 P) xs ds) (YAt xs) e1 (fun P => ?_) ⟨ha, k⟩ (fun P P' H2 H3 g e => ⟨e _ _ g.1, g.2.mono e⟩) ?_⟩
    · rw [← k.length]
      exact walk_list.mono (fun H2 g => sq_of (sub_of g.1).1) fun _ _ _ _ _ _ y => y
    · rintro P i H2 x H3 _ _ ⟨g1, g2⟩ ⟨rfl, hx⟩
      obtain ⟨d, h1, h2⟩ := g2.getV hx
      exact ⟨Ex.refl _, d, h1, h2⟩
theorem it_tup (h : EvD O n te ρ (.tuple ds)) : IterD O n (iTup K te) ρ ds := fun σ H hn s R q => h σ H hn s _ fun v H1 e1 d1 => by
  cases d1 with
  | @tup a xs _ ha k =>
    refine ⟨a, rfl, ⟨xs, st_of (sub_of ha).1⟩, q (Itt K a) H1 (fun P H2 => sub H2 P a = some (.tup xs) ∧ DqAll (sub H2 P) xs ds) (YAt xs) e1 (fun P => ?_) ⟨ha, k⟩ (fun P P' H2 H3 g e => ⟨e _ _ g.1, g.2.mono e⟩) ?_⟩
    · rw [← k.length]
      exact walk_tup.mono (fun H2 g => st_of (sub_of g.1).1) fun _ _ _ _ _ _ y => y
    · rintro P i H2 x H3 _ _ ⟨g1, g2⟩ ⟨rfl, hx⟩
      obtain ⟨d, h1, h2⟩ := g2.getV hx
      exact ⟨Ex.refl _, d, h1, h2⟩
def rngD (m : Nat) : List PyData := (List.range m).map fun i => PyData.int (i : Nat)
theorem it_rng {ta' : TA} {m : Nat} (h : EvDA O n ta' ρ [.int (m : Nat)]) (hm : m ≤ 1000000) : IterD O n (iRng1 ta') ρ (rngD m) := fun σ H hn s R q => h σ H hn s _ fun vs H1 e1 d1 => by
  cases d1 with
  | cons a k =>
    cases a
    cases k
    refine ⟨(m : Int), rfl, by omega, by omega, ?_⟩
    have e : ((m : Int)).toNat = m := by omega
    rw [e]
    have l : (rngD m).length = m := by
      unfold rngD
      rw [List.length_map, List.length_range]
    refine q (Itr 0 m) H1 (fun _ _ => True) (YFn fun i => .int (0 + (i : Nat))) e1 (fun P => ?_) True.intro (fun _ _ _ _ _ _ => True.intro) ?_
    · rw [l]
      exact walk_range.mono (fun _ _ => True.intro) fun i H2 x H3 hi _ y => ⟨y.1, y.2⟩
    · rintro P i H2 x H3 hi _ _ ⟨rfl, rfl⟩
      rw [l] at hi
      refine ⟨Ex.refl _, .int (i : Nat), ?_, ?_⟩
      · unfold rngD
        rw [List.getElem?_map, List.getElem?_range hi]
        rfl
      · show Dq _ (V.int (0 + ((i : Nat) : Int))) _
        rw [Int.zero_add]
        exact .int _
/-- pairs made on the way -/
theorem pair_new {O : List Addr} {H H' : Hp} {T : Addr} {x y : V} {d e : PyData} (ho : ∀ a, a ∈ O → H a ≠ none) (hT : H T = none) (hH : H' = upd H T (.tup [x, y])) (h1 : Dq (sub H O) x d) (h2 : Dq (sub H O) y e) : Ex H H' ∧ Dq (sub H' O) (.ref T) (.tuple [d, e]) := by
  subst hH
  have e0 : Ex H (upd H T (.tup [x, y])) := Ex.new hT
  exact ⟨e0, .tup (sub_mk upd_same (not_own ho hT)) (.cons (h1.mono (Ex.o O e0)) (.cons (h2.mono (Ex.o O e0)) .nil))⟩
def enumD (ds : List PyData) : List PyData := (List.range ds.length).zipWith (fun (i : Nat) d => PyData.tuple [.int (i : Int), d]) ds
theorem it_enum (h : EvD O n te ρ (.list ds)) : IterD O n (iEnum K (tCons te tNil)) ρ (enumD ds) := fun σ H hn s R q => h σ H hn s _ fun v H1 e1 d1 => by
  cases d1 with
  | @lst a xs _ ha k =>
    have l : (enumD ds).length = ds.length := by
      unfold enumD
      rw [List.length_zipWith, List.length_range, Nat.min_self]
    refine ⟨a, xs, rfl, sq_of (sub_of ha).1, q (Ite K a) H1 (fun P H2 => sub H2 P a = some (.lst xs) ∧ DqAll (sub H2 P) xs ds) (YPair (fun i => some (.int (i : Nat))) (fun i => xs[i]?)) e1 (fun P => ?_) ⟨ha, k⟩ (fun P P' H2 H3 g e => ⟨e _ _ g.1, g.2.mono e⟩) ?_⟩
    · rw [l, ← k.length]
      exact walk_enum.mono (fun H2 g => sq_of (sub_of g.1).1) fun _ _ _ _ _ _ y => y
    · rintro P i H2 x H3 hi ho ⟨g1, g2⟩ ⟨T, x1, x2, rfl, hT, hH, q1, q2⟩
      rw [l] at hi
      obtain ⟨d, h1, h2⟩ := g2.getV q2
      cases q1
      obtain ⟨a1, a2⟩ := pair_new ho hT hH (.int (i : Nat)) h2
      refine ⟨a1, _, ?_, a2⟩
      unfold enumD
      rw [List.getElem?_zipWith, List.getElem?_range hi, h1]
def zipD (ds es : List PyData) : List PyData := ds.zipWith (fun d e => PyData.tuple [d, e]) es
theorem it_zip (h : EvD O n ta ρ (.list ds)) (h' : EvD O n tb ρ (.list es)) : IterD O n (iZip K (tCons ta (tCons tb tNil))) ρ (zipD ds es) := fun σ H hn s R q => h σ H hn s _ fun v H1 e1 d1 => h' σ H1 hn (s.ex e1) _ fun v' H2 e2 d2 => by
  cases d1 with
  | @lst a xs _ ha k =>
    cases d2 with
    | @lst b ys _ hb k' =>
      have l : (zipD ds es).length = min ds.length es.length := by
        unfold zipD
        rw [List.length_zipWith]
      have ha2 : sub H2 O a = some (.lst xs) := (Ex.o O e2) _ _ ha
      refine ⟨a, b, xs, ys, rfl, sq_of (sub_of ha2).1, sq_of (sub_of hb).1, q (Itz K a b) H2 (fun P H3 => (sub H3 P a = some (.lst xs) ∧ DqAll (sub H3 P) xs ds) ∧ (sub H3 P b = some (.lst ys) ∧ DqAll (sub H3 P) ys es)) (YPair (fun i => xs[i]?) (fun i => ys[i]?)) (e1.trans e2) (fun P => ?_)
        ⟨⟨ha2, k.mono (Ex.o O e2)⟩, ⟨hb, k'⟩⟩ (fun P P' H3 H4 g e => ⟨⟨e _ _ g.1.1, g.1.2.mono e⟩, ⟨e _ _ g.2.1, g.2.2.mono e⟩⟩) ?_⟩
      · rw [l, ← k.length, ← k'.length]
        exact (walk_zip rfl).mono (fun H3 g => ⟨sq_of (sub_of g.1.1).1, sq_of (sub_of g.2.1).1⟩) fun _ _ _ _ _ _ y => y
      · rintro P i H3 x H4 hi ho ⟨⟨g1, g2⟩, g3, g4⟩ ⟨T, x1, x2, rfl, hT, hH, q1, q2⟩
        obtain ⟨d, h1, h2⟩ := g2.getV q1
        obtain ⟨d', h1', h2'⟩ := g4.getV q2
        obtain ⟨a1, a2⟩ := pair_new ho hT hH h2 h2'
        refine ⟨a1, _, ?_, a2⟩
        unfold zipD
        rw [List.getElem?_zipWith, h1, h1']

/-! ### comprehensions -/
/-- item by item -/
inductive All2 (P : PyData → PyData → Prop) : List PyData → List PyData → Prop
  | nil : All2 P [] []
  | cons {d e : PyData} {ds es : List PyData} : P d e → All2 P ds es → All2 P (d :: ds) (e :: es)
theorem All2.length {P : PyData → PyData → Prop} : ∀ {ds es : List PyData}, All2 P ds es → ds.length = es.length
  | _, _, .nil => rfl
  | _, _, .cons _ k => congrArg Nat.succ k.length
theorem All2.get {P : PyData → PyData → Prop} : ∀ {ds es : List PyData} {i : Nat} {d : PyData}, All2 P ds es → ds[i]? = some d → ∃ e, es[i]? = some e ∧ P d e
  | _, _, _, _, .nil, h => by simp at h
  | _, _, 0, _, .cons p _, h => by
    simp at h
    subst h
    exact ⟨_, rfl, p⟩
  | _, _, i + 1, d, .cons _ k, h => by
    obtain ⟨e, h1, h2⟩ := k.get (i := i) (d := d) (by simpa using h)
    exact ⟨e, by simpa using h1, h2⟩
theorem All2.mapf {P : PyData → PyData → Prop} {f : PyData → PyData} : ∀ {ds : List PyData}, (∀ d, d ∈ ds → P d (f d)) → All2 P ds (ds.map f)
  | [], _ => .nil
  | d :: ds, h => .cons (h d (List.mem_cons_self ..)) (All2.mapf fun e he => h e (List.mem_cons_of_mem _ he))
/-- over values of some type, as data -/
theorem All2.of {α : Type} {P : PyData → PyData → Prop} {f g : α → PyData} : ∀ {l : List α}, (∀ a, a ∈ l → P (f a) (g a)) → All2 P (l.map f) (l.map g)
  | [], _ => .nil
  | a :: l, h => .cons (h a (List.mem_cons_self ..)) (All2.of fun e he => h e (List.mem_cons_of_mem _ he))
theorem take_snoc {α : Type} {l : List α} {i : Nat} {e : α} (h : l[i]? = some e) : l.take (i + 1) = l.take i ++ [e] := by
  rw [List.take_add_one, h]
  rfl
theorem ex_more {O : List Addr} {H H' : Hp} {D : Addr} (e : Ex H H') (hD : H D = none) : Ex (sub H O) (sub H' (D :: O)) := fun a o h => by
  obtain ⟨h1, h2⟩ := sub_of h
  refine sub_mk (e a o h1) fun z => ?_
  rcases List.mem_cons.mp z with z | z
  · rw [z, hD] at h1
    cases h1
  · exact h2 z
theorem sub_upd {O : List Addr} {H : Hp} {D : Addr} {o : HO} (hD : D ∈ O) : sub (upd H D o) O = sub H O := by
  funext a
  unfold sub
  by_cases e : a ∈ O
  · rw [if_pos e, if_pos e]
  · rw [if_neg e, if_neg e, upd_ne (fun z => e (by rw [z]; exact hD))]
theorem ex_less {O : List Addr} {H : Hp} {D : Addr} : Ex (sub H (D :: O)) (sub H O) := fun a o h => by
  obtain ⟨h1, h2⟩ := sub_of h
  exact sub_mk h1 fun z => h2 (List.mem_cons_of_mem _ z)
theorem SD.more {O : List Addr} {H H' : Hp} {σ : L2.St} {ρ : Rho} {D : Addr} {o : HO} (s : SD O H σ ρ) (e : Ex H H') (hD : H D = none) (hD' : H' D = some o) : SD (D :: O) H' σ ρ :=
  ⟨fun a ha z => by
    rcases List.mem_cons.mp ha with q | q
    · rw [q, hD'] at z
      cases z
    · exact own_ex e s.own a q z, fun i d h => by
    obtain ⟨v, h1, h2⟩ := s.at' i d h
    exact ⟨v, h1, h2.mono (ex_more e hD)⟩⟩
/-- [e for x in ..] -/
theorem ed_lc (hw : IterD O n wi ρ ds) (hl : ds.length ≤ 100000) (h : ∀ D, All2 (fun d e => ∃ ρ', TgD (D :: O) n vs g (wipeR ρ vs) d ρ' ∧ EvD (D :: O) n te ρ' e) ds es) : EvD O n (tLc wi g tYes te vs) ρ (.list es) := fun σ H hn s Q q => hw σ H hn s _ fun J H1 G Y e1 W g1 gk yk => by
  intro D hD
  have lw : (L2.wipe σ vs).length = n := by rw [L2.wipe_length]; exact hn
  have s1 := s.ex e1
  have len := (h D).length
  refine lc_it (W (D :: O)) (fun i H2 => ∃ acc, H2 D = some (.lst acc) ∧ DqAll (sub H2 (D :: O)) acc (es.take i) ∧ Ex H1 H2) ⟨[], upd_same, by simpa using DqAll.nil, Ex.new hD⟩ ?_ ?_ ?_
  · rintro i H2 _ ⟨acc, _, _, k2⟩
    exact gk _ _ _ _ g1 (ex_more k2 hD)
  · rintro i x H2 H3 hi ⟨acc, hA, hd, k2⟩ y
    have s2 : SD (D :: O) H2 σ ρ := s1.more k2 hD hA
    obtain ⟨e3, d, hdi, hx⟩ := yk (D :: O) i H2 x H3 hi s2.own (gk _ _ _ _ g1 (ex_more k2 hD)) y
    obtain ⟨e, hei, ρ', ht, hte⟩ := (h D).get hdi
    have s3 := (s2.ex e3).wipe vs
    refine ht (L2.wipe σ vs) H3 x lw s3 hx _ fun σ' hl' hc' s' => ⟨?_, ?_⟩
    · have ew : L2.wipe (L2.wipe σ vs) vs = L2.wipe σ vs := by
        refine wipe_ext (by rw [L2.wipe_length]) fun i hi => L2.wipe_out hi
      rw [wipe_ext (by rw [hl', lw]) hc', ew]
    · show te σ' H3 _
      refine hte σ' H3 hl' s' _ fun y H4 e4 d4 => ⟨acc, e4 _ _ (e3 _ _ hA), ?_, ?_⟩
      · have q1 := hd.length
        rw [List.length_take] at q1
        exact sz_lt (by omega)
      · refine ⟨_, upd_same, ?_, Ex.mut ((k2.trans e3).trans e4) hD⟩
        rw [sub_upd (List.mem_cons_self ..), take_snoc hei]
        exact (hd.mono (Ex.o _ (e3.trans e4))).append (.cons d4 .nil)
  · rintro H2 ⟨acc, hA, hd, k2⟩
    rw [len, List.take_length] at hd
    exact q _ H2 (e1.trans k2) (.lst (sub_mk hA (not_own s1.own hD)) (hd.mono ex_less))
end
end DL
namespace DL
open PySem L2 Evl PyProof.Rows
/-! ### a pure def's promise: a relation of the arguments' data and the answer's -/
def spD (R : List PyData → PyData → Prop) : Sp := fun vs H Q _ => ∃ (O : List Addr) (ds : List PyData) (d : PyData), (∀ a, a ∈ O → H a ≠ none) ∧ DqAll (sub H O) vs ds ∧ R ds d ∧ ∀ v H', Ex H H' → Dq (sub H' O) v d → Q v H'
/-- the slots at a def's start -/
def argR (N : List Str) (ds : List PyData) : Rho := ds.map some ++ List.replicate (N.length - ds.length) none
theorem sd_start {O : List Addr} {H : Hp} {N : List Str} {vs : List V} {ds : List PyData} (ho : ∀ a, a ∈ O → H a ≠ none) (h : DqAll (sub H O) vs ds) : SD O H (L2.start N vs) (argR N ds) :=
  ⟨ho, fun i d e => by
    unfold argR at e
    by_cases hi : i < ds.length
    · rw [List.getElem?_append_left (by rw [List.length_map]; exact hi), List.getElem?_map] at e
      have q : ds[i]? = some d := by
        cases z : ds[i]? with
        | none =>
          rw [z] at e
          cases e
        | some d' =>
          rw [z] at e
          cases e
          rfl
      obtain ⟨v, h1, h2⟩ := h.get q
      refine ⟨v, ?_, h2⟩
      unfold L2.start
      have hv : i < vs.length := by rw [h.length]; exact hi
      rw [List.getElem?_append_left (by rw [List.length_map]; exact hv), List.getElem?_map, h1]
      rfl
    · rw [List.getElem?_append_right (by rw [List.length_map]; omega), List.getElem?_replicate] at e
      split at e <;> cases e⟩
theorem start_len {N : List Str} {vs : List V} (h : vs.length ≤ N.length) : (L2.start N vs).length = N.length := by
  unfold L2.start
  rw [List.length_append, List.length_map, List.length_replicate]
  omega
section
variable {P : Program} {w : World} {K : PySem.W.Frag} {mg : Str → Option Value} {base : Heap}
theorem pure_ok {R : List PyData → PyData → Prop} {x qual : Str} {st : Stmt} {f : Addr} {fd : FuncData} {N ps : List Str} {k : Nat} (F : Fun K x qual st f fd) (S : FnScope N ps (defScope st)) (hl : ∀ ds d, R ds d → ds.length = ps.length) (hp : ps.length ≤ N.length)
    (body : ∀ (cdv : Value) (A : Around) (outer : List Env) (s : Shared) (H : Hp) (E : XK), Room k (A.deeper (envOfC qual (defScope st) s.heap.objs.size f cdv)) →
      ∃ t, PSs (cxOf CX0 P w K mg base N qual (defScope st) f cdv A outer s H E).nox (defBody st) t ∧ ∀ O ds d, R ds d → RunR O N.length t (argR N ds) d) : FnOk P w K mg base CX0 (k + 1) f fd ps (spD R) := by
  refine F.ok S (fun vs H Q E h => ?_) (fun cdv A outer s H vs Q E hr h => ?_)
  · obtain ⟨O, ds, d, _, hd, hR, _⟩ := h
    rw [hd.length]
    exact hl ds d hR
  · obtain ⟨t, ht, hb⟩ := body cdv A outer s H E hr
    obtain ⟨O, ds, d, ho, hd, hR, q⟩ := h
    refine ⟨t, ht, hb O ds d hR _ (L2.start N vs) H (start_len (by rw [hd.length, hl ds d hR]; exact hp)) (sd_start ho hd) q⟩
end
section
variable {O : List Addr} {n : Nat} {ρ : Rho} {ta tb te : TE} {x y z d : PyData} {K : PySem.W.Frag} {ds es zs : List PyData} {R : List PyData → PyData → Prop} {E : XK} {tr tk : TA}
theorem ed_call (h : EvDA O n tr ρ ds) (hR : R ds d) : EvD O n (tCall (spD R) [] E tr) ρ d := fun σ H hn s Q q =>
  h σ H hn s _ fun vs H1 e1 d1 => ⟨O, ds, d, own_ex e1 s.own, by rw [List.append_nil]; exact d1, hR, fun v H2 e2 d2 => q v H2 (e1.trans e2) d2⟩
/-- f(k = ..): pm puts the keywords' values in order -/
theorem ed_callN {m : Nat} {gV : List V → List V → List V} (h : EvDA O n tk ρ zs) (hm : zs.length = m) (hg : ∀ (H : Hp) (vs : List V), DqAll H vs zs → DqAll H (gV [] vs) ds) (hR : R ds d) : EvD O n (tCallN 0 m (spD R) gV E tNil tk) ρ d := fun σ H hn s Q q =>
  h σ H hn s _ fun vs H1 e1 d1 => ⟨rfl, by rw [d1.length]; exact hm, O, ds, d, own_ex e1 s.own, hg _ _ d1, hR, fun v H2 e2 d2 => q v H2 (e1.trans e2) d2⟩
end
section
variable {X : Cx} {CX : CXT} {k : Nat} {f : Addr} {fd : FuncData} {ps ks : List Str} {sp : Sp} {E : XK} {x : Str} {p pos : Pos} {kws : List Keyword} {tk : TA} {g : List Value → List Value → List Value} {gV : List V → List V → List V}
/-- f(k = v, ..), keywords alone -/
theorem pe_callN0 (F : FnOk X.prog X.w X.K X.mg X.base CX k f fd ps sp) (hr : Room k X.A) (hg : Gl X x) (hm : X.mg x = some (.ref f)) (hk : PySem.W.keepIn X.K (.ref f) = true) (hb : KBn X.K fd ps 0 ks g gV) (hx : Passes CX X E)
    (hkw : PK X kws tk) (hall : (backToKw pos (keywordEach kws X.env)).all (·.1.isSome) = true := by rfl) (hks : (backToKw pos (keywordEach kws X.env)).filterMap (·.1) = ks := by rfl)
    (hdb : (x == ("__debug__" : Str)) = false := by decide) (hpl : ((backTo pos (starEach [] X.env)).any (·.1) || (backToKw pos (keywordEach kws X.env)).any (·.1.isNone)) = false := by rfl) :
    PE X (.Call (.Name x p) [] kws pos) (tCallN 0 ks.length sp gV E tNil tk) := by
  refine ⟨fun pins s σ H Q I h => ?_⟩
  refine wpAny_Call_Name_kw (ld_glob I hg hm ?_ hdb)
  refine PySem.W.callWith_KW0 (h₀ := X.base) I.ok.mod.kin hk hall ?_ hpl
  refine thn (hkw.run pos pins s σ H _ I h) fun ws s2 ⟨zs, H2, I2, rz, l1, l2, q2⟩ => ⟨I2.kIn, ?_⟩
  rw [hks]
  exact run_fnN (us := []) (vs := []) F hr hb hx I2 .nil rz rfl l2 q2
/-- one parameter, by its name -/
theorem kb_one {K : PySem.W.Frag} {f : Addr} {fd : FuncData} {x qual k0 : Str} {st : Stmt} (F : Fun K x qual st f fd)
    (h : ∀ (kV doc pm : Value) (an : Option Addr) (cdv ct : Value) (u : Value), bindArgs (PySem.W.fnOf x qual (defArgs st) (defBody st) (defScope st) .none kV doc pm an cdv ct) ⟨[], [(k0, u)]⟩ = pure [(k0, u)]) : KBn K fd [k0] 0 [k0] (fun us ws => us ++ ws) (fun vs zs => vs ++ zs) := by
  obtain ⟨oc, od, kV, doc, pm, an, cdv, ct, osl, rfl, lk, hcd⟩ := F.ex
  refine ⟨fun s us ws X l1 l2 => ?_, fun r1 r2 => r1.append r2⟩
  match us, ws, l1, l2 with
  | [], [u], _, _ => exact .of_eq (h kV doc pm an cdv ct u)
/-- a text so many times -/
def rRepS : R2 := fun x y H Q => ∃ z k, x = .str z ∧ y = .int k ∧ MulOk z k ∧ Q (.str (Txt.mul z k)) H
theorem op_repS : OpR X (binaryOp .Mult) rRepS := by
  intro pins s σ H x y v u Q I rx ry h
  obtain ⟨z, k, rfl, rfl, h1, q⟩ := h
  obtain ⟨t, rfl⟩ := rx
  obtain ⟨t', rfl⟩ := ry
  exact SB.mul h1 fun t'' k' => ⟨.str (Txt.mul z k), H, I.tok k', ⟨t'', rfl⟩, q⟩
end

/-! ### operations on data, further -/
section
variable {O : List Addr} {n : Nat} {ρ : Rho} {ta tb te to : TE} {x y z d : PyData} {K : PySem.W.Frag} {ds es zs : List PyData}
theorem rd_reps {z : Str} {k : Int} (h : MulOk z k) : RD O rRepS (.str z) (.int k) (.str (Txt.mul z k)) := fun H v w _ h1 h2 Q q => by
  cases h1; cases h2
  exact ⟨z, k, rfl, rfl, h, q _ H (Ex.refl H) (.str _)⟩
theorem rd_eqs {i j : Str} : RD O rEq (.str i) (.str j) (.bool (decide (i = j))) := fun H v w _ h1 h2 Q q => by
  cases h1; cases h2
  refine ⟨rfl, ?_⟩
  have e : decide (V.str i = V.str j) = decide (i = j) := by
    by_cases c : i = j
    · rw [decide_eq_true c, decide_eq_true (by rw [c])]
    · rw [decide_eq_false c, decide_eq_false (fun z => c (V.str.inj z))]
  rw [e]
  exact q _ H (Ex.refl H) (.bl _)
theorem rd_eqi {i j : Int} : RD O rEq (.int i) (.int j) (.bool (decide (i = j))) := fun H v w _ h1 h2 Q q => by
  cases h1; cases h2
  refine ⟨rfl, ?_⟩
  have e : decide (V.int i = V.int j) = decide (i = j) := by
    by_cases c : i = j
    · rw [decide_eq_true c, decide_eq_true (by rw [c])]
    · rw [decide_eq_false c, decide_eq_false (fun z => c (V.int.inj z))]
  rw [e]
  exact q _ H (Ex.refl H) (.bl _)
theorem rd_nes {i j : Str} : RD O rNe (.str i) (.str j) (.bool (!decide (i = j))) := fun H v w _ h1 h2 Q q => by
  cases h1; cases h2
  refine ⟨rfl, ?_⟩
  have e : decide (V.str i = V.str j) = decide (i = j) := by
    by_cases c : i = j
    · rw [decide_eq_true c, decide_eq_true (by rw [c])]
    · rw [decide_eq_false c, decide_eq_false (fun z => c (V.str.inj z))]
  rw [e]
  exact q _ H (Ex.refl H) (.bl _)
theorem rd_nei {i j : Int} : RD O rNe (.int i) (.int j) (.bool (!decide (i = j))) := fun H v w _ h1 h2 Q q => by
  cases h1; cases h2
  refine ⟨rfl, ?_⟩
  have e : decide (V.int i = V.int j) = decide (i = j) := by
    by_cases c : i = j
    · rw [decide_eq_true c, decide_eq_true (by rw [c])]
    · rw [decide_eq_false c, decide_eq_false (fun z => c (V.int.inj z))]
  rw [e]
  exact q _ H (Ex.refl H) (.bl _)
/-- xs[i], i from 0 -/
theorem rd_ixL {i : Nat} (h : ds[i]? = some d) : RD O (rIxL K) (.list ds) (.int (i : Int)) d := fun H v w _ h1 h2 Q q => by
  cases h2
  cases h1 with
  | lst a k =>
    obtain ⟨v, e1, e2⟩ := k.get h
    exact ⟨_, _, _, v, rfl, rfl, sq_of (sub_of a).1, atI_nat e1, q _ H (Ex.refl H) e2⟩
theorem rd_ixT {i : Nat} (h : ds[i]? = some d) : RD O (rIxT K) (.tuple ds) (.int (i : Int)) d := fun H v w _ h1 h2 Q q => by
  cases h2
  cases h1 with
  | tup a k =>
    obtain ⟨v, e1, e2⟩ := k.get h
    exact ⟨_, _, _, v, rfl, rfl, st_of (sub_of a).1, atI_nat e1, q _ H (Ex.refl H) e2⟩
/-- x in (..): texts -/
theorem rd_inS {neg : Bool} {i : Str} {xs : List Str} : RD O (rIn K neg) (.str i) (.tuple (dS xs)) (.bool (if neg then !decide (i ∈ xs) else decide (i ∈ xs))) := fun H v w _ h1 h2 Q q => by
  cases h1
  cases h2 with
  | tup a k =>
    have e := strs_dq k
    subst e
    have f1 : (xs.map V.str).all flatV = true := by
      rw [List.all_map]
      exact List.all_eq_true.mpr fun _ _ => rfl
    have f2 : inV (.str i) (xs.map V.str) = decide (i ∈ xs) := by
      unfold inV
      rw [List.any_map]
      by_cases c : i ∈ xs
      · rw [decide_eq_true c]
        refine List.any_eq_true.mpr ⟨i, c, ?_⟩
        simp [eqV]
      · rw [decide_eq_false c]
        refine List.any_eq_false.mpr fun y hy z => c ?_
        have q : eqV (V.str y) (V.str i) = true := z
        simp [eqV] at q
        rw [← q]
        exact hy
    refine ⟨_, _, rfl, .inr (st_of (sub_of a).1), rfl, f1, ?_⟩
    rw [f2]
    exact q _ H (Ex.refl H) (.bl _)
/-! built-ins -/
abbrev rLen (K : PySem.W.Frag) : List V → Hp → VK → Prop := fun xs H Q => ∃ p ys, xs = [.ref p] ∧ (SqL K H p ys ∨ SqT K H p ys) ∧ Q (.int ys.length) H
theorem rc_lenL : RDC O (rLen K) [.list ds] (.int ds.length) := fun H vs _ h Q q => by
  cases h with
  | cons h k =>
    cases k
    cases h with
    | lst a k =>
      refine ⟨_, _, rfl, .inl (sq_of (sub_of a).1), ?_⟩
      rw [k.length]
      exact q _ H (Ex.refl H) (.int _)
theorem rc_lenT : RDC O (rLen K) [.tuple ds] (.int ds.length) := fun H vs _ h Q q => by
  cases h with
  | cons h k =>
    cases k
    cases h with
    | tup a k =>
      refine ⟨_, _, rfl, .inr (st_of (sub_of a).1), ?_⟩
      rw [k.length]
      exact q _ H (Ex.refl H) (.int _)
theorem rc_str {i : Int} (h : i.natAbs.log2 < 1920) : RDC O (fun xs H Q => ∃ i, xs = [.int i] ∧ i.natAbs.log2 < 1920 ∧ Q (.str (toString i)) H) [.int i] (.str (toString i)) := fun H vs _ h' Q q => by
  cases h' with
  | cons h' k =>
    cases k
    cases h'
    exact ⟨i, rfl, h, q _ H (Ex.refl H) (.str _)⟩
theorem rc_int {i : Int} : RDC O (fun xs H Q => (∃ i, xs = [.int i] ∧ Q (.int i) H) ∨ ∃ k, xs = [.bl k] ∧ Q (.int (if k then 1 else 0)) H) [.int i] (.int i) := fun H vs _ h' Q q => by
  cases h' with
  | cons h' k =>
    cases k
    cases h'
    exact .inl ⟨i, rfl, q _ H (Ex.refl H) (.int _)⟩
theorem rc_intb {b : Bool} : RDC O (fun xs H Q => (∃ i, xs = [.int i] ∧ Q (.int i) H) ∨ ∃ k, xs = [.bl k] ∧ Q (.int (if k then 1 else 0)) H) [.bool b] (.int (if b then 1 else 0)) := fun H vs _ h' Q q => by
  cases h' with
  | cons h' k =>
    cases k
    cases h'
    exact .inr ⟨b, rfl, q _ H (Ex.refl H) (.int _)⟩
theorem rc_ints {a : Str} {i : Int} (h : PySem.intText? a = some i) (hl : a.length ≤ 640) : RDC O (fun xs H Q => ∃ a n, xs = [.str a] ∧ PySem.intText? a = some n ∧ a.length ≤ 640 ∧ Q (.int n) H) [.str a] (.int i) := fun H vs _ h' Q q => by
  cases h' with
  | cons h' k =>
    cases k
    cases h'
    exact ⟨a, i, rfl, h, hl, q _ H (Ex.refl H) (.int _)⟩
theorem rc_abs {i : Int} : RDC O (fun xs H Q => ∃ i, xs = [.int i] ∧ Q (.int (if i < 0 then -i else i)) H) [.int i] (.int (if i < 0 then -i else i)) := fun H vs _ h' Q q => by
  cases h' with
  | cons h' k =>
    cases k
    cases h'
    exact ⟨i, rfl, q _ H (Ex.refl H) (.int _)⟩
abbrev rListOf (K : PySem.W.Frag) : List V → Hp → VK → Prop := fun xs H Q => ∃ p ys, xs = [.ref p] ∧ (SqL K H p ys ∨ SqT K H p ys) ∧ ∀ l, H l = none → Q (.ref l) (upd H l (.lst ys))
abbrev rTupleOf (K : PySem.W.Frag) : List V → Hp → VK → Prop := fun xs H Q => ∃ p ys, xs = [.ref p] ∧ ((SqL K H p ys ∧ ∀ l, H l = none → Q (.ref l) (upd H l (.tup ys))) ∨ (SqT K H p ys ∧ Q (.ref p) H))
/-- a list or a tuple of such data -/
inductive SeqD : PyData → List PyData → Prop
  | lst (ds : List PyData) : SeqD (.list ds) ds
  | tup (ds : List PyData) : SeqD (.tuple ds) ds
theorem seq_rd {H : Hp} {v : V} (hs : SeqD x ds) (h : Dq (sub H O) v x) : ∃ p ys, v = .ref p ∧ (SqL K H p ys ∨ SqT K H p ys) ∧ DqAll (sub H O) ys ds := by
  cases hs with
  | lst =>
    cases h with
    | lst a k => exact ⟨_, _, rfl, .inl (sq_of (sub_of a).1), k⟩
  | tup =>
    cases h with
    | tup a k => exact ⟨_, _, rfl, .inr (st_of (sub_of a).1), k⟩
theorem rc_list (hs : SeqD x ds) : RDC O (rListOf K) [x] (.list ds) := fun H vs ho h Q q => by
  cases h with
  | cons h k =>
    cases k
    obtain ⟨p, ys, rfl, h1, h2⟩ := seq_rd (K := K) hs h
    exact ⟨p, ys, rfl, h1, fun l hl => q _ _ (Ex.new hl) (.lst (sub_mk upd_same (not_own ho hl)) (h2.mono (Ex.o O (Ex.new hl))))⟩
theorem rc_tuple (hs : SeqD x ds) : RDC O (rTupleOf K) [x] (.tuple ds) := fun H vs ho h Q q => by
  cases h with
  | cons h k =>
    cases k
    cases hs with
    | lst =>
      cases h with
      | lst a k => exact ⟨_, _, rfl, .inl ⟨sq_of (sub_of a).1, fun l hl => q _ _ (Ex.new hl) (.tup (sub_mk upd_same (not_own ho hl)) (k.mono (Ex.o O (Ex.new hl))))⟩⟩
    | tup =>
      cases h with
      | tup a k => exact ⟨_, _, rfl, .inr ⟨st_of (sub_of a).1, q _ H (Ex.refl H) (.tup a k)⟩⟩
theorem rc_all {bs : List Bool} : RDC O (rAll K) [.list (dB bs)] (.bool (bs.all id)) := fun H vs _ h Q q => by
  cases h with
  | cons h k =>
    cases k
    cases h with
    | lst a k =>
      have e := bools_dq k
      subst e
      exact ⟨_, bs, rfl, sq_of (sub_of a).1, q _ H (Ex.refl H) (.bl _)⟩
/-- sorted(..) of ints: zs is the list in order -/
theorem rc_sorted {ns zs : List Int} (hp : zs.Perm ns) (hz : zs.Pairwise (· ≤ ·)) : RDC O (rSortedI K) [.list (dI ns)] (.list (dI zs)) := fun H vs ho h Q q => by
  cases h with
  | cons h k =>
    cases k
    cases h with
    | lst a k =>
      have e := ints_dq k
      subst e
      refine ⟨_, ns, rfl, sq_of (sub_of a).1, fun ns' p p1 p2 hp' => ?_⟩
      have e2 : ns' = zs := PySem.W.ksm_same (p1.trans hp.symm) p2 hz
      subst e2
      exact q _ _ (Ex.new hp') (.lst (sub_mk upd_same (not_own ho hp')) (dq_ints _))
/-! methods of texts -/
theorem ed_m1 {r : V → List V → Hp → VK → Prop} {a b : Str} (ho : EvD O n to ρ (.str a)) (he : EvD O n te ρ (.str b)) (hr : ∀ (H : Hp), (∀ a, a ∈ O → H a ≠ none) → ∀ Q : VK, (∀ u H', Ex H H' → Dq (sub H' O) u z → Q u H') → r (.str a) [.str b] H Q) : EvD O n (tM1 r to te) ρ z := fun σ H hn s Q q =>
  ho σ H hn s _ fun v H1 e1 d1 => by
    cases d1
    exact ⟨⟨a, rfl⟩, he σ H1 hn (s.ex e1) _ fun v H2 e2 d2 => by
      cases d2
      exact hr H2 (own_ex (e1.trans e2) s.own) Q fun u H3 e3 d3 => q u H3 ((e1.trans e2).trans e3) d3⟩
theorem ed_m0 {r : V → List V → Hp → VK → Prop} {a : Str} (ho : EvD O n to ρ (.str a)) (hr : ∀ (H : Hp), (∀ a, a ∈ O → H a ≠ none) → ∀ Q : VK, (∀ u H', Ex H H' → Dq (sub H' O) u z → Q u H') → r (.str a) [] H Q) : EvD O n (tM0 r to) ρ z := fun σ H hn s Q q =>
  ho σ H hn s _ fun v H1 e1 d1 => by
    cases d1
    exact ⟨⟨a, rfl⟩, hr H1 (own_ex e1 s.own) Q fun u H3 e3 d3 => q u H3 (e1.trans e3) d3⟩
theorem ed_isdigit {a : Str} (ho : EvD O n to ρ (.str a)) : EvD O n (tM0 (fun x xs H Q => ∃ a, x = .str a ∧ xs = [] ∧ True ∧ Q (.bl (Txt.isdigit a)) H) to) ρ (.bool (Txt.isdigit a)) :=
  ed_m0 ho fun H _ Q q => ⟨a, rfl, rfl, True.intro, q _ H (Ex.refl H) (.bl _)⟩
theorem ed_isascii {a : Str} (ho : EvD O n to ρ (.str a)) : EvD O n (tM0 (fun x xs H Q => ∃ a, x = .str a ∧ xs = [] ∧ True ∧ Q (.bl (Txt.isascii a)) H) to) ρ (.bool (Txt.isascii a)) :=
  ed_m0 ho fun H _ Q q => ⟨a, rfl, rfl, True.intro, q _ H (Ex.refl H) (.bl _)⟩
theorem ed_startswith {a b : Str} (ho : EvD O n to ρ (.str a)) (he : EvD O n te ρ (.str b)) : EvD O n (tM1 (fun x xs H Q => ∃ a b, x = .str a ∧ xs = [.str b] ∧ Q (.bl (Txt.startswith a b)) H) to te) ρ (.bool (Txt.startswith a b)) :=
  ed_m1 ho he fun H _ Q q => ⟨a, b, rfl, rfl, q _ H (Ex.refl H) (.bl _)⟩
theorem ed_split {a b : Str} (ho : EvD O n to ρ (.str a)) (he : EvD O n te ρ (.str b)) (hb : (b.length == 0) = false) (hl : a.length ≤ 100000) :
    EvD O n (tM1 (fun x xs H Q => ∃ a b, x = .str a ∧ xs = [.str b] ∧ (b.length == 0) = false ∧ a.length + 2 ≤ sizeLine ∧ rNewStrs (Txt.split a b) H Q) to te) ρ (.list (dS (Txt.split a b))) :=
  ed_m1 ho he fun H ho Q q => ⟨a, b, rfl, rfl, hb, Nat.le_trans (show a.length + 2 ≤ 100002 by omega) (by decide), fun p hp => q _ _ (Ex.new hp) (.lst (sub_mk upd_same (not_own ho hp)) (dq_strs _))⟩
theorem ed_partition {a b : Str} (ho : EvD O n to ρ (.str a)) (he : EvD O n te ρ (.str b)) (hb : (b.length == 0) = false) (hl : a.length ≤ 100000) :
    EvD O n (tM1 (fun x xs H Q => ∃ a b, x = .str a ∧ xs = [.str b] ∧ (b.length == 0) = false ∧ a.length ≤ sizeLine ∧
      ∀ p, H p = none → Q (.ref p) (upd H p (.tup [.str (Txt.partition a b).1, .str (Txt.partition a b).2.1, .str (Txt.partition a b).2.2]))) to te) ρ (.tuple [.str (Txt.partition a b).1, .str (Txt.partition a b).2.1, .str (Txt.partition a b).2.2]) :=
  ed_m1 ho he fun H ho Q q => ⟨a, b, rfl, rfl, hb, sz_of hl, fun p hp => q _ _ (Ex.new hp) (.tup (sub_mk upd_same (not_own ho hp)) (.cons (.str _) (.cons (.str _) (.cons (.str _) .nil))))⟩
theorem ed_join {a : Str} {xs : List Str} (ho : EvD O n to ρ (.str a)) (he : EvD O n te ρ x) (hx : SeqD x (dS xs)) (hl : (xs.map (·.length)).sum + xs.length * a.length ≤ 100000) :
    EvD O n (tM1 (fun x xs H Q => ∃ a p, ∃ ys : List Str, x = .str a ∧ xs = [.ref p] ∧ (SqL K H p (ys.map V.str) ∨ SqT K H p (ys.map V.str)) ∧
      (ys.map (·.length)).sum + ys.length * a.length ≤ 16777216 ∧ Q (.str (Txt.join a ys)) H) to te) ρ (.str (Txt.join a xs)) := fun σ H hn s Q q =>
  ho σ H hn s _ fun v H1 e1 d1 => by
    cases d1
    refine ⟨⟨a, rfl⟩, he σ H1 hn (s.ex e1) _ fun v H2 e2 d2 => ?_⟩
    obtain ⟨p, ys, rfl, h1, h2⟩ := seq_rd (K := K) hx d2
    have e := strs_dq h2
    subst e
    exact ⟨a, p, xs, rfl, rfl, h1, by omega, q _ H2 (e1.trans e2) (.str _)⟩
/-! slices -/
def EvDO (O : List Addr) (n : Nat) (to : TO) (ρ : Rho) (o : Option Int) : Prop := ∀ (σ : L2.St) (H : Hp), σ.length = n → SD O H σ ρ → ∀ Q : Option Int → Hp → Prop, (∀ H', Ex H H' → Q o H') → to σ H Q
theorem eo_none : EvDO O n tNoPart ρ none := fun σ H _ s Q q => q H (Ex.refl H)
theorem eo_some {i : Int} (h : EvD O n te ρ (.int i)) : EvDO O n (tPart te) ρ (some i) := fun σ H hn s Q q => h σ H hn s _ fun v H1 e1 d1 => by
  cases d1
  exact ⟨i, rfl, q H1 e1⟩
theorem ed_slS {tl th : TO} {a : Str} {lo hi : Option Int} (h : EvD O n te ρ (.str a)) (h1 : EvDO O n tl ρ lo) (h2 : EvDO O n th ρ hi) (hl : a.length ≤ 100000) : EvD O n (tSl rSlS te tl th) ρ (.str (cutS a lo hi)) := fun σ H hn s Q q =>
  h σ H hn s _ fun v H1 e1 d1 => h1 σ H1 hn (s.ex e1) _ fun H2 e2 => h2 σ H2 hn ((s.ex e1).ex e2) _ fun H3 e3 => by
    cases d1
    exact ⟨a, rfl, sz_of hl, q _ H3 ((e1.trans e2).trans e3) (.str _)⟩
/-- the part of a list -/
def cutD (ds : List PyData) (lo hi : Option Int) : List PyData := (ds.drop (HT.sIx ds.length 0 lo)).take (HT.sIx ds.length ds.length hi - HT.sIx ds.length 0 lo)
theorem DqAll.cut {H : Hp} {vs : List V} (h : DqAll H vs ds) (lo hi : Option Int) : DqAll H (cutV vs lo hi) (cutD ds lo hi) := by
  unfold cutV cutD
  rw [h.length]
  exact (h.drop _).take _
theorem ed_slL {tl th : TO} {lo hi : Option Int} (h : EvD O n te ρ (.list ds)) (h1 : EvDO O n tl ρ lo) (h2 : EvDO O n th ρ hi) : EvD O n (tSl (rSlL K) te tl th) ρ (.list (cutD ds lo hi)) := fun σ H hn s Q q =>
  h σ H hn s _ fun v H1 e1 d1 => h1 σ H1 hn (s.ex e1) _ fun H2 e2 => h2 σ H2 hn ((s.ex e1).ex e2) _ fun H3 e3 => by
    have d3 := d1.mono (Ex.o O (e2.trans e3))
    cases d3 with
    | lst a k =>
      exact ⟨_, _, rfl, sq_of (sub_of a).1, fun p hp => q _ _ (((e1.trans e2).trans e3).trans (Ex.new hp)) (.lst (sub_mk upd_same (not_own (own_ex ((e1.trans e2).trans e3) s.own) hp)) ((k.cut lo hi).mono (Ex.o O (Ex.new hp))))⟩
/-! f-strings -/
inductive EvJ (O : List Addr) (n : Nat) (ρ : Rho) : List TE → List Str → Prop
  | nil : EvJ O n ρ [] []
  | cons {t : TE} {ts : List TE} {y : Str} {ys : List Str} : EvD O n t ρ (.str y) → EvJ O n ρ ts ys → EvJ O n ρ (t :: ts) (y :: ys)
def catS : Str → List Str → Str
  | acc, [] => acc
  | acc, y :: ys => catS (acc ++ y) ys
theorem ed_js {ts : List TE} {ys : List Str} (h : EvJ O n ρ ts ys) : ∀ (acc : Str) (σ : L2.St) (H : Hp), σ.length = n → SD O H σ ρ → acc.length + (ys.map (·.length)).sum ≤ 100000 → ∀ Q : Str → Hp → Prop, (∀ H', Ex H H' → Q (catS acc ys) H') → tJs ts acc σ H Q := by
  induction h with
  | nil =>
    intro acc σ H hn s hl Q q
    exact q H (Ex.refl H)
  | @cons t ts y ys h1 h2 ih =>
    intro acc σ H hn s hl Q q
    refine h1 σ H hn s _ fun v H1 e1 d1 => ?_
    cases d1
    rw [List.map_cons, List.sum_cons] at hl
    have hy : (acc ++ y).length = acc.length + y.length := Str.length_append acc y
    exact ⟨y, rfl, sz_of (by omega), ih (acc ++ y) σ H1 hn (s.ex e1) (by omega) Q fun H2 e2 => q H2 (e1.trans e2)⟩
theorem ed_joined {ts : List TE} {ys : List Str} (h : EvJ O n ρ ts ys) (hl : (ys.map (·.length)).sum ≤ 100000) : EvD O n (fun σ H Q => tJs ts Str.empty σ H fun out H1 => Q (.str out) H1) ρ (.str (catS Str.empty ys)) := fun σ H hn s Q q =>
  ed_js h Str.empty σ H hn s (by show 0 + _ ≤ _; omega) _ fun H1 e1 => q _ H1 e1 (.str _)
theorem ed_fmtI {i : Int} (h : EvD O n te ρ (.int i)) (hi : i.natAbs.log2 < 1920) : EvD O n (tFmt te) ρ (.str (toString i)) := fun σ H hn s Q q => h σ H hn s _ fun v H1 e1 d1 => by
  cases d1
  exact .inr ⟨i, rfl, hi, q _ H1 e1 (.str _)⟩
theorem ed_fmtS {i : Str} (h : EvD O n te ρ (.str i)) (hi : i.length ≤ 100000) : EvD O n (tFmt te) ρ (.str i) := fun σ H hn s Q q => h σ H hn s _ fun v H1 e1 d1 => by
  cases d1
  exact .inl ⟨i, rfl, sz_of hi, q _ H1 e1 (.str _)⟩
end
end DL
namespace DL
open PySem L2 Evl PyProof.Rows RZ
/-! ### walking a list or a tuple -/
def iSeq (K : PySem.W.Frag) (tl : TE) : TI := fun σ H R => tl σ H fun x H1 => ∃ a, x = .ref a ∧ (((∃ xs, SqL K H1 a xs) ∧ R (Itl K a) H1) ∨ ((∃ xs, SqT K H1 a xs) ∧ R (Itt K a) H1))
section
variable {X : Cx} {tg l : Expr} {tl : TE}
theorem pi_seq (hl : PE X l tl) : PI X tg l (iSeq X.K tl) := by
  refine ⟨fun pins s σ H R I h => ?_⟩
  refine thn (hl.run pins s σ H _ I h) fun v s1 ⟨x, H1, I1, r1, q1⟩ => ?_
  obtain ⟨a, e, q⟩ := q1
  subst e
  cases r1
  have fr : ∀ b, b ∈ [s1.heap.objs.size] → FpOk X pins H1 b := fun b hb => by
    have e : b = s1.heap.objs.size := by simpa using hb
    subst e
    exact I1.fpOk (Nat.le_refl _) (I1.hok.fresh (Nat.le_refl _))
  rcases q with ⟨⟨xs, hq⟩, q⟩ | ⟨⟨xs, hq⟩, q⟩
  · obtain ⟨its, rv, p, hz⟩ := I1.list hq
    refine wpAny_pyIter_list p.isList ?_
    exact ⟨s1.heap.objs.size, [s1.heap.objs.size], _, _, H1, rfl, I1.kept (t' := s1.toks) fun b o e => Heap.get?_push_of_some _ e, turn_list a _, ⟨_, Heap.get?_push_size _ rfl, rfl, rfl⟩, fr, q⟩
  · obtain ⟨its, rv, p, hz⟩ := I1.tuple hq
    refine wpAny_pyIter_tuple (show s1.heap.IsTuple a its.toArray from p) ?_
    exact ⟨s1.heap.objs.size, [s1.heap.objs.size], _, _, H1, rfl, I1.kept (t' := s1.toks) fun b o e => Heap.get?_push_of_some _ e, turn_tuple a _, ⟨_, Heap.get?_push_size _ rfl, rfl, rfl⟩, fr, q⟩
end
section
variable {O : List Addr} {n : Nat} {ρ : Rho} {ta tb te to : TE} {x y z d : PyData} {K : PySem.W.Frag} {ds es zs : List PyData}
theorem it_seq (hs : SeqD x ds) (h : EvD O n te ρ x) : IterD O n (iSeq K te) ρ ds := fun σ H hn s R q => h σ H hn s _ fun v H1 e1 d1 => by
  cases hs with
  | lst =>
    cases d1 with
    | @lst a xs _ ha k =>
      refine ⟨a, rfl, .inl ⟨⟨xs, sq_of (sub_of ha).1⟩, q (Itl K a) H1 (fun P H2 => sub H2 P a = some (.lst xs) ∧ DqAll (sub H2 P) xs ds) (YAt xs) e1 (fun P => ?_) ⟨ha, k⟩ (fun P P' H2 H3 g e => ⟨e _ _ g.1, g.2.mono e⟩) ?_⟩⟩
      · rw [← k.length]
        exact walk_list.mono (fun H2 g => sq_of (sub_of g.1).1) fun _ _ _ _ _ _ y => y
      · rintro P i H2 x H3 _ _ ⟨g1, g2⟩ ⟨rfl, hx⟩
        obtain ⟨d, h1, h2⟩ := g2.getV hx
        exact ⟨Ex.refl _, d, h1, h2⟩
  | tup =>
    cases d1 with
    | @tup a xs _ ha k =>
      refine ⟨a, rfl, .inr ⟨⟨xs, st_of (sub_of ha).1⟩, q (Itt K a) H1 (fun P H2 => sub H2 P a = some (.tup xs) ∧ DqAll (sub H2 P) xs ds) (YAt xs) e1 (fun P => ?_) ⟨ha, k⟩ (fun P P' H2 H3 g e => ⟨e _ _ g.1, g.2.mono e⟩) ?_⟩⟩
      · rw [← k.length]
        exact walk_tup.mono (fun H2 g => st_of (sub_of g.1).1) fun _ _ _ _ _ _ y => y
      · rintro P i H2 x H3 _ _ ⟨g1, g2⟩ ⟨rfl, hx⟩
        obtain ⟨d, h1, h2⟩ := g2.getV hx
        exact ⟨Ex.refl _, d, h1, h2⟩
/-- zip of two lists or two tuples -/
inductive SameSeq : PyData → PyData → List PyData → List PyData → Prop
  | lst (ds es : List PyData) : SameSeq (.list ds) (.list es) ds es
  | tup (ds es : List PyData) : SameSeq (.tuple ds) (.tuple es) ds es
theorem it_zipA (hs : SameSeq x y ds es) (h : EvD O n ta ρ x) (h' : EvD O n tb ρ y) : IterD O n (iZipA K (tCons ta (tCons tb tNil))) ρ (zipD ds es) := fun σ H hn s R q => h σ H hn s _ fun v H1 e1 d1 => h' σ H1 hn (s.ex e1) _ fun v' H2 e2 d2 => by
  have l : (zipD ds es).length = min ds.length es.length := by
    unfold zipD
    rw [List.length_zipWith]
  cases hs with
  | lst =>
    cases d1 with
    | @lst a xs _ ha k =>
      cases d2 with
      | @lst b ys _ hb k' =>
        have ha2 : sub H2 O a = some (.lst xs) := (Ex.o O e2) _ _ ha
        refine ⟨a, b, xs, ys, rfl, .inl ⟨sq_of (sub_of ha2).1, sq_of (sub_of hb).1, q (Itz K a b) H2 (fun P H3 => (sub H3 P a = some (.lst xs) ∧ DqAll (sub H3 P) xs ds) ∧ (sub H3 P b = some (.lst ys) ∧ DqAll (sub H3 P) ys es)) (YPair (fun i => xs[i]?) (fun i => ys[i]?)) (e1.trans e2) (fun P => ?_)
          ⟨⟨ha2, k.mono (Ex.o O e2)⟩, ⟨hb, k'⟩⟩ (fun P P' H3 H4 g e => ⟨⟨e _ _ g.1.1, g.1.2.mono e⟩, ⟨e _ _ g.2.1, g.2.2.mono e⟩⟩) ?_⟩⟩
        · rw [l, ← k.length, ← k'.length]
          exact (walk_zip rfl).mono (fun H3 g => ⟨sq_of (sub_of g.1.1).1, sq_of (sub_of g.2.1).1⟩) fun _ _ _ _ _ _ y => y
        · rintro P i H3 x H4 hi ho ⟨⟨g1, g2⟩, g3, g4⟩ ⟨T, x1, x2, rfl, hT, hH, q1, q2⟩
          obtain ⟨d, h1, h2⟩ := g2.getV q1
          obtain ⟨d', h1', h2'⟩ := g4.getV q2
          obtain ⟨a1, a2⟩ := pair_new ho hT hH h2 h2'
          refine ⟨a1, _, ?_, a2⟩
          unfold zipD
          rw [List.getElem?_zipWith, h1, h1']
  | tup =>
    cases d1 with
    | @tup a xs _ ha k =>
      cases d2 with
      | @tup b ys _ hb k' =>
        have ha2 : sub H2 O a = some (.tup xs) := (Ex.o O e2) _ _ ha
        refine ⟨a, b, xs, ys, rfl, .inr ⟨st_of (sub_of ha2).1, st_of (sub_of hb).1, q (ItzT K a b) H2 (fun P H3 => (sub H3 P a = some (.tup xs) ∧ DqAll (sub H3 P) xs ds) ∧ (sub H3 P b = some (.tup ys) ∧ DqAll (sub H3 P) ys es)) (YPair (fun i => xs[i]?) (fun i => ys[i]?)) (e1.trans e2) (fun P => ?_)
          ⟨⟨ha2, k.mono (Ex.o O e2)⟩, ⟨hb, k'⟩⟩ (fun P P' H3 H4 g e => ⟨⟨e _ _ g.1.1, g.1.2.mono e⟩, ⟨e _ _ g.2.1, g.2.2.mono e⟩⟩) ?_⟩⟩
        · have W : Walk (ItzT K a b) (min xs.length ys.length) (fun H => SqT K H a xs ∧ SqT K H b ys) (YPair (fun i => xs[i]?) (fun i => ys[i]?)) := by
            refine ⟨fun i _ hi q => ?_, fun _ q => ⟨xs, ys, q.1, q.2, by omega⟩, fun i H v H' _ q y => ?_⟩
            · have h1 : i < xs.length := by omega
              have h2 : i < ys.length := by omega
              exact ⟨xs, ys, xs[i], ys[i], q.1, q.2, by simp [h1], by simp [h2]⟩
            · obtain ⟨T, x, z, h1, h2, h3, h4, h5⟩ := y
              exact ⟨T, x, z, h1, h2, h3, h4 xs q.1, h5 ys q.2⟩
          rw [l, ← k.length, ← k'.length]
          exact W.mono (fun H3 g => ⟨st_of (sub_of g.1.1).1, st_of (sub_of g.2.1).1⟩) fun _ _ _ _ _ _ y => y
        · rintro P i H3 x H4 hi ho ⟨⟨g1, g2⟩, g3, g4⟩ ⟨T, x1, x2, rfl, hT, hH, q1, q2⟩
          obtain ⟨d, h1, h2⟩ := g2.getV q1
          obtain ⟨d', h1', h2'⟩ := g4.getV q2
          obtain ⟨a1, a2⟩ := pair_new ho hT hH h2 h2'
          refine ⟨a1, _, ?_, a2⟩
          unfold zipD
          rw [List.getElem?_zipWith, h1, h1']
/-! isinstance -/
def tyN : PyData → String
  | .none => "NoneType" | .bool _ => "bool" | .int _ => "int" | .str _ => "str" | .list _ => "list" | .tuple _ => "tuple" | .dict _ => "dict"
def tyIs (a b : String) : Bool := a == b || (a == "bool" && b == "int")
theorem kit_all : ∀ a ∈ ["NoneType", "bool", "int", "str", "list", "tuple"], ∀ b ∈ ["bool", "int", "str", "list", "tuple"], kitB a b = some (tyIs a b) := by decide +kernel
theorem dq_ty {H : Hp} {v : V} (h : Dq H v d) (nd : (tyN d == "dict") = false) : TyOf K H v (.type (tyN d)) ∧ tyN d ∈ ["NoneType", "bool", "int", "str", "list", "tuple"] := by
  cases h with
  | non => exact ⟨.non, by decide⟩
  | bl b => exact ⟨.bl b, by show "bool" ∈ _; decide⟩
  | int i => exact ⟨.int i, by show "int" ∈ _; decide⟩
  | str s => exact ⟨.str s, by show "str" ∈ _; decide⟩
  | lst a k => exact ⟨.lst a, by show "list" ∈ _; decide⟩
  | tup a k => exact ⟨.tup a, by show "tuple" ∈ _; decide⟩
  | ob a k => cases nd
  | dic a k => cases nd
  | exo a b k => cases nd
  | exn a => cases nd
theorem ed_isi {T : String} (h : EvD O n te ρ d) (hT : T ∈ ["bool", "int", "str", "list", "tuple"]) (nd : (tyN d == "dict") = false := by first | rfl | decide) : EvD O n (tCB (rIsi K) (tCons te (tCons (tC (.ty T)) tNil))) ρ (.bool (tyIs (tyN d) T)) := fun σ H hn s Q q => h σ H hn s _ fun v H1 e1 d1 => by
  obtain ⟨h1, h2⟩ := dq_ty (K := K) d1.up nd
  exact ⟨v, .ty T, _, _, _, rfl, .ty T, .base h1, kit_ty (kit_all _ h2 _ hT), q _ H1 e1 (.bl _)⟩
theorem ed_isiT {T U : String} (h : EvD O n te ρ d) (hT : T ∈ ["bool", "int", "str", "list", "tuple"]) (hU : U ∈ ["bool", "int", "str", "list", "tuple"]) (nd : (tyN d == "dict") = false := by first | rfl | decide) :
    EvD O n (tCB (rIsiT K) (tCons te (tCons (tTup (tCons (tC (.ty T)) (tCons (tC (.ty U)) tNil))) tNil))) ρ (.bool (tyIs (tyN d) T || tyIs (tyN d) U)) := fun σ H hn s Q q => h σ H hn s _ fun v H1 e1 d1 => by
  refine ⟨by show 2 ≤ sizeLine; decide, fun p hp => ?_⟩
  obtain ⟨h1, h2⟩ := dq_ty (K := K) (d1.up.mono (Ex.new hp (o := .tup [.ty T, .ty U]))) nd
  have e0 : Ex H1 (upd H1 p (.tup [.ty T, .ty U])) := Ex.new hp
  refine ⟨v, p, _, _, _, (tyIs (tyN d) T || tyIs (tyN d) U), rfl, upd_same, .cons (.ty T) (.cons (.ty U) .nil), .base h1, ?_, q _ _ (e1.trans e0) (.bl _)⟩
  refine kitAny_cons (kit_ty (kit_all _ h2 _ hT)) (fun z => kitAny_cons (kit_ty (kit_all _ h2 _ hU)) (fun z' => ?_) (fun z' => ?_)) (fun z => ?_)
  · rw [z, z']
    exact kitAny_nil
  · rw [z, z']
    rfl
  · rw [z]
    rfl
/-! == and != of truths, of None, of like things -/
theorem rd_neb {a b : Bool} : RD O rNe (.bool a) (.bool b) (.bool (!decide (a = b))) := fun H v w _ h1 h2 Q q => by
  cases h1; cases h2
  refine ⟨rfl, ?_⟩
  have e : decide (V.bl a = V.bl b) = decide (a = b) := by cases a <;> cases b <;> rfl
  rw [e]
  exact q _ H (Ex.refl H) (.bl _)
theorem rd_eqb {a b : Bool} : RD O rEq (.bool a) (.bool b) (.bool (decide (a = b))) := fun H v w _ h1 h2 Q q => by
  cases h1; cases h2
  refine ⟨rfl, ?_⟩
  have e : decide (V.bl a = V.bl b) = decide (a = b) := by cases a <;> cases b <;> rfl
  rw [e]
  exact q _ H (Ex.refl H) (.bl _)
theorem rd_eqN : RD O rEq .none .none (.bool true) := fun H v w _ h1 h2 Q q => by
  cases h1; cases h2
  exact ⟨rfl, q _ H (Ex.refl H) (.bl _)⟩
/-! sorted(.., reverse = True); xs[::-1] -/
theorem ed_sortedRev {b : Bool} {ns zs : List Int} (h : EvD O n te ρ (.list (dI ns))) (hp : zs.Perm ns) (hz : OrdB b zs) : EvD O n (tCKw (rSortedKw K b [.bl b]) (tCons te tNil) (tCons (tC (.bl b)) tNil)) ρ (.list (dI zs)) := fun σ H hn s Q q => h σ H hn s _ fun v H1 e1 d1 => by
  cases d1 with
  | lst a k =>
    have e := ints_dq k
    subst e
    refine ⟨_, ns, rfl, rfl, sq_of (sub_of a).1, fun ns' p p1 p2 hp' => ?_⟩
    have e2 : ns' = zs := by
      cases b with
      | false => exact PySem.W.ksm_same (p1.trans hp.symm) p2 hz
      | true =>
        have r1 : ns'.reverse.Pairwise (· ≤ ·) := List.pairwise_reverse.mpr p2
        have r2 : zs.reverse.Pairwise (· ≤ ·) := List.pairwise_reverse.mpr hz
        have e3 := PySem.W.ksm_same (((List.reverse_perm ns').trans (p1.trans hp.symm)).trans (List.reverse_perm zs).symm) r1 r2
        exact List.reverse_inj.mp e3
    subst e2
    exact q _ _ (e1.trans (Ex.new hp')) (.lst (sub_mk upd_same (not_own (own_ex e1 s.own) hp')) (dq_ints _))
theorem ed_revL (h : EvD O n te ρ (.list ds)) : EvD O n (tRevL K te) ρ (.list ds.reverse) := fun σ H hn s Q q => h σ H hn s _ fun v H1 e1 d1 => by
  cases d1 with
  | lst a k => exact ⟨_, _, rfl, sq_of (sub_of a).1, fun p hp => q _ _ (e1.trans (Ex.new hp)) (.lst (sub_mk upd_same (not_own (own_ex e1 s.own) hp)) (k.reverse.mono (Ex.o O (Ex.new hp))))⟩
end
/-! ### what like data the law's own compare takes -/
def okD : Nat → PyData → Prop
  | 0, _ => False
  | n + 1, .list xs => xs.length ≤ 1000 ∧ ∀ y, y ∈ xs → okD n y
  | n + 1, .tuple xs => xs.length ≤ 1000 ∧ ∀ y, y ∈ xs → okD n y
  | _ + 1, .dict _ => False
  | _ + 1, _ => True
def R_same (n : Nat) (ds : List PyData) (d : PyData) : Prop := ∃ x, okD n x ∧ ds = [x, x] ∧ d = .bool true
theorem none_left {P : Program} {w : World} {K : PySem.W.Frag} {mg : Str → Option Value} {base : Heap} {f : Addr} {fd : FuncData} {ps : List Str} {R : List PyData → PyData → Prop} (no : ∀ ds d, ¬ R ds d) : FnOk P w K mg base CX0 0 f fd ps (spD R) :=
  ⟨fun vs H Q E h => by
    obtain ⟨_, ds, d, _, _, hR, _⟩ := h
    exact absurd hR (no ds d), fun A outer s H args us vs Q E _ _ _ _ h => by
    obtain ⟨_, ds, d, _, _, hR, _⟩ := h
    exact absurd hR (no ds d)⟩
end DL
namespace DL
open PySem L2 Evl PyProof.Rows TL
/-! ### numbers as texts -/
/-- a number as it is written -/
def numS (n : Int) : Str := Str.ofString (toString n)
theorem numS_tl {n : Int} (h : 0 ≤ n) : (numS n).cps.toList = numL n.toNat := by
  obtain ⟨k, rfl⟩ := Int.eq_ofNat_of_zero_le h
  exact tl_num k
theorem digit_ok : ∀ d : Fin 10, Unicode.isDigit (48 + d.val) = true := by decide +kernel
theorem isDigit_of {c : Nat} (h : 48 ≤ c ∧ c ≤ 57) : Unicode.isDigit c = true := by
  have e := digit_ok ⟨c - 48, by omega⟩
  have q : 48 + (c - 48) = c := by omega
  rw [show 48 + (⟨c - 48, by omega⟩ : Fin 10).val = c from q] at e
  exact e
theorem str_len (x : Str) : x.length = x.cps.toList.length := rfl
theorem all_cps {x : Str} {p : Nat → Bool} (h : ∀ c, c ∈ x.cps.toList → p c = true) : x.cps.all p = true := by
  rw [← Array.all_toList]
  exact List.all_eq_true.mpr h
theorem numS_digit {n : Int} (h : 0 ≤ n) : Txt.isdigit (numS n) = true := by
  unfold Txt.isdigit
  have e := numS_tl h
  have l : (numS n).length > 0 := by
    rw [str_len, e]
    exact List.length_pos_iff.mpr (numL_ne _)
  rw [all_cps (p := Unicode.isDigit) fun c hc => ?_, decide_eq_true l]
  · rfl
  · rw [e] at hc
    exact isDigit_of (numL_digits _ c hc)
theorem numS_ascii {n : Int} (h : 0 ≤ n) : Txt.isascii (numS n) = true := by
  unfold Txt.isascii
  refine all_cps fun c hc => ?_
  rw [numS_tl h] at hc
  have q := numL_digits _ c hc
  exact decide_eq_true (by omega)
theorem numS_int {n : Int} (h : 0 ≤ n) (hb : n < 10 ^ 40) : intText? (numS n) = some n ∧ (numS n).length ≤ 40 := by
  obtain ⟨k, rfl⟩ := Int.eq_ofNat_of_zero_le h
  have hk : k < 10 ^ 40 := by
    have e : ((10 : Int) ^ 40) = ((10 ^ 40 : Nat) : Int) := by decide
    omega
  have hl : (numL k).length ≤ 40 := numL_len (by decide) hk
  refine ⟨int_num (by omega), ?_⟩
  rw [str_len, numS_tl h]
  exact hl
/-- the first digit -/
theorem numL_head : ∀ n : Nat, 0 < n → ∃ c r, numL n = c :: r ∧ 49 ≤ c := fun n => by
  induction n using Nat.strongRecOn with
  | _ n ih =>
    intro hn
    by_cases h : n < 10
    · exact ⟨48 + n, [], numL_lt h, by omega⟩
    · obtain ⟨c, r, e, q⟩ := ih (n / 10) (by omega) (by omega)
      refine ⟨c, r ++ [48 + n % 10], ?_, q⟩
      rw [numL_step (by omega), e]
      rfl
theorem numS_zero : numS 0 = ("0" : Str) := by decide +kernel
theorem str_ext {x y : Str} (h : x.cps.toList = y.cps.toList) : x = y := by
  obtain ⟨a⟩ := x
  obtain ⟨b⟩ := y
  exact congrArg Str.mk (Array.toList_inj.mp h)
theorem numS_ne0 {n : Int} (h : 0 < n) : numS n ≠ ("0" : Str) := fun z => by
  obtain ⟨c, r, e, q⟩ := numL_head n.toNat (by omega)
  have e2 := numS_tl (n := n) (by omega)
  rw [z, e] at e2
  have e3 : ("0" : Str).cps.toList = [48] := by decide +kernel
  rw [e3] at e2
  have := (List.cons.inj e2).1
  omega
theorem starts0 {x : Str} {c : Nat} {r : List Nat} (e : x.cps.toList = c :: r) (h : c ≠ 48) : Txt.startswith x ("0" : Str) = false := by
  unfold Txt.startswith
  have hx : x.cps = (c :: r).toArray := by rw [← e]
  have l0 : ("0" : Str).length = 1 := by decide +kernel
  have c0 : ("0" : Str).cps = #[48] := by decide +kernel
  have s0 : Builtin.Str.subAt x ("0" : Str) 0 = false := by
    unfold Builtin.Str.subAt
    rw [l0, c0, hx]
    refine beq_eq_false_iff_ne.mpr fun z => h ?_
    have z2 := congrArg Array.toList z
    simp at z2
    exact z2
  rw [s0, Bool.and_false]
theorem numS_inj {m n : Int} (hm : 0 ≤ m) (hn : 0 ≤ n) (h : numS m = numS n) : m = n := by
  have e := congrArg (fun x : Str => x.cps.toList) h
  simp only [numS_tl hm, numS_tl hn] at e
  have := numL_inj e
  omega
theorem numS_free {n : Int} {s : Nat} (h : 0 ≤ n) (hs : s < 48 ∨ 57 < s) : s ∉ (numS n).cps.toList := by
  rw [numS_tl h]
  exact numL_free hs
end DL
namespace DL
open PySem L2 Evl PyProof.Rows TL RZ
/-! ### unpacking a list or a tuple -/
def gSeq (K : PySem.W.Frag) (n : Nat) (t : TGs) : TG := fun v σ H Q => gTup K n t v σ H Q ∨ gUnl K n t v σ H Q
theorem pg_seq {X : Cx} {es : List Expr} {k : Nat} {t : TGs} {n : Nat} {pos : Pos} (hc : X.calm = true) (h : PGs X es t)
    (hn : (assignEach es X.env).length = n := by rfl) (hst : (assignEach es X.env).findIdx? (·.1) = none := by rfl) : PG X (.Tuple es k pos) (gSeq X.K n t) := by
  refine ⟨fun pins s σ H v u Q I r hw => ?_⟩
  rcases hw with hw | hw
  · exact (pg_tup hc h hn hst).run pins s σ H v u Q I r hw
  · exact (pg_unl hc h hn hst).run pins s σ H v u Q I r hw
section
variable {O : List Addr} {n : Nat} {ρ ρ' : Rho} {ta tb te to : TE} {x y z d : PyData} {K : PySem.W.Frag} {ds es zs : List PyData} {vs : List Nat} {wi : TI} {g : TG}
theorem tg_seq {m : Nat} {gs : TGs} (hs : SeqD x ds) (h : TgsD O n vs gs ρ ds ρ') (hm : ds.length = m) : TgD O n vs (gSeq K m gs) ρ x ρ' := fun σ H v hn s hd Q q => by
  cases hs with
  | lst =>
    cases hd with
    | lst a k => exact .inr ⟨_, _, rfl, sq_of (sub_of a).1, by rw [k.length]; exact hm, h.run σ H _ hn s k Q q⟩
  | tup =>
    cases hd with
    | tup a k => exact .inl ⟨_, _, rfl, st_of (sub_of a).1, by rw [k.length]; exact hm, h.run σ H _ hn s k Q q⟩
theorem rc_lenS (hs : SeqD x ds) : RDC O (rLen K) [x] (.int ds.length) := by
  cases hs with
  | lst => exact rc_lenL
  | tup => exact rc_lenT
/-- a comprehension over data of one kind to data of one kind -/
theorem ed_lcM {α β : Type} {e1 : α → PyData} {e2 : β → PyData} {f : α → β} {l : List α} (hw : IterD O n wi ρ (l.map e1)) (hl : l.length ≤ 100000)
    (h : ∀ D a, a ∈ l → ∃ ρ', TgD (D :: O) n vs g (wipeR ρ vs) (e1 a) ρ' ∧ EvD (D :: O) n te ρ' (e2 (f a))) : EvD O n (tLc wi g tYes te vs) ρ (.list ((l.map f).map e2)) := by
  refine ed_lc hw (by rw [List.length_map]; exact hl) fun D => ?_
  rw [List.map_map]
  exact All2.of fun a ha => h D a ha
end
theorem sum_le {c : Nat} : ∀ {xs : List Str}, (∀ x, x ∈ xs → x.length ≤ c) → (xs.map (·.length)).sum ≤ c * xs.length
  | [], _ => by simp
  | x :: xs, h => by
    have h1 := h x (List.mem_cons_self ..)
    have h2 := sum_le (xs := xs) fun y hy => h y (List.mem_cons_of_mem _ hy)
    rw [List.map_cons, List.sum_cons, List.length_cons, Nat.mul_succ]
    omega
theorem pow40 : ((10 : Int) ^ 40) = 10000000000000000000000000000000000000000 := by decide
theorem log_ok {n : Int} (h0 : 0 ≤ n) (h : n < 10 ^ 40) : n.natAbs.log2 < 1920 := by
  have e : n.natAbs < 2 ^ 1919 := by
    have q : n.natAbs < 10000000000000000000000000000000000000000 := by rw [pow40] at h; omega
    exact Nat.lt_of_lt_of_le q (by decide)
  by_cases z : n.natAbs = 0
  · rw [z]; decide
  · exact Nat.lt_trans ((Nat.log2_lt z).mpr e) (by decide)
/-- deep: each tuple a list -/
def lstD : PyData → PyData
  | .list xs => .list (lstAll xs)
  | .tuple xs => .list (lstAll xs)
  | d => d
where lstAll : List PyData → List PyData
  | [] => []
  | x :: xs => lstD x :: lstAll xs
def R_lists (n : Nat) (ds : List PyData) (d : PyData) : Prop := ∃ x, okD n x ∧ ds = [x] ∧ d = lstD x
theorem lstAll_map : ∀ xs : List PyData, lstD.lstAll xs = xs.map lstD
  | [] => rfl
  | x :: xs => by
    show lstD x :: lstD.lstAll xs = _
    rw [lstAll_map xs]
    rfl
end DL
namespace DL
open PySem L2 Evl PyProof.Rows TL RZ
theorem lay_ints : ∀ ns : List Int, PyData.canLayAll0 (dI ns) = true ∧ PyData.depthAll (dI ns) = 0
  | [] => ⟨rfl, rfl⟩
  | n :: ns => by
    obtain ⟨h1, h2⟩ := lay_ints ns
    constructor
    · show (PyData.canLay0 (.int n) && PyData.canLayAll0 (dI ns)) = true
      rw [h1]
      rfl
    · show max (PyData.depth (.int n)) (PyData.depthAll (dI ns)) = 0
      rw [h2]
      rfl
theorem shaped_ints {x : PyData} {ns : List Int} (h : SeqD x (dI ns)) : SeqAt.shaped x = true := by
  obtain ⟨h1, h2⟩ := lay_ints ns
  unfold SeqAt.shaped
  cases h with
  | lst =>
    show (PyData.canLayAll0 (dI ns) && decide (PyData.depthAll (dI ns) + 1 ≤ 64)) = true
    rw [h1, h2]
    rfl
  | tup =>
    show (PyData.canLayAll0 (dI ns) && decide (PyData.depthAll (dI ns) + 1 ≤ 64)) = true
    rw [h1, h2]
    rfl
theorem eqv_ints {x : PyData} {ns : List Int} (h : SeqD x (dI ns)) : PyData.eqv x x = true := by
  refine SeqAt.eqv_refl x ?_
  cases h with
  | lst => exact (lay_ints ns).1
  | tup => exact (lay_ints ns).1
theorem all_true {α : Type} {f : α → Bool} : ∀ {l : List α}, (∀ a, a ∈ l → f a = true) → (l.map f).all id = true
  | [], _ => rfl
  | a :: l, h => by
    rw [List.map_cons, List.all_cons, h a (List.mem_cons_self ..), all_true fun b hb => h b (List.mem_cons_of_mem _ hb)]
    rfl
end DL
namespace DL
open PySem L2 Evl PyProof.Rows TL RZ
theorem hu64 {k : Nat} {A : Around} (h : Room k A) : A.units + 64 < cLine := by
  have := h.un
  omega
theorem joinL_len (S : List Nat) : ∀ parts : List (List Nat), (joinL S parts).length ≤ (parts.map (·.length)).sum + parts.length * S.length
  | [] => by simp [joinL]
  | [p] => by simp [joinL]
  | p :: q :: r => by
    have ih := joinL_len S (q :: r)
    show (p ++ (S ++ joinL S (q :: r))).length ≤ _
    rw [List.length_append, List.length_append, List.map_cons, List.sum_cons, List.length_cons (a := p), Nat.succ_mul]
    omega
theorem Txt_join_len (y : Str) (xs : List Str) : (Txt.join y xs).length ≤ (xs.map (·.length)).sum + xs.length * y.length := by
  rw [join_eq]
  have e : (Str.join y xs).length = (joinL (tl y) (xs.map tl)).length := by
    rw [← tl_join]
    rfl
  rw [e]
  have q := joinL_len (tl y) (xs.map tl)
  rw [List.length_map, List.map_map] at q
  exact q
end DL
namespace DL
open PySem L2 PyProof.Rows TL RZ
theorem zip_same (xs : List PyData) : zipD xs xs = xs.map fun y => PyData.tuple [y, y] := by
  unfold zipD
  induction xs with
  | nil => rfl
  | cons x xs ih =>
    rw [List.zipWith_cons_cons, ih]
    rfl
theorem okD_flat {n : Nat} {x : PyData} (h : okD n x) (h1 : ∀ xs, x ≠ .list xs) (h2 : ∀ xs, x ≠ .tuple xs) : ∀ m, 0 < m → okD m x := fun m hm => by
  cases m with
  | zero => omega
  | succ m =>
    cases n with
    | zero => exact h.elim
    | succ n =>
      cases x with
      | list xs => exact absurd rfl (h1 xs)
      | tuple xs => exact absurd rfl (h2 xs)
      | dict kvs => exact h.elim
      | none => trivial
      | bool b => trivial
      | int i => trivial
      | str s => trivial
/-! ### the law's box of draws, at p: three numbers; at most c draws so far -/
def Box (p : Addr) (c : Nat) (H : Hp) : Prop := ∃ b0 b1 b2 : Int, H p = some (.lst [.int b0, .int b1, .int b2]) ∧ 0 ≤ b0 ∧ 0 ≤ b1 ∧ b1 < 2 ^ 62 ∧ 0 ≤ b2 ∧ b2 ≤ c
theorem Box.mono {p : Addr} {c d : Nat} {H : Hp} (b : Box p c H) (h : c ≤ d) : Box p d H := by
  obtain ⟨b0, b1, b2, e, h0, h1, h2, h3, h4⟩ := b
  exact ⟨b0, b1, b2, e, h0, h1, h2, h3, by omega⟩
theorem Box.ex {p : Addr} {c : Nat} {H H' : Hp} (b : Box p c H) (h : Evl.Ex H H') : Box p c H' := by
  obtain ⟨b0, b1, b2, e, r⟩ := b
  exact ⟨b0, b1, b2, h _ _ e, r⟩
theorem Box.own {p : Addr} {c : Nat} {H : Hp} (b : Box p c H) : ∀ a, a ∈ [p] → H a ≠ none := fun a ha z => by
  obtain ⟨b0, b1, b2, e, _⟩ := b
  rw [List.mem_singleton.mp ha, e] at z
  cases z
/-- a draw below m -/
def spTake : Sp := fun vs H Q _ => ∃ (p : Addr) (c : Nat) (m : Int), vs = [.ref p, .int m] ∧ Box p c H ∧ c ≤ 1000000 ∧ 0 < m ∧ m.natAbs.log2 < 9000 ∧ ∀ (r : Int) (H' : Hp), 0 ≤ r → r < m → ExO [p] H H' → Box p (c + 1) H' → Q (.int r) H'
/-- one of the goods, drawn -/
def spOf : Sp := fun vs H Q _ => ∃ (p : Addr) (c : Nat) (x : V) (ds : List PyData), vs = [.ref p, x] ∧ Box p c H ∧ c ≤ 1000000 ∧ Dq (sub H [p]) x (.list ds) ∧ 0 < ds.length ∧ ds.length ≤ 1000 ∧
  ∀ (d : PyData) (v : V) (H' : Hp), d ∈ ds → Dq (sub H' [p]) v d → ExO [p] H H' → Box p (c + 1) H' → Q v H'
theorem rc1 {K : PySem.W.Frag} {σ : L2.St} {H : Hp} {te : TE} {i : Int} (h : Evl.Ev te σ H (.int i)) : Evl.Ev (tCB (fun xs H Q => (∃ i, xs = [.int i] ∧ Q (.int i) H) ∨ ∃ k, xs = [.bl k] ∧ Q (.int (if k then 1 else 0)) H) (tCons te tNil)) σ H (.int i) :=
  fun H1 e Q q => h H1 e _ fun H2 e2 => .inl ⟨i, rfl, q H2 e2⟩
theorem rcb {K : PySem.W.Frag} {σ : L2.St} {H : Hp} {te : TE} {b : Bool} (h : Evl.Ev te σ H (.bl b)) : Evl.Ev (tCB (fun xs H Q => (∃ i, xs = [.int i] ∧ Q (.int i) H) ∨ ∃ k, xs = [.bl k] ∧ Q (.int (if k then 1 else 0)) H) (tCons te tNil)) σ H (.int (if b then 1 else 0)) :=
  fun H1 e Q q => h H1 e _ fun H2 e2 => .inr ⟨b, rfl, q H2 e2⟩
theorem rabs {σ : L2.St} {H : Hp} {te : TE} {i : Int} (h : Evl.Ev te σ H (.int i)) : Evl.Ev (tCB (fun xs H Q => ∃ i, xs = [.int i] ∧ Q (.int (if i < 0 then -i else i)) H) (tCons te tNil)) σ H (.int (if i < 0 then -i else i)) :=
  fun H1 e Q q => h H1 e _ fun H2 e2 => ⟨i, rfl, q H2 e2⟩
end DL
namespace DL
open PySem L2 PyProof.Rows TL RZ
/-- the look of okD -/
def okB : Nat → PyData → Bool
  | 0, _ => false
  | n + 1, .list xs => decide (xs.length ≤ 1000) && xs.all (okB n)
  | n + 1, .tuple xs => decide (xs.length ≤ 1000) && xs.all (okB n)
  | _ + 1, .dict _ => false
  | _ + 1, _ => true
theorem okD_of : ∀ {n : Nat} {x : PyData}, okB n x = true → okD n x
  | 0, _, h => by cases h
  | n + 1, .list xs, h => by
    have h := Bool.and_eq_true_iff.mp h
    exact ⟨of_decide_eq_true h.1, fun y hy => okD_of (List.all_eq_true.mp h.2 y hy)⟩
  | n + 1, .tuple xs, h => by
    have h := Bool.and_eq_true_iff.mp h
    exact ⟨of_decide_eq_true h.1, fun y hy => okD_of (List.all_eq_true.mp h.2 y hy)⟩
  | _ + 1, .dict _, h => by cases h
  | _ + 1, .none, _ => trivial
  | _ + 1, .bool _, _ => trivial
  | _ + 1, .int _, _ => trivial
  | _ + 1, .str _, _ => trivial
theorem r_same {n : Nat} {x y : PyData} (e : x = y) (h : okD n y) : R_same n [x, y] (.bool true) := ⟨y, h, by rw [e], rfl⟩
theorem r_lists {n : Nat} {x : PyData} (h : okB n x = true) : R_lists n [x] (lstD x) := ⟨x, okD_of h, rfl, rfl⟩
/-- the ints of data -/
def unI : List PyData → List Int
  | .int i :: r => i :: unI r
  | _ => []
end DL
/-! The rules that name the written part, with it told (so that a reading within a block does not hang on the block). -/
namespace DL
open PySem L2 PyProof.Rows TL RZ
section
variable {X : Cx} {K : PySem.W.Frag}
theorem kLen (hK : X.K = K) : CallR X (.builtin "len") (rLen K) := by subst hK; exact call_len_seq
theorem kList (hK : X.K = K) : CallR X (.type "list") (rListOf K) := by subst hK; exact call_list_of
theorem kTuple (hK : X.K = K) : CallR X (.type "tuple") (rTupleOf K) := by subst hK; exact call_tuple_of
theorem kAll (hK : X.K = K) (hc : X.calm = true) : CallR X (.builtin "all") (rAll K) := by subst hK; exact cr_all hc
theorem kSum (hK : X.K = K) (hc : X.calm = true) : CallR X (.builtin "sum") (rSum K) := by subst hK; exact cr_sum hc
theorem kSorted (hK : X.K = K) : CallR X (.builtin "sorted") (rSortedI K) := by subst hK; exact cr_sortedI
theorem kSortedRev {b : Bool} (hK : X.K = K) : CallRK X (.builtin "sorted") [Str.ofString "reverse"] (rSortedKw K b [.bl b]) := by subst hK; exact cr_sortedRev
theorem kIsi (hK : X.K = K) : CallR X (.builtin "isinstance") (rIsi K) := by subst hK; exact call_isi
theorem kIsiT (hK : X.K = K) : CallR X (.builtin "isinstance") (rIsiT K) := by subst hK; exact call_isiT
theorem kIxL (hK : X.K = K) : IxR X (rIxL K) := by subst hK; exact ix_list
theorem kIxT (hK : X.K = K) : IxR X (rIxT K) := by subst hK; exact ix_tup
theorem kSlL (hK : X.K = K) : SlR X (rSlL K) := by subst hK; exact sl_list
theorem kSlA (hK : X.K = K) : SlR X (rSlA K) := by subst hK; exact sl_tupA
theorem kEqD (hK : X.K = K) (hu : X.A.units + 64 < cLine) : OpR X (compareOp .Eq) (rEqD K) := by subst hK; exact op_eqD hu
theorem kNeD (hK : X.K = K) (hu : X.A.units + 64 < cLine) : OpR X (compareOp .NotEq) (rNeD K) := by subst hK; exact op_neD hu
theorem kIn (hK : X.K = K) : OpR X (compareOp .In) (rIn K false) := by subst hK; exact op_in_seq
theorem kNotIn (hK : X.K = K) : OpR X (compareOp .NotIn) (rIn K true) := by subst hK; exact op_notIn_seq
theorem kCatA (hK : X.K = K) : OpR X (binaryOp .Add) (rCatA K) := by subst hK; exact op_catA
theorem kRepT (hK : X.K = K) : OpR X (binaryOp .Mult) (rRepT K) := by subst hK; exact op_repT
end
section
variable {X : Cx} {K : PySem.W.Frag} {tg l e e2 o a b : Expr} {tl te to ta tb : TE} {t : TA} {pos p apos tpos : Pos} {elts es rest : List Expr} {kk : Nat}
theorem kiList (hK : X.K = K) (hl : PE X l tl) : PI X tg l (iList K tl) := by subst hK; exact pi_list hl
theorem kiTup (hK : X.K = K) (hl : PE X l tl) : PI X tg l (iTup K tl) := by subst hK; exact pi_tup hl
theorem kiSeq (hK : X.K = K) (hl : PE X l tl) : PI X tg l (iSeq K tl) := by subst hK; exact pi_seq hl
theorem kiEnum (hK : X.K = K) (hg : Gl X "enumerate") (hm : X.mg "enumerate" = none) (ha : PA X [e] t) (hs : starEach [e] X.env = [(false, eval e X.env)] := by rfl) :
    PI X (.Tuple elts kk tpos) (.Call (.Name "enumerate" p) [e] [] pos) (iEnum K t) := by subst hK; exact pi_enum hg hm ha hs
theorem kiZip (hK : X.K = K) (hg : Gl X "zip") (hm : X.mg "zip" = none) (ha : PA X [e, e2] t) (hs : starEach [e, e2] X.env = (false, eval e X.env) :: starEach [e2] X.env := by rfl) (hpl : (backTo pos (starEach [e2] X.env)).any (·.1) = false := by rfl) :
    PI X (.Tuple elts kk tpos) (.Call (.Name "zip" p) [e, e2] [] pos) (iZip K t) := by subst hK; exact pi_zip hg hm ha hs hpl
theorem kiZipA (hK : X.K = K) (hg : Gl X "zip") (hm : X.mg "zip" = none) (ha : PA X [e, e2] t) (hs : starEach [e, e2] X.env = (false, eval e X.env) :: starEach [e2] X.env := by rfl) (hpl : (backTo pos (starEach [e2] X.env)).any (·.1) = false := by rfl) :
    PI X (.Tuple elts kk tpos) (.Call (.Name "zip" p) [e, e2] [] pos) (iZipA K t) := by subst hK; exact pi_zipA hg hm ha hs hpl
theorem kJoin (hK : X.K = K) (ho : PE X o to) (he : PE X e te) (hs : starEach [e] X.env = [(false, eval e X.env)] := by rfl) (hbase : attributeBase o "join" X.env (eval o X.env) = eval o X.env := by rfl) (hline : (apos.endLine == pos.line) = true := by rfl) :
    PE X (.Call (.Attribute o "join" apos) [e] [] pos) (tM1 (fun x xs H Q => ∃ a p, ∃ ys : List Str, x = .str a ∧ xs = [.ref p] ∧ (SqL K H p (ys.map V.str) ∨ SqT K H p (ys.map V.str)) ∧
      (ys.map (·.length)).sum + ys.length * a.length ≤ 16777216 ∧ Q (.str (Txt.join a ys)) H) to te) := by subst hK; exact pe_join ho he hs hbase hline
theorem kRev {k : Nat} {p1 p2 p3 : Pos} (hK : X.K = K) (he : PE X e te) : PE X (.Subscript e (.Slice none none (some (.UnaryOp .USub (.Constant (.int 1) k p1) p2)) p3) pos) (tRevL K te) := by subst hK; exact pe_revL he
theorem kOrT (hK : X.K = K) (ha : PE X a ta) (hb : PE X (.BoolOp .Or (b :: rest) pos) tb) : PE X (.BoolOp .Or (a :: b :: rest) pos) (tOrT K ta tb) := by subst hK; exact pe_orT ha hb
theorem kgTup {t : TGs} {n : Nat} (hK : X.K = K) (hc : X.calm = true) (h : PGs X es t) (hn : (assignEach es X.env).length = n := by rfl) (hst : (assignEach es X.env).findIdx? (·.1) = none := by rfl) : PG X (.Tuple es kk pos) (gTup K n t) := by subst hK; exact pg_tup hc h hn hst
theorem kgSeq {t : TGs} {n : Nat} (hK : X.K = K) (hc : X.calm = true) (h : PGs X es t) (hn : (assignEach es X.env).length = n := by rfl) (hst : (assignEach es X.env).findIdx? (·.1) = none := by rfl) : PG X (.Tuple es kk pos) (gSeq K n t) := by subst hK; exact pg_seq hc h hn hst
end
end DL
namespace DL
open PySem PySem.W PySem.Calls L2 PyProof.Rows TL RZ
open Builtin.Float (FormatSpec parseFormatSpec)
/-! ### a number with its sign ahead -/
/-- a number as it is written with its sign -/
def plusS (i : Int) : Str := if i < 0 then Str.ofString (toString i) else ("+" : Str) ++ Str.ofString (toString i)
def fPlus : FormatSpec := { align := 62, sign := some 43, type := some 100 }
theorem fPlus_ok : parseFormatSpec (Str.ofString "+d").cps.toList "int" 62 = .ok fPlus := by kernel_rfl
def fieldP (i : Int) : Str := intField' fPlus (decide (i < 0)) [] ((Nat.toDigits 10 i.natAbs).map fun c => (if (100 : Nat) == 88 then c.toUpper else c).toNat) [] 3
theorem field_tl (i : Int) : (fieldP i).cps.toList = (if i < 0 then 45 else 43) :: (Nat.toDigits 10 i.natAbs).map Char.toNat := by
  unfold fieldP intField' fPlus
  by_cases h : i < 0
  · simp [h]
  · simp [h]
theorem plus_meets {i : Int} {t : Tok} (hi : i.natAbs.log2 < 1920) (hz : (plusS i).length ≤ sizeLine) (e : fieldP i = plusS i) :
    ∀ u, Meets (Builtin.«int.__format__» ⟨[.int i t, .str (Str.ofString "+d") u], []⟩) (fun _ R s => ∀ t' k, R (.ok (.ret (.str (plusS i) t'))) { s with toks := k }) := by
  intro u
  apply KPc.meets_of
  intro prog w A s Q E k
  unfold Builtin.«int.__format__»
  refine wpAny_bind (wpAny_of_eq (a := (_, _)) rfl ?_)
  refine wpAny_bind (wpAny_of_eq (a := _) rfl ?_)
  kxf_if
  refine wpAny_bind (wpAny_typeNameOf (T := "str") (typeIs_str _ _ _) (by decide) fun _ => ?_)
  refine wpAny_bind (wpAny_of_eq (a := some _) rfl ?_)
  kxf_if
  kxf_if
  refine wpAny_bind (wpAny_typeNameOfCut_int ?_)
  rw [fPlus_ok]
  (repeat kxf_if)
  refine wpAny_bind (wpAny_of_eq (PySem.overDigitLimit_small hi) ?_)
  (repeat kxf_if)
  refine KXf.ret_text (T := plusS i) (Eq.trans ?_ e) ?_ k
  · rfl
  · show (fieldP i).length ≤ _
    rw [e]
    exact hz
end DL
namespace DL
open PySem PySem.W PySem.Calls L2 PyProof.Rows TL RZ NumText
theorem ofInt_tl (i : Int) : (Str.ofString (toString i)).cps.toList = if i < 0 then 45 :: numL i.natAbs else numL i.natAbs := by
  cases i with
  | ofNat k =>
    rw [if_neg (by exact Int.not_lt.mpr (Int.natCast_nonneg k))]
    exact tl_num k
  | negSucc k =>
    rw [if_pos (Int.negSucc_lt_zero k)]
    have e : toString (Int.negSucc k) = "-" ++ toString (k + 1) := rfl
    rw [e]
    have q := tl_ofString ("-" ++ toString (k + 1))
    unfold tl at q
    rw [q, String.toList_append, List.map_append]
    have q2 := tl_num (k + 1)
    have e2 : (toString (((k + 1 : Nat)) : Int)) = toString (k + 1) := rfl
    rw [e2, tl_ofString] at q2
    rw [q2]
    rfl
/-- the signs of a number that is written with its sign -/
def sigL (i : Int) : List Nat := (if i < 0 then 45 else 43) :: numL i.natAbs
theorem plusS_tl (i : Int) : (plusS i).cps.toList = sigL i := by
  unfold plusS sigL
  by_cases h : i < 0
  · rw [if_pos h, if_pos h, ofInt_tl, if_pos h]
  · rw [if_neg h, if_neg h]
    have e := tl_append ("+" : Str) (Str.ofString (toString i))
    unfold tl at e
    rw [e, ofInt_tl, if_neg h]
    have p0 : ("+" : Str).cps.toList = [43] := by decide +kernel
    rw [p0]
    rfl
theorem field_plus (i : Int) : fieldP i = plusS i := str_ext (by rw [field_tl, plusS_tl]; rfl)
theorem natAbs40 {i : Int} (h : -(10 ^ 40) < i ∧ i < 10 ^ 40) : i.natAbs < 10 ^ 40 := by
  have e := pow40
  have e2 : (10 ^ 40 : Nat) = 10000000000000000000000000000000000000000 := by decide
  rw [e] at h
  rw [e2]
  omega
theorem numL_len40 {i : Int} (h : -(10 ^ 40) < i ∧ i < 10 ^ 40) : (numL i.natAbs).length ≤ 40 := numL_len (by decide) (natAbs40 h)
theorem plusS_len {i : Int} (h : -(10 ^ 40) < i ∧ i < 10 ^ 40) : (plusS i).length ≤ 41 := by
  rw [str_len, plusS_tl]
  have := numL_len40 h
  show _ + 1 ≤ _
  omega
theorem log_abs {i : Int} (h : -(10 ^ 40) < i ∧ i < 10 ^ 40) : i.natAbs.log2 < 1920 := by
  have q := natAbs40 h
  have e2 : (10 ^ 40 : Nat) = 10000000000000000000000000000000000000000 := by decide
  rw [e2] at q
  have e : i.natAbs < 2 ^ 1919 := Nat.lt_of_lt_of_le q (by decide)
  by_cases z : i.natAbs = 0
  · rw [z]; decide
  · exact Nat.lt_trans ((Nat.log2_lt z).mpr e) (by decide)
/-- a number read back from its text with a sign -/
theorem int_plus {i : Int} (h : -(10 ^ 40) < i ∧ i < 10 ^ 40) : PySem.intText? (plusS i) = some i := by
  have hl := numL_len40 h
  have hv := numL_val i.natAbs
  by_cases n : i < 0
  · have hx : (plusS i).cps.toList = 45 :: numL i.natAbs := by
      rw [plusS_tl]
      unfold sigL
      rw [if_pos n]
    rw [intText_neg hx (numL_digits _) (numL_ne _) (by have := plusS_len h; omega), hv]
    exact congrArg some (by omega)
  · have hx : (plusS i).cps.toList = 43 :: numL i.natAbs := by
      rw [plusS_tl]
      unfold sigL
      rw [if_neg n]
    have dig := numL_digits i.natAbs
    have e1 : numTextOf (plusS i) = 43 :: numL i.natAbs := by
      rw [← hx]
      refine if_pos (all_cps fun c hc => ?_)
      rw [hx] at hc
      rcases List.mem_cons.mp hc with rfl | hc
      · decide
      · have := dig c hc
        exact decide_eq_true (by omega)
    have e2 : numSeenOf (plusS i) = 43 :: numL i.natAbs := by
      show (numTextOf (plusS i)).takeWhile _ = _
      rw [e1]
      refine takeWhile_all fun c hc => ?_
      rcases List.mem_cons.mp hc with rfl | hc
      · decide
      · have := dig c hc
        exact bne_iff_ne.mpr (by omega)
    have es : sign ((43 :: numL i.natAbs).dropWhile blank) = (false, numL i.natAbs) := by
      rw [dropWhile_of (by decide)]
      rfl
    have ec : core (43 :: numL i.natAbs) = numL i.natAbs := by
      unfold core
      rw [es]
      show ((numL i.natAbs).reverse.dropWhile blank).reverse = _
      rw [dropWhile_digits dig.reverse, List.reverse_reverse]
    unfold PySem.intText?
    rw [e1, e2, if_pos (beq_self_eq_true _), ec, es, digits_of dig (numL_ne _)]
    have hsz := push_size (numL i.natAbs) #[]
    have hw := push_foldl (numL i.natAbs) #[]
    dsimp only
    rw [if_pos (by rw [hsz]; simp only [Array.size_empty]; omega)]
    unfold digitsVal at hv
    unfold worth
    rw [hw]
    show some (((List.foldl (fun acc c => acc * 10 + (c - 48)) 0 (numL i.natAbs) : Nat) : Int)) = some i
    rw [hv]
    exact congrArg some (by omega)
/-! ### {x:+d} -/
def tPlus (te ts : TE) : TE := fun σ H Q => te σ H fun x H1 => ∃ i : Int, x = .int i ∧ i.natAbs.log2 < 1920 ∧ (plusS i).length ≤ 41 ∧ ts σ H1 fun y H2 => y = .str (Str.ofString "+d") ∧ Q (.str (plusS i)) H2
theorem pe_plus {X : Cx} {e se : Expr} {te ts : TE} {pos : Pos} (he : PE X e te) (hs : PE X se ts) : PE X (.FormattedValue e (-1) (some se) pos) (tPlus te ts) := by
  refine ⟨fun pins s σ H Q I h => ?_⟩
  refine wpAny_FormattedValue_spec (thn (he.run pins s σ H _ I h) fun v s1 hv => ?_)
  obtain ⟨x, H1, I1, r1, i, rfl, hi, hl, q⟩ := hv
  obtain ⟨t, rfl⟩ := r1
  refine thn (hs.run pins s1 σ H1 _ I1 q) fun v2 s2 hv2 => ?_
  obtain ⟨y, H2, I2, r2, rfl, q2⟩ := hv2
  obtain ⟨t2, rfl⟩ := r2
  refine ⟨_, _, rfl, ?_⟩
  exact KXf.field_int rfl (by decide +kernel) (by decide +kernel) (plus_meets hi (Nat.le_trans hl (by decide)) (field_plus i)) fun t' k => ⟨.str (plusS i), H2, I2.tok _, ⟨_, rfl⟩, q2⟩
section
variable {O : List Addr} {n : Nat} {ρ : Rho} {te ts : TE}
theorem ed_plus {i : Int} (h : EvD O n te ρ (.int i)) (h2 : EvD O n ts ρ (.str (Str.ofString "+d"))) (hi : -(10 ^ 40) < i ∧ i < 10 ^ 40) : EvD O n (tPlus te ts) ρ (.str (plusS i)) := fun σ H hn s Q q => h σ H hn s _ fun v H1 e1 d1 => by
  cases d1
  refine ⟨i, rfl, log_abs hi, plusS_len hi, h2 σ H1 hn (s.ex e1) _ fun v2 H2 e2 d2 => ?_⟩
  cases d2
  exact ⟨rfl, q _ H2 (e1.trans e2) (.str _)⟩
end
end DL
namespace DL
open PySem L2 Evl PyProof.Rows TL RZ
section
variable {O : List Addr} {n : Nat} {ρ ρ1 ρ' : Rho} {g : TG} {tb : TS} {ds : List PyData} {wi : TI} {vs : List Nat} {K : PySem.W.Frag}
theorem tg_is {d : PyData} (h : TgD O n vs g ρ d ρ1) (e : ρ1 = ρ') : TgD O n vs g ρ d ρ' := e ▸ h
theorem wipeR_length (ρ : Rho) : ∀ vs : List Nat, (wipeR ρ vs).length = ρ.length
  | [] => rfl
  | v :: vs => by
    show ((wipeR ρ vs).set v none).length = _
    rw [List.length_set]
    exact wipeR_length ρ vs
/-- a for over data: R by the turn -/
theorem rn_for (hw : IterD O n wi ρ ds) (R : Nat → Rho) (h0 : R 0 = ρ) (hs : ∀ i d, ds[i]? = some d → ∃ ρ', TgD O n vs g (R i) d ρ' ∧ RunN O n tb ρ' (R (i + 1))) :
    RunN O n (tFor wi g tb) ρ (R ds.length) := fun D σ H hn s k => hw σ H hn s _ fun J H1 G Y e1 W g1 gk yk => by
  refine for_it (W O) (fun i σ2 H2 => σ2.length = n ∧ Ex H1 H2 ∧ SD O H2 σ2 (R i)) ⟨hn, Ex.refl H1, by rw [h0]; exact s.ex e1⟩ (fun i σ2 H2 _ p => gk _ _ _ _ g1 (Ex.o O p.2.1)) ?_ ?_
  · rintro i x σ2 H2 H3 hi ⟨l2, x2, s2⟩ y
    obtain ⟨e3, d, hdi, hx⟩ := yk O i H2 x H3 hi s2.own (gk _ _ _ _ g1 (Ex.o O x2)) y
    obtain ⟨ρ', ht, hb⟩ := hs i d hdi
    refine ht σ2 H3 x l2 (s2.ex e3) hx _ fun σ' hl' _ s' => ?_
    exact hb _ σ' H3 hl' s' fun σ4 H4 hl4 e4 s4 => ⟨hl4, (x2.trans e3).trans e4, s4⟩
  · rintro σ2 H2 ⟨l2, x2, s2⟩
    exact k σ2 H2 l2 (e1.trans x2) s2
theorem flatD {H : Hp} {xs : List V} {ds : List PyData} (h : DqAll H xs ds) : ∀ k : Nat, DqAll H (List.replicate k xs).flatten (List.replicate k ds).flatten
  | 0 => .nil
  | k + 1 => by
    rw [List.replicate_succ, List.replicate_succ, List.flatten_cons, List.flatten_cons]
    exact h.append (flatD h k)
theorem rd_repT {xs : List PyData} {k : Int} (h : xs ≠ []) (hl : xs.length ≤ 1000) (h1 : 2 ≤ k) (h2 : k ≤ 1000) : RD O (rRepT K) (.tuple xs) (.int k) (.tuple (List.replicate k.toNat xs).flatten) := fun H v w ho a b Q q => by
  cases a with
  | tup a d =>
    cases b
    refine ⟨_, k, _, rfl, rfl, st_of (sub_of a).1, ?_, h1, h2, by rw [d.length]; exact hl, fun p hp => ?_⟩
    · intro z
      subst z
      cases d
      exact h rfl
    · exact q _ _ (Ex.new hp) (.tup (sub_mk upd_same (not_own ho hp)) ((flatD d _).mono (Ex.o _ (Ex.new hp))))
theorem rd_catT {xs ys : List PyData} (h : xs.length + ys.length ≤ 100000) : RD O (rCatA K) (.tuple xs) (.tuple ys) (.tuple (xs ++ ys)) := fun H v w ho a b Q q => by
  cases a with
  | tup a d =>
    cases b with
    | tup a2 d2 =>
      refine ⟨_, _, _, _, rfl, rfl, st_of (sub_of a).1, st_of (sub_of a2).1, sz_of (by rw [d.length, d2.length]; exact h), fun z => ?_, fun _ z => ?_, fun _ _ p hp => ?_⟩
      · subst z
        cases d
        exact q _ _ (Ex.refl H) (.tup a2 d2)
      · subst z
        cases d2
        exact q _ _ (Ex.refl H) (by rw [List.append_nil]; exact .tup a d)
      · exact q _ _ (Ex.new hp) (.tup (sub_mk upd_same (not_own ho hp)) ((d.append d2).mono (Ex.o _ (Ex.new hp))))
end
end DL
namespace DL
open PySem L2 PyProof.Rows TL RZ
/-! ### for all laws: new lists beside the law's box -/
theorem ExO_mut {O : List Addr} {H H' : Hp} {p : Addr} {o : HO} (e : ExO O H H') (h : sub H O p = none) : ExO O H (upd H' p o) := fun a u ha => by
  have q := e a u ha
  obtain ⟨q1, q2⟩ := sub_of q
  refine sub_mk ?_ q2
  rw [upd_ne (ne_of_none ha h)]
  exact q1
theorem fresh_o {O : List Addr} {H H' : Hp} {p : Addr} (e : ExO O H H') (h : H' p = none) : sub H O p = none := by
  cases z : sub H O p with
  | none => rfl
  | some o =>
    have q := (sub_of (e p o z)).1
    rw [h] at q
    cases q
theorem tYes_go {σ : L2.St} {H : Hp} {A B : Hp → Prop} (h : A H) : tYes σ H fun b H3 => if b = true then A H3 else B H3 := by
  show if true = true then A H else B H
  rw [if_pos rfl]
  exact h
theorem sd_none {O : List Addr} {H : Hp} {σ : L2.St} (ho : ∀ a, a ∈ O → H a ≠ none) (k : Nat) : SD O H σ (List.replicate k none) := ⟨ho, fun i d h => by
  rw [List.getElem?_replicate] at h
  split at h <;> cases h⟩
theorem sort_ex (ns : List Int) : ∃ zs : List Int, zs.Perm ns ∧ zs.Pairwise (· ≤ ·) := by
  refine ⟨ns.mergeSort (fun a b => decide (a ≤ b)), List.mergeSort_perm _ _, ?_⟩
  have q := List.pairwise_mergeSort (le := fun (a b : Int) => decide (a ≤ b)) (fun a b c h1 h2 => by simp at *; omega) (fun a b => by simp; omega) ns
  exact q.imp fun h => by simpa using h
theorem run_go {O : List Addr} {n : Nat} {ts : TS} {ρ : Rho} {d : PyData} {D : Ends} {σ : L2.St} {H : Hp} (h : RunR O n ts ρ d) (hn : σ.length = n) (sd : SD O H σ ρ) (k : ∀ v H', Evl.Ex H H' → Dq (sub H' O) v d → D.rt v H') : ts D σ H := h D σ H hn sd k
/-- a drawn case comes out right -/
def spCase : Sp := fun vs H Q _ => ∃ (p : Addr) (c : Nat), vs = [.ref p] ∧ Box p c H ∧ c ≤ 900 ∧ ∀ H', ExO [p] H H' → Box p (c + 30) H' → Q (.bl true) H'
/-- all cases of a box -/
def spRight : Sp := fun vs H Q _ => ∃ (p : Addr), vs = [.ref p] ∧ Box p 0 H ∧ ∀ H', ExO [p] H H' → Q (.bl true) H'
/-- the law's box, made of a cell -/
def spBox (K : PySem.W.Frag) : Sp := fun vs H Q _ => ∃ (a : Addr) (cs : List Int) (j : Int), vs = [.ref a, .int j] ∧ SqL K H a (cs.map V.int) ∧ 0 ≤ j ∧ j ≤ 2 ∧ ∀ (p : Addr) (H' : Hp), H p = none → Evl.Ex H H' → Box p 0 H' → Q (.ref p) H'
theorem abs_pos (i : Int) : 0 ≤ (if i < 0 then -i else i) := by split <;> omega
/-- the cells of the script: one to three -/
def spCells (K : PySem.W.Frag) : Sp := fun vs H Q _ => ∃ (a : Addr) (ns : List Int), vs = [.ref a, .int 3] ∧ SqL K H a (ns.map V.int) ∧ ns.length ≤ 63 ∧
  ∀ (p : Addr) (cs : List Int) (H' : Hp), H p = none → Evl.Ex H H' → H' p = some (.lst (cs.map V.int)) → 1 ≤ cs.length → cs.length ≤ 3 → Q (.ref p) H'
theorem cut_map (ns : List Int) (lo hi : Option Int) : cutV (ns.map V.int) lo hi = ((ns.drop (HT.sIx ns.length 0 lo)).take (HT.sIx ns.length ns.length hi - HT.sIx ns.length 0 lo)).map V.int := by
  unfold cutV
  rw [List.length_map, List.map_take, List.map_drop]
end DL
/-! DX: own exceptions with one field: made, raised, caught, and kept as a value behind the suite that caught them. -/
namespace DL
open PySem PySem.Spec L2 PyProof.Rows
theorem exk_ok {P : Program} {w : World} {H : Hp} {h : Heap} {a : Addr} {cls : Value} {d : Option Addr} {oe : Obj} {vs : Array Value} (e : h.get? a = some oe) (z : Zc cls d oe) (f : oe.data = .fields vs) : ObjOk P w H h a (exk a cls d) :=
  ⟨⟨oe, e, z, vs, f⟩, ⟨oe, e⟩, fun _ _ ⟨u, p, q⟩ k => ⟨u, k u p, q⟩⟩
theorem exk_at {P : Program} {w : World} {H : Hp} {h : Heap} {a : Addr} {cls : Value} {d : Option Addr} (hok : HOk P w H h) (ha : H a = some (exk a cls d)) : ∃ oe : Obj, h.get? a = some oe ∧ Zc cls d oe ∧ ∃ vs, oe.data = .fields vs := by
  have x : ObjOk P w H h a (.ext fun h => ∃ oe : Obj, h.get? a = some oe ∧ Zc cls d oe ∧ ∃ vs, oe.data = .fields vs) := hok a _ ha
  exact x.1
section
variable {X : Cx} {pins : List (Addr × Obj)} {σ : L2.St} {H : Hp} {s : Shared} {a : Addr} {o : HO}
/-- an object that is there but was not told of is told of from now on -/
theorem track (I : Inv X pins σ H s) (na : H a = none) (n0 : X.s_0.heap.get? a = none) (np : ∀ p ∈ X.pn ++ pins, p.1 ≠ a) (nL : a ≠ X.env.locals)
    (nC : ∀ x c, X.env.cells.lookup x = some c → c ≠ a) (new : ObjOk X.prog X.w (upd H a o) s.heap a o) : Inv X pins σ (upd H a o) s where
  ok := I.ok
  os := I.os
  bare := I.bare
  base :=
    { keep := I.base.keep
      slot := I.base.slot
      there := I.base.there
      free := fun b u q n hx => by
        have nb : b ≠ a := fun z => by
          rw [z, n0] at q
          cases q
        rw [upd_ne nb]
        exact I.base.free b u q n hx
      tups := fun b xs q => by
        have t := I.base.tups b xs q
        rw [upd_ne (ne_of_none t na)]
        exact t
      frzs := fun b u x q => by
        have t := I.base.frzs b u x q
        rw [upd_ne (ne_of_none t na)]
        exact t
      tbls := fun b ps q => by
        obtain ⟨m, t⟩ := I.base.tbls b ps q
        refine ⟨m, ?_⟩
        rw [upd_ne (ne_of_none t na)]
        exact t }
  loc := I.loc
  cell := I.cell
  free := by
    rw [upd_ne (Ne.symm nL)]
    exact I.free
  freeC := fun x c e => by
    rw [upd_ne (nC x c e)]
    exact I.freeC x c e
  pin := fun p hp => by
    obtain ⟨p1, p2, p3⟩ := I.pin p hp
    refine ⟨p1, ?_, p3⟩
    rw [upd_ne (np p hp)]
    exact p2
  hok := I.hok.laidN (fun _ _ q => q) na new
  len := I.len
/-- what 'except x as n' wishes where each exception of the body is the clause's and the suite goes on: behind it the exception stays told of -/
def wKeep (K : PySem.W.Frag) (c : Value) (i : Nat) (ts : Addr → Value → Option Addr → TS) (D : Ends) : WX := fun cls d σ H =>
  PySem.W.exmOne K cls c = some true ∧ ∀ a, H a = none →
    ts a cls d { nx := fun σ' H' => H' a = none → D.nx (σ'.set i none) (upd H' a (exk a cls d)), rt := fun _ _ => False } (σ.set i (some (.ref a))) H
end
section
variable {X : Cx} {x n : Str} {c : Value} {i : Nat} {body suite : List Stmt} {b₀ : Stmt} {np pos pos' : Pos} {tb : WX → TS} {ts : Addr → Value → Option Addr → TS}
theorem ps_try_keep (hs : X.stack = X.env :: X.outer) (hf : X.env.frame = some X.env.locals) (hex : X.ex = []) (hN : X.N.Nodup) (hi : X.N[i]? = some n)
    (hln : X.env.kindOf n = some .local) (hc : Names X x c)
    (hb : ∀ (W : WX) (pn : List (Addr × Obj)) (xe : Value → Shared → Prop), Takes (X.tr pn xe) W → PassesOwn (model X.prog X.w) X.A X.env xe → PSs (X.tr pn xe) body (tb W))
    (hsu : ∀ (a : Addr) (oe : Obj) (cls : Value) (d : Option Addr) (pn : List (Addr × Obj)), Zc cls d oe → (∃ vs, oe.data = .fields vs) → PSs (X.suite a ((a, oe) :: pn)) (b₀ :: suite) (ts a cls d)) :
    PS X (.Try body [.ExceptHandler (some (.Name x np)) (some n) (b₀ :: suite) pos'] [] [] pos) (fun D σ H => tb (wKeep X.K c i ts D) D σ H) := by
  refine ⟨fun pins s σ H D I h => ?_⟩
  have ok := I.ok
  have frames : X.A.frames = some (X.env :: X.outer) := by
    rw [ok.frames, hs]
  refine wpAny_Try_except ?_
  refine wpAny_mono ((hb (wKeep X.K c i ts D) (X.pn ++ pins)
    (fun e s₁ => wpAny (model X.prog X.w) X.A (noteFrame e X.env) (fun _ s₂ => wpAny (model X.prog X.w) X.A (setFlight e none)
      (fun _ s₃ => wpAny (model X.prog X.w) X.A (handleBy e X.env [.ExceptHandler (some (.Name x np)) (some n) (b₀ :: suite) pos']) (SP X pins D) X.xe s₃) X.xe s₂) X.xe s₁)
    (fun u s' xx => ?_) PassesOwn.looking).run [] s σ H D (I.toTry _) h) (fun f s1 hsp => ?_) (fun e s1 he => he)
  · obtain ⟨a, B, sI, pins', σ', H', cls, d, rfl, J', nb, up, sky, na, os, ag, hone, hyes⟩ := xx
    have J : Inv X pins σ' H' sI := J'.ofTry ok
    rw [show (X.tr (X.pn ++ pins) _).stack = X.env :: X.outer from hs] at sky
    show wpAny (model X.prog X.w) X.A (noteFrame (.ref a) X.env) _ _ _
    refine Sky.land Zc.steady frames hf sky fun h3 fl3 up3 => ?_
    have J3 : Inv X pins σ' H' { s' with heap := h3 } := J.landed nb fl3.1 (up.trans up3) os ag
    obtain ⟨oe3, vs3, he3, hz3, hd3⟩ := fl3.there
    have away : ∀ {h : Heap} {ob : Obj} {vs : Array Value}, h.FunFrames B (X.env :: X.outer) → h.get? a = some ob → ob.data = .fields vs → a ∉ frs (X.env :: X.outer) := by
      intro h ob vs ff e dd hm
      obtain ⟨_, ob', e', no⟩ := ff.mem hm
      rw [e] at e'
      cases e'
      exact no _ dd
    have nfr := away fl3.2.2.1 he3 hd3
    have nL : a ≠ X.env.locals := by
      intro z
      refine nfr (List.mem_filterMap.mpr ⟨X.env, List.mem_cons_self, ?_⟩)
      rw [hf, z]
    have nF : a ∉ X.fs := by
      intro hm
      obtain ⟨e, he, q⟩ := List.mem_filterMap.mp hm
      exact nfr (List.mem_filterMap.mpr ⟨e, List.mem_cons_of_mem _ he, q⟩)
    -- the exception is new: nothing of what stood ahead of it lies there
    have nI : sI.heap.get? a = none := by
      cases e : sI.heap.get? a with
      | none => rfl
      | some ob =>
        have z := nb a ob e (by rw [show (X.tr (X.pn ++ pins) _).stack = X.env :: X.outer from hs]; exact nfr)
        rw [fl3.2.1] at z
        cases z
    have n0 : X.s_0.heap.get? a = none := by
      cases e : X.s_0.heap.get? a with
      | none => rfl
      | some ob =>
        obtain ⟨ob', q⟩ := J.base.there a ob e (by rw [hex]; exact List.not_mem_nil)
        rw [nI] at q
        cases q
    have npin : ∀ p ∈ X.pn ++ pins, p.1 ≠ a := by
      intro p hp z
      have q := (J.pin p hp).1
      rw [z, nI] at q
      cases q
    have ncell : ∀ y k, X.env.cells.lookup y = some k → k ≠ a := by
      intro y k e z
      obtain ⟨v, ob, q, _⟩ := J.cell y k e
      rw [z, nI] at q
      cases q
    have S3 := J3.suite he3 hd3 na nL nF
    refine wpAny_handleBy_cons (codeAny_handlers_test ?_) (by intro q; cases q)
    have looks : PySem.W.Looks (model X.prog X.w) h3 (typeOf (.ref a)) cls := by
      intro A Q E s k q
      refine wpAny_typeOf_ref (k _ _ he3) ?_
      rw [hz3.1]
      exact q
    have one := PySem.W.exm_one (M := model X.prog X.w) (J3.kIn) looks hone
    have test : ∀ {Q : Value → Shared → Prop} {E : Value → Shared → Prop}, Q c { s' with heap := h3 } → wpAny (model X.prog X.w) (X.A.mark (some (.ref a))) (eval (.Name x np) X.env) Q E { s' with heap := h3 } := by
      intro Q E q
      obtain ⟨g1, g2, g3 | ⟨g3, g4, g5⟩⟩ := hc
      · exact ld_glob (X := X.suite a ((a, oe3) :: (X.pn ++ pins))) S3 g1 g3 q g2
      · exact ld_blt (X := X.suite a ((a, oe3) :: (X.pn ++ pins))) S3 g1 g3 g4 q g5 g2
    refine test (one.here ?_)
    refine codeAny_handlers_suite_as ?_
    refine HandSPX.lands_againZ fl3 fun h4 fl4 up4 => ?_
    have J4 : Inv X pins σ' H' { s' with heap := h4 } := J.landed nb fl4.1 ((up.trans up3).trans up4) os ag
    obtain ⟨oe4, vs4, he4, hz4, hd4⟩ := fl4.there
    have S4 := J4.suite he4 hd4 na nL nF
    refine store_ok (X := X.suite a ((a, oe4) :: (X.pn ++ pins))) (v := .ref a) S4 hN hi (.inl hln) rfl (fun s5 S5 => ?_) (.inr hln)
    have go := (hsu a oe4 cls d (X.pn ++ pins) hz4 ⟨_, hd4⟩).run [] s5 _ H' _ S5 (hyes a na)
    refine wpAny_mono go (fun f s6 hsp => ?_) (fun _ _ z => False.elim z)
    cases f with
    | next =>
      obtain ⟨σ6, H6, S6, q6⟩ := hsp
      obtain ⟨e6, n6, _⟩ := S6.pin (a, oe4) (List.mem_append_left _ List.mem_cons_self)
      have T6 := track (S6.unsuite ok) n6 n0 npin nL ncell (exk_ok (cls := cls) (d := d) e6 hz4 hd4)
      exact gone_ok T6 hN hi hln fun s7 J7 => ⟨_, _, J7, q6 n6⟩
    | brk =>
      obtain ⟨σ6, H6, S6, q6⟩ := hsp
      exact q6.elim
    | cont =>
      obtain ⟨σ6, H6, S6, q6⟩ := hsp
      exact q6.elim
    | ret u =>
      obtain ⟨v6, σ6, H6, S6, r6, q6⟩ := hsp
      exact q6.elim
  · cases f with
    | ret u =>
      obtain ⟨v, σ', H', J', r, q⟩ := hsp
      exact ⟨v, σ', H', J'.ofTry ok, r, q⟩
    | next =>
      obtain ⟨σ', H', J', q⟩ := hsp
      exact wpAny_execs_nil ⟨σ', H', J'.ofTry ok, q⟩
    | brk =>
      obtain ⟨σ', H', J', q⟩ := hsp
      exact ⟨σ', H', J'.ofTry ok, q⟩
    | cont =>
      obtain ⟨σ', H', J', q⟩ := hsp
      exact ⟨σ', H', J'.ofTry ok, q⟩
end
end DL
namespace DL
open PySem L2 Evl PyProof.Rows TL RZ
/-- what the written part says of an own exception class x at C with an __init__ at fI that keeps one field f -/
structure ErrC (K : PySem.W.Frag) (mg : Str → Option Value) (x : Str) (C fI : Addr) (f : Str) : Prop where
  gC : mg x = some (.ref C)
  cls : OexC K C
  ga : PySem.W.findIn K (.ref C) "__getattribute__" = some (some (.builtin "BaseException.__getattribute__"))
  gg : PySem.W.findIn K (.ref C) "__getattr__" = some none
  noN : PySem.W.findIn K (.ref C) f = some none
  iC : PySem.W.findIn K (.ref C) "__init__" = some (some (.ref fI))
  tC : PySem.W.typeIn K (.ref fI) = some (.type "function")
  hdC : PySem.W.hasDictIn K C = true
  te : PySem.W.exmOne K (.ref C) (.ref C) = some true
/-- an exception of the class is what the clause names -/
theorem exm_self {K : PySem.W.Frag} {S : Addr} (b : PySem.W.subIn K (.ref S) (.type "BaseException") = some true) (i : PySem.W.isClsIn K S = true)
    (t : PySem.W.typeIn K (.ref S) = some (.type "type")) (u : PySem.W.subIn K (.ref S) (.ref S) = some true) : PySem.W.exmOne K (.ref S) (.ref S) = some true := by
  have i2 : (PySem.W.clsIn K S).isSome = true := i
  have a1 : (PySem.W.subIn K (.ref S) (.type "BaseException") == some true) = true := by
    rw [b]
    rfl
  unfold PySem.W.exmOne
  rw [if_pos a1]
  have a2 : ((PySem.W.clsIn K S).isSome && PySem.W.typeIn K (.ref S) == some (.type "type")) = true := by
    rw [i2, t]
    rfl
  show (if _ then _ else _) = _
  rw [if_pos a2]
  exact u
/-- __init__(self, v): self.f = v -/
def spInit (C : Addr) (f : Str) : Sp := fun vs H Q _ => ∃ (a : Addr) (v : V), vs = [.ref a, v] ∧ H a = some (exo a C none) ∧
  ∀ dx, H dx = none → dx ≠ a → Q .non (upd (upd H dx (exd dx [(f, v)])) a (exo a C (some dx)))
/-- raise C(e) -/
def tRz (C : Addr) (f : Str) (W : WX) (ta : TA) : TS := fun _ σ H => tMkO C (spInit C f) [] ta σ H fun cls d H' => W cls d σ H'
theorem ps_rz {X : Cx} {K : PySem.W.Frag} {mg : Str → Option Value} {x f : Str} {C fI : Addr} {fd : FuncData} {W : WX} {k : Nat} {e : Expr} {es : List Expr} {ta : TA} {p pos pos2 : Pos} {ps : List Str}
    (hK : X.K = K) (hmg : X.mg = mg) (T : ErrC K mg x C fI f) (F1 : FnOk X.prog X.w X.K X.mg X.base CX0 k fI fd ps (spInit C f)) (hb : Binds K fd ps []) (hc : X.calm = true) (hr : Room (k + 1) X.A) (tk : Takes X W)
    (hg : Gl X x) (ha : PA X (e :: es) ta) (hdb : (x == ("__debug__" : Str)) = false := by decide) (he : starEach (e :: es) X.env = (false, eval e X.env) :: starEach es X.env := by rfl) (hpl : (backTo pos (starEach es X.env)).any (·.1) = false := by rfl) :
    PS X (.Raise (some (.Call (.Name x p) (e :: es) [] pos)) none pos2) (tRz C f W ta) := by
  subst hK
  subst hmg
  exact ps_raise hc tk (pmk_oex (dvs := []) T.cls T.iC T.tC F1 hr hb .nil (fun _ _ _ _ _ _ _ z => z.elim) hg T.gC ha hdb he hpl)
section
variable {O : List Addr} {n : Nat} {ρ ρ1 ρ' : Rho} {t u : TS} {tt : TT} {te : TE} {ta : TA} {C : Addr} {f : Str} {E : XK} {k : Int} {ds : List PyData} {d : PyData} {wi : TI} {g : TG} {vs : List Nat} {tb : TS}
/-- what is wanted where C with f = k is raised -/
def Out (C : Addr) (f : Str) (H : Hp) (E : XK) (k : Int) : Prop := ∀ (dd : Addr) (H' : Hp), Ex H H' → H dd = none → H' dd = some (.xd [(f, V.int k)]) → E (.ref C) (some dd) H'
theorem Out.ex {H H1 : Hp} (o : Out C f H E k) (e : Ex H H1) : Out C f H1 E k := fun dd H' e2 n2 h2 => by
  refine o dd H' (e.trans e2) ?_ h2
  cases z : H dd with
  | none => rfl
  | some u =>
    rw [e dd u z] at n2
    cases n2
/-- a statement that raises -/
def RunE (O : List Addr) (n : Nat) (C : Addr) (f : Str) (E : XK) (t : TS) (ρ : Rho) (k : Int) : Prop := ∀ (D : Ends) (σ : L2.St) (H : Hp), σ.length = n → SD O H σ ρ → Out C f H E k → t D σ H
theorem re_raise (h : EvDA O n ta ρ [.int k]) : RunE O n C f E (tRz C f (fun cls d _ H => E cls d H) ta) ρ k := fun D σ H hn s q => h σ H hn s _ fun vs H1 e1 d1 => by
  cases d1 with
  | cons a r =>
    cases a
    cases r
    refine ⟨by show 1 ≤ 1000; decide, fun a na => ⟨a, .int k, rfl, upd_same, fun dx ndx hne => ⟨rfl, dx, [(f, .int k)], upd_same, ?_, ?_, ?_⟩⟩⟩
    · rw [upd_ne hne]
      exact upd_same
    · rw [upd_ne hne] at ndx
      exact ndx
    · have nd : H1 dx = none := by
        rw [upd_ne hne] at ndx
        exact ndx
      refine q dx _ ?_ ?_ upd_same
      · refine e1.trans fun y o hy => ?_
        have ya : y ≠ a := ne_of_none hy na
        have yd : y ≠ dx := ne_of_none hy nd
        rw [upd_ne yd, del_ne ya, upd_ne ya, upd_ne yd, upd_ne ya]
        exact hy
      · cases z : H dx with
        | none => rfl
        | some u =>
          rw [e1 dx u z] at nd
          cases nd
theorem re_seq (h1 : RunN O n t ρ ρ1) (h2 : RunE O n C f E u ρ1 k) : RunE O n C f E (tSeq t u) ρ k := fun D σ H hn s q =>
  h1 _ σ H hn s fun σ' H' hn' e' s' => h2 D σ' H' hn' s' (q.ex e')
theorem re_fst (h1 : RunE O n C f E t ρ k) : RunE O n C f E (tSeq t u) ρ k := fun D σ H hn s q => h1 _ σ H hn s q
theorem re_when {b : Bool} (h : EvDT O n tt ρ b) (h1 : b = true → RunE O n C f E t ρ k) (h2 : b = false → RunE O n C f E u ρ k) : RunE O n C f E (tSeq (tIfS tt t tNext) u) ρ k := fun D σ H hn s q => h σ H hn s _ fun H1 e1 => by
  cases b with
  | true => exact iteT (h1 rfl _ σ H1 hn (s.ex e1) (q.ex e1))
  | false => exact iteF (h2 rfl D σ H1 hn (s.ex e1) (q.ex e1))
theorem re_if {b : Bool} (h : EvDT O n tt ρ b) (h1 : b = true → RunE O n C f E t ρ k) (h2 : b = false → RunE O n C f E u ρ k) : RunE O n C f E (tIfS tt t u) ρ k := fun D σ H hn s q => h σ H hn s _ fun H1 e1 => by
  cases b with
  | true => exact iteT (h1 rfl D σ H1 hn (s.ex e1) (q.ex e1))
  | false => exact iteF (h2 rfl D σ H1 hn (s.ex e1) (q.ex e1))
/-- a for that is left by what the m-th turn raises -/
theorem re_for {m : Nat} (hw : IterD O n wi ρ ds) (R : Nat → Rho) (h0 : R 0 = ρ) (hm : m < ds.length) (hs : ∀ i d, i < m → ds[i]? = some d → ∃ ρ', TgD O n vs g (R i) d ρ' ∧ RunN O n tb ρ' (R (i + 1)))
    (hx : ∀ d, ds[m]? = some d → ∃ ρ', TgD O n vs g (R m) d ρ' ∧ RunE O n C f E tb ρ' k) : RunE O n C f E (tFor wi g tb) ρ k := fun D σ H hn s q => hw σ H hn s _ fun J H1 G Y e1 W g1 gk yk => by
  refine for_it (W O) (fun i σ2 H2 => i ≤ m ∧ σ2.length = n ∧ Ex H1 H2 ∧ SD O H2 σ2 (R i)) ⟨Nat.zero_le _, hn, Ex.refl H1, by rw [h0]; exact s.ex e1⟩ (fun i σ2 H2 _ p => gk _ _ _ _ g1 (Ex.o O p.2.2.1)) ?_ ?_
  · rintro i x σ2 H2 H3 hi ⟨im, l2, x2, s2⟩ y
    obtain ⟨e3, d, hdi, hx3⟩ := yk O i H2 x H3 hi s2.own (gk _ _ _ _ g1 (Ex.o O x2)) y
    by_cases c : i = m
    · subst c
      obtain ⟨ρ', ht, hb⟩ := hx d hdi
      refine ht σ2 H3 x l2 (s2.ex e3) hx3 _ fun σ' hl' _ s' => ?_
      exact hb _ σ' H3 hl' s' (q.ex ((e1.trans x2).trans e3))
    · obtain ⟨ρ', ht, hb⟩ := hs i d (by omega) hdi
      refine ht σ2 H3 x l2 (s2.ex e3) hx3 _ fun σ' hl' _ s' => ?_
      exact hb _ σ' H3 hl' s' fun σ4 H4 hl4 e4 s4 => ⟨by omega, hl4, (x2.trans e3).trans e4, s4⟩
  · rintro σ2 H2 ⟨im, l2, x2, s2⟩
    exact absurd hm (by omega)
/-- an expression that raises -/
def EvE (O : List Addr) (n : Nat) (C : Addr) (f : Str) (te : TE) (ρ : Rho) (k : Int) (E : L2.St → XK) : Prop := ∀ (σ : L2.St) (H : Hp), σ.length = n → SD O H σ ρ → Out C f H (E σ) k → ∀ Q, te σ H Q
end
/-- a def that answers or raises -/
def spDX (C : Addr) (f : Str) (R : List PyData → PyData ⊕ Int → Prop) : Sp := fun vs H Q E => ∃ (O : List Addr) (ds : List PyData) (r : PyData ⊕ Int), (∀ a, a ∈ O → H a ≠ none) ∧ DqAll (sub H O) vs ds ∧ R ds r ∧
  match r with
  | .inl d => ∀ v H', Ex H H' → Dq (sub H' O) v d → Q v H'
  | .inr k => Out C f H E k
section
variable {P : Program} {w : World} {K : PySem.W.Frag} {mg : Str → Option Value} {base : Heap} {C : Addr} {g : Str}
theorem pure_okX {R : List PyData → PyData ⊕ Int → Prop} {x qual : Str} {st : Stmt} {f : Addr} {fd : FuncData} {N ps : List Str} {k : Nat} (F : Fun K x qual st f fd) (S : FnScope N ps (defScope st)) (hl : ∀ ds d, R ds d → ds.length = ps.length) (hp : ps.length ≤ N.length)
    (body : ∀ (cdv : Value) (A : Around) (outer : List Env) (s : Shared) (H : Hp) (E : XK), Room k (A.deeper (envOfC qual (defScope st) s.heap.objs.size f cdv)) →
      ∃ t, PSs (cxOf (L2.CX P w) P w K mg base N qual (defScope st) f cdv A outer s H E) (defBody st) t ∧ ∀ O ds r, R ds r → match r with
        | .inl d => RunR O N.length t (argR N ds) d
        | .inr k => RunE O N.length C g E t (argR N ds) k) : FnOk P w K mg base (L2.CX P w) (k + 1) f fd ps (spDX C g R) := by
  refine F.okX S (fun vs H Q E h => ?_) (fun cdv A outer s H vs Q E hr h => ?_)
  · obtain ⟨O, ds, r, _, hd, hR, _⟩ := h
    rw [hd.length]
    exact hl ds r hR
  · obtain ⟨t, ht, hb⟩ := body cdv A outer s H E hr
    obtain ⟨O, ds, r, ho, hd, hR, q⟩ := h
    have len : (L2.start N vs).length = N.length := start_len (by rw [hd.length, hl ds r hR]; exact hp)
    refine ⟨t, ht, ?_⟩
    have b := hb O ds r hR
    cases r with
    | inl d => exact b _ (L2.start N vs) H len (sd_start ho hd) q
    | inr k => exact b _ (L2.start N vs) H len (sd_start ho hd) q
end
section
variable {O : List Addr} {n : Nat} {ρ : Rho} {C : Addr} {f : Str} {R : List PyData → PyData ⊕ Int → Prop} {ds : List PyData} {d : PyData} {k : Int} {tr : TA} {E : L2.St → XK} {ta tb : TE}
theorem ed_callX (h : EvDA O n tr ρ ds) (hR : R ds (.inl d)) : EvD O n (tCallS (spDX C f R) E tr) ρ d := fun σ H hn s Q q =>
  h σ H hn s _ fun vs H1 e1 d1 => ⟨O, ds, .inl d, own_ex e1 s.own, d1, hR, fun v H2 e2 d2 => q v H2 (e1.trans e2) d2⟩
theorem ee_call (h : EvDA O n tr ρ ds) (hR : R ds (.inr k)) : EvE O n C f (tCallS (spDX C f R) E tr) ρ k E := fun σ H hn s q Q =>
  h σ H hn s _ fun vs H1 e1 d1 => ⟨O, ds, .inr k, own_ex e1 s.own, d1, hR, q.ex e1⟩
/-- a pair whose second one raises -/
theorem ee_tup2 {u : PyData} (h1 : EvD O n ta ρ u) (h2 : EvE O n C f tb ρ k E) : EvE O n C f (tTup (tCons ta (tCons tb tNil))) ρ k E := fun σ H hn s q Q =>
  h1 σ H hn s _ fun v H1 e1 d1 => h2 σ H1 hn (s.ex e1) (q.ex e1) _
theorem re_ret {E : XK} {te : TE} (h : EvE O n C f te ρ k (fun _ => E)) : RunE O n C f E (tRet te) ρ k := fun D σ H hn s q => h σ H hn s q _
end
/-! ### a kept exception's field -/
def tKept (C : Addr) (f : Str) (te : TE) : TE := fun σ H Q => te σ H fun x H1 => ∃ (a dd : Addr) (v : V), x = .ref a ∧ H1 a = some (exk a (.ref C) (some dd)) ∧ H1 dd = some (.xd [(f, v)]) ∧ Q v H1
theorem pe_kept {X : Cx} {K : PySem.W.Frag} {mg : Str → Option Value} {x f : Str} {C fI : Addr} {e : Expr} {te : TE} {pos : Pos} (hK : X.K = K) (T : ErrC K mg x C fI f) (he : PE X e te)
    (hb : attributeBase e f X.env (eval e X.env) = eval e X.env := by rfl) : PE X (.Attribute e f pos) (tKept C f te) := by
  subst hK
  refine ⟨fun pins s σ H Q I h => attr_of hb (thn (he.run pins s σ H _ I h) fun u s1 hh => ?_)⟩
  obtain ⟨z, H1, I1, rz, a, dd, v, ez, ea, ed, q⟩ := hh
  subst ez
  obtain rfl : u = Value.ref a := rz
  obtain ⟨oe, ha, hz, fs, hd⟩ := exk_at I1.hok ea
  have hx : ObjOk X.prog X.w H1 s1.heap dd (.xd [(f, v)]) := I1.hok dd _ ed
  obtain ⟨mA, hns, hr⟩ := hx
  obtain ⟨od, ho, hl⟩ := lookIn_ns hns
  have l : List.lookup f [(f, v)] = some v := by simp [List.lookup]
  obtain ⟨u, hu, ru⟩ := RelO.some_of (v := v) (o := mA f) (by rw [← l]; exact hr f)
  have J : PySem.W.InstAt s1.heap a oe C (some od) := ⟨ha, hz.1, by unfold PySem.W.notCls; rw [hd] <;> rfl, by rw [hz.2]; exact ho⟩
  exact HandSPX.exc_get I1.kIn J T.ga T.gg T.cls.exC (PySem.W.findObj_own T.hdC T.noN rfl (by rw [hl, hu])) (handed_of ru) ⟨v, H1, I1.tok _, ru, q⟩
end DL
namespace DL
open PySem L2 PyProof.Rows TL
section
variable {X : Cx} {e b : Expr} {es : List Expr} {te tb : TE} {t : TA} {x : Str} {j : Nat} {p pos : Pos} {op : Operator} {r : R2}
/-- written items, the first of them made with a written text: behind it a token is out -/
theorem pa_first (ho : OpR X (binaryOp op) r) (hb : PE X b tb) (hr : PAT X es t) (hs : starEach (.BinOp (.Constant (.str x) j p) op b pos :: es) X.env = (false, eval (.BinOp (.Constant (.str x) j p) op b pos) X.env) :: starEach es X.env := by rfl) :
    PA X (.BinOp (.Constant (.str x) j p) op b pos :: es) (tCons (tOp r (tC (.str x)) tb) t) := by
  refine ⟨fun pos2 pins s σ H Q I h => ?_⟩
  rw [hs]
  show wpAny _ _ (spliced ((false, eval (.BinOp (.Constant (.str x) j p) op b pos) X.env) :: backTo pos2 (starEach es X.env))) _ _ s
  refine Calls.spliced_cons (wpAny_BinOp (Calls.Constant_str ?_))
  refine wpAny_mono (PySem.wpAny_toks_of (n := 1) (show 1 ≤ s.toks + 1 by omega) (hb.run pins { s with toks := s.toks + 1 } σ H _ (I.tok _) h)) (fun u s2 q => ?_) fun _ _ z => z.2
  obtain ⟨h2, y, H2, I2, r2, q2⟩ := q
  refine wpAny_mono (PySem.wpAny_toks_of h2 (ho pins s2 σ H2 (.str x) y (.str x s.toks) u _ I2 ⟨_, rfl⟩ r2 q2)) (fun w s3 q => ?_) fun _ _ z => z.2
  obtain ⟨h3, z, H3, I3, r3, q3⟩ := q
  exact thn (hr pos2 pins s3 σ H3 _ h3 I3 q3) fun us s4 ⟨xs, H4, I4, r4, q4⟩ => ⟨z :: xs, H4, I4, .cons r3 r4, q4⟩
end
/-! ### the signs of pieces -/
theorem joinL_snoc {S : List Nat} : ∀ {a : List (List Nat)} {b : List Nat}, a ≠ [] → joinL S (a ++ [b]) = joinL S a ++ (S ++ b)
  | [], _, h => absurd rfl h
  | [p], b, _ => rfl
  | p :: q :: r, b, _ => by
    show p ++ (S ++ joinL S (q :: (r ++ [b]))) = (p ++ (S ++ joinL S (q :: r))) ++ (S ++ b)
    rw [show q :: (r ++ [b]) = (q :: r) ++ [b] from rfl, joinL_snoc (by simp)]
    simp only [List.append_assoc]
theorem mem_joinL {S : List Nat} {c : Nat} : ∀ {a : List (List Nat)}, c ∈ joinL S a → c ∈ S ∨ ∃ p, p ∈ a ∧ c ∈ p
  | [], h => by cases h
  | [p], h => .inr ⟨p, List.mem_singleton.mpr rfl, h⟩
  | p :: q :: r, h => by
    have h' : c ∈ p ++ (S ++ joinL S (q :: r)) := h
    rcases List.mem_append.mp h' with h1 | h1
    · exact .inr ⟨p, List.mem_cons_self, h1⟩
    · rcases List.mem_append.mp h1 with h2 | h2
      · exact .inl h2
      · rcases mem_joinL h2 with h3 | ⟨x, hx, hc⟩
        · exact .inl h3
        · exact .inr ⟨x, List.mem_cons_of_mem _ hx, hc⟩
/-- a sign of a text that isn't the blank stands in one of its pieces -/
theorem in_piece {s : Str} {c : Nat} (h : c ∈ s.cps.toList) (h32 : c ≠ 32) : ∃ p, p ∈ Txt.split s (" " : Str) ∧ c ∈ p.cps.toList := by
  have e := PySem.StrLaws.join_split s (" " : Str)
  have t := tl_join (" " : Str) (Txt.split s (" " : Str))
  rw [e] at t
  have ey : tl (" " : Str) = [32] := by decide +kernel
  rw [ey] at t
  have h' : c ∈ joinL [32] ((Txt.split s (" " : Str)).map tl) := by
    rw [← t]
    exact h
  rcases mem_joinL h' with h1 | ⟨q, hq, hc⟩
  · exact absurd (List.mem_singleton.mp h1) h32
  · obtain ⟨p, hp, rfl⟩ := List.mem_map.mp hq
    exact ⟨p, hp, hc⟩
end DL
/-! DY: objects of own classes as data: .dict ((.int class, .none) :: fields). -/
namespace DL
open PySem L2 Evl PyProof.Rows TL RZ
/-- an object's datum -/
def obD (C : Addr) (ks : List (PyData × PyData)) : PyData := .dict ((.int (C : Int), .none) :: ks)
def fldD (f : Str) : List (PyData × PyData) → Option PyData
  | [] => none
  | (.str g, d) :: r => if f == g then some d else fldD f r
  | _ :: r => fldD f r
theorem DqF.at {H : Hp} {f : Str} {d : PyData} : ∀ {fs : List (Str × V)} {ks : List (PyData × PyData)}, DqF H fs ks → fldD f ks = some d → ∃ v, fs.lookup f = some v ∧ Dq H v d
  | _, _, .nil, e => by cases e
  | _, _, .cons (f := g) (v := v) (fs := fs) (d := d') (ks := ks) h k, e => by
    have e : (if f == g then some d' else fldD f ks) = some d := e
    cases c : f == g with
    | true =>
      rw [c, if_pos rfl] at e
      cases e
      exact ⟨v, by simp [List.lookup, c], h⟩
    | false =>
      rw [c, if_neg Bool.false_ne_true] at e
      obtain ⟨u, h1, h2⟩ := k.at e
      exact ⟨u, by simp [List.lookup, c, h1], h2⟩
section
variable {O : List Addr} {n : Nat} {ρ : Rho} {te : TE} {d x : PyData} {ks : List (PyData × PyData)} {K : PySem.W.Frag} {C : Addr} {f : Str} {R : List PyData → PyData → Prop} {E : XK}
theorem dq_ob {H : Hp} {v : V} (h : Dq H v (obD C ks)) : ∃ (a dx : Addr) (fs : List (Str × V)), v = .ref a ∧ H a = some (.ins C dx fs) ∧ DqF H fs ks := by
  generalize e : obD C ks = q at h
  cases h with
  | ob a k =>
    unfold obD at e
    injection e with e
    injection e with e1 e2
    injection e1 with e1 e3
    injection e1 with e1
    have e1 := Int.ofNat.inj e1
    subst e1
    subst e2
    exact ⟨_, _, _, rfl, a, k⟩
  | _ => cases e
/-- e.f, an attribute of the object -/
theorem ed_fld (h : EvD O n te ρ (obD C ks)) (hc : Cls K C) (hf : NoAttr K C f) (hl : fldD f ks = some d) : EvD O n (tFld K te f) ρ d := fun σ H hn s Q q => h σ H hn s _ fun v H1 e1 d1 => by
  obtain ⟨a, dx, fs, rfl, ha, k⟩ := dq_ob d1
  obtain ⟨u, h1, h2⟩ := k.at hl
  exact ⟨a, C, dx, fs, u, rfl, (sub_of ha).1, hc, hf, h1, q u H1 e1 h2⟩
/-- e.f, a property -/
theorem ed_prop (h : EvD O n te ρ (obD C ks)) (hR : R [obD C ks] d) : EvD O n (tProp C (spD R) [] E te) ρ d := fun σ H hn s Q q => h σ H hn s _ fun v H1 e1 d1 => by
  have d1' := d1
  obtain ⟨a, dx, fs, rfl, ha, k⟩ := dq_ob d1
  exact ⟨a, dx, fs, rfl, (sub_of ha).1, O, [obD C ks], d, own_ex e1 s.own, .cons d1' .nil, hR, fun v H2 e2 d2 => q v H2 (e1.trans e2) d2⟩
/-- C(..): what an __init__ leaves of a new object -/
def spMk (C : Addr) (R : List PyData → List (PyData × PyData) → Prop) : Sp := fun vs H Q _ => ∃ (O : List Addr) (x dx : Addr) (us : List V) (ds : List PyData) (ks : List (PyData × PyData)), vs = .ref x :: us ∧ (∀ a, a ∈ O → H a ≠ none) ∧ x ∉ O ∧
  H x = some (.ins C dx []) ∧ DqAll (sub H (x :: O)) us ds ∧ R ds ks ∧ ∀ (H' : Hp) (dx' : Addr) (fs : List (Str × V)), ExO [x] H H' → H' x = some (.ins C dx' fs) → DqF (sub H' (x :: O)) fs ks → Q .non H'
theorem ed_make {ta : TA} {ds : List PyData} {R : List PyData → List (PyData × PyData) → Prop} (h : EvDA O n ta ρ ds) (hR : R ds ks) : EvD O n (tMake C (spMk C R) [] E ta) ρ (obD C ks) := fun σ H hn s Q q => h σ H hn s _ fun vs H1 e1 d1 => by
  intro x dx nx ndx hne
  have own1 := own_ex e1 s.own
  have nxO : x ∉ O := fun z => own1 x z nx
  have x2 : Ex H1 (upd (upd H1 dx (.own x)) x (.ins C dx [])) := fun y o hy => by
    have ya : y ≠ x := ne_of_none hy nx
    have yd : y ≠ dx := ne_of_none hy ndx
    rw [upd_ne ya, upd_ne yd]
    exact hy
  refine ⟨O, x, dx, vs, ds, ks, by rw [List.append_nil], own_ex x2 own1, nxO, upd_same, ?_, hR, fun H3 dx' fs e3 h3 k3 => ⟨rfl, ?_⟩⟩
  · refine d1.mono fun y o hy => ?_
    obtain ⟨h1, h2⟩ := sub_of hy
    refine sub_mk (x2 y o h1) fun z => ?_
    rcases List.mem_cons.mp z with z | z
    · rw [z, nx] at h1
      cases h1
    · exact h2 z
  · have x4 : Ex H1 H3 := fun y o hy => by
      have ya : y ≠ x := ne_of_none hy nx
      exact e3.at (x2 y o hy) fun z => ya (List.mem_singleton.mp z)
    exact q (.ref x) H3 (e1.trans x4) (.ob (sub_mk h3 nxO) (DqF.mono (fun y o hy => by
      obtain ⟨h1, h2⟩ := sub_of hy
      exact sub_mk h1 fun z => h2 (List.mem_cons_of_mem _ z)) k3))
end
end DL
/-! DM: one list of a def's own, in slot m, that it changes (found = []; found.append(x); found[i] = x); scalars in it. -/
namespace DL
open PySem L2 Evl PyProof.Rows TL RZ
/-- a scalar -/
def isFlat : PyData → Bool
  | .none | .bool _ | .int _ | .str _ => true
  | _ => false
theorem flat_dq {H H' : Hp} {v : V} {d : PyData} (h : Dq H v d) (f : isFlat d = true) : Dq H' v d := by
  cases h with
  | non => exact .non
  | bl b => exact .bl b
  | int i => exact .int i
  | str x => exact .str x
  | lst a k => cases f
  | tup a k => cases f
  | ob a k => cases f
  | dic a k => cases f
  | exo a b k => cases f
  | exn a => cases f
theorem flat_all {H H' : Hp} : ∀ {vs : List V} {ds : List PyData}, DqAll H vs ds → ds.all isFlat = true → DqAll H' vs ds
  | _, _, .nil, _ => .nil
  | _, _, .cons h k, f => .cons (flat_dq h (Bool.and_eq_true_iff.mp f).1) (flat_all k (Bool.and_eq_true_iff.mp f).2)
theorem DqAll.setAt {H : Hp} {v : V} {d : PyData} : ∀ {ws : List V} {es : List PyData}, DqAll H ws es → Dq H v d → ∀ l : Nat, DqAll H (ws.set l v) (es.set l d)
  | _, _, .nil, _, _ => .nil
  | _, _, .cons _ r, h, 0 => .cons h r
  | _, _, .cons a r, h, l + 1 => .cons a (r.setAt h l)
/-- the slots with one list of the def's own at L, told apart -/
structure SDL (O : List Addr) (m : Nat) (ds : List PyData) (H : Hp) (σ : L2.St) (ρ : Rho) (L : Addr) : Prop where
  sd : SD (L :: O) H σ ρ
  slot : σ[m]? = some (some (.ref L))
  at_ : ∃ xs, H L = some (.lst xs) ∧ DqAll (sub H O) xs ds
  flat : ds.all isFlat = true
  nL : L ∉ O
  free : ρ[m]? = some none
theorem SDL.view {O : List Addr} {m : Nat} {ds : List PyData} {H : Hp} {σ : L2.St} {ρ : Rho} {L : Addr} (s : SDL O m ds H σ ρ L) : SD O H σ (ρ.set m (some (.list ds))) := by
  have own : ∀ a, a ∈ O → H a ≠ none := fun a ha => s.sd.own a (List.mem_cons_of_mem _ ha)
  refine ⟨own, fun i d e => ?_⟩
  by_cases z : m = i
  · subst z
    have hb := (List.getElem?_eq_some_iff.mp s.free).1
    rw [List.getElem?_set_self hb] at e
    cases e
    obtain ⟨xs, h1, h2⟩ := s.at_
    exact ⟨_, s.slot, .lst (sub_mk h1 s.nL) h2⟩
  · rw [List.getElem?_set_ne z] at e
    obtain ⟨v, h1, h2⟩ := s.sd.at' i d e
    exact ⟨v, h1, h2.mono ex_less⟩
/-- all but L stands -/
theorem SDL.step {O : List Addr} {m : Nat} {ds : List PyData} {H H' : Hp} {σ : L2.St} {ρ : Rho} {L : Addr} (s : SDL O m ds H σ ρ L) (e : Ex H H') : SDL O m ds H' σ ρ L where
  sd := s.sd.ex e
  slot := s.slot
  at_ := by
    obtain ⟨xs, h1, h2⟩ := s.at_
    exact ⟨xs, e L _ h1, flat_all h2 s.flat⟩
  flat := s.flat
  nL := s.nL
  free := s.free
theorem SDL.put {O : List Addr} {m i : Nat} {ds : List PyData} {H : Hp} {σ : L2.St} {ρ : Rho} {L : Addr} {v : V} {d : PyData} (s : SDL O m ds H σ ρ L) (h : Dq (sub H (L :: O)) v d) (hi : i < σ.length) (hm : i ≠ m) : SDL O m ds H (σ.set i (some v)) (ρ.set i (some d)) L where
  sd := s.sd.set h hi
  slot := by
    rw [List.getElem?_set_ne hm]
    exact s.slot
  at_ := s.at_
  flat := s.flat
  nL := s.nL
  free := by
    rw [List.getElem?_set_ne hm]
    exact s.free
/-- the list gets other contents -/
theorem SDL.other {O : List Addr} {m : Nat} {ds es : List PyData} {H : Hp} {σ : L2.St} {ρ : Rho} {L : Addr} {xs : List V} (s : SDL O m ds H σ ρ L) (h : DqAll (sub H O) xs es) (f : es.all isFlat = true) : SDL O m es (upd H L (.lst xs)) σ ρ L where
  sd := s.sd.mono (ExO.upd (List.mem_cons_self ..)) fun a ha z => by
    by_cases c : a = L
    · rw [c, upd_same] at z
      cases z
    · rw [upd_ne c] at z
      exact s.sd.own a ha z
  slot := s.slot
  at_ := ⟨xs, upd_same, flat_all h f⟩
  flat := f
  nL := s.nL
  free := s.free
section
variable (O : List Addr)
/-- a statement that goes on: slots and list behind it -/
def RunL (n m : Nat) (t : TS) (ρ : Rho) (ds : List PyData) (ρ' : Rho) (ds' : List PyData) : Prop := ∀ (L : Addr) (D : Ends) (σ : L2.St) (H : Hp), σ.length = n → SDL O m ds H σ ρ L →
  (∀ σ' H', σ'.length = n → ExO [L] H H' → SDL O m ds' H' σ' ρ' L → D.nx σ' H') → t D σ H
/-- .. that returns -/
def RunLR (n m : Nat) (t : TS) (ρ : Rho) (ds : List PyData) (d : PyData) : Prop := ∀ (L : Addr) (D : Ends) (σ : L2.St) (H : Hp), σ.length = n → SDL O m ds H σ ρ L →
  (∀ v H', ExO [L] H H' → Dq (sub H' O) v d → D.rt v H') → t D σ H
end
section
variable {O : List Addr} {n m i : Nat} {ρ ρ1 ρ' : Rho} {ds es ds' : List PyData} {d x : PyData} {te ti : TE} {tt : TT} {t u : TS} {K : PySem.W.Frag} {g : TG} {wi : TI} {vs : List Nat} {tb : TS}
/-- slots with the list as a datum -/
abbrev vw (ρ : Rho) (m : Nat) (ds : List PyData) : Rho := ρ.set m (some (.list ds))
theorem rl_asg (h : EvD O n te (vw ρ m ds) d) (f : isFlat d = true) (hi : i < n) (hm : i ≠ m) : RunL O n m (tAsg te (gName i)) ρ ds (ρ.set i (some d)) ds := fun L D σ H hn s k =>
  h σ H hn s.view _ fun v H1 e1 d1 => k _ H1 (by rw [List.length_set]; exact hn) (Ex.o [L] e1) ((s.step e1).put (flat_dq d1 f) (by rw [hn]; exact hi) hm)
theorem rl_seq (h1 : RunL O n m t ρ ds ρ1 es) (h2 : RunL O n m u ρ1 es ρ' ds') : RunL O n m (tSeq t u) ρ ds ρ' ds' := fun L D σ H hn s k =>
  h1 L _ σ H hn s fun σ1 H1 hn1 e1 s1 => h2 L D σ1 H1 hn1 s1 fun σ2 H2 hn2 e2 s2 => k σ2 H2 hn2 (e1.trans e2) s2
theorem rl_seqR (h1 : RunL O n m t ρ ds ρ1 es) (h2 : RunLR O n m u ρ1 es d) : RunLR O n m (tSeq t u) ρ ds d := fun L D σ H hn s k =>
  h1 L _ σ H hn s fun σ1 H1 hn1 e1 s1 => h2 L D σ1 H1 hn1 s1 fun v H2 e2 d2 => k v H2 (e1.trans e2) d2
theorem rl_next : RunL O n m tNext ρ ds ρ ds := fun L D σ H hn s k => k σ H hn (ExO.refl _ H) s
theorem rl_if {b : Bool} (h : EvDT O n tt (vw ρ m ds) b) (h1 : b = true → RunL O n m t ρ ds ρ' ds') (h2 : b = false → RunL O n m u ρ ds ρ' ds') : RunL O n m (tIfS tt t u) ρ ds ρ' ds' := fun L D σ H hn s k =>
  h σ H hn s.view _ fun H1 e1 => by
    cases b with
    | true => exact iteT (h1 rfl L D σ H1 hn (s.step e1) fun σ2 H2 hn2 e2 s2 => k σ2 H2 hn2 ((Ex.o [L] e1).trans e2) s2)
    | false => exact iteF (h2 rfl L D σ H1 hn (s.step e1) fun σ2 H2 hn2 e2 s2 => k σ2 H2 hn2 ((Ex.o [L] e1).trans e2) s2)
/-- from here the list is read only -/
theorem rl_read (h : RunR O n t (vw ρ m ds) d) : RunLR O n m t ρ ds d := fun L D σ H hn s k => h D σ H hn s.view fun v H1 e1 d1 => k v H1 (Ex.o [L] e1) d1
theorem ty_lst {H : Hp} {a : Addr} {xs : List V} (h : H a = some (.lst xs)) : tyV K "list" (.ref a) H := .inl ⟨rfl, _, sq_of h⟩
/-- found.append(e) -/
theorem rl_append (h : EvD O n te (vw ρ m ds) d) (f : isFlat d = true) (hl : ds.length ≤ 100000) : RunL O n m (tDrop (tBM K "list" rAppend (tVar m) (tCons te tNil))) ρ ds ρ (ds ++ [d]) := fun L D σ H hn s k => by
  obtain ⟨xs, hx, _⟩ := s.at_
  refine ⟨_, s.slot, ty_lst hx, h σ H hn s.view _ fun v H1 e1 d1 => ?_⟩
  have s1 := s.step e1
  obtain ⟨ys, hy, dy⟩ := s1.at_
  refine ⟨L, ys, v, rfl, rfl, hy, Nat.lt_of_le_of_lt (show ys.length ≤ 100000 by have q := dy.length; omega) (by decide), ?_⟩
  refine k σ _ hn ((Ex.o [L] e1).trans (ExO.upd (List.mem_singleton.mpr rfl))) (s1.other (dy.append (.cons d1 .nil)) ?_)
  rw [List.all_append, s.flat]
  simp [f]
/-- found[i] = e -/
theorem rl_set {j : Nat} (h : EvD O n te (vw ρ m ds) d) (h2 : EvD O n ti (vw ρ m ds) (.int (j : Int))) (f : isFlat d = true) (hj : j < ds.length) : RunL O n m (tAsg te (gSub (tVar m) ti rSetL)) ρ ds ρ (ds.set j d) := fun L D σ H hn s k =>
  h σ H hn s.view _ fun v H1 e1 d1 => by
    have s1 := s.step e1
    refine ⟨_, s.slot, h2 σ H1 hn s1.view _ fun w H2 e2 d2 => ?_⟩
    cases d2
    have s2 := s1.step e2
    obtain ⟨ys, hy, dy⟩ := s2.at_
    refine ⟨L, ys, (j : Int), j, rfl, rfl, hy, ixN_nat (by rw [dy.length]; exact hj), ?_⟩
    have all : DqAll (sub H2 O) (ys.set j v) (ds.set j d) := dy.setAt (flat_dq d1 f) j
    refine k σ _ hn (((Ex.o [L] e1).trans (Ex.o [L] e2)).trans (ExO.upd (List.mem_singleton.mpr rfl))) (s2.other all ?_)
    rw [List.all_eq_true]
    intro y hy2
    rcases List.mem_or_eq_of_mem_set hy2 with hy2 | rfl
    · exact List.all_eq_true.mp s.flat y hy2
    · exact f
/-- found = [..], new -/
theorem rl_new {ta : TA} (h : EvDA O n ta ρ es) (f : es.all isFlat = true) (hl : es.length ≤ 100000) (hm : m < n) (hr : m < ρ.length) (h2 : RunLR O n m u (ρ.set m none) es d) : RunR O n (tSeq (tAsg (tLst ta) (gName m)) u) ρ d := fun D σ H hn s k =>
  h σ H hn s _ fun xs H1 e1 d1 => by
    refine ⟨by rw [d1.length]; exact sz_of hl, fun L nL => ?_⟩
    have s1 := s.ex e1
    have nLO : L ∉ O := not_own s1.own nL
    have x2 : Ex H1 (upd H1 L (.lst xs)) := Ex.new nL
    refine h2 L D (σ.set m (some (.ref L))) _ (by rw [List.length_set]; exact hn) ⟨(s1.more x2 nL upd_same).forget, by rw [List.getElem?_set_self (by omega)], ⟨xs, upd_same, flat_all d1 f⟩, f, nLO, by rw [List.getElem?_set_self hr]⟩ fun v H3 e3 d3 => ?_
    refine k v H3 (e1.trans fun y o hy => ?_) d3
    have ne : y ≠ L := ne_of_none hy nL
    exact e3.at (x2 y o hy) fun z => ne (List.mem_singleton.mp z)
/-- a for over what isn't the list -/
theorem rl_for (hw : ∀ O', IterD O' n wi ρ es) (R : Nat → Rho × List PyData) (h0 : R 0 = (ρ, ds)) (hs : ∀ (P : List Addr) i d, es[i]? = some d → ∃ ρ', TgD P n vs g (R i).1 d ρ' ∧ m ∉ vs ∧ ρ'[m]? = some none ∧ RunL O n m tb ρ' (R i).2 (R (i + 1)).1 (R (i + 1)).2) :
    RunL O n m (tFor wi g tb) ρ ds (R es.length).1 (R es.length).2 := fun L D σ H hn s k => hw (L :: O) σ H hn s.sd _ fun J H1 G Y e1 W g1 gk yk => by
  have s1 := s.step e1
  refine for_it (W (L :: O)) (fun i σ2 H2 => σ2.length = n ∧ ExO [L] H1 H2 ∧ SDL O m (R i).2 H2 σ2 (R i).1 L) ⟨hn, ExO.refl _ _, by rw [h0]; exact s1⟩ (fun i σ2 H2 _ p => gk _ _ _ _ g1 (p.2.1.less fun a ha => by rw [List.mem_singleton.mp ha]; exact List.mem_cons_self)) ?_ ?_
  · rintro i x σ2 H2 H3 hi ⟨l2, x2, s2⟩ y
    obtain ⟨e3, d, hdi, hx⟩ := yk (L :: O) i H2 x H3 hi s2.sd.own (gk _ _ _ _ g1 (x2.less fun a ha => by rw [List.mem_singleton.mp ha]; exact List.mem_cons_self)) y
    obtain ⟨ρ', ht, hmv, hfree, hb⟩ := hs (L :: O) i d hdi
    have s3 := s2.step e3
    refine ht σ2 H3 x l2 s3.sd hx _ fun σ' hl' hout s' => ?_
    refine hb L _ σ' H3 hl' ⟨s', by rw [hout m hmv]; exact s3.slot, s3.at_, s3.flat, s3.nL, hfree⟩ fun σ4 H4 hl4 e4 s4 => ⟨hl4, (x2.trans (Ex.o [L] e3)).trans e4, s4⟩
  · rintro σ2 H2 ⟨l2, x2, s2⟩
    exact k σ2 H2 l2 ((Ex.o [L] e1).trans x2) s2
/-- a while of k turns -/
theorem rl_while {k : Nat} (R : Nat → Rho × List PyData) (h0 : R 0 = (ρ, ds)) (ht : ∀ i, i ≤ k → EvDT O n tt (vw (R i).1 m (R i).2) (decide (i < k))) (hs : ∀ i, i < k → RunL O n m tb (R i).1 (R i).2 (R (i + 1)).1 (R (i + 1)).2) :
    RunL O n m (tWhile tt tb) ρ ds (R k).1 (R k).2 := fun L D σ H hn s kk => by
  refine ⟨fun w σ2 H2 => ∃ i, w = k - i ∧ i ≤ k ∧ σ2.length = n ∧ ExO [L] H H2 ∧ SDL O m (R i).2 H2 σ2 (R i).1 L, ⟨k, 0, rfl, Nat.zero_le _, hn, ExO.refl _ _, by rw [h0]; exact s⟩, ?_⟩
  rintro w σ2 H2 ⟨i, rfl, hi, l2, x2, s2⟩
  refine ht i hi σ2 H2 l2 s2.view _ fun H3 e3 => ?_
  by_cases c : i < k
  · rw [decide_eq_true c]
    refine iteT ⟨fun σ' H' => ∃ i', i' = i + 1 ∧ σ'.length = n ∧ ExO [L] H H' ∧ SDL O m (R i').2 H' σ' (R i').1 L, ?_, ?_⟩
    · rintro σ' H' ⟨i', rfl, l', x', s'⟩
      exact ⟨k - (i + 1), by omega, i + 1, rfl, by omega, l', x', s'⟩
    · exact hs i c L _ σ2 H3 l2 (s2.step e3) fun σ4 H4 l4 e4 s4 => ⟨i + 1, rfl, l4, (x2.trans (Ex.o [L] e3)).trans e4, s4⟩
  · rw [decide_eq_false c]
    have e : i = k := by omega
    subst e
    exact iteF (kk σ2 H3 l2 (x2.trans (Ex.o [L] e3)) (s2.step e3))
end
end DL
namespace DL
open PySem L2 Evl PyProof.Rows TL RZ
section
variable {O : List Addr} {n m i : Nat} {ρ ρ1 ρ' : Rho} {ds es ds' : List PyData} {d x : PyData} {te ti : TE} {tt : TT} {t u : TS} {K : PySem.W.Frag} {g : TG} {wi : TI} {vs : List Nat} {tb : TS}
/-- a store of what does not read the def's own list: any datum -/
theorem rl_asgO (h : ∀ O', EvD O' n te ρ d) (hi : i < n) (hm : i ≠ m) : RunL O n m (tAsg te (gName i)) ρ ds (ρ.set i (some d)) ds := fun L D σ H hn s k =>
  h (L :: O) σ H hn s.sd _ fun v H1 e1 d1 => k _ H1 (by rw [List.length_set]; exact hn) (Ex.o [L] e1) ((s.step e1).put d1 (by rw [hn]; exact hi) hm)
/-- a for that the k-th turn leaves with a return -/
theorem rr_for {k : Nat} (hw : IterD O n wi ρ ds) (R : Nat → Rho) (h0 : R 0 = ρ) (hk : k < ds.length) (hs : ∀ i d, i < k → ds[i]? = some d → ∃ ρ', TgD O n vs g (R i) d ρ' ∧ RunN O n tb ρ' (R (i + 1)))
    (hx : ∀ e, ds[k]? = some e → ∃ ρ', TgD O n vs g (R k) e ρ' ∧ RunR O n tb ρ' d) : RunR O n (tFor wi g tb) ρ d := fun D σ H hn s q => hw σ H hn s _ fun J H1 G Y e1 W g1 gk yk => by
  refine for_it (W O) (fun i σ2 H2 => i ≤ k ∧ σ2.length = n ∧ Ex H1 H2 ∧ SD O H2 σ2 (R i)) ⟨Nat.zero_le _, hn, Ex.refl H1, by rw [h0]; exact s.ex e1⟩ (fun i σ2 H2 _ p => gk _ _ _ _ g1 (Ex.o O p.2.2.1)) ?_ ?_
  · rintro i x σ2 H2 H3 hi ⟨ik, l2, x2, s2⟩ y
    obtain ⟨e3, e, hdi, hx3⟩ := yk O i H2 x H3 hi s2.own (gk _ _ _ _ g1 (Ex.o O x2)) y
    by_cases c : i = k
    · subst c
      obtain ⟨ρ', ht, hb⟩ := hx e hdi
      refine ht σ2 H3 x l2 (s2.ex e3) hx3 _ fun σ' hl' _ s' => ?_
      exact hb _ σ' H3 hl' s' fun v H4 e4 d4 => q v H4 (((e1.trans x2).trans e3).trans e4) d4
    · obtain ⟨ρ', ht, hb⟩ := hs i e (by omega) hdi
      refine ht σ2 H3 x l2 (s2.ex e3) hx3 _ fun σ' hl' _ s' => ?_
      exact hb _ σ' H3 hl' s' fun σ4 H4 hl4 e4 s4 => ⟨by omega, hl4, (x2.trans e3).trans e4, s4⟩
  · rintro σ2 H2 ⟨ik, l2, x2, s2⟩
    exact absurd hk (by omega)
theorem atI_last {α : Type} {xs : List α} (h : xs ≠ []) : atI xs (-1) = xs[xs.length - 1]? := by
  unfold atI ixN
  have p := List.length_pos_iff.mpr h
  rw [if_neg (by decide), if_pos (by omega)]
  show xs[((-1 : Int) + (xs.length : Int)).toNat]? = _
  congr 1
  omega
/-- xs[-1] -/
theorem rd_ixL_last (h : ds ≠ []) (hd : ds[ds.length - 1]? = some d) : RD O (rIxL K) (.list ds) (.int (-1)) d := fun H v w _ h1 h2 Q q => by
  cases h1 with
  | lst a k =>
    cases h2
    obtain ⟨u, hu, du⟩ := k.get hd
    refine ⟨_, _, _, u, rfl, rfl, sq_of (sub_of a).1, ?_, q u H (Ex.refl H) du⟩
    rw [atI_last (fun z => by subst z; cases k; exact h rfl), k.length]
    exact hu
theorem rd_ixT_last (h : ds ≠ []) (hd : ds[ds.length - 1]? = some d) : RD O (rIxT K) (.tuple ds) (.int (-1)) d := fun H v w _ h1 h2 Q q => by
  cases h1 with
  | tup a k =>
    cases h2
    obtain ⟨u, hu, du⟩ := k.get hd
    refine ⟨_, _, _, u, rfl, rfl, st_of (sub_of a).1, ?_, q u H (Ex.refl H) du⟩
    rw [atI_last (fun z => by subst z; cases k; exact h rfl), k.length]
    exact hu
end
end DL
/-! DE: enumerate over a tuple. -/
namespace DL
open PySem PySem.Spec PyProof.Rows PySem.Calls
/-- the new cells of enumerate(v) -/
def enumObj (it : Addr) (k : Int) : Obj := { cls := .type "enumerate", data := .fields #[.none, .bool false, .ref it, rawInt k, .none, .none] }
theorem meets_enum1 {v : Value} {o : Obj} {H : Heap → Prop} (B : Begins v o H) :
    Meets (Builtin.«enumerate.__new__» ⟨[.type "enumerate", v], []⟩) (fun _ R s => H s.heap ∧
      R (.ok (.ret (.ref (s.heap.push o).objs.size))) { s with heap := (s.heap.push o).push (enumObj s.heap.objs.size 0) }) :=
  .of_wp fun prog w A R s h => by
    obtain ⟨hp, g, d, tk, os⟩ := s
    obtain ⟨h1, h⟩ := h
    have sube := sub_enumerate
    have it1 : ∀ {A' : Around} {E : Value → Shared → Prop} {Q : Value → Shared → Prop}, Q (.ref hp.objs.size) ⟨hp.push o, g, d, tk, os⟩ → wpAny (model prog w) A' (pyIter v) Q E ⟨hp, g, d, tk, os⟩ := by
      intro A' E Q q
      exact B.iter prog w _ _ ⟨hp, g, d, tk, os⟩ _ h1 q
    wp_walk using it1
    refine wpAny_stack_any fun st => wpAny_pure ?_
    split
    · rename_i c _ _ _ _ _
      cases (c == Value.type "enumerate") <;> (wp_walk using it1; exact ⟨_, rfl, h⟩)
    · wp_walk using it1
      exact ⟨_, rfl, h⟩
section
variable {prog : Program} {w : World} {A : Around} {E : Value → Shared → Prop} {s : Shared}
theorem enum_begins1 {v : Value} {o : Obj} {H : Heap → Prop} {Q : Value → Shared → Prop} (B : Begins v o H) (h1 : H s.heap)
    (h : ∀ h', IsEnum h' (s.heap.objs.size + 1) s.heap.objs.size 0 .none → h'.get? s.heap.objs.size = some o →
      (∀ b o, s.heap.get? b = some o → h'.get? b = some o) → Q (.ref (s.heap.objs.size + 1)) { s with heap := h' }) :
    wpAny (model prog w) A (call (.type "enumerate") [v]) Q E s := by
  refine callType_new F.called_enumerate (by decide) (F.typeCall_enumerate_1 _) (F.newCall_enumerate_1 _) (fun obj => F.args_object_init_2 obj _)
    F.entry_enumerate_new (meets_enum1 B) ⟨h1, ?_⟩
  have hz : (s.heap.push o).objs.size = s.heap.objs.size + 1 := Heap.size_push ..
  show _ ∧ _
  rw [hz]
  have he : IsEnum ((s.heap.push o).push (enumObj s.heap.objs.size 0)) (s.heap.objs.size + 1) s.heap.objs.size 0 .none := by
    have q := Heap.get?_push_size (s.heap.push o) (o := enumObj s.heap.objs.size 0) rfl
    rw [hz] at q
    exact q
  exact ⟨⟨_, he, rfl⟩, h _ he (Heap.get?_push_of_some _ (Heap.get?_push_size _ B.free)) fun b o x => Heap.get?_push_of_some _ (Heap.get?_push_of_some _ x)⟩
end
end DL
namespace DL
open PySem PySem.Spec PyProof.Rows PySem.Calls L2
/-- the tuple at a, each item in a new pair with its place -/
def IteT (K : PySem.W.Frag) (a : Addr) : It where
  go := fun i H => ∃ (xs : List V) (x : V), SqT K H a xs ∧ xs[i]? = some x
  yld := fun i H v H' => ∃ T x, v = .ref T ∧ H T = none ∧ H' = upd H T (.tup [.int (i : Nat), x]) ∧ ∀ xs, SqT K H a xs → xs[i]? = some x
  stop := fun i H => ∃ xs : List V, SqT K H a xs ∧ xs.length = i
theorem turn_enumT {P : Program} {w : World} {K : PySem.W.Frag} {elts : List Expr} {kk : Nat} {tpos : Pos} (a e it : Addr) :
    Turn P w K (.Tuple elts kk tpos) (IteT K a) [e, it] e (fun i h => (∃ old, IsEnum h e it ((i : Nat) : Int) old) ∧ h.IsTupleIter it a i ∧ e ≠ it) where
  mem := List.mem_cons_self
  obj := fun i h st b hb => by
    obtain ⟨⟨old, he⟩, ⟨o, ho, hc, hd⟩, _⟩ := st
    rcases List.mem_cons.mp hb with rfl | hb
    · exact ⟨_, he, fun v q => nomatch q⟩
    · rw [List.mem_singleton.mp hb]
      refine ⟨o, ho, fun v q => ?_⟩
      rw [hd] at q
      cases q
  keep := fun i h h' st k => by
    obtain ⟨⟨old, he⟩, hi, hne⟩ := st
    exact ⟨⟨old, k e (by simp) _ he⟩, hi.at fun o q => k it (by simp) o q, hne⟩
  item := by
    intro X hP hw hK hc i pins s σ H E I hf st hg
    subst hP hw hK
    obtain ⟨⟨old, he⟩, hit, hne⟩ := st
    obtain ⟨xs, x, hq, hx⟩ := hg
    obtain ⟨its, rv, p, hz⟩ := I.tuple hq
    obtain ⟨u, hu, ru⟩ := rv.get hx
    have hel : e < s.heap.objs.size := Heap.lt_size he
    have hil : it < s.heap.objs.size := by
      obtain ⟨_, q, _⟩ := hit
      exact Heap.lt_size q
    have pT : s.heap.IsTuple a its.toArray := p
    have ea : e ≠ a := fun z => by
      obtain ⟨o, ho, hcl, _⟩ := pT
      have he2 : s.heap.get? e = some _ := he
      rw [← z, he2] at ho
      have ho := Option.some.inj ho
      subst ho
      have q : Value.type "enumerate" = Value.type "tuple" := hcl
      exact absurd (Value.type.inj q) (by decide)
    have ai : a ≠ it := fun z => by
      obtain ⟨o, ho, hcl, _⟩ := pT
      obtain ⟨o', ho', hcl', _⟩ := hit
      rw [z, ho'] at ho
      cases ho
      rw [hcl'] at hcl
      exact absurd (Value.type.inj hcl) (by decide)
    have D := Draws.tuple (prog := X.prog) (w := X.w) (A := X.A.in1) (I.ok.hd hc) it a ai its.toArray
    have hlt : i < its.toArray.size := by
      have q := (List.getElem?_eq_some_iff.mp hu).1
      simpa using q
    refine wpAny_pyNext_enum_itemD D he ⟨hit, pT⟩ hlt hne (by simp [hne, ea]) fun x' h' tk hx' ho hst' hT hsz hk => ?_
    have ex : x' = u := by
      have q : its.toArray[i]? = some u := by simpa using hu
      rw [q] at hx'
      exact (Option.some.inj hx').symm
    subst ex
    refine ⟨_, rfl, wpAny_letOwnedTupleGo_enum (s := { s with heap := h', toks := tk + 1 }) ho fun h'' he' sb => ?_⟩
    have hT2 : h''.get? s.heap.objs.size = some { cls := .type "tuple", data := .seq #[.int i tk, x'] } := (sb.2 _ (Nat.ne_of_gt hel)).trans hT
    have new : ObjOk X.prog X.w (upd H s.heap.objs.size (.tup [.int (i : Nat), x])) h'' s.heap.objs.size (.tup [.int (i : Nat), x]) := by
      refine ⟨by show 2 ≤ sizeLine; decide, [.int i tk, x'], .cons ⟨_, rfl⟩ (.cons ru .nil), ?_⟩
      exact ⟨_, hT2, rfl, _, rfl⟩
    have keep : ∀ b ob, b ∉ [e, it] → s.heap.get? b = some ob → h''.get? b = some ob := fun b ob hb q =>
      (sb.2 b fun z => hb (by simp [z])).trans (hk b ob (fun z => hb (by simp [z])) (fun z => hb (by simp [z])) q)
    have I1 : Inv X pins σ (upd H s.heap.objs.size (.tup [.int (i : Nat), x])) { s with heap := h'', toks := tk + 1 } :=
      I.turnedNew (ch := [e, it]) keep hf (Nat.le_refl _) new
    refine ⟨.ref s.heap.objs.size, _, I1, rfl, ⟨_, x, rfl, I.hok.fresh (Nat.le_refl _), rfl, fun ys hy => ?_⟩, ⟨⟨x', ?_⟩, hst'.1.at fun o q => (sb.2 it (Ne.symm hne)).trans q, hne⟩, fun b hb => ?_⟩
    · rw [I.tuple_inj hy hq]
      exact hx
    · have e1 : ((i + 1 : Nat) : Int) = (i : Int) + 1 := by omega
      rw [e1]
      exact he'
    · have hb' : b < s.heap.objs.size := by
        rcases List.mem_cons.mp hb with rfl | hb
        · exact hel
        · rw [List.mem_singleton.mp hb]
          exact hil
      rw [upd_ne (Nat.ne_of_lt hb')]
      exact (hf b hb).1
  done := by
    intro X hP hw hK hc i pins s σ H E I hf st hg
    subst hP hw hK
    obtain ⟨⟨old, he⟩, hit, hne⟩ := st
    obtain ⟨xs, hq, hx⟩ := hg
    obtain ⟨its, rv, p, hz⟩ := I.tuple hq
    have pT : s.heap.IsTuple a its.toArray := p
    have ai : a ≠ it := fun z => by
      obtain ⟨o, ho, hcl, _⟩ := pT
      obtain ⟨o', ho', hcl', _⟩ := hit
      rw [z, ho'] at ho
      cases ho
      rw [hcl'] at hcl
      exact absurd (Value.type.inj hcl) (by decide)
    have hl := rv.length
    have D := Draws.tuple (prog := X.prog) (w := X.w) (A := X.A.in1) (I.ok.hd hc) it a ai its.toArray
    obtain ⟨f0, f1, f2, f3, f4, f5⟩ := hf it (by simp)
    have hn : its.toArray.size = i := by
      rw [List.size_toArray]
      omega
    refine wpAny_pyNext_enum_endD D he (by rw [hn]; exact ⟨hit, pT⟩) fun h' eb => ⟨rfl, ?_⟩
    exact I.turned (t' := s.toks) (fun b o hb q => eb b o hb q) f0 f1 f3 f4 f5
  self := fun A i s Q E st h => by
    obtain ⟨⟨_, he⟩, _⟩ := st
    exact wpAny_pyIter_enum he h
def iEnumT (K : PySem.W.Frag) (ta : TA) : TI := fun σ H R => ta σ H fun vs H1 => ∃ a xs, vs = [.ref a] ∧ SqT K H1 a xs ∧ R (IteT K a) H1
theorem pi_enumT {X : Cx} {e : Expr} {ta : TA} {p pos tpos : Pos} {elts : List Expr} {kk : Nat} (hg : Gl X "enumerate") (hm : X.mg "enumerate" = none) (ha : PA X [e] ta)
    (hs : starEach [e] X.env = [(false, eval e X.env)] := by rfl) : PI X (.Tuple elts kk tpos) (.Call (.Name "enumerate" p) [e] [] pos) (iEnumT X.K ta) := by
  refine ⟨fun pins s σ H R I h => Call_ (ld_blt I hg hm boot_enumerate (callWith_type1 (thn (ha.run pos pins s σ H _ I h) fun us s1 hh => ?_) hs rfl))⟩
  obtain ⟨vs, H1, I1, r1, a, xs, ex, hq, q⟩ := hh
  subst ex
  cases r1 with
  | cons r rr =>
    cases rr
    cases r
    obtain ⟨its, rv, p', hz⟩ := I1.tuple hq
    have pT : s1.heap.IsTuple a its.toArray := p'
    refine enum_begins1 (begins_tuple a its.toArray) pT fun h' he hit hk => wpAny_pyIter_enum he ?_
    have I2 : Inv X pins σ H1 { s1 with heap := h' } := I1.kept (t' := s1.toks) hk
    have hti : h'.IsTupleIter s1.heap.objs.size a 0 := ⟨_, hit, rfl, rfl⟩
    refine ⟨s1.heap.objs.size + 1, [s1.heap.objs.size + 1, s1.heap.objs.size], _, _, H1, rfl, I2, turn_enumT a (s1.heap.objs.size + 1) s1.heap.objs.size, ⟨⟨.none, he⟩, hti, Nat.succ_ne_self _⟩, fun b hb => ?_, q⟩
    have hle : s1.heap.objs.size ≤ b := by
      rcases List.mem_cons.mp hb with rfl | hb
      · exact Nat.le_add_right _ _
      · rw [List.mem_singleton.mp hb]
        exact Nat.le_refl _
    exact I1.fpOk hle (I1.hok.fresh hle)
theorem kiEnumT {X : Cx} {K : PySem.W.Frag} {e : Expr} {ta : TA} {p pos tpos : Pos} {elts : List Expr} {kk : Nat} (hK : X.K = K) (hg : Gl X "enumerate") (hm : X.mg "enumerate" = none) (ha : PA X [e] ta)
    (hs : starEach [e] X.env = [(false, eval e X.env)] := by rfl) : PI X (.Tuple elts kk tpos) (.Call (.Name "enumerate" p) [e] [] pos) (iEnumT K ta) := by
  subst hK
  exact pi_enumT hg hm ha hs
/-- walked: the tuple's items with their places -/
theorem it_enumT {O : List Addr} {n : Nat} {ρ : Rho} {te : TE} {ds : List PyData} {K : PySem.W.Frag} (h : EvD O n te ρ (.tuple ds)) : IterD O n (iEnumT K (tCons te tNil)) ρ (enumD ds) := fun σ H hn s R q => h σ H hn s _ fun v H1 e1 d1 => by
  cases d1 with
  | @tup a xs _ ha k =>
    have l : (enumD ds).length = ds.length := by
      unfold enumD
      rw [List.length_zipWith, List.length_range, Nat.min_self]
    refine ⟨a, xs, rfl, Evl.st_of (sub_of ha).1, ?_⟩
    refine q (IteT K a) H1 (fun P H2 => sub H2 P a = some (.tup xs) ∧ DqAll (sub H2 P) xs ds) (fun i H v H' => ∃ T x, v = .ref T ∧ H T = none ∧ H' = upd H T (.tup [.int (i : Nat), x]) ∧ xs[i]? = some x) e1 (fun P => ?_) ⟨ha, k⟩ (fun P P' H2 H3 g e => ⟨e _ _ g.1, g.2.mono e⟩) ?_
    · rw [l, ← k.length]
      refine ⟨fun i H2 hi g => ?_, fun H2 g => ⟨xs, Evl.st_of (sub_of g.1).1, rfl⟩, fun i H2 x H3 hi g y => ?_⟩
      · exact ⟨xs, xs[i], Evl.st_of (sub_of g.1).1, List.getElem?_eq_getElem hi⟩
      · obtain ⟨T, z, hv, hT, hH, hz⟩ := y
        exact ⟨T, z, hv, hT, hH, hz xs (Evl.st_of (sub_of g.1).1)⟩
    · rintro P i H2 x H3 hi ho ⟨g1, g2⟩ ⟨T, z, rfl, hT, hH, hz⟩
      obtain ⟨d, h1, h2⟩ := g2.getV hz
      obtain ⟨a1, a2⟩ := pair_new ho hT hH (.int (i : Int)) h2
      refine ⟨a1, _, ?_, a2⟩
      unfold enumD
      rw [List.getElem?_zipWith, List.getElem?_range (by rw [← l]; exact hi), h1]
end DL
namespace DL
open PySem L2 PyProof.Rows TL RZ
section
variable {X : Cx} {K : PySem.W.Frag}
theorem kMin (hK : X.K = K) (hc : X.calm = true) : CallR X (.builtin "min") (rMin K) := by subst hK; exact cr_min hc
theorem kMax (hK : X.K = K) (hc : X.calm = true) : CallR X (.builtin "max") (rMax K) := by subst hK; exact cr_max hc
theorem kIndex (hK : X.K = K) : MtR X "list.index" (rIndex K) := by subst hK; exact mt_index
end
section
variable {O : List Addr} {n : Nat} {ρ : Rho} {K : PySem.W.Frag} {te ta : TE}
theorem rc_min {ns : List Int} {m : Int} (hm : m ∈ ns) (h : ∀ y, y ∈ ns → m ≤ y) : RDC O (rMin K) [.list (dI ns)] (.int m) := fun H vs _ hv Q q => by
  cases hv with
  | cons a r =>
    cases r
    cases a with
    | lst ha k =>
      have e := ints_dq k
      subst e
      refine ⟨_, ns, rfl, Evl.sq_of (sub_of ha).1, List.length_pos_of_mem hm, fun m2 h2 h3 => ?_⟩
      have e : m2 = m := by
        have q1 := h3 m hm
        have q2 := h m2 h2
        omega
      rw [e]
      exact q _ H (Evl.Ex.refl H) (.int m)
theorem rc_max {ns : List Int} {m : Int} (hm : m ∈ ns) (h : ∀ y, y ∈ ns → y ≤ m) : RDC O (rMax K) [.list (dI ns)] (.int m) := fun H vs _ hv Q q => by
  cases hv with
  | cons a r =>
    cases r
    cases a with
    | lst ha k =>
      have e := ints_dq k
      subst e
      refine ⟨_, ns, rfl, Evl.sq_of (sub_of ha).1, List.length_pos_of_mem hm, fun m2 h2 h3 => ?_⟩
      have e : m2 = m := by
        have q1 := h3 m hm
        have q2 := h m2 h2
        omega
      rw [e]
      exact q _ H (Evl.Ex.refl H) (.int m)
/-- xs.index(y) of whole numbers, y among them -/
theorem ed_index {ns : List Int} {y : Int} {j : Nat} (h : EvD O n te ρ (.list (dI ns))) (h2 : EvD O n ta ρ (.int y)) (hj : ns[j]? = some y) (hf : ∀ m z, m < j → ns[m]? = some z → z ≠ y) :
    EvD O n (tBM K "list" (rIndex K) te (tCons ta tNil)) ρ (.int (j : Int)) := fun σ H hn s Q q => h σ H hn s _ fun v H1 e1 d1 => by
  cases d1 with
  | @lst a xs _ ha k =>
    have e := ints_dq k
    subst e
    refine ⟨.inl ⟨rfl, _, Evl.sq_of (sub_of ha).1⟩, h2 σ H1 hn (s.ex e1) _ fun w H2 e2 d2 => ?_⟩
    cases d2
    have hx := e2 _ _ (sub_of ha).1
    refine ⟨a, ns.map V.int, .int y, j, .int y, rfl, rfl, Evl.sq_of hx, rfl, ?_, ?_, ?_, fun m z' hm hz => ?_, q _ H2 (e1.trans e2) (.int (j : Int))⟩
    · rw [List.all_eq_true]
      intro z hz
      obtain ⟨i, _, rfl⟩ := List.mem_map.mp hz
      rfl
    · rw [List.getElem?_map, hj]
      rfl
    · simp [eqV]
    · rw [List.getElem?_map] at hz
      cases c : ns[m]? with
      | none =>
        rw [c] at hz
        cases hz
      | some z =>
        rw [c] at hz
        have e3 := (Option.some.inj hz).symm
        subst e3
        have ne := hf m z hm c
        simp [eqV, ne]
end
end DL
/-! DE3: tuples summed and cut, the last item of a def's own list set. -/
namespace DL
open PySem L2 PyProof.Rows TL RZ
theorem sum_rawT {prog : Program} {w : World} {A : Around} {E : Value → Shared → Prop} {s : Shared} {l : Addr} {its : List Value} {ns : List Int} {Q : Value → Shared → Prop} (hh : A.handled = none) (hl : s.heap.IsTuple l its.toArray) (hi : IntsAre its ns)
    (h : ∀ h' tk t', (∀ b o, s.heap.get? b = some o → h'.get? b = some o) → Q (.int ns.sum t') { s with heap := h', toks := tk }) :
    wpAny (model prog w) A (call (.builtin "sum") [.ref l]) Q E s := by
  obtain ⟨xs, e⟩ := hi.allInts.items
  have hn : numsOf (intItems xs).toList = ns := by
    rw [← e]
    exact hi.numsOf
  rw [nums_intItems] at hn
  rw [e] at hl
  refine PySem.W.ktm_sumG hh hl fun h' tk t' hk => ?_
  have q := h h' tk t' hk
  rw [preSum_eq, List.take_of_length_le (by simp), hn]
  exact q
def rSumT (K : PySem.W.Frag) : List V → Hp → VK → Prop := fun vs H Q => ∃ (a : Addr) (ns : List Int), vs = [V.ref a] ∧ SqT K H a (ns.map V.int) ∧ Q (.int ns.sum) H
theorem kSumT {X : Cx} {K : PySem.W.Frag} (hK : X.K = K) (hc : X.calm = true) : CallR X (.builtin "sum") (rSumT K) := by
  subst hK
  intro pins s σ H vs us Q I r h
  obtain ⟨a, ns, rfl, hs, q⟩ := h
  obtain ⟨its, rv, hl, _⟩ := I.tuple hs
  rw [Vals.ref1 r]
  have pT : s.heap.IsTuple a its.toArray := hl
  exact sum_rawT (I.ok.hd hc) pT rv.ints fun h' tk t' hk => ⟨.int _, H, I.kept hk, ⟨_, rfl⟩, q⟩
section
variable {O : List Addr} {n m : Nat} {ρ ρ' : Rho} {K : PySem.W.Frag} {te ti : TE} {ds : List PyData} {d : PyData} {tl th : TO} {lo hi : Option Int}
theorem rc_sumT {ns : List Int} : RDC O (rSumT K) [.tuple (dI ns)] (.int ns.sum) := fun H vs _ hv Q q => by
  cases hv with
  | cons a r =>
    cases r
    cases a with
    | tup ha k =>
      have e := ints_dq k
      subst e
      exact ⟨_, ns, rfl, Evl.st_of (sub_of ha).1, q _ H (Evl.Ex.refl H) (.int _)⟩
theorem rc_sumL {ns : List Int} : RDC O (rSum K) [.list (dI ns)] (.int ns.sum) := fun H vs _ hv Q q => by
  cases hv with
  | cons a r =>
    cases r
    cases a with
    | lst ha k =>
      have e := ints_dq k
      subst e
      exact ⟨_, ns, rfl, Evl.sq_of (sub_of ha).1, q _ H (Evl.Ex.refl H) (.int _)⟩
theorem cut_all {ds : List PyData} (h : HT.sIx ds.length 0 lo = 0 ∧ HT.sIx ds.length ds.length hi = ds.length) : DL.cutD ds lo hi = ds := by
  unfold DL.cutD
  rw [h.1, h.2, List.drop_zero, Nat.sub_zero, List.take_of_length_le (Nat.le_refl _)]
/-- a tuple cut -/
theorem ed_slA (h : EvD O n te ρ (.tuple ds)) (h1 : EvDO O n tl ρ lo) (h2 : EvDO O n th ρ hi) : EvD O n (tSl (rSlA K) te tl th) ρ (.tuple (DL.cutD ds lo hi)) := fun σ H hn s Q q => h σ H hn s _ fun v H1 e1 d1 =>
  h1 σ H1 hn (s.ex e1) _ fun H2 e2 => h2 σ H2 hn ((s.ex e1).ex e2) _ fun H3 e3 => by
    have d3 := (d1.mono (Ex.o O e2)).mono (Ex.o O e3)
    cases d3 with
    | tup a k =>
      refine ⟨_, _, rfl, Evl.st_of (sub_of a).1, fun hw => ?_, fun _ p hp => ?_⟩
      · rw [k.length] at hw
        exact q _ H3 ((e1.trans e2).trans e3) (by rw [cut_all hw]; exact .tup a k)
      · exact q _ _ (((e1.trans e2).trans e3).trans (Evl.Ex.new hp)) (.tup (sub_mk upd_same (not_own (own_ex ((e1.trans e2).trans e3) s.own) hp)) ((k.cut lo hi).mono (Ex.o O (Evl.Ex.new hp))))
/-- found[-1] = e -/
theorem rl_setLast (h : EvD O n te (vw ρ m ds) d) (h2 : EvD O n ti (vw ρ m ds) (.int (-1))) (f : isFlat d = true) (hj : ds ≠ []) : RunL O n m (tAsg te (gSub (tVar m) ti rSetL)) ρ ds ρ (ds.set (ds.length - 1) d) := fun L D σ H hn s k =>
  h σ H hn s.view _ fun v H1 e1 d1 => by
    have s1 := s.step e1
    refine ⟨_, s.slot, h2 σ H1 hn s1.view _ fun w H2 e2 d2 => ?_⟩
    cases d2
    have s2 := s1.step e2
    obtain ⟨ys, hy, dy⟩ := s2.at_
    have hl := List.length_pos_iff.mpr hj
    have ly := dy.length
    refine ⟨L, ys, -1, ds.length - 1, rfl, rfl, hy, ?_, ?_⟩
    · unfold ixN
      rw [if_neg (by decide), if_pos (by omega)]
      congr 1
      omega
    have all : DqAll (sub H2 O) (ys.set (ds.length - 1) v) (ds.set (ds.length - 1) d) := dy.setAt (flat_dq d1 f) _
    refine k σ _ hn (((Ex.o [L] e1).trans (Ex.o [L] e2)).trans (ExO.upd (List.mem_singleton.mpr rfl))) (s2.other all ?_)
    rw [List.all_eq_true]
    intro y hy2
    rcases List.mem_or_eq_of_mem_set hy2 with hy2 | rfl
    · exact List.all_eq_true.mp s.flat y hy2
    · exact f
end
end DL
/-! DV: statements that go on, with the slots told that they may change; a new object of an own class filled by its __init__. -/
namespace DL
open PySem L2 Evl PyProof.Rows TL RZ
section
variable (O : List Addr)
/-- goes on; only slots in vs change -/
def RunV (n : Nat) (vs : List Nat) (t : TS) (ρ ρ' : Rho) : Prop := ∀ (D : Ends) (σ : L2.St) (H : Hp), σ.length = n → SD O H σ ρ →
  (∀ σ' H', σ'.length = n → Ex H H' → (∀ i, i ∉ vs → σ'[i]? = σ[i]?) → SD O H' σ' ρ' → D.nx σ' H') → t D σ H
end
section
variable {O : List Addr} {n i : Nat} {ρ ρ1 ρ' : Rho} {ds : List PyData} {d : PyData} {te : TE} {tt : TT} {t u : TS} {K : PySem.W.Frag} {g : TG} {wi : TI} {vs ws : List Nat} {tb : TS}
theorem rv_asg (h : EvD O n te ρ d) (hi : i < n) : RunV O n [i] (tAsg te (gName i)) ρ (ρ.set i (some d)) := fun D σ H hn s k =>
  h σ H hn s _ fun v H1 e1 d1 => k _ H1 (by rw [List.length_set]; exact hn) e1 (fun j hj => by rw [List.getElem?_set_ne (fun z => hj (List.mem_singleton.mpr z.symm))]) ((s.ex e1).set d1 (by rw [hn]; exact hi))
theorem rv_seq (h1 : RunV O n vs t ρ ρ1) (h2 : RunV O n ws u ρ1 ρ') : RunV O n (vs ++ ws) (tSeq t u) ρ ρ' := fun D σ H hn s k =>
  h1 _ σ H hn s fun σ1 H1 hn1 e1 c1 s1 => h2 D σ1 H1 hn1 s1 fun σ2 H2 hn2 e2 c2 s2 => k σ2 H2 hn2 (e1.trans e2) (fun j hj => by
    rw [c2 j fun z => hj (List.mem_append_right _ z), c1 j fun z => hj (List.mem_append_left _ z)]) s2
theorem rv_next : RunV O n [] tNext ρ ρ := fun D σ H hn s k => k σ H hn (Ex.refl H) (fun _ _ => rfl) s
theorem rv_if {b : Bool} (h : EvDT O n tt ρ b) (h1 : b = true → RunV O n vs t ρ ρ') (h2 : b = false → RunV O n vs u ρ ρ') : RunV O n vs (tIfS tt t u) ρ ρ' := fun D σ H hn s k => h σ H hn s _ fun H1 e1 => by
  cases b with
  | true => exact iteT (h1 rfl D σ H1 hn (s.ex e1) fun σ2 H2 l2 e2 c2 s2 => k σ2 H2 l2 (e1.trans e2) c2 s2)
  | false => exact iteF (h2 rfl D σ H1 hn (s.ex e1) fun σ2 H2 l2 e2 c2 s2 => k σ2 H2 l2 (e1.trans e2) c2 s2)
theorem rv_more (h : RunV O n vs t ρ ρ') (k : ∀ i, i ∈ vs → i ∈ ws) : RunV O n ws t ρ ρ' := fun D σ H hn s q => h D σ H hn s fun σ2 H2 l2 e2 c2 s2 => q σ2 H2 l2 e2 (fun j hj => c2 j fun z => hj (k j z)) s2
/-- a for over data -/
theorem rv_for (hw : IterD O n wi ρ ds) (R : Nat → Rho) (h0 : R 0 = ρ) (hs : ∀ i d, ds[i]? = some d → ∃ ρ', TgD O n vs g (R i) d ρ' ∧ RunV O n vs tb ρ' (R (i + 1))) :
    RunV O n vs (tFor wi g tb) ρ (R ds.length) := fun D σ H hn s k => hw σ H hn s _ fun J H1 G Y e1 W g1 gk yk => by
  refine for_it (W O) (fun i σ2 H2 => σ2.length = n ∧ Ex H1 H2 ∧ (∀ j, j ∉ vs → σ2[j]? = σ[j]?) ∧ SD O H2 σ2 (R i)) ⟨hn, Ex.refl H1, fun _ _ => rfl, by rw [h0]; exact s.ex e1⟩ (fun i σ2 H2 _ p => gk _ _ _ _ g1 (Ex.o O p.2.1)) ?_ ?_
  · rintro i x σ2 H2 H3 hi ⟨l2, x2, c2, s2⟩ y
    obtain ⟨e3, d, hdi, hx⟩ := yk O i H2 x H3 hi s2.own (gk _ _ _ _ g1 (Ex.o O x2)) y
    obtain ⟨ρ', ht, hb⟩ := hs i d hdi
    refine ht σ2 H3 x l2 (s2.ex e3) hx _ fun σ' hl' hc' s' => ?_
    exact hb _ σ' H3 hl' s' fun σ4 H4 hl4 e4 c4 s4 => ⟨hl4, (x2.trans e3).trans e4, fun j hj => by rw [c4 j hj, hc' j hj, c2 j hj], s4⟩
  · rintro σ2 H2 ⟨l2, x2, c2, s2⟩
    exact k σ2 H2 l2 (e1.trans x2) c2 s2
end
/-! ### __init__ -/
/-- self.f = e, self (slot 0) the new object at x -/
theorem init_fld {K : PySem.W.Frag} {O : List Addr} {n : Nat} {ρ : Rho} {te : TE} {d : PyData} {f : Str} {C x dx : Addr} {fs : List (Str × V)} {D : Ends} {σ : L2.St} {H : Hp} (h : EvD (x :: O) n te ρ d) (hn : σ.length = n) (s : SD (x :: O) H σ ρ) (h0 : σ[0]? = some (some (.ref x)))
    (hx : H x = some (.ins C dx fs)) (hc : Cls K C) (hf : NoAttr K C f) (hl : fs.length < 1000)
    (k : ∀ v H', ExO [x] H H' → SD (x :: O) H' σ ρ → H' x = some (.ins C dx (putF f v fs)) → Dq (sub H' (x :: O)) v d → D.nx σ H') : sFld K (tVar 0) te f D σ H :=
  h σ H hn s _ fun v H1 e1 d1 => by
    have hx1 := e1 _ _ hx
    have s1 := s.ex e1
    refine ⟨_, h0, x, C, dx, fs, rfl, hx1, hc, hf, hl, ?_⟩
    have e2 : ExO [x] H1 (upd H1 x (.ins C dx (putF f v fs))) := ExO.upd (List.mem_singleton.mpr rfl)
    have e3 : ExO (x :: O) H1 (upd H1 x (.ins C dx (putF f v fs))) := ExO.upd List.mem_cons_self
    refine k v _ ((Ex.o [x] e1).trans e2) (s1.mono e3 fun a ha z => ?_) upd_same (d1.mono e3)
    by_cases c : a = x
    · rw [c, upd_same] at z
      cases z
    · rw [upd_ne c] at z
      exact s1.own a ha z
end DL
/-! DW: max and min of two, list(range(n)), comprehensions with an if, several lists of a def's own of any data. -/
namespace DL
open PySem L2 Evl PyProof.Rows TL RZ
section
variable {O : List Addr} {n : Nat} {ρ : Rho} {ta tb te : TE} {K : PySem.W.Frag} {ds es : List PyData} {d : PyData}
theorem rc_max2 {i j : Int} : RDC O (fun xs H Q => ∃ i j, xs = [.int i, .int j] ∧ Q (.int (if j > i then j else i)) H) [.int i, .int j] (.int (max i j)) := fun H vs _ h' Q q => by
  cases h' with
  | cons a r =>
    cases a
    cases r with
    | cons b r =>
      cases b
      cases r
      refine ⟨i, j, rfl, ?_⟩
      have e : (if j > i then j else i) = max i j := by split <;> omega
      rw [e]
      exact q _ H (Ex.refl H) (.int _)
theorem rc_min2 {i j : Int} : RDC O (fun xs H Q => ∃ i j, xs = [.int i, .int j] ∧ Q (.int (if j < i then j else i)) H) [.int i, .int j] (.int (min i j)) := fun H vs _ h' Q q => by
  cases h' with
  | cons a r =>
    cases a
    cases r with
    | cons b r =>
      cases b
      cases r
      refine ⟨i, j, rfl, ?_⟩
      have e : (if j < i then j else i) = min i j := by split <;> omega
      rw [e]
      exact q _ H (Ex.refl H) (.int _)
theorem rg_dq {H : Hp} (m : Nat) : DqAll H (rgV 0 (m : Int)) (rngD m) := by
  have e1 : rgV 0 (m : Int) = ((List.range m).map fun i : Nat => (i : Int)).map V.int := by
    unfold rgV
    rw [List.map_map]
    have e : ((m : Int) - 0).toNat = m := by omega
    rw [e]
    apply List.map_congr_left
    intro i _
    show V.int (0 + (i : Int)) = V.int (i : Int)
    rw [Int.zero_add]
  have e2 : rngD m = dI ((List.range m).map fun i : Nat => (i : Int)) := by
    unfold rngD dI
    rw [List.map_map]
    rfl
  rw [e1, e2]
  exact dq_ints _
theorem ed_listRg {m : Nat} (h : EvD O n te ρ (.int (m : Int))) (hm : m ≤ 100000) : EvD O n (tLstRg (tRg1 te)) ρ (.list (rngD m)) := fun σ H hn s Q q => h σ H hn s _ fun v H1 e1 d1 => by
  cases d1
  refine ⟨_, rfl, RgOk.of_le (by decide) (by omega) (by decide) (by omega), fun p np => ?_⟩
  exact q _ _ (e1.trans (Ex.new np)) (.lst (sub_mk upd_same (not_own (own_ex e1 s.own) np)) (rg_dq m))
end
/-! ### [e for x in .. if t] -/
section
variable {O : List Addr} {n : Nat} {ρ : Rho} {te : TE} {tt : TT} {wi : TI} {g : TG} {vs : List Nat} {ds : List PyData}
theorem ed_lcF (f : Nat → List PyData) (hf : f 0 = []) (hlen : ∀ i, i < ds.length → (f i).length < 100000) (hw : IterD O n wi ρ ds)
    (h : ∀ D i d, ds[i]? = some d → ∃ ρ' b, TgD (D :: O) n vs g (wipeR ρ vs) d ρ' ∧ EvDT (D :: O) n tt ρ' b ∧ (b = true → ∃ e, EvD (D :: O) n te ρ' e ∧ f (i + 1) = f i ++ [e]) ∧ (b = false → f (i + 1) = f i)) :
    EvD O n (tLc wi g tt te vs) ρ (.list (f ds.length)) := fun σ H hn s Q q => hw σ H hn s _ fun J H1 G Y e1 W g1 gk yk => by
  intro D hD
  have lw : (L2.wipe σ vs).length = n := by rw [L2.wipe_length]; exact hn
  have s1 := s.ex e1
  refine lc_it (W (D :: O)) (fun i H2 => ∃ acc, H2 D = some (.lst acc) ∧ DqAll (sub H2 (D :: O)) acc (f i) ∧ Ex H1 H2) ⟨[], upd_same, by rw [hf]; exact DqAll.nil, Ex.new hD⟩ ?_ ?_ ?_
  · rintro i H2 _ ⟨acc, _, _, k2⟩
    exact gk _ _ _ _ g1 (ex_more k2 hD)
  · rintro i x H2 H3 hi ⟨acc, hA, hd, k2⟩ y
    have s2 : SD (D :: O) H2 σ ρ := s1.more k2 hD hA
    obtain ⟨e3, d, hdi, hx⟩ := yk (D :: O) i H2 x H3 hi s2.own (gk _ _ _ _ g1 (ex_more k2 hD)) y
    obtain ⟨ρ', b, ht, htt, hte, hsk⟩ := h D i d hdi
    have s3 := (s2.ex e3).wipe vs
    refine ht (L2.wipe σ vs) H3 x lw s3 hx _ fun σ' hl' hc' s' => ⟨?_, ?_⟩
    · have ew : L2.wipe (L2.wipe σ vs) vs = L2.wipe σ vs := by
        refine wipe_ext (by rw [L2.wipe_length]) fun i hi => L2.wipe_out hi
      rw [wipe_ext (by rw [hl', lw]) hc', ew]
    · refine htt σ' H3 hl' s' _ fun H4 e4 => ?_
      cases b with
      | false =>
        rw [if_neg Bool.false_ne_true]
        refine ⟨acc, e4 _ _ (e3 _ _ hA), ?_, (k2.trans e3).trans e4⟩
        rw [hsk rfl]
        exact hd.mono (Ex.o _ (e3.trans e4))
      | true =>
        rw [if_pos rfl]
        obtain ⟨e, he, hfe⟩ := hte rfl
        refine he σ' H4 hl' (s'.ex e4) _ fun y H5 e5 d5 => ⟨acc, e5 _ _ (e4 _ _ (e3 _ _ hA)), ?_, ?_⟩
        · have q1 := hd.length
          have q2 := hlen i hi
          exact sz_lt (n := acc.length) (Nat.lt_of_le_of_lt (Nat.le_of_eq q1) q2)
        · refine ⟨_, upd_same, ?_, Ex.mut (((k2.trans e3).trans e4).trans e5) hD⟩
          rw [sub_upd (List.mem_cons_self ..), hfe]
          exact (hd.mono (Ex.o _ ((e3.trans e4).trans e5))).append (.cons d5 .nil)
  · rintro H2 ⟨acc, hA, hd, k2⟩
    exact q _ H2 (e1.trans k2) (.lst (sub_mk hA (not_own s1.own hD)) (hd.mono ex_less))
theorem ed_lcFM {α : Type} {l : List α} {e1 e2 : α → PyData} {p : α → Bool} (hw : IterD O n wi ρ (l.map e1)) (hl : l.length ≤ 100000)
    (h : ∀ D a, a ∈ l → ∃ ρ', TgD (D :: O) n vs g (wipeR ρ vs) (e1 a) ρ' ∧ EvDT (D :: O) n tt ρ' (p a) ∧ (p a = true → EvD (D :: O) n te ρ' (e2 a))) :
    EvD O n (tLc wi g tt te vs) ρ (.list ((l.filter p).map e2)) := by
  have q := ed_lcF (O := O) (n := n) (ρ := ρ) (te := te) (tt := tt) (wi := wi) (g := g) (vs := vs) (ds := l.map e1) (fun i => ((l.take i).filter p).map e2) rfl (fun i hi => by
    rw [List.length_map] at hi
    rw [List.length_map]
    have q1 := List.length_filter_le p (l.take i)
    rw [List.length_take] at q1
    omega) hw (fun D i d hd => by
    rw [List.getElem?_map] at hd
    cases ha : l[i]? with
    | none => rw [ha] at hd; cases hd
    | some a =>
      rw [ha] at hd
      cases hd
      obtain ⟨ρ', h1, h2, h3⟩ := h D a (List.mem_of_getElem? ha)
      have e : l.take (i + 1) = l.take i ++ [a] := take_snoc ha
      refine ⟨ρ', p a, h1, h2, fun z => ⟨e2 a, h3 z, ?_⟩, fun z => ?_⟩
      · show ((l.take (i + 1)).filter p).map e2 = _
        rw [e, List.filter_append, List.map_append]
        simp [z]
      · show ((l.take (i + 1)).filter p).map e2 = _
        rw [e, List.filter_append, List.map_append]
        simp [z])
  simp only [List.length_map, List.take_length] at q
  exact q
end
/-! ### several lists of the def's own -/
theorem sub_less {H : Hp} {P P' : List Addr} (h : ∀ a, a ∈ P' → a ∈ P) : Ex (sub H P) (sub H P') := fun a o z => by
  obtain ⟨h1, h2⟩ := sub_of z
  exact sub_mk h1 fun w => h2 (h a w)
abbrev Own := Nat → Option (List PyData)
abbrev Own.none : Own := fun _ => Option.none
abbrev Own.put (c : Own) (m : Nat) (ds : List PyData) : Own := fun k => if k = m then some ds else c k
structure SDM (O : List Addr) (H0 : Hp) (c : Own) (H : Hp) (σ : L2.St) (ρ : Rho) (P : List Addr) (al : Nat → Addr) : Prop where
  less : ∀ a, a ∈ O → a ∈ P
  only : ∀ a, a ∈ P → a ∈ O ∨ ∃ m ds, c m = some ds ∧ a = al m
  sd : SD P H σ ρ
  at_ : ∀ m ds, c m = some ds → σ[m]? = some (some (.ref (al m))) ∧ (∃ xs, H (al m) = some (.lst xs) ∧ DqAll (sub H P) xs ds) ∧ ρ[m]? = some none ∧ al m ∈ P ∧ al m ∉ O ∧ H0 (al m) = none
  inj : ∀ m m' ds ds', c m = some ds → c m' = some ds' → al m = al m' → m = m'
  ex : Ex H0 H
section
variable {O P : List Addr} {H0 H H' : Hp} {c : Own} {σ : L2.St} {ρ : Rho} {al : Nat → Addr}
theorem SDM.step (s : SDM O H0 c H σ ρ P al) (e : Ex H H') : SDM O H0 c H' σ ρ P al where
  less := s.less
  only := s.only
  sd := s.sd.ex e
  at_ := fun m ds h => by
    obtain ⟨h1, ⟨xs, h2, h3⟩, h4⟩ := s.at_ m ds h
    exact ⟨h1, ⟨xs, e _ _ h2, h3.mono (Ex.o P e)⟩, h4⟩
  inj := s.inj
  ex := s.ex.trans e
theorem SDM.base {H1 : Hp} (s : SDM O H1 c H σ ρ P al) (e : Ex H0 H1) : SDM O H0 c H σ ρ P al where
  less := s.less
  only := s.only
  sd := s.sd
  at_ := fun m ds h => by
    obtain ⟨h1, h2, h3, h4, h5, h6⟩ := s.at_ m ds h
    refine ⟨h1, h2, h3, h4, h5, ?_⟩
    cases z : H0 (al m) with
    | none => rfl
    | some o =>
      rw [e _ _ z] at h6
      cases h6
  inj := s.inj
  ex := e.trans s.ex
theorem SDM.put {i : Nat} {v : V} {d : PyData} (s : SDM O H0 c H σ ρ P al) (h : Dq (sub H P) v d) (hi : i < σ.length) (hc : c i = none) : SDM O H0 c H (σ.set i (some v)) (ρ.set i (some d)) P al where
  less := s.less
  only := s.only
  sd := s.sd.set h hi
  at_ := fun m ds hm => by
    have ne : i ≠ m := fun z => by rw [z, hm] at hc; cases hc
    obtain ⟨h1, h2, h3, h4⟩ := s.at_ m ds hm
    exact ⟨by rw [List.getElem?_set_ne ne]; exact h1, h2, by rw [List.getElem?_set_ne ne]; exact h3, h4⟩
  inj := s.inj
  ex := s.ex
/-- a new list in slot m -/
theorem SDM.own {m : Nat} {p : Addr} {xs : List V} {ds : List PyData} (s : SDM O H0 c H σ ρ P al) (hp : H p = none) (d : DqAll (sub H P) xs ds) (hm : m < σ.length) (hr : m < ρ.length) (hc : c m = none) :
    SDM O H0 (c.put m ds) (upd H p (.lst xs)) (σ.set m (some (.ref p))) (ρ.set m none) (p :: P) (fun k => if k = m then p else al k) where
  less := fun a ha => List.mem_cons_of_mem _ (s.less a ha)
  only := fun a ha => by
    rcases List.mem_cons.mp ha with rfl | ha
    · exact .inr ⟨m, ds, by simp [Own.put], by simp⟩
    · rcases s.only a ha with q | ⟨k, es, h1, rfl⟩
      · exact .inl q
      · have ne : k ≠ m := fun z => by rw [z, hc] at h1; cases h1
        exact .inr ⟨k, es, by simp [Own.put, ne, h1], by simp [ne]⟩
  sd := (s.sd.more (Ex.new hp) hp upd_same).forget
  at_ := fun k es hk => by
    have pP : p ∉ P := not_own s.sd.own hp
    by_cases c2 : k = m
    · subst c2
      have hk : some ds = some es := by simpa [Own.put] using hk
      cases hk
      simp only [if_true]
      refine ⟨by rw [List.getElem?_set_self hm], ⟨xs, upd_same, d.mono (ex_more (Ex.new hp) hp)⟩, by rw [List.getElem?_set_self hr], List.mem_cons_self, fun z => pP (s.less _ z), ?_⟩
      cases z : H0 p with
      | none => rfl
      | some o =>
        rw [s.ex _ _ z] at hp
        cases hp
    · have hk : c k = some es := by simpa [Own.put, c2] using hk
      simp only [if_neg c2]
      obtain ⟨h1, ⟨ys, h2, h3⟩, h4, h5, h6⟩ := s.at_ k es hk
      exact ⟨by rw [List.getElem?_set_ne (Ne.symm c2)]; exact h1, ⟨ys, Ex.new hp _ _ h2, h3.mono (ex_more (Ex.new hp) hp)⟩, by rw [List.getElem?_set_ne (Ne.symm c2)]; exact h4, List.mem_cons_of_mem _ h5, h6⟩
  inj := fun k k' es es' hk hk' he => by
    have pP : p ∉ P := not_own s.sd.own hp
    by_cases c2 : k = m
    · by_cases c3 : k' = m
      · rw [c2, c3]
      · have hk' : c k' = some es' := by simpa [Own.put, c3] using hk'
        simp only [if_pos c2, if_neg c3] at he
        exact absurd (he ▸ (s.at_ k' es' hk').2.2.2.1) pP
    · have hk : c k = some es := by simpa [Own.put, c2] using hk
      by_cases c3 : k' = m
      · simp only [if_neg c2, if_pos c3] at he
        exact absurd (he ▸ (s.at_ k es hk).2.2.2.1) pP
      · have hk' : c k' = some es' := by simpa [Own.put, c3] using hk'
        simp only [if_neg c2, if_neg c3] at he
        exact s.inj k k' es es' hk hk' he
  ex := s.ex.trans (Ex.new hp)
/-- the list in slot m gets other contents -/
theorem SDM.other {m : Nat} {xs : List V} {ds es : List PyData} (s : SDM O H0 c H σ ρ P al) (hm : c m = some ds) (d : DqAll (sub H P) xs es) : SDM O H0 (c.put m es) (upd H (al m) (.lst xs)) σ ρ P al := by
  obtain ⟨m1, m2, m3, m4, m5, m6⟩ := s.at_ m ds hm
  have sb : sub (upd H (al m) (.lst xs)) P = sub H P := sub_upd m4
  have cs : ∀ k fs, (c.put m es) k = some fs → ∃ fs', c k = some fs' := fun k fs hk => by
    by_cases c2 : k = m
    · exact ⟨ds, by rw [c2]; exact hm⟩
    · exact ⟨fs, by simpa [Own.put, c2] using hk⟩
  refine ⟨s.less, fun a ha => ?_, ⟨fun a ha z => ?_, fun i d' hd => by rw [sb]; exact s.sd.at' i d' hd⟩, fun k fs hk => ?_, fun k k' fs fs' hk hk' he => ?_, fun a o ha => ?_⟩
  · rcases s.only a ha with q | ⟨k, fs, h1, h2⟩
    · exact .inl q
    · by_cases c2 : k = m
      · exact .inr ⟨m, es, by simp [Own.put], by rw [h2, c2]⟩
      · exact .inr ⟨k, fs, by simp [Own.put, c2, h1], h2⟩
  · by_cases c2 : a = al m
    · rw [c2, upd_same] at z
      cases z
    · rw [upd_ne c2] at z
      exact s.sd.own a ha z
  · by_cases c2 : k = m
    · subst c2
      have hk : some es = some fs := by simpa [Own.put] using hk
      cases hk
      exact ⟨m1, ⟨xs, upd_same, by rw [sb]; exact d⟩, m3, m4, m5, m6⟩
    · have hk : c k = some fs := by simpa [Own.put, c2] using hk
      obtain ⟨h1, ⟨ys, h2, h3⟩, h4⟩ := s.at_ k fs hk
      have ne : al k ≠ al m := fun z => c2 (s.inj k m fs ds hk hm z)
      exact ⟨h1, ⟨ys, by rw [upd_ne ne]; exact h2, by rw [sb]; exact h3⟩, h4⟩
  · obtain ⟨a1, b1⟩ := cs k fs hk
    obtain ⟨a2, b2⟩ := cs k' fs' hk'
    exact s.inj k k' a1 a2 b1 b2 he
  · have ne : a ≠ al m := fun z => by rw [z, m6] at ha; cases ha
    rw [upd_ne ne]
    exact s.ex a o ha
/-- slots with the own lists as data -/
def vwC (c : Own) : Nat → Rho → Rho
  | _, [] => []
  | k, x :: r => (match c k with | some ds => some (.list ds) | Option.none => x) :: vwC c (k + 1) r
theorem vwC_get (c : Own) : ∀ (ρ : Rho) (k i : Nat), (vwC c k ρ)[i]? = (ρ[i]?).map fun x => match c (k + i) with | some ds => some (.list ds) | Option.none => x
  | [], k, i => by simp [vwC]
  | x :: r, k, 0 => by simp [vwC]
  | x :: r, k, i + 1 => by
    have q := vwC_get c r (k + 1) i
    rw [show k + 1 + i = k + (i + 1) by omega] at q
    simpa [vwC] using q
theorem SDM.view (s : SDM O H0 c H σ ρ P al) : SD O H σ (vwC c 0 ρ) := ⟨fun a ha => s.sd.own a (s.less a ha), fun i d hd => by
  rw [vwC_get, Nat.zero_add] at hd
  cases hc : c i with
  | some ds =>
    obtain ⟨h1, ⟨xs, h2, h3⟩, h4, h5, h6, h7⟩ := s.at_ i ds hc
    rw [h4, hc] at hd
    simp only [Option.map_some, Option.some.injEq] at hd
    subst hd
    exact ⟨_, h1, .lst (sub_mk h2 h6) (h3.mono (sub_less s.less))⟩
  | none =>
    rw [hc] at hd
    cases hr : ρ[i]? with
    | none => rw [hr] at hd; cases hd
    | some x =>
      rw [hr] at hd
      simp only [Option.map_some, Option.some.injEq] at hd
      subst hd
      obtain ⟨v, h1, h2⟩ := s.sd.at' i d hr
      exact ⟨v, h1, h2.mono (sub_less s.less)⟩⟩
end
section
variable (O : List Addr)
def SDX (H0 : Hp) (c : Own) (H : Hp) (σ : L2.St) (ρ : Rho) : Prop := ∃ P al, SDM O H0 c H σ ρ P al
def RunM (n : Nat) (t : TS) (ρ : Rho) (c : Own) (ρ' : Rho) (c' : Own) : Prop := ∀ (H0 : Hp) (D : Ends) (σ : L2.St) (H : Hp), σ.length = n → SDX O H0 c H σ ρ →
  (∀ σ' H', σ'.length = n → SDX O H0 c' H' σ' ρ' → D.nx σ' H') → t D σ H
def RunMR (n : Nat) (t : TS) (ρ : Rho) (c : Own) (d : PyData) : Prop := ∀ (H0 : Hp) (D : Ends) (σ : L2.St) (H : Hp), σ.length = n → SDX O H0 c H σ ρ →
  (∀ v H', Ex H0 H' → Dq (sub H' O) v d → D.rt v H') → t D σ H
/-- a new list -/
def EvF (n : Nat) (te : TE) (ρ : Rho) (ds : List PyData) : Prop := ∀ (σ : L2.St) (H : Hp), σ.length = n → SD O H σ ρ → ∀ Q : VK,
  (∀ p xs H1, Ex H H1 → H1 p = none → DqAll (sub H1 O) xs ds → Q (.ref p) (upd H1 p (.lst xs))) → te σ H Q
end
section
variable {O : List Addr} {n m i j : Nat} {ρ ρ1 ρ' : Rho} {c c1 c' : Own} {ds es : List PyData} {d x : PyData} {te ti ta tb : TE} {tl : TA} {tt : TT} {t u : TS} {K : PySem.W.Frag} {g : TG} {wi : TI} {vs : List Nat}
theorem ef_lst (h : EvDA O n tl ρ ds) (hl : ds.length ≤ 100000) : EvF O n (tLst tl) ρ ds := fun σ H hn s Q q =>
  h σ H hn s _ fun vs H1 e1 d1 => ⟨by rw [d1.length]; exact sz_of hl, fun p hp => q p vs H1 e1 hp d1⟩
theorem ef_cat (ha : EvD O n ta ρ (.list ds)) (hb : EvD O n tb ρ (.list es)) (hl : ds.length + es.length ≤ 100000) : EvF O n (tOp rCat ta tb) ρ (ds ++ es) := fun σ H hn s Q q =>
  ha σ H hn s _ fun v H1 e1 d1 => hb σ H1 hn (s.ex e1) _ fun w H2 e2 d2 => by
    have d1' := d1.mono (Ex.o O e2)
    cases d1' with
    | @lst a xs _ ha k =>
      cases d2 with
      | @lst b ys _ hb k2 =>
        refine ⟨a, b, xs, ys, rfl, rfl, (sub_of ha).1, (sub_of hb).1, ?_, fun p hp => q p _ H2 (e1.trans e2) hp (k.append k2)⟩
        rw [k.length, k2.length]
        exact sz_of hl
theorem rm_enter (h : RunMR O n t ρ Own.none d) : RunR O n t ρ d := fun D σ H hn s k =>
  h H D σ H hn ⟨O, fun _ => 0, ⟨fun _ a => a, fun _ a => .inl a, s, fun _ _ z => (by cases z), fun _ _ _ _ z => (by cases z), Ex.refl H⟩⟩ k
theorem rm_leave (h : RunR O n t ρ d) : RunMR O n t ρ c d := fun H0 D σ H hn ⟨P, al, s⟩ k =>
  h D σ H hn ⟨fun a ha => s.sd.own a (s.less a ha), fun i d hd => by
    obtain ⟨v, h1, h2⟩ := s.sd.at' i d hd
    exact ⟨v, h1, h2.mono (sub_less s.less)⟩⟩ fun v H' e dd => k v H' (s.ex.trans e) dd
theorem rm_read (h : RunR O n t (vwC c 0 ρ) d) : RunMR O n t ρ c d := fun H0 D σ H hn ⟨P, al, s⟩ k =>
  h D σ H hn s.view fun v H' e dd => k v H' (s.ex.trans e) dd
theorem rm_seq (h1 : RunM O n t ρ c ρ1 c1) (h2 : RunM O n u ρ1 c1 ρ' c') : RunM O n (tSeq t u) ρ c ρ' c' := fun H0 D σ H hn s k =>
  h1 H0 _ σ H hn s fun σ1 H1 hn1 s1 => h2 H0 D σ1 H1 hn1 s1 k
theorem rm_seqR (h1 : RunM O n t ρ c ρ1 c1) (h2 : RunMR O n u ρ1 c1 d) : RunMR O n (tSeq t u) ρ c d := fun H0 D σ H hn s k =>
  h1 H0 _ σ H hn s fun σ1 H1 hn1 s1 => h2 H0 D σ1 H1 hn1 s1 k
theorem rm_next : RunM O n tNext ρ c ρ c := fun H0 D σ H hn s k => k σ H hn s
theorem rm_is (h : RunM O n t ρ c ρ1 c1) (e1 : ρ1 = ρ') (e2 : c1 = c') : RunM O n t ρ c ρ' c' := e1 ▸ e2 ▸ h
/-- x = e, any datum that reads no list of the def's own -/
theorem rm_asg (h : ∀ P, EvD P n te ρ d) (hi : i < n) (hc : c i = none) : RunM O n (tAsg te (gName i)) ρ c (ρ.set i (some d)) c := fun H0 D σ H hn ⟨P, al, s⟩ k =>
  h P σ H hn s.sd _ fun v H1 e1 d1 => k _ H1 (by rw [List.length_set]; exact hn) ⟨P, al, (s.step e1).put d1 (by rw [hn]; exact hi) hc⟩
/-- x = e, a scalar -/
theorem rm_asgV (h : EvD O n te (vwC c 0 ρ) d) (f : isFlat d = true) (hi : i < n) (hc : c i = none) : RunM O n (tAsg te (gName i)) ρ c (ρ.set i (some d)) c := fun H0 D σ H hn ⟨P, al, s⟩ k =>
  h σ H hn s.view _ fun v H1 e1 d1 => k _ H1 (by rw [List.length_set]; exact hn) ⟨P, al, (s.step e1).put (flat_dq d1 f) (by rw [hn]; exact hi) hc⟩
/-- x = e, a new list -/
theorem rm_own (h : ∀ P, EvF P n te ρ ds) (hm : m < n) (hr : m < ρ.length) (hc : c m = none) : RunM O n (tAsg te (gName m)) ρ c (ρ.set m none) (c.put m ds) := fun H0 D σ H hn ⟨P, al, s⟩ k =>
  h P σ H hn s.sd _ fun p xs H1 e1 np d1 => k _ _ (by rw [List.length_set]; exact hn) ⟨_, _, (s.step e1).own np d1 (by rw [hn]; exact hm) hr hc⟩
/-- x, y = [], e -/
theorem rm_parL (h : ∀ P, EvD P n te ρ d) (hm : m < n) (hi : i < n) (hr : m < ρ.length) (hc : c m = none) (hci : c i = none) (hmi : m ≠ i) : RunM O n (tPar m i (tCons (tLst tNil) (tCons te tNil))) ρ c ((ρ.set m none).set i (some d)) (c.put m []) := fun H0 D σ H hn ⟨P, al, s⟩ k => by
  refine ⟨(by show 0 ≤ sizeLine; decide), fun p np => ?_⟩
  have s1 := s.own (xs := []) (ds := []) np .nil (by rw [hn]; exact hm) hr hc
  have sd1 : SD (p :: P) (upd H p (.lst [])) σ ρ := s.sd.more (Ex.new np) np upd_same
  refine h (p :: P) σ _ hn sd1 _ fun v H1 e1 d1 => ?_
  refine ⟨_, _, rfl, k _ H1 (by rw [List.length_set, List.length_set]; exact hn) ⟨_, _, (s1.step e1).put d1 (by rw [List.length_set, hn]; exact hi) ?_⟩⟩
  simp [Own.put, Ne.symm hmi, hci]
/-- x, y = [], [] -/
theorem rm_parLL (hm : m < n) (hi : i < n) (hr : m < ρ.length) (hr2 : i < ρ.length) (hc : c m = none) (hci : c i = none) (hmi : m ≠ i) : RunM O n (tPar m i (tCons (tLst tNil) (tCons (tLst tNil) tNil))) ρ c ((ρ.set m none).set i none) ((c.put m []).put i []) := fun H0 D σ H hn ⟨P, al, s⟩ k => by
  refine ⟨(by show 0 ≤ sizeLine; decide), fun p np => ?_⟩
  have s1 := s.own (xs := []) (ds := []) np .nil (by rw [hn]; exact hm) hr hc
  refine ⟨(by show 0 ≤ sizeLine; decide), fun p2 np2 => ?_⟩
  have s2 := s1.own (m := i) (xs := []) (ds := []) np2 .nil (by rw [List.length_set, hn]; exact hi) (by rw [List.length_set]; exact hr2) (by simp [Own.put, Ne.symm hmi, hci])
  exact ⟨_, _, rfl, k _ _ (by rw [List.length_set, List.length_set]; exact hn) ⟨_, _, s2⟩⟩
theorem rm_append (hc : c m = some ds) (h : ∀ P, EvD P n te ρ d) (hl : ds.length ≤ 100000) : RunM O n (tDrop (tBM K "list" rAppend (tVar m) (tCons te tNil))) ρ c ρ (c.put m (ds ++ [d])) := fun H0 D σ H hn ⟨P, al, s⟩ k => by
  obtain ⟨m1, ⟨xs, hx, _⟩, _⟩ := s.at_ m ds hc
  refine ⟨_, m1, ty_lst hx, h P σ H hn s.sd _ fun v H1 e1 d1 => ?_⟩
  have s1 := s.step e1
  obtain ⟨_, ⟨ys, hy, dy⟩, _⟩ := s1.at_ m ds hc
  refine ⟨al m, ys, v, rfl, rfl, hy, Nat.lt_of_le_of_lt (show ys.length ≤ 100000 by have q := dy.length; omega) (by decide), ?_⟩
  exact k σ _ hn ⟨P, al, s1.other hc (dy.append (.cons d1 .nil))⟩
theorem rm_if {b : Bool} (h : EvDT O n tt (vwC c 0 ρ) b) (h1 : b = true → RunM O n t ρ c ρ' c') (h2 : b = false → RunM O n u ρ c ρ' c') : RunM O n (tIfS tt t u) ρ c ρ' c' := fun H0 D σ H hn ⟨P, al, s⟩ k =>
  h σ H hn s.view _ fun H1 e1 => by
    cases b with
    | true => exact iteT (h1 rfl H0 D σ H1 hn ⟨P, al, s.step e1⟩ k)
    | false => exact iteF (h2 rfl H0 D σ H1 hn ⟨P, al, s.step e1⟩ k)
/-- a for over what is none of the def's own lists -/
theorem rm_for (hw : ∀ P, IterD P n wi ρ es) (R : Nat → Rho × Own) (h0 : R 0 = (ρ, c))
    (hs : ∀ i e, es[i]? = some e → ∃ ρ', (∀ P, TgD P n vs g (R i).1 e ρ') ∧ (∀ k fs, (R i).2 k = some fs → k ∉ vs ∧ ρ'[k]? = some none) ∧ RunM O n t ρ' (R i).2 (R (i + 1)).1 (R (i + 1)).2) :
    RunM O n (tFor wi g t) ρ c (R es.length).1 (R es.length).2 := fun H0 D σ H hn ⟨P0, al0, s0⟩ k => hw P0 σ H hn s0.sd _ fun J H1 G Y e1 W g1 gk yk => by
  have s1 := s0.step e1
  let Z : List Addr := P0.filter fun a => decide (a ∉ O)
  let HB : Hp := sub H1 Z
  have zOf : ∀ a, a ∈ Z → a ∈ P0 ∧ a ∉ O := fun a ha => by
    have q := List.mem_filter.mp ha
    exact ⟨q.1, of_decide_eq_true q.2⟩
  have exB : Ex H0 HB := fun a o ha => by
    refine sub_mk (s1.ex a o ha) fun z => ?_
    obtain ⟨z1, z2⟩ := zOf a z
    rcases s1.only a z1 with q | ⟨k2, fs, h1, rfl⟩
    · exact z2 q
    · have q := (s1.at_ k2 fs h1).2.2.2.2.2
      rw [q] at ha
      cases ha
  have sB : SDM O HB c H1 σ ρ P0 al0 := ⟨s1.less, s1.only, s1.sd, fun k2 fs hk => by
    obtain ⟨h1, h2, h3, h4, h5, h6⟩ := s1.at_ k2 fs hk
    refine ⟨h1, h2, h3, h4, h5, ?_⟩
    show (if al0 k2 ∈ Z then none else H1 (al0 k2)) = none
    rw [if_pos (List.mem_filter.mpr ⟨h4, decide_eq_true h5⟩)], s1.inj, ex_sub H1 Z⟩
  -- what was there is there for all owned sets
  have toG : ∀ (P2 : List Addr) (al2 : Nat → Addr) (c2 : Own) (σ2 : L2.St) (ρ2 : Rho) (H2 : Hp), SDM O HB c2 H2 σ2 ρ2 P2 al2 → Ex (sub H1 P0) (sub H2 P2) := fun P2 al2 c2 σ2 ρ2 H2 s2 a o ha => by
    obtain ⟨h1, h2⟩ := sub_of ha
    have nz : a ∉ Z := fun z => h2 (zOf a z).1
    have hb : HB a = some o := sub_mk h1 nz
    refine sub_mk (s2.ex a o hb) fun z => ?_
    rcases s2.only a z with q | ⟨k2, fs, q1, rfl⟩
    · exact h2 (s1.less a q)
    · have q := (s2.at_ k2 fs q1).2.2.2.2.2
      rw [q] at hb
      cases hb
  have toG0 : ∀ (P2 : List Addr) (al2 : Nat → Addr) (c2 : Own) (σ2 : L2.St) (ρ2 : Rho) (H2 : Hp), SDM O HB c2 H2 σ2 ρ2 P2 al2 → Ex (sub H1 P0) (sub H2 P0) := fun P2 al2 c2 σ2 ρ2 H2 s2 a o ha => by
    obtain ⟨h1, h2⟩ := sub_of ha
    have nz : a ∉ Z := fun z => h2 (zOf a z).1
    exact sub_mk (s2.ex a o (sub_mk h1 nz)) h2
  refine for_it (W P0) (fun i σ2 H2 => σ2.length = n ∧ SDX O HB (R i).2 H2 σ2 (R i).1) ⟨hn, P0, al0, by rw [h0]; exact sB⟩ (fun i σ2 H2 _ p => ?_) ?_ ?_
  · obtain ⟨_, P2, al2, s2⟩ := p
    exact gk _ _ _ _ g1 (toG0 P2 al2 _ _ _ _ s2)
  · rintro i x σ2 H2 H3 hi ⟨l2, P2, al2, s2⟩ y
    obtain ⟨e3, e, hdi, hx⟩ := yk P2 i H2 x H3 hi s2.sd.own (gk _ _ _ _ g1 (toG P2 al2 _ _ _ _ s2)) y
    obtain ⟨ρ', ht, hfree, hb⟩ := hs i e hdi
    have s3 := s2.step e3
    refine ht P2 σ2 H3 x l2 s3.sd hx _ fun σ' hl' hout s' => ?_
    refine hb HB _ σ' H3 hl' ⟨P2, al2, ⟨s3.less, s3.only, s', fun k2 fs hk => ?_, s3.inj, s3.ex⟩⟩ fun σ4 H4 hl4 s4 => ⟨hl4, s4⟩
    obtain ⟨h1, h2, h3, h4⟩ := s3.at_ k2 fs hk
    obtain ⟨f1, f2⟩ := hfree k2 fs hk
    exact ⟨by rw [hout k2 f1]; exact h1, h2, f2, h4⟩
  · rintro σ2 H2 ⟨l2, P2, al2, s2⟩
    exact k σ2 H2 l2 ⟨P2, al2, s2.base exB⟩
end
/-! ### two parameters by name, the second one first -/
def swG (us ws : List Value) : List Value := match ws with
  | [a, b] => us ++ [b, a]
  | _ => us ++ ws
def swV (us ws : List V) : List V := match ws with
  | [a, b] => us ++ [b, a]
  | _ => us ++ ws
theorem kb_swap {K : PySem.W.Frag} {f : Addr} {fd : FuncData} {x qual k0 k1 : Str} {st : Stmt} (F : Fun K x qual st f fd)
    (h : ∀ (kV doc pm : Value) (an : Option Addr) (cdv ct : Value) (u v : Value), bindArgs (PySem.W.fnOf x qual (defArgs st) (defBody st) (defScope st) .none kV doc pm an cdv ct) ⟨[], [(k1, u), (k0, v)]⟩ = pure [(k0, v), (k1, u)]) : KBn K fd [k0, k1] 0 [k1, k0] swG swV := by
  obtain ⟨oc, od, kV, doc, pm, an, cdv, ct, osl, rfl, lk, hcd⟩ := F.ex
  refine ⟨fun s us ws X l1 l2 => ?_, fun {vs us zs ws} r1 r2 => ?_⟩
  · match us, ws, l1, l2 with
    | [], [u, v], _, _ => exact .of_eq (h kV doc pm an cdv ct u v)
  · match zs, ws, r2 with
    | [], [], r2 => exact r1.append r2
    | [_], [_], r2 => exact r1.append r2
    | [a, b], [_, _], .cons h1 (.cons h2 .nil) => exact r1.append (.cons h2 (.cons h1 .nil))
    | _ :: _ :: _ :: _, _ :: _ :: _ :: _, r2 => exact r1.append r2
theorem sw_dq {x y : PyData} : ∀ (H : Hp) (vs : List V), DqAll H vs [x, y] → DqAll H (swV [] vs) [y, x] := fun H vs h => by
  cases h with
  | cons a r =>
    cases r with
    | cons b r =>
      cases r
      exact .cons b (.cons a .nil)
/-! ### items at written places -/
section
variable {O : List Addr} {K : PySem.W.Frag} {ds : List PyData} {d : PyData}
theorem rd_ixTz {i : Int} (h0 : decide (0 ≤ i) = true) (h : ds[i.toNat]? = some d) : RD O (rIxT K) (.tuple ds) (.int i) d := by
  have e : i = ((i.toNat : Nat) : Int) := by
    have q := of_decide_eq_true h0
    omega
  rw [e]
  exact rd_ixT h
theorem rd_ixLz {i : Int} (h0 : decide (0 ≤ i) = true) (h : ds[i.toNat]? = some d) : RD O (rIxL K) (.list ds) (.int i) d := by
  have e : i = ((i.toNat : Nat) : Int) := by
    have q := of_decide_eq_true h0
    omega
  rw [e]
  exact rd_ixL h
end
/-! ### lists of shaped data -/
theorem lay_all {k : Nat} : ∀ {xs : List PyData}, (∀ x, x ∈ xs → x.canLay0 = true ∧ x.depth ≤ k) → PyData.canLayAll0 xs = true ∧ PyData.depthAll xs ≤ k
  | [], _ => ⟨rfl, Nat.zero_le _⟩
  | x :: xs, h => by
    obtain ⟨a1, a2⟩ := h x (List.mem_cons_self ..)
    obtain ⟨b1, b2⟩ := lay_all fun y hy => h y (List.mem_cons_of_mem _ hy)
    refine ⟨?_, ?_⟩
    · show (PyData.canLay0 x && PyData.canLayAll0 xs) = true
      rw [a1, b1]
      rfl
    · show max (PyData.depth x) (PyData.depthAll xs) ≤ k
      omega
theorem shaped_all {k : Nat} {x : PyData} {xs : List PyData} (hs : SeqD x xs) (h : ∀ x, x ∈ xs → x.canLay0 = true ∧ x.depth ≤ k) (hk : k + 1 ≤ 64) : SeqAt.shaped x = true := by
  obtain ⟨h1, h2⟩ := lay_all h
  unfold SeqAt.shaped
  cases hs with
  | lst =>
    show (PyData.canLayAll0 xs && decide (PyData.depthAll xs + 1 ≤ 64)) = true
    rw [h1, decide_eq_true (by omega)]
    rfl
  | tup =>
    show (PyData.canLayAll0 xs && decide (PyData.depthAll xs + 1 ≤ 64)) = true
    rw [h1, decide_eq_true (by omega)]
    rfl
end DL
/-! DZ: draws from the law's box (slot 0) amid data: what comes is known by a property alone. -/
namespace DL
open PySem L2 Evl PyProof.Rows TL RZ
theorem exo_more {O : List Addr} {p : Addr} {H H' : Hp} (e : ExO [p] H H') (h : p ∈ O) : ExO O H H' := e.less fun a ha => by
  rw [List.mem_singleton.mp ha]
  exact h
structure SB (O : List Addr) (p : Addr) (c : Nat) (H : Hp) (σ : L2.St) (ρ : Rho) : Prop where
  sd : SD O H σ ρ
  bx : σ[0]? = some (some (.ref p))
  box : Box p c H
  mem : p ∈ O
  fr : ρ[0]? = some none
theorem own_o {O : List Addr} {p : Addr} {c : Nat} {H H' : Hp} (e : ExO [p] H H') (b : Box p c H') (h : ∀ a, a ∈ O → H a ≠ none) : ∀ a, a ∈ O → H' a ≠ none := fun a ha z => by
  by_cases q : a = p
  · exact b.own a (List.mem_singleton.mpr q) z
  · cases r : H a with
    | none => exact h a ha r
    | some o =>
      have w := e.at r (fun y => q (List.mem_singleton.mp y))
      rw [z] at w
      cases w
theorem SB.step {O : List Addr} {p : Addr} {c c' : Nat} {H H' : Hp} {σ : L2.St} {ρ : Rho} (s : SB O p c H σ ρ) (e : ExO [p] H H') (b : Box p c' H') : SB O p c' H' σ ρ :=
  ⟨s.sd.mono (exo_more e s.mem) (own_o e b s.sd.own), s.bx, b, s.mem, s.fr⟩
theorem SB.put {O : List Addr} {p : Addr} {c : Nat} {H : Hp} {σ : L2.St} {ρ : Rho} {i : Nat} {v : V} {d : PyData} (s : SB O p c H σ ρ) (h : Dq (sub H O) v d) (hi : i < σ.length) (h0 : i ≠ 0) : SB O p c H (σ.set i (some v)) (ρ.set i (some d)) :=
  ⟨s.sd.set h hi, by rw [List.getElem?_set_ne h0]; exact s.bx, s.box, s.mem, by rw [List.getElem?_set_ne h0]; exact s.fr⟩
section
variable (n : Nat)
def EvB (te : TE) (ρ : Rho) (k : Nat) (S : PyData → Prop) : Prop := ∀ (O : List Addr) (p : Addr) (c : Nat) (σ : L2.St) (H : Hp), σ.length = n → SB O p c H σ ρ → c + k ≤ 1000000 → ∀ Q : VK,
  (∀ v d H', S d → ExO [p] H H' → Box p (c + k) H' → Dq (sub H' O) v d → Q v H') → te σ H Q
def EvBA (ta : TA) (ρ : Rho) (k : Nat) (S : List PyData → Prop) : Prop := ∀ (O : List Addr) (p : Addr) (c : Nat) (σ : L2.St) (H : Hp), σ.length = n → SB O p c H σ ρ → c + k ≤ 1000000 → ∀ Q : List V → Hp → Prop,
  (∀ vs ds H', S ds → ExO [p] H H' → Box p (c + k) H' → DqAll (sub H' O) vs ds → Q vs H') → ta σ H Q
def EvBT (tt : TT) (ρ : Rho) (k : Nat) (S : Bool → Prop) : Prop := ∀ (O : List Addr) (p : Addr) (c : Nat) (σ : L2.St) (H : Hp), σ.length = n → SB O p c H σ ρ → c + k ≤ 1000000 → ∀ Q : Bool → Hp → Prop,
  (∀ b H', S b → ExO [p] H H' → Box p (c + k) H' → Q b H') → tt σ H Q
def RunB (vs : List Nat) (t : TS) (ρ : Rho) (k : Nat) (S : Rho → Prop) : Prop := ∀ (O : List Addr) (p : Addr) (c : Nat) (D : Ends) (σ : L2.St) (H : Hp), σ.length = n → SB O p c H σ ρ → c + k ≤ 1000000 →
  (∀ ρ' σ' H', S ρ' → σ'.length = n → (∀ i, i ∉ vs → σ'[i]? = σ[i]?) → ExO [p] H H' → SB O p (c + k) H' σ' ρ' → D.nx σ' H') → t D σ H
def RunBR (t : TS) (ρ : Rho) (k : Nat) (S : PyData → Prop) : Prop := ∀ (O : List Addr) (p : Addr) (c : Nat) (D : Ends) (σ : L2.St) (H : Hp), σ.length = n → SB O p c H σ ρ → c + k ≤ 1000000 →
  (∀ v d H', S d → ExO [p] H H' → Box p (c + k) H' → Dq (sub H' O) v d → D.rt v H') → t D σ H
end
theorem log_lt {m : Int} (h0 : 0 ≤ m) (h : m < 2 ^ 200) : m.natAbs.log2 < 9000 := by
  by_cases c : m = 0
  · subst c
    decide
  · have e : m.natAbs < 2 ^ 200 := by
      have e2 : ((2 : Int) ^ 200) = ((2 ^ 200 : Nat) : Int) := by decide
      omega
    exact Nat.lt_trans ((Nat.log2_lt (by omega)).mpr e) (by decide)
section
variable {n i j k k1 k2 : Nat} {ρ ρ1 ρ' : Rho} {te ta tb : TE} {tr : TA} {tt : TT} {t u : TS} {S S1 S2 : PyData → Prop} {K : PySem.W.Frag} {d x : PyData} {ds : List PyData} {vs ws : List Nat} {r : R2} {E : XK}
theorem eb_pure (h : ∀ O, EvD O n te ρ d) : EvB n te ρ 0 (fun x => x = d) := fun O p c σ H hn s hc Q q =>
  h O σ H hn s.sd _ fun v H1 e1 d1 => q v d H1 rfl (Ex.o _ e1) (s.box.ex e1) d1
theorem eb_wk (h : EvB n te ρ k S) (hk : k ≤ k1) (hs : ∀ d, S d → S1 d) : EvB n te ρ k1 S1 := fun O p c σ H hn s hc Q q =>
  h O p c σ H hn s (by omega) Q fun v d H1 hd e1 b1 d1 => q v d H1 (hs d hd) e1 (b1.mono (by omega)) d1
theorem eba_nil : EvBA n tNil ρ 0 (fun ds => ds = []) := fun O p c σ H hn s hc Q q => q [] [] H rfl (ExO.refl _ H) s.box .nil
theorem eba_cons {A : List PyData → Prop} (ha : EvB n ta ρ k1 S1) (hr : EvBA n tr ρ k2 A) : EvBA n (tCons ta tr) ρ (k1 + k2) (fun ds => ∃ d r, ds = d :: r ∧ S1 d ∧ A r) := fun O p c σ H hn s hc Q q =>
  ha O p c σ H hn s (by omega) _ fun v d H1 hd e1 b1 d1 => hr O p (c + k1) σ H1 hn (s.step e1 b1) (by omega) _ fun vs ds H2 hds e2 b2 d2 =>
    q _ _ H2 ⟨d, ds, rfl, hd, hds⟩ (e1.trans e2) (by rw [← Nat.add_assoc]; exact b2) (.cons (d1.mono (exo_more e2 s.mem)) d2)
theorem eba_pure (h : ∀ O, EvDA O n tr ρ ds) : EvBA n tr ρ 0 (fun x => x = ds) := fun O p c σ H hn s hc Q q =>
  h O σ H hn s.sd _ fun v H1 e1 d1 => q v ds H1 rfl (Ex.o _ e1) (s.box.ex e1) d1
theorem eb_op (ha : EvB n ta ρ k1 S1) (hb : EvB n tb ρ k2 S2) (hr : ∀ x y, S1 x → S2 y → ∃ z, S z ∧ ∀ O, RD O r x y z) : EvB n (tOp r ta tb) ρ (k1 + k2) S := fun O p c σ H hn s hc Q q =>
  ha O p c σ H hn s (by omega) _ fun v x H1 hx e1 b1 d1 => hb O p (c + k1) σ H1 hn (s.step e1 b1) (by omega) _ fun w y H2 hy e2 b2 d2 => by
    obtain ⟨z, hz, h⟩ := hr x y hx hy
    refine h O H2 v w (own_o (e1.trans e2) b2 s.sd.own) (d1.mono (exo_more e2 s.mem)) d2 Q fun u H3 e3 d3 => ?_
    exact q u z H3 hz ((e1.trans e2).trans (Ex.o _ e3)) (by rw [← Nat.add_assoc]; exact b2.ex e3) d3
theorem eb_lst {A : List PyData → Prop} (h : EvBA n tr ρ k A) (hl : ∀ ds, A ds → ds.length ≤ 100000) : EvB n (tLst tr) ρ k (fun d => ∃ ds, d = .list ds ∧ A ds) := fun O p c σ H hn s hc Q q =>
  h O p c σ H hn s hc _ fun vs ds H1 hd e1 b1 d1 => ⟨by rw [d1.length]; exact sz_of (hl ds hd), fun l nl => by
    refine q _ (.list ds) _ ⟨ds, rfl, hd⟩ (e1.trans (Ex.o _ (Ex.new nl))) (b1.ex (Ex.new nl)) (.lst (sub_mk upd_same (not_own (own_o e1 b1 s.sd.own) nl)) (d1.mono (Ex.o O (Ex.new nl))))⟩
theorem eb_tup {A : List PyData → Prop} (h : EvBA n tr ρ k A) (hl : ∀ ds, A ds → ds.length ≤ 100000) : EvB n (tTup tr) ρ k (fun d => ∃ ds, d = .tuple ds ∧ A ds) := fun O p c σ H hn s hc Q q =>
  h O p c σ H hn s hc _ fun vs ds H1 hd e1 b1 d1 => ⟨by rw [d1.length]; exact sz_of (hl ds hd), fun l nl => by
    refine q _ (.tuple ds) _ ⟨ds, rfl, hd⟩ (e1.trans (Ex.o _ (Ex.new nl))) (b1.ex (Ex.new nl)) (.tup (sub_mk upd_same (not_own (own_o e1 b1 s.sd.own) nl)) (d1.mono (Ex.o O (Ex.new nl))))⟩
theorem eb_cb {A : List PyData → Prop} {rc : List V → Hp → VK → Prop} (h : EvBA n tr ρ k A) (hr : ∀ ds, A ds → ∃ z, S z ∧ ∀ O, RDC O rc ds z) : EvB n (tCB rc tr) ρ k S := fun O p c σ H hn s hc Q q =>
  h O p c σ H hn s hc _ fun vs ds H1 hd e1 b1 d1 => by
    obtain ⟨z, hz, h⟩ := hr ds hd
    exact h O H1 vs (own_o e1 b1 s.sd.own) d1 Q fun u H2 e2 d2 => q u z H2 hz (e1.trans (Ex.o _ e2)) (b1.ex e2) d2
/-- one draw -/
theorem eb_take (h : EvB n te ρ k (fun d => ∃ m : Int, d = .int m ∧ 0 < m ∧ m.natAbs.log2 < 9000 ∧ ∀ r : Int, 0 ≤ r → r < m → S (.int r))) : EvB n (tCall spTake [] E (tCons (tVar 0) (tCons te tNil))) ρ (k + 1) S := fun O p c σ H hn s hc Q q => by
  refine ⟨_, s.bx, h O p c σ H hn s (by omega) _ fun v d H1 hd e1 b1 d1 => ?_⟩
  obtain ⟨m, rfl, m0, m1, hm⟩ := hd
  cases d1
  exact ⟨p, c + k, m, rfl, b1, by omega, m0, m1, fun r H2 r0 r1 e2 b2 => q _ _ H2 (hm r r0 r1) (e1.trans e2) (by rw [← Nat.add_assoc]; exact b2) (.int r)⟩
theorem eb_draw {m : Int} (h : ∀ O, EvD O n te ρ (.int m)) (m0 : 0 < m) (m1 : m.natAbs.log2 < 9000) (hm : ∀ r : Int, 0 ≤ r → r < m → S (.int r)) : EvB n (tCall spTake [] E (tCons (tVar 0) (tCons te tNil))) ρ 1 S :=
  eb_wk (eb_take (S := S) (eb_wk (eb_pure h) (Nat.le_refl 0) fun d e => by
    subst e
    exact ⟨m, rfl, m0, m1, hm⟩)) (Nat.le_refl 1) fun d z => z
/-- one of the goods -/
theorem eb_of (h : EvB n te ρ k (fun d => ∃ ds, d = .list ds ∧ 0 < ds.length ∧ ds.length ≤ 1000 ∧ ∀ e, e ∈ ds → isFlat e = true ∧ S e)) : EvB n (tCall spOf [] E (tCons (tVar 0) (tCons te tNil))) ρ (k + 1) S := fun O p c σ H hn s hc Q q => by
  refine ⟨_, s.bx, h O p c σ H hn s (by omega) _ fun v d H1 hd e1 b1 d1 => ?_⟩
  obtain ⟨ds, rfl, l0, l1, hs⟩ := hd
  refine ⟨p, c + k, v, ds, rfl, b1, by omega, d1.mono (sub_less fun a ha => by rw [List.mem_singleton.mp ha]; exact s.mem), l0, l1, fun d w H2 hd dw e2 b2 => ?_⟩
  obtain ⟨f, hS⟩ := hs d hd
  exact q w d H2 hS (e1.trans e2) (by rw [← Nat.add_assoc]; exact b2) (flat_dq dw f)
theorem eb_if {B : Bool → Prop} (h : EvBT n tt ρ k B) (h1 : B true → EvB n ta ρ k1 S) (h2 : B false → EvB n tb ρ k1 S) : EvB n (tIf tt ta tb) ρ (k + k1) S := fun O p c σ H hn s hc Q q =>
  h O p c σ H hn s (by omega) _ fun b H1 hb e1 b1 => by
    cases b with
    | true =>
      show (if true = true then _ else _)
      rw [if_pos rfl]
      exact h1 hb O p (c + k) σ H1 hn (s.step e1 b1) (by omega) Q fun v d H2 hd e2 b2 d2 => q v d H2 hd (e1.trans e2) (by rw [← Nat.add_assoc]; exact b2) d2
    | false =>
      show (if false = true then _ else _)
      rw [if_neg Bool.false_ne_true]
      exact h2 hb O p (c + k) σ H1 hn (s.step e1 b1) (by omega) Q fun v d H2 hd e2 b2 d2 => q v d H2 hd (e1.trans e2) (by rw [← Nat.add_assoc]; exact b2) d2
theorem ebt_test {B : Bool → Prop} (h : EvB n te ρ k (fun d => ∃ b, d = .bool b ∧ B b)) : EvBT n (tTest te) ρ k B := fun O p c σ H hn s hc Q q =>
  h O p c σ H hn s hc _ fun v d H1 hd e1 b1 d1 => by
    obtain ⟨b, rfl, hb⟩ := hd
    cases d1
    exact ⟨b, rfl, q b H1 hb e1 b1⟩
theorem ebt_B {B : Bool → Prop} (h : EvB n te ρ k (fun d => ∃ b, d = .bool b ∧ B b)) : EvBT n (tB te) ρ k B := fun O p c σ H hn s hc Q q =>
  h O p c σ H hn s hc _ fun v d H1 hd e1 b1 d1 => by
    obtain ⟨b, rfl, hb⟩ := hd
    cases d1
    exact ⟨b, rfl, q b H1 hb e1 b1⟩
theorem ebt_not {B : Bool → Prop} (h : EvBT n tt ρ k (fun b => B (!b))) : EvBT n (tNot tt) ρ k B := fun O p c σ H hn s hc Q q => h O p c σ H hn s hc _ fun b H1 hb e1 b1 => q (!b) H1 hb e1 b1
theorem ebt_pure {b : Bool} (h : ∀ O, EvDT O n tt ρ b) : EvBT n tt ρ 0 (fun x => x = b) := fun O p c σ H hn s hc Q q =>
  h O σ H hn s.sd _ fun H1 e1 => q b H1 rfl (Ex.o _ e1) (s.box.ex e1)
/-- a call of a pure def on drawn data -/
theorem eb_callD {A : List PyData → Prop} {R : List PyData → PyData → Prop} (h : EvBA n tr ρ k A) (hR : ∀ ds, A ds → ∃ d, R ds d ∧ S d) : EvB n (tCall (spD R) [] E tr) ρ k S := fun O p c σ H hn s hc Q q =>
  h O p c σ H hn s hc _ fun vs ds H1 hd e1 b1 d1 => by
    obtain ⟨d, hRd, hS⟩ := hR ds hd
    exact ⟨O, ds, d, own_o e1 b1 s.sd.own, by rw [List.append_nil]; exact d1, hRd, fun v H2 e2 d2 => q v d H2 hS (e1.trans (Ex.o _ e2)) (b1.ex e2) d2⟩
/-- what a def that draws promises -/
def spB (kf : Nat) (R : List PyData → (PyData → Prop) → Prop) : Sp := fun vs H Q _ => ∃ (O : List Addr) (p : Addr) (c : Nat) (us : List V) (ds : List PyData) (S : PyData → Prop), vs = .ref p :: us ∧ p ∈ O ∧ (∀ a, a ∈ O → H a ≠ none) ∧ Box p c H ∧ c + kf ≤ 1000000 ∧ DqAll (sub H O) us ds ∧ R ds S ∧
  ∀ v d H', S d → ExO [p] H H' → Box p (c + kf) H' → Dq (sub H' O) v d → Q v H'
theorem eb_call {kf : Nat} {A : List PyData → Prop} {R : List PyData → (PyData → Prop) → Prop} (h : EvBA n tr ρ k A) (hR : ∀ ds, A ds → R ds S) : EvB n (tCall (spB kf R) [] E (tCons (tVar 0) tr)) ρ (k + kf) S := fun O p c σ H hn s hc Q q => by
  refine ⟨_, s.bx, h O p c σ H hn s (by omega) _ fun vs ds H1 hd e1 b1 d1 => ?_⟩
  refine ⟨O, p, c + k, vs, ds, S, by rw [List.append_nil], s.mem, own_o e1 b1 s.sd.own, b1, by omega, d1, hR ds hd, fun v d H2 hS e2 b2 d2 => ?_⟩
  exact q v d H2 hS (e1.trans e2) (by rw [← Nat.add_assoc]; exact b2) d2
/-! statements -/
theorem rb_asg (h : EvB n te ρ k S) (hi : i < n) (h0 : i ≠ 0) : RunB n [i] (tAsg te (gName i)) ρ k (fun ρ' => ∃ d, S d ∧ ρ' = ρ.set i (some d)) := fun O p c D σ H hn s hc q =>
  h O p c σ H hn s hc _ fun v d H1 hd e1 b1 d1 => q _ _ H1 ⟨d, hd, rfl⟩ (by rw [List.length_set]; exact hn) (fun j hj => by rw [List.getElem?_set_ne fun z => hj (List.mem_singleton.mpr z.symm)]) e1 ((s.step e1 b1).put d1 (by rw [hn]; exact hi) h0)
theorem rb_par {A : List PyData → Prop} (h : EvBA n tr ρ k A) (hA : ∀ ds, A ds → ∃ x y, ds = [x, y]) (hi : i < n) (hj : j < n) (h0 : i ≠ 0) (h1 : j ≠ 0) : RunB n [i, j] (tPar i j tr) ρ k (fun ρ' => ∃ x y, A [x, y] ∧ ρ' = (ρ.set i (some x)).set j (some y)) := fun O p c D σ H hn s hc q =>
  h O p c σ H hn s hc _ fun vs ds H1 hd e1 b1 d1 => by
    obtain ⟨x, y, rfl⟩ := hA ds hd
    cases d1 with
    | cons a1 k1 =>
      cases k1 with
      | cons a2 k2 =>
        cases k2
        refine ⟨_, _, rfl, q _ _ H1 ⟨x, y, hd, rfl⟩ (by rw [List.length_set, List.length_set]; exact hn) (fun m hm => ?_) e1 (((s.step e1 b1).put a1 (by rw [hn]; exact hi) h0).put a2 (by rw [List.length_set, hn]; exact hj) h1)⟩
        rw [List.getElem?_set_ne fun z => hm (by rw [← z]; simp), List.getElem?_set_ne fun z => hm (by rw [← z]; simp)]
theorem rb_wk {T T' : Rho → Prop} (h : RunB n vs t ρ k T) (hk : k ≤ k1) (hv : ∀ i, i ∈ vs → i ∈ ws) (hs : ∀ ρ', T ρ' → T' ρ') : RunB n ws t ρ k1 T' := fun O p c D σ H hn s hc q =>
  h O p c D σ H hn s (by omega) fun ρ' σ' H' hT hl hc' e b => q ρ' σ' H' (hs ρ' hT) hl (fun i hi => hc' i fun z => hi (hv i z)) e ⟨b.sd, b.bx, b.box.mono (by omega), b.mem, b.fr⟩
theorem rb_seq {T T' : Rho → Prop} (h1 : RunB n vs t ρ k1 T) (h2 : ∀ ρ1, T ρ1 → RunB n vs u ρ1 k2 T') : RunB n vs (tSeq t u) ρ (k1 + k2) T' := fun O p c D σ H hn s hc q =>
  h1 O p c _ σ H hn s (by omega) fun ρ1 σ1 H1 hT l1 c1 e1 s1 => h2 ρ1 hT O p (c + k1) D σ1 H1 l1 s1 (by omega) fun ρ2 σ2 H2 hT2 l2 c2 e2 s2 =>
    q ρ2 σ2 H2 hT2 l2 (fun i hi => (c2 i hi).trans (c1 i hi)) (e1.trans e2) (by rw [← Nat.add_assoc]; exact s2)
theorem rb_next : RunB n vs tNext ρ 0 (fun ρ' => ρ' = ρ) := fun O p c D σ H hn s hc q => q ρ σ H rfl hn (fun _ _ => rfl) (ExO.refl _ H) s
theorem rb_if {B : Bool → Prop} {T : Rho → Prop} (h : EvBT n tt ρ k B) (h1 : B true → RunB n vs t ρ k1 T) (h2 : B false → RunB n vs u ρ k1 T) : RunB n vs (tIfS tt t u) ρ (k + k1) T := fun O p c D σ H hn s hc q =>
  h O p c σ H hn s (by omega) _ fun b H1 hb e1 b1 => by
    cases b with
    | true => exact iteT (h1 hb O p (c + k) D σ H1 hn (s.step e1 b1) (by omega) fun ρ2 σ2 H2 hT l2 c2 e2 s2 => q ρ2 σ2 H2 hT l2 c2 (e1.trans e2) (by rw [← Nat.add_assoc]; exact s2))
    | false => exact iteF (h2 hb O p (c + k) D σ H1 hn (s.step e1 b1) (by omega) fun ρ2 σ2 H2 hT l2 c2 e2 s2 => q ρ2 σ2 H2 hT l2 c2 (e1.trans e2) (by rw [← Nat.add_assoc]; exact s2))
theorem rbr_ret (h : EvB n te ρ k S) : RunBR n (tRet te) ρ k S := fun O p c D σ H hn s hc q => h O p c σ H hn s hc _ q
theorem rbr_wk (h : RunBR n t ρ k S) (hk : k ≤ k1) (hs : ∀ d, S d → S1 d) : RunBR n t ρ k1 S1 := fun O p c D σ H hn s hc q =>
  h O p c D σ H hn s (by omega) fun v d H' hd e b dd => q v d H' (hs d hd) e (b.mono (by omega)) dd
theorem rbr_seq {T : Rho → Prop} (h1 : RunB n vs t ρ k1 T) (h2 : ∀ ρ1, T ρ1 → RunBR n u ρ1 k2 S) : RunBR n (tSeq t u) ρ (k1 + k2) S := fun O p c D σ H hn s hc q =>
  h1 O p c _ σ H hn s (by omega) fun ρ1 σ1 H1 hT l1 c1 e1 s1 => h2 ρ1 hT O p (c + k1) D σ1 H1 l1 s1 (by omega) fun v d H2 hd e2 b2 d2 => q v d H2 hd (e1.trans e2) (by rw [← Nat.add_assoc]; exact b2) d2
theorem rbr_pure (h : ∀ O, RunR O n t ρ d) : RunBR n t ρ 0 (fun x => x = d) := fun O p c D σ H hn s hc q =>
  h O D σ H hn s.sd fun v H1 e1 d1 => q v d H1 rfl (Ex.o _ e1) (s.box.ex e1) d1
/-- if c: return ..; the rest, c known -/
theorem rbr_when {B : Bool → Prop} (h : EvBT n tt ρ k B) (h1 : B true → RunBR n t ρ k1 S) (h2 : B false → RunBR n u ρ k1 S) : RunBR n (tSeq (tIfS tt t tNext) u) ρ (k + k1) S := fun O p c D σ H hn s hc q =>
  h O p c σ H hn s (by omega) _ fun b H1 hb e1 b1 => by
    cases b with
    | true => exact iteT (h1 hb O p (c + k) _ σ H1 hn (s.step e1 b1) (by omega) fun v d H2 hd e2 b2 d2 => q v d H2 hd (e1.trans e2) (by rw [← Nat.add_assoc]; exact b2) d2)
    | false => exact iteF (h2 hb O p (c + k) D σ H1 hn (s.step e1 b1) (by omega) fun v d H2 hd e2 b2 d2 => q v d H2 hd (e1.trans e2) (by rw [← Nat.add_assoc]; exact b2) d2)
/-- for j in range(..): .. -/
theorem rb_forR {M : Nat} (Iv : Nat → Rho → Prop) (h : EvB n te ρ k (fun d => ∃ m : Nat, d = .int (m : Int) ∧ m ≤ M)) (hM : M ≤ 1000) (hj : j < n) (hj0 : j ≠ 0) (hjv : j ∈ vs) (h0 : Iv 0 ρ)
    (hb : ∀ i, i < M → ∀ ρi, Iv i ρi → RunB n vs t (ρi.set j (some (.int (i : Int)))) k1 (Iv (i + 1))) : RunB n vs (tFor (iRng1 (tCons te tNil)) (gName j) t) ρ (k + M * k1) (fun ρ' => ∃ i, i ≤ M ∧ Iv i ρ') := fun O p c D σ H hn s hc q => by
  refine h O p c σ H hn s (by omega) _ fun v d H1 hd e1 b1 d1 => ?_
  obtain ⟨m, rfl, hm⟩ := hd
  cases d1
  refine ⟨(m : Int), rfl, by omega, by omega, ?_⟩
  have s1 := s.step e1 b1
  have e : ((m : Int)).toNat = m := by omega
  rw [e]
  refine for_it walk_range (fun i σ2 H2 => ∃ ρ2, Iv i ρ2 ∧ σ2.length = n ∧ (∀ a, a ∉ vs → σ2[a]? = σ[a]?) ∧ ExO [p] H H2 ∧ SB O p (c + k + i * k1) H2 σ2 ρ2) ⟨ρ, h0, hn, fun _ _ => rfl, e1, by rw [Nat.zero_mul]; exact s1⟩ (fun _ _ _ _ _ => True.intro) ?_ ?_
  · rintro i x σ2 H2 H3 hi ⟨ρ2, hI, l2, c2, e2, s2⟩ ⟨rfl, rfl⟩
    have hx : Dq (sub H3 O) (V.int (0 + (i : Int))) (.int (i : Int)) := by
      rw [Int.zero_add]
      exact .int _
    have hM2 : (i + 1) * k1 ≤ M * k1 := Nat.mul_le_mul_right _ (by omega)
    have hM3 : (i + 1) * k1 = i * k1 + k1 := Nat.succ_mul i k1
    refine hb i (by omega) ρ2 hI O p (c + k + i * k1) _ _ H3 (by rw [List.length_set]; exact l2) (s2.put hx (by rw [l2]; exact hj) hj0) (by omega) fun ρ3 σ3 H4 hT l3 c3 e3 s3 => ⟨ρ3, hT, l3, fun a ha => ?_, e2.trans e3, by rw [hM3, ← Nat.add_assoc]; exact s3⟩
    rw [c3 a ha, List.getElem?_set_ne fun z => ha (by rw [← z]; exact hjv)]
    exact c2 a ha
  · rintro σ2 H2 ⟨ρ2, hI, l2, c2, e2, s2⟩
    have hM2 : m * k1 ≤ M * k1 := Nat.mul_le_mul_right _ hm
    exact q ρ2 σ2 H2 ⟨m, hm, hI⟩ l2 c2 e2 ⟨s2.sd, s2.bx, s2.box.mono (by omega), s2.mem, s2.fr⟩
/-! comprehensions -/
/-- items of two lists, one by one -/
def Pair2 (P : PyData → PyData → Prop) (ds es : List PyData) : Prop := es.length = ds.length ∧ ∀ (i : Nat) (d e : PyData), ds[i]? = some d → es[i]? = some e → P d e
/-- what is walked, from here -/
def IterAt (O : List Addr) (wi : TI) (σ : L2.St) (H : Hp) (ds : List PyData) : Prop := ∀ R : It → Hp → Prop,
  (∀ (J : It) (H1 : Hp) (G : List Addr → Hp → Prop) (Y : Nat → Hp → V → Hp → Prop), Ex H H1 → (∀ P, Walk J ds.length (G P) Y) → G O H1 → (∀ P P' H2 H3, G P H2 → Ex (sub H2 P) (sub H3 P') → G P' H3) →
    (∀ P i H2 x H3, i < ds.length → (∀ a, a ∈ P → H2 a ≠ none) → G P H2 → Y i H2 x H3 → Ex H2 H3 ∧ ∃ d, ds[i]? = some d ∧ Dq (sub H3 P) x d) → R J H1) → wi σ H R
theorem itAt_tup {O : List Addr} {σ : L2.St} {H : Hp} {v : V} (h : Dq (sub H O) v (.tuple ds)) : IterAt O (iTup K (fun _ H Q => Q v H)) σ H ds := fun R q => by
  cases h with
  | @tup a xs _ ha k =>
    refine ⟨a, rfl, ⟨xs, st_of (sub_of ha).1⟩, q (Itt K a) H (fun P H2 => sub H2 P a = some (.tup xs) ∧ DqAll (sub H2 P) xs ds) (YAt xs) (Ex.refl H) (fun P => ?_) ⟨ha, k⟩ (fun P P' H2 H3 g e => ⟨e _ _ g.1, g.2.mono e⟩) ?_⟩
    · rw [← k.length]
      exact walk_tup.mono (fun H2 g => st_of (sub_of g.1).1) fun _ _ _ _ _ _ y => y
    · rintro P i H2 x H3 _ _ ⟨g1, g2⟩ ⟨rfl, hx⟩
      obtain ⟨d, h1, h2⟩ := g2.getV hx
      exact ⟨Ex.refl _, d, h1, h2⟩
theorem lc_at {wi : TI} {g : TG} {P : PyData → PyData → Prop} {O : List Addr} {p : Addr} {c : Nat} {σ : L2.St} {H : Hp} (hw : IterAt O wi σ H ds) (hn : σ.length = n) (s : SB O p c H σ ρ) (hc : c + ds.length * k1 ≤ 1000000) (hl : ds.length ≤ 1000) (hv0 : 0 ∉ vs) (h : ∀ (i : Nat) (d : PyData), ds[i]? = some d → ∃ ρ', (∀ O, TgD O n vs g (wipeR ρ vs) d ρ') ∧ ρ'[0]? = some none ∧ EvB n te ρ' k1 (P d)) :
    ∀ Q : VK, (∀ v x H', (∃ es, x = .list es ∧ Pair2 P ds es) → ExO [p] H H' → Box p (c + ds.length * k1) H' → Dq (sub H' O) v x → Q v H') → tLc wi g tYes te vs σ H Q := fun Q q => hw _ fun J H1 G Y e1 W g1 gk yk => by
  intro D hD
  have lw : (L2.wipe σ vs).length = n := by rw [L2.wipe_length]; exact hn
  have s1 := s.step (Ex.o [p] e1) (s.box.ex e1)
  have Dp : D ≠ p := fun z => s1.box.own D (List.mem_singleton.mpr z) hD
  have DO : D ∉ O := not_own s1.sd.own hD
  -- what was there but for the box
  have toG : ∀ (O' : List Addr) (H2 : Hp), ExO [p] H1 H2 → (∀ a, a ∈ O' → a ∈ D :: O) → Ex (sub H1 O) (sub H2 O') := fun O' H2 e2 hO a o ha => by
    obtain ⟨h1, h2⟩ := sub_of ha
    refine sub_mk (e2.at h1 fun z => h2 (by rw [List.mem_singleton.mp z]; exact s.mem)) fun z => ?_
    rcases List.mem_cons.mp (hO a z) with z | z
    · rw [z, hD] at h1
      cases h1
    · exact h2 z
  refine lc_it (W O) (fun i H2 => ∃ acc es, H2 D = some (.lst acc) ∧ DqAll (sub H2 (D :: O)) acc es ∧ Pair2 P (ds.take i) es ∧ ExO [p] H1 H2 ∧ Box p (c + i * k1) H2) ⟨[], [], upd_same, .nil, ⟨by simp, fun i d e h1 h2 => by cases h2⟩, Ex.o _ (Ex.new hD), by rw [Nat.zero_mul]; exact s1.box.ex (Ex.new hD)⟩ ?_ ?_ ?_
  · rintro i H2 _ ⟨acc, es, _, _, _, k2, _⟩
    exact gk _ _ _ _ g1 (toG O H2 k2 fun a ha => List.mem_cons_of_mem _ ha)
  · rintro i x H2 H3 hi ⟨acc, es, hA, hd, hP, k2, b2⟩ y
    have own2 : ∀ a, a ∈ D :: O → H2 a ≠ none := fun a ha => by
      rcases List.mem_cons.mp ha with rfl | ha
      · rw [hA]
        exact fun z => by cases z
      · exact own_o k2 b2 s1.sd.own a ha
    obtain ⟨e3, d, hdi, hx⟩ := yk (D :: O) i H2 x H3 hi own2 (gk _ _ _ _ g1 (toG _ H2 k2 fun a ha => ha)) y
    obtain ⟨ρ', ht, hf, hte⟩ := h i d hdi
    have k3 := k2.trans (Ex.o [p] e3)
    have sd3 : SD (D :: O) H3 σ ρ := ⟨own_ex e3 own2, fun a e he => by
      obtain ⟨v, h1, h2⟩ := s1.sd.at' a e he
      exact ⟨v, h1, h2.mono (toG _ H3 k3 fun a ha => ha)⟩⟩
    refine ht (D :: O) (L2.wipe σ vs) H3 x lw (sd3.wipe vs) hx _ fun σ' hl' hc' s' => ⟨?_, ?_⟩
    · have ew : L2.wipe (L2.wipe σ vs) vs = L2.wipe σ vs := by
        refine wipe_ext (by rw [L2.wipe_length]) fun i hi => L2.wipe_out hi
      rw [wipe_ext (by rw [hl', lw]) hc', ew]
    · have hM : (i + 1) * k1 = i * k1 + k1 := Nat.succ_mul i k1
      have hM2 : (i + 1) * k1 ≤ ds.length * k1 := Nat.mul_le_mul_right _ hi
      have bx' : σ'[0]? = some (some (.ref p)) := by
        rw [hc' 0 hv0, L2.wipe_out hv0]
        exact s.bx
      refine hte (D :: O) p (c + i * k1) σ' H3 hl' ⟨s', bx', b2.ex e3, List.mem_cons_of_mem _ s.mem, hf⟩ (by omega) _ fun w e H4 hS e4 b4 d4 => ⟨acc, e4.at (e3 _ _ hA) (fun z => Dp (List.mem_singleton.mp z)), ?_, ?_⟩
      · have q1 := hd.length
        have q2 := hP.1
        rw [List.length_take] at q2
        exact sz_lt (by omega)
      · have k4 := k3.trans e4
        refine ⟨_, es ++ [e], upd_same, ?_, ⟨?_, ?_⟩, ?_, ?_⟩
        · rw [sub_upd (List.mem_cons_self ..)]
          exact (hd.mono ((Ex.o (D :: O) e3).trans (exo_more e4 (List.mem_cons_of_mem _ s.mem)))).append (.cons d4 .nil)
        · have q2 := hP.1
          rw [take_snoc hdi, List.length_append, List.length_append, q2]
          rfl
        · intro a d' e' h1 h2
          rw [take_snoc hdi] at h1
          have q2 := hP.1
          by_cases ca : a < es.length
          · rw [List.getElem?_append_left ca] at h2
            rw [List.getElem?_append_left (by omega)] at h1
            exact hP.2 a d' e' h1 h2
          · rw [List.getElem?_append_right (by omega)] at h2
            rw [List.getElem?_append_right (by omega)] at h1
            rw [← q2] at h1
            cases hz : a - es.length with
            | zero =>
              rw [hz] at h1 h2
              cases h1
              cases h2
              exact hS
            | succ z =>
              rw [hz] at h1
              cases h1
        · intro a o ha
          obtain ⟨h1, h2⟩ := sub_of ha
          have nD : a ≠ D := fun z => by rw [z, hD] at h1; cases h1
          refine sub_mk ?_ h2
          rw [upd_ne nD]
          exact k4.at h1 h2
        · obtain ⟨b0, b1', b2', e', rr⟩ := b4
          rw [hM, ← Nat.add_assoc]
          exact ⟨b0, b1', b2', by rw [upd_ne (Ne.symm Dp)]; exact e', rr⟩
  · rintro H2 ⟨acc, es, hA, hd, hP, k2, b2⟩
    rw [List.take_length] at hP
    exact q _ (.list es) H2 ⟨es, rfl, hP⟩ ((Ex.o [p] e1).trans k2) b2 (.lst (sub_mk hA DO) (hd.mono ex_less))
theorem eb_lc {wi : TI} {g : TG} {P : PyData → PyData → Prop} (hw : ∀ O, IterD O n wi ρ ds) (hl : ds.length ≤ 1000) (hv0 : 0 ∉ vs) (h : ∀ (i : Nat) (d : PyData), ds[i]? = some d → ∃ ρ', (∀ O, TgD O n vs g (wipeR ρ vs) d ρ') ∧ ρ'[0]? = some none ∧ EvB n te ρ' k1 (P d)) :
    EvB n (tLc wi g tYes te vs) ρ (ds.length * k1) (fun x => ∃ es, x = .list es ∧ Pair2 P ds es) := fun O p c σ H hn s hc Q q => lc_at (hw O σ H hn s.sd) hn s hc hl hv0 h Q q
/-- [te for x in t], t a drawn tuple -/
theorem eb_lcT {tl : TE} {g : TG} {P : PyData → PyData → Prop} {A : List PyData → Prop} {M : Nat} (h0 : EvB n tl ρ k (fun x => ∃ ds, x = .tuple ds ∧ A ds)) (hA : ∀ ds, A ds → ds.length ≤ M) (hM : M ≤ 1000) (hv0 : 0 ∉ vs)
    (h : ∀ ds, A ds → ∀ (i : Nat) (d : PyData), ds[i]? = some d → ∃ ρ', (∀ O, TgD O n vs g (wipeR ρ vs) d ρ') ∧ ρ'[0]? = some none ∧ EvB n te ρ' k1 (P d)) :
    EvB n (tLc (iTup K tl) g tYes te vs) ρ (k + M * k1) (fun x => ∃ ds es, A ds ∧ x = .list es ∧ Pair2 P ds es) := fun O p c σ H hn s hc Q q => by
  refine h0 O p c σ H hn s (by omega) _ fun v x H1 hx e1 b1 d1 => ?_
  obtain ⟨ds, rfl, hAd⟩ := hx
  have hm := hA ds hAd
  have hMk : ds.length * k1 ≤ M * k1 := Nat.mul_le_mul_right _ hm
  exact lc_at (itAt_tup (K := K) d1) hn (s.step e1 b1) (by omega) (by omega) hv0 (h ds hAd) Q fun w y H2 hy e2 b2 d2 => by
    obtain ⟨es, rfl, hP⟩ := hy
    exact q w _ H2 ⟨ds, es, hAd, rfl, hP⟩ (e1.trans e2) (b2.mono (by omega)) d2
/-- [te for x in range(te0)], te0 drawn -/
theorem eb_lcR {te0 : TE} {Tm : Nat → Prop} {M : Nat} (h0 : EvB n te0 ρ k (fun d => ∃ m : Nat, d = .int (m : Int) ∧ m ≤ M ∧ Tm m)) (hM : M ≤ 1000) (hj : j < n) (hj0 : j ≠ 0) (h : ∀ i : Nat, i < M → EvB n te ((wipeR ρ [j]).set j (some (.int (i : Int)))) k1 S) :
    EvB n (tLc (iRng1 (tCons te0 tNil)) (gName j) tYes te [j]) ρ (k + M * k1) (fun x => ∃ m es, x = .list es ∧ Tm m ∧ es.length = m ∧ ∀ e, e ∈ es → S e) := fun O p c σ H hn s hc Q q => by
  refine h0 O p c σ H hn s (by omega) _ fun v d H1 hd e1 b1 d1 => ?_
  obtain ⟨m, rfl, hm, hT⟩ := hd
  cases d1
  have it : ∀ O, IterD O n (iRng1 (tCons (tC (.int (m : Int))) tNil)) ρ (rngD m) := fun O => it_rng (ea_cons ed_int ea_nil) (by omega)
  have lr : (rngD m).length = m := by
    unfold rngD
    rw [List.length_map, List.length_range]
  have rs : ∀ (r : Rho), r[0]? = some none → (wipeR r [j])[0]? = some none := fun r hr => by
    show (r.set j none)[0]? = _
    rw [List.getElem?_set_ne hj0]
    exact hr
  have hMk : m * k1 ≤ M * k1 := Nat.mul_le_mul_right _ hm
  have q1 := eb_lc (n := n) (te := te) (k1 := k1) (vs := [j]) (g := gName j) (P := fun _ e => S e) it (by rw [lr]; omega) (fun z => hj0 (List.mem_singleton.mp z).symm) (fun i d hd => by
    have hi : i < m := by
      have q := (List.getElem?_eq_some_iff.mp hd).1
      rw [lr] at q
      exact q
    unfold rngD at hd
    rw [List.getElem?_map, List.getElem?_range hi] at hd
    cases hd
    refine ⟨_, fun O => tg_name hj (List.mem_singleton.mpr rfl), ?_, h i (by omega)⟩
    rw [List.getElem?_set_ne hj0]
    exact rs ρ s.fr)
  refine q1 O p (c + k) σ H1 hn (s.step e1 b1) (by rw [lr]; omega) Q fun w x H2 hx e2 b2 d2 => ?_
  obtain ⟨es, rfl, hP⟩ := hx
  rw [lr] at b2
  refine q w _ H2 ⟨m, es, rfl, hT, by rw [hP.1, lr], fun e he => ?_⟩ (e1.trans e2) (b2.mono (by omega)) d2
  obtain ⟨i, hi, rfl⟩ := List.getElem_of_mem he
  have hi2 : i < (rngD m).length := by rw [← hP.1]; exact hi
  exact hP.2 i _ _ (List.getElem?_eq_getElem hi2) (List.getElem?_eq_getElem hi)
end
/-! ### a def that draws -/
def argB (N : List Str) (ds : List PyData) : Rho := none :: (ds.map some ++ List.replicate (N.length - 1 - ds.length) none)
section
variable {P : Program} {w : World} {K : PySem.W.Frag} {mg : Str → Option Value} {base : Heap}
theorem draw_ok {kf : Nat} {R : List PyData → (PyData → Prop) → Prop} {x qual : Str} {st : Stmt} {f : Addr} {fd : FuncData} {N ps : List Str} {k : Nat} (F : Fun K x qual st f fd) (S : FnScope N ps (defScope st)) (hl : ∀ ds T, R ds T → ds.length + 1 = ps.length) (hp : ps.length ≤ N.length)
    (body : ∀ (cdv : Value) (A : Around) (outer : List Env) (s : Shared) (H : Hp) (E : XK), Room k (A.deeper (envOfC qual (defScope st) s.heap.objs.size f cdv)) →
      ∃ t, PSs (cxOf CX0 P w K mg base N qual (defScope st) f cdv A outer s H E).nox (defBody st) t ∧ ∀ ds T, R ds T → RunBR N.length t (argB N ds) kf T) : FnOk P w K mg base CX0 (k + 1) f fd ps (spB kf R) := by
  refine F.ok S (fun vs H Q E h => ?_) (fun cdv A outer s H vs Q E hr h => ?_)
  · obtain ⟨O, p, c, us, ds, T, rfl, _, _, _, _, hd, hR, _⟩ := h
    show us.length + 1 = _
    rw [hd.length]
    exact hl ds T hR
  · obtain ⟨t, ht, hb⟩ := body cdv A outer s H E hr
    obtain ⟨O, p, c, us, ds, T, rfl, hpO, ho, bx, hc, hd, hR, q⟩ := h
    have lds : us.length + 1 ≤ N.length := by
      rw [hd.length, hl ds T hR]
      exact hp
    have e1 : L2.start N (.ref p :: us) = some (.ref p) :: (us.map some ++ List.replicate (N.length - 1 - us.length) none) := by
      unfold L2.start
      show some (V.ref p) :: (us.map some ++ List.replicate (N.length - (us.length + 1)) none) = _
      rw [show N.length - (us.length + 1) = N.length - 1 - us.length by omega]
    refine ⟨t, ht, hb ds T hR O p c _ (L2.start N (.ref p :: us)) H (start_len lds) ⟨⟨ho, fun i d e => ?_⟩, by rw [e1]; rfl, bx, hpO, rfl⟩ hc q⟩
    rw [e1]
    cases i with
    | zero => cases e
    | succ i =>
      have e : (ds.map some ++ List.replicate (N.length - 1 - ds.length) none)[i]? = some (some d) := e
      by_cases hi : i < ds.length
      · rw [List.getElem?_append_left (by rw [List.length_map]; exact hi), List.getElem?_map] at e
        have q : ds[i]? = some d := by
          cases z : ds[i]? with
          | none =>
            rw [z] at e
            cases e
          | some d' =>
            rw [z] at e
            cases e
            rfl
        obtain ⟨v, h1, h2⟩ := hd.get q
        refine ⟨v, ?_, h2⟩
        show (us.map some ++ _)[i]? = _
        have hv : i < us.length := by rw [hd.length]; exact hi
        rw [List.getElem?_append_left (by rw [List.length_map]; exact hv), List.getElem?_map, h1]
        rfl
      · rw [List.getElem?_append_right (by rw [List.length_map]; omega), List.getElem?_replicate] at e
        split at e <;> cases e
end
end DL
/-! DZ2: found = []; for j in range(..): ..; found.append(drawn); return tuple(found). -/
namespace DL
open PySem L2 Evl PyProof.Rows TL RZ
theorem wipeR_get {ρ : Rho} {a : Nat} {d : PyData} : ∀ {ws : List Nat}, (wipeR ρ ws)[a]? = some (some d) → a ∉ ws ∧ ρ[a]? = some (some d)
  | [], h => ⟨fun z => (by cases z), h⟩
  | v :: ws, h => by
    have h : ((wipeR ρ ws).set v none)[a]? = some (some d) := h
    by_cases c : v = a
    · subst c
      have hb : v < (wipeR ρ ws).length := by
        have q := (List.getElem?_eq_some_iff.mp h).1
        rw [List.length_set] at q
        exact q
      rw [List.getElem?_set_self hb] at h
      cases h
    · rw [List.getElem?_set_ne c] at h
      obtain ⟨h1, h2⟩ := wipeR_get h
      exact ⟨fun z => by
        rcases List.mem_cons.mp z with z | z
        · exact c z.symm
        · exact h1 z, h2⟩
def RunApp (n f : Nat) (ws : List Nat) (t : TS) (ρ : Rho) (k : Nat) (S : PyData → Prop) : Prop := ∀ (O : List Addr) (p L : Addr) (c : Nat) (D : Ends) (σ : L2.St) (H : Hp) (xs : List V) (es : List PyData), σ.length = n → SB O p c H σ ρ → L ∈ O → L ≠ p → σ[f]? = some (some (.ref L)) →
  H L = some (.lst xs) → DqAll (sub H O) xs es → es.length ≤ 1000 → c + k ≤ 1000000 →
  (∀ σ' H' xs' e, S e → σ'.length = n → (∀ a, a ∉ ws → σ'[a]? = σ[a]?) → ExO [p, L] H H' → Box p (c + k) H' → H' L = some (.lst xs') → DqAll (sub H' O) xs' (es ++ [e]) → D.nx σ' H') → t D σ H
section
variable {n f j k k1 k2 : Nat} {ρ : Rho} {te te0 : TE} {t u tb : TS} {S : PyData → Prop} {K : PySem.W.Frag} {ws : List Nat}
theorem ra_append (h : EvB n te ρ k S) : RunApp n f ws (tDrop (tBM K "list" rAppend (tVar f) (tCons te tNil))) ρ k S := fun O p L c D σ H xs es hn s hL hLp hf hx hd hl hc q => by
  refine ⟨_, hf, ty_lst hx, h O p c σ H hn s hc _ fun v e H1 he e1 b1 d1 => ?_⟩
  have hx1 : H1 L = some (.lst xs) := e1.at hx fun z => hLp (List.mem_singleton.mp z)
  have hd1 := hd.mono (exo_more e1 s.mem)
  refine ⟨L, xs, v, rfl, rfl, hx1, Nat.lt_of_le_of_lt (show xs.length ≤ 1000 by have q := hd1.length; omega) (by decide), ?_⟩
  refine q σ _ _ e he hn (fun _ _ => rfl) ((e1.less fun a ha => by rw [List.mem_singleton.mp ha]; simp).trans (ExO.upd (by simp))) ?_ upd_same ?_
  · obtain ⟨b0, b1', b2, e', rr⟩ := b1
    exact ⟨b0, b1', b2, by rw [upd_ne (Ne.symm hLp)]; exact e', rr⟩
  · rw [sub_upd hL]
    exact hd1.append (.cons d1 .nil)
theorem ra_seq {T : Rho → Prop} (h1 : RunB n ws t ρ k1 T) (hf : f ∉ ws) (h2 : ∀ ρ1, T ρ1 → RunApp n f ws u ρ1 k2 S) : RunApp n f ws (tSeq t u) ρ (k1 + k2) S := fun O p L c D σ H xs es hn s hL hLp hsf hx hd hl hc q =>
  h1 O p c _ σ H hn s (by omega) fun ρ1 σ1 H1 hT l1 c1 e1 s1 => h2 ρ1 hT O p L (c + k1) D σ1 H1 xs es l1 s1 hL hLp (by rw [c1 f hf]; exact hsf) (e1.at hx fun z => hLp (List.mem_singleton.mp z)) (hd.mono (exo_more e1 s.mem)) hl (by omega)
    fun σ2 H2 xs2 e he l2 c2 e2 b2 hx2 hd2 => q σ2 H2 xs2 e he l2 (fun a ha => (c2 a ha).trans (c1 a ha)) ((e1.less fun a ha => by rw [List.mem_singleton.mp ha]; simp).trans e2) (by rw [← Nat.add_assoc]; exact b2) hx2 hd2
theorem rb_collect {Tm : Nat → Prop} {M : Nat} (h0 : EvB n te0 (ρ.set f none) k (fun d => ∃ m : Nat, d = .int (m : Int) ∧ m ≤ M ∧ Tm m)) (hM : M ≤ 1000) (hf : f < n) (hf0 : f ≠ 0) (hj : j < n) (hj0 : j ≠ 0) (hjw : j ∈ ws) (hfw : f ∉ ws) (h0w : 0 ∉ ws)
    (hb : ∀ i : Nat, i < M → RunApp n f ws tb ((wipeR (ρ.set f none) ws).set j (some (.int (i : Int)))) k1 S) :
    RunBR n (tSeq (tAsg (tLst tNil) (gName f)) (tSeq (tFor (iRng1 (tCons te0 tNil)) (gName j) tb) (tRet (tCB (rTupleOf K) (tCons (tVar f) tNil))))) ρ (k + M * k1) (fun x => ∃ m es, x = .tuple es ∧ Tm m ∧ es.length = m ∧ ∀ e, e ∈ es → S e) := fun O p c D σ H hn s hc q => by
  refine ⟨(by show 0 ≤ sizeLine; decide), fun L nL => ?_⟩
  have LO : L ∉ O := not_own s.sd.own nL
  have Lp : L ≠ p := fun z => s.box.own L (List.mem_singleton.mpr z) nL
  have s0 : SB (L :: O) p c (upd H L (.lst [])) (σ.set f (some (.ref L))) (ρ.set f none) := ⟨(s.sd.more (Ex.new nL) nL upd_same).forget, by rw [List.getElem?_set_ne hf0]; exact s.bx, s.box.ex (Ex.new nL), List.mem_cons_of_mem _ s.mem, by rw [List.getElem?_set_ne hf0]; exact s.fr⟩
  refine h0 (L :: O) p c _ _ (by rw [List.length_set]; exact hn) s0 (by omega) _ fun v d H1 hd e1 b1 d1 => ?_
  obtain ⟨m, rfl, hm, hT⟩ := hd
  cases d1
  refine ⟨(m : Int), rfl, by omega, by omega, ?_⟩
  have s1 := s0.step e1 b1
  have e : ((m : Int)).toNat = m := by omega
  rw [e]
  have hL1 : H1 L = some (.lst []) := e1.at upd_same fun z => Lp (List.mem_singleton.mp z)
  refine for_it walk_range (fun i σ2 H2 => ∃ xs es, σ2.length = n ∧ (∀ a, a ∉ ws → σ2[a]? = (σ.set f (some (.ref L)))[a]?) ∧ H2 L = some (.lst xs) ∧ DqAll (sub H2 (L :: O)) xs es ∧ es.length = i ∧ (∀ e, e ∈ es → S e) ∧ ExO [p, L] H1 H2 ∧ Box p (c + k + i * k1) H2)
    ⟨[], [], by rw [List.length_set]; exact hn, fun _ _ => rfl, hL1, .nil, rfl, fun e he => (by cases he), ExO.refl _ H1, by rw [Nat.zero_mul]; exact b1⟩ (fun _ _ _ _ _ => True.intro) ?_ ?_
  · rintro i x σ2 H2 H3 hi ⟨xs, es, l2, c2, hL2, d2, le, hS, e2, b2⟩ ⟨rfl, rfl⟩
    have exO : ExO (L :: O) H1 H3 := e2.less fun a ha => by
      rcases List.mem_cons.mp ha with rfl | ha
      · exact List.mem_cons_of_mem _ s.mem
      · rw [List.mem_singleton.mp ha]
        exact List.mem_cons_self
    have own3 : ∀ a, a ∈ L :: O → H3 a ≠ none := fun a ha z => by
      by_cases c1 : a = p
      · exact b2.own a (List.mem_singleton.mpr c1) z
      · by_cases c3 : a = L
        · rw [c3, hL2] at z
          cases z
        · cases r : H1 a with
          | none => exact s1.sd.own a ha r
          | some o =>
            have w := e2.at r (fun y => by
              rcases List.mem_cons.mp y with y | y
              · exact c1 y
              · exact c3 (List.mem_singleton.mp y))
            rw [z] at w
            cases w
    have sdw : SD (L :: O) H3 σ2 (wipeR (ρ.set f none) ws) := ⟨own3, fun a d ha => by
      obtain ⟨h1, h2⟩ := wipeR_get ha
      obtain ⟨v, h3, h4⟩ := s1.sd.at' a d h2
      exact ⟨v, by rw [c2 a h1]; exact h3, h4.mono exO⟩⟩
    have bx2 : σ2[0]? = some (some (.ref p)) := by
      rw [c2 0 h0w]
      exact s0.bx
    have fr2 : (wipeR (ρ.set f none) ws)[0]? = some none := by
      have q : ∀ ws : List Nat, 0 ∉ ws → (wipeR (ρ.set f none) ws)[0]? = some none := by
        intro ws
        induction ws with
        | nil => exact fun _ => s0.fr
        | cons w ws ih =>
          intro hw
          show ((wipeR (ρ.set f none) ws).set w none)[0]? = _
          rw [List.getElem?_set_ne fun z => hw (by rw [z]; exact List.mem_cons_self)]
          exact ih fun z => hw (List.mem_cons_of_mem _ z)
      exact q ws h0w
    have hx : Dq (sub H3 (L :: O)) (V.int (0 + (i : Int))) (.int (i : Int)) := by
      rw [Int.zero_add]
      exact .int _
    have sb : SB (L :: O) p (c + k + i * k1) H3 (σ2.set j (some (V.int (0 + (i : Int))))) ((wipeR (ρ.set f none) ws).set j (some (.int (i : Int)))) :=
      SB.put ⟨sdw, bx2, b2, List.mem_cons_of_mem _ s.mem, fr2⟩ hx (by rw [l2]; exact hj) hj0
    have hM2 : (i + 1) * k1 ≤ M * k1 := Nat.mul_le_mul_right _ (by omega)
    have hM3 : (i + 1) * k1 = i * k1 + k1 := Nat.succ_mul i k1
    have jf : j ≠ f := fun z => hfw (by rw [← z]; exact hjw)
    refine hb i (by omega) (L :: O) p L (c + k + i * k1) _ _ H3 xs es (by rw [List.length_set]; exact l2) sb List.mem_cons_self Lp (by rw [List.getElem?_set_ne jf, c2 f hfw, List.getElem?_set_self (by omega)]) hL2 d2 (by omega) (by omega) fun σ4 H4 xs4 e4 he l4 c4 x4 b4 hL4 d4 => ?_
    refine ⟨xs4, es ++ [e4], l4, fun a ha => ?_, hL4, d4, by rw [List.length_append, le]; rfl, fun y hy => ?_, e2.trans x4, by rw [hM3, ← Nat.add_assoc]; exact b4⟩
    · rw [c4 a ha, List.getElem?_set_ne fun z => ha (by rw [← z]; exact hjw)]
      exact c2 a ha
    · rcases List.mem_append.mp hy with hy | hy
      · exact hS y hy
      · rw [List.mem_singleton.mp hy]
        exact he
  · rintro σ2 H2 ⟨xs, es, l2, c2, hL2, d2, le, hS, e2, b2⟩
    refine ⟨.ref L, by rw [c2 f hfw, List.getElem?_set_self (by omega)], L, xs, rfl, .inl ⟨Evl.sq_of hL2, fun q2 nq => ?_⟩⟩
    have hM2 : m * k1 ≤ M * k1 := Nat.mul_le_mul_right _ hm
    have ex : ExO [p] H H2 := fun a o ha => by
      obtain ⟨h1, h2⟩ := sub_of ha
      have nD : a ≠ L := fun z => by rw [z, nL] at h1; cases h1
      have h3 : (upd H L (.lst [])) a = some o := by
        rw [upd_ne nD]
        exact h1
      refine sub_mk (e2.at (e1.at h3 h2) fun z => ?_) h2
      rcases List.mem_cons.mp z with z | z
      · exact h2 (List.mem_singleton.mpr z)
      · exact nD (List.mem_singleton.mp z)
    have own2 : ∀ a, a ∈ O → H2 a ≠ none := own_o ex b2 s.sd.own
    refine q _ (.tuple es) _ ⟨m, es, rfl, hT, le, hS⟩ (ex.trans (Ex.o _ (Ex.new nq))) ((b2.ex (Ex.new nq)).mono (by omega)) (.tup (sub_mk upd_same (not_own own2 nq)) ?_)
    exact (d2.mono ex_less).mono (Ex.o O (Ex.new nq))
end
theorem ints_of {Pr : Int → Prop} : ∀ {es : List PyData}, (∀ e, e ∈ es → ∃ r, e = .int r ∧ Pr r) → ∃ rs : List Int, es = dI rs ∧ rs.length = es.length ∧ ∀ r, r ∈ rs → Pr r
  | [], _ => ⟨[], rfl, rfl, fun r hr => by cases hr⟩
  | e :: es, h => by
    obtain ⟨r, rfl, hr⟩ := h e (List.mem_cons_self ..)
    obtain ⟨rs, h1, h2, h3⟩ := ints_of fun y hy => h y (List.mem_cons_of_mem _ hy)
    refine ⟨r :: rs, by rw [h1]; rfl, by rw [List.length_cons, List.length_cons, h2], fun y hy => ?_⟩
    rcases List.mem_cons.mp hy with rfl | hy
    · exact hr
    · exact h3 y hy
section
variable {P : Program} {w : World} {K : PySem.W.Frag} {mg : Str → Option Value} {base : Heap}
/-- all cases of a box -/
theorem right_ok {kf : Nat} {x qual : Str} {st : Stmt} {f : Addr} {fd : FuncData} {N ps : List Str} {k : Nat} (F : Fun K x qual st f fd) (S : FnScope N ps (defScope st)) (hl : ps.length = 1) (hp : 1 ≤ N.length) (hk : kf ≤ 1000000)
    (body : ∀ (cdv : Value) (A : Around) (outer : List Env) (s : Shared) (H : Hp) (E : XK), Room k (A.deeper (envOfC qual (defScope st) s.heap.objs.size f cdv)) →
      ∃ t, PSs (cxOf CX0 P w K mg base N qual (defScope st) f cdv A outer s H E).nox (defBody st) t ∧ RunBR N.length t (argB N []) kf (fun d => d = .bool true)) : FnOk P w K mg base CX0 (k + 1) f fd ps spRight := by
  refine F.ok S (fun vs H Q E h => ?_) (fun cdv A outer s H vs Q E hr h => ?_)
  · obtain ⟨p, rfl, _⟩ := h
    exact hl.symm
  · obtain ⟨t, ht, hb⟩ := body cdv A outer s H E hr
    obtain ⟨p, rfl, bx, q⟩ := h
    have e1 : L2.start N [V.ref p] = some (.ref p) :: List.replicate (N.length - 1) none := rfl
    refine ⟨t, ht, hb [p] p 0 _ (L2.start N [.ref p]) H (start_len (by show 1 ≤ _; exact hp)) ⟨⟨bx.own, fun i d e => ?_⟩, by rw [e1]; rfl, bx, List.mem_singleton.mpr rfl, rfl⟩ (by omega) fun v d H' hd e' _ dd => ?_⟩
    · cases i with
      | zero => cases e
      | succ i =>
        have e : (List.replicate (N.length - 1) (none : Option PyData))[i]? = some (some d) := e
        rw [List.getElem?_replicate] at e
        split at e <;> cases e
    · subst hd
      cases dd
      exact q H' e'
end
section
variable {n i j k k1 : Nat} {ρ : Rho} {te : TE} {tr : TA} {tt : TT} {t u : TS} {S : PyData → Prop} {d : PyData} {b : Bool}
theorem eba_wk {A B : List PyData → Prop} (h : EvBA n tr ρ k A) (hk : k ≤ k1) (hs : ∀ ds, A ds → B ds) : EvBA n tr ρ k1 B := fun O p c σ H hn s hc Q q =>
  h O p c σ H hn s (by omega) Q fun v d H1 hd e1 b1 d1 => q v d H1 (hs d hd) e1 (b1.mono (by omega)) d1
/-- x = e, e without a draw -/
theorem rbr_let (h : ∀ O, EvD O n te ρ d) (hi : i < n) (h0 : i ≠ 0) (r : RunBR n u (ρ.set i (some d)) k S) : RunBR n (tSeq (tAsg te (gName i)) u) ρ k S := fun O p c D σ H hn s hc q =>
  h O σ H hn s.sd _ fun v H1 e1 d1 => r O p c D _ H1 (by rw [List.length_set]; exact hn) ((s.step (Ex.o [p] e1) (s.box.ex e1)).put d1 (by rw [hn]; exact hi) h0) hc fun w d2 H2 hd e2 b2 dd => q w d2 H2 hd ((Ex.o [p] e1).trans e2) b2 dd
/-- if c: return ..; the rest; c without a draw -/
theorem rbr_cond (h : ∀ O, EvDT O n tt ρ b) (h1 : b = true → RunBR n t ρ k S) (h2 : b = false → RunBR n u ρ k S) : RunBR n (tSeq (tIfS tt t tNext) u) ρ k S := fun O p c D σ H hn s hc q =>
  h O σ H hn s.sd _ fun H1 e1 => by
    have s1 := s.step (Ex.o [p] e1) (s.box.ex e1)
    cases b with
    | true => exact iteT (h1 rfl O p c _ σ H1 hn s1 hc fun v d H2 hd e2 b2 d2 => q v d H2 hd ((Ex.o [p] e1).trans e2) b2 d2)
    | false => exact iteF (h2 rfl O p c D σ H1 hn s1 hc fun v d H2 hd e2 b2 d2 => q v d H2 hd ((Ex.o [p] e1).trans e2) b2 d2)
theorem rbr_retP (h : ∀ O, EvD O n te ρ d) (hS : S d) : RunBR n (tRet te) ρ k S := fun O p c D σ H hn s hc q =>
  h O σ H hn s.sd _ fun v H1 e1 d1 => q v d H1 hS (Ex.o _ e1) ((s.box.ex e1).mono (by omega)) d1
end
theorem rbr_retE {n k : Nat} {ρ : Rho} {te : TE} {S : PyData → Prop} (h : ∀ O, ∃ d, S d ∧ EvD O n te ρ d) : RunBR n (tRet te) ρ k S := fun O p c D σ H hn s hc q => by
  obtain ⟨d, hS, hd⟩ := h O
  exact hd σ H hn s.sd _ fun v H1 e1 d1 => q v d H1 hS (Ex.o _ e1) ((s.box.ex e1).mono (by omega)) d1
/-- a cut of a drawn tuple -/
theorem eb_slT {n k : Nat} {ρ : Rho} {te : TE} {tl th : TO} {lo hi : Option Int} {K : PySem.W.Frag} {A : List Int → Prop} (h : EvB n te ρ k (fun x => ∃ ns, x = .tuple (dI ns) ∧ A ns)) (h1 : ∀ O, EvDO O n tl ρ lo) (h2 : ∀ O, EvDO O n th ρ hi) :
    EvB n (tSl (rSlA K) te tl th) ρ k (fun x => ∃ ns, A ns ∧ x = .tuple (DL.cutD (dI ns) lo hi)) := fun O p c σ H hn s hc Q q => h O p c σ H hn s hc _ fun v x H1 hx e1 b1 d1 => by
  obtain ⟨ns, rfl, hA⟩ := hx
  have s1 := s.step e1 b1
  refine h1 O σ H1 hn s1.sd _ fun H2 e2 => h2 O σ H2 hn (s1.sd.ex e2) _ fun H3 e3 => ?_
  have d3 := (d1.mono (Ex.o O e2)).mono (Ex.o O e3)
  have own3 := own_ex (e2.trans e3) s1.sd.own
  have b3 := (b1.ex e2).ex e3
  cases d3 with
  | tup a k2 =>
    refine ⟨_, _, rfl, Evl.st_of (sub_of a).1, fun hw => ?_, fun _ p2 hp => ?_⟩
    · rw [k2.length] at hw
      exact q _ _ H3 ⟨ns, hA, rfl⟩ (e1.trans (Ex.o _ (e2.trans e3))) b3 (by rw [cut_all hw]; exact .tup a k2)
    · exact q _ _ _ ⟨ns, hA, rfl⟩ ((e1.trans (Ex.o _ (e2.trans e3))).trans (Ex.o _ (Evl.Ex.new hp))) (b3.ex (Evl.Ex.new hp)) (.tup (sub_mk upd_same (not_own own3 hp)) ((k2.cut lo hi).mono (Ex.o O (Evl.Ex.new hp))))
end DL
/-! DZ3: one of the goods, of any data. -/
namespace DL
open PySem L2 Evl PyProof.Rows TL RZ
section
variable {n k : Nat} {ρ : Rho} {te : TE} {S : PyData → Prop} {E : XK}
def spOfO : Sp := fun vs H Q _ => ∃ (O : List Addr) (p : Addr) (c : Nat) (x : V) (ds : List PyData), vs = [.ref p, x] ∧ p ∈ O ∧ (∀ a, a ∈ O → H a ≠ none) ∧ Box p c H ∧ c ≤ 1000000 ∧ Dq (sub H O) x (.list ds) ∧ 0 < ds.length ∧ ds.length ≤ 1000 ∧ ∀ d v H', d ∈ ds → Dq (sub H' O) v d → ExO [p] H H' → Box p (c + 1) H' → Q v H'
theorem eb_ofO (h : EvB n te ρ k (fun d => ∃ ds, d = .list ds ∧ 0 < ds.length ∧ ds.length ≤ 1000 ∧ ∀ e, e ∈ ds → S e)) : EvB n (tCall spOfO [] E (tCons (tVar 0) (tCons te tNil))) ρ (k + 1) S := fun O p c σ H hn s hc Q q => by
  refine ⟨_, s.bx, h O p c σ H hn s (by omega) _ fun v d H1 hd e1 b1 d1 => ?_⟩
  obtain ⟨ds, rfl, l0, l1, hs⟩ := hd
  refine ⟨O, p, c + k, v, ds, rfl, s.mem, own_o e1 b1 s.sd.own, b1, by omega, d1, l0, l1, fun d w H2 hd dw e2 b2 => ?_⟩
  exact q w d H2 (hs d hd) (e1.trans e2) (by rw [← Nat.add_assoc]; exact b2) dw
end
section
variable {n i j k k1 k2 : Nat} {vs : List Nat} {ρ : Rho} {te : TE} {tr : TA} {tt : TT} {t u : TS} {g : TG} {S S1 : PyData → Prop}
/-- x = a draw, and on with what is drawn -/
theorem rbr_get (h : EvB n te ρ k1 S1) (hi : i < n) (h0 : i ≠ 0) (h2 : ∀ d, S1 d → RunBR n u (ρ.set i (some d)) k2 S) : RunBR n (tSeq (tAsg te (gName i)) u) ρ (k1 + k2) S :=
  rbr_seq (rb_asg h hi h0) fun ρ1 z => by
    obtain ⟨d, hd, rfl⟩ := z
    exact h2 d hd
theorem rb_get {T : Rho → Prop} {ws : List Nat} (h : EvB n te ρ k1 S1) (hi : i < n) (h0 : i ≠ 0) (hw : i ∈ ws) (h2 : ∀ d, S1 d → RunB n ws u (ρ.set i (some d)) k2 T) : RunB n ws (tSeq (tAsg te (gName i)) u) ρ (k1 + k2) T :=
  rb_seq (rb_wk (rb_asg h hi h0) (Nat.le_refl _) (fun a ha => by rw [List.mem_singleton.mp ha]; exact hw) fun _ z => z) fun ρ1 z => by
    obtain ⟨d, hd, rfl⟩ := z
    exact h2 d hd
/-- x, y = draws -/
theorem rbr_par {A : List PyData → Prop} (h : EvBA n tr ρ k1 A) (hA : ∀ ds, A ds → ∃ x y, ds = [x, y]) (hi : i < n) (hj : j < n) (h0 : i ≠ 0) (h1 : j ≠ 0) (h2 : ∀ x y, A [x, y] → RunBR n u ((ρ.set i (some x)).set j (some y)) k2 S) : RunBR n (tSeq (tPar i j tr) u) ρ (k1 + k2) S :=
  rbr_seq (rb_par h hA hi hj h0 h1) fun ρ1 z => by
    obtain ⟨x, y, hd, rfl⟩ := z
    exact h2 x y hd
/-- any target -/
theorem rbr_asgG (h : EvB n te ρ k1 S1) (h0 : 0 ∉ vs) (h2 : ∀ d, S1 d → ∃ ρ', (∀ O, TgD O n vs g ρ d ρ') ∧ ρ'[0]? = some none ∧ RunBR n u ρ' k2 S) : RunBR n (tSeq (tAsg te g) u) ρ (k1 + k2) S := fun O p c D σ H hn s hc q =>
  h O p c σ H hn s (by omega) _ fun v d H1 hd e1 b1 d1 => by
    obtain ⟨ρ', ht, hf, hr⟩ := h2 d hd
    have s1 := s.step e1 b1
    refine ht O σ H1 v hn s1.sd d1 _ fun σ' hl hc' s' => ?_
    refine hr O p (c + k1) D σ' H1 hl ⟨s', by rw [hc' 0 h0]; exact s1.bx, b1, s1.mem, hf⟩ (by omega) fun w d2 H2 hd2 e2 b2 dd => ?_
    exact q w d2 H2 hd2 (e1.trans e2) (by rw [← Nat.add_assoc]; exact b2) dd
/-- a test that always comes out false leads on -/
theorem rbr_pass (h : EvBT n tt ρ k1 fun b => b = false) (h2 : RunBR n u ρ k2 S) : RunBR n (tSeq (tIfS tt t tNext) u) ρ (k1 + k2) S :=
  rbr_when h (fun z => by cases z) fun _ => h2
theorem rbr_passP (h : ∀ O, EvDT O n tt ρ false) (h2 : RunBR n u ρ k2 S) : RunBR n (tSeq (tIfS tt t tNext) u) ρ k2 S :=
  rbr_cond h (fun z => by cases z) fun _ => h2
end
end DL
/-! DZ2: found = []; for j in range(..): ..; found.append(drawn); return tuple(found). -/
namespace DL
open PySem L2 Evl PyProof.Rows TL RZ
section
variable {n f j k k1 k2 : Nat} {ρ : Rho} {te te0 : TE} {t u tb : TS} {S : PyData → Prop} {K : PySem.W.Frag} {ws : List Nat}
theorem rb_collectP {Tm : Nat → Prop} {M g k0 : Nat} {tp : TE} {S0 : PyData → Prop} (hp0 : EvB n tp ρ k0 S0) (hg : g < n) (hg0 : g ≠ 0) (hgf : g ≠ f) (h0 : ∀ dg, S0 dg → EvB n te0 ((ρ.set f none).set g (some dg)) k (fun d => ∃ m : Nat, d = .int (m : Int) ∧ m ≤ M ∧ Tm m)) (hM : M ≤ 1000) (hf : f < n) (hf0 : f ≠ 0) (hj : j < n) (hj0 : j ≠ 0) (hjw : j ∈ ws) (hfw : f ∉ ws) (h0w : 0 ∉ ws)
    (hb : ∀ dg, S0 dg → ∀ i : Nat, i < M → RunApp n f ws tb ((wipeR ((ρ.set f none).set g (some dg)) ws).set j (some (.int (i : Int)))) k1 S) :
    RunBR n (tSeq (tPar f g (tCons (tLst tNil) (tCons tp tNil))) (tSeq (tFor (iRng1 (tCons te0 tNil)) (gName j) tb) (tRet (tCB (rTupleOf K) (tCons (tVar f) tNil))))) ρ (k0 + (k + M * k1)) (fun x => ∃ m es, x = .tuple es ∧ Tm m ∧ es.length = m ∧ ∀ e, e ∈ es → S e) := fun O p c D σ H hn s hc q => by
  refine ⟨(by show 0 ≤ sizeLine; decide), fun L nL => ?_⟩
  have LO : L ∉ O := not_own s.sd.own nL
  have Lp : L ≠ p := fun z => s.box.own L (List.mem_singleton.mpr z) nL
  have s00 : SB (L :: O) p c (upd H L (.lst [])) σ ρ := ⟨s.sd.more (Ex.new nL) nL upd_same, s.bx, s.box.ex (Ex.new nL), List.mem_cons_of_mem _ s.mem, s.fr⟩
  refine hp0 (L :: O) p c _ _ hn s00 (by omega) _ fun vg dg Hg hdg eg bg ddg => ?_
  refine ⟨.ref L, vg, rfl, ?_⟩
  have s01 := s00.step eg bg
  have s02 : SB (L :: O) p (c + k0) Hg (σ.set f (some (.ref L))) (ρ.set f none) := ⟨s01.sd.forget, by rw [List.getElem?_set_ne hf0]; exact s.bx, s01.box, s01.mem, by rw [List.getElem?_set_ne hf0]; exact s.fr⟩
  have s0 : SB (L :: O) p (c + k0) Hg ((σ.set f (some (.ref L))).set g (some vg)) ((ρ.set f none).set g (some dg)) := s02.put ddg (by rw [List.length_set, hn]; exact hg) hg0
  have hLg : Hg L = some (.lst []) := eg.at upd_same fun z => Lp (List.mem_singleton.mp z)
  generalize hsg : (σ.set f (some (.ref L))).set g (some vg) = sg1 at *
  have sgl : sg1.length = n := by rw [← hsg, List.length_set, List.length_set]; exact hn
  have sgf : sg1[f]? = some (some (.ref L)) := by rw [← hsg, List.getElem?_set_ne hgf, List.getElem?_set_self (by omega)]
  replace hb := hb dg hdg
  replace h0 := h0 dg hdg
  generalize (ρ.set f none).set g (some dg) = ρ1 at *
  refine h0 (L :: O) p (c + k0) _ _ sgl s0 (by omega) _ fun v d H1 hd e1 b1 d1 => ?_
  obtain ⟨m, rfl, hm, hT⟩ := hd
  cases d1
  refine ⟨(m : Int), rfl, by omega, by omega, ?_⟩
  have s1 := s0.step e1 b1
  have e : ((m : Int)).toNat = m := by omega
  rw [e]
  have hL1 : H1 L = some (.lst []) := e1.at hLg fun z => Lp (List.mem_singleton.mp z)
  refine for_it walk_range (fun i σ2 H2 => ∃ xs es, σ2.length = n ∧ (∀ a, a ∉ ws → σ2[a]? = sg1[a]?) ∧ H2 L = some (.lst xs) ∧ DqAll (sub H2 (L :: O)) xs es ∧ es.length = i ∧ (∀ e, e ∈ es → S e) ∧ ExO [p, L] H1 H2 ∧ Box p (c + k0 + k + i * k1) H2)
    ⟨[], [], sgl, fun _ _ => rfl, hL1, .nil, rfl, fun e he => (by cases he), ExO.refl _ H1, by rw [Nat.zero_mul]; exact b1⟩ (fun _ _ _ _ _ => True.intro) ?_ ?_
  · rintro i x σ2 H2 H3 hi ⟨xs, es, l2, c2, hL2, d2, le, hS, e2, b2⟩ ⟨rfl, rfl⟩
    have exO : ExO (L :: O) H1 H3 := e2.less fun a ha => by
      rcases List.mem_cons.mp ha with rfl | ha
      · exact List.mem_cons_of_mem _ s.mem
      · rw [List.mem_singleton.mp ha]
        exact List.mem_cons_self
    have own3 : ∀ a, a ∈ L :: O → H3 a ≠ none := fun a ha z => by
      by_cases c1 : a = p
      · exact b2.own a (List.mem_singleton.mpr c1) z
      · by_cases c3 : a = L
        · rw [c3, hL2] at z
          cases z
        · cases r : H1 a with
          | none => exact s1.sd.own a ha r
          | some o =>
            have w := e2.at r (fun y => by
              rcases List.mem_cons.mp y with y | y
              · exact c1 y
              · exact c3 (List.mem_singleton.mp y))
            rw [z] at w
            cases w
    have sdw : SD (L :: O) H3 σ2 (wipeR ρ1 ws) := ⟨own3, fun a d ha => by
      obtain ⟨h1, h2⟩ := wipeR_get ha
      obtain ⟨v, h3, h4⟩ := s1.sd.at' a d h2
      exact ⟨v, by rw [c2 a h1]; exact h3, h4.mono exO⟩⟩
    have bx2 : σ2[0]? = some (some (.ref p)) := by
      rw [c2 0 h0w]
      exact s0.bx
    have fr2 : (wipeR ρ1 ws)[0]? = some none := by
      have q : ∀ ws : List Nat, 0 ∉ ws → (wipeR ρ1 ws)[0]? = some none := by
        intro ws
        induction ws with
        | nil => exact fun _ => s0.fr
        | cons w ws ih =>
          intro hw
          show ((wipeR ρ1 ws).set w none)[0]? = _
          rw [List.getElem?_set_ne fun z => hw (by rw [z]; exact List.mem_cons_self)]
          exact ih fun z => hw (List.mem_cons_of_mem _ z)
      exact q ws h0w
    have hx : Dq (sub H3 (L :: O)) (V.int (0 + (i : Int))) (.int (i : Int)) := by
      rw [Int.zero_add]
      exact .int _
    have sb : SB (L :: O) p (c + k0 + k + i * k1) H3 (σ2.set j (some (V.int (0 + (i : Int))))) ((wipeR ρ1 ws).set j (some (.int (i : Int)))) :=
      SB.put ⟨sdw, bx2, b2, List.mem_cons_of_mem _ s.mem, fr2⟩ hx (by rw [l2]; exact hj) hj0
    have hM2 : (i + 1) * k1 ≤ M * k1 := Nat.mul_le_mul_right _ (by omega)
    have hM3 : (i + 1) * k1 = i * k1 + k1 := Nat.succ_mul i k1
    have jf : j ≠ f := fun z => hfw (by rw [← z]; exact hjw)
    refine hb i (by omega) (L :: O) p L (c + k0 + k + i * k1) _ _ H3 xs es (by rw [List.length_set]; exact l2) sb List.mem_cons_self Lp (by rw [List.getElem?_set_ne jf, c2 f hfw, sgf]) hL2 d2 (by omega) (by omega) fun σ4 H4 xs4 e4 he l4 c4 x4 b4 hL4 d4 => ?_
    refine ⟨xs4, es ++ [e4], l4, fun a ha => ?_, hL4, d4, by rw [List.length_append, le]; rfl, fun y hy => ?_, e2.trans x4, by rw [hM3, ← Nat.add_assoc]; exact b4⟩
    · rw [c4 a ha, List.getElem?_set_ne fun z => ha (by rw [← z]; exact hjw)]
      exact c2 a ha
    · rcases List.mem_append.mp hy with hy | hy
      · exact hS y hy
      · rw [List.mem_singleton.mp hy]
        exact he
  · rintro σ2 H2 ⟨xs, es, l2, c2, hL2, d2, le, hS, e2, b2⟩
    refine ⟨.ref L, by rw [c2 f hfw, sgf], L, xs, rfl, .inl ⟨Evl.sq_of hL2, fun q2 nq => ?_⟩⟩
    have hM2 : m * k1 ≤ M * k1 := Nat.mul_le_mul_right _ hm
    have ex : ExO [p] H H2 := fun a o ha => by
      obtain ⟨h1, h2⟩ := sub_of ha
      have nD : a ≠ L := fun z => by rw [z, nL] at h1; cases h1
      have h3 : (upd H L (.lst [])) a = some o := by
        rw [upd_ne nD]
        exact h1
      refine sub_mk (e2.at (e1.at (eg.at h3 h2) h2) fun z => ?_) h2
      rcases List.mem_cons.mp z with z | z
      · exact h2 (List.mem_singleton.mpr z)
      · exact nD (List.mem_singleton.mp z)
    have own2 : ∀ a, a ∈ O → H2 a ≠ none := own_o ex b2 s.sd.own
    refine q _ (.tuple es) _ ⟨m, es, rfl, hT, le, hS⟩ (ex.trans (Ex.o _ (Ex.new nq))) ((b2.ex (Ex.new nq)).mono (by omega)) (.tup (sub_mk upd_same (not_own own2 nq)) ?_)
    exact (d2.mono ex_less).mono (Ex.o O (Ex.new nq))
end
section
variable {n i j k k1 k2 : Nat} {vs : List Nat} {ρ ρ' ρ1 ρ2 : Rho} {te : TE} {tt : TT} {t u : TS} {g : TG} {d : PyData} {O : List Addr}
/-- statements without a draw, whatever they change -/
theorem rb_pureV {T : Rho → Prop} (h : ∀ O, RunV O n vs t ρ ρ') (h0 : 0 ∉ vs) (hf : ρ'[0]? = some none) (hT : T ρ') : RunB n vs t ρ 0 T := fun O p c D σ H hn s hc q =>
  h O D σ H hn s.sd fun σ' H' l' e' c' s' => q ρ' σ' H' hT l' c' (Ex.o _ e') ⟨s', by rw [c' 0 h0]; exact s.bx, s.box.ex e', s.mem, hf⟩
theorem rv_asgG (h : EvD O n te ρ d) (hg : TgD O n vs g ρ d ρ') : RunV O n vs (tAsg te g) ρ ρ' := fun D σ H hn s k =>
  h σ H hn s _ fun v H1 e1 d1 => hg σ H1 v hn (s.ex e1) d1 _ fun σ' hl hc s' => k σ' H1 hl e1 hc s'
theorem rv_is (h : RunV O n vs t ρ ρ1) (e : ρ1 = ρ2) : RunV O n vs t ρ ρ2 := e ▸ h
theorem rv_seq' (h1 : RunV O n vs t ρ ρ1) (h2 : RunV O n vs u ρ1 ρ') : RunV O n vs (tSeq t u) ρ ρ' := fun D σ H hn s k =>
  h1 _ σ H hn s fun σ1 H1 l1 e1 c1 s1 => h2 D σ1 H1 l1 s1 fun σ2 H2 l2 e2 c2 s2 => k σ2 H2 l2 (e1.trans e2) (fun i hi => (c2 i hi).trans (c1 i hi)) s2
theorem rb_asgG {S1 : PyData → Prop} {T : Rho → Prop} (h : EvB n te ρ k1 S1) (h0 : 0 ∉ vs) (h2 : ∀ d, S1 d → ∃ ρ', (∀ O, TgD O n vs g ρ d ρ') ∧ ρ'[0]? = some none ∧ RunB n vs u ρ' k2 T) : RunB n vs (tSeq (tAsg te g) u) ρ (k1 + k2) T := fun O p c D σ H hn s hc q =>
  h O p c σ H hn s (by omega) _ fun v d H1 hd e1 b1 d1 => by
    obtain ⟨ρ', ht, hf, hr⟩ := h2 d hd
    have s1 := s.step e1 b1
    refine ht O σ H1 v hn s1.sd d1 _ fun σ' hl hc' s' => ?_
    refine hr O p (c + k1) D σ' H1 hl ⟨s', by rw [hc' 0 h0]; exact s1.bx, b1, s1.mem, hf⟩ (by omega) fun ρ2 σ2 H2 hT l2 c2 e2 s2 => ?_
    exact q ρ2 σ2 H2 hT l2 (fun i hi => (c2 i hi).trans (hc' i hi)) (e1.trans e2) (by rw [← Nat.add_assoc]; exact s2)
theorem rb_let {T : Rho → Prop} (h : ∀ O, EvD O n te ρ d) (hi : i < n) (h0 : i ≠ 0) (hw : i ∈ vs) (h2 : RunB n vs u (ρ.set i (some d)) k2 T) : RunB n vs (tSeq (tAsg te (gName i)) u) ρ k2 T := fun O p c D σ H hn s hc q =>
  h O σ H hn s.sd _ fun v H1 e1 d1 => h2 O p c D _ H1 (by rw [List.length_set]; exact hn) ((s.step (Ex.o _ e1) (s.box.ex e1)).put d1 (by rw [hn]; exact hi) h0) hc fun ρ2 σ2 H2 hT l2 c2 e2 s2 =>
    q ρ2 σ2 H2 hT l2 (fun a ha => (c2 a ha).trans (by rw [List.getElem?_set_ne fun z => ha (by rw [← z]; exact hw)])) ((Ex.o _ e1).trans e2) s2
end
end DL
/-! DTZ: zip of a tuple and a list; three keywords from the last to the first; chained comparisons. -/
namespace DL
open PySem PySem.Spec PyProof.Rows PySem.Calls L2
/-- the tuple at a beside the list at b, each pair new -/
def ItzM (K : PySem.W.Frag) (a b : Addr) : It where
  go := fun i H => ∃ (xs ys : List V) (x y : V), SqT K H a xs ∧ SqL K H b ys ∧ xs[i]? = some x ∧ ys[i]? = some y
  yld := fun i H v H' => ∃ T x y, v = .ref T ∧ H T = none ∧ H' = upd H T (.tup [x, y]) ∧ (∀ xs, SqT K H a xs → xs[i]? = some x) ∧ ∀ ys, SqL K H b ys → ys[i]? = some y
  stop := fun i H => ∃ xs ys : List V, SqT K H a xs ∧ SqL K H b ys ∧ min xs.length ys.length = i
theorem five_lt {N M : Nat} (h : N + 4 < M) : ∀ c : Nat, c ∈ [N + 4, N + 2, N + 3, N, N + 1] → c < M := fun c hc => by
  simp only [List.mem_cons, List.not_mem_nil, or_false] at hc
  omega
theorem five_le {N : Nat} : ∀ c : Nat, c ∈ [N + 4, N + 2, N + 3, N, N + 1] → N ≤ c := fun c hc => by
  simp only [List.mem_cons, List.not_mem_nil, or_false] at hc
  omega
theorem four_five {N : Nat} : ∀ c : Nat, c ∈ [N + 4, N + 3, N, N + 1] → c ∈ [N + 4, N + 2, N + 3, N, N + 1] := fun c hc => by
  simp only [List.mem_cons, List.not_mem_nil, or_false] at hc ⊢
  omega
def tnM (N a b : Addr) (i : Nat) (h : Heap) : Prop := IsZip h (N + 4) (N + 2) (N + 3) .none ∧ IsTupOf2 h (N + 2) (.ref N) (.ref (N + 1)) ∧ (∃ x y, IsTupOf2 h (N + 3) x y) ∧ h.IsTupleIter N a i ∧ h.IsListIter (N + 1) b i
theorem turn_zipM {P : Program} {w : World} {K : PySem.W.Frag} {elts : List Expr} {kk : Nat} {tpos : Pos} {a b N : Addr} (ha : a < N) (hb : b < N) :
    Turn P w K (.Tuple elts kk tpos) (ItzM K a b) [N + 4, N + 2, N + 3, N, N + 1] (N + 4) (tnM N a b) where
  mem := List.mem_cons_self
  obj := fun i h st c hc => by
    obtain ⟨hz, hI, ⟨x, y, hO⟩, ⟨o1, g1, _, d1⟩, ⟨o2, g2, _, d2⟩⟩ := st
    simp only [List.mem_cons, List.not_mem_nil, or_false] at hc
    rcases hc with rfl | rfl | rfl | rfl | rfl
    · exact ⟨_, hz, fun v q => nomatch q⟩
    · exact ⟨_, hI, fun v q => nomatch q⟩
    · exact ⟨_, hO, fun v q => nomatch q⟩
    · exact ⟨o1, g1, fun v q => by rw [d1] at q; cases q⟩
    · exact ⟨o2, g2, fun v q => by rw [d2] at q; cases q⟩
  keep := fun i h h' st k => by
    obtain ⟨hz, hI, ⟨x, y, hO⟩, g1, g2⟩ := st
    exact ⟨k _ (by simp) _ hz, k _ (by simp) _ hI, ⟨x, y, k _ (by simp) _ hO⟩, g1.at fun o q => k _ (by simp) o q, g2.at fun o q => k _ (by simp) o q⟩
  item := by
    intro X hP hw hK hc i pins s σ H E I hf st hg
    subst hP hw hK
    have st0 := st
    obtain ⟨hz, hI, hO, g1, g2⟩ := st
    obtain ⟨xs, ys, x, y, hq, hq2, hx, hy⟩ := hg
    obtain ⟨its, rv, p, _⟩ := I.tuple hq
    obtain ⟨its2, rv2, p2, _⟩ := I.list hq2
    obtain ⟨u, hu, ru⟩ := rv.get hx
    obtain ⟨u2, hu2, ru2⟩ := rv2.get hy
    have pT : s.heap.IsTuple a its.toArray := p
    have D1 := Draws.tuple (prog := X.prog) (w := X.w) (A := X.A.in1) (I.ok.hd hc) N a (Nat.ne_of_lt ha) its.toArray
    have D2 := Draws.list (prog := X.prog) (w := X.w) (A := X.A.in1) (I.ok.hd hc) (N + 1) b (Nat.ne_of_lt (Nat.lt_succ_of_lt hb)) its2.toArray
    have G := GoesN.zip2 (elts := elts) (x1 := kk) (pos := tpos) (zip_sep2 (N := N) (fp1 := [a]) (fp2 := [b]) (fun c h => by rw [List.mem_singleton.mp h]; exact ha) (fun c h => by rw [List.mem_singleton.mp h]; exact hb)) D1 D2
    have l1 : i < its.toArray.size := by
      have q := (List.getElem?_eq_some_iff.mp hu).1
      simpa using q
    have l2 : i < its2.toArray.size := by
      have q := (List.getElem?_eq_some_iff.mp hu2).1
      simpa using q
    refine G.goes i s (fun v s2 => ∃ x H', L2.Inv X pins σ H' s2 ∧ L2.RelV x v ∧ (ItzM X.K a b).yld i H x H' ∧ tnM N a b (i + 1) s2.heap ∧ ∀ c, c ∈ [N + 4, N + 2, N + 3, N, N + 1] → H' c = none) E (by omega) ⟨hz, hI, hO, ⟨g1, pT⟩, ⟨g2, p2.isList⟩⟩ fun v h' tk hY hst hk htk => ?_
    obtain ⟨T, x', y', rfl, hT, hx', hy', hTup⟩ := hY
    have ex : x' = u := by
      have q : its.toArray[i]? = some u := by simpa using hu
      rw [q] at hx'
      exact (Option.some.inj hx').symm
    have ey : y' = u2 := by
      have q : its2.toArray[i]? = some u2 := by simpa using hu2
      rw [q] at hy'
      exact (Option.some.inj hy').symm
    subst ex
    subst ey
    have new : ObjOk X.prog X.w (upd H T (.tup [x, y])) h' T (.tup [x, y]) := ⟨by show 2 ≤ sizeLine; decide, [x', y'], .cons ru (.cons ru2 .nil), hTup⟩
    have keep : ∀ c ob, c ∉ [N + 4, N + 2, N + 3, N, N + 1] → s.heap.get? c = some ob → h'.get? c = some ob := fun c ob hc2 q => hk c ob (fun z => hc2 (four_five c z)) q
    have I1 : L2.Inv X pins σ (upd H T (.tup [x, y])) { heap := h', gens := s.gens, drawn := s.drawn, toks := tk, os := s.os } := I.turnedNew (ch := [N + 4, N + 2, N + 3, N, N + 1]) keep hf hT new
    refine ⟨.ref T, _, I1, rfl, ⟨T, x, y, rfl, I.hok.fresh hT, rfl, fun zs hz => ?_, fun zs hz => ?_⟩, ⟨hst.1, hst.2.1, hst.2.2.1, hst.2.2.2.1.1, hst.2.2.2.2.1⟩, fun c hc2 => ?_⟩
    · rw [I.tuple_inj hz hq]
      exact hx
    · rw [I.list_inj hz hq2]
      exact hy
    · have lc : c < s.heap.objs.size := five_lt (Heap.lt_size hz) c hc2
      rw [upd_ne (Nat.ne_of_lt (Nat.lt_of_lt_of_le lc hT))]
      exact (hf c hc2).1
  done := by
    intro X hP hw hK hc i pins s σ H E I hf st hg
    subst hP hw hK
    obtain ⟨hz, hI, hO, g1, g2⟩ := st
    obtain ⟨xs, ys, hq, hq2, hn⟩ := hg
    obtain ⟨its, rv, p, _⟩ := I.tuple hq
    obtain ⟨its2, rv2, p2, _⟩ := I.list hq2
    have pT : s.heap.IsTuple a its.toArray := p
    have D1 := Draws.tuple (prog := X.prog) (w := X.w) (A := X.A.in1) (I.ok.hd hc) N a (Nat.ne_of_lt ha) its.toArray
    have D2 := Draws.list (prog := X.prog) (w := X.w) (A := X.A.in1) (I.ok.hd hc) (N + 1) b (Nat.ne_of_lt (Nat.lt_succ_of_lt hb)) its2.toArray
    have G := GoesN.zip2 (elts := elts) (x1 := kk) (pos := tpos) (zip_sep2 (N := N) (fp1 := [a]) (fp2 := [b]) (fun c h => by rw [List.mem_singleton.mp h]; exact ha) (fun c h => by rw [List.mem_singleton.mp h]; exact hb)) D1 D2
    have en : min its.toArray.size its2.toArray.size = i := by
      have e1 := rv.length
      have e2 := rv2.length
      rw [List.size_toArray, List.size_toArray]
      omega
    have s0 := G.stops s (fun s1 => L2.Inv X pins σ H s1) E
    rw [en] at s0
    refine s0 ⟨hz, hI, hO, ⟨g1, pT⟩, ⟨g2, p2.isList⟩⟩ fun h' tk hk htk => ?_
    exact I.turnedL (ch := [N + 4, N + 2, N + 3, N, N + 1]) (fun c ob hc2 q => hk c ob (fun z => hc2 (four_five c z)) q) hf
  self := fun A i s Q E st h => wpAny_pyIter_zip st.1 h
def iZipM (K : PySem.W.Frag) (ta : TA) : TI := fun σ H R => ta σ H fun vs H1 => ∃ a b xs ys, vs = [.ref a, .ref b] ∧ SqT K H1 a xs ∧ SqL K H1 b ys ∧ R (ItzM K a b) H1
theorem pi_zipM {X : Cx} {e e2 : Expr} {ta : TA} {p pos tpos : Pos} {elts : List Expr} {kk : Nat} (hg : Gl X "zip") (hm : X.mg "zip" = none) (ha : PA X [e, e2] ta)
    (hs : starEach [e, e2] X.env = (false, eval e X.env) :: starEach [e2] X.env := by rfl) (hpl : (backTo pos (starEach [e2] X.env)).any (·.1) = false := by rfl) : PI X (.Tuple elts kk tpos) (.Call (.Name "zip" p) [e, e2] [] pos) (iZipM X.K ta) := by
  refine ⟨fun pins s σ H R I h => Call_ (ld_blt I hg hm boot_zip (callWith_type1 (thn (ha.run pos pins s σ H _ I h) fun us s1 hh => ?_) hs hpl))⟩
  obtain ⟨vs, H1, I1, r1, a, b, xs, ys, ex, hq, hq2, q⟩ := hh
  subst ex
  cases r1 with
  | cons r rr =>
    cases rr with
    | cons r' rr =>
      cases rr
      cases r
      cases r'
      obtain ⟨its, rv, p', hz⟩ := I1.tuple hq
      obtain ⟨its2, rv2, p2, _⟩ := I1.list hq2
      have pT : s1.heap.IsTuple a its.toArray := p'
      have la : a < s1.heap.objs.size := by
        obtain ⟨_, g, _⟩ := pT
        exact Heap.lt_size g
      have lb : b < s1.heap.objs.size := by
        obtain ⟨_, g, _⟩ := p2.isList
        exact Heap.lt_size g
      refine zip_begins2 (begins_tuple a its.toArray) (begins_list b its2.toArray) pT p2.isList fun h' hz' hI hO h0 h1 hsz hk => wpAny_pyIter_zip hz' ?_
      have I2 : L2.Inv X pins σ H1 { s1 with heap := h' } := I1.kept (t' := s1.toks) hk
      refine ⟨s1.heap.objs.size + 4, [s1.heap.objs.size + 4, s1.heap.objs.size + 2, s1.heap.objs.size + 3, s1.heap.objs.size, s1.heap.objs.size + 1], _, _, H1, rfl, I2, turn_zipM la lb, ⟨hz', hI, ⟨_, _, hO⟩, ⟨_, h0, rfl, rfl⟩, ⟨_, h1, rfl, rfl⟩⟩, fun c hc => ?_, q⟩
      have hle : s1.heap.objs.size ≤ c := five_le c hc
      exact I1.fpOk hle (I1.hok.fresh hle)
theorem kiZipM {X : Cx} {K : PySem.W.Frag} {e e2 : Expr} {ta : TA} {p pos tpos : Pos} {elts : List Expr} {kk : Nat} (hK : X.K = K) (hg : Gl X "zip") (hm : X.mg "zip" = none) (ha : PA X [e, e2] ta)
    (hs : starEach [e, e2] X.env = (false, eval e X.env) :: starEach [e2] X.env := by rfl) (hpl : (backTo pos (starEach [e2] X.env)).any (·.1) = false := by rfl) : PI X (.Tuple elts kk tpos) (.Call (.Name "zip" p) [e, e2] [] pos) (iZipM K ta) := by
  subst hK
  exact pi_zipM hg hm ha hs hpl
/-- walked: the tuple's items beside the list's -/
theorem it_zipM {O : List Addr} {n : Nat} {ρ : Rho} {ta tb : TE} {ds es : List PyData} {K : PySem.W.Frag} (h : EvD O n ta ρ (.tuple ds)) (h' : EvD O n tb ρ (.list es)) : IterD O n (iZipM K (tCons ta (tCons tb tNil))) ρ (zipD ds es) := fun σ H hn s R q => h σ H hn s _ fun v H1 e1 d1 => h' σ H1 hn (s.ex e1) _ fun v' H2 e2 d2 => by
  cases d1 with
  | @tup a xs _ ha k =>
    cases d2 with
    | @lst b ys _ hb k' =>
      have l : (zipD ds es).length = min ds.length es.length := by
        unfold zipD
        rw [List.length_zipWith]
      have ha2 : sub H2 O a = some (.tup xs) := (Ex.o O e2) _ _ ha
      refine ⟨a, b, xs, ys, rfl, Evl.st_of (sub_of ha2).1, Evl.sq_of (sub_of hb).1, q (ItzM K a b) H2 (fun P H3 => (sub H3 P a = some (.tup xs) ∧ DqAll (sub H3 P) xs ds) ∧ (sub H3 P b = some (.lst ys) ∧ DqAll (sub H3 P) ys es)) (YPair (fun i => xs[i]?) (fun i => ys[i]?)) (e1.trans e2) (fun P => ?_)
        ⟨⟨ha2, k.mono (Ex.o O e2)⟩, ⟨hb, k'⟩⟩ (fun P P' H3 H4 g e => ⟨⟨e _ _ g.1.1, g.1.2.mono e⟩, ⟨e _ _ g.2.1, g.2.2.mono e⟩⟩) ?_⟩
      · have W : Walk (ItzM K a b) (min xs.length ys.length) (fun H => SqT K H a xs ∧ SqL K H b ys) (YPair (fun i => xs[i]?) (fun i => ys[i]?)) := by
          refine ⟨fun i _ hi q => ?_, fun _ q => ⟨xs, ys, q.1, q.2, rfl⟩, fun i H v H' _ q y => ?_⟩
          · have h1 : i < xs.length := by omega
            have h2 : i < ys.length := by omega
            exact ⟨xs, ys, xs[i], ys[i], q.1, q.2, by simp [h1], by simp [h2]⟩
          · obtain ⟨T, x, z, h1, h2, h3, h4, h5⟩ := y
            exact ⟨T, x, z, h1, h2, h3, h4 xs q.1, h5 ys q.2⟩
        rw [l, ← k.length, ← k'.length]
        exact W.mono (fun H3 g => ⟨Evl.st_of (sub_of g.1.1).1, Evl.sq_of (sub_of g.2.1).1⟩) fun _ _ _ _ _ _ y => y
      · rintro P i H3 x H4 hi ho ⟨⟨g1, g2⟩, g3, g4⟩ ⟨T, x1, x2, rfl, hT, hH, q1, q2⟩
        obtain ⟨d, h1, h2⟩ := g2.getV q1
        obtain ⟨d', h1', h2'⟩ := g4.getV q2
        obtain ⟨a1, a2⟩ := pair_new ho hT hH h2 h2'
        refine ⟨a1, _, ?_, a2⟩
        unfold zipD
        rw [List.getElem?_zipWith, h1, h1']
/-! ### three parameters by name, from the last to the first -/
def sw3G (us ws : List Value) : List Value := match ws with
  | [a, b, c] => us ++ [c, b, a]
  | _ => us ++ ws
def sw3V (us ws : List V) : List V := match ws with
  | [a, b, c] => us ++ [c, b, a]
  | _ => us ++ ws
theorem kb_swap3 {K : PySem.W.Frag} {f : Addr} {fd : FuncData} {x qual k0 k1 k2 : Str} {st : Stmt} (F : Fun K x qual st f fd)
    (h : ∀ (kV doc pm : Value) (an : Option Addr) (cdv ct : Value) (u v z : Value), bindArgs (PySem.W.fnOf x qual (defArgs st) (defBody st) (defScope st) .none kV doc pm an cdv ct) ⟨[], [(k2, u), (k1, v), (k0, z)]⟩ = pure [(k0, z), (k1, v), (k2, u)]) : KBn K fd [k0, k1, k2] 0 [k2, k1, k0] sw3G sw3V := by
  obtain ⟨oc, od, kV, doc, pm, an, cdv, ct, osl, rfl, lk, hcd⟩ := F.ex
  refine ⟨fun s us ws X l1 l2 => ?_, fun {vs us zs ws} r1 r2 => ?_⟩
  · match us, ws, l1, l2 with
    | [], [u, v, z], _, _ => exact .of_eq (h kV doc pm an cdv ct u v z)
  · match zs, ws, r2 with
    | [], [], r2 => exact r1.append r2
    | [_], [_], r2 => exact r1.append r2
    | [_, _], [_, _], r2 => exact r1.append r2
    | [a, b, c], [_, _, _], .cons h1 (.cons h2 (.cons h3 .nil)) => exact r1.append (.cons h3 (.cons h2 (.cons h1 .nil)))
    | _ :: _ :: _ :: _ :: _, _ :: _ :: _ :: _ :: _, r2 => exact r1.append r2
theorem sw3_dq {x y z : PyData} : ∀ (H : Hp) (vs : List V), DqAll H vs [x, y, z] → DqAll H (sw3V [] vs) [z, y, x] := fun H vs h => by
  cases h with
  | cons a r =>
    cases r with
    | cons b r =>
      cases r with
      | cons c r =>
        cases r
        exact .cons c (.cons b (.cons a .nil))
end DL
namespace DL
open PySem L2 RZ TL
theorem ed_chain {O : List Addr} {n : Nat} {ρ : Rho} {ta tb tc : TE} {x y : PyData} {r r' : R2} {k b : Bool} (ha : EvD O n ta ρ x) (hb : EvD O n tb ρ y) (hr : RD O r x y (.bool k)) (hc : k = true → ∃ z, EvD O n tc ρ z ∧ RD O r' y z (.bool b)) (hf : k = false → b = false) : EvD O n (tChain r r' ta tb tc) ρ (.bool b) := fun σ H hn s Q q =>
  ha σ H hn s _ fun v H1 e1 d1 => hb σ H1 hn (s.ex e1) _ fun w H2 e2 d2 => hr H2 v w (own_ex (e1.trans e2) s.own) (d1.mono (Ex.o O e2)) d2 _ fun u H3 e3 d3 => by
    cases d3
    refine ⟨k, rfl, ?_⟩
    cases k with
    | true =>
      rw [if_pos rfl]
      obtain ⟨z, hz, hr2⟩ := hc rfl
      exact hz σ H3 hn ((s.ex (e1.trans e2)).ex e3) _ fun w2 H4 e4 d4 => hr2 H4 w w2 (own_ex (((e1.trans e2).trans e3).trans e4) s.own) (d2.mono (Ex.o O (e3.trans e4))) d4 Q fun u H5 e5 d5 => q u H5 ((((e1.trans e2).trans e3).trans e4).trans e5) d5
    | false =>
      rw [if_neg (by decide)]
      rw [hf rfl] at q
      exact q _ H3 ((e1.trans e2).trans e3) (.bl _)
end DL
/-! DZ5: divmod; four keywords from the last to the first; own lists within a statement; wide products. -/
namespace DL
open PySem L2 Evl PyProof.Rows TL RZ
theorem kDivmod {X : Cx} {K : PySem.W.Frag} (hK : X.K = K) : CallR X (.builtin "divmod") (fun xs H Q => ∃ i j, xs = [.int i, .int j] ∧ CDivP i j ∧ ∀ p, H p = none → Q (.ref p) (upd H p (.tup [.int (i / j), .int (i % j)]))) := call_divmodW
theorem small_div {i j : Int} (h0 : 0 < j) (h1 : j < 1000000) : CDivP i j := by
  refine ⟨h0, ?_⟩
  unfold Builtin.divisionGoesByPylong
  have l : j.natAbs.log2 < 30 := (Nat.log2_lt (by omega)).mpr (by omega)
  have e : (if j == 0 then 0 else j.natAbs.log2 / 30 + 1) ≤ 300 := by
    split
    · omega
    · have : j.natAbs.log2 / 30 = 0 := Nat.div_eq_of_lt l
      omega
  simp only
  rw [Bool.and_eq_false_iff]
  left
  exact decide_eq_false (by omega)
section
variable {O : List Addr} {n : Nat} {ρ ρ' ρ2 : Rho} {c' : Own} {t : TS}
theorem rc_divmod {i j : Int} (h : CDivP i j) : RDC O (fun xs H Q => ∃ i j, xs = [.int i, .int j] ∧ CDivP i j ∧ ∀ p, H p = none → Q (.ref p) (upd H p (.tup [.int (i / j), .int (i % j)]))) [.int i, .int j] (.tuple [.int (i / j), .int (i % j)]) := fun H vs ho hv Q q => by
  cases hv with
  | cons a r =>
    cases a
    cases r with
    | cons b r =>
      cases b
      cases r
      exact ⟨i, j, rfl, h, fun p hp => q _ _ (Ex.new hp) (.tup (sub_mk upd_same (not_own ho hp)) (.cons (.int _) (.cons (.int _) .nil)))⟩
theorem rn_own (h : RunM O n t ρ Own.none ρ' c') (e : vwC c' 0 ρ' = ρ2) : RunN O n t ρ ρ2 := fun D σ H hn s k =>
  h H D σ H hn ⟨O, fun _ => 0, ⟨fun _ a => a, fun _ a => .inl a, s, fun _ _ z => (by cases z), fun _ _ _ _ z => (by cases z), Ex.refl H⟩⟩ fun σ' H' hl ⟨P, al, s'⟩ => k σ' H' hl s'.ex (e ▸ s'.view)
end
def sw4G (us ws : List Value) : List Value := match ws with
  | [a, b, c, d] => us ++ [d, c, b, a]
  | _ => us ++ ws
def sw4V (us ws : List V) : List V := match ws with
  | [a, b, c, d] => us ++ [d, c, b, a]
  | _ => us ++ ws
theorem kb_swap4 {K : PySem.W.Frag} {f : Addr} {fd : FuncData} {x qual k0 k1 k2 k3 : Str} {st : Stmt} (F : Fun K x qual st f fd)
    (h : ∀ (kV doc pm : Value) (an : Option Addr) (cdv ct : Value) (t u v z : Value), bindArgs (PySem.W.fnOf x qual (defArgs st) (defBody st) (defScope st) .none kV doc pm an cdv ct) ⟨[], [(k3, t), (k2, u), (k1, v), (k0, z)]⟩ = pure [(k0, z), (k1, v), (k2, u), (k3, t)]) : KBn K fd [k0, k1, k2, k3] 0 [k3, k2, k1, k0] sw4G sw4V := by
  obtain ⟨oc, od, kV, doc, pm, an, cdv, ct, osl, rfl, lk, hcd⟩ := F.ex
  refine ⟨fun s us ws X l1 l2 => ?_, fun {vs us zs ws} r1 r2 => ?_⟩
  · match us, ws, l1, l2 with
    | [], [t, u, v, z], _, _ => exact .of_eq (h kV doc pm an cdv ct t u v z)
  · match zs, ws, r2 with
    | [], [], r2 => exact r1.append r2
    | [_], [_], r2 => exact r1.append r2
    | [_, _], [_, _], r2 => exact r1.append r2
    | [_, _, _], [_, _, _], r2 => exact r1.append r2
    | [a, b, c, d], [_, _, _, _], .cons h1 (.cons h2 (.cons h3 (.cons h4 .nil))) => exact r1.append (.cons h4 (.cons h3 (.cons h2 (.cons h1 .nil))))
    | _ :: _ :: _ :: _ :: _ :: _, _ :: _ :: _ :: _ :: _ :: _, r2 => exact r1.append r2
theorem sw4_dq {x y z t : PyData} : ∀ (H : Hp) (vs : List V), DqAll H vs [x, y, z, t] → DqAll H (sw4V [] vs) [t, z, y, x] := fun H vs h => by
  cases h with
  | cons a r =>
    cases r with
    | cons b r =>
      cases r with
      | cons c r =>
        cases r with
        | cons d r =>
          cases r
          exact .cons d (.cons c (.cons b (.cons a .nil)))
theorem rd_mulW {O : List Addr} {a b : Int} (ha : -(2 ^ 200) < a ∧ a < 2 ^ 200) (hb : -(2 ^ 200) < b ∧ b < 2 ^ 200) : RD O (rI CMulW fun i j => .int (i * j)) (.int a) (.int b) (.int (a * b)) := by
  refine rd_I (C := CMulW) (g := fun i j => i * j) ?_
  have l : ∀ c : Int, -(2 ^ 200) < c ∧ c < 2 ^ 200 → c.natAbs.log2 < 9000 := fun c hc => by
    have q := log_lt (m := (c.natAbs : Int)) (by omega) (by omega)
    simpa using q
  have h1 := l a ha
  have h2 := l b hb
  show a.natAbs.log2 + b.natAbs.log2 < 1000000
  omega
end DL
/-! DG: draws, own lists and returns in one judgement. -/
namespace DL
open PySem L2 Evl PyProof.Rows TL RZ
theorem rd_notN {O : List Addr} {x : PyData} : RD O (fun x y H Q => y = .non ∧ Q (.bl (!decide (x = .non))) H) x .none (.bool (match x with | .none => false | _ => true)) := fun H v w _ h1 h2 Q q => by
  cases h2
  refine ⟨rfl, q _ H (Ex.refl H) ?_⟩
  cases h1 <;> exact .bl _
abbrev Own.del (c : Own) (m : Nat) : Own := fun k => if k = m then Option.none else c k
structure SGM (O : List Addr) (p : Addr) (cnt : Nat) (H0 : Hp) (c : Own) (H : Hp) (σ : L2.St) (ρ : Rho) (P : List Addr) (al : Nat → Addr) : Prop where
  m : SDM O (sub H0 [p]) c H σ ρ P al
  bx : σ[0]? = some (some (.ref p))
  box : Box p cnt H
  mem : p ∈ O
  fr : ρ[0]? = some none
section
variable {O P : List Addr} {p : Addr} {cnt cnt' : Nat} {H0 H H' : Hp} {c : Own} {σ : L2.St} {ρ : Rho} {al : Nat → Addr}
theorem SGM.sb (s : SGM O p cnt H0 c H σ ρ P al) : SB P p cnt H σ ρ := ⟨s.m.sd, s.bx, s.box, s.m.less _ s.mem, s.fr⟩
theorem SGM.step (s : SGM O p cnt H0 c H σ ρ P al) (e : ExO [p] H H') (b : Box p cnt' H') : SGM O p cnt' H0 c H' σ ρ P al := by
  have pP := s.m.less _ s.mem
  have eP := exo_more e pP
  refine ⟨⟨s.m.less, s.m.only, s.m.sd.mono eP (own_o e b s.m.sd.own), fun k ds h => ?_, s.m.inj, fun a o ha => ?_⟩, s.bx, b, s.mem, s.fr⟩
  · obtain ⟨h1, ⟨xs, h2, h3⟩, h4, h5, h6, h7⟩ := s.m.at_ k ds h
    exact ⟨h1, ⟨xs, e.at h2 (fun z => h6 (by rw [List.mem_singleton.mp z]; exact s.mem)), h3.mono eP⟩, h4, h5, h6, h7⟩
  · exact e.at (s.m.ex a o ha) (sub_of ha).2
theorem SGM.stepX (s : SGM O p cnt H0 c H σ ρ P al) (e : Ex H H') : SGM O p cnt H0 c H' σ ρ P al := s.step (Ex.o _ e) (s.box.ex e)
theorem SGM.bmono (s : SGM O p cnt H0 c H σ ρ P al) (h : cnt ≤ cnt') : SGM O p cnt' H0 c H σ ρ P al := ⟨s.m, s.bx, s.box.mono h, s.mem, s.fr⟩
theorem SGM.put {i : Nat} {v : V} {d : PyData} (s : SGM O p cnt H0 c H σ ρ P al) (h : Dq (sub H P) v d) (hi : i < σ.length) (h0 : i ≠ 0) (hc : c i = none) : SGM O p cnt H0 c H (σ.set i (some v)) (ρ.set i (some d)) P al :=
  ⟨s.m.put h hi hc, by rw [List.getElem?_set_ne h0]; exact s.bx, s.box, s.mem, by rw [List.getElem?_set_ne h0]; exact s.fr⟩
theorem SGM.own {m : Nat} {q : Addr} {xs : List V} {ds : List PyData} (s : SGM O p cnt H0 c H σ ρ P al) (hq : H q = none) (d : DqAll (sub H P) xs ds) (hm : m < σ.length) (hr : m < ρ.length) (h0 : m ≠ 0) (hc : c m = none) :
    SGM O p cnt H0 (c.put m ds) (upd H q (.lst xs)) (σ.set m (some (.ref q))) (ρ.set m none) (q :: P) (fun k => if k = m then q else al k) :=
  ⟨s.m.own hq d hm hr hc, by rw [List.getElem?_set_ne h0]; exact s.bx, s.box.ex (Ex.new hq), s.mem, by rw [List.getElem?_set_ne h0]; exact s.fr⟩
theorem SGM.other {m : Nat} {xs : List V} {ds es : List PyData} (s : SGM O p cnt H0 c H σ ρ P al) (hm : c m = some ds) (d : DqAll (sub H P) xs es) : SGM O p cnt H0 (c.put m es) (upd H (al m) (.lst xs)) σ ρ P al := by
  have q := (s.m.at_ m ds hm).2.2.2.2.1
  refine ⟨s.m.other hm d, s.bx, ?_, s.mem, s.fr⟩
  obtain ⟨b0, b1, b2, e', rr⟩ := s.box
  exact ⟨b0, b1, b2, by rw [upd_ne (fun z => q (by rw [← z]; exact s.mem))]; exact e', rr⟩
theorem SGM.freeze {m : Nat} {ds : List PyData} (s : SGM O p cnt H0 c H σ ρ P al) (hm : c m = some ds) : SGM O p cnt H0 (c.del m) H σ (ρ.set m (some (.list ds))) (P.filter fun a => decide (a ≠ al m)) al := by
  obtain ⟨m1, ⟨xs, hx, dx⟩, m3, m4, m5, m6⟩ := s.m.at_ m ds hm
  have fl : ∀ a, a ∈ (P.filter fun a => decide (a ≠ al m)) → a ∈ P ∧ a ≠ al m := fun a ha => by
    have q := List.mem_filter.mp ha
    exact ⟨q.1, of_decide_eq_true q.2⟩
  have fm : ∀ a, a ∈ P → a ≠ al m → a ∈ (P.filter fun a => decide (a ≠ al m)) := fun a ha hn => List.mem_filter.mpr ⟨ha, decide_eq_true hn⟩
  have le := sub_less (H := H) (P := P) (P' := P.filter fun a => decide (a ≠ al m)) fun a ha => (fl a ha).1
  have m0 : m ≠ 0 := fun z => by
    rw [z, s.bx] at m1
    cases m1
    rw [z] at m5
    exact m5 (by have := s.mem; simp_all)
  have ck : ∀ k fs, (c.del m) k = some fs → k ≠ m ∧ c k = some fs := fun k fs hk => by
    by_cases c2 : k = m
    · simp [Own.del, c2] at hk
    · exact ⟨c2, by simpa [Own.del, c2] using hk⟩
  refine ⟨⟨fun a ha => fm a (s.m.less a ha) fun z => m5 (z ▸ ha), fun a ha => ?_, ⟨fun a ha => s.m.sd.own a (fl a ha).1, fun i d hd => ?_⟩, fun k fs hk => ?_, fun k k' fs fs' hk hk' he => s.m.inj k k' fs fs' (ck k fs hk).2 (ck k' fs' hk').2 he, s.m.ex⟩, s.bx, s.box, s.mem, by rw [List.getElem?_set_ne m0]; exact s.fr⟩
  · obtain ⟨a1, a2⟩ := fl a ha
    rcases s.m.only a a1 with q | ⟨k, fs, h1, rfl⟩
    · exact .inl q
    · refine .inr ⟨k, fs, ?_, rfl⟩
      have : k ≠ m := fun z => a2 (by rw [z])
      simp [Own.del, this, h1]
  · by_cases c2 : m = i
    · subst c2
      have hb : m < ρ.length := (List.getElem?_eq_some_iff.mp m3).1
      rw [List.getElem?_set_self hb] at hd
      cases hd
      exact ⟨_, m1, .lst (sub_mk hx fun z => (fl _ z).2 rfl) (dx.mono le)⟩
    · rw [List.getElem?_set_ne c2] at hd
      obtain ⟨v, h1, h2⟩ := s.m.sd.at' i d hd
      exact ⟨v, h1, h2.mono le⟩
  · obtain ⟨c2, hk⟩ := ck k fs hk
    obtain ⟨h1, ⟨ys, h2, h3⟩, h4, h5, h6, h7⟩ := s.m.at_ k fs hk
    exact ⟨h1, ⟨ys, h2, h3.mono le⟩, by rw [List.getElem?_set_ne (Ne.symm c2)]; exact h4, fm _ h5 fun z => c2 (s.m.inj k m fs ds hk hm z), h6, h7⟩
theorem SGM.exo (s : SGM O p cnt H0 c H σ ρ P al) (e : ExO [p] H H') : ExO [p] H0 H' := fun a o ha => sub_mk (e.at (s.m.ex a o ha) (sub_of ha).2) (sub_of ha).2
theorem SGM.own_o (s : SGM O p cnt H0 c H σ ρ P al) : ∀ a, a ∈ P → H a ≠ none := s.m.sd.own
end
def SGX (O : List Addr) (p : Addr) (cnt : Nat) (H0 : Hp) (c : Own) (H : Hp) (σ : L2.St) (ρ : Rho) : Prop := ∃ P al, SGM O p cnt H0 c H σ ρ P al
/-- runs: goes on with T, or returns with S; at most k draws -/
def RG (n : Nat) (t : TS) (ρ : Rho) (c : Own) (k : Nat) (T : Rho → Own → Prop) (S : PyData → Prop) : Prop := ∀ (O : List Addr) (p : Addr) (cnt : Nat) (H0 : Hp) (D : Ends) (σ : L2.St) (H : Hp), σ.length = n → SGX O p cnt H0 c H σ ρ → cnt + k ≤ 1000000 →
  (∀ ρ' c' σ' H', T ρ' c' → σ'.length = n → SGX O p (cnt + k) H0 c' H' σ' ρ' → D.nx σ' H') → (∀ v d H', S d → ExO [p] H0 H' → Box p (cnt + k) H' → Dq (sub H' O) v d → D.rt v H') → t D σ H
section
variable {n i j m k k1 k2 : Nat} {ρ ρ1 ρ' : Rho} {c c1 c' : Own} {te ta tb : TE} {tr : TA} {tt : TT} {t u : TS} {g : TG} {S S1 S2 : PyData → Prop} {T T1 : Rho → Own → Prop} {K : PySem.W.Frag} {d x : PyData} {ds es : List PyData} {vs : List Nat} {wi : TI} {E : XK}
theorem rg_wk (h : RG n t ρ c k T S) (hk : k ≤ k1) (hT : ∀ ρ' c', T ρ' c' → T1 ρ' c') (hS : ∀ d, S d → S1 d) : RG n t ρ c k1 T1 S1 := fun O p cnt H0 D σ H hn s hc q r =>
  h O p cnt H0 D σ H hn s (by omega) (fun ρ' c' σ' H' ht hl ⟨P, al, s'⟩ => q ρ' c' σ' H' (hT _ _ ht) hl ⟨P, al, s'.bmono (by omega)⟩) fun v d H' hd e b dd => r v d H' (hS d hd) e (b.mono (by omega)) dd
theorem rg_k (h : RG n t ρ c k T S) (hk : k ≤ k1) : RG n t ρ c k1 T S := rg_wk h hk (fun _ _ z => z) fun _ z => z
theorem rg_0 (h : RG n t ρ c (0 + k) T S) : RG n t ρ c k T S := by rwa [Nat.zero_add] at h
theorem rg_next (h : T ρ c) : RG n tNext ρ c 0 T S := fun O p cnt H0 D σ H hn s hc q r => q ρ c σ H h hn s
theorem rg_seq (h1 : RG n t ρ c k1 T1 S) (h2 : ∀ ρ1 c1, T1 ρ1 c1 → RG n u ρ1 c1 k2 T S) : RG n (tSeq t u) ρ c (k1 + k2) T S := fun O p cnt H0 D σ H hn s hc q r =>
  h1 O p cnt H0 _ σ H hn s (by omega) (fun ρ1 c1 σ1 H1 hT l1 s1 => h2 ρ1 c1 hT O p (cnt + k1) H0 D σ1 H1 l1 s1 (by omega) (fun ρ2 c2 σ2 H2 hT2 l2 s2 => q ρ2 c2 σ2 H2 hT2 l2 (by rw [← Nat.add_assoc]; exact s2)) fun v d H2 hd e2 b2 d2 => r v d H2 hd e2 (by rw [← Nat.add_assoc]; exact b2) d2)
    fun v d H' hd e b dd => r v d H' hd e (b.mono (by omega)) dd
/-- x = drawn -/
theorem rg_asg (h : EvB n te ρ k S1) (hi : i < n) (h0 : i ≠ 0) (hc : c i = none) : RG n (tAsg te (gName i)) ρ c k (fun ρ' c' => ∃ d, S1 d ∧ ρ' = ρ.set i (some d) ∧ c' = c) S := fun O p cnt H0 D σ H hn ⟨P, al, s⟩ hcc q r =>
  h P p cnt σ H hn s.sb hcc _ fun v d H1 hd e1 b1 d1 => q _ c _ H1 ⟨d, hd, rfl, rfl⟩ (by rw [List.length_set]; exact hn) ⟨P, al, (s.step e1 b1).put d1 (by rw [hn]; exact hi) h0 hc⟩
theorem rg_get (h : EvB n te ρ k1 S1) (hi : i < n) (h0 : i ≠ 0) (hc : c i = none) (h2 : ∀ d, S1 d → RG n u (ρ.set i (some d)) c k2 T S) : RG n (tSeq (tAsg te (gName i)) u) ρ c (k1 + k2) T S :=
  rg_seq (rg_asg h hi h0 hc) fun ρ1 c1 z => by
    obtain ⟨d, hd, rfl, rfl⟩ := z
    exact h2 d hd
/-- x = e, without a draw -/
theorem rg_let (h : ∀ O, EvD O n te ρ d) (hi : i < n) (h0 : i ≠ 0) (hc : c i = none) (h2 : RG n u (ρ.set i (some d)) c k T S) : RG n (tSeq (tAsg te (gName i)) u) ρ c k T S :=
  rg_0 (rg_get (eb_pure h) hi h0 hc fun d' e => by subst e; exact h2)
theorem rg_letE (h : ∀ O, EvD O n te ρ d) (hi : i < n) (h0 : i ≠ 0) (hc : c i = none) (h2 : T (ρ.set i (some d)) c) : RG n (tAsg te (gName i)) ρ c 0 T S :=
  rg_wk (rg_asg (eb_pure h) hi h0 hc) (Nat.le_refl _) (fun ρ' c' ⟨d', e, e1, e2⟩ => by subst e; subst e1; subst e2; exact h2) fun _ z => z
/-- any target -/
theorem rg_asgG (h : EvB n te ρ k1 S1) (h0 : 0 ∉ vs) (hv : ∀ i, i ∈ vs → c i = none) (h2 : ∀ d, S1 d → ∃ ρ', (∀ O, TgD O n vs g ρ d ρ') ∧ ρ'[0]? = some none ∧ (∀ i, i ∉ vs → ρ'[i]? = ρ[i]?) ∧ RG n u ρ' c k2 T S) : RG n (tSeq (tAsg te g) u) ρ c (k1 + k2) T S := fun O p cnt H0 D σ H hn ⟨P, al, s⟩ hcc q r =>
  h P p cnt σ H hn s.sb (by omega) _ fun v d H1 hd e1 b1 d1 => by
    obtain ⟨ρ', ht, hf, hr, hu⟩ := h2 d hd
    have s1 := s.step e1 b1
    refine ht P σ H1 v hn s1.m.sd d1 _ fun σ' hl hc' s' => ?_
    refine hu O p (cnt + k1) H0 D σ' H1 hl ⟨P, al, ⟨s1.m.less, s1.m.only, s', fun a fs ha => ?_, s1.m.inj, s1.m.ex⟩, by rw [hc' 0 h0]; exact s1.bx, s1.box, s1.mem, hf⟩ (by omega) (fun ρ2 c2 σ2 H2 hT l2 s2 => q ρ2 c2 σ2 H2 hT l2 (by rw [← Nat.add_assoc]; exact s2)) fun v d H2 hd e2 b2 d2 => r v d H2 hd e2 (by rw [← Nat.add_assoc]; exact b2) d2
    obtain ⟨q1, q2, q3, q4⟩ := s1.m.at_ a fs ha
    have na : a ∉ vs := fun z => by
      rw [hv a z] at ha
      cases ha
    exact ⟨by rw [hc' a na]; exact q1, q2, by rw [hr a na]; exact q3, q4⟩
/-- x, y = drawn, drawn -/
theorem rg_par {A : List PyData → Prop} (h : EvBA n tr ρ k1 A) (hA : ∀ ds, A ds → ∃ x y, ds = [x, y]) (hi : i < n) (hj : j < n) (h0 : i ≠ 0) (h1 : j ≠ 0) (ci : c i = none) (cj : c j = none) (h2 : ∀ x y, A [x, y] → RG n u ((ρ.set i (some x)).set j (some y)) c k2 T S) : RG n (tSeq (tPar i j tr) u) ρ c (k1 + k2) T S := fun O p cnt H0 D σ H hn ⟨P, al, s⟩ hcc q r =>
  h P p cnt σ H hn s.sb (by omega) _ fun vs ds H1 hd e1 b1 d1 => by
    obtain ⟨x, y, rfl⟩ := hA ds hd
    cases d1 with
    | cons a1 k1' =>
      cases k1' with
      | cons a2 k2' =>
        cases k2'
        refine ⟨_, _, rfl, ?_⟩
        refine h2 x y hd O p (cnt + k1) H0 D _ H1 (by rw [List.length_set, List.length_set]; exact hn) ⟨P, al, ((s.step e1 b1).put a1 (by rw [hn]; exact hi) h0 ci).put a2 (by rw [List.length_set, hn]; exact hj) h1 cj⟩ (by omega) (fun ρ2 c2 σ2 H2 hT l2 s2 => q ρ2 c2 σ2 H2 hT l2 (by rw [← Nat.add_assoc]; exact s2)) fun v d H2 hd e2 b2 d2 => r v d H2 hd e2 (by rw [← Nat.add_assoc]; exact b2) d2
/-- a new list of one's own -/
def EvBF (n : Nat) (te : TE) (ρ : Rho) (k : Nat) (A : List PyData → Prop) : Prop := ∀ (O : List Addr) (p : Addr) (cnt : Nat) (σ : L2.St) (H : Hp), σ.length = n → SB O p cnt H σ ρ → cnt + k ≤ 1000000 → ∀ Q : VK,
  (∀ q xs ds H1, A ds → ExO [p] H H1 → Box p (cnt + k) H1 → H1 q = none → DqAll (sub H1 O) xs ds → Q (.ref q) (upd H1 q (.lst xs))) → te σ H Q
theorem ebf_lst {A : List PyData → Prop} (h : EvBA n tr ρ k A) (hl : ∀ ds, A ds → ds.length ≤ 100000) : EvBF n (tLst tr) ρ k A := fun O p cnt σ H hn s hc Q q =>
  h O p cnt σ H hn s hc _ fun vs ds H1 hd e1 b1 d1 => ⟨by rw [d1.length]; exact sz_of (hl ds hd), fun l nl => q l vs ds H1 hd e1 b1 nl d1⟩
theorem ebf_pure (h : ∀ P, EvF P n te ρ ds) : EvBF n te ρ 0 (fun x => x = ds) := fun O p cnt σ H hn s hc Q q =>
  h O σ H hn s.sd _ fun l xs H1 e1 nl d1 => q l xs ds H1 rfl (Ex.o _ e1) (s.box.ex e1) nl d1
theorem rg_own {A : List PyData → Prop} (h : EvBF n te ρ k1 A) (hm : m < n) (hr : m < ρ.length) (h0 : m ≠ 0) (hc : c m = none) (h2 : ∀ ds, A ds → RG n u (ρ.set m none) (c.put m ds) k2 T S) : RG n (tSeq (tAsg te (gName m)) u) ρ c (k1 + k2) T S := fun O p cnt H0 D σ H hn ⟨P, al, s⟩ hcc q r =>
  h P p cnt σ H hn s.sb (by omega) _ fun l xs ds H1 hd e1 b1 nl d1 =>
    h2 ds hd O p (cnt + k1) H0 D _ _ (by rw [List.length_set]; exact hn) ⟨_, _, (s.step e1 b1).own nl d1 (by rw [hn]; exact hm) hr h0 hc⟩ (by omega) (fun ρ2 c2 σ2 H2 hT l2 s2 => q ρ2 c2 σ2 H2 hT l2 (by rw [← Nat.add_assoc]; exact s2)) fun v d H2 hd e2 b2 d2 => r v d H2 hd e2 (by rw [← Nat.add_assoc]; exact b2) d2
theorem rg_own0 (h : ∀ P, EvF P n te ρ ds) (hm : m < n) (hr : m < ρ.length) (h0 : m ≠ 0) (hc : c m = none) (h2 : RG n u (ρ.set m none) (c.put m ds) k T S) : RG n (tSeq (tAsg te (gName m)) u) ρ c k T S :=
  rg_0 (rg_own (ebf_pure h) hm hr h0 hc fun d' e => by subst e; exact h2)
/-- xs.append(drawn) -/
theorem rg_app (hc : c m = some ds) (h : EvB n te ρ k S1) (hl : ds.length ≤ 100000) : RG n (tDrop (tBM K "list" rAppend (tVar m) (tCons te tNil))) ρ c k (fun ρ' c' => ∃ d, S1 d ∧ ρ' = ρ ∧ c' = c.put m (ds ++ [d])) S := fun O p cnt H0 D σ H hn ⟨P, al, s⟩ hcc q r => by
  obtain ⟨m1, ⟨xs, hx, _⟩, _⟩ := s.m.at_ m ds hc
  refine ⟨_, m1, ty_lst hx, h P p cnt σ H hn s.sb hcc _ fun v d H1 hd e1 b1 d1 => ?_⟩
  have s1 := s.step e1 b1
  obtain ⟨_, ⟨ys, hy, dy⟩, _⟩ := s1.m.at_ m ds hc
  refine ⟨al m, ys, v, rfl, rfl, hy, Nat.lt_of_le_of_lt (show ys.length ≤ 100000 by have q := dy.length; omega) (by decide), ?_⟩
  exact q ρ _ σ _ ⟨d, hd, rfl, rfl⟩ hn ⟨P, al, s1.other hc (dy.append (.cons d1 .nil))⟩
theorem rg_append (hc : c m = some ds) (h : EvB n te ρ k1 S1) (hl : ds.length ≤ 100000) (h2 : ∀ d, S1 d → RG n u ρ (c.put m (ds ++ [d])) k2 T S) : RG n (tSeq (tDrop (tBM K "list" rAppend (tVar m) (tCons te tNil))) u) ρ c (k1 + k2) T S :=
  rg_seq (rg_app hc h hl) fun ρ1 c1 z => by
    obtain ⟨d, hd, rfl, rfl⟩ := z
    exact h2 d hd
theorem rg_append0 (hc : c m = some ds) (h : ∀ P, EvD P n te ρ d) (hl : ds.length ≤ 100000) (h2 : RG n u ρ (c.put m (ds ++ [d])) k T S) : RG n (tSeq (tDrop (tBM K "list" rAppend (tVar m) (tCons te tNil))) u) ρ c k T S :=
  rg_0 (rg_append hc (eb_pure h) hl fun d' e => by subst e; exact h2)
/-- the own list in m is data from here -/
theorem rg_freeze (hc : c m = some ds) (h : RG n t (ρ.set m (some (.list ds))) (c.del m) k T S) : RG n t ρ c k T S := fun O p cnt H0 D σ H hn ⟨P, al, s⟩ hcc q r =>
  h O p cnt H0 D σ H hn ⟨_, al, s.freeze hc⟩ hcc q r
theorem rg_c (h : RG n t ρ c k T S) (e : c = c') (e2 : ρ = ρ') : RG n t ρ' c' k T S := e ▸ e2 ▸ h
/-- return of data -/
theorem rg_ret (h : EvB n te ρ k S) : RG n (tRet te) ρ c k T S := fun O p cnt H0 D σ H hn ⟨P, al, s⟩ hcc q r =>
  h P p cnt σ H hn s.sb hcc _ fun v d H1 hd e1 b1 d1 => r v d H1 hd (s.exo e1) b1 (d1.mono (sub_less s.m.less))
theorem rg_ret0 (h : ∀ O, EvD O n te ρ d) (hS : S d) : RG n (tRet te) ρ c 0 T S := rg_ret (eb_wk (eb_pure h) (Nat.le_refl _) fun d' e => by subst e; exact hS)
/-- what comes behind a return -/
theorem rg_fst (h : RG n t ρ c k (fun _ _ => False) S) : RG n (tSeq t u) ρ c k T S := fun O p cnt H0 D σ H hn s hcc q r =>
  h O p cnt H0 _ σ H hn s hcc (fun _ _ _ _ z _ _ => z.elim) r
theorem rg_if {B : Bool → Prop} (h : EvBT n tt ρ k1 B) (h1 : B true → RG n t ρ c k2 T S) (h2 : B false → RG n u ρ c k2 T S) : RG n (tIfS tt t u) ρ c (k1 + k2) T S := fun O p cnt H0 D σ H hn ⟨P, al, s⟩ hcc q r =>
  h P p cnt σ H hn s.sb (by omega) _ fun b H1 hb e1 b1 => by
    have s1 := s.step e1 b1
    cases b with
    | true => exact iteT (h1 hb O p (cnt + k1) H0 D σ H1 hn ⟨P, al, s1⟩ (by omega) (fun ρ2 c2 σ2 H2 hT l2 s2 => q ρ2 c2 σ2 H2 hT l2 (by rw [← Nat.add_assoc]; exact s2)) fun v d H2 hd e2 b2 d2 => r v d H2 hd e2 (by rw [← Nat.add_assoc]; exact b2) d2)
    | false => exact iteF (h2 hb O p (cnt + k1) H0 D σ H1 hn ⟨P, al, s1⟩ (by omega) (fun ρ2 c2 σ2 H2 hT l2 s2 => q ρ2 c2 σ2 H2 hT l2 (by rw [← Nat.add_assoc]; exact s2)) fun v d H2 hd e2 b2 d2 => r v d H2 hd e2 (by rw [← Nat.add_assoc]; exact b2) d2)
/-- a test without a draw, of what the own lists hold, too -/
theorem rg_ifV {b : Bool} (h : ∀ O, EvDT O n tt (vwC c 0 ρ) b) (h1 : b = true → RG n t ρ c k T S) (h2 : b = false → RG n u ρ c k T S) : RG n (tIfS tt t u) ρ c k T S := fun O p cnt H0 D σ H hn ⟨P, al, s⟩ hcc q r =>
  h O σ H hn s.m.view _ fun H1 e1 => by
    have s1 := s.stepX e1
    cases b with
    | true => exact iteT (h1 rfl O p cnt H0 D σ H1 hn ⟨P, al, s1⟩ hcc q r)
    | false => exact iteF (h2 rfl O p cnt H0 D σ H1 hn ⟨P, al, s1⟩ hcc q r)
/-- if c: return ..; c comes out false -/
theorem rg_pass (h : ∀ O, EvDT O n tt (vwC c 0 ρ) false) (h2 : RG n u ρ c k T S) : RG n (tSeq (tIfS tt t tNext) u) ρ c k T S :=
  rg_0 (rg_seq (T1 := fun ρ' c' => ρ' = ρ ∧ c' = c) (rg_ifV h (fun z => by cases z) fun _ => rg_next ⟨rfl, rfl⟩) fun ρ1 c1 z => by
    rw [z.1, z.2]
    exact h2)
/-- the same as the last statement of a suite -/
theorem rg_passE (h : ∀ O, EvDT O n tt (vwC c 0 ρ) false) (h2 : T ρ c) : RG n (tIfS tt t tNext) ρ c 0 T S := rg_ifV h (fun z => by cases z) fun _ => rg_next h2
/-- if c: ..; the rest: c known, without a draw -/
theorem rg_cond {b : Bool} (h : ∀ O, EvDT O n tt (vwC c 0 ρ) b) (h1 : b = true → RG n (tSeq t u) ρ c k T S) (h2 : b = false → RG n u ρ c k T S) : RG n (tSeq (tIfS tt t tNext) u) ρ c k T S := fun O p cnt H0 D σ H hn ⟨P, al, s⟩ hcc q r =>
  h O σ H hn s.m.view _ fun H1 e1 => by
    have s1 := s.stepX e1
    cases b with
    | true => exact iteT (h1 rfl O p cnt H0 D σ H1 hn ⟨P, al, s1⟩ hcc q r)
    | false => exact iteF (h2 rfl O p cnt H0 D σ H1 hn ⟨P, al, s1⟩ hcc q r)
theorem rg_drop (h : EvB n te ρ k S1) (hT : T ρ c) : RG n (tDrop te) ρ c k T S := fun O p cnt H0 D σ H hn ⟨P, al, s⟩ hcc q r =>
  h P p cnt σ H hn s.sb hcc _ fun v d H1 hd e1 b1 d1 => q ρ c σ H1 hT hn ⟨P, al, s.step e1 b1⟩
/-- the same where a suite may also go on with `continue` -/
def RGC (n : Nat) (t : TS) (ρ : Rho) (c : Own) (k : Nat) (T : Rho → Own → Prop) (S : PyData → Prop) : Prop := ∀ (O : List Addr) (p : Addr) (cnt : Nat) (H0 : Hp) (D : Ends) (σ : L2.St) (H : Hp), σ.length = n → SGX O p cnt H0 c H σ ρ → cnt + k ≤ 1000000 →
  (∀ ρ' c' σ' H', T ρ' c' → σ'.length = n → SGX O p (cnt + k) H0 c' H' σ' ρ' → D.nx σ' H' ∧ D.ct σ' H') → (∀ v d H', S d → ExO [p] H0 H' → Box p (cnt + k) H' → Dq (sub H' O) v d → D.rt v H') → t D σ H
theorem rgc_of (h : RG n t ρ c k T S) : RGC n t ρ c k T S := fun O p cnt H0 D σ H hn s hc q r => h O p cnt H0 D σ H hn s hc (fun ρ' c' σ' H' hT hl s' => (q ρ' c' σ' H' hT hl s').1) r
theorem rgc_cont (h : T ρ c) : RGC n tCont ρ c 0 T S := fun O p cnt H0 D σ H hn s hc q r => (q ρ c σ H h hn s).2
theorem rgc_wk (h : RGC n t ρ c k T S) (hk : k ≤ k1) (hT : ∀ ρ' c', T ρ' c' → T1 ρ' c') (hS : ∀ d, S d → S1 d) : RGC n t ρ c k1 T1 S1 := fun O p cnt H0 D σ H hn s hc q r =>
  h O p cnt H0 D σ H hn s (by omega) (fun ρ' c' σ' H' ht hl ⟨P, al, s'⟩ => q ρ' c' σ' H' (hT _ _ ht) hl ⟨P, al, s'.bmono (by omega)⟩) fun v d H' hd e b dd => r v d H' (hS d hd) e (b.mono (by omega)) dd
theorem rgc_seq (h1 : RG n t ρ c k1 T1 S) (h2 : ∀ ρ1 c1, T1 ρ1 c1 → RGC n u ρ1 c1 k2 T S) : RGC n (tSeq t u) ρ c (k1 + k2) T S := fun O p cnt H0 D σ H hn s hc q r =>
  h1 O p cnt H0 _ σ H hn s (by omega) (fun ρ1 c1 σ1 H1 hT l1 s1 => h2 ρ1 c1 hT O p (cnt + k1) H0 D σ1 H1 l1 s1 (by omega) (fun ρ2 c2 σ2 H2 hT2 l2 s2 => q ρ2 c2 σ2 H2 hT2 l2 (by rw [← Nat.add_assoc]; exact s2)) fun v d H2 hd e2 b2 d2 => r v d H2 hd e2 (by rw [← Nat.add_assoc]; exact b2) d2)
    fun v d H' hd e b dd => r v d H' hd e (b.mono (by omega)) dd
theorem rgc_get (h : EvB n te ρ k1 S1) (hi : i < n) (h0 : i ≠ 0) (hc : c i = none) (h2 : ∀ d, S1 d → RGC n u (ρ.set i (some d)) c k2 T S) : RGC n (tSeq (tAsg te (gName i)) u) ρ c (k1 + k2) T S :=
  rgc_seq (rg_asg h hi h0 hc) fun ρ1 c1 z => by
    obtain ⟨d, hd, rfl, rfl⟩ := z
    exact h2 d hd
theorem rgc_let (h : ∀ O, EvD O n te ρ d) (hi : i < n) (h0 : i ≠ 0) (hc : c i = none) (h2 : RGC n u (ρ.set i (some d)) c k T S) : RGC n (tSeq (tAsg te (gName i)) u) ρ c k T S := by
  have q := rgc_get (eb_pure h) hi h0 hc (u := u) (k2 := k) (T := T) (S := S) (fun d' e => by subst e; exact h2)
  rwa [Nat.zero_add] at q
theorem rgc_par {A : List PyData → Prop} (h : EvBA n tr ρ k1 A) (hA : ∀ ds, A ds → ∃ x y, ds = [x, y]) (hi : i < n) (hj : j < n) (h0 : i ≠ 0) (h1 : j ≠ 0) (ci : c i = none) (cj : c j = none) (h2 : ∀ x y, A [x, y] → RGC n u ((ρ.set i (some x)).set j (some y)) c k2 T S) : RGC n (tSeq (tPar i j tr) u) ρ c (k1 + k2) T S := fun O p cnt H0 D σ H hn ⟨P, al, s⟩ hcc q r =>
  h P p cnt σ H hn s.sb (by omega) _ fun vs ds H1 hd e1 b1 d1 => by
    obtain ⟨x, y, rfl⟩ := hA ds hd
    cases d1 with
    | cons a1 k1' =>
      cases k1' with
      | cons a2 k2' =>
        cases k2'
        refine ⟨_, _, rfl, ?_⟩
        refine h2 x y hd O p (cnt + k1) H0 D _ H1 (by rw [List.length_set, List.length_set]; exact hn) ⟨P, al, ((s.step e1 b1).put a1 (by rw [hn]; exact hi) h0 ci).put a2 (by rw [List.length_set, hn]; exact hj) h1 cj⟩ (by omega) (fun ρ2 c2 σ2 H2 hT l2 s2 => q ρ2 c2 σ2 H2 hT l2 (by rw [← Nat.add_assoc]; exact s2)) fun v d H2 hd e2 b2 d2 => r v d H2 hd e2 (by rw [← Nat.add_assoc]; exact b2) d2
theorem rgc_pass (h : ∀ O, EvDT O n tt (vwC c 0 ρ) false) (h2 : RGC n u ρ c k T S) : RGC n (tSeq (tIfS tt t tNext) u) ρ c k T S := by
  have q := rgc_seq (k1 := 0) (T1 := fun ρ' c' => ρ' = ρ ∧ c' = c) (rg_ifV (n := n) (k := 0) (S := S) (t := t) (u := tNext) h (fun z => by cases z) fun _ => rg_next ⟨rfl, rfl⟩) (u := u) (k2 := k) (T := T) fun ρ1 c1 z => by
    rw [z.1, z.2]
    exact h2
  rwa [Nat.zero_add] at q
theorem rgc_asgG (h : EvB n te ρ k1 S1) (h0 : 0 ∉ vs) (hv : ∀ i, i ∈ vs → c i = none) (h2 : ∀ d, S1 d → ∃ ρ', (∀ O, TgD O n vs g ρ d ρ') ∧ ρ'[0]? = some none ∧ (∀ i, i ∉ vs → ρ'[i]? = ρ[i]?) ∧ RGC n u ρ' c k2 T S) : RGC n (tSeq (tAsg te g) u) ρ c (k1 + k2) T S := fun O p cnt H0 D σ H hn ⟨P, al, s⟩ hcc q r =>
  h P p cnt σ H hn s.sb (by omega) _ fun v d H1 hd e1 b1 d1 => by
    obtain ⟨ρ', ht, hf, hr, hu⟩ := h2 d hd
    have s1 := s.step e1 b1
    refine ht P σ H1 v hn s1.m.sd d1 _ fun σ' hl hc' s' => ?_
    refine hu O p (cnt + k1) H0 D σ' H1 hl ⟨P, al, ⟨s1.m.less, s1.m.only, s', fun a fs ha => ?_, s1.m.inj, s1.m.ex⟩, by rw [hc' 0 h0]; exact s1.bx, s1.box, s1.mem, hf⟩ (by omega) (fun ρ2 c2 σ2 H2 hT l2 s2 => q ρ2 c2 σ2 H2 hT l2 (by rw [← Nat.add_assoc]; exact s2)) fun v d H2 hd e2 b2 d2 => r v d H2 hd e2 (by rw [← Nat.add_assoc]; exact b2) d2
    obtain ⟨q1, q2, q3, q4⟩ := s1.m.at_ a fs ha
    have na : a ∉ vs := fun z => by
      rw [hv a z] at ha
      cases ha
    exact ⟨by rw [hc' a na]; exact q1, q2, by rw [hr a na]; exact q3, q4⟩
/-- t[::-1] of a drawn list -/
theorem eb_revL (h : EvB n te ρ k (fun x => ∃ ds, x = .list ds ∧ S (.list ds.reverse))) : EvB n (tRevL K te) ρ k S := fun O p cnt σ H hn s hc Q q =>
  h O p cnt σ H hn s hc _ fun v x H1 hd e1 b1 d1 => by
    obtain ⟨ds, rfl, hS⟩ := hd
    cases d1 with
    | lst a kk => exact ⟨_, _, rfl, sq_of (sub_of a).1, fun l hl => q _ _ _ hS (e1.trans (Ex.o _ (Ex.new hl))) (b1.ex (Ex.new hl)) (.lst (sub_mk upd_same (not_own (own_o e1 b1 s.sd.own) hl)) (kk.reverse.mono (Ex.o O (Ex.new hl))))⟩
/-- if c: continue; the rest -/
theorem rgc_cond {b : Bool} (h : ∀ O, EvDT O n tt (vwC c 0 ρ) b) (h1 : b = true → RGC n (tSeq t u) ρ c k T S) (h2 : b = false → RGC n u ρ c k T S) : RGC n (tSeq (tIfS tt t tNext) u) ρ c k T S := fun O p cnt H0 D σ H hn ⟨P, al, s⟩ hcc q r =>
  h O σ H hn s.m.view _ fun H1 e1 => by
    have s1 := s.stepX e1
    cases b with
    | true => exact iteT (h1 rfl O p cnt H0 D σ H1 hn ⟨P, al, s1⟩ hcc q r)
    | false => exact iteF (h2 rfl O p cnt H0 D σ H1 hn ⟨P, al, s1⟩ hcc q r)
/-- continue, whatever stands behind it -/
theorem rgc_contS (h : T ρ c) : RGC n (tSeq tCont u) ρ c k T S := fun O p cnt H0 D σ H hn ⟨P, al, s⟩ hc q r => (q ρ c σ H h hn ⟨P, al, s.bmono (by omega)⟩).2
/-- a for over what is none of the def's own lists -/
theorem rg_for_atC {P0 : List Addr} {al0 : Nat → Addr} {O : List Addr} {p : Addr} {cnt : Nat} {H0 : Hp} {D : Ends} {σ : L2.St} {H : Hp} (hw : IterAt P0 wi σ H es) (hn : σ.length = n) (s0 : SGM O p cnt H0 c H σ ρ P0 al0) (Iv : Nat → Rho → Own → Prop) (h0 : Iv 0 ρ c) (hv0 : 0 ∉ vs) (hcc : cnt + es.length * k1 ≤ 1000000)
    (hs : ∀ i e, es[i]? = some e → ∀ ρi ci, Iv i ρi ci → ∃ ρ', (∀ P, TgD P n vs g ρi e ρ') ∧ ρ'[0]? = some none ∧ (∀ a fs, ci a = some fs → a ∉ vs ∧ ρ'[a]? = some none) ∧ RGC n t ρ' ci k1 (Iv (i + 1)) S)
    (q : ∀ ρ' c' σ' H', Iv es.length ρ' c' → σ'.length = n → SGX O p (cnt + es.length * k1) H0 c' H' σ' ρ' → D.nx σ' H') (r : ∀ v d H', S d → ExO [p] H0 H' → Box p (cnt + es.length * k1) H' → Dq (sub H' O) v d → D.rt v H') : tFor wi g t D σ H := hw _ fun J H1 G Y e1 W g1 gk yk => by
  have s1 := s0.stepX e1
  -- the set of what is owned now but the box and the data
  let Z : List Addr := P0.filter fun a => decide (a ∉ O)
  let HB : Hp := sub H1 Z
  have zOf : ∀ a, a ∈ Z → a ∈ P0 ∧ a ∉ O := fun a ha => by
    have q := List.mem_filter.mp ha
    exact ⟨q.1, of_decide_eq_true q.2⟩
  have exB : Ex (sub H0 [p]) (sub HB [p]) := fun a o ha => by
    refine sub_mk (sub_mk (s1.m.ex a o ha) fun z => ?_) (sub_of ha).2
    obtain ⟨z1, z2⟩ := zOf a z
    rcases s1.m.only a z1 with q | ⟨k2, fs, h1, rfl⟩
    · exact z2 q
    · have q := (s1.m.at_ k2 fs h1).2.2.2.2.2
      rw [q] at ha
      cases ha
  have sB : SGM O p cnt HB c H1 σ ρ P0 al0 := ⟨⟨s1.m.less, s1.m.only, s1.m.sd, fun k2 fs hk => by
    obtain ⟨h1, h2, h3, h4, h5, h6⟩ := s1.m.at_ k2 fs hk
    refine ⟨h1, h2, h3, h4, h5, ?_⟩
    cases z : sub HB [p] (al0 k2) with
    | none => rfl
    | some o => exact absurd (List.mem_filter.mpr ⟨h4, decide_eq_true h5⟩) (sub_of (sub_of z).1).2, s1.m.inj, fun a o ha => (sub_of (sub_of ha).1).1⟩, s1.bx, s1.box, s1.mem, s1.fr⟩
  have toG : ∀ (P2 : List Addr) (al2 : Nat → Addr) (c2 : Own) (σ2 : L2.St) (ρ2 : Rho) (H2 : Hp) (cnt2 : Nat), SGM O p cnt2 HB c2 H2 σ2 ρ2 P2 al2 → Ex (sub H1 P0) (sub H2 P2) := fun P2 al2 c2 σ2 ρ2 H2 cnt2 s2 a o ha => by
    obtain ⟨h1, h2⟩ := sub_of ha
    have np : a ∉ [p] := fun z => h2 (by rw [List.mem_singleton.mp z]; exact s1.m.less _ s1.mem)
    have nz : a ∉ Z := fun z => h2 (zOf a z).1
    have hb : sub HB [p] a = some o := sub_mk (sub_mk h1 nz) np
    refine sub_mk (s2.m.ex a o hb) fun z => ?_
    rcases s2.m.only a z with q | ⟨k2, fs, q1, rfl⟩
    · exact h2 (s1.m.less a q)
    · have q := (s2.m.at_ k2 fs q1).2.2.2.2.2
      rw [q] at hb
      cases hb
  have toG0 : ∀ (P2 : List Addr) (al2 : Nat → Addr) (c2 : Own) (σ2 : L2.St) (ρ2 : Rho) (H2 : Hp) (cnt2 : Nat), SGM O p cnt2 HB c2 H2 σ2 ρ2 P2 al2 → Ex (sub H1 P0) (sub H2 P0) := fun P2 al2 c2 σ2 ρ2 H2 cnt2 s2 a o ha => by
    obtain ⟨h1, h2⟩ := sub_of ha
    have np : a ∉ [p] := fun z => h2 (by rw [List.mem_singleton.mp z]; exact s1.m.less _ s1.mem)
    have nz : a ∉ Z := fun z => h2 (zOf a z).1
    exact sub_mk (s2.m.ex a o (sub_mk (sub_mk h1 nz) np)) h2
  refine for_it (W P0) (fun i σ2 H2 => σ2.length = n ∧ ∃ ρ2 c2, Iv i ρ2 c2 ∧ SGX O p (cnt + i * k1) HB c2 H2 σ2 ρ2) ⟨hn, ρ, c, h0, P0, al0, by rw [Nat.zero_mul]; exact sB⟩ (fun i σ2 H2 _ z => ?_) ?_ ?_
  · obtain ⟨_, ρ2, c2, _, P2, al2, s2⟩ := z
    exact gk _ _ _ _ g1 (toG0 P2 al2 _ _ _ _ _ s2)
  · rintro i x σ2 H2 H3 hi ⟨l2, ρ2, c2, hI, P2, al2, s2⟩ y
    obtain ⟨e3, e, hdi, hx⟩ := yk P2 i H2 x H3 hi s2.m.sd.own (gk _ _ _ _ g1 (toG P2 al2 _ _ _ _ _ s2)) y
    obtain ⟨ρ', ht, hf, hfree, hb⟩ := hs i e hdi ρ2 c2 hI
    have s3 := s2.stepX e3
    have hM2 : (i + 1) * k1 ≤ es.length * k1 := Nat.mul_le_mul_right _ (by omega)
    have hM3 : (i + 1) * k1 = i * k1 + k1 := Nat.succ_mul i k1
    refine ht P2 σ2 H3 x l2 s3.m.sd hx _ fun σ' hl' hout s' => ?_
    refine hb O p (cnt + i * k1) HB _ σ' H3 hl' ⟨P2, al2, ⟨s3.m.less, s3.m.only, s', fun k2 fs hk => ?_, s3.m.inj, s3.m.ex⟩, by rw [hout 0 hv0]; exact s3.bx, s3.box, s3.mem, hf⟩ (by omega) (fun ρ4 c4 σ4 H4 hT hl4 s4 => ⟨⟨hl4, ρ4, c4, hT, by rw [hM3, ← Nat.add_assoc]; exact s4⟩, ⟨hl4, ρ4, c4, hT, by rw [hM3, ← Nat.add_assoc]; exact s4⟩⟩) fun v d H4 hd e4 b4 d4 => ?_
    · obtain ⟨h1, h2, h3, h4⟩ := s3.m.at_ k2 fs hk
      obtain ⟨f1, f2⟩ := hfree k2 fs hk
      exact ⟨by rw [hout k2 f1]; exact h1, h2, f2, h4⟩
    · exact r v d H4 hd (Ex.trans exB e4) (b4.mono (by omega)) d4
  · rintro σ2 H2 ⟨l2, ρ2, c2, hI, P2, al2, s2⟩
    refine q ρ2 c2 σ2 H2 hI l2 ⟨P2, al2, ⟨s2.m.less, s2.m.only, s2.m.sd, fun k2 fs hk => ?_, s2.m.inj, fun a o ha => ?_⟩, s2.bx, s2.box.mono (by omega), s2.mem, s2.fr⟩
    · obtain ⟨h1, h2, h3, h4, h5, h6⟩ := s2.m.at_ k2 fs hk
      refine ⟨h1, h2, h3, h4, h5, ?_⟩
      cases z : sub H0 [p] (al2 k2) with
      | none => rfl
      | some o =>
        rw [exB _ _ z] at h6
        cases h6
    · exact s2.m.ex a o (exB a o ha)
theorem rg_for_at {P0 : List Addr} {al0 : Nat → Addr} {O : List Addr} {p : Addr} {cnt : Nat} {H0 : Hp} {D : Ends} {σ : L2.St} {H : Hp} (hw : IterAt P0 wi σ H es) (hn : σ.length = n) (s0 : SGM O p cnt H0 c H σ ρ P0 al0) (Iv : Nat → Rho → Own → Prop) (h0 : Iv 0 ρ c) (hv0 : 0 ∉ vs) (hcc : cnt + es.length * k1 ≤ 1000000)
    (hs : ∀ i e, es[i]? = some e → ∀ ρi ci, Iv i ρi ci → ∃ ρ', (∀ P, TgD P n vs g ρi e ρ') ∧ ρ'[0]? = some none ∧ (∀ a fs, ci a = some fs → a ∉ vs ∧ ρ'[a]? = some none) ∧ RG n t ρ' ci k1 (Iv (i + 1)) S)
    (q : ∀ ρ' c' σ' H', Iv es.length ρ' c' → σ'.length = n → SGX O p (cnt + es.length * k1) H0 c' H' σ' ρ' → D.nx σ' H') (r : ∀ v d H', S d → ExO [p] H0 H' → Box p (cnt + es.length * k1) H' → Dq (sub H' O) v d → D.rt v H') : tFor wi g t D σ H := rg_for_atC hw hn s0 Iv h0 hv0 hcc (fun i e he ρi ci hI => by
    obtain ⟨ρ', h1, h2, h3, h4⟩ := hs i e he ρi ci hI
    exact ⟨ρ', h1, h2, h3, rgc_of h4⟩) q r
theorem rg_for {M : Nat} (hw : ∀ P, IterD P n wi ρ es) (hM : es.length ≤ M) (Iv : Nat → Rho → Own → Prop) (h0 : Iv 0 ρ c) (hv0 : 0 ∉ vs)
    (hs : ∀ i e, es[i]? = some e → ∀ ρi ci, Iv i ρi ci → ∃ ρ', (∀ P, TgD P n vs g ρi e ρ') ∧ ρ'[0]? = some none ∧ (∀ a fs, ci a = some fs → a ∉ vs ∧ ρ'[a]? = some none) ∧ RG n t ρ' ci k1 (Iv (i + 1)) S) :
    RG n (tFor wi g t) ρ c (M * k1) (Iv es.length) S := fun O p cnt H0 D σ H hn ⟨P0, al0, s0⟩ hcc q r => by
  have hMk : es.length * k1 ≤ M * k1 := Nat.mul_le_mul_right _ hM
  exact rg_for_at (hw P0 σ H hn s0.m.sd) hn s0 Iv h0 hv0 (by omega) hs (fun ρ' c' σ' H' hI hl ⟨P, al, s⟩ => q ρ' c' σ' H' hI hl ⟨P, al, s.bmono (by omega)⟩) fun v d H' hd e b dd => r v d H' hd e (b.mono (by omega)) dd
theorem rg_forC {M : Nat} (hw : ∀ P, IterD P n wi ρ es) (hM : es.length ≤ M) (Iv : Nat → Rho → Own → Prop) (h0 : Iv 0 ρ c) (hv0 : 0 ∉ vs)
    (hs : ∀ i e, es[i]? = some e → ∀ ρi ci, Iv i ρi ci → ∃ ρ', (∀ P, TgD P n vs g ρi e ρ') ∧ ρ'[0]? = some none ∧ (∀ a fs, ci a = some fs → a ∉ vs ∧ ρ'[a]? = some none) ∧ RGC n t ρ' ci k1 (Iv (i + 1)) S) :
    RG n (tFor wi g t) ρ c (M * k1) (Iv es.length) S := fun O p cnt H0 D σ H hn ⟨P0, al0, s0⟩ hcc q r => by
  have hMk : es.length * k1 ≤ M * k1 := Nat.mul_le_mul_right _ hM
  exact rg_for_atC (hw P0 σ H hn s0.m.sd) hn s0 Iv h0 hv0 (by omega) hs (fun ρ' c' σ' H' hI hl ⟨P, al, s⟩ => q ρ' c' σ' H' hI hl ⟨P, al, s.bmono (by omega)⟩) fun v d H' hd e b dd => r v d H' hd e (b.mono (by omega)) dd
/-- a for over a drawn range -/
theorem rg_forR {M : Nat} {Tm : Nat → Prop} (h : EvB n te ρ k (fun d => ∃ m : Nat, d = .int (m : Int) ∧ m ≤ M ∧ Tm m)) (hM : M ≤ 1000) (hj : j < n) (hj0 : j ≠ 0) (Iv : Nat → Rho → Own → Prop) (h0 : Iv 0 ρ c)
    (hs : ∀ i : Nat, i < M → ∀ ρi ci, Iv i ρi ci → ρi[0]? = some none ∧ (∀ a fs, ci a = some fs → a ≠ j ∧ ρi[a]? = some none) ∧ RG n t (ρi.set j (some (.int (i : Int)))) ci k1 (Iv (i + 1)) S) :
    RG n (tFor (iRng1 (tCons te tNil)) (gName j) t) ρ c (k + M * k1) (fun ρ' c' => ∃ m, Tm m ∧ m ≤ M ∧ Iv m ρ' c') S := fun O p cnt H0 D σ H hn ⟨P0, al0, s0⟩ hcc q r =>
  h P0 p cnt σ H hn s0.sb (by omega) _ fun v d H1 hd e1 b1 d1 => by
    obtain ⟨m, rfl, hm, hT⟩ := hd
    cases d1
    have s1 := s0.step e1 b1
    have lr : (rngD m).length = m := by
      unfold rngD
      rw [List.length_map, List.length_range]
    have hMk : m * k1 ≤ M * k1 := Nat.mul_le_mul_right _ hm
    have hw : IterD P0 n (iRng1 (tCons (tC (.int (m : Int))) tNil)) ρ (rngD m) := it_rng (ea_cons ed_int ea_nil) (by omega)
    refine rg_for_at (wi := iRng1 (tCons (tC (.int (m : Int))) tNil)) (es := rngD m) (vs := [j]) (k1 := k1) (S := S) (hw σ H1 hn s1.m.sd) hn s1 Iv h0 (fun z => hj0 (List.mem_singleton.mp z).symm) (by rw [lr]; omega) (fun i e hi ρi ci hI => ?_) (fun ρ' c' σ' H' hI hl ⟨P, al, s⟩ => ?_) fun v d H' hd e b dd => r v d H' hd e (b.mono (by rw [lr]; omega)) dd
    · have hi2 : i < m := by
        have q := (List.getElem?_eq_some_iff.mp hi).1
        rw [lr] at q
        exact q
      unfold rngD at hi
      rw [List.getElem?_map, List.getElem?_range hi2] at hi
      cases hi
      obtain ⟨f0, f1, f2⟩ := hs i (by omega) ρi ci hI
      refine ⟨_, fun P => tg_name hj (List.mem_singleton.mpr rfl), by rw [List.getElem?_set_ne hj0]; exact f0, fun a fs ha => ?_, f2⟩
      obtain ⟨z1, z2⟩ := f1 a fs ha
      exact ⟨fun z => z1 (List.mem_singleton.mp z), by rw [List.getElem?_set_ne (Ne.symm z1)]; exact z2⟩
    · rw [lr] at hI s
      exact q ρ' c' σ' H' ⟨m, hT, hm, hI⟩ hl ⟨P, al, s.bmono (by omega)⟩
/-- a for over a drawn tuple -/
theorem rg_forT {M : Nat} {A : List PyData → Prop} {tl : TE} (h : EvB n tl ρ k (fun x => ∃ ds, x = .tuple ds ∧ A ds)) (hA : ∀ ds, A ds → ds.length ≤ M) (Iv : List PyData → Nat → Rho → Own → Prop) (h0 : ∀ ds, A ds → Iv ds 0 ρ c) (hv0 : 0 ∉ vs)
    (hs : ∀ ds, A ds → ∀ i e, ds[i]? = some e → ∀ ρi ci, Iv ds i ρi ci → ∃ ρ', (∀ P, TgD P n vs g ρi e ρ') ∧ ρ'[0]? = some none ∧ (∀ a fs, ci a = some fs → a ∉ vs ∧ ρ'[a]? = some none) ∧ RG n t ρ' ci k1 (Iv ds (i + 1)) S) :
    RG n (tFor (iTup K tl) g t) ρ c (k + M * k1) (fun ρ' c' => ∃ ds, A ds ∧ Iv ds ds.length ρ' c') S := fun O p cnt H0 D σ H hn ⟨P0, al0, s0⟩ hcc q r =>
  h P0 p cnt σ H hn s0.sb (by omega) _ fun v x H1 hx e1 b1 d1 => by
    obtain ⟨ds, rfl, hAd⟩ := hx
    have s1 := s0.step e1 b1
    have hm := hA ds hAd
    have hMk : ds.length * k1 ≤ M * k1 := Nat.mul_le_mul_right _ hm
    exact rg_for_at (k1 := k1) (S := S) (itAt_tup (K := K) (σ := σ) d1) hn s1 (Iv ds) (h0 ds hAd) hv0 (by omega) (hs ds hAd) (fun ρ' c' σ' H' hI hl ⟨P, al, s⟩ => q ρ' c' σ' H' ⟨ds, hAd, hI⟩ hl ⟨P, al, s.bmono (by omega)⟩) fun v d H' hd e b dd => r v d H' hd e (b.mono (by omega)) dd
end
section
variable {K : PySem.W.Frag} {ρ : Rho}
/-- x, y, z = .. -/
theorem rn_par3 {O : List Addr} {n i j l : Nat} {ρ : Rho} {x y z : PyData} {tr : TA} (h : EvDA O n tr ρ [x, y, z]) (hi : i < n) (hj : j < n) (hl : l < n) : RunN O n (tPar3 i j l tr) ρ (((ρ.set i (some x)).set j (some y)).set l (some z)) := fun D σ H hn s k =>
  h σ H hn s _ fun vs H1 e1 d1 => by
    cases d1 with
    | cons a1 k1 =>
      cases k1 with
      | cons a2 k2 =>
        cases k2 with
        | cons a3 k3 =>
          cases k3
          exact ⟨_, _, _, rfl, k _ H1 (by rw [List.length_set, List.length_set, List.length_set]; exact hn) e1 ((((s.ex e1).set a1 (by omega)).set a2 (by rw [List.length_set]; omega)).set a3 (by rw [List.length_set, List.length_set]; omega))⟩
theorem sgx_start {O : List Addr} {p : Addr} {cnt : Nat} {H : Hp} {σ : L2.St} (s : SB O p cnt H σ ρ) : SGX O p cnt H Own.none H σ ρ :=
  ⟨O, fun _ => 0, ⟨fun _ a => a, fun _ a => .inl a, s.sd, fun _ _ z => (by cases z), fun _ _ _ _ z => (by cases z), ex_sub H [p]⟩, s.bx, s.box, s.mem, s.fr⟩
/-- as a def's whole suite -/
theorem vw_none {ρ : Rho} {k : Nat} : vwC Own.none k ρ = ρ := by
  induction ρ generalizing k with
  | nil => rfl
  | cons x r ih =>
    show x :: vwC Own.none (k + 1) r = x :: r
    rw [ih]
theorem put_del {m : Nat} {ds : List PyData} : (Own.none.put m ds).del m = Own.none := by
  funext k
  show (if k = m then none else if k = m then some ds else none) = none
  split <;> simp [*]
theorem put_put {c : Own} {m : Nat} {ds es : List PyData} : (c.put m ds).put m es = c.put m es := by
  funext k
  show (if k = m then some es else if k = m then some ds else c k) = if k = m then some es else c k
  split <;> simp [*]
theorem put_ne {m a : Nat} {ds fs : List PyData} (h : Own.none.put m ds a = some fs) : a = m := by
  by_cases c : a = m
  · exact c
  · simp [Own.put, c] at h
theorem rbr_rg (h : RG n t ρ Own.none k (fun _ _ => False) S) : RunBR n t ρ k S := fun O p c D σ H hn s hc q =>
  h O p c H D σ H hn (sgx_start s) hc (fun _ _ _ _ z _ _ => z.elim) q
end
section
variable {P : Program} {w : World} {K : PySem.W.Frag} {mg : Str → Option Value} {base : Heap}
/-- a case that comes out right, of a box that goes on -/
def spRightN (kf : Nat) : Sp := fun vs H Q _ => ∃ (p : Addr) (c : Nat), vs = [.ref p] ∧ Box p c H ∧ c + kf ≤ 1000000 ∧ ∀ H', ExO [p] H H' → Box p (c + kf) H' → Q (.bl true) H'
theorem rightN_ok {kf : Nat} {x qual : Str} {st : Stmt} {f : Addr} {fd : FuncData} {N ps : List Str} {k : Nat} (F : Fun K x qual st f fd) (S : FnScope N ps (defScope st)) (hl : ps.length = 1) (hp : 1 ≤ N.length)
    (body : ∀ (cdv : Value) (A : Around) (outer : List Env) (s : Shared) (H : Hp) (E : XK), Room k (A.deeper (envOfC qual (defScope st) s.heap.objs.size f cdv)) →
      ∃ t, PSs (cxOf CX0 P w K mg base N qual (defScope st) f cdv A outer s H E).nox (defBody st) t ∧ RunBR N.length t (argB N []) kf (fun d => d = .bool true)) : FnOk P w K mg base CX0 (k + 1) f fd ps (spRightN kf) := by
  refine F.ok S (fun vs H Q E h => ?_) (fun cdv A outer s H vs Q E hr h => ?_)
  · obtain ⟨p, c, rfl, _⟩ := h
    exact hl.symm
  · obtain ⟨t, ht, hb⟩ := body cdv A outer s H E hr
    obtain ⟨p, c, rfl, bx, hc, q⟩ := h
    have e1 : L2.start N [V.ref p] = some (.ref p) :: List.replicate (N.length - 1) none := rfl
    refine ⟨t, ht, hb [p] p c _ (L2.start N [.ref p]) H (start_len (by show 1 ≤ _; exact hp)) ⟨⟨bx.own, fun i d e => ?_⟩, by rw [e1]; rfl, bx, List.mem_singleton.mpr rfl, rfl⟩ (by omega) fun v d H' hd e' b' dd => ?_⟩
    · cases i with
      | zero => cases e
      | succ i =>
        have e : (List.replicate (N.length - 1) (none : Option PyData))[i]? = some (some d) := e
        rw [List.getElem?_replicate] at e
        split at e <;> cases e
    · subst hd
      cases dd
      exact q H' e' b'
end
end DL
/-! min(..) of a list of pairs of whole numbers: the first of the least -/
namespace L2
open PySem PySem.Spec PyProof.Rows PySem.W
def ltII (p q : Int × Int) : Bool := if p.1 = q.1 then decide (p.2 < q.2) else decide (p.1 < q.1)
def pII (p : Int × Int) : PyData := .tuple [.int p.1, .int p.2]
/-- the first of the least -/
def minII (x : Int × Int) (xs : List (Int × Int)) : Int × Int := xs.foldl (fun a y => if ltII y a = true then y else a) x
theorem minII_ok : ∀ (xs : List (Int × Int)) (x : Int × Int), minII x xs ∈ x :: xs ∧ ∀ y, y ∈ x :: xs → ltII y (minII x xs) = false
  | [], x => ⟨List.mem_cons_self .., fun y hy => by
    rw [List.mem_singleton.mp hy]
    unfold ltII
    show (if x.1 = x.1 then decide (x.2 < x.2) else _) = false
    rw [if_pos rfl]
    exact decide_eq_false (Int.lt_irrefl _)⟩
  | z :: xs, x => by
    have e : minII x (z :: xs) = minII (if ltII z x = true then z else x) xs := rfl
    obtain ⟨h1, h2⟩ := minII_ok xs (if ltII z x = true then z else x)
    rw [e]
    have lts : ∀ a b c : Int × Int, ltII a b = false → ltII b c = false → ltII a c = false := fun a b c => by
      unfold ltII
      repeat' split
      all_goals simp only [decide_eq_false_iff_not]
      all_goals omega
    have q := h2 _ (List.mem_cons_self ..)
    refine ⟨?_, fun y hy => ?_⟩
    · rcases List.mem_cons.mp h1 with h | h
      · rw [h]
        split
        · exact List.mem_cons_of_mem _ (List.mem_cons_self ..)
        · exact List.mem_cons_self ..
      · exact List.mem_cons_of_mem _ (List.mem_cons_of_mem _ h)
    · rcases List.mem_cons.mp hy with rfl | hy
      · by_cases c : ltII z y = true
        · rw [if_pos c] at q ⊢
          refine lts _ z _ ?_ q
          unfold ltII at c ⊢
          split at c
          · rename_i e1
            rw [if_pos e1.symm]
            have := of_decide_eq_true c
            exact decide_eq_false (by omega)
          · rename_i e1
            rw [if_neg (fun e2 => e1 e2.symm)]
            have := of_decide_eq_true c
            exact decide_eq_false (by omega)
        · rw [if_neg c] at q ⊢
          exact q
      · rcases List.mem_cons.mp hy with rfl | hy
        · by_cases c : ltII y x = true
          · rw [if_pos c] at q ⊢
            exact q
          · rw [if_neg c] at q ⊢
            exact lts _ x _ (Bool.eq_false_iff.mpr c) q
        · exact h2 y (List.mem_cons_of_mem _ hy)
def rMinP (K : PySem.W.Frag) : List V → Hp → VK → Prop := fun vs H Q => ∃ (a : Addr) (xs : List V) (p : Int × Int) (ps : List (Int × Int)), vs = [V.ref a] ∧ SqL K H a xs ∧ DpAll K H xs ((p :: ps).map pII) ∧ ∀ (i : Nat) (x : V), xs[i]? = some x → (p :: ps)[i]? = some (minII p ps) → Q x H
section
variable {X : Cx}
theorem toD_map (l : List (Int × Int)) : l.map Datum.toD = l.map pII := rfl
theorem cr_minP (hc : X.calm = true) (hu : X.A.units + 64 < cLine) : CallR X (.builtin "min") (rMinP X.K) := by
  intro pins s σ H vs us Q I r h
  obtain ⟨a, xs, p, ps, rfl, hs, hd, q⟩ := h
  obtain ⟨its, rv, hl, _⟩ := I.list hs
  rw [Vals.ref1 r]
  obtain ⟨as, hr⟩ := Dp.readsAll I ((p :: ps).map pII) xs its hd rv
  have HA : HoldAll s.heap its.toArray.toList (p :: ps) := ⟨as, hr⟩
  refine min_list_datum (α := Int × Int) (I.ok.hd hc) hl.isList HA (by show X.A.units + 1 + 1 < cLine; omega) fun i v h' tk hi hv hk => ?_
  have hi : its[i]? = some v := by simpa using hi
  have li : i < its.length := (List.getElem?_eq_some_iff.mp hi).1
  have lx : i < xs.length := by
    have := rv.length
    omega
  have hx : xs[i]? = some xs[i] := List.getElem?_eq_getElem lx
  obtain ⟨u, hu2, ru⟩ := rv.get hx
  rw [hi] at hu2
  cases hu2
  refine ⟨xs[i], H, I.kept hk, ru, q i _ hx ?_⟩
  obtain ⟨y, hy, hv2⟩ := HoldAll.at HA (i := i) (v := v) (by simpa using hi)
  rw [hy]
  obtain ⟨as1, r1⟩ := Holds.keeps hk hv2
  obtain ⟨as2, r2⟩ := hv
  have e := (r1.unique _ _ r2).1
  have em : PySem.W.minOf p ps = minII p ps := rfl
  rw [em] at e
  have e : pII y = pII (minII p ps) := e
  unfold pII at e
  have e1 := PyData.tuple.inj e
  obtain ⟨e2, e3⟩ := List.cons.inj e1
  obtain ⟨e4, _⟩ := List.cons.inj e3
  rw [show y = minII p ps from Prod.ext (PyData.int.inj e2) (PyData.int.inj e4)]
end
end L2
namespace DL
open PySem L2 Evl PyProof.Rows TL RZ
section
variable {K : PySem.W.Frag} {X : Cx} {O : List Addr}
theorem kMinP (hK : X.K = K) (hc : X.calm = true) (hu : X.A.units + 64 < cLine) : CallR X (.builtin "min") (rMinP K) := by subst hK; exact cr_minP hc hu
theorem PIIlay : ∀ ps : List (Int × Int), PyData.canLayAll0 (ps.map pII) = true
  | [] => rfl
  | p :: ps => by
    show (_ && _) = true
    rw [PIIlay ps]
    rfl
theorem rc_minP {p : Int × Int} {ps : List (Int × Int)} : RDC O (rMinP K) [.list ((p :: ps).map pII)] (pII (minII p ps)) := fun H vs _ h Q q => by
  cases h with
  | cons h k =>
    cases k
    cases h with
    | lst a k =>
      refine ⟨_, _, p, ps, rfl, sq_of (sub_of a).1, k.up.dp (PIIlay (p :: ps)), fun i x hx hm => ?_⟩
      obtain ⟨d, h1, h2⟩ := k.getV hx
      rw [List.getElem?_map, hm] at h1
      cases h1
      exact q _ H (Ex.refl H) h2
end
end DL
/-! DEZ: enumerate(zip(xs, ys)) over two lists. Within enumerate nobody lets go of zip's own pair: from the second turn on zip keeps the address of the pair that it gave out, dead or alive. -/
namespace DL
open PySem PySem.Spec PyProof.Rows PySem.Calls
/-- a zip with any hand -/
abbrev ZipH (h : Heap) (z TI TO : Addr) (hand : Value) (f : Bool) : Prop := h.get? z = some { cls := .type "zip", dict := none, data := .fields #[hand, .bool f, .bool false, .ref TI, .ref TO], slots := #[] }
section
variable {prog : Program} {w : World} {A : Around} {E : Value → Shared → Prop} {s : Shared} {z TI TO i1 i2 l1 l2 T : Addr} {hand x y a1 a2 : Value} {f : Bool} {k : Nat} {xs ys : Array Value}
theorem free_none {Q : Bool → Shared → Prop} (hz : ZipH s.heap z TI TO .none f) (q : Q true s) : wpAny (model prog w) A (Builtin.SmallTypes.ownedTupleIsFree (.ref z)) Q E s := by
  unfold Builtin.SmallTypes.ownedTupleIsFree
  exact wpAny_bind (wpAny_field hz rfl (x := .none) rfl (wpAny_pure q))
theorem dead_none {a : Addr} {Q : Option Obj → Shared → Prop} (ho : s.heap.get? a = none) (h : Q none s) : wpAny (model prog w) A (loadIfAlive a) Q E s := by
  have h' : Q (s.heap.get? a) s := by rw [ho]; exact h
  exact fun _ _ _ => h'
theorem free_dead {Q : Bool → Shared → Prop} (hz : ZipH s.heap z TI TO (rawInt T) f) (hT : s.heap.get? T = none) (q : Q true s) : wpAny (model prog w) A (Builtin.SmallTypes.ownedTupleIsFree (.ref z)) Q E s := by
  unfold Builtin.SmallTypes.ownedTupleIsFree
  refine wpAny_bind (wpAny_field hz rfl (x := rawInt T) rfl ?_)
  show wpAny _ _ (loadIfAlive ((T : Int).toNat) >>= _) _ _ _
  rw [Int.toNat_natCast]
  refine wpAny_bind (dead_none hT ?_)
  simp only [Option.isNone_none, if_true]
  exact wpAny_pure q
theorem own_item {Q : Value → Shared → Prop} (D : ZipApart z TI TO i1 i2 l1 l2) (hz : ZipH s.heap z TI TO hand f)
    (hfree : ∀ Q' : Bool → Shared → Prop, Q' true s → ∀ E', wpAny (model prog w) A (Builtin.SmallTypes.ownedTupleIsFree (.ref z)) Q' E' s)
    (hTI : IsPair s.heap TI (.ref i1) (.ref i2)) (hTO : IsPair s.heap TO a1 a2) (h1 : s.heap.IsListIter i1 l1 k) (h2 : s.heap.IsListIter i2 l2 k) (hl1 : s.heap.IsList l1 xs) (hl2 : s.heap.IsList l2 ys) (hx : xs[k]? = some x) (hy : ys[k]? = some y)
    (hQ : ∀ h', ZipH h' z TI TO (rawInt s.heap.objs.size) false → IsPair h' TO x y → h'.IsListIter i1 l1 (k + 1) → h'.IsListIter i2 l2 (k + 1) → IsPair h' s.heap.objs.size x y → h'.objs.size = s.heap.objs.size + 1 →
      (∀ c o, c ≠ z → c ≠ TO → c ≠ i1 → c ≠ i2 → s.heap.get? c = some o → h'.get? c = some o) → Q (.ref s.heap.objs.size) { s with heap := h' }) :
    wpAny (model prog w) A (Builtin.«zip.__next__» ⟨[.ref z], []⟩) (fun fin s' => ∃ v, fin = .done (.ret v) ∧ Q v s') E s := by
  obtain ⟨hp, g, d, tk, os⟩ := s
  show wpAny _ _ (field (.ref z) 2 >>= _) _ _ _
  refine wpAny_bind (wpAny_field hz rfl (x := .bool false) rfl ?_)
  show wpAny _ _ (field (.ref z) 3 >>= _) _ _ _
  refine wpAny_bind (wpAny_field hz rfl (x := .ref TI) rfl ?_)
  refine wpAny_bind (wpAny_seqItems hTI rfl ?_)
  show wpAny _ _ (Builtin.SmallTypes.ownedTupleIsFree (.ref z) >>= _) _ _ _
  refine wpAny_bind (hfree _ ?_ _)
  simp only [if_true]
  refine wpAny_bind (wpAny_rule ?_)
  refine wpAny_bind (wpAny_field hz rfl (x := .ref TO) rfl ?_)
  refine wpAny_bind (wpAny_setField_rec hz (by simp) fun g0 z0 s0 => ?_)
  have z0 : ZipH g0 z TI TO .ellipsis f := z0
  refine wpAny_bind ?_
  simp only [List.zipIdx_cons, List.zipIdx_nil, List.forIn_cons, List.forIn_nil]
  refine wpAny_bind (wpAny_bind (wpAny_onRaise ?_))
  show wpAny _ _ (Builtin.SmallTypes.nextOf (.ref i1) >>= _) _ _ ⟨g0, g, d, tk, os⟩
  refine wpAny_bind (wpAny_nextOf_list_item (s := ⟨g0, g, d, tk, os⟩) (h1.extBut s0.extBut D.i1z) (hl1.extBut s0.extBut D.l1z) hx fun g1 h1' s1 => wpAny_pure ?_)
  have u1 : IsPair g1 TO a1 a2 := s1.extBut _ _ D.TOi1 (s0.extBut _ _ D.TOz hTO)
  refine wpAny_bind (wpAny_seqItems (s := ⟨g1, g, d, tk, os⟩) u1 rfl ?_)
  refine wpAny_bind (updateSeq_IsTupOf2 (s := ⟨g1, g, d, tk, os⟩) u1 fun g2 t2 s2 => ?_)
  have t2 : IsPair g2 TO x a2 := t2
  refine wpAny_bind (wpAny_letGo (wpAny_pure ?_))
  refine wpAny_bind (wpAny_bind (wpAny_onRaise ?_))
  show wpAny _ _ (Builtin.SmallTypes.nextOf (.ref i2) >>= _) _ _ ⟨g2, g, d, tk, os⟩
  have h2g : g2.IsListIter i2 l2 k := ((h2.extBut s0.extBut D.i2z).extBut s1.extBut D.i12.symm).extBut s2.extBut D.TOi2.symm
  have l2g : g2.IsList l2 ys := ((hl2.extBut s0.extBut D.l2z).extBut s1.extBut D.l2i1).extBut s2.extBut D.l2TO
  refine wpAny_bind (wpAny_nextOf_list_item (s := ⟨g2, g, d, tk, os⟩) h2g l2g hy fun g3 h2' s3 => wpAny_pure ?_)
  have u3 : IsPair g3 TO x a2 := s3.extBut _ _ D.TOi2 t2
  refine wpAny_bind (wpAny_seqItems (s := ⟨g3, g, d, tk, os⟩) u3 rfl ?_)
  refine wpAny_bind (updateSeq_IsTupOf2 (s := ⟨g3, g, d, tk, os⟩) u3 fun g4 t4 s4 => ?_)
  have t4 : IsPair g4 TO x y := t4
  refine wpAny_bind (wpAny_letGo (wpAny_pure (wpAny_pure ?_)))
  refine wpAny_bind (wpAny_seqItems (s := ⟨g4, g, d, tk, os⟩) t4 rfl ?_)
  refine wpAny_bind (wpAny_newTuple ?_)
  have hsz : g4.objs.size = hp.objs.size := by rw [s4.1, s3.1, s2.1, s1.1, s0.1]
  have z4 : ZipH g4 z TI TO .ellipsis f := s4.extBut _ _ D.TOz.symm (s3.extBut _ _ D.i2z.symm (s2.extBut _ _ D.TOz.symm (s1.extBut _ _ D.i1z.symm z0)))
  have kp : ∀ c o, c ≠ z → c ≠ TO → c ≠ i1 → c ≠ i2 → hp.get? c = some o → g4.get? c = some o := fun c o c1 c2 c3 c4 e =>
    s4.extBut _ _ c2 (s3.extBut _ _ c4 (s2.extBut _ _ c2 (s1.extBut _ _ c3 (s0.extBut _ _ c1 e))))
  have h1g : g4.IsListIter i1 l1 (k + 1) := ((h1'.extBut s2.extBut D.TOi1.symm).extBut s3.extBut D.i12).extBut s4.extBut D.TOi1.symm
  have h2g' : g4.IsListIter i2 l2 (k + 1) := h2'.extBut s4.extBut D.TOi2.symm
  have zlt : z < g4.objs.size := Heap.lt_size z4
  show wpAny _ _ (Builtin.SmallTypes.ownedTupleHandOut (.ref z) (.ref g4.objs.size) >>= _) _ _ ⟨g4.push { cls := .type "tuple", data := .seq #[x, y] }, g, d, tk, os⟩
  refine wpAny_bind ?_
  unfold Builtin.SmallTypes.ownedTupleHandOut
  have z5 : ZipH (g4.push { cls := .type "tuple", data := .seq #[x, y] }) z TI TO .ellipsis f := Heap.get?_push_of_some _ z4
  refine wpAny_bind (wpAny_setField_rec z5 (by simp) fun g6 z6 s6 => ?_)
  have z6 : ZipH g6 z TI TO (rawInt g4.objs.size) f := z6
  refine wpAny_setField_rec z6 (by simp) fun g7 z7 s7 => ?_
  have z7 : ZipH g7 z TI TO (rawInt g4.objs.size) false := z7
  have up : ∀ c o, c ≠ z → g4.get? c = some o → g7.get? c = some o := fun c o c1 e => s7.extBut _ _ c1 (s6.extBut _ _ c1 (Heap.get?_push_of_some _ e))
  have t7 : IsPair g7 g4.objs.size x y := s7.extBut _ _ (Nat.ne_of_gt zlt) (s6.extBut _ _ (Nat.ne_of_gt zlt) (Heap.get?_push_size _ rfl))
  have sz7 : g7.objs.size = g4.objs.size + 1 := by rw [s7.1, s6.1, Heap.size_push]
  rw [hsz] at z7 t7 sz7
  refine wpAny_pure ⟨_, rfl, ?_⟩
  show Q (.ref g4.objs.size) ⟨g7, g, d, tk, os⟩
  rw [hsz]
  exact hQ g7 z7 (up _ _ D.TOz t4) (h1g.at fun o e => up _ o D.i1z e) (h2g'.at fun o e => up _ o D.i2z e) t7 sz7 fun c o c1 c2 c3 c4 e => up c o c1 (kp c o c1 c2 c3 c4 e)
/-- the end: the first list is out -/
theorem own_end {Q : Fin → Shared → Prop} (hh : A.handled = none) (D : ZipApart z TI TO i1 i2 l1 l2) (hz : ZipH s.heap z TI TO hand f)
    (hfree : ∀ Q' : Bool → Shared → Prop, Q' true s → ∀ E', wpAny (model prog w) A (Builtin.SmallTypes.ownedTupleIsFree (.ref z)) Q' E' s)
    (hTI : IsPair s.heap TI (.ref i1) (.ref i2)) (h1 : s.heap.IsListIter i1 l1 k) (hl1 : s.heap.IsList l1 xs) (hx : xs[k]? = none)
    (hE : ∀ h' e, (∀ c o, c ≠ z → c ≠ i1 → s.heap.get? c = some o → h'.get? c = some o) → (∃ o, h'.get? e = some o ∧ o.cls = .type "StopIteration") → E (.ref e) { s with heap := h' }) :
    wpAny (model prog w) A (Builtin.«zip.__next__» ⟨[.ref z], []⟩) Q E s := by
  obtain ⟨hp, g, d, tk, os⟩ := s
  show wpAny _ _ (field (.ref z) 2 >>= _) _ _ _
  refine wpAny_bind (wpAny_field hz rfl (x := .bool false) rfl ?_)
  show wpAny _ _ (field (.ref z) 3 >>= _) _ _ _
  refine wpAny_bind (wpAny_field hz rfl (x := .ref TI) rfl ?_)
  refine wpAny_bind (wpAny_seqItems hTI rfl ?_)
  show wpAny _ _ (Builtin.SmallTypes.ownedTupleIsFree (.ref z) >>= _) _ _ _
  refine wpAny_bind (hfree _ ?_ _)
  simp only [if_true]
  refine wpAny_bind (wpAny_rule ?_)
  refine wpAny_bind (wpAny_field hz rfl (x := .ref TO) rfl ?_)
  refine wpAny_bind (wpAny_setField_rec hz (by simp) fun g0 z0 s0 => ?_)
  have z0 : ZipH g0 z TI TO .ellipsis f := z0
  refine wpAny_bind ?_
  simp only [List.zipIdx_cons, List.zipIdx_nil, List.forIn_cons, List.forIn_nil]
  refine wpAny_bind (wpAny_bind (wpAny_onRaise ?_))
  show wpAny _ _ (Builtin.SmallTypes.nextOf (.ref i1) >>= _) _ _ ⟨g0, g, d, tk, os⟩
  refine wpAny_bind (wpAny_nextOf_list_end (s := ⟨g0, g, d, tk, os⟩) hh (h1.extBut s0.extBut D.i1z) (hl1.extBut s0.extBut D.l1z) hx fun g1 e s1 he => ?_)
  have z1 : ZipH g1 z TI TO .ellipsis f := s1 _ _ D.i1z.symm z0
  refine wpAny_setField_rec (s := ⟨g1, g, d, tk, os⟩) z1 (by simp) fun g2 z2 s2 => ?_
  refine hE g2 e (fun c o c1 c2 x => s2.extBut _ _ c1 (s1 _ _ c2 (s0.extBut _ _ c1 x))) ?_
  obtain ⟨o, ho, hc⟩ := he
  refine ⟨o, s2.extBut _ _ (fun q => ?_) ho, hc⟩
  rw [q] at ho
  have z1 : g1.get? z = some _ := z1
  rw [z1] at ho
  cases ho
  have q2 : Value.type "zip" = Value.type "StopIteration" := hc
  exact absurd (Value.type.inj q2) (by decide)
/-- zip between two turns of enumerate: no hand, or the hand of a pair, dead or alive -/
def ZipAny (h : Heap) (z TI TO : Addr) : Prop := ∃ hand f, ZipH h z TI TO hand f ∧ (hand = .none ∨ ∃ T : Addr, hand = rawInt T)
theorem nextOf_zip {Q : Value → Shared → Prop} (D : ZipApart z TI TO i1 i2 l1 l2) (hz : ZipAny s.heap z TI TO)
    (hTI : IsPair s.heap TI (.ref i1) (.ref i2)) (hTO : IsPair s.heap TO a1 a2) (h1 : s.heap.IsListIter i1 l1 k) (h2 : s.heap.IsListIter i2 l2 k) (hl1 : s.heap.IsList l1 xs) (hl2 : s.heap.IsList l2 ys) (hx : xs[k]? = some x) (hy : ys[k]? = some y)
    (hQ : ∀ h', ZipAny h' z TI TO → (∃ b1 b2, IsPair h' TO b1 b2) → h'.IsListIter i1 l1 (k + 1) → h'.IsListIter i2 l2 (k + 1) → IsPair h' s.heap.objs.size x y → h'.objs.size = s.heap.objs.size + 1 →
      (∀ c o, c ≠ z → c ≠ TO → c ≠ i1 → c ≠ i2 → s.heap.get? c = some o → h'.get? c = some o) → Q (.ref s.heap.objs.size) { s with heap := h' }) :
    wpAny (model prog w) A (Builtin.SmallTypes.nextOf (.ref z)) Q E s := by
  obtain ⟨hand, f, hz, hh⟩ := hz
  have hTy : s.TypeIs (.ref z) "zip" := ⟨_, hz, rfl⟩
  unfold Builtin.SmallTypes.nextOf
  refine wpAny_bind (wpAny_callSpecial?_slot (name := Str.ofString "__next__") hTy F.slot_zip_next
    (wpAny_call_entry F.slot_zip_next hTy F.entry_zip_next ?_ (F.args_zip_next_1 _)))
  rcases hh with rfl | ⟨T, rfl⟩
  · exact own_item D hz (fun Q' q E' => free_none hz q) hTI hTO h1 h2 hl1 hl2 hx hy fun h' q1 q2 q3 q4 q5 q6 q7 => wpAny_pure (hQ h' ⟨_, _, q1, .inr ⟨_, rfl⟩⟩ ⟨_, _, q2⟩ q3 q4 q5 q6 q7)
  · cases hT : s.heap.get? T with
    | none => exact own_item D hz (fun Q' q E' => free_dead hz hT q) hTI hTO h1 h2 hl1 hl2 hx hy fun h' q1 q2 q3 q4 q5 q6 q7 => wpAny_pure (hQ h' ⟨_, _, q1, .inr ⟨_, rfl⟩⟩ ⟨_, _, q2⟩ q3 q4 q5 q6 q7)
    | some oT => exact zip_next_item_held D hz hT hTI h1 h2 hl1 hl2 hx hy fun h' q1 q3 q4 q5 q6 q7 => wpAny_pure (hQ h' ⟨_, _, q1, .inr ⟨_, rfl⟩⟩ ⟨a1, a2, q7 _ _ D.TOz D.TOi1 D.TOi2 hTO⟩ q3 q4 q5 q6 fun c o c1 _ c3 c4 e => q7 c o c1 c3 c4 e)
theorem nextOf_zip_end {Q : Value → Shared → Prop} (hhd : A.handled = none) (D : ZipApart z TI TO i1 i2 l1 l2) (hz : ZipAny s.heap z TI TO)
    (hTI : IsPair s.heap TI (.ref i1) (.ref i2)) (h1 : s.heap.IsListIter i1 l1 k) (h2 : s.heap.IsListIter i2 l2 k) (hl1 : s.heap.IsList l1 xs) (hl2 : s.heap.IsList l2 ys) (hx : xs[k]? = none)
    (hE : ∀ h' e, (∀ c o, c ≠ z → c ≠ i1 → c ≠ i2 → s.heap.get? c = some o → h'.get? c = some o) → (∃ o, h'.get? e = some o ∧ o.cls = .type "StopIteration") → E (.ref e) { s with heap := h' }) :
    wpAny (model prog w) A (Builtin.SmallTypes.nextOf (.ref z)) Q E s := by
  obtain ⟨hand, f, hz, hh⟩ := hz
  have hTy : s.TypeIs (.ref z) "zip" := ⟨_, hz, rfl⟩
  unfold Builtin.SmallTypes.nextOf
  refine wpAny_bind (wpAny_callSpecial?_slot (name := Str.ofString "__next__") hTy F.slot_zip_next
    (wpAny_call_entry F.slot_zip_next hTy F.entry_zip_next ?_ (F.args_zip_next_1 _)))
  rcases hh with rfl | ⟨T, rfl⟩
  · exact own_end hhd D hz (fun Q' q E' => free_none hz q) hTI h1 hl1 hx fun h' e q1 q2 => hE h' e (fun c o c1 c2 _ x => q1 c o c1 c2 x) q2
  · cases hT : s.heap.get? T with
    | none => exact own_end hhd D hz (fun Q' q E' => free_dead hz hT q) hTI h1 hl1 hx fun h' e q1 q2 => hE h' e (fun c o c1 c2 _ x => q1 c o c1 c2 x) q2
    | some oT => exact zip_next_end_held hhd D hz hT hTI h1 h2 hl1 hl2 (.inl hx) fun h' e q1 q2 => hE h' e q1 q2
/-- a turn of enumerate over any iterator whose next item is known -/
theorem enum_item {e it : Addr} {n : Nat} {old v : Value} {N : Heap → Prop} {Q : Option Value → Shared → Prop} (he : IsEnum s.heap e it (n : Int) old)
    (hnx : ∀ (Q' : Value → Shared → Prop) (E' : Value → Shared → Prop), (∀ h1, N h1 → Q' v { s with heap := h1 }) → wpAny (model prog w) A.in1 (Builtin.SmallTypes.nextOf (.ref it)) Q' E' s)
    (hN : ∀ h1, N h1 → IsEnum h1 e it (n : Int) old)
    (hQ : ∀ h1 h' tk, N h1 → IsEnumOut h' e it ((n : Int) + 1) v h1.objs.size → h'.get? h1.objs.size = some { cls := .type "tuple", data := .seq #[.int n tk, v] } → h'.objs.size = h1.objs.size + 1 →
      (∀ b o, b ≠ e → h1.get? b = some o → h'.get? b = some o) → Q (some (.ref h1.objs.size)) { s with heap := h', toks := tk + 1 }) :
    wpAny (model prog w) A (pyNext (.ref e)) Q E s := by
  have hT : s.TypeIs (.ref e) "enumerate" := ⟨_, he, rfl⟩
  unfold pyNext
  refine wpAny_bind (wpAny_attempt (wpAny_callSpecial?_slot (name := Str.ofString "__next__") hT F.slot_enumerate_next
    (wpAny_call_entry F.slot_enumerate_next hT F.entry_enumerate_next ?_ (F.args_enumerate_next_1 _))))
  obtain ⟨hp, g, d, tk, os⟩ := s
  show wpAny _ _ (field (.ref e) 2 >>= _) _ _ _
  refine wpAny_bind (wpAny_field he rfl (x := .ref it) rfl ?_)
  refine wpAny_bind (hnx _ _ fun h1 n1 => ?_)
  have e1 : IsEnum h1 e it (n : Int) old := hN h1 n1
  show wpAny _ _ (field (.ref e) 3 >>= _) _ _ ⟨h1, g, d, tk, os⟩
  refine wpAny_bind (wpAny_field e1 rfl (x := rawInt n) rfl ?_)
  show wpAny _ _ (field (.ref e) 4 >>= _) _ _ ⟨h1, g, d, tk, os⟩
  refine wpAny_bind (wpAny_field e1 rfl (x := .none) rfl ?_)
  show wpAny _ _ (mkInt n >>= _) _ _ ⟨h1, g, d, tk, os⟩
  refine wpAny_bind (wpAny_mkInt ?_)
  show wpAny _ _ (setField (.ref e) 3 (rawInt ((n : Int) + 1)) >>= _) _ _ ⟨h1, g, d, tk + 1, os⟩
  refine wpAny_bind (wpAny_setField_rec e1 (by simp) fun h2 e2 s2 => ?_)
  have e2 : IsEnum h2 e it ((n : Int) + 1) old := e2
  show wpAny _ _ (setField (.ref e) 4 .none >>= _) _ _ ⟨h2, g, d, tk + 1, os⟩
  refine wpAny_bind (wpAny_setField_rec e2 (by simp) fun h3 e3 s3 => ?_)
  have e3 : IsEnum h3 e it ((n : Int) + 1) old := e3
  show wpAny _ _ (newTuple [.int n tk, v] >>= _) _ _ ⟨h3, g, d, tk + 1, os⟩
  refine wpAny_bind (wpAny_newTuple ?_)
  have e4 : IsEnum (h3.push { cls := .type "tuple", data := .seq #[.int n tk, v] }) e it ((n : Int) + 1) old := Heap.get?_push_of_some _ e3
  have sz : h3.objs.size = h1.objs.size := by rw [s3.1, s2.1]
  have el : e < h3.objs.size := Heap.lt_size e3
  show wpAny _ _ (Builtin.SmallTypes.ownedTupleIsFree (.ref e) >>= _) _ _ ⟨h3.push { cls := .type "tuple", data := .seq #[.int n tk, v] }, g, d, tk + 1, os⟩
  refine wpAny_bind ?_
  unfold Builtin.SmallTypes.ownedTupleIsFree
  refine wpAny_bind (wpAny_field e4 rfl (x := .none) rfl (wpAny_pure ?_))
  simp only [if_true]
  refine wpAny_bind (wpAny_rule ?_)
  refine wpAny_bind (wpAny_field e4 rfl (x := old) rfl ?_)
  refine wpAny_bind (wpAny_setField_rec e4 (by simp) fun h5 e5 s5 => ?_)
  have e5 : IsEnum h5 e it ((n : Int) + 1) v := e5
  show wpAny _ _ (Builtin.SmallTypes.ownedTupleHandOut (.ref e) (.ref h3.objs.size) >>= _) _ _ ⟨h5, g, d, tk + 1, os⟩
  refine wpAny_bind ?_
  unfold Builtin.SmallTypes.ownedTupleHandOut
  refine wpAny_bind (wpAny_setField_rec e5 (by simp) fun h6 e6 s6 => ?_)
  have e6 : IsEnumOut h6 e it ((n : Int) + 1) v h3.objs.size := e6
  refine wpAny_setField_rec e6 (by simp) fun h7 e7 s7 => ?_
  have e7 : IsEnumOut h7 e it ((n : Int) + 1) v h3.objs.size := e7
  have up : ∀ b o, b ≠ e → (h3.push { cls := .type "tuple", data := .seq #[.int n tk, v] }).get? b = some o → h7.get? b = some o := fun b o c q => s7.extBut b o c (s6.extBut b o c (s5.extBut b o c q))
  have t7 : h7.get? h3.objs.size = some { cls := .type "tuple", data := .seq #[.int n tk, v] } := up _ _ (Nat.ne_of_gt el) (Heap.get?_push_size _ rfl)
  have z7 : h7.objs.size = h3.objs.size + 1 := by rw [s7.1, s6.1, s5.1, Heap.size_push]
  rw [sz] at e7 t7 z7
  refine wpAny_bind (wpAny_letGo (wpAny_pure ⟨_, rfl, wpAny_pure ?_⟩))
  show Q (some (.ref h3.objs.size)) ⟨h7, g, d, tk + 1, os⟩
  rw [sz]
  exact hQ h1 h7 tk n1 e7 t7 z7 fun b o c q => up b o c (Heap.get?_push_of_some _ (s3.extBut b o c (s2.extBut b o c q)))
theorem enum_end {e it : Addr} {n : Int} {old : Value} {Q : Option Value → Shared → Prop} {N : Heap → Prop} (he : IsEnum s.heap e it n old)
    (hnx : ∀ (Q' : Value → Shared → Prop) (E' : Value → Shared → Prop), (∀ h' x, N h' → (∃ o, h'.get? x = some o ∧ o.cls = .type "StopIteration") → E' (.ref x) { s with heap := h' }) → wpAny (model prog w) A.in1 (Builtin.SmallTypes.nextOf (.ref it)) Q' E' s)
    (hQ : ∀ h', N h' → Q none { s with heap := h' }) : wpAny (model prog w) A (pyNext (.ref e)) Q E s := by
  have hT : s.TypeIs (.ref e) "enumerate" := ⟨_, he, rfl⟩
  unfold pyNext
  refine wpAny_bind (wpAny_attempt (wpAny_callSpecial?_slot (name := Str.ofString "__next__") hT F.slot_enumerate_next
    (wpAny_call_entry F.slot_enumerate_next hT F.entry_enumerate_next ?_ (F.args_enumerate_next_1 _))))
  show wpAny _ _ (field (.ref e) 2 >>= _) _ _ _
  refine wpAny_bind (wpAny_field he rfl (x := .ref it) rfl ?_)
  refine wpAny_bind (hnx _ _ fun h' x n1 hx => ?_)
  obtain ⟨o, ho, hc⟩ := hx
  refine wpAny_bind (wpAny_isInstance (T := "StopIteration") (b := true) ⟨o, ho, hc⟩ isSubtype_stop ?_)
  exact wpAny_pure (hQ _ n1)
/-- enumerate(zip): its only new cell -/
theorem meets_enumZ {z : Addr} : Meets (Builtin.«enumerate.__new__» ⟨[.type "enumerate", .ref z], []⟩) (fun _ R s => (∃ TI TO hand, IsZip s.heap z TI TO hand) ∧
      R (.ok (.ret (.ref s.heap.objs.size))) { s with heap := s.heap.push (enumObj z 0) }) :=
  .of_wp fun prog w A R s h => by
    obtain ⟨hp, g, d, tk, os⟩ := s
    obtain ⟨⟨TI, TO, hand, hz⟩, h⟩ := h
    have sube := sub_enumerate
    have it1 : ∀ {A' : Around} {E : Value → Shared → Prop} {Q : Value → Shared → Prop}, Q (.ref z) ⟨hp, g, d, tk, os⟩ → wpAny (model prog w) A' (pyIter (.ref z)) Q E ⟨hp, g, d, tk, os⟩ := by
      intro A' E Q q
      exact wpAny_pyIter_zip hz q
    wp_walk using it1
    refine wpAny_stack_any fun st => wpAny_pure ?_
    split
    · rename_i c _ _ _ _ _
      cases (c == Value.type "enumerate") <;> (wp_walk using it1; exact ⟨_, rfl, h⟩)
    · wp_walk using it1
      exact ⟨_, rfl, h⟩
theorem enum_beginsZ {z : Addr} {Q : Value → Shared → Prop} (hz : ∃ TI TO hand, IsZip s.heap z TI TO hand)
    (h : ∀ h', IsEnum h' s.heap.objs.size z 0 .none → h'.objs.size = s.heap.objs.size + 1 → (∀ b o, s.heap.get? b = some o → h'.get? b = some o) → Q (.ref s.heap.objs.size) { s with heap := h' }) :
    wpAny (model prog w) A (call (.type "enumerate") [.ref z]) Q E s := by
  refine callType_new F.called_enumerate (by decide) (F.typeCall_enumerate_1 _) (F.newCall_enumerate_1 _) (fun obj => F.args_object_init_2 obj _)
    F.entry_enumerate_new meets_enumZ ⟨hz, ?_⟩
  have q := Heap.get?_push_size s.heap (o := enumObj z 0) rfl
  exact ⟨⟨_, q, rfl⟩, h _ q (Heap.size_push ..) fun b o x => Heap.get?_push_of_some _ x⟩
end
end DL
namespace DL
open PySem PySem.Spec PyProof.Rows PySem.Calls L2
/-- two lists of one length beside one another, each pair in a pair with its place -/
def IteZ (K : PySem.W.Frag) (a b : Addr) : It where
  go := fun i H => ∃ (xs ys : List V) (x y : V), SqL K H a xs ∧ SqL K H b ys ∧ xs.length = ys.length ∧ xs[i]? = some x ∧ ys[i]? = some y
  yld := fun i H v H' => ∃ T1 T2 x y, v = .ref T2 ∧ H T1 = none ∧ H T2 = none ∧ T1 ≠ T2 ∧ H' = upd (upd H T1 (.tup [x, y])) T2 (.tup [.int (i : Nat), .ref T1]) ∧ (∀ xs, SqL K H a xs → xs[i]? = some x) ∧ ∀ ys, SqL K H b ys → ys[i]? = some y
  stop := fun i H => ∃ xs ys : List V, SqL K H a xs ∧ SqL K H b ys ∧ xs.length = ys.length ∧ xs.length = i
def fpZ (N : Addr) : List Addr := [N + 5, N + 4, N + 2, N + 3, N, N + 1]
theorem fpZ_of {N c : Addr} (h : c ∈ fpZ N) : c = N + 5 ∨ c = N + 4 ∨ c = N + 2 ∨ c = N + 3 ∨ c = N ∨ c = N + 1 := by
  unfold fpZ at h
  simpa only [List.mem_cons, List.not_mem_nil, or_false] using h
theorem fpZ_no {N c : Addr} (h : c ∉ fpZ N) : c ≠ N + 5 ∧ c ≠ N + 4 ∧ c ≠ N + 2 ∧ c ≠ N + 3 ∧ c ≠ N ∧ c ≠ N + 1 := by
  unfold fpZ at h
  simpa only [List.mem_cons, List.not_mem_nil, or_false, not_or] using h
def tnZ (N a b : Addr) (i : Nat) (h : Heap) : Prop := (∃ old, IsEnum h (N + 5) (N + 4) ((i : Nat) : Int) old) ∧ ZipAny h (N + 4) (N + 2) (N + 3) ∧ IsPair h (N + 2) (.ref N) (.ref (N + 1)) ∧ (∃ x y, IsPair h (N + 3) x y) ∧ h.IsListIter N a i ∧ h.IsListIter (N + 1) b i
theorem fpZ_nat {N c : Nat} (h : c = N + 5 ∨ c = N + 4 ∨ c = N + 2 ∨ c = N + 3 ∨ c = N ∨ c = N + 1) : N ≤ c ∧ c ≤ N + 5 := by omega
theorem addr_ne {p q : Nat} (h : p ≠ q) : @Ne Addr p q := h
theorem apartZ {N a b : Addr} (ha : a < N) (hb : b < N) : ZipApart (N + 4) (N + 2) (N + 3) N (N + 1) a b := by
  have ha : @LT.lt Nat _ a N := ha
  have hb : @LT.lt Nat _ b N := hb
  constructor <;> (refine addr_ne ?_; omega)
theorem turn_enumZ {P : Program} {w : World} {K : PySem.W.Frag} {elts : List Expr} {kk : Nat} {tpos : Pos} {a b N : Addr} (ha : a < N) (hb : b < N) :
    Turn P w K (.Tuple elts kk tpos) (IteZ K a b) (fpZ N) (N + 5) (tnZ N a b) where
  mem := List.mem_cons_self
  obj := fun i h st c hc => by
    obtain ⟨⟨old, he⟩, ⟨hand, f, hz, _⟩, hI, ⟨x, y, hO⟩, ⟨o1, g1, _, d1⟩, ⟨o2, g2, _, d2⟩⟩ := st
    rcases fpZ_of hc with rfl | rfl | rfl | rfl | rfl | rfl
    · exact ⟨_, he, fun v q => nomatch q⟩
    · exact ⟨_, hz, fun v q => nomatch q⟩
    · exact ⟨_, hI, fun v q => nomatch q⟩
    · exact ⟨_, hO, fun v q => nomatch q⟩
    · exact ⟨o1, g1, fun v q => by rw [d1] at q; cases q⟩
    · exact ⟨o2, g2, fun v q => by rw [d2] at q; cases q⟩
  keep := fun i h h' st k => by
    obtain ⟨⟨old, he⟩, ⟨hand, f, hz, hh⟩, hI, ⟨x, y, hO⟩, g1, g2⟩ := st
    unfold fpZ at k
    exact ⟨⟨old, k _ (by simp) _ he⟩, ⟨hand, f, k _ (by simp) _ hz, hh⟩, k _ (by simp) _ hI, ⟨x, y, k _ (by simp) _ hO⟩, g1.at fun o q => k _ (by simp) o q, g2.at fun o q => k _ (by simp) o q⟩
  item := by
    intro X hP hw hK hc i pins s σ H E I hf st hg
    subst hP hw hK
    obtain ⟨⟨old, he⟩, hz, hI, ⟨a1, a2, hO⟩, g1, g2⟩ := st
    obtain ⟨xs, ys, x, y, hq, hq2, hle, hx, hy⟩ := hg
    obtain ⟨its, rv, p, _⟩ := I.list hq
    obtain ⟨its2, rv2, p2, _⟩ := I.list hq2
    obtain ⟨u, hu, ru⟩ := rv.get hx
    obtain ⟨u2, hu2, ru2⟩ := rv2.get hy
    have D := apartZ ha hb
    have eN : @LT.lt Nat _ (N + 5) s.heap.objs.size := Heap.lt_size he
    refine enum_item (N := fun h1 => ZipAny h1 (N + 4) (N + 2) (N + 3) ∧ (∃ b1 b2, IsPair h1 (N + 3) b1 b2) ∧ h1.IsListIter N a (i + 1) ∧ h1.IsListIter (N + 1) b (i + 1) ∧ IsPair h1 s.heap.objs.size u u2 ∧ h1.objs.size = s.heap.objs.size + 1 ∧ ∀ c o, c ≠ N + 4 → c ≠ N + 3 → c ≠ N → c ≠ N + 1 → s.heap.get? c = some o → h1.get? c = some o) he
      (fun Q' E' q => nextOf_zip D hz hI hO g1 g2 p.isList p2.isList (by simpa using hu) (by simpa using hu2) fun h' q1 q2 q3 q4 q5 q6 q7 => q h' ⟨q1, q2, q3, q4, q5, q6, q7⟩)
      (fun h1 n1 => n1.2.2.2.2.2.2 _ _ (addr_ne (by omega)) (addr_ne (by omega)) (addr_ne (by omega)) (addr_ne (by omega)) he) fun h1 h' tk n1 e7 t7 z7 k7 => ?_
    obtain ⟨⟨hand, f, q1, hh⟩, ⟨b1, b2, q2⟩, q3, q4, q5, q6, q7⟩ := n1
    refine ⟨_, rfl, wpAny_letOwnedTupleGo_enum (s := { s with heap := h', toks := tk + 1 }) e7 fun h'' he' sb => ?_⟩
    have k1 : ∀ c ob, c ∉ fpZ N → s.heap.get? c = some ob → h1.get? c = some ob := fun c ob hc q => by
      have n := fpZ_no hc
      exact q7 c ob n.2.1 n.2.2.2.1 n.2.2.2.2.1 n.2.2.2.2.2 q
    have k2 : ∀ c ob, c ≠ N + 5 → h1.get? c = some ob → h''.get? c = some ob := fun c ob hc q => (sb.2 c hc).trans (k7 c ob hc q)
    have new1 : ObjOk X.prog X.w (upd H s.heap.objs.size (.tup [x, y])) h1 s.heap.objs.size (.tup [x, y]) := ⟨by show 2 ≤ sizeLine; decide, [u, u2], .cons ru (.cons ru2 .nil), ⟨_, q5, rfl, _, rfl⟩⟩
    have I1 : L2.Inv X pins σ (upd H s.heap.objs.size (.tup [x, y])) { s with heap := h1 } := I.turnedNew (t' := s.toks) (ch := fpZ N) k1 hf (Nat.le_refl _) new1
    have lt : ∀ c, c ∈ fpZ N → @LT.lt Nat _ c s.heap.objs.size := fun c hc => by
      have q := fpZ_nat (fpZ_of hc)
      omega
    have hf1 : ∀ c ∈ fpZ N, FpOk X pins (upd H s.heap.objs.size (.tup [x, y])) c := fun c hc => ⟨by rw [upd_ne (Nat.ne_of_lt (lt c hc))]; exact (hf c hc).1, (hf c hc).2⟩
    have t8 : h''.get? h1.objs.size = some { cls := .type "tuple", data := .seq #[.int i tk, .ref s.heap.objs.size] } := (sb.2 _ (addr_ne (by omega))).trans t7
    have new2 : ObjOk X.prog X.w (upd (upd H s.heap.objs.size (.tup [x, y])) h1.objs.size (.tup [.int (i : Nat), .ref s.heap.objs.size])) h'' h1.objs.size (.tup [.int (i : Nat), .ref s.heap.objs.size]) := ⟨by show 2 ≤ sizeLine; decide, [.int i tk, .ref s.heap.objs.size], .cons ⟨tk, rfl⟩ (.cons rfl .nil), ⟨_, t8, rfl, _, rfl⟩⟩
    have I2 : L2.Inv X pins σ (upd (upd H s.heap.objs.size (.tup [x, y])) h1.objs.size (.tup [.int (i : Nat), .ref s.heap.objs.size])) { s with heap := h'', toks := tk + 1 } := I1.turnedNew (t' := tk + 1) (ch := fpZ N) (fun c ob hc q => k2 c ob (fpZ_no hc).1 q) hf1 (Nat.le_refl _) new2
    refine ⟨.ref h1.objs.size, _, I2, rfl, ⟨s.heap.objs.size, h1.objs.size, x, y, rfl, I.hok.fresh (Nat.le_refl _), I.hok.fresh (by rw [q6]; exact Nat.le_succ _), addr_ne (by omega), rfl, fun zs hzs => ?_, fun zs hzs => ?_⟩, ⟨⟨.ref s.heap.objs.size, ?_⟩, ⟨hand, f, k2 _ _ (addr_ne (by omega)) q1, hh⟩, k2 _ _ (addr_ne (by omega)) (q7 _ _ (addr_ne (by omega)) (addr_ne (by omega)) (addr_ne (by omega)) (addr_ne (by omega)) hI), ⟨b1, b2, k2 _ _ (addr_ne (by omega)) q2⟩, q3.at fun o q => k2 _ o (addr_ne (by omega)) q, q4.at fun o q => k2 _ o (addr_ne (by omega)) q⟩, fun c hc2 => ?_⟩
    · rw [I.list_inj hzs hq]
      exact hx
    · rw [I.list_inj hzs hq2]
      exact hy
    · have e1 : ((i + 1 : Nat) : Int) = (i : Int) + 1 := by omega
      rw [e1]
      exact he'
    · have l := lt c hc2
      rw [upd_ne (addr_ne (by omega)), upd_ne (addr_ne (by omega))]
      exact (hf c hc2).1
  done := by
    intro X hP hw hK hc i pins s σ H E I hf st hg
    subst hP hw hK
    obtain ⟨⟨old, he⟩, hz, hI, ⟨a1, a2, hO⟩, g1, g2⟩ := st
    obtain ⟨xs, ys, hq, hq2, hle, hn⟩ := hg
    obtain ⟨its, rv, p, _⟩ := I.list hq
    obtain ⟨its2, rv2, p2, _⟩ := I.list hq2
    have D := apartZ ha hb
    have hx : its.toArray[i]? = none := by
      have := rv.length
      simp
      omega
    refine enum_end (N := fun h' => ∀ c o, c ≠ N + 4 → c ≠ N → c ≠ N + 1 → s.heap.get? c = some o → h'.get? c = some o) he
      (fun Q' E' q => nextOf_zip_end (I.ok.hd hc) D hz hI g1 g2 p.isList p2.isList hx fun h' e q1 q2 => q h' e q1 q2) fun h' n1 => ⟨rfl, ?_⟩
    exact I.turnedL (t' := s.toks) (ch := fpZ N) (fun c ob hc2 q => by
      have n := fpZ_no hc2
      exact n1 c ob n.2.1 n.2.2.2.2.1 n.2.2.2.2.2 q) hf
  self := fun A i s Q E st h => by
    obtain ⟨⟨_, he⟩, _⟩ := st
    exact wpAny_pyIter_enum he h
def iEnumZ (K : PySem.W.Frag) (ta : TA) : TI := fun σ H R => ta σ H fun vs H1 => ∃ a b xs ys, vs = [.ref a, .ref b] ∧ SqL K H1 a xs ∧ SqL K H1 b ys ∧ xs.length = ys.length ∧ R (IteZ K a b) H1
theorem pi_enumZ {X : Cx} {e e2 : Expr} {ta : TA} {p pos p2 pos2 tpos : Pos} {elts : List Expr} {kk : Nat} (hg : Gl X "enumerate") (hm : X.mg "enumerate" = none) (hgz : Gl X "zip") (hmz : X.mg "zip" = none) (ha : PA X [e, e2] ta)
    (hs0 : starEach [.Call (.Name "zip" p2) [e, e2] [] pos2] X.env = (false, eval (.Call (.Name "zip" p2) [e, e2] [] pos2) X.env) :: starEach [] X.env := by rfl)
    (hs : starEach [e, e2] X.env = (false, eval e X.env) :: starEach [e2] X.env := by rfl) (hpl : (backTo pos2 (starEach [e2] X.env)).any (·.1) = false := by rfl) :
    PI X (.Tuple elts kk tpos) (.Call (.Name "enumerate" p) [.Call (.Name "zip" p2) [e, e2] [] pos2] [] pos) (iEnumZ X.K ta) := by
  refine ⟨fun pins s σ H R I h => Call_ (ld_blt I hg hm boot_enumerate (callWith_type1 (args_cons ?_ hs0) hs0 rfl))⟩
  refine Call_ (ld_blt I hgz hmz boot_zip (callWith_type1 (thn (ha.run pos2 pins s σ H _ I h) fun us s1 hh => ?_) hs hpl))
  obtain ⟨vs, H1, I1, r1, a, b, xs, ys, ex, hq, hq2, hle, q⟩ := hh
  subst ex
  cases r1 with
  | cons r rr =>
    cases rr with
    | cons r' rr =>
      cases rr
      cases r
      cases r'
      obtain ⟨its, rv, p1, _⟩ := I1.list hq
      obtain ⟨its2, rv2, p2', _⟩ := I1.list hq2
      have la : a < s1.heap.objs.size := by
        obtain ⟨_, g, _⟩ := p1.isList
        exact Heap.lt_size g
      have lb : b < s1.heap.objs.size := by
        obtain ⟨_, g, _⟩ := p2'.isList
        exact Heap.lt_size g
      refine zip_begins2 (begins_list a its.toArray) (begins_list b its2.toArray) p1.isList p2'.isList fun h' hz' hI hO h0 h1 hsz hk => args_nil ?_
      refine enum_beginsZ (s := { s1 with heap := h' }) ⟨_, _, _, hz'⟩ fun h2 he hs2 hk2 => ?_
      have he : IsEnum h2 h'.objs.size (s1.heap.objs.size + 4) 0 .none := he
      show wpAny _ _ (pyIter (.ref h'.objs.size)) _ _ _
      rw [hsz] at he ⊢
      refine wpAny_pyIter_enum he ?_
      have kk2 : ∀ c o, s1.heap.get? c = some o → h2.get? c = some o := fun c o x => hk2 c o (hk c o x)
      have I2 : L2.Inv X pins σ H1 { s1 with heap := h2 } := I1.kept (t' := s1.toks) kk2
      refine ⟨s1.heap.objs.size + 5, fpZ s1.heap.objs.size, _, _, H1, rfl, I2, turn_enumZ la lb, ⟨⟨.none, he⟩, ⟨.none, false, hk2 _ _ hz', .inl rfl⟩, hk2 _ _ hI, ⟨_, _, hk2 _ _ hO⟩, ⟨_, hk2 _ _ h0, rfl, rfl⟩, ⟨_, hk2 _ _ h1, rfl, rfl⟩⟩, fun c hc => ?_, q⟩
      have hle : s1.heap.objs.size ≤ c := (fpZ_nat (fpZ_of hc)).1
      exact I1.fpOk hle (I1.hok.fresh hle)
theorem kiEnumZ {X : Cx} {K : PySem.W.Frag} {e e2 : Expr} {ta : TA} {p pos p2 pos2 tpos : Pos} {elts : List Expr} {kk : Nat} (hK : X.K = K) (hg : Gl X "enumerate") (hm : X.mg "enumerate" = none) (hgz : Gl X "zip") (hmz : X.mg "zip" = none) (ha : PA X [e, e2] ta)
    (hs0 : starEach [.Call (.Name "zip" p2) [e, e2] [] pos2] X.env = (false, eval (.Call (.Name "zip" p2) [e, e2] [] pos2) X.env) :: starEach [] X.env := by rfl)
    (hs : starEach [e, e2] X.env = (false, eval e X.env) :: starEach [e2] X.env := by rfl) (hpl : (backTo pos2 (starEach [e2] X.env)).any (·.1) = false := by rfl) :
    PI X (.Tuple elts kk tpos) (.Call (.Name "enumerate" p) [.Call (.Name "zip" p2) [e, e2] [] pos2] [] pos) (iEnumZ K ta) := by
  subst hK
  exact pi_enumZ hg hm hgz hmz ha hs0 hs hpl
/-- walked: two lists of one length beside one another, with their places -/
theorem it_enumZ {O : List Addr} {n : Nat} {ρ : Rho} {ta tb : TE} {ds es : List PyData} {K : PySem.W.Frag} (h : EvD O n ta ρ (.list ds)) (h' : EvD O n tb ρ (.list es)) (hl : ds.length = es.length) : IterD O n (iEnumZ K (tCons ta (tCons tb tNil))) ρ (enumD (zipD ds es)) := fun σ H hn s R q => h σ H hn s _ fun v H1 e1 d1 => h' σ H1 hn (s.ex e1) _ fun v' H2 e2 d2 => by
  cases d1 with
  | @lst a xs _ ha k =>
    cases d2 with
    | @lst b ys _ hb k' =>
      have l0 : (zipD ds es).length = ds.length := by
        unfold zipD
        rw [List.length_zipWith, ← hl, Nat.min_self]
      have l : (enumD (zipD ds es)).length = ds.length := by
        unfold enumD
        rw [List.length_zipWith, List.length_range, Nat.min_self, l0]
      have ha2 : sub H2 O a = some (.lst xs) := (Ex.o O e2) _ _ ha
      have lx : xs.length = ys.length := by rw [k.length, k'.length, hl]
      refine ⟨a, b, xs, ys, rfl, Evl.sq_of (sub_of ha2).1, Evl.sq_of (sub_of hb).1, lx, q (IteZ K a b) H2 (fun P H3 => (sub H3 P a = some (.lst xs) ∧ DqAll (sub H3 P) xs ds) ∧ (sub H3 P b = some (.lst ys) ∧ DqAll (sub H3 P) ys es)) (fun i H v H' => ∃ T1 T2 x y, v = .ref T2 ∧ H T1 = none ∧ H T2 = none ∧ T1 ≠ T2 ∧ H' = upd (upd H T1 (.tup [x, y])) T2 (.tup [.int (i : Nat), .ref T1]) ∧ xs[i]? = some x ∧ ys[i]? = some y) (e1.trans e2) (fun P => ?_)
        ⟨⟨ha2, k.mono (Ex.o O e2)⟩, ⟨hb, k'⟩⟩ (fun P P' H3 H4 g e => ⟨⟨e _ _ g.1.1, g.1.2.mono e⟩, ⟨e _ _ g.2.1, g.2.2.mono e⟩⟩) ?_⟩
      · rw [l, ← k.length]
        refine ⟨fun i H3 hi g => ?_, fun H3 g => ⟨xs, ys, Evl.sq_of (sub_of g.1.1).1, Evl.sq_of (sub_of g.2.1).1, lx, rfl⟩, fun i H3 v H4 hi g y => ?_⟩
        · exact ⟨xs, ys, xs[i], ys[i]'(by omega), Evl.sq_of (sub_of g.1.1).1, Evl.sq_of (sub_of g.2.1).1, lx, List.getElem?_eq_getElem hi, List.getElem?_eq_getElem (by omega)⟩
        · obtain ⟨T1, T2, x, z, h1, h2, h3, h4, h5, h6, h7⟩ := y
          exact ⟨T1, T2, x, z, h1, h2, h3, h4, h5, h6 xs (Evl.sq_of (sub_of g.1.1).1), h7 ys (Evl.sq_of (sub_of g.2.1).1)⟩
      · rintro P i H3 x H4 hi ho ⟨⟨g1, g2⟩, g3, g4⟩ ⟨T1, T2, x1, x2, rfl, hT1, hT2, hne, hH, q1, q2⟩
        obtain ⟨d, h1, h2⟩ := g2.getV q1
        obtain ⟨d', h1', h2'⟩ := g4.getV q2
        obtain ⟨a1, a2⟩ := pair_new ho hT1 rfl h2 h2'
        obtain ⟨b1, b2⟩ := pair_new (fun c hc z => ho c hc (by
          by_cases cT : c = T1
          · rw [cT]; exact hT1
          · rw [upd_ne cT] at z; exact z)) (show upd H3 T1 (.tup [x1, x2]) T2 = none by rw [upd_ne hne.symm]; exact hT2) hH (.int (i : Int)) a2
        refine ⟨a1.trans b1, _, ?_, b2⟩
        have hz : (zipD ds es)[i]? = some (.tuple [d, d']) := by
          unfold zipD
          rw [List.getElem?_zipWith, h1, h1']
        unfold enumD
        rw [List.getElem?_zipWith, List.getElem?_range (by rw [l0]; rw [l] at hi; exact hi), hz]
end DL
/-! DH: slices and items of what is a list or a tuple. -/
namespace DL
open PySem L2 Evl PyProof.Rows TL RZ
def rSlS (K : PySem.W.Frag) : V → Option Int → Option Int → Hp → VK → Prop := fun x lo hi H Q => rSlL K x lo hi H Q ∨ rSlA K x lo hi H Q
theorem kSlS {X : Cx} {K : PySem.W.Frag} (hK : X.K = K) : SlR X (rSlS K) := (kSlL hK).or (kSlA hK)
theorem kIxS {X : Cx} {K : PySem.W.Frag} (hK : X.K = K) : IxR X (fun x y H Q => rIxL K x y H Q ∨ rIxT K x y H Q) := (kIxL hK).or (kIxT hK)
def likeD : PyData → List PyData → PyData
  | .list _, ys => .list ys
  | _, ys => .tuple ys
theorem like_seq {x : PyData} {ds ys : List PyData} (h : SeqD x ds) : SeqD (likeD x ys) ys := by
  cases h
  · exact .lst _
  · exact .tup _
section
variable {O : List Addr} {n : Nat} {ρ : Rho} {te : TE} {tl th : TO} {lo hi : Option Int} {x d : PyData} {ds : List PyData} {K : PySem.W.Frag}
theorem ed_slQ (hs : SeqD x ds) (h : EvD O n te ρ x) (h1 : EvDO O n tl ρ lo) (h2 : EvDO O n th ρ hi) : EvD O n (tSl (rSlS K) te tl th) ρ (likeD x (DL.cutD ds lo hi)) := by
  cases hs with
  | lst =>
    have q := ed_slL (K := K) h h1 h2
    exact fun σ H hn s Q k => h σ H hn s _ fun v H1 e1 d1 => h1 σ H1 hn (s.ex e1) _ fun H2 e2 => h2 σ H2 hn ((s.ex e1).ex e2) _ fun H3 e3 => by
      have d3 := d1.mono (Ex.o O (e2.trans e3))
      cases d3 with
      | lst a k2 => exact .inl ⟨_, _, rfl, sq_of (sub_of a).1, fun p hp => k _ _ (((e1.trans e2).trans e3).trans (Ex.new hp)) (.lst (sub_mk upd_same (not_own (own_ex ((e1.trans e2).trans e3) s.own) hp)) ((k2.cut lo hi).mono (Ex.o O (Ex.new hp))))⟩
  | tup =>
    exact fun σ H hn s Q k => h σ H hn s _ fun v H1 e1 d1 => h1 σ H1 hn (s.ex e1) _ fun H2 e2 => h2 σ H2 hn ((s.ex e1).ex e2) _ fun H3 e3 => by
      have d3 := d1.mono (Ex.o O (e2.trans e3))
      have own3 := own_ex ((e1.trans e2).trans e3) s.own
      cases d3 with
      | tup a k2 =>
        refine .inr ⟨_, _, rfl, st_of (sub_of a).1, fun hw => ?_, fun _ p2 hp => ?_⟩
        · rw [k2.length] at hw
          have e : likeD (.tuple ds) (DL.cutD ds lo hi) = .tuple ds := by
            show PyData.tuple _ = _
            rw [cut_all hw]
          refine k _ H3 ((e1.trans e2).trans e3) ?_
          rw [e]
          exact .tup a k2
        · exact k _ _ (((e1.trans e2).trans e3).trans (Evl.Ex.new hp)) (.tup (sub_mk upd_same (not_own own3 hp)) ((k2.cut lo hi).mono (Ex.o O (Evl.Ex.new hp))))
theorem rd_ixS {i : Nat} (hs : SeqD x ds) (h : ds[i]? = some d) : RD O (fun x y H Q => rIxL K x y H Q ∨ rIxT K x y H Q) x (.int (i : Int)) d := fun H v w ho h1 h2 Q q => by
  cases hs with
  | lst => exact .inl (rd_ixL (K := K) h H v w ho h1 h2 Q q)
  | tup => exact .inr (rd_ixT (K := K) h H v w ho h1 h2 Q q)
end
section
variable {n k : Nat} {ρ : Rho} {te : TE} {S : PyData → Prop} {E : XK}
/-- one of the goods, a list or a tuple of anything -/
def spOfS : Sp := fun vs H Q _ => ∃ (O : List Addr) (p : Addr) (c : Nat) (x : V) (y : PyData) (ds : List PyData), vs = [.ref p, x] ∧ p ∈ O ∧ (∀ a, a ∈ O → H a ≠ none) ∧ Box p c H ∧ c ≤ 1000000 ∧ SeqD y ds ∧ Dq (sub H O) x y ∧ 0 < ds.length ∧ ds.length ≤ 1000 ∧ ∀ d v H', d ∈ ds → Dq (sub H' O) v d → ExO [p] H H' → Box p (c + 1) H' → Q v H'
theorem eb_ofS (h : EvB n te ρ k (fun d => ∃ ds, SeqD d ds ∧ 0 < ds.length ∧ ds.length ≤ 1000 ∧ ∀ e, e ∈ ds → S e)) : EvB n (tCall spOfS [] E (tCons (tVar 0) (tCons te tNil))) ρ (k + 1) S := fun O p c σ H hn s hc Q q => by
  refine ⟨_, s.bx, h O p c σ H hn s (by omega) _ fun v d H1 hd e1 b1 d1 => ?_⟩
  obtain ⟨ds, hs, l0, l1, hS⟩ := hd
  refine ⟨O, p, c + k, v, d, ds, rfl, s.mem, own_o e1 b1 s.sd.own, b1, by omega, hs, d1, l0, l1, fun d w H2 hd dw e2 b2 => ?_⟩
  exact q w d H2 (hS d hd) (e1.trans e2) (by rw [← Nat.add_assoc]; exact b2) dw
end
section
variable {O P : List Addr} {H0 H : Hp} {c : Own} {σ : L2.St} {ρ : Rho} {al : Nat → Addr}
theorem SDM.freeze {m : Nat} {ds : List PyData} (s : SDM O H0 c H σ ρ P al) (hm : c m = some ds) : SDM O H0 (c.del m) H σ (ρ.set m (some (.list ds))) (P.filter fun a => decide (a ≠ al m)) al := by
  obtain ⟨m1, ⟨xs, hx, dx⟩, m3, m4, m5, m6⟩ := s.at_ m ds hm
  have fl : ∀ a, a ∈ (P.filter fun a => decide (a ≠ al m)) → a ∈ P ∧ a ≠ al m := fun a ha => by
    have q := List.mem_filter.mp ha
    exact ⟨q.1, of_decide_eq_true q.2⟩
  have fm : ∀ a, a ∈ P → a ≠ al m → a ∈ (P.filter fun a => decide (a ≠ al m)) := fun a ha hn => List.mem_filter.mpr ⟨ha, decide_eq_true hn⟩
  have le := sub_less (H := H) (P := P) (P' := P.filter fun a => decide (a ≠ al m)) fun a ha => (fl a ha).1
  have ck : ∀ k fs, (c.del m) k = some fs → k ≠ m ∧ c k = some fs := fun k fs hk => by
    by_cases c2 : k = m
    · simp [Own.del, c2] at hk
    · exact ⟨c2, by simpa [Own.del, c2] using hk⟩
  refine ⟨fun a ha => fm a (s.less a ha) fun z => m5 (z ▸ ha), fun a ha => ?_, ⟨fun a ha => s.sd.own a (fl a ha).1, fun i d hd => ?_⟩, fun k fs hk => ?_, fun k k' fs fs' hk hk' he => s.inj k k' fs fs' (ck k fs hk).2 (ck k' fs' hk').2 he, s.ex⟩
  · obtain ⟨a1, a2⟩ := fl a ha
    rcases s.only a a1 with q | ⟨k, fs, h1, rfl⟩
    · exact .inl q
    · refine .inr ⟨k, fs, ?_, rfl⟩
      have : k ≠ m := fun z => a2 (by rw [z])
      simp [Own.del, this, h1]
  · by_cases c2 : m = i
    · subst c2
      have hb : m < ρ.length := (List.getElem?_eq_some_iff.mp m3).1
      rw [List.getElem?_set_self hb] at hd
      cases hd
      exact ⟨_, m1, .lst (sub_mk hx fun z => (fl _ z).2 rfl) (dx.mono le)⟩
    · rw [List.getElem?_set_ne c2] at hd
      obtain ⟨v, h1, h2⟩ := s.sd.at' i d hd
      exact ⟨v, h1, h2.mono le⟩
  · obtain ⟨c2, hk⟩ := ck k fs hk
    obtain ⟨h1, ⟨ys, h2, h3⟩, h4, h5, h6, h7⟩ := s.at_ k fs hk
    exact ⟨h1, ⟨ys, h2, h3.mono le⟩, by rw [List.getElem?_set_ne (Ne.symm c2)]; exact h4, fm _ h5 fun z => c2 (s.inj k m fs ds hk hm z), h6, h7⟩
theorem rm_freezeR {n m : Nat} {t : TS} {d : PyData} {ds : List PyData} (hc : c m = some ds) (h : RunMR O n t (ρ.set m (some (.list ds))) (c.del m) d) : RunMR O n t ρ c d := fun H0 D σ H hn ⟨P, al, s⟩ k =>
  h H0 D σ H hn ⟨_, al, s.freeze hc⟩ k
theorem rm_freeze {n m : Nat} {t : TS} {ρ' : Rho} {c' : Own} {ds : List PyData} (hc : c m = some ds) (h : RunM O n t (ρ.set m (some (.list ds))) (c.del m) ρ' c') : RunM O n t ρ c ρ' c' := fun H0 D σ H hn ⟨P, al, s⟩ k =>
  h H0 D σ H hn ⟨_, al, s.freeze hc⟩ k
theorem rm_c {n : Nat} {t : TS} {d : PyData} {c' : Own} {ρ' : Rho} (h : RunMR O n t ρ c d) (e : c = c') (e2 : ρ = ρ') : RunMR O n t ρ' c' d := e ▸ e2 ▸ h
end
section
variable {O : List Addr} {n : Nat} {ρ ρ' : Rho} {c : Own} {te : TE} {ds es : List PyData} {g : TG} {vs : List Nat} {d : PyData}
theorem ef_is (h : EvF O n te ρ ds) (e : ds = es) : EvF O n te ρ es := e ▸ h
/-- several names at once -/
theorem rm_asgT (h : ∀ P, EvD P n te ρ d) (hg : ∀ P, TgD P n vs g ρ d ρ') (hv : ∀ i, i ∈ vs → c i = none) (hr : ∀ i ds, c i = some ds → ρ'[i]? = ρ[i]?) : RunM O n (tAsg te g) ρ c ρ' c := fun H0 D σ H hn ⟨P, al, s⟩ k =>
  h P σ H hn s.sd _ fun v H1 e1 d1 => by
    have s1 := s.step e1
    refine hg P σ H1 v hn s1.sd d1 _ fun σ' hl hc' s' => k σ' H1 hl ⟨P, al, s1.less, s1.only, s', fun a fs ha => ?_, s1.inj, s1.ex⟩
    obtain ⟨q1, q2, q3, q4⟩ := s1.at_ a fs ha
    have na : a ∉ vs := fun z => by
      rw [hv a z] at ha
      cases ha
    exact ⟨by rw [hc' a na]; exact q1, q2, by rw [hr a fs ha]; exact q3, q4⟩
end
end DL
/-! DPO: own lists that are changed by place: xs[i] = e, xs[i], xs[j] = .., xs.pop(i), amid draws, too. -/
namespace DL
open PySem L2 Evl PyProof.Rows TL RZ
theorem sIdx_nat {j n : Nat} (h : j < n) : seqIndex? (j : Int) n = some j := by
  unfold seqIndex?
  have h1 : ¬ ((j : Int) < 0) := by omega
  simp only [h1, if_false]
  have h2 : (decide (0 ≤ (j : Int)) && decide ((j : Int) < (n : Int))) = true := by
    rw [Bool.and_eq_true]
    exact ⟨decide_eq_true (by omega), decide_eq_true (by omega)⟩
  rw [if_pos h2, Int.toNat_natCast]
theorem DqAll.eraseAt {H : Hp} : ∀ {ws : List V} {es : List PyData}, DqAll H ws es → ∀ l : Nat, DqAll H (ws.eraseIdx l) (es.eraseIdx l)
  | _, _, .nil, _ => .nil
  | _, _, .cons _ r, 0 => r
  | _, _, .cons a r, l + 1 => .cons a (r.eraseAt l)
section
variable {O : List Addr} {n m i j k k1 k2 : Nat} {ρ ρ' : Rho} {c c' : Own} {ds es : List PyData} {d x y : PyData} {te ti tj : TE} {t u : TS} {K : PySem.W.Frag} {S S1 : PyData → Prop} {T : Rho → Own → Prop}
/-- xs[i] = e, told of amid own lists alone -/
theorem rm_set (hc : c m = some ds) (h : EvD O n te (vwC c 0 ρ) x) (fx : isFlat x = true) (hi : ∀ P, EvD P n ti ρ (.int (i : Int))) (li : i < ds.length) : RunM O n (tAsg te (gSub (tVar m) ti rSetL)) ρ c ρ (c.put m (ds.set i x)) := fun H0 D σ H hn ⟨P, al, s⟩ k =>
  h σ H hn s.view _ fun v H1 e1 d1 => by
    have s1 := s.step e1
    refine ⟨_, (s1.at_ m ds hc).1, hi P σ H1 hn s1.sd _ fun w H2 e2 d2 => ?_⟩
    cases d2
    have s2 := s1.step e2
    obtain ⟨_, ⟨ys, hy, dy⟩, _⟩ := s2.at_ m ds hc
    exact ⟨al m, ys, (i : Int), i, rfl, rfl, hy, ixN_nat (by rw [dy.length]; exact li), k σ _ hn ⟨P, al, s2.other hc (dy.setAt (flat_dq d1 fx) i)⟩⟩
/-- xs[i], xs[j] = x, y -/
theorem rm_swap (hc : c m = some ds) (h : EvD O n te (vwC c 0 ρ) (.tuple [x, y])) (fx : isFlat x = true) (fy : isFlat y = true) (hi : ∀ P, EvD P n ti ρ (.int (i : Int))) (hj : ∀ P, EvD P n tj ρ (.int (j : Int))) (li : i < ds.length) (lj : j < ds.length) :
    RunM O n (tAsg te (gTup K 2 (gCons (gSub (tVar m) ti rSetL) (gCons (gSub (tVar m) tj rSetL) gNil)))) ρ c ρ (c.put m ((ds.set i x).set j y)) := fun H0 D σ H hn ⟨P, al, s⟩ k =>
  h σ H hn s.view _ fun v H1 e1 d1 => by
    have s1 := s.step e1
    cases d1 with
    | tup a kk =>
      cases kk with
      | cons a1 r1 =>
        cases r1 with
        | cons a2 r2 =>
          cases r2
          refine ⟨_, _, rfl, st_of (sub_of a).1, rfl, _, _, rfl, _, (s1.at_ m ds hc).1, hi P σ H1 hn s1.sd _ fun w H2 e2 d2 => ?_⟩
          cases d2
          have s2 := s1.step e2
          obtain ⟨_, ⟨ys, hy, dy⟩, _⟩ := s2.at_ m ds hc
          refine ⟨al m, ys, (i : Int), i, rfl, rfl, hy, ixN_nat (by rw [dy.length]; exact li), ?_⟩
          have s3 := s2.other hc (dy.setAt (flat_dq a1 fx) i)
          have hc3 : (c.put m (ds.set i x)) m = some (ds.set i x) := if_pos rfl
          refine ⟨_, _, rfl, _, (s3.at_ m _ hc3).1, hj P σ _ hn s3.sd _ fun w H4 e4 d4 => ?_⟩
          cases d4
          have s4 := s3.step e4
          obtain ⟨_, ⟨zs, hz, dz⟩, _⟩ := s4.at_ m _ hc3
          have q := s4.other hc3 (dz.setAt (flat_dq a2 fy) j)
          rw [put_put] at q
          exact ⟨al m, zs, (j : Int), j, rfl, rfl, hz, ixN_nat (by rw [dz.length, List.length_set]; exact lj), rfl, k σ _ hn ⟨P, al, q⟩⟩
/-! amid draws -/
theorem rg_setE (hc : c m = some ds) (h : ∀ O, EvD O n te (vwC c 0 ρ) x) (fx : isFlat x = true) (hi : ∀ P, EvD P n ti ρ (.int (i : Int))) (li : i < ds.length) (hT : T ρ (c.put m (ds.set i x))) : RG n (tAsg te (gSub (tVar m) ti rSetL)) ρ c 0 T S := fun O p cnt H0 D σ H hn ⟨P, al, s⟩ hcc q r =>
  h O σ H hn s.m.view _ fun v H1 e1 d1 => by
    have s1 := s.stepX e1
    refine ⟨_, (s1.m.at_ m ds hc).1, hi P σ H1 hn s1.m.sd _ fun w H2 e2 d2 => ?_⟩
    cases d2
    have s2 := s1.stepX e2
    obtain ⟨_, ⟨ys, hy, dy⟩, _⟩ := s2.m.at_ m ds hc
    exact ⟨al m, ys, (i : Int), i, rfl, rfl, hy, ixN_nat (by rw [dy.length]; exact li), q ρ _ σ _ hT hn ⟨P, al, s2.other hc (dy.setAt (flat_dq d1 fx) i)⟩⟩
theorem rg_set (hc : c m = some ds) (h : ∀ O, EvD O n te (vwC c 0 ρ) x) (fx : isFlat x = true) (hi : ∀ P, EvD P n ti ρ (.int (i : Int))) (li : i < ds.length) (h2 : RG n u ρ (c.put m (ds.set i x)) k T S) : RG n (tSeq (tAsg te (gSub (tVar m) ti rSetL)) u) ρ c k T S :=
  rg_0 (rg_seq (T1 := fun ρ' c' => ρ' = ρ ∧ c' = c.put m (ds.set i x)) (rg_setE hc h fx hi li ⟨rfl, rfl⟩) fun ρ1 c1 z => by
    rw [z.1, z.2]
    exact h2)
/-- what a place holds of the own lists, seen as data -/
theorem SGM.sbV {O P : List Addr} {p : Addr} {cnt : Nat} {H0 H : Hp} {c : Own} {σ : L2.St} {ρ : Rho} {al : Nat → Addr} (s : SGM O p cnt H0 c H σ ρ P al) (h0 : c 0 = none) : SB O p cnt H σ (vwC c 0 ρ) := ⟨s.m.view, s.bx, s.box, s.mem, by
  rw [vwC_get, s.fr]
  show some (match c (0 + 0) with | some ds => some (PyData.list ds) | Option.none => none) = _
  rw [Nat.zero_add, h0]⟩
/-- x = drawn, of what the own lists hold; a scalar -/
theorem rg_asgV (h : EvB n te (vwC c 0 ρ) k S1) (hf : ∀ d, S1 d → isFlat d = true) (hc0 : c 0 = none) (hi : i < n) (h0 : i ≠ 0) (hc : c i = none) : RG n (tAsg te (gName i)) ρ c k (fun ρ' c' => ∃ d, S1 d ∧ ρ' = ρ.set i (some d) ∧ c' = c) S := fun O p cnt H0 D σ H hn ⟨P, al, s⟩ hcc q r =>
  h O p cnt σ H hn (s.sbV hc0) hcc _ fun v d H1 hd e1 b1 d1 => q _ c _ H1 ⟨d, hd, rfl, rfl⟩ (by rw [List.length_set]; exact hn) ⟨P, al, (s.step e1 b1).put (flat_dq d1 (hf d hd)) (by rw [hn]; exact hi) h0 hc⟩
theorem rg_getV (h : EvB n te (vwC c 0 ρ) k1 S1) (hf : ∀ d, S1 d → isFlat d = true) (hc0 : c 0 = none) (hi : i < n) (h0 : i ≠ 0) (hc : c i = none) (h2 : ∀ d, S1 d → RG n u (ρ.set i (some d)) c k2 T S) : RG n (tSeq (tAsg te (gName i)) u) ρ c (k1 + k2) T S :=
  rg_seq (rg_asgV h hf hc0 hi h0 hc) fun ρ1 c1 z => by
    obtain ⟨d, hd, rfl, rfl⟩ := z
    exact h2 d hd
/-- xs.pop(drawn) as a statement -/
theorem rg_popE (hc0 : c 0 = none) (hc : c m = some ds) (hl : ds.length ≤ 100000) (h : EvB n te (vwC c 0 ρ) k (fun d => ∃ j : Nat, d = .int (j : Int) ∧ j < ds.length)) : RG n (tDrop (tBM K "list" rPopAt (tVar m) (tCons te tNil))) ρ c k (fun ρ' c' => ∃ j : Nat, j < ds.length ∧ ρ' = ρ ∧ c' = c.put m (ds.eraseIdx j)) S := fun O p cnt H0 D σ H hn ⟨P, al, s⟩ hcc q r => by
  obtain ⟨m1, ⟨xs, hx, _⟩, _⟩ := s.m.at_ m ds hc
  refine ⟨_, m1, ty_lst hx, h O p cnt σ H hn (s.sbV hc0) hcc _ fun v d H1 hd e1 b1 d1 => ?_⟩
  obtain ⟨j, rfl, hj⟩ := hd
  cases d1
  have s1 := s.step e1 b1
  obtain ⟨_, ⟨ys, hy, dy⟩, _⟩ := s1.m.at_ m ds hc
  have ly : j < ys.length := by rw [dy.length]; exact hj
  refine ⟨al m, ys, (j : Int), j, ys[j], rfl, rfl, hy, by omega, by omega, sIdx_nat ly, List.getElem?_eq_getElem ly, ?_⟩
  exact q ρ _ σ _ ⟨j, hj, rfl, rfl⟩ hn ⟨P, al, s1.other hc (dy.eraseAt j)⟩
/-- found.append(pool.pop(drawn)): of scalars -/
theorem rg_move {m2 : Nat} (hc0 : c 0 = none) (hm : m2 ≠ m) (hc : c m = some ds) (hc2 : c m2 = some es) (hl : ds.length ≤ 100000) (hl2 : es.length ≤ 100000) (hf : ∀ d, d ∈ ds → isFlat d = true) (h : EvB n te (vwC c 0 ρ) k (fun d => ∃ j : Nat, d = .int (j : Int) ∧ j < ds.length)) :
    RG n (tDrop (tBM K "list" rAppend (tVar m2) (tCons (tBM K "list" rPopAt (tVar m) (tCons te tNil)) tNil))) ρ c k (fun ρ' c' => ∃ (j : Nat) (x : PyData), ds[j]? = some x ∧ ρ' = ρ ∧ c' = (c.put m (ds.eraseIdx j)).put m2 (es ++ [x])) S := fun O p cnt H0 D σ H hn ⟨P, al, s⟩ hcc q r => by
  obtain ⟨m1, ⟨xs, hx, _⟩, _⟩ := s.m.at_ m ds hc
  obtain ⟨n1, ⟨us, hu, _⟩, _⟩ := s.m.at_ m2 es hc2
  refine ⟨_, n1, ty_lst hu, _, m1, ty_lst hx, h O p cnt σ H hn (s.sbV hc0) hcc _ fun v d H1 hd e1 b1 d1 => ?_⟩
  obtain ⟨j, rfl, hj⟩ := hd
  cases d1
  have s1 := s.step e1 b1
  obtain ⟨_, ⟨ys, hy, dy⟩, _⟩ := s1.m.at_ m ds hc
  have ly : j < ys.length := by rw [dy.length]; exact hj
  obtain ⟨x, hx1, hx2⟩ := dy.getV (List.getElem?_eq_getElem ly)
  refine ⟨al m, ys, (j : Int), j, ys[j], rfl, rfl, hy, by omega, by omega, sIdx_nat ly, List.getElem?_eq_getElem ly, ?_⟩
  have s2 := s1.other hc (dy.eraseAt j)
  have hc3 : (c.put m (ds.eraseIdx j)) m2 = some es := (if_neg hm).trans hc2
  obtain ⟨_, ⟨zs, hz, dz⟩, _⟩ := s2.m.at_ m2 es hc3
  refine ⟨al m2, zs, ys[j], rfl, rfl, hz, Nat.lt_of_le_of_lt (show zs.length ≤ 100000 by have q := dz.length; omega) (by decide), ?_⟩
  exact q ρ _ σ _ ⟨j, x, hx1, rfl, rfl⟩ hn ⟨P, al, s2.other hc3 (dz.append (.cons (flat_dq hx2 (hf x (List.mem_of_getElem? hx1))) .nil))⟩
end
end DL
namespace DL
open PySem L2 Evl PyProof.Rows TL RZ
section
variable {O : List Addr} {n : Nat} {ρ : Rho} {te : TE} {x : PyData} {ds : List PyData} {K : PySem.W.Frag}
/-- list(xs), a new one -/
theorem ef_list (h : EvD O n te ρ x) (hs : SeqD x ds) : EvF O n (tCB (rListOf K) (tCons te tNil)) ρ ds := fun σ H hn s Q q =>
  h σ H hn s _ fun v H1 e1 d1 => by
    obtain ⟨p, ys, rfl, h1, h2⟩ := seq_rd (K := K) hs d1
    exact ⟨p, ys, rfl, h1, fun l hl => q l ys H1 e1 hl h2⟩
end
end DL
/-! DPP: two names at once, one of them a new list. -/
namespace DL
open PySem L2 Evl PyProof.Rows TL RZ
section
variable {O : List Addr} {n m i j k k1 k2 : Nat} {ρ ρ' : Rho} {c c' : Own} {ds es : List PyData} {d x y : PyData} {te ta ti tj : TE} {t u : TS} {K : PySem.W.Frag} {S S1 : PyData → Prop} {T : Rho → Own → Prop}
/-- xs, i = list(..), e -/
theorem rm_parF (h1 : ∀ P, EvF P n ta ρ ds) (h : ∀ P, EvD P n te ρ d) (hm : m < n) (hi : i < n) (hr : m < ρ.length) (hc : c m = none) (hci : c i = none) (hmi : m ≠ i) : RunM O n (tPar m i (tCons ta (tCons te tNil))) ρ c ((ρ.set m none).set i (some d)) (c.put m ds) := fun H0 D σ H hn ⟨P, al, s⟩ k =>
  h1 P σ H hn s.sd _ fun p xs H1 e1 np d1 => by
    have s0 := s.step e1
    have s1 := s0.own (xs := xs) (ds := ds) np d1 (by rw [hn]; exact hm) hr hc
    have sd1 : SD (p :: P) (upd H1 p (.lst xs)) σ ρ := s0.sd.more (Ex.new np) np upd_same
    refine h (p :: P) σ _ hn sd1 _ fun v H2 e2 d2 => ?_
    refine ⟨_, _, rfl, k _ H2 (by rw [List.length_set, List.length_set]; exact hn) ⟨_, _, (s1.step e2).put d2 (by rw [List.length_set, hn]; exact hi) ?_⟩⟩
    simp [Own.put, Ne.symm hmi, hci]
/-- i, xs = drawn, list(..) -/
theorem rg_parO (h : EvB n te ρ k1 S1) (h1 : ∀ d, S1 d → ∀ P, EvF P n ta ρ ds) (hm : m < n) (hi : i < n) (hr : m < ρ.length) (h0 : i ≠ 0) (hm0 : m ≠ 0) (hc : c m = none) (hci : c i = none) (hmi : m ≠ i) (h2 : ∀ d, S1 d → RG n u ((ρ.set i (some d)).set m none) (c.put m ds) k2 T S) : RG n (tSeq (tPar i m (tCons te (tCons ta tNil))) u) ρ c (k1 + k2) T S := fun O p cnt H0 D σ H hn ⟨P, al, s⟩ hcc q r =>
  h P p cnt σ H hn s.sb (by omega) _ fun v d H1 hd e1 b1 d1 => by
    have s1 := s.step e1 b1
    refine h1 d hd P σ H1 hn s1.m.sd _ fun l xs H2 e2 nl d2 => ?_
    have s2 := (s1.stepX e2).put (d1.mono (Ex.o P e2)) (by rw [hn]; exact hi) h0 hci
    refine ⟨_, _, rfl, ?_⟩
    exact h2 d hd O p (cnt + k1) H0 D _ _ (by rw [List.length_set, List.length_set]; exact hn) ⟨_, _, s2.own nl d2 (by rw [List.length_set, hn]; exact hm) (by rw [List.length_set]; exact hr) hm0 hc⟩ (by omega) (fun ρ2 c2 σ2 H2 hT l2 s2 => q ρ2 c2 σ2 H2 hT l2 (by rw [← Nat.add_assoc]; exact s2)) fun v d H2 hd e2 b2 d2 => r v d H2 hd e2 (by rw [← Nat.add_assoc]; exact b2) d2
end
end DL
/-! DNW: defs whose answer is a new list. -/
namespace DL
open PySem L2 Evl PyProof.Rows TL RZ
/-- a def's promise: the answer is a list that nothing else holds -/
def spF (R : List PyData → List PyData → Prop) : Sp := fun vs H Q _ => ∃ (O : List Addr) (ds es : List PyData), (∀ a, a ∈ O → H a ≠ none) ∧ DqAll (sub H O) vs ds ∧ R ds es ∧ ∀ p xs H', Ex H H' → H' p = none → DqAll (sub H' O) xs es → Q (.ref p) (upd H' p (.lst xs))
section
variable (O : List Addr)
def RunRF (n : Nat) (t : TS) (ρ : Rho) (es : List PyData) : Prop := ∀ (D : Ends) (σ : L2.St) (H : Hp), σ.length = n → SD O H σ ρ →
  (∀ p xs H', Ex H H' → H' p = none → DqAll (sub H' O) xs es → D.rt (.ref p) (upd H' p (.lst xs))) → t D σ H
end
section
variable {O : List Addr} {n : Nat} {ρ ρ1 : Rho} {te : TE} {tt : TT} {wi : TI} {g : TG} {vs : List Nat} {ds es zs : List PyData} {t u : TS} {R : List PyData → List PyData → Prop} {E : XK} {tr tk : TA} {K : PySem.W.Frag}
theorem rrf_ret (h : EvF O n te ρ es) : RunRF O n (tRet te) ρ es := fun D σ H hn s k => h σ H hn s _ k
theorem rrf_seq (h1 : RunN O n t ρ ρ1) (h2 : RunRF O n u ρ1 es) : RunRF O n (tSeq t u) ρ es := fun D σ H hn s k =>
  h1 _ σ H hn s fun σ1 H1 hn1 e1 s1 => h2 D σ1 H1 hn1 s1 fun p xs H2 e2 np d => k p xs H2 (e1.trans e2) np d
theorem ed_ef (h : EvF O n te ρ es) : EvD O n te ρ (.list es) := fun σ H hn s Q q =>
  h σ H hn s _ fun p xs H1 e1 np d1 => q _ _ (e1.trans (Ex.new np)) (.lst (sub_mk upd_same (not_own (own_ex e1 s.own) np)) (d1.mono (Ex.o O (Ex.new np))))
theorem ef_callF (h : EvDA O n tr ρ ds) (hR : R ds es) : EvF O n (tCall (spF R) [] E tr) ρ es := fun σ H hn s Q q =>
  h σ H hn s _ fun vs H1 e1 d1 => ⟨O, ds, es, own_ex e1 s.own, by rw [List.append_nil]; exact d1, hR, fun p xs H2 e2 np d2 => q p xs H2 (e1.trans e2) np d2⟩
theorem ed_callF (h : EvDA O n tr ρ ds) (hR : R ds es) : EvD O n (tCall (spF R) [] E tr) ρ (.list es) := ed_ef (ef_callF h hR)
theorem ed_callFN {m : Nat} {gV : List V → List V → List V} (h : EvDA O n tk ρ zs) (hm : zs.length = m) (hg : ∀ (H : Hp) (vs : List V), DqAll H vs zs → DqAll H (gV [] vs) ds) (hR : R ds es) : EvD O n (tCallN 0 m (spF R) gV E tNil tk) ρ (.list es) := fun σ H hn s Q q =>
  h σ H hn s _ fun vs H1 e1 d1 => ⟨rfl, by rw [d1.length]; exact hm, O, ds, es, own_ex e1 s.own, hg _ _ d1, hR, fun p xs H2 e2 np d2 => q _ _ ((e1.trans e2).trans (Ex.new np)) (.lst (sub_mk upd_same (not_own (own_ex (e1.trans e2) s.own) np)) (d2.mono (Ex.o O (Ex.new np))))⟩
theorem ef_lcF (f : Nat → List PyData) (hf : f 0 = []) (hlen : ∀ i, i < ds.length → (f i).length < 100000) (hw : IterD O n wi ρ ds)
    (h : ∀ D i d, ds[i]? = some d → ∃ ρ' b, TgD (D :: O) n vs g (wipeR ρ vs) d ρ' ∧ EvDT (D :: O) n tt ρ' b ∧ (b = true → ∃ e, EvD (D :: O) n te ρ' e ∧ f (i + 1) = f i ++ [e]) ∧ (b = false → f (i + 1) = f i)) :
    EvF O n (tLc wi g tt te vs) ρ (f ds.length) := fun σ H hn s Q q => hw σ H hn s _ fun J H1 G Y e1 W g1 gk yk => by
  intro D hD
  have lw : (L2.wipe σ vs).length = n := by rw [L2.wipe_length]; exact hn
  have s1 := s.ex e1
  refine lc_it (W (D :: O)) (fun i H2 => ∃ acc, H2 D = some (.lst acc) ∧ DqAll (sub H2 (D :: O)) acc (f i) ∧ Ex H1 H2) ⟨[], upd_same, by rw [hf]; exact DqAll.nil, Ex.new hD⟩ ?_ ?_ ?_
  · rintro i H2 _ ⟨acc, _, _, k2⟩
    exact gk _ _ _ _ g1 (ex_more k2 hD)
  · rintro i x H2 H3 hi ⟨acc, hA, hd, k2⟩ y
    have s2 : SD (D :: O) H2 σ ρ := s1.more k2 hD hA
    obtain ⟨e3, d, hdi, hx⟩ := yk (D :: O) i H2 x H3 hi s2.own (gk _ _ _ _ g1 (ex_more k2 hD)) y
    obtain ⟨ρ', b, ht, htt, hte, hsk⟩ := h D i d hdi
    have s3 := (s2.ex e3).wipe vs
    refine ht (L2.wipe σ vs) H3 x lw s3 hx _ fun σ' hl' hc' s' => ⟨?_, ?_⟩
    · have ew : L2.wipe (L2.wipe σ vs) vs = L2.wipe σ vs := by
        refine wipe_ext (by rw [L2.wipe_length]) fun i hi => L2.wipe_out hi
      rw [wipe_ext (by rw [hl', lw]) hc', ew]
    · refine htt σ' H3 hl' s' _ fun H4 e4 => ?_
      cases b with
      | false =>
        rw [if_neg Bool.false_ne_true]
        refine ⟨acc, e4 _ _ (e3 _ _ hA), ?_, (k2.trans e3).trans e4⟩
        rw [hsk rfl]
        exact hd.mono (Ex.o _ (e3.trans e4))
      | true =>
        rw [if_pos rfl]
        obtain ⟨e, he, hfe⟩ := hte rfl
        refine he σ' H4 hl' (s'.ex e4) _ fun y H5 e5 d5 => ⟨acc, e5 _ _ (e4 _ _ (e3 _ _ hA)), ?_, ?_⟩
        · have q1 := hd.length
          have q2 := hlen i hi
          exact sz_lt (n := acc.length) (Nat.lt_of_le_of_lt (Nat.le_of_eq q1) q2)
        · refine ⟨_, upd_same, ?_, Ex.mut (((k2.trans e3).trans e4).trans e5) hD⟩
          rw [sub_upd (List.mem_cons_self ..), hfe]
          exact (hd.mono (Ex.o _ ((e3.trans e4).trans e5))).append (.cons d5 .nil)
  · rintro H2 ⟨acc, hA, hd, k2⟩
    have nD : sub H2 [D] D = none := by
      cases z : sub H2 [D] D with
      | none => rfl
      | some o => exact absurd (List.mem_singleton.mpr rfl) (sub_of z).2
    have eU : upd (sub H2 [D]) D (.lst acc) = H2 := by
      funext a
      by_cases c : a = D
      · rw [c, upd_same, hA]
      · rw [upd_ne c]
        have na : a ∉ [D] := fun z => c (List.mem_singleton.mp z)
        cases z : H2 a with
        | some o => exact sub_mk z na
        | none =>
          cases z2 : sub H2 [D] a with
          | none => rfl
          | some o =>
            have := (sub_of z2).1
            rw [z] at this
            cases this
    have e2 : Ex H (sub H2 [D]) := fun a o ha => by
      have h1 := e1 a o ha
      refine sub_mk (k2 a o h1) fun z => ?_
      rw [List.mem_singleton.mp z, hD] at h1
      cases h1
    have d2 : DqAll (sub (sub H2 [D]) O) acc (f ds.length) := hd.mono fun a o ha => by
      obtain ⟨h1, h2⟩ := sub_of ha
      exact sub_mk (sub_mk h1 fun z => h2 (by rw [List.mem_singleton.mp z]; exact List.mem_cons_self)) fun z => h2 (List.mem_cons_of_mem _ z)
    have r := q D acc (sub H2 [D]) e2 nD d2
    rw [eU] at r
    exact r
theorem ef_lcFM {α : Type} {l : List α} {e1 e2 : α → PyData} {p : α → Bool} (hw : IterD O n wi ρ (l.map e1)) (hl : l.length ≤ 100000)
    (h : ∀ D a, a ∈ l → ∃ ρ', TgD (D :: O) n vs g (wipeR ρ vs) (e1 a) ρ' ∧ EvDT (D :: O) n tt ρ' (p a) ∧ (p a = true → EvD (D :: O) n te ρ' (e2 a))) :
    EvF O n (tLc wi g tt te vs) ρ ((l.filter p).map e2) := by
  have q := ef_lcF (O := O) (n := n) (ρ := ρ) (te := te) (tt := tt) (wi := wi) (g := g) (vs := vs) (ds := l.map e1) (fun i => ((l.take i).filter p).map e2) rfl (fun i hi => by
    rw [List.length_map] at hi
    rw [List.length_map]
    have q1 := List.length_filter_le p (l.take i)
    rw [List.length_take] at q1
    omega) hw (fun D i d hd => by
    rw [List.getElem?_map] at hd
    cases ha : l[i]? with
    | none => rw [ha] at hd; cases hd
    | some a =>
      rw [ha] at hd
      cases hd
      obtain ⟨ρ', h1, h2, h3⟩ := h D a (List.mem_of_getElem? ha)
      have e : l.take (i + 1) = l.take i ++ [a] := take_snoc ha
      refine ⟨ρ', p a, h1, h2, fun z => ⟨e2 a, h3 z, ?_⟩, fun z => ?_⟩
      · show ((l.take (i + 1)).filter p).map e2 = _
        rw [e, List.filter_append, List.map_append]
        simp [z]
      · show ((l.take (i + 1)).filter p).map e2 = _
        rw [e, List.filter_append, List.map_append]
        simp [z])
  rw [List.length_map, List.take_length] at q
  exact q
end
section
variable {P : Program} {w : World} {K : PySem.W.Frag} {mg : Str → Option Value} {base : Heap}
theorem pure_okF {R : List PyData → List PyData → Prop} {x qual : Str} {st : Stmt} {f : Addr} {fd : FuncData} {N ps : List Str} {k : Nat} (F : Fun K x qual st f fd) (S : FnScope N ps (defScope st)) (hl : ∀ ds es, R ds es → ds.length = ps.length) (hp : ps.length ≤ N.length)
    (body : ∀ (cdv : Value) (A : Around) (outer : List Env) (s : Shared) (H : Hp) (E : XK), Room k (A.deeper (envOfC qual (defScope st) s.heap.objs.size f cdv)) →
      ∃ t, PSs (cxOf CX0 P w K mg base N qual (defScope st) f cdv A outer s H E).nox (defBody st) t ∧ ∀ O ds es, R ds es → RunRF O N.length t (argR N ds) es) : FnOk P w K mg base CX0 (k + 1) f fd ps (spF R) := by
  refine F.ok S (fun vs H Q E h => ?_) (fun cdv A outer s H vs Q E hr h => ?_)
  · obtain ⟨O, ds, es, _, hd, hR, _⟩ := h
    rw [hd.length]
    exact hl ds es hR
  · obtain ⟨t, ht, hb⟩ := body cdv A outer s H E hr
    obtain ⟨O, ds, es, ho, hd, hR, q⟩ := h
    exact ⟨t, ht, hb O ds es hR _ (L2.start N vs) H (start_len (by rw [hd.length, hl ds es hR]; exact hp)) (sd_start ho hd) q⟩
end
end DL
/-! DPQ: three names at once, drawn, of what own lists hold. -/
namespace DL
open PySem L2 Evl PyProof.Rows TL RZ
theorem dI_erase : ∀ (l : List Int) (i : Nat), (dI l).eraseIdx i = dI (l.eraseIdx i)
  | [], _ => rfl
  | a :: l, 0 => rfl
  | a :: l, i + 1 => by
    show PyData.int a :: (dI l).eraseIdx i = _
    rw [dI_erase l i]
    rfl
section
variable {n m i j l k k1 k2 : Nat} {ρ : Rho} {c : Own} {tr : TA} {u : TS} {S : PyData → Prop} {T : Rho → Own → Prop}
theorem rg_par3V {A : List PyData → Prop} (h : EvBA n tr (vwC c 0 ρ) k1 A) (hA : ∀ ds, A ds → ∃ x y z, ds = [x, y, z] ∧ isFlat x = true ∧ isFlat y = true ∧ isFlat z = true) (hc0 : c 0 = none) (hi : i < n) (hj : j < n) (hl : l < n) (h0 : i ≠ 0) (h1 : j ≠ 0) (h3 : l ≠ 0) (ci : c i = none) (cj : c j = none) (cl : c l = none)
    (h2 : ∀ x y z, A [x, y, z] → RG n u (((ρ.set i (some x)).set j (some y)).set l (some z)) c k2 T S) : RG n (tSeq (tPar3 i j l tr) u) ρ c (k1 + k2) T S := fun O p cnt H0 D σ H hn ⟨P, al, s⟩ hcc q r =>
  h O p cnt σ H hn (s.sbV hc0) (by omega) _ fun vs ds H1 hd e1 b1 d1 => by
    obtain ⟨x, y, z, rfl, f1, f2, f3⟩ := hA ds hd
    cases d1 with
    | cons a1 r1 =>
      cases r1 with
      | cons a2 r2 =>
        cases r2 with
        | cons a3 r3 =>
          cases r3
          refine ⟨_, _, _, rfl, ?_⟩
          exact h2 x y z hd O p (cnt + k1) H0 D _ H1 (by rw [List.length_set, List.length_set, List.length_set]; exact hn) ⟨P, al, (((s.step e1 b1).put (flat_dq a1 f1) (by rw [hn]; exact hi) h0 ci).put (flat_dq a2 f2) (by rw [List.length_set, hn]; exact hj) h1 cj).put (flat_dq a3 f3) (by rw [List.length_set, List.length_set, hn]; exact hl) h3 cl⟩ (by omega) (fun ρ2 c2 σ2 H2 hT l2 s2 => q ρ2 c2 σ2 H2 hT l2 (by rw [← Nat.add_assoc]; exact s2)) fun v d H2 hd e2 b2 d2 => r v d H2 hd e2 (by rw [← Nat.add_assoc]; exact b2) d2
end
end DL
/-! DWH: a while amid own lists; new lists of all items. -/
namespace DL
open PySem L2 Evl PyProof.Rows TL RZ
section
variable {O : List Addr} {n m i j : Nat} {ρ : Rho} {c : Own} {ds es : List PyData} {te : TE} {tt : TT} {t tb : TS} {wi : TI} {g : TG} {vs : List Nat}
theorem rm_while {k : Nat} (R : Nat → Rho × Own) (h0 : R 0 = (ρ, c)) (ht : ∀ i, i ≤ k → EvDT O n tt (vwC (R i).2 0 (R i).1) (decide (i < k))) (hs : ∀ i, i < k → RunM O n tb (R i).1 (R i).2 (R (i + 1)).1 (R (i + 1)).2) :
    RunM O n (tWhile tt tb) ρ c (R k).1 (R k).2 := fun H0 D σ H hn s kk => by
  refine ⟨fun w σ2 H2 => ∃ i, w = k - i ∧ i ≤ k ∧ σ2.length = n ∧ SDX O H0 (R i).2 H2 σ2 (R i).1, ⟨k, 0, rfl, Nat.zero_le _, hn, by rw [h0]; exact s⟩, ?_⟩
  rintro w σ2 H2 ⟨i, rfl, hi, l2, P, al, s2⟩
  refine ht i hi σ2 H2 l2 s2.view _ fun H3 e3 => ?_
  by_cases c : i < k
  · rw [decide_eq_true c]
    refine iteT ⟨fun σ' H' => ∃ i', i' = i + 1 ∧ σ'.length = n ∧ SDX O H0 (R i').2 H' σ' (R i').1, ?_, ?_⟩
    · rintro σ' H' ⟨i', rfl, l', s'⟩
      exact ⟨k - (i + 1), by omega, i + 1, rfl, by omega, l', s'⟩
    · exact hs i c H0 _ σ2 H3 l2 ⟨P, al, s2.step e3⟩ fun σ4 H4 l4 s4 => ⟨i + 1, rfl, l4, s4⟩
  · rw [decide_eq_false c]
    have e : i = k := by omega
    subst e
    exact iteF (kk σ2 H3 l2 ⟨P, al, s2.step e3⟩)
theorem et_yes : EvDT O n tYes ρ true := fun σ H hn s Q q => q H (Ex.refl H)
theorem ef_lcM {α β : Type} {e1 : α → PyData} {e2 : β → PyData} {f : α → β} {l : List α} (hw : IterD O n wi ρ (l.map e1)) (hl : l.length ≤ 100000)
    (h : ∀ D a, a ∈ l → ∃ ρ', TgD (D :: O) n vs g (wipeR ρ vs) (e1 a) ρ' ∧ EvD (D :: O) n te ρ' (e2 (f a))) : EvF O n (tLc wi g tYes te vs) ρ ((l.map f).map e2) := by
  have q := ef_lcFM (O := O) (n := n) (ρ := ρ) (te := te) (tt := tYes) (wi := wi) (g := g) (vs := vs) (l := l) (e1 := e1) (e2 := fun a => e2 (f a)) (p := fun _ => true) hw hl fun D a ha => by
    obtain ⟨ρ', h1, h2⟩ := h D a ha
    exact ⟨ρ', h1, et_yes, fun _ => h2⟩
  rw [List.filter_eq_self.mpr fun _ _ => rfl] at q
  rw [List.map_map]
  exact q
end
end DL
/-! DTU: tuple(range(a, b)); a new list beside another value in a tuple that is taken apart; xs[0] = xs[0] + xs.pop(). -/
namespace DL
open PySem L2 Evl PyProof.Rows TL RZ
section
variable {O : List Addr} {n m i j : Nat} {ρ : Rho} {c : Own} {ds es : List PyData} {d : PyData} {te ta tb : TE} {K : PySem.W.Frag}
theorem ed_tupRg2 {a b : Int} (ha : EvD O n ta ρ (.int a)) (hb : EvD O n tb ρ (.int b)) (h1 : -1000000 ≤ a ∧ a ≤ 1000000) (h2 : -1000000 ≤ b ∧ b ≤ 1000000) : EvD O n (tTupRg (tRg2 ta tb)) ρ (.tuple (dI ((List.range (b - a).toNat).map fun k : Nat => a + (k : Int)))) := fun σ H hn s Q q => ha σ H hn s _ fun v H1 e1 d1 => by
  cases d1
  refine hb σ H1 hn (s.ex e1) _ fun v2 H2 e2 d2 => ?_
  cases d2
  refine ⟨_, _, rfl, rfl, ⟨by omega, by omega, by omega, by omega, by omega⟩, fun p np => ?_⟩
  refine q _ _ ((e1.trans e2).trans (Evl.Ex.new np)) (.tup (sub_mk upd_same (not_own (own_ex e2 (own_ex e1 s.own)) np)) ?_)
  have e : rgV a b = ((List.range (b - a).toNat).map fun k : Nat => a + (k : Int)).map V.int := by
    unfold rgV
    rw [List.map_map]
    rfl
  rw [e]
  exact dq_ints _
/-- x, xs = e, [] : as a tuple that is taken apart -/
theorem rm_tupF (h : ∀ P, EvD P n te ρ d) (hm : m < n) (hi : i < n) (hr : m < ρ.length) (hc : c m = none) (hci : c i = none) (hmi : m ≠ i) : RunM O n (tAsg (tTup (tCons te (tCons (tLst tNil) tNil))) (gTup K 2 (gCons (gName i) (gCons (gName m) gNil)))) ρ c ((ρ.set i (some d)).set m none) (c.put m []) := fun H0 D σ H hn ⟨P, al, s⟩ k =>
  h P σ H hn s.sd _ fun v H1 e1 d1 => by
    refine ⟨(by show 0 ≤ sizeLine; decide), fun p np => ?_⟩
    refine ⟨(by show 2 ≤ sizeLine; decide), fun q nq => ?_⟩
    have s1 := (s.step e1).put d1 (by rw [hn]; exact hi) hci
    have s2 := s1.own (xs := []) (ds := []) np .nil (by rw [List.length_set, hn]; exact hm) (by rw [List.length_set]; exact hr) hc
    have e3 : Ex (upd H1 p (.lst [])) (upd (upd H1 p (.lst [])) q (.tup [v, .ref p])) := Ex.new nq
    refine ⟨q, _, rfl, st_of upd_same, rfl, _, _, rfl, _, _, rfl, rfl, ?_⟩
    exact k _ _ (by rw [List.length_set, List.length_set]; exact hn) ⟨_, _, s2.step e3⟩
theorem dI_atU {ns : List Int} {i : Nat} (h : i < ns.length) : (dI ns)[i]? = some (.int (ns.getD i 0)) := by
  unfold dI
  rw [List.getElem?_map, List.getD_eq_getElem?_getD, List.getElem?_eq_getElem h]
  rfl
/-- xs[0] = xs[0] + xs.pop() -/
theorem rl_addPop {ns : List Int} (h2 : 2 ≤ ns.length) : RunL O n m (tAsg (tOp (rI0 fun i j => .int (i + j)) (tOp (rIxL K) (tVar m) (tC (.int 0))) (tBM0 K "list" rPop (tVar m))) (gSub (tVar m) (tC (.int 0)) rSetL)) ρ (dI ns) ρ (dI (ns.dropLast.set 0 (ns.getD 0 0 + ns.getD (ns.length - 1) 0))) := fun L D σ H hn s k => by
  have hb := (List.getElem?_eq_some_iff.mp s.free).1
  have v0 : EvD O n (tOp (rIxL K) (tVar m) (tC (.int 0))) (vw ρ m (dI ns)) (.int (ns.getD 0 0)) := ed_op (ed_var (by
    show (List.set ρ m _)[m]? = _
    rw [List.getElem?_set_self hb])) (ed_int (i := ((0 : Nat) : Int))) (rd_ixL (dI_atU (by omega)))
  refine v0 σ H hn s.view _ fun v H1 e1 d1 => ?_
  cases d1
  have s1 := s.step e1
  obtain ⟨xs, hx, dx⟩ := s1.at_
  have ex := ints_dq dx
  subst ex
  have lx : (ns.map V.int).length = ns.length := List.length_map ..
  have last : (ns.map V.int)[(ns.map V.int).length - 1]? = some (.int (ns.getD (ns.length - 1) 0)) := by
    rw [lx, List.getElem?_map, List.getD_eq_getElem?_getD, List.getElem?_eq_getElem (show ns.length - 1 < ns.length by omega)]
    rfl
  refine ⟨_, s1.slot, ty_lst hx, L, _, _, rfl, rfl, hx, last, ?_⟩
  refine ⟨_, _, rfl, rfl, ?_⟩
  have flat : ∀ l : List Int, (dI l).all isFlat = true := fun l => by
    rw [List.all_eq_true]
    intro y hy
    obtain ⟨a, _, rfl⟩ := List.mem_map.mp hy
    rfl
  have s2 := s1.other (xs := (ns.map V.int).dropLast) (es := dI ns.dropLast) (by
    have e : (ns.map V.int).dropLast = ns.dropLast.map V.int := by rw [List.map_dropLast]
    rw [e]
    exact dq_ints _) (flat _)
  have ld : (ns.map V.int).dropLast.length = ns.length - 1 := by rw [List.length_dropLast, lx]
  refine ⟨_, s1.slot, L, (ns.map V.int).dropLast, 0, 0, rfl, rfl, upd_same, ixN_nat (j := 0) (by omega), ?_⟩
  refine k σ _ hn (((Ex.o [L] e1).trans (ExO.upd (List.mem_singleton.mpr rfl))).trans (ExO.upd (List.mem_singleton.mpr rfl))) (s2.other ?_ (flat _))
  have e : ((ns.map V.int).dropLast.set 0 (.int (ns.getD 0 0 + ns.getD (ns.length - 1) 0))) = (ns.dropLast.set 0 (ns.getD 0 0 + ns.getD (ns.length - 1) 0)).map V.int := by
    rw [List.map_set, List.map_dropLast]
  rw [e]
  exact dq_ints _
end
end DL
/-! DWG: while amid draws; x, xs = e, [] amid draws; a def that answers to two kinds of arguments. -/
namespace DL
open PySem L2 Evl PyProof.Rows TL RZ
theorem fn_or {P : Program} {w : World} {K : PySem.W.Frag} {mg : Str → Option Value} {base : Heap} {k : Nat} {f : Addr} {fd : FuncData} {ps : List Str} {R1 R2 : List PyData → PyData → Prop}
    (h1 : FnOk P w K mg base CX0 k f fd ps (spD R1)) (h2 : FnOk P w K mg base CX0 k f fd ps (spD R2)) : FnOk P w K mg base CX0 k f fd ps (spD fun ds d => R1 ds d ∨ R2 ds d) := by
  refine ⟨fun vs H Q E h => ?_, fun A outer s H args us vs Q E hr hE hb hv h => ?_⟩
  · obtain ⟨O, ds, d, a1, a2, a3, a4⟩ := h
    rcases a3 with a3 | a3
    · exact h1.len vs H Q E ⟨O, ds, d, a1, a2, a3, a4⟩
    · exact h2.len vs H Q E ⟨O, ds, d, a1, a2, a3, a4⟩
  · obtain ⟨O, ds, d, a1, a2, a3, a4⟩ := h
    rcases a3 with a3 | a3
    · exact h1.run A outer s H args us vs Q E hr hE hb hv ⟨O, ds, d, a1, a2, a3, a4⟩
    · exact h2.run A outer s H args us vs Q E hr hE hb hv ⟨O, ds, d, a1, a2, a3, a4⟩
section
variable {n m i k k1 : Nat} {ρ ρ' : Rho} {c c' : Own} {d : PyData} {te : TE} {tt : TT} {tb u : TS} {K : PySem.W.Frag} {S : PyData → Prop} {T : Rho → Own → Prop}
/-- x, xs = e, [] -/
theorem rg_tupF (h : ∀ P, EvD P n te ρ d) (hm : m < n) (hi : i < n) (hr : m < ρ.length) (hm0 : m ≠ 0) (hi0 : i ≠ 0) (hc : c m = none) (hci : c i = none) (hmi : m ≠ i) (h2 : RG n u ((ρ.set i (some d)).set m none) (c.put m []) k T S) :
    RG n (tSeq (tAsg (tTup (tCons te (tCons (tLst tNil) tNil))) (gTup K 2 (gCons (gName i) (gCons (gName m) gNil)))) u) ρ c k T S := fun O p0 cnt H0 D σ H hn ⟨P, al, s⟩ hcc q0 r0 =>
  h P σ H hn s.m.sd _ fun v H1 e1 d1 => by
    refine ⟨(by show 0 ≤ sizeLine; decide), fun p np => ?_⟩
    refine ⟨(by show 2 ≤ sizeLine; decide), fun q nq => ?_⟩
    have s1 := (s.stepX e1).put d1 (by rw [hn]; exact hi) hi0 hci
    have s2 := s1.own (xs := []) (ds := []) np .nil (by rw [List.length_set, hn]; exact hm) (by rw [List.length_set]; exact hr) hm0 hc
    have e3 : Ex (upd H1 p (.lst [])) (upd (upd H1 p (.lst [])) q (.tup [v, .ref p])) := Ex.new nq
    refine ⟨q, _, rfl, st_of upd_same, rfl, _, _, rfl, _, _, rfl, rfl, ?_⟩
    exact h2 O p0 cnt H0 D _ _ (by rw [List.length_set, List.length_set]; exact hn) ⟨_, _, s2.stepX e3⟩ hcc q0 r0
/-- a while amid draws: M turns -/
theorem rg_while {M : Nat} (Iv : Nat → Rho → Own → Prop) (h0 : Iv 0 ρ c) (ht : ∀ i, i ≤ M → ∀ ρi ci, Iv i ρi ci → ∀ O, EvDT O n tt (vwC ci 0 ρi) (decide (i < M)))
    (hs : ∀ i, i < M → ∀ ρi ci, Iv i ρi ci → RG n tb ρi ci k1 (Iv (i + 1)) S) : RG n (tWhile tt tb) ρ c (M * k1) (Iv M) S := fun O p cnt H0 D σ H hn s hcc q r => by
  refine ⟨fun w σ2 H2 => ∃ i ρi ci, w = M - i ∧ i ≤ M ∧ σ2.length = n ∧ Iv i ρi ci ∧ SGX O p (cnt + i * k1) H0 ci H2 σ2 ρi, ⟨M, 0, ρ, c, rfl, Nat.zero_le _, hn, h0, by rw [Nat.zero_mul, Nat.add_zero]; exact s⟩, ?_⟩
  rintro w σ2 H2 ⟨i, ρi, ci, rfl, hi, l2, hI, P, al, s2⟩
  refine ht i hi ρi ci hI O σ2 H2 l2 s2.m.view _ fun H3 e3 => ?_
  have s3 := s2.stepX e3
  have mk : i * k1 ≤ M * k1 := Nat.mul_le_mul_right _ hi
  by_cases c : i < M
  · rw [decide_eq_true c]
    have mk2 : i * k1 + k1 ≤ M * k1 := by
      have q := Nat.mul_le_mul_right k1 (show i + 1 ≤ M by omega)
      rw [Nat.succ_mul] at q
      exact q
    refine iteT ⟨fun σ' H' => ∃ ρ' c', σ'.length = n ∧ Iv (i + 1) ρ' c' ∧ SGX O p (cnt + (i + 1) * k1) H0 c' H' σ' ρ', ?_, ?_⟩
    · rintro σ' H' ⟨ρ', c', l', hI', s'⟩
      exact ⟨M - (i + 1), by omega, i + 1, ρ', c', rfl, by omega, l', hI', s'⟩
    · refine hs i c ρi ci hI O p (cnt + i * k1) H0 _ σ2 H3 l2 ⟨P, al, s3⟩ (by omega) (fun ρ' c' σ' H' hI' l' s' => ?_) fun v d H' hd e b dd => ?_
      · refine ⟨ρ', c', l', hI', ?_⟩
        rw [Nat.succ_mul, ← Nat.add_assoc]
        exact s'
      · exact r v d H' hd e (b.mono (by omega)) dd
  · rw [decide_eq_false c]
    have e : i = M := by omega
    subst e
    exact iteF (q ρi ci σ2 H3 hI l2 ⟨P, al, s3⟩)
end
end DL
/-! DLO: len() of an object of an own class. -/
namespace PySem.W
open PySem
theorem lo_special {M : Model} {A : Around} {E : Value → Shared → Prop} {s : Shared} {K : Frag} {x C f : Addr} {ox : Obj} {od : Option Obj} {name : Str} {args : List Value} {Q : Option Value → Shared → Prop} (X : K.In s.heap) (I : InstAt s.heap x ox C od) (hs : findIn K (.ref C) name = some (some (.ref f))) (hf : isFn K (.ref f) = true)
    (h : wpAny M A (call (.ref f) (.ref x :: args)) (fun v => Q (some v)) E s) : wpAny M A (callSpecial? (.ref x) name args) Q E s := by
  unfold callSpecial?
  refine wpAny_bind (wpAny_bind (I.type.here ((looks_findIn X hs).here ?_)))
  have fin : wpAny M A (call (.ref f) ([.ref x] ++ args) >>= fun v => pure (some v)) Q E s := wpAny_bind (wpAny_mono h (fun v s' h' => wpAny_pure h') fun _ _ h' => h')
  exact wpAny_holding (wpAny_bind ((bind_fn X _ (beq_iff_eq.mp hf)).here fin))
end PySem.W
namespace DL
open PySem L2 Evl PyProof.Rows TL RZ
/-- what an own __len__ promises -/
def rLenO (C : Addr) (sp : Sp) (E : XK) : List V → Hp → VK → Prop := fun xs H Q => ∃ (a dx : Addr) (fs : List (Str × V)), xs = [.ref a] ∧ H a = some (.ins C dx fs) ∧ sp [.ref a] H (fun v H' => ∃ n : Nat, v = .int (n : Int) ∧ n < 1000000000 ∧ Q (.int (n : Int)) H') E
theorem call_lenO {X : Cx} {CX : CXT} {C f : Addr} {fd : FuncData} {ps : List Str} {n : Nat} {sp : Sp} {E : XK} (F : FnOk X.prog X.w X.K X.mg X.base CX n f fd ps sp) (hr : Room (n + 1) X.A)
    (hs : PySem.W.findIn X.K (.ref C) "__len__" = some (some (.ref f))) (hf : PySem.W.isFn X.K (.ref f) = true) (hb : Binds X.K fd ps []) (hx : Passes CX X E) : CallR X (.builtin "len") (rLenO C sp E) := by
  intro pins s σ H xs us Q I r h
  obtain ⟨a, dx, fs, rfl, ha, hsp⟩ := h
  obtain ⟨u, rfl, rx⟩ := vals1 r
  cases rx
  obtain ⟨mA, J, _⟩ := ins_get I.hok ha
  obtain ⟨od, J, _⟩ := J.look
  refine Calls.call_function_entry kind_len plain_len entry_len (args_len1 _) ?_
  unfold Builtin.«len»
  refine wpAny_bind (m := oneArg "len" _) (wpAny_pure ?_)
  have e0 : Env0 X.prog X.w X.K X.mg X.base X.A.in1 X.stack s H := by
    have e := I.env0
    exact ⟨e.frames, e.mod, e.bs, e.bsz, e.funs, e.frf, e.hok, e.bare⟩
  have hl := F.len _ _ _ _ hsp
  have r2 : Vals [V.ref a] [Value.ref a] := .cons rfl .nil
  refine wpAny_bind (m := callSpecial? (.ref a) (Str.ofString "__len__")) (PySem.W.lo_special I.kIn J hs hf (wpAny_call (codeAny_mono (F.run X.A.in1 X.stack s H ⟨[.ref a], []⟩ [.ref a] [.ref a] _ E hr.in1 e0 (by
    have := hb s [.ref a] I.kIn (by simpa using hl)
    simpa using this) r2 hsp) fun r s' hq => ?_)))
  cases r with
  | error e => exact hx pins σ H s e s' I hq
  | ok fl =>
    cases fl with
    | ret w =>
      obtain ⟨z, H', I', rz, n, ez, hn, q⟩ := I.after hq
      subst ez
      obtain ⟨t, rfl⟩ := rz
      refine wpAny_bind (wpAny_holding (wpAny_pure ?_))
      refine wpAny_bind (wpAny_letGo ?_)
      show wpAny _ _ (if (n : Int) < 0 then _ else _) _ _ _
      rw [if_neg (by omega)]
      show wpAny _ _ (if (n : Int) ≥ 2 ^ 63 then _ else _) _ _ _
      rw [if_neg (by omega)]
      exact wpAny_bind (wpAny_mkInt (wpAny_pure ⟨_, rfl, ⟨.int (n : Int), H', I'.tok _, ⟨_, rfl⟩, q⟩⟩))
    | next => exact False.elim hq
    | brk => exact False.elim hq
    | cont => exact False.elim hq
theorem kLenO {X : Cx} {K : PySem.W.Frag} {mg : Str → Option Value} {P : Program} {w : World} {base : Heap} {C f : Addr} {fd : FuncData} {ps : List Str} {n : Nat} {sp : Sp} {E : XK} (F : FnOk X.prog X.w X.K X.mg X.base CX0 n f fd ps sp) (hr : Room (n + 1) X.A)
    (hs : PySem.W.findIn X.K (.ref C) "__len__" = some (some (.ref f))) (hf : PySem.W.isFn X.K (.ref f) = true) (hb : Binds X.K fd ps []) (hx : Passes CX0 X E) : CallR X (.builtin "len") (rLenO C sp E) := call_lenO F hr hs hf hb hx
section
variable {O : List Addr} {n : Nat} {ρ : Rho} {te : TE} {E : XK} {C : Addr} {ks : List (PyData × PyData)} {R : List PyData → PyData → Prop}
theorem ed_lenO {m : Nat} (h : EvD O n te ρ (obD C ks)) (hR : R [obD C ks] (.int (m : Int))) (hm : m < 1000000000) : EvD O n (tCB (rLenO C (spD R) E) (tCons te tNil)) ρ (.int (m : Int)) := fun σ H hn s Q q => h σ H hn s _ fun v H1 e1 d1 => by
  have d1' := d1
  obtain ⟨a, dx, fs, rfl, ha, k⟩ := dq_ob d1
  refine ⟨a, dx, fs, rfl, (sub_of ha).1, O, [obD C ks], .int (m : Int), own_ex e1 s.own, .cons d1' .nil, hR, fun v H2 e2 d2 => ?_⟩
  cases d2
  exact ⟨m, rfl, hm, q _ H2 (e1.trans e2) (.int _)⟩
end
end DL
namespace DL
open PySem PySem.W PySem.Calls L2 PyProof.Rows TL RZ
open Builtin.Float (FormatSpec parseFormatSpec)
/-! ### f"{n:b}" -/
def fBin : FormatSpec := { align := 62, type := some 98 }
theorem fBin_ok : parseFormatSpec (Str.ofString "b").cps.toList "int" 62 = .ok fBin := by kernel_rfl
def binS (i : Int) : Str := intField' fBin (decide (i < 0)) [] ((Nat.toDigits 2 i.natAbs).map fun c => (if (98 : Nat) == 88 then c.toUpper else c).toNat) [] 4
theorem bin_tl {i : Int} (h : 0 ≤ i) : (binS i).cps.toList = (Nat.toDigits 2 i.natAbs).map Char.toNat := by
  unfold binS intField' fBin
  have e : ¬ i < 0 := by omega
  simp [e]
theorem bin_meets {i : Int} {t : Tok} (hz : (binS i).length ≤ sizeLine) :
    ∀ u, Meets (Builtin.«int.__format__» ⟨[.int i t, .str (Str.ofString "b") u], []⟩) (fun _ R s => ∀ t' k, R (.ok (.ret (.str (binS i) t'))) { s with toks := k }) := by
  intro u
  apply KPc.meets_of
  intro prog w A s Q E k
  unfold Builtin.«int.__format__»
  refine wpAny_bind (wpAny_of_eq (a := (_, _)) rfl ?_)
  refine wpAny_bind (wpAny_of_eq (a := _) rfl ?_)
  kxf_if
  refine wpAny_bind (wpAny_typeNameOf (T := "str") (typeIs_str _ _ _) (by decide) fun _ => ?_)
  refine wpAny_bind (wpAny_of_eq (a := some _) rfl ?_)
  kxf_if
  kxf_if
  refine wpAny_bind (wpAny_typeNameOfCut_int ?_)
  rw [fBin_ok]
  (repeat kxf_if)
  refine KXf.ret_text (T := binS i) ?_ ?_ k
  · rfl
  · exact hz
def tBin (te ts : TE) : TE := fun σ H Q => te σ H fun x H1 => ∃ i : Int, x = .int i ∧ (binS i).length ≤ 100000 ∧ ts σ H1 fun y H2 => y = .str (Str.ofString "b") ∧ Q (.str (binS i)) H2
theorem pe_bin {X : Cx} {e se : Expr} {te ts : TE} {pos : Pos} (he : PE X e te) (hs : PE X se ts) : PE X (.FormattedValue e (-1) (some se) pos) (tBin te ts) := by
  refine ⟨fun pins s σ H Q I h => ?_⟩
  refine wpAny_FormattedValue_spec (thn (he.run pins s σ H _ I h) fun v s1 hv => ?_)
  obtain ⟨x, H1, I1, r1, i, rfl, hl, q⟩ := hv
  obtain ⟨t, rfl⟩ := r1
  refine thn (hs.run pins s1 σ H1 _ I1 q) fun v2 s2 hv2 => ?_
  obtain ⟨y, H2, I2, r2, rfl, q2⟩ := hv2
  obtain ⟨t2, rfl⟩ := r2
  refine ⟨_, _, rfl, ?_⟩
  exact KXf.field_int rfl (by decide +kernel) (by decide +kernel) (bin_meets (Nat.le_trans hl (by decide))) fun t' k => ⟨.str (binS i), H2, I2.tok _, ⟨_, rfl⟩, q2⟩
section
variable {O : List Addr} {n : Nat} {ρ : Rho} {te ts : TE}
theorem ed_bin {i : Int} (h : EvD O n te ρ (.int i)) (h2 : EvD O n ts ρ (.str (Str.ofString "b"))) (hl : (binS i).length ≤ 100000) : EvD O n (tBin te ts) ρ (.str (binS i)) := fun σ H hn s Q q => h σ H hn s _ fun v H1 e1 d1 => by
  cases d1
  refine ⟨i, rfl, hl, h2 σ H1 hn (s.ex e1) _ fun v2 H2 e2 d2 => ?_⟩
  cases d2
  exact ⟨rfl, q _ H2 (e1.trans e2) (.str _)⟩
/-- the signs of a text -/
def sigD (x : Str) : List PyData := x.cps.toList.map fun c => PyData.str ⟨#[c]⟩
theorem it_str {x : Str} (h : EvD O n te ρ (.str x)) : IterD O n (iStr te) ρ (sigD x) := fun σ H hn s R q => h σ H hn s _ fun v H1 e1 d1 => by
  cases d1
  have l : (sigD x).length = x.cps.size := by
    unfold sigD
    rw [List.length_map, Array.length_toList]
  refine ⟨x, rfl, q (Its x) H1 (fun _ _ => True) (fun i H v H' => H' = H ∧ ∃ c, x.cps[i]? = some c ∧ v = .str ⟨#[c]⟩) e1 (fun P => ?_) True.intro (fun _ _ _ _ _ _ => True.intro) ?_⟩
  · rw [l]
    exact walk_str.mono (fun _ _ => True.intro) fun i H2 x H3 hi _ y => y
  · rintro P i H2 v H3 hi _ _ ⟨rfl, c, hc, rfl⟩
    refine ⟨Evl.Ex.refl _, .str ⟨#[c]⟩, ?_, .str _⟩
    unfold sigD
    rw [List.getElem?_map, Array.getElem?_toList, hc]
    rfl
end
end DL
/-! DTM: tuple * int where the tuple itself comes back (an empty one, or once). -/
namespace L2
open PySem PySem.Spec PyProof.Rows
theorem tuple_mulS (l : Addr) (items : Array Value) (n : Nat) (sl : Array (Option Value)) (dd : Option Addr) (x : Int) (u : Tok) (c0 : (decide (x < -(2 ^ 63)) || decide (x ≥ 2 ^ 63)) = false) (c1 : (items.isEmpty || x == 1) = true) :
    Meets (Builtin.«tuple.__mul__» ⟨[.ref l, .int x u], []⟩) (fun _ R s => s.heap.get? l = some { cls := .type "tuple", dict := dd, data := .seq items n, slots := sl } ∧ R (.ok (.ret (Value.ref l))) s) :=
  .of_wp fun prog w A R s h => by
    obtain ⟨hp, g, d, tk, os⟩ := s
    obtain ⟨hl, h⟩ := h
    have f1 := AutoSeq1.idx_int
    wp_walk using wpAny_loadPart' hl
    repeat (first
      | (refine wpAny_ite_false (decide_eq_false (by rw [c0]; exact Bool.false_ne_true)) ?_; wp_walk using wpAny_loadPart' hl)
      | (refine wpAny_ite_true (decide_eq_true c1) ?_; wp_walk using wpAny_loadPart' hl))
    exact ⟨_, rfl, h⟩
def rRepU (K : PySem.W.Frag) : R2 := fun x y H Q => ∃ l k xs, x = .ref l ∧ y = .int k ∧ SqT K H l xs ∧ (xs = [] ∨ k = 1) ∧ 0 ≤ k ∧ k ≤ 1000 ∧ Q (.ref l) H
section
variable {X : Cx}
theorem op_repU : OpR X (binaryOp .Mult) (rRepU X.K) := by
  intro pins s σ H x y v u Q I rx ry h
  obtain ⟨l, k, xs, rfl, rfl, hT, hne, h1, h2, q⟩ := h
  cases rx
  obtain ⟨t, rfl⟩ := ry
  obtain ⟨its, r, ⟨⟨cls, dd, data, sl⟩, ho, hc, n, hd⟩, hs⟩ := I.tuple hT
  simp only at hc hd
  subst hc hd
  have hle : its.length = xs.length := r.length.symm
  have c0 : (decide (k < -(2 ^ 63)) || decide (k ≥ 2 ^ 63)) = false := by
    rw [decide_eq_false (by omega), decide_eq_false (by omega)] <;> rfl
  have c1 : (its.toArray.isEmpty || k == 1) = true := by
    rcases hne with rfl | rfl
    · cases its with
      | nil => rfl
      | cons a b => cases hle
    · rw [Bool.or_eq_true]
      exact .inr rfl
  refine wpAny_binaryOp_repeat_ref (T := "tuple") (U := "int") (by decide) ⟨_, ho, rfl⟩ (fun s' => typeIs_int s' k t) noFill_tuple_mul F.fills_int_mul F.slot_int_rmul repeat_tuple F.slot_int_index.lookup
    (call_meets F.slot_int_rmul (typeIs_int s k t) F.entry_int_rmul (F.args_int_rmul_2 _ _) (int_rmul_tuple k t l its.toArray n dd sl)
      ⟨ho, rfl, ⟨_, ho, rfl⟩, call_meets F.slot_tuple_mul ⟨_, ho, rfl⟩ F.entry_tuple_mul (F.args_tuple_mul_2 _ _) (tuple_mulS l its.toArray n sl dd k t c0 c1) ⟨ho, ?_⟩⟩)
  exact ⟨.ref l, H, I, rfl, q⟩
/-- both -/
def rRepA (K : PySem.W.Frag) : R2 := fun x y H Q => rRepT K x y H Q ∨ rRepU K x y H Q
theorem kRepA {K : PySem.W.Frag} (hK : X.K = K) : OpR X (binaryOp .Mult) (rRepA K) := by
  subst hK
  intro pins s σ H x y v u Q I rx ry h
  rcases h with h | h
  · exact op_repT pins s σ H x y v u Q I rx ry h
  · exact op_repU pins s σ H x y v u Q I rx ry h
end
end L2
namespace DL
open PySem L2 Evl PyProof.Rows TL RZ
theorem rd_repA {O : List Addr} {K : PySem.W.Frag} {xs : List PyData} {k : Int} (hl : xs.length ≤ 1000) (h1 : 1 ≤ k) (h2 : k ≤ 1000) : RD O (rRepA K) (.tuple xs) (.int k) (.tuple (List.replicate k.toNat xs).flatten) := by
  by_cases c : xs = [] ∨ k = 1
  · have e : (List.replicate k.toNat xs).flatten = xs := by
      rcases c with rfl | rfl
      · induction k.toNat with
        | zero => rfl
        | succ n ih => rw [List.replicate_succ, List.flatten_cons, ih]; rfl
      · simp
    rw [e]
    exact fun H v w ho a b Q q => by
      cases a with
      | tup a d =>
        cases b
        refine .inr ⟨_, k, _, rfl, rfl, st_of (sub_of a).1, ?_, by omega, h2, q _ H (Ex.refl H) (.tup a d)⟩
        rcases c with c | c
        · subst c
          cases d
          exact .inl rfl
        · exact .inr c
  · have c1 : xs ≠ [] := fun z => c (.inl z)
    have c2 : k ≠ 1 := fun z => c (.inr z)
    exact fun H v w ho a b Q q => .inl (rd_repT c1 hl (by omega) h2 H v w ho a b Q q)
end DL
/-! any(..) of a list of truths; tuple * n where n may be 0; draws in `and`, `or`; a for over a drawn list -/
namespace L2
open PySem PySem.Spec PyProof.Rows
theorem tuple_mulZ (l : Addr) (items : Array Value) (n : Nat) (sl : Array (Option Value)) (dd : Option Addr) (u : Tok) (c1 : (items.isEmpty || (0 : Int) == 1) = false) :
    Meets (Builtin.«tuple.__mul__» ⟨[.ref l, .int 0 u], []⟩) (fun _ R s => s.heap.get? l = some { cls := .type "tuple", dict := dd, data := .seq items n, slots := sl } ∧
      R (.ok (.ret (Value.ref s.heap.objs.size))) { s with heap := s.heap.push { cls := Value.type "tuple", data := Data.seq #[] }, toks := s.toks }) :=
  .of_wp fun prog w A R s h => by
    obtain ⟨hp, g, d, tk, os⟩ := s
    obtain ⟨hl, h⟩ := h
    have f1 := AutoSeq1.idx_int
    wp_walk using wpAny_loadPart' hl
    repeat (first
      | (refine wpAny_ite_false (decide_eq_false (by decide)) ?_; wp_walk using wpAny_loadPart' hl)
      | (refine wpAny_ite_false (decide_eq_false (by rw [c1]; exact Bool.false_ne_true)) ?_; wp_walk using wpAny_loadPart' hl)
      | (refine wpAny_ite_true (decide_eq_true rfl) ?_; wp_walk using wpAny_loadPart' hl))
    exact ⟨_, rfl, h⟩
def rRepZ (K : PySem.W.Frag) : R2 := fun x y H Q => ∃ l xs, x = .ref l ∧ y = .int 0 ∧ SqT K H l xs ∧ xs ≠ [] ∧ ∀ p, H p = none → Q (.ref p) (upd H p (.tup []))
section
variable {X : Cx}
theorem op_repZ : OpR X (binaryOp .Mult) (rRepZ X.K) := by
  intro pins s σ H x y v u Q I rx ry h
  obtain ⟨l, xs, rfl, rfl, hT, hne, q⟩ := h
  cases rx
  obtain ⟨t, rfl⟩ := ry
  obtain ⟨its, r, ⟨⟨cls, dd, data, sl⟩, ho, hc, n, hd⟩, hs⟩ := I.tuple hT
  simp only at hc hd
  subst hc hd
  have hle : its.length = xs.length := r.length.symm
  have c1 : (its.toArray.isEmpty || (0 : Int) == 1) = false := by
    cases its with
    | nil =>
      cases xs with
      | nil => exact absurd rfl hne
      | cons _ _ => cases hle
    | cons a b => rfl
  refine wpAny_binaryOp_repeat_ref (T := "tuple") (U := "int") (by decide) ⟨_, ho, rfl⟩ (fun s' => typeIs_int s' 0 t) noFill_tuple_mul F.fills_int_mul F.slot_int_rmul repeat_tuple F.slot_int_index.lookup
    (call_meets F.slot_int_rmul (typeIs_int s 0 t) F.entry_int_rmul (F.args_int_rmul_2 _ _) (int_rmul_tuple 0 t l its.toArray n dd sl)
      ⟨ho, rfl, ⟨_, ho, rfl⟩, call_meets F.slot_tuple_mul ⟨_, ho, rfl⟩ F.entry_tuple_mul (F.args_tuple_mul_2 _ _) (tuple_mulZ l its.toArray n sl dd t c1) ⟨ho, ?_⟩⟩)
  refine ⟨.ref s.heap.objs.size, _, I.laid (t' := s.toks) (o := .tup []) (fun b ob q => Heap.get?_push_of_some _ q) (Nat.le_refl _) ?_, rfl, q _ (I.hok.fresh (Nat.le_refl _))⟩
  exact ⟨by rw [sizeLine_eq]; exact Nat.zero_le _, [], .nil, IsTup.new _ _⟩
def rRepB (K : PySem.W.Frag) : R2 := fun x y H Q => rRepA K x y H Q ∨ rRepZ K x y H Q
theorem kRepB {K : PySem.W.Frag} (hK : X.K = K) : OpR X (binaryOp .Mult) (rRepB K) := by
  subst hK
  intro pins s σ H x y v u Q I rx ry h
  rcases h with h | h
  · exact kRepA rfl pins s σ H x y v u Q I rx ry h
  · exact op_repZ pins s σ H x y v u Q I rx ry h
end
end L2
namespace DL
open PySem L2 Evl PyProof.Rows TL RZ
section
variable {P : Program} {w : World} {K : PySem.W.Frag} {mg : Str → Option Value} {base : Heap} {X : Cx} {O : List Addr}
theorem rd_repB {xs : List PyData} {k : Int} (hn : xs ≠ []) (hl : xs.length ≤ 1000) (h1 : 0 ≤ k) (h2 : k ≤ 1000) : RD O (rRepB K) (.tuple xs) (.int k) (.tuple (List.replicate k.toNat xs).flatten) := fun H v w ho a b Q q => by
  by_cases c : 1 ≤ k
  · exact .inl (rd_repA hl c h2 H v w ho a b Q q)
  · have e : k = 0 := by omega
    subst e
    cases a with
    | tup a d =>
      cases b
      refine .inr ⟨_, _, rfl, rfl, st_of (sub_of a).1, fun z => hn ?_, fun p hp => q _ _ (Ex.new hp) (.tup (sub_mk upd_same (not_own ho hp)) .nil)⟩
      subst z
      cases d
      rfl
theorem kAny (hK : X.K = K) (hc : X.calm = true) : CallR X (.builtin "any") (rAny K) := by subst hK; exact cr_any hc
theorem rc_any {bs : List Bool} : RDC O (rAny K) [.list (dB bs)] (.bool (bs.any id)) := fun H vs _ h Q q => by
  cases h with
  | cons h k =>
    cases k
    cases h with
    | lst a k =>
      have e := bools_dq k
      subst e
      exact ⟨_, bs, rfl, sq_of (sub_of a).1, q _ H (Ex.refl H) (.bl _)⟩
end
section
variable {n k k1 k2 : Nat} {ρ : Rho} {te ta tb : TE} {tt tu : TT} {t : TS} {g : TG} {S : PyData → Prop} {K : PySem.W.Frag} {c : Own} {vs : List Nat} {ds es : List PyData}
/-- both drawn tests are false -/
theorem ebt_orF (h1 : EvBT n tt ρ k1 fun b => b = false) (h2 : EvBT n tu ρ k2 fun b => b = false) : EvBT n (tOr tt tu) ρ (k1 + k2) fun b => b = false := fun O p c σ H hn s hc Q q =>
  h1 O p c σ H hn s (by omega) _ fun b H1 hb e1 b1 => by
    subst hb
    exact h2 O p (c + k1) σ H1 hn (s.step e1 b1) (by omega) Q fun b2 H2 hb2 e2 b2' => q b2 H2 hb2 (e1.trans e2) (by rw [← Nat.add_assoc]; exact b2')
theorem eb_andT (h1 : EvB n ta ρ k1 fun d => d = .bool true) (h2 : EvB n tb ρ k2 fun d => d = .bool true) : EvB n (tAndV ta tb) ρ (k1 + k2) fun d => d = .bool true := fun O p c σ H hn s hc Q q =>
  h1 O p c σ H hn s (by omega) _ fun v d H1 hd e1 b1 d1 => by
    subst hd
    cases d1
    exact ⟨true, rfl, h2 O p (c + k1) σ H1 hn (s.step e1 b1) (by omega) Q fun v2 d2 H2 hd2 e2 b2 dd2 => q v2 d2 H2 hd2 (e1.trans e2) (by rw [← Nat.add_assoc]; exact b2) dd2⟩
theorem itAt_list {O : List Addr} {σ : L2.St} {H : Hp} {v : V} (h : Dq (sub H O) v (.list ds)) : IterAt O (iList K (fun _ H Q => Q v H)) σ H ds := fun R q => by
  cases h with
  | @lst a xs _ ha k =>
    refine ⟨a, rfl, ⟨xs, sq_of (sub_of ha).1⟩, q (Itl K a) H (fun P H2 => sub H2 P a = some (.lst xs) ∧ DqAll (sub H2 P) xs ds) (YAt xs) (Ex.refl H) (fun P => ?_) ⟨ha, k⟩ (fun P P' H2 H3 g e => ⟨e _ _ g.1, g.2.mono e⟩) ?_⟩
    · rw [← k.length]
      exact walk_list.mono (fun H2 g => sq_of (sub_of g.1).1) fun _ _ _ _ _ _ y => y
    · rintro P i H2 x H3 _ _ ⟨g1, g2⟩ ⟨rfl, hx⟩
      obtain ⟨d, h1, h2⟩ := g2.getV hx
      exact ⟨Ex.refl _, d, h1, h2⟩
/-- a for over a drawn list -/
theorem rg_forL {M : Nat} {A : List PyData → Prop} {tl : TE} (h : EvB n tl ρ k (fun x => ∃ ds, x = .list ds ∧ A ds)) (hA : ∀ ds, A ds → ds.length ≤ M) (Iv : List PyData → Nat → Rho → Own → Prop) (h0 : ∀ ds, A ds → Iv ds 0 ρ c) (hv0 : 0 ∉ vs)
    (hs : ∀ ds, A ds → ∀ i e, ds[i]? = some e → ∀ ρi ci, Iv ds i ρi ci → ∃ ρ', (∀ P, TgD P n vs g ρi e ρ') ∧ ρ'[0]? = some none ∧ (∀ a fs, ci a = some fs → a ∉ vs ∧ ρ'[a]? = some none) ∧ RG n t ρ' ci k1 (Iv ds (i + 1)) S) :
    RG n (tFor (iList K tl) g t) ρ c (k + M * k1) (fun ρ' c' => ∃ ds, A ds ∧ Iv ds ds.length ρ' c') S := fun O p cnt H0 D σ H hn ⟨P0, al0, s0⟩ hcc q r =>
  h P0 p cnt σ H hn s0.sb (by omega) _ fun v x H1 hx e1 b1 d1 => by
    obtain ⟨ds, rfl, hAd⟩ := hx
    have s1 := s0.step e1 b1
    have hm := hA ds hAd
    have hMk : ds.length * k1 ≤ M * k1 := Nat.mul_le_mul_right _ hm
    exact rg_for_at (k1 := k1) (S := S) (itAt_list (K := K) (σ := σ) d1) hn s1 (Iv ds) (h0 ds hAd) hv0 (by omega) (hs ds hAd) (fun ρ' c' σ' H' hI hl ⟨P, al, s⟩ => q ρ' c' σ' H' ⟨ds, hAd, hI⟩ hl ⟨P, al, s.bmono (by omega)⟩) fun v d H' hd e b dd => r v d H' hd e (b.mono (by omega)) dd
end
end DL
/-! DST: set(..) of a list of numbers, and sorted of it. -/
namespace L2
open PySem PySem.Spec PyProof.Rows
/-- a set as it is made -/
abbrev bareS (w : World) : Obj := { cls := .type "set", dict := none, data := .set #[] 0 (.fresh 0 0 (!w.params.followText "set-order")) }
section
variable {P : Program} {w : World} {A : Around} {E : Value → Shared → Prop} {s : Shared}
/-- what the set's __init__ does with a list -/
theorem init_list {lst : Addr} {vs : Array Value} {ns : List Int} (quiet : A.handled = none) (isl : s.heap.IsList lst vs) (nums : IntsAre vs.toList ns) (few : ns.length + 1 < scanBound) {R : Result → Shared → Prop}
    (fin : ∀ (h' : Heap) (tk c : Nat), SetR w h' s.heap.objs.size (fun j => decide (j ∈ ns)) c → c ≤ ns.length → (∀ b o, s.heap.get? b = some o → h'.get? b = some o) → R (.ok (.ret .none)) { s with heap := h', toks := tk }) :
    codeAny (model P w) A (.builtin "set.__init__" ⟨[.ref s.heap.objs.size, .ref lst], []⟩) R { s with heap := s.heap.push (bareS w) } := by
  have sz : vs.size = ns.length := by have q := IntsAre.length nums; rwa [Array.length_toList] at q
  have atS : (s.heap.push (bareS w)).get? s.heap.objs.size = some (bareS w) := Heap.get?_push_size _ rfl
  have tyS : Shared.TypeIs { s with heap := s.heap.push (bareS w) } (.ref s.heap.objs.size) "set" := ⟨_, atS, rfl⟩
  have up1 : (s.heap.push (bareS w)).objs.size = s.heap.objs.size + 1 := Heap.size_push ..
  obtain ⟨⟨cl, dc, dt, sl⟩, got, rfl, k, rfl⟩ := isl
  have got1 : (s.heap.push (bareS w)).get? lst = some ⟨.type "list", dc, .seq vs k, sl⟩ := Heap.get?_push_of_some _ got
  have isl1 : (s.heap.push (bareS w)).IsList lst vs := ⟨_, got1, rfl, k, rfl⟩
  have ltS : lst < s.heap.objs.size := Heap.lt_size got
  have no1 := F.sub_list_set; have no2 := F.sub_list_frozenset
  have no3 : (Value.type "list" == Value.type "dict") = false := by decide
  have each : ∀ (i : Nat) (v : Value), vs[i]? = some v → ∃ k t, ns[i]? = some k ∧ v = .int k t := fun i v e => by
    have hi : i < ns.length := by rw [← sz]; exact (Array.getElem?_eq_some_iff.mp e).1
    obtain ⟨t, q⟩ := IntsAre.int_at nums i v (by rw [Array.getElem?_toList]; exact e)
    exact ⟨_, t, by rw [List.getD_eq_getElem?_getD, List.getElem?_eq_getElem hi]; rfl, q⟩
  refine codeAny_builtin F.entry_set_init ?_
  rw [Around.under_plainId F.called_set.init.plain _]
  unfold Builtin.«set.__init__» noKeywords Builtin.Frozenset.updateFrom
  generalize hIt : pyIter = IT
  wp_walk; subst hIt
  refine wpAny_pyIter_list isl1 (wpAny_bind (wpAny_runValue ?_))
  have q1 : A.in1.in1.handled = none := by simp [quiet]
  have far : lst ≠ (s.heap.push (bareS w)).objs.size := by rw [up1]; exact Nat.ne_of_lt (Nat.lt_succ_of_lt ltS)
  have own : s.heap.objs.size ∉ [(s.heap.push (bareS w)).objs.size, lst] := fun z => by
    rcases List.mem_cons.mp z with z | z
    · rw [up1] at z; exact absurd z (Nat.ne_of_lt (Nat.lt_succ_self _))
    · exact absurd (List.mem_singleton.mp z) (Nat.ne_of_gt ltS)
  refine set_update_ints ((Walks.list q1 _ lst far vs).toS) s.heap.objs.size own ns sz few each (vs.size - 0) 0 _ (by omega) (Nat.zero_le _) ⟨⟨_, Heap.get?_push_size _ rfl, rfl, rfl⟩, isl1.push _⟩
    ⟨0, Nat.le_refl 0, setR_new_at (Heap.get?_push_of_some _ atS)⟩ fun s2 c mv cl SR => ?_
  obtain ⟨h2, g2, d2, t2, o2⟩ := s2
  cases (show g2 = s.gens from mv.gens); cases (show d2 = s.drawn from mv.drawn); cases (show o2 = s.os from mv.os)
  rw [sz] at cl
  refine wpAny_pure (wpAny_pure (fin h2 t2 c SR cl fun b o e => ?_))
  have lb : b < s.heap.objs.size := Heap.lt_size e
  refine mv.heap b o (fun z => ?_) (Heap.get?_push_of_some _ (Heap.get?_push_of_some _ e))
  rcases List.mem_cons.mp z with z | z
  · exact absurd z (Nat.ne_of_lt lb)
  · have q := List.mem_singleton.mp z
    rw [up1] at q
    exact absurd q (Nat.ne_of_lt (Nat.lt_succ_of_lt lb))
/-- set(xs) of a list of numbers -/
theorem call_setL {lst : Addr} {vs : Array Value} (ns : List Int) {Q : Value → Shared → Prop} (quiet : A.handled = none) (isl : s.heap.IsList lst vs) (nums : IntsAre vs.toList ns) (few : ns.length + 1 < scanBound)
    (fin : ∀ (h' : Heap) (tk c : Nat), SetR w h' s.heap.objs.size (fun j => decide (j ∈ ns)) c → c ≤ ns.length → (∀ b o, s.heap.get? b = some o → h'.get? b = some o) → Q (.ref s.heap.objs.size) { s with heap := h', toks := tk }) :
    wpAny (model P w) A (call (.type "set") [.ref lst]) Q E s := by
  obtain ⟨c0, t0, mro0⟩ := F.called_set.mro
  have made0 := F.called_set.made; have sub0 := F.called_set.sub
  refine wpAny_call (codeAny_of_tree (show wpAny _ _ (callAny (.type "set") _) _ _ _ from wpAny_pure ⟨Code.quiet_builtin _ (by decide +kernel), codeAny_builtin F.entry_type_call ?_⟩))
  rw [Around.under_plain (weight_type_call_type "set" [.ref lst] []) rfl]
  have nt0 := F.called_set.notType; have cc0 := F.called_set.canCreate; have tc0 := F.typeCall_set_1 (.ref lst)
  repeat (any_goals (first | assumption | wp_step))
  refine codeAny_mono (code_set_led1 (.ref lst) (E := E) (Q₁ := fun obj s1 => obj = .ref s.heap.objs.size ∧ s1 = { s with heap := s.heap.push (bareS w) }) ⟨rfl, rfl⟩) fun r s1 hr => ?_
  match r, hr with
  | .error e, hr => exact hr
  | .ok (.ret obj), hr =>
    obtain ⟨rfl, rfl⟩ := hr
    have atS : (s.heap.push (bareS w)).get? s.heap.objs.size = some (bareS w) := Heap.get?_push_size _ rfl
    have tyS : Shared.TypeIs { s with heap := s.heap.push (bareS w) } (.ref s.heap.objs.size) "set" := ⟨_, atS, rfl⟩
    have look0 := F.called_set.init.lookup; have bind0 := F.called_set.init.bind (.ref s.heap.objs.size)
    repeat (any_goals (first | assumption | wp_step))
    refine codeAny_mono (codeAny_call_builtin_code (R := wants (fun r s2 => r = .none ∧ ∃ h' tk c, s2 = { s with heap := h', toks := tk } ∧ SetR w h' s.heap.objs.size (fun j => decide (j ∈ ns)) c ∧ c ≤ ns.length ∧ (∀ b o, s.heap.get? b = some o → h'.get? b = some o)) E) (Code.quiet_builtin _ (by decide +kernel)) (check_set_init_1 tyS (init_list (A := A.in1) (by simp [quiet]) isl nums few fun h' tk c SR cl kp => ⟨rfl, h', tk, c, rfl, SR, cl, kp⟩))) fun r2 s2 hr2 => ?_
    match r2, hr2 with
    | .error e, hr2 => exact hr2
    | .ok (.ret r), hr2 =>
      obtain ⟨rfl, h', tk, c, rfl, SR, cl, kp⟩ := hr2
      repeat (any_goals (first | assumption | wp_step))
      exact fin _ _ _ SR cl kp
    | .ok .next, hr2 => exact hr2.elim
    | .ok .brk, hr2 => exact hr2.elim
    | .ok .cont, hr2 => exact hr2.elim
  | .ok .next, hr => exact hr.elim
  | .ok .brk, hr => exact hr.elim
  | .ok .cont, hr => exact hr.elim
end
section
variable {X : Cx}
def rSetLn (K : PySem.W.Frag) (w : World) : List V → Hp → VK → Prop := fun xs H Q => ∃ (l : Addr) (ns : List Int), xs = [.ref l] ∧ SqL K H l (ns.map V.int) ∧ ns.length ≤ 1000 ∧ ∀ (p : Addr) (n : Nat), H p = none → n ≤ ns.length → Q (.ref p) (upd H p (SetO w p (fun j => decide (j ∈ ns)) n))
theorem cr_setLn (hc : X.calm = true) : CallR X (.type "set") (rSetLn X.K X.w) := by
  intro pins s σ H xs us Q I r h
  obtain ⟨l, ns, rfl, hq, hl, q⟩ := h
  cases r with
  | cons r0 rr =>
    cases rr
    cases r0
    obtain ⟨its, rv, p', _⟩ := I.list hq
    refine call_setL ns (I.ok.hd hc) p'.isList (ints_of_vals rv) (by unfold scanBound; omega) fun h' tk c SR cl kp => ?_
    exact ⟨.ref _, upd H s.heap.objs.size (SetO X.w s.heap.objs.size (fun j => decide (j ∈ ns)) c), I.laid (t' := tk) kp (Nat.le_refl _) (setO_new SR), rfl, q _ c (I.hok.fresh (Nat.le_refl _)) cl⟩
theorem kSetLn {K : PySem.W.Frag} {w : World} (hK : X.K = K) (hw : X.w = w) (hc : X.calm = true) : CallR X (.type "set") (rSetLn K w) := by
  subst hK; subst hw
  exact cr_setLn hc
theorem kSortedS {w : World} (hw : X.w = w) (hc : X.calm = true) : CallR X (.builtin "sorted") (rSortedSet w) := by
  subst hw
  exact cr_sortedSet hc
end
end L2
namespace DL
open PySem L2 Evl PyProof.Rows TL RZ
/-- two rising rows of the same numbers -/
theorem rise_uniq : ∀ {a b : List Int}, a.Pairwise (· < ·) → b.Pairwise (· < ·) → (∀ k, k ∈ a ↔ k ∈ b) → a = b
  | [], [], _, _, _ => rfl
  | [], y :: b, _, _, h => absurd ((h y).mpr (List.mem_cons_self ..)) (by simp)
  | x :: a, [], _, _, h => absurd ((h x).mp (List.mem_cons_self ..)) (by simp)
  | x :: a, y :: b, ha, hb, h => by
    have h1 := List.pairwise_cons.mp ha
    have h2 := List.pairwise_cons.mp hb
    have e : x = y := by
      rcases List.mem_cons.mp ((h x).mp (List.mem_cons_self ..)) with q | q
      · exact q
      · rcases List.mem_cons.mp ((h y).mpr (List.mem_cons_self ..)) with q2 | q2
        · exact q2.symm
        · have := h1.1 y q2
          have := h2.1 x q
          omega
    subst e
    rw [rise_uniq h1.2 h2.2 fun k => ⟨fun hk => by
      rcases List.mem_cons.mp ((h k).mp (List.mem_cons_of_mem _ hk)) with q | q
      · have := h1.1 k hk
        omega
      · exact q, fun hk => by
      rcases List.mem_cons.mp ((h k).mpr (List.mem_cons_of_mem _ hk)) with q | q
      · have := h2.1 k hk
        omega
      · exact q⟩]
theorem ed_sortedSet {O : List Addr} {n : Nat} {ρ : Rho} {te : TE} {K : PySem.W.Frag} {w : World} {ns zs : List Int} (h : EvD O n te ρ (.list (dI ns))) (hl : ns.length < 64) (hz : zs.Pairwise (· < ·)) (hm : ∀ k, k ∈ zs ↔ k ∈ ns) :
    EvD O n (tCB (rSortedSet w) (tCons (tCB (rSetLn K w) (tCons te tNil)) tNil)) ρ (.list (dI zs)) := fun σ H hn s Q q => h σ H hn s _ fun v H1 e1 d1 => by
  cases d1 with
  | @lst a xs _ ha k =>
    have ex := ints_dq k
    subst ex
    refine ⟨a, ns, rfl, sq_of (sub_of ha).1, by omega, fun p m hp hm2 => ?_⟩
    refine ⟨p, _, m, rfl, upd_same, by omega, fun ms r hs hmem _ hr => ?_⟩
    have e : ms = zs := rise_uniq hs hz fun j => by rw [hmem j, hm j, decide_eq_true_eq]
    subst e
    have x2 : Ex H1 (upd (upd H1 p (SetO w p (fun j => decide (j ∈ ns)) m)) r (.lst (ms.map V.int))) := (Ex.new hp).trans (Ex.new hr)
    have own2 := own_ex (e1.trans (Ex.new hp (o := SetO w p (fun j => decide (j ∈ ns)) m))) s.own
    exact q _ _ (e1.trans x2) (.lst (sub_mk upd_same (not_own own2 hr)) (dq_ints ms))
/-! rising rows, computed -/
def insU (a : Int) : List Int → List Int
  | [] => [a]
  | y :: ys => if a < y then a :: y :: ys else if a = y then y :: ys else y :: insU a ys
def riseOf : List Int → List Int
  | [] => []
  | a :: l => insU a (riseOf l)
theorem insU_mem (a k : Int) : ∀ l, k ∈ insU a l ↔ k = a ∨ k ∈ l
  | [] => by simp [insU]
  | y :: ys => by
    have ih := insU_mem a k ys
    show k ∈ (if a < y then a :: y :: ys else if a = y then y :: ys else y :: insU a ys) ↔ _
    split
    · simp
    · split
      · rename_i h
        subst h
        simp
      · rw [List.mem_cons, ih, List.mem_cons]
        constructor
        · rintro (h | h | h)
          · exact .inr (.inl h)
          · exact .inl h
          · exact .inr (.inr h)
        · rintro (h | h | h)
          · exact .inr (.inl h)
          · exact .inl h
          · exact .inr (.inr h)
theorem insU_ok (a : Int) : ∀ l : List Int, l.Pairwise (· < ·) → (insU a l).Pairwise (· < ·)
  | [], _ => by simp [insU]
  | y :: ys, h => by
    have h2 := List.pairwise_cons.mp h
    show (if a < y then a :: y :: ys else if a = y then y :: ys else y :: insU a ys).Pairwise _
    split
    · rename_i c
      refine List.pairwise_cons.mpr ⟨fun x hx => ?_, h⟩
      rcases List.mem_cons.mp hx with rfl | hx
      · exact c
      · have := h2.1 x hx
        omega
    · split
      · exact h
      · refine List.pairwise_cons.mpr ⟨fun x hx => ?_, insU_ok a ys h2.2⟩
        rcases (insU_mem a x ys).mp hx with rfl | hx
        · omega
        · exact h2.1 x hx
theorem rise_ok : ∀ l, (riseOf l).Pairwise (· < ·)
  | [] => List.Pairwise.nil
  | a :: l => insU_ok a _ (rise_ok l)
theorem rise_mem (k : Int) : ∀ l, k ∈ riseOf l ↔ k ∈ l
  | [] => Iff.rfl
  | a :: l => by
    show k ∈ insU a (riseOf l) ↔ _
    rw [insU_mem, rise_mem k l, List.mem_cons]
theorem it_rng2 {O : List Addr} {n : Nat} {ρ : Rho} {ta' : TA} {lo hi : Nat} (h : EvDA O n ta' ρ [.int (lo : Int), .int (hi : Int)]) (hm : hi ≤ 1000000) (hl : lo ≤ hi) : IterD O n (iRng2 ta') ρ ((List.range (hi - lo)).map fun k => PyData.int ((lo + k : Nat) : Int)) := fun σ H hn s R q => h σ H hn s _ fun vs H1 e1 d1 => by
  cases d1 with
  | cons a k =>
    cases a
    cases k with
    | cons b k =>
      cases b
      cases k
      refine ⟨(lo : Int), (hi : Int), rfl, ⟨by omega, by omega, by omega, by omega⟩, ?_⟩
      have e : ((hi : Int) - (lo : Int)).toNat = hi - lo := by omega
      rw [e]
      have l : ((List.range (hi - lo)).map fun k => PyData.int ((lo + k : Nat) : Int)).length = hi - lo := by
        rw [List.length_map, List.length_range]
      refine q (Itr (lo : Int) (hi - lo)) H1 (fun _ _ => True) (YFn fun i => .int ((lo : Int) + (i : Nat))) e1 (fun P => ?_) True.intro (fun _ _ _ _ _ _ => True.intro) ?_
      · rw [l]
        exact walk_range.mono (fun _ _ => True.intro) fun i H2 x H3 hi _ y => ⟨y.1, y.2⟩
      · rintro P i H2 x H3 hi _ _ ⟨rfl, rfl⟩
        rw [l] at hi
        refine ⟨Ex.refl _, .int ((lo + i : Nat) : Int), ?_, ?_⟩
        · rw [List.getElem?_map, List.getElem?_range hi]
          rfl
        · have e2 : ((lo : Int) + (i : Int)) = ((lo + i : Nat) : Int) := by omega
          show Dq _ (V.int ((lo : Int) + (i : Int))) _
          rw [e2]
          exact .int _
theorem rm_parR {O : List Addr} {n m i : Nat} {ρ : Rho} {c : Own} {d : PyData} {te : TE} (h : ∀ P, EvD P n te ρ d) (hm : m < n) (hi : i < n) (hr : m < ρ.length) (hc : c m = none) (hci : c i = none) (hmi : m ≠ i) : RunM O n (tPar i m (tCons te (tCons (tLst tNil) tNil))) ρ c ((ρ.set i (some d)).set m none) (c.put m []) := fun H0 D σ H hn ⟨P, al, s⟩ k => by
  refine h P σ H hn s.sd _ fun v H1 e1 d1 => ?_
  refine ⟨(by show 0 ≤ sizeLine; decide), fun p np => ?_⟩
  have s1 := (s.step e1).put d1 (by rw [hn]; exact hi) hci
  have s2 := s1.own (xs := []) (ds := []) np .nil (by rw [List.length_set, hn]; exact hm) (by rw [List.length_set]; exact hr) hc
  exact ⟨_, _, rfl, k _ _ (by rw [List.length_set, List.length_set]; exact hn) ⟨_, _, s2⟩⟩
/-- x in (..), in [..]: numbers -/
theorem rd_inI {O : List Addr} {K : PySem.W.Frag} {neg : Bool} {i : Int} {x : PyData} {xs : List Int} (hs : SeqD x (dI xs)) : RD O (rIn K neg) (.int i) x (.bool (if neg then !decide (i ∈ xs) else decide (i ∈ xs))) := fun H v w _ h1 h2 Q q => by
  cases h1
  obtain ⟨p, ys, rfl, hq, k⟩ := seq_rd (K := K) hs h2
  have e := ints_dq k
  subst e
  have f1 : (xs.map V.int).all flatV = true := by
    rw [List.all_map]
    exact List.all_eq_true.mpr fun _ _ => rfl
  have f2 : inV (.int i) (xs.map V.int) = decide (i ∈ xs) := by
    unfold inV
    rw [List.any_map]
    by_cases c : i ∈ xs
    · rw [decide_eq_true c]
      refine List.any_eq_true.mpr ⟨i, c, ?_⟩
      simp [eqV]
    · rw [decide_eq_false c]
      refine List.any_eq_false.mpr fun y hy z => c ?_
      have q : eqV (V.int y) (V.int i) = true := z
      simp [eqV] at q
      rw [← q]
      exact hy
  refine ⟨p, _, rfl, hq, rfl, f1, ?_⟩
  rw [f2]
  exact q _ H (Ex.refl H) (.bl _)
section
variable {n i j k : Nat} {ρ : Rho} {c : Own} {tr : TA} {u : TS} {x y : PyData} {T : Rho → Own → Prop} {S : PyData → Prop}
/-- x, y = e, e', without a draw -/
theorem rg_parB (h : ∀ O, EvDA O n tr ρ [x, y]) (hi : i < n) (hj : j < n) (h0 : i ≠ 0) (h1 : j ≠ 0) (ci : c i = none) (cj : c j = none) : RG n (tPar i j tr) ρ c 0 (fun ρ' c' => ρ' = (ρ.set i (some x)).set j (some y) ∧ c' = c) S := fun O p cnt H0 D σ H hn ⟨P, al, s⟩ hcc q r =>
  h P σ H hn s.m.sd _ fun vs H1 e1 d1 => by
    cases d1 with
    | cons a1 k1 =>
      cases k1 with
      | cons a2 k2 =>
        cases k2
        exact ⟨_, _, rfl, q _ _ _ H1 ⟨rfl, rfl⟩ (by rw [List.length_set, List.length_set]; exact hn) ⟨P, al, ((s.stepX e1).put a1 (by rw [hn]; exact hi) h0 ci).put a2 (by rw [List.length_set, hn]; exact hj) h1 cj⟩⟩
theorem rg_par0 (h : ∀ O, EvDA O n tr ρ [x, y]) (hi : i < n) (hj : j < n) (h0 : i ≠ 0) (h1 : j ≠ 0) (ci : c i = none) (cj : c j = none) (h2 : RG n u ((ρ.set i (some x)).set j (some y)) c k T S) : RG n (tSeq (tPar i j tr) u) ρ c k T S :=
  rg_0 (rg_seq (rg_parB h hi hj h0 h1 ci cj) fun ρ1 c1 z => by
    rw [z.1, z.2]
    exact h2)
theorem rg_parE (h : ∀ O, EvDA O n tr ρ [x, y]) (hi : i < n) (hj : j < n) (h0 : i ≠ 0) (h1 : j ≠ 0) (ci : c i = none) (cj : c j = none) (h2 : T ((ρ.set i (some x)).set j (some y)) c) : RG n (tPar i j tr) ρ c 0 T S :=
  rg_wk (rg_parB h hi hj h0 h1 ci cj) (Nat.le_refl _) (fun ρ' c' z => by rw [z.1, z.2]; exact h2) fun _ z => z
end
end DL
/-! DSS: sorted(set(..)) of a list of any length, with fewer than 64 different numbers. -/
namespace L2
open PySem PySem.Spec PyProof.Rows
theorem nodup_len : ∀ {L M : List Int}, L.Nodup → (∀ k, k ∈ L → k ∈ M) → L.length ≤ M.length
  | [], _, _, _ => Nat.zero_le _
  | a :: L, M, hn, h => by
    obtain ⟨h1, h2⟩ := List.nodup_cons.mp hn
    have q := nodup_len (L := L) (M := M.erase a) h2 fun k hk => (List.mem_erase_of_ne (fun z => h1 (by rw [← z]; exact hk))).mpr (h k (List.mem_cons_of_mem _ hk))
    have e := List.length_erase_of_mem (h a (List.mem_cons_self ..))
    have p := List.length_pos_of_mem (h a (List.mem_cons_self ..))
    rw [List.length_cons]
    omega
section
variable {X : Cx}
def rSetLm (K : PySem.W.Frag) (w : World) : List V → Hp → VK → Prop := fun xs H Q => ∃ (l : Addr) (ns : List Int), xs = [.ref l] ∧ SqL K H l (ns.map V.int) ∧ ns.length ≤ 1000 ∧ ∀ (p : Addr) (n : Nat), H p = none → (∀ zs : List Int, (∀ k, k ∈ ns → k ∈ zs) → n ≤ zs.length) → Q (.ref p) (upd H p (SetO w p (fun j => decide (j ∈ ns)) n))
theorem cr_setLm (hc : X.calm = true) : CallR X (.type "set") (rSetLm X.K X.w) := by
  intro pins s σ H xs us Q I r h
  obtain ⟨l, ns, rfl, hq, hl, q⟩ := h
  cases r with
  | cons r0 rr =>
    cases rr
    cases r0
    obtain ⟨its, rv, p', _⟩ := I.list hq
    refine call_setL ns (I.ok.hd hc) p'.isList (ints_of_vals rv) (by unfold scanBound; omega) fun h' tk c SR cl kp => ?_
    refine ⟨.ref _, upd H s.heap.objs.size (SetO X.w s.heap.objs.size (fun j => decide (j ∈ ns)) c), I.laid (t' := tk) kp (Nat.le_refl _) (setO_new SR), rfl, q _ c (I.hok.fresh (Nat.le_refl _)) fun zs hz => ?_⟩
    obtain ⟨o, es, ep, t, _, _, _, _, nd, hm, _, _, hn, _⟩ := SR
    have e : (es.toList.map keyOf).length = c := by rw [List.length_map, Array.length_toList]; exact hn
    rw [← e]
    exact nodup_len nd fun k hk => hz k (of_decide_eq_true ((hm k).mpr hk))
theorem kSetLm {K : PySem.W.Frag} {w : World} (hK : X.K = K) (hw : X.w = w) (hc : X.calm = true) : CallR X (.type "set") (rSetLm K w) := by
  subst hK; subst hw
  exact cr_setLm hc
end
end L2
namespace DL
open PySem L2 Evl PyProof.Rows TL RZ
theorem ed_sortedSetM {O : List Addr} {n : Nat} {ρ : Rho} {te : TE} {K : PySem.W.Frag} {w : World} {ns zs : List Int} (h : EvD O n te ρ (.list (dI ns))) (h1000 : ns.length ≤ 1000) (hl : zs.length < 64) (hz : zs.Pairwise (· < ·)) (hm : ∀ k, k ∈ zs ↔ k ∈ ns) :
    EvD O n (tCB (rSortedSet w) (tCons (tCB (rSetLm K w) (tCons te tNil)) tNil)) ρ (.list (dI zs)) := fun σ H hn s Q q => h σ H hn s _ fun v H1 e1 d1 => by
  cases d1 with
  | @lst a xs _ ha k =>
    have ex := ints_dq k
    subst ex
    refine ⟨a, ns, rfl, sq_of (sub_of ha).1, h1000, fun p m hp hm2 => ?_⟩
    have mz := hm2 zs fun k hk => (hm k).mpr hk
    refine ⟨p, _, m, rfl, upd_same, by omega, fun ms r hs hmem _ hr => ?_⟩
    have e : ms = zs := rise_uniq hs hz fun j => by rw [hmem j, hm j, decide_eq_true_eq]
    subst e
    have x2 : Ex H1 (upd (upd H1 p (SetO w p (fun j => decide (j ∈ ns)) m)) r (.lst (ms.map V.int))) := (Ex.new hp).trans (Ex.new hr)
    have own2 := own_ex (e1.trans (Ex.new hp (o := SetO w p (fun j => decide (j ∈ ns)) m))) s.own
    exact q _ _ (e1.trans x2) (.lst (sub_mk upd_same (not_own own2 hr)) (dq_ints ms))
end DL
/-! DZL: zip of a list and a tuple. -/
namespace DL
open PySem PySem.Spec PyProof.Rows PySem.Calls L2
/-- the list at a beside the tuple at b, each pair new -/
def ItzL (K : PySem.W.Frag) (a b : Addr) : It where
  go := fun i H => ∃ (xs ys : List V) (x y : V), SqL K H a xs ∧ SqT K H b ys ∧ xs[i]? = some x ∧ ys[i]? = some y
  yld := fun i H v H' => ∃ T x y, v = .ref T ∧ H T = none ∧ H' = upd H T (.tup [x, y]) ∧ (∀ xs, SqL K H a xs → xs[i]? = some x) ∧ ∀ ys, SqT K H b ys → ys[i]? = some y
  stop := fun i H => ∃ xs ys : List V, SqL K H a xs ∧ SqT K H b ys ∧ min xs.length ys.length = i
def tnL (N a b : Addr) (i : Nat) (h : Heap) : Prop := IsZip h (N + 4) (N + 2) (N + 3) .none ∧ IsTupOf2 h (N + 2) (.ref N) (.ref (N + 1)) ∧ (∃ x y, IsTupOf2 h (N + 3) x y) ∧ h.IsListIter N a i ∧ h.IsTupleIter (N + 1) b i
theorem turn_zipL {P : Program} {w : World} {K : PySem.W.Frag} {elts : List Expr} {kk : Nat} {tpos : Pos} {a b N : Addr} (ha : a < N) (hb : b < N) :
    Turn P w K (.Tuple elts kk tpos) (ItzL K a b) [N + 4, N + 2, N + 3, N, N + 1] (N + 4) (tnL N a b) where
  mem := List.mem_cons_self
  obj := fun i h st c hc => by
    obtain ⟨hz, hI, ⟨x, y, hO⟩, ⟨o1, g1, _, d1⟩, ⟨o2, g2, _, d2⟩⟩ := st
    simp only [List.mem_cons, List.not_mem_nil, or_false] at hc
    rcases hc with rfl | rfl | rfl | rfl | rfl
    · exact ⟨_, hz, fun v q => nomatch q⟩
    · exact ⟨_, hI, fun v q => nomatch q⟩
    · exact ⟨_, hO, fun v q => nomatch q⟩
    · exact ⟨o1, g1, fun v q => by rw [d1] at q; cases q⟩
    · exact ⟨o2, g2, fun v q => by rw [d2] at q; cases q⟩
  keep := fun i h h' st k => by
    obtain ⟨hz, hI, ⟨x, y, hO⟩, g1, g2⟩ := st
    exact ⟨k _ (by simp) _ hz, k _ (by simp) _ hI, ⟨x, y, k _ (by simp) _ hO⟩, g1.at fun o q => k _ (by simp) o q, g2.at fun o q => k _ (by simp) o q⟩
  item := by
    intro X hP hw hK hc i pins s σ H E I hf st hg
    subst hP hw hK
    have st0 := st
    obtain ⟨hz, hI, hO, g1, g2⟩ := st
    obtain ⟨xs, ys, x, y, hq, hq2, hx, hy⟩ := hg
    obtain ⟨its, rv, p, _⟩ := I.list hq
    obtain ⟨its2, rv2, p2, _⟩ := I.tuple hq2
    obtain ⟨u, hu, ru⟩ := rv.get hx
    obtain ⟨u2, hu2, ru2⟩ := rv2.get hy
    have pT : s.heap.IsTuple b its2.toArray := p2
    have D1 := Draws.list (prog := X.prog) (w := X.w) (A := X.A.in1) (I.ok.hd hc) N a (Nat.ne_of_lt ha) its.toArray
    have D2 := Draws.tuple (prog := X.prog) (w := X.w) (A := X.A.in1) (I.ok.hd hc) (N + 1) b (Nat.ne_of_lt (Nat.lt_succ_of_lt hb)) its2.toArray
    have G := GoesN.zip2 (elts := elts) (x1 := kk) (pos := tpos) (zip_sep2 (N := N) (fp1 := [a]) (fp2 := [b]) (fun c h => by rw [List.mem_singleton.mp h]; exact ha) (fun c h => by rw [List.mem_singleton.mp h]; exact hb)) D1 D2
    have l1 : i < its.toArray.size := by
      have q := (List.getElem?_eq_some_iff.mp hu).1
      simpa using q
    have l2 : i < its2.toArray.size := by
      have q := (List.getElem?_eq_some_iff.mp hu2).1
      simpa using q
    refine G.goes i s (fun v s2 => ∃ x H', L2.Inv X pins σ H' s2 ∧ L2.RelV x v ∧ (ItzL X.K a b).yld i H x H' ∧ tnL N a b (i + 1) s2.heap ∧ ∀ c, c ∈ [N + 4, N + 2, N + 3, N, N + 1] → H' c = none) E (by omega) ⟨hz, hI, hO, ⟨g1, p.isList⟩, ⟨g2, pT⟩⟩ fun v h' tk hY hst hk htk => ?_
    obtain ⟨T, x', y', rfl, hT, hx', hy', hTup⟩ := hY
    have ex : x' = u := by
      have q : its.toArray[i]? = some u := by simpa using hu
      rw [q] at hx'
      exact (Option.some.inj hx').symm
    have ey : y' = u2 := by
      have q : its2.toArray[i]? = some u2 := by simpa using hu2
      rw [q] at hy'
      exact (Option.some.inj hy').symm
    subst ex
    subst ey
    have new : ObjOk X.prog X.w (upd H T (.tup [x, y])) h' T (.tup [x, y]) := ⟨by show 2 ≤ sizeLine; decide, [x', y'], .cons ru (.cons ru2 .nil), hTup⟩
    have keep : ∀ c ob, c ∉ [N + 4, N + 2, N + 3, N, N + 1] → s.heap.get? c = some ob → h'.get? c = some ob := fun c ob hc2 q => hk c ob (fun z => hc2 (four_five c z)) q
    have I1 : L2.Inv X pins σ (upd H T (.tup [x, y])) { heap := h', gens := s.gens, drawn := s.drawn, toks := tk, os := s.os } := I.turnedNew (ch := [N + 4, N + 2, N + 3, N, N + 1]) keep hf hT new
    refine ⟨.ref T, _, I1, rfl, ⟨T, x, y, rfl, I.hok.fresh hT, rfl, fun zs hz => ?_, fun zs hz => ?_⟩, ⟨hst.1, hst.2.1, hst.2.2.1, hst.2.2.2.1.1, hst.2.2.2.2.1⟩, fun c hc2 => ?_⟩
    · rw [I.list_inj hz hq]
      exact hx
    · rw [I.tuple_inj hz hq2]
      exact hy
    · have lc : c < s.heap.objs.size := five_lt (Heap.lt_size hz) c hc2
      rw [upd_ne (Nat.ne_of_lt (Nat.lt_of_lt_of_le lc hT))]
      exact (hf c hc2).1
  done := by
    intro X hP hw hK hc i pins s σ H E I hf st hg
    subst hP hw hK
    obtain ⟨hz, hI, hO, g1, g2⟩ := st
    obtain ⟨xs, ys, hq, hq2, hn⟩ := hg
    obtain ⟨its, rv, p, _⟩ := I.list hq
    obtain ⟨its2, rv2, p2, _⟩ := I.tuple hq2
    have pT : s.heap.IsTuple b its2.toArray := p2
    have D1 := Draws.list (prog := X.prog) (w := X.w) (A := X.A.in1) (I.ok.hd hc) N a (Nat.ne_of_lt ha) its.toArray
    have D2 := Draws.tuple (prog := X.prog) (w := X.w) (A := X.A.in1) (I.ok.hd hc) (N + 1) b (Nat.ne_of_lt (Nat.lt_succ_of_lt hb)) its2.toArray
    have G := GoesN.zip2 (elts := elts) (x1 := kk) (pos := tpos) (zip_sep2 (N := N) (fp1 := [a]) (fp2 := [b]) (fun c h => by rw [List.mem_singleton.mp h]; exact ha) (fun c h => by rw [List.mem_singleton.mp h]; exact hb)) D1 D2
    have en : min its.toArray.size its2.toArray.size = i := by
      have e1 := rv.length
      have e2 := rv2.length
      rw [List.size_toArray, List.size_toArray]
      omega
    have s0 := G.stops s (fun s1 => L2.Inv X pins σ H s1) E
    rw [en] at s0
    refine s0 ⟨hz, hI, hO, ⟨g1, p.isList⟩, ⟨g2, pT⟩⟩ fun h' tk hk htk => ?_
    exact I.turnedL (ch := [N + 4, N + 2, N + 3, N, N + 1]) (fun c ob hc2 q => hk c ob (fun z => hc2 (four_five c z)) q) hf
  self := fun A i s Q E st h => wpAny_pyIter_zip st.1 h
def iZipL (K : PySem.W.Frag) (ta : TA) : TI := fun σ H R => ta σ H fun vs H1 => ∃ a b xs ys, vs = [.ref a, .ref b] ∧ SqL K H1 a xs ∧ SqT K H1 b ys ∧ R (ItzL K a b) H1
theorem pi_zipL {X : Cx} {e e2 : Expr} {ta : TA} {p pos tpos : Pos} {elts : List Expr} {kk : Nat} (hg : Gl X "zip") (hm : X.mg "zip" = none) (ha : PA X [e, e2] ta)
    (hs : starEach [e, e2] X.env = (false, eval e X.env) :: starEach [e2] X.env := by rfl) (hpl : (backTo pos (starEach [e2] X.env)).any (·.1) = false := by rfl) : PI X (.Tuple elts kk tpos) (.Call (.Name "zip" p) [e, e2] [] pos) (iZipL X.K ta) := by
  refine ⟨fun pins s σ H R I h => Call_ (ld_blt I hg hm boot_zip (callWith_type1 (thn (ha.run pos pins s σ H _ I h) fun us s1 hh => ?_) hs hpl))⟩
  obtain ⟨vs, H1, I1, r1, a, b, xs, ys, ex, hq, hq2, q⟩ := hh
  subst ex
  cases r1 with
  | cons r rr =>
    cases rr with
    | cons r' rr =>
      cases rr
      cases r
      cases r'
      obtain ⟨its, rv, p', hz⟩ := I1.list hq
      obtain ⟨its2, rv2, p2, _⟩ := I1.tuple hq2
      have pT : s1.heap.IsTuple b its2.toArray := p2
      have la : a < s1.heap.objs.size := by
        obtain ⟨_, g, _⟩ := p'.isList
        exact Heap.lt_size g
      have lb : b < s1.heap.objs.size := by
        obtain ⟨_, g, _⟩ := pT
        exact Heap.lt_size g
      refine zip_begins2 (begins_list a its.toArray) (begins_tuple b its2.toArray) p'.isList pT fun h' hz' hI hO h0 h1 hsz hk => wpAny_pyIter_zip hz' ?_
      have I2 : L2.Inv X pins σ H1 { s1 with heap := h' } := I1.kept (t' := s1.toks) hk
      refine ⟨s1.heap.objs.size + 4, [s1.heap.objs.size + 4, s1.heap.objs.size + 2, s1.heap.objs.size + 3, s1.heap.objs.size, s1.heap.objs.size + 1], _, _, H1, rfl, I2, turn_zipL la lb, ⟨hz', hI, ⟨_, _, hO⟩, ⟨_, h0, rfl, rfl⟩, ⟨_, h1, rfl, rfl⟩⟩, fun c hc => ?_, q⟩
      have hle : s1.heap.objs.size ≤ c := five_le c hc
      exact I1.fpOk hle (I1.hok.fresh hle)
theorem kiZipL {X : Cx} {K : PySem.W.Frag} {e e2 : Expr} {ta : TA} {p pos tpos : Pos} {elts : List Expr} {kk : Nat} (hK : X.K = K) (hg : Gl X "zip") (hm : X.mg "zip" = none) (ha : PA X [e, e2] ta)
    (hs : starEach [e, e2] X.env = (false, eval e X.env) :: starEach [e2] X.env := by rfl) (hpl : (backTo pos (starEach [e2] X.env)).any (·.1) = false := by rfl) : PI X (.Tuple elts kk tpos) (.Call (.Name "zip" p) [e, e2] [] pos) (iZipL K ta) := by
  subst hK
  exact pi_zipL hg hm ha hs hpl
/-- walked: the list's items beside the tuple's -/
theorem it_zipL {O : List Addr} {n : Nat} {ρ : Rho} {ta tb : TE} {ds es : List PyData} {K : PySem.W.Frag} (h : EvD O n ta ρ (.list ds)) (h' : EvD O n tb ρ (.tuple es)) : IterD O n (iZipL K (tCons ta (tCons tb tNil))) ρ (zipD ds es) := fun σ H hn s R q => h σ H hn s _ fun v H1 e1 d1 => h' σ H1 hn (s.ex e1) _ fun v' H2 e2 d2 => by
  cases d1 with
  | @lst a xs _ ha k =>
    cases d2 with
    | @tup b ys _ hb k' =>
      have l : (zipD ds es).length = min ds.length es.length := by
        unfold zipD
        rw [List.length_zipWith]
      have ha2 : sub H2 O a = some (.lst xs) := (Ex.o O e2) _ _ ha
      refine ⟨a, b, xs, ys, rfl, Evl.sq_of (sub_of ha2).1, Evl.st_of (sub_of hb).1, q (ItzL K a b) H2 (fun P H3 => (sub H3 P a = some (.lst xs) ∧ DqAll (sub H3 P) xs ds) ∧ (sub H3 P b = some (.tup ys) ∧ DqAll (sub H3 P) ys es)) (YPair (fun i => xs[i]?) (fun i => ys[i]?)) (e1.trans e2) (fun P => ?_)
        ⟨⟨ha2, k.mono (Ex.o O e2)⟩, ⟨hb, k'⟩⟩ (fun P P' H3 H4 g e => ⟨⟨e _ _ g.1.1, g.1.2.mono e⟩, ⟨e _ _ g.2.1, g.2.2.mono e⟩⟩) ?_⟩
      · have W : Walk (ItzL K a b) (min xs.length ys.length) (fun H => SqL K H a xs ∧ SqT K H b ys) (YPair (fun i => xs[i]?) (fun i => ys[i]?)) := by
          refine ⟨fun i _ hi q => ?_, fun _ q => ⟨xs, ys, q.1, q.2, rfl⟩, fun i H v H' _ q y => ?_⟩
          · have h1 : i < xs.length := by omega
            have h2 : i < ys.length := by omega
            exact ⟨xs, ys, xs[i], ys[i], q.1, q.2, by simp [h1], by simp [h2]⟩
          · obtain ⟨T, x, z, h1, h2, h3, h4, h5⟩ := y
            exact ⟨T, x, z, h1, h2, h3, h4 xs q.1, h5 ys q.2⟩
        rw [l, ← k.length, ← k'.length]
        exact W.mono (fun H3 g => ⟨Evl.sq_of (sub_of g.1.1).1, Evl.st_of (sub_of g.2.1).1⟩) fun _ _ _ _ _ _ y => y
      · rintro P i H3 x H4 hi ho ⟨⟨g1, g2⟩, g3, g4⟩ ⟨T, x1, x2, rfl, hT, hH, q1, q2⟩
        obtain ⟨d, h1, h2⟩ := g2.getV q1
        obtain ⟨d', h1', h2'⟩ := g4.getV q2
        obtain ⟨a1, a2⟩ := pair_new ho hT hH h2 h2'
        refine ⟨a1, _, ?_, a2⟩
        unfold zipD
        rw [List.getElem?_zipWith, h1, h1']
end DL
/-! DFF: two new own lists at once; a list so many times as a new list; a tuple of an own list's numbers appended. -/
namespace DL
open PySem L2 Evl PyProof.Rows TL RZ
section
variable {O : List Addr} {n m i : Nat} {ρ ρ' : Rho} {c c' : Own} {ds es : List PyData} {d x y : PyData} {te ta tb ti : TE} {t u : TS} {K : PySem.W.Frag}
theorem ef_rep {k : Int} (ha : EvD O n ta ρ (.list ds)) (hb : EvD O n tb ρ (.int k)) (hl : ds.length * k.toNat ≤ 100000) (h0 : 0 ≤ k) (h1 : k ≤ 100000) : EvF O n (tOp rRep ta tb) ρ (List.replicate k.toNat ds).flatten := fun σ H hn s Q q =>
  ha σ H hn s _ fun v H1 e1 d1 => hb σ H1 hn (s.ex e1) _ fun w H2 e2 d2 => by
    have d1' := d1.mono (Ex.o O e2)
    cases d2
    cases d1' with
    | lst a1 k1 => exact ⟨_, _, _, rfl, rfl, (sub_of a1).1, by omega, by omega, by rw [k1.length]; exact sz_of hl, fun p hp => q p _ H2 (e1.trans e2) hp (k1.flat _)⟩
/-- xs, ys = two new lists -/
theorem rm_parFF (h1 : ∀ P, EvF P n ta ρ ds) (h2 : ∀ P, EvF P n tb ρ es) (hm : m < n) (hi : i < n) (hr : m < ρ.length) (hri : i < ρ.length) (hc : c m = none) (hci : c i = none) (hmi : m ≠ i) : RunM O n (tPar m i (tCons ta (tCons tb tNil))) ρ c ((ρ.set m none).set i none) ((c.put m ds).put i es) := fun H0 D σ H hn ⟨P, al, s⟩ k =>
  h1 P σ H hn s.sd _ fun p xs H1 e1 np d1 => by
    have s0 := s.step e1
    have s1 := s0.own (xs := xs) (ds := ds) np d1 (by rw [hn]; exact hm) hr hc
    have sd1 : SD (p :: P) (upd H1 p (.lst xs)) σ ρ := s0.sd.more (Ex.new np) np upd_same
    refine h2 (p :: P) σ _ hn sd1 _ fun p2 xs2 H2 e2 np2 d2 => ?_
    refine ⟨_, _, rfl, k _ _ (by rw [List.length_set, List.length_set]; exact hn) ⟨_, _, (s1.step e2).own np2 d2 (by rw [List.length_set, hn]; exact hi) (by rw [List.length_set]; exact hri) ?_⟩⟩
    simp [Own.put, Ne.symm hmi, hci]
/-- xs.append(t), t a new tuple of flat data, told of amid own lists -/
theorem rm_appendV {zs : List PyData} (hc : c m = some ds) (h : EvD O n te (vwC c 0 ρ) (.tuple zs)) (f : zs.all isFlat = true) (hl : ds.length ≤ 100000) : RunM O n (tDrop (tBM K "list" rAppend (tVar m) (tCons te tNil))) ρ c ρ (c.put m (ds ++ [.tuple zs])) := fun H0 D σ H hn ⟨P, al, s⟩ k => by
  obtain ⟨m1, ⟨xs, hx, _⟩, _⟩ := s.at_ m ds hc
  refine ⟨_, m1, ty_lst hx, h σ H hn s.view _ fun v H1 e1 d1 => ?_⟩
  have s1 := s.step e1
  have d2 : Dq (sub H1 P) v (.tuple zs) := by
    cases d1 with
    | @tup a ws _ ha ka =>
      obtain ⟨a1, a2⟩ := sub_of ha
      refine .tup (sub_mk a1 fun z => ?_) (flat_all ka f)
      rcases s1.only _ z with q | ⟨k2, fs, g1, rfl⟩
      · exact a2 q
      · obtain ⟨_, ⟨ys, hy, _⟩, _⟩ := s1.at_ k2 fs g1
        rw [a1] at hy
        cases hy
  obtain ⟨_, ⟨ys, hy, dy⟩, _⟩ := s1.at_ m ds hc
  refine ⟨al m, ys, v, rfl, rfl, hy, Nat.lt_of_le_of_lt (show ys.length ≤ 100000 by have q := dy.length; omega) (by decide), ?_⟩
  exact k σ _ hn ⟨P, al, s1.other hc (dy.append (.cons d2 .nil))⟩
/-- some slots forgotten -/
theorem rm_less {c1 : Own} {ρ1 : Rho} (h : RunM O n t ρ c ρ1 c1) (w : ∀ (i : Nat) (d : PyData), ρ'[i]? = some (some d) → ρ1[i]? = some (some d)) (wo : ∀ (i : Nat) (ds : List PyData), c1 i = some ds → ρ'[i]? = some none) : RunM O n t ρ c ρ' c1 := fun H0 D σ H hn s k =>
  h H0 D σ H hn s fun σ' H' hn' ⟨P, al, s'⟩ => k σ' H' hn' ⟨P, al, ⟨s'.less, s'.only, ⟨s'.sd.own, fun i d hd => s'.sd.at' i d (w i d hd)⟩, fun m ds hm => by
    obtain ⟨a, b, _, e⟩ := s'.at_ m ds hm
    exact ⟨a, b, wo m ds hm, e⟩, s'.inj, s'.ex⟩⟩
end
end DL
/-! DXT: xs.extend(list) of a def's own list. -/
namespace DL
open PySem L2 Evl PyProof.Rows TL RZ
theorem DqAll.app {H : Hp} : ∀ {xs zs : List V} {ds es : List PyData}, DqAll H xs ds → DqAll H zs es → DqAll H (xs ++ zs) (ds ++ es)
  | _, _, _, _, .nil, h => h
  | _, _, _, _, .cons a r, h => .cons a (r.app h)
section
variable {O : List Addr} {n m k : Nat} {ρ : Rho} {c : Own} {ds es : List PyData} {te : TE} {u : TS} {K : PySem.W.Frag} {S : PyData → Prop} {T : Rho → Own → Prop}
theorem rl_extend (h : EvD O n te (vw ρ m ds) (.list es)) (f : es.all isFlat = true) (hl : ds.length + es.length ≤ 100000) : RunL O n m (tDrop (tBM K "list" rExtend (tVar m) (tCons te tNil))) ρ ds ρ (ds ++ es) := fun L D σ H hn s k => by
  obtain ⟨xs, hx, _⟩ := s.at_
  refine ⟨_, s.slot, ty_lst hx, h σ H hn s.view _ fun v H1 e1 d1 => ?_⟩
  have s1 := s.step e1
  obtain ⟨ys, hy, dy⟩ := s1.at_
  cases d1 with
  | @lst b zs _ ha hz =>
    refine ⟨L, b, ys, zs, rfl, rfl, hy, (sub_of ha).1, Nat.le_trans (show ys.length + zs.length ≤ 100000 by have q := dy.length; have r := hz.length; omega) (by decide), ?_⟩
    refine k σ _ hn ((Ex.o [L] e1).trans (ExO.upd (List.mem_singleton.mpr rfl))) (s1.other (dy.app hz) ?_)
    rw [List.all_append, s.flat]
    simp [f]
theorem rm_extend (hc : c m = some ds) (h : ∀ P, EvD P n te ρ (.list es)) (hl : ds.length + es.length ≤ 100000) : RunM O n (tDrop (tBM K "list" rExtend (tVar m) (tCons te tNil))) ρ c ρ (c.put m (ds ++ es)) := fun H0 D σ H hn ⟨P, al, s⟩ k => by
  obtain ⟨m1, ⟨xs, hx, _⟩, _⟩ := s.at_ m ds hc
  refine ⟨_, m1, ty_lst hx, h P σ H hn s.sd _ fun v H1 e1 d1 => ?_⟩
  have s1 := s.step e1
  obtain ⟨_, ⟨ys, hy, dy⟩, _⟩ := s1.at_ m ds hc
  cases d1 with
  | @lst b zs _ ha hz =>
    refine ⟨al m, b, ys, zs, rfl, rfl, hy, (sub_of ha).1, Nat.le_trans (show ys.length + zs.length ≤ 100000 by have q := dy.length; have r := hz.length; omega) (by decide), ?_⟩
    exact k σ _ hn ⟨P, al, s1.other hc (dy.app hz)⟩
theorem rg_extend0 (hc : c m = some ds) (h : ∀ P, EvD P n te ρ (.list es)) (hl : ds.length + es.length ≤ 100000) (h2 : RG n u ρ (c.put m (ds ++ es)) k T S) : RG n (tSeq (tDrop (tBM K "list" rExtend (tVar m) (tCons te tNil))) u) ρ c k T S := fun O p cnt H0 D σ H hn ⟨P, al, s⟩ hcc q r => by
  obtain ⟨m1, ⟨xs, hx, _⟩, _⟩ := s.m.at_ m ds hc
  refine ⟨_, m1, ty_lst hx, h P σ H hn s.m.sd _ fun v H1 e1 d1 => ?_⟩
  have s1 := s.stepX e1
  obtain ⟨_, ⟨ys, hy, dy⟩, _⟩ := s1.m.at_ m ds hc
  cases d1 with
  | @lst b zs _ ha hz =>
    refine ⟨al m, b, ys, zs, rfl, rfl, hy, (sub_of ha).1, Nat.le_trans (show ys.length + zs.length ≤ 100000 by have q := dy.length; have r := hz.length; omega) (by decide), ?_⟩
    exact h2 O p cnt H0 D σ _ hn ⟨P, al, s1.other hc (dy.app hz)⟩ hcc q r
end
end DL
/-! DSV: sorted(set(..)) is a new list; found[-1] = a new tuple that is made of what the own list holds. -/
namespace DL
open PySem L2 Evl PyProof.Rows TL RZ
theorem ef_sortedSetM {O : List Addr} {n : Nat} {ρ : Rho} {te : TE} {K : PySem.W.Frag} {w : World} {ns zs : List Int} (h : EvD O n te ρ (.list (dI ns))) (h1000 : ns.length ≤ 1000) (hl : zs.length < 64) (hz : zs.Pairwise (· < ·)) (hm : ∀ k, k ∈ zs ↔ k ∈ ns) :
    EvF O n (tCB (rSortedSet w) (tCons (tCB (rSetLm K w) (tCons te tNil)) tNil)) ρ (dI zs) := fun σ H hn s Q q => h σ H hn s _ fun v H1 e1 d1 => by
  cases d1 with
  | @lst a xs _ ha k =>
    have ex := ints_dq k
    subst ex
    refine ⟨a, ns, rfl, sq_of (sub_of ha).1, h1000, fun p m hp hm2 => ?_⟩
    have mz := hm2 zs fun k hk => (hm k).mpr hk
    refine ⟨p, _, m, rfl, upd_same, by omega, fun ms r hs hmem _ hr => ?_⟩
    have e : ms = zs := rise_uniq hs hz fun j => by rw [hmem j, hm j, decide_eq_true_eq]
    subst e
    exact q _ _ _ (e1.trans (Ex.new hp)) hr (dq_ints ms)
section
variable {O : List Addr} {n m : Nat} {ρ : Rho} {c : Own} {te ti : TE} {ds : List PyData}
theorem rm_setLastT {zs : List PyData} (hc : c m = some ds) (h : EvD O n te (vwC c 0 ρ) (.tuple zs)) (f : zs.all isFlat = true) (hi : ∀ P, EvD P n ti ρ (.int (-1))) (hj : ds ≠ []) : RunM O n (tAsg te (gSub (tVar m) ti rSetL)) ρ c ρ (c.put m (ds.set (ds.length - 1) (.tuple zs))) := fun H0 D σ H hn ⟨P, al, s⟩ k =>
  h σ H hn s.view _ fun v H1 e1 d1 => by
    have s1 := s.step e1
    have d2 : Dq (sub H1 P) v (.tuple zs) := by
      cases d1 with
      | @tup a ws _ ha ka =>
        obtain ⟨a1, a2⟩ := sub_of ha
        refine .tup (sub_mk a1 fun z => ?_) (flat_all ka f)
        rcases s1.only _ z with q | ⟨k2, fs, g1, rfl⟩
        · exact a2 q
        · obtain ⟨_, ⟨ys, hy, _⟩, _⟩ := s1.at_ k2 fs g1
          rw [a1] at hy
          cases hy
    refine ⟨_, (s1.at_ m ds hc).1, hi P σ H1 hn s1.sd _ fun w H2 e2 d3 => ?_⟩
    cases d3
    have s2 := s1.step e2
    obtain ⟨_, ⟨ys, hy, dy⟩, _⟩ := s2.at_ m ds hc
    have hl := List.length_pos_iff.mpr hj
    have ly := dy.length
    refine ⟨al m, ys, -1, ds.length - 1, rfl, rfl, hy, ?_, k σ _ hn ⟨P, al, s2.other hc (dy.setAt (d2.mono (Ex.o P e2)) _)⟩⟩
    unfold ixN
    rw [if_neg (by decide), if_pos (by omega)]
    congr 1
    omega
end
end DL
/-! DMX: max(..) of a tuple of whole numbers. -/
namespace L2
open PySem PySem.Spec PyProof.Rows PySem.W DL
theorem fold_max : ∀ (ns : List Int) (n : Int), ns.foldl max n ∈ n :: ns ∧ ∀ y, y ∈ n :: ns → y ≤ ns.foldl max n
  | [], n => ⟨List.mem_cons_self .., fun y hy => by
    rw [List.mem_singleton.mp hy]
    exact Int.le_refl _⟩
  | a :: ns, n => by
    obtain ⟨h1, h2⟩ := fold_max ns (max n a)
    refine ⟨?_, fun y hy => ?_⟩
    · rcases List.mem_cons.mp h1 with h | h
      · show ns.foldl max (max n a) ∈ _
        rw [h]
        rcases Int.le_total n a with c | c
        · rw [Int.max_eq_right c]
          exact List.mem_cons_of_mem _ (List.mem_cons_self ..)
        · rw [Int.max_eq_left c]
          exact List.mem_cons_self ..
      · exact List.mem_cons_of_mem _ (List.mem_cons_of_mem _ h)
    · have q := h2 (max n a) (List.mem_cons_self ..)
      show y ≤ ns.foldl max (max n a)
      rcases List.mem_cons.mp hy with rfl | hy
      · omega
      · rcases List.mem_cons.mp hy with rfl | hy
        · omega
        · exact h2 y (List.mem_cons_of_mem _ hy)
theorem depth_ints : ∀ ns : List Int, PyData.depthAll (ns.map PyData.int) ≤ 1
  | [] => by decide
  | n :: ns => by
    have := depth_ints ns
    show max (PyData.depth (.int n)) (PyData.depthAll (ns.map PyData.int)) ≤ 1
    have : PyData.depth (.int n) ≤ 1 := by
      simp [PyData.depth]
    omega
theorem alike_ints (ns : List Int) : AlikeAll (ns.map PyData.int) := ⟨fun x hx y hy => by
  obtain ⟨a, _, rfl⟩ := List.mem_map.mp hx
  obtain ⟨b, _, rfl⟩ := List.mem_map.mp hy
  rfl, fun x hx z => by
  obtain ⟨a, _, rfl⟩ := List.mem_map.mp hx
  cases z⟩
def rMaxT (K : PySem.W.Frag) : List V → Hp → VK → Prop := fun vs H Q => ∃ (a : Addr) (xs : List V) (n : Int) (ns : List Int), vs = [V.ref a] ∧ SqT K H a xs ∧ DpAll K H xs ((n :: ns).map PyData.int) ∧ Q (.int (ns.foldl max n)) H
section
variable {X : Cx}
theorem cr_maxT (hc : X.calm = true) (hu : X.A.units + 64 < cLine) : CallR X (.builtin "max") (rMaxT X.K) := by
  intro pins s σ H vs us Q I r h
  obtain ⟨a, xs, n, ns, rfl, hs, hd, q⟩ := h
  obtain ⟨its, rv, hl, _⟩ := I.tuple hs
  rw [Vals.ref1 r]
  obtain ⟨as, hr⟩ := Dp.readsAll I ((n :: ns).map PyData.int) xs its hd rv
  have pT : s.heap.IsTuple a its.toArray := hl
  have dp := depth_ints (n :: ns)
  refine max_tuple_data (x := .int n) (xs := ns.map PyData.int) (I.ok.hd hc) pT hr (alike_ints (n :: ns)) (by show X.A.units + 1 + PyData.depthAll ((n :: ns).map PyData.int) < cLine; omega) fun i v h' tk bs hv rd hk => ?_
  rw [maxD_ints] at rd
  cases rd
  exact ⟨.int _, H, I.kept hk, ⟨_, rfl⟩, q⟩
end
end L2
namespace DL
open PySem L2 Evl PyProof.Rows TL RZ
theorem kMaxT {X : Cx} {K : PySem.W.Frag} (hK : X.K = K) (hc : X.calm = true) (hu : X.A.units + 64 < cLine) : CallR X (.builtin "max") (rMaxT K) := by subst hK; exact cr_maxT hc hu
theorem ints_lay : ∀ ns : List Int, PyData.canLayAll0 (ns.map PyData.int) = true
  | [] => rfl
  | n :: ns => by
    show (_ && _) = true
    rw [ints_lay ns]
    rfl
theorem rc_maxT {O : List Addr} {K : PySem.W.Frag} {n : Int} {ns : List Int} : RDC O (rMaxT K) [.tuple (dI (n :: ns))] (.int (ns.foldl max n)) := fun H vs _ h Q q => by
  cases h with
  | cons h k =>
    cases k
    cases h with
    | tup a k =>
      exact ⟨_, _, n, ns, rfl, st_of (sub_of a).1, k.up.dp (ints_lay (n :: ns)), q _ H (Ex.refl H) (.int _)⟩
end DL
/-! DRT: t[::-1] of a tuple. -/
namespace HT
open PySem PySem.Spec PyProof.Rows
section
variable {prog : Program} {w : World} {A : Around} {E : Value → Shared → Prop} {s : Shared}
theorem places_rev (n : Nat) : Builtin.Slice.slicePlaces ((n : Int) - 1) (-1) (-1) = n := by
  unfold Builtin.Slice.slicePlaces
  have h1 : ¬ ((-1 : Int) > 0) := by omega
  simp only [h1, if_false]
  have e : -(-1 : Int) = 1 := by decide
  simp only [e, Int.ediv_one]
  split <;> omega
theorem adjust_rev (n : Nat) : Builtin.Slice.sliceAdjust none none (-1) (n : Int) = ((n : Int) - 1, -1) := by
  unfold Builtin.Slice.sliceAdjust
  have h1 : ((-1 : Int) < 0) := by omega
  simp only [h1, if_true]
theorem sliceApplied_rev {sl : Addr} {t : Tok} {n : Nat} {Q : Int × Int × Nat → Shared → Prop} {vs : Value} (hs : s.heap.IsSliceOf sl .none .none vs) (ps : IsPart vs (some (-1)))
    (h : Q ((n : Int) - 1, -1, n) s) : wpAny (model prog w) A (Builtin.Slice.sliceApplied (.ref sl) (pure (n : Int))) Q E s := by
  obtain ⟨os, hos, hcs, hds⟩ := id hs
  unfold Builtin.Slice.sliceApplied Builtin.Slice.sliceFields
  refine wpAny_bind (wpAny_bind (wpAny_field hos hds (x := .none) rfl (wpAny_bind (wpAny_field hos hds (x := .none) rfl (wpAny_bind (wpAny_field hos hds (x := vs) rfl (wpAny_pure ?_)))))))
  refine wpAny_bind (slicePart_ ps ?_)
  show wpAny _ _ (if ((-1 : Int) == 0) = true then _ else _) _ _ s
  rw [if_neg (by decide)]
  refine wpAny_bind (slicePart_none (wpAny_bind (slicePart_none (wpAny_bind (wpAny_pure ?_)))))
  show wpAny _ _ (match Builtin.Slice.sliceAdjust none none (-1) (n : Int) with | (lo, hi) => pure (lo, (-1 : Int), Builtin.Slice.slicePlaces lo hi (-1))) _ _ s
  rw [adjust_rev n]
  show wpAny _ _ (pure ((n : Int) - 1, (-1 : Int), Builtin.Slice.slicePlaces ((n : Int) - 1) (-1) (-1))) _ _ s
  rw [places_rev]
  exact wpAny_pure h
theorem pick_rev (xs : Array Value) : ((List.range xs.size).filterMap fun (m : Nat) => xs[(((xs.size : Int) - 1) + (m : Int) * (-1)).toNat]?).toArray = xs.toList.reverse.toArray := by
  congr 1
  have cg : ∀ (l : List Nat) (f g : Nat → Option Value), (∀ m, m ∈ l → f m = g m) → l.filterMap f = l.filterMap g := by
    intro l f g h
    induction l with
    | nil => rfl
    | cons x l ih => rw [List.filterMap_cons, List.filterMap_cons, h x (List.mem_cons_self ..), ih fun m hm => h m (List.mem_cons_of_mem _ hm)]
  have q := PySem.W.krv_all xs.toList.reverse.toArray
  rw [List.size_toArray, List.length_reverse, Array.length_toList] at q
  refine (cg _ _ _ fun m hm => ?_).trans q
  have hm := List.mem_range.mp hm
  have e1 : (((xs.size : Int) - 1) + (m : Int) * (-1)).toNat = xs.size - 1 - m := by omega
  show xs[(((xs.size : Int) - 1) + (m : Int) * (-1)).toNat]? = xs.toList.reverse.toArray[m]?
  have r : xs.toList.reverse.toArray[m]? = xs.toList.reverse[m]? := by
    generalize xs.toList.reverse = l
    simp
  rw [e1, r, List.getElem?_reverse (by rw [Array.length_toList]; exact hm), Array.length_toList, Array.getElem?_toList]
theorem getItem_tuple_rev {t sl : Addr} {items : Array Value} {vs : Value} {Q : Value → Shared → Prop} (ht : IsTup s.heap t items) (hs : s.heap.IsSliceOf sl .none .none vs) (ps : IsPart vs (some (-1)))
    (h : Q (.ref s.heap.objs.size) { s with heap := s.heap.push { cls := .type "tuple", data := .seq items.toList.reverse.toArray } })
    (hsz : items.size ≤ sizeLine) : wpAny (model prog w) A (getItem (.ref t) (.ref sl)) Q E s := by
  have htake : sizeOk (.seq items.toList.reverse.toArray) := by
    show items.toList.reverse.toArray.size ≤ sizeLine
    rw [List.size_toArray, List.length_reverse, Array.length_toList]
    exact hsz
  obtain ⟨os, hos, hcs, hds⟩ := id hs
  have hTs : s.TypeIs (.ref sl) "slice" := ⟨os, hos, hcs⟩
  unfold getItem
  try with_reducible refine wpAny_holding ?_
  first | refine wpAny_bind (wpAny_pure ?_) | skip
  refine wpAny_bind (wpAny_sequenceKey ht.typeIs (by decide) ?_)
  refine wpAny_bind (wpAny_callSpecial?_slot (name := Str.ofString "__getitem__") ht.typeIs PyProof.Rows.slot_tuple_getitem
    (wpAny_call_entry PyProof.Rows.slot_tuple_getitem ht.typeIs entry_tuple_getitem ?_ (args_tuple_getitem _ _)))
  show wpAny _ _ (Builtin.Tuple.tupleItemsOf (.ref t) >>= _) _ _ s
  refine wpAny_bind (tupleItemsOf_ ht ?_)
  refine wpAny_bind (wpAny_typeOf hTs ?_)
  rw [if_pos (by decide)]
  refine wpAny_bind (sliceApplied_rev (t := default) hs ps ?_)
  have hno : ¬ ((((items.size : Int) - 1) == 0 && (-1 : Int) == 1 && (items.size) == items.size) = true) := by
    intro q
    rw [Bool.and_eq_true, Bool.and_eq_true] at q
    exact absurd (eq_of_beq q.1.2) (by decide)
  show wpAny _ _ (if (((items.size : Int) - 1) == 0 && (-1 : Int) == 1 && (items.size) == items.size) = true then _ else _) _ _ s
  rw [if_neg hno, pick_rev]
  first
    | exact wpAny_bind (m := Builtin.Tuple.tupleExact _) (wpAny_newObj_type (wpAny_pure ⟨_, rfl, wpAny_pure h⟩) htake)
    | exact wpAny_bind (m := Builtin.Tuple.tupleExact _) (wpAny_newObj_type (wpAny_bind (wpAny_pure (wpAny_pure ⟨_, rfl, wpAny_pure h⟩))) htake)
    | exact wpAny_bind (wpAny_bind (m := Builtin.Tuple.tupleExact _) (wpAny_newObj_type (wpAny_pure (wpAny_pure ⟨_, rfl, wpAny_pure h⟩)) htake))
    | exact wpAny_bind (wpAny_bind (m := Builtin.Tuple.tupleExact _) (wpAny_newObj_type (wpAny_pure ⟨_, rfl, wpAny_pure h⟩) htake))
end
end HT
namespace L2
open PySem PySem.Spec PyProof.Rows
section
variable {X : Cx}
def tRevT (K : PySem.W.Frag) (te : TE) : TE := fun σ H Q => te σ H fun x H1 => ∃ a xs, x = .ref a ∧ SqT K H1 a xs ∧ ∀ p, H1 p = none → Q (.ref p) (upd H1 p (.tup xs.reverse))
theorem pe_revT {e : Expr} {te : TE} {k : Nat} {p1 p2 p3 pos : Pos} (he : PE X e te) : PE X (.Subscript e (.Slice none none (some (.UnaryOp .USub (.Constant (.int 1) k p1) p2)) p3) pos) (tRevT X.K te) := by
  refine ⟨fun pins s σ H Q I h => ?_⟩
  refine Subscript_ (thn (he.run pins s σ H _ I h) fun v s1 ⟨x, H1, I1, r1, q1⟩ => ?_)
  obtain ⟨a, xs, ex, hx, q⟩ := q1
  subst ex
  cases r1
  have hst : PO X (some (.UnaryOp .USub (.Constant (.int 1) k p1) p2)) (tPart (tUn (rU fun i => .int (-i)) (tC (.int 1)))) := po_some (pe_un un_neg pe_int)
  refine wpAny_Slice (thn (po_none.run pins s1 σ H1 (fun o H2 => o = none ∧ H2 = H1) I1 ⟨rfl, rfl⟩) fun vl s2 ⟨l, H2, I2, pl, el, e2⟩ => ?_)
  subst el e2
  refine thn (po_none.run pins s2 σ H2 (fun o H3 => o = none ∧ H3 = H2) I2 ⟨rfl, rfl⟩) fun vu s3 ⟨u, H3, I3, pu, eu, e3⟩ => ?_
  subst eu e3
  refine thn (hst.run pins s3 σ H3 (fun o H4 => o = some (-1) ∧ H4 = H3) I3 ⟨1, rfl, -1, rfl, rfl, rfl⟩) fun vs s4 ⟨o, H4, I4, ps, eo, e4⟩ => ?_
  subst eo e4
  have I5 : Inv X pins σ H4 { s4 with heap := s4.heap.push { cls := .type "slice", data := .fields #[vl, vu, vs] } } := I4.kept (t' := s4.toks) fun b ob q => Heap.get?_push_of_some _ q
  obtain ⟨its, r, ht, hz⟩ := I5.tuple hx
  have hlen := r.length
  cases pl
  cases pu
  show wpAny (model X.prog X.w) X.A (subscriptTail e (.Slice none none (some (.UnaryOp .USub (.Constant (.int 1) k p1) p2)) p3) (.ref a) (.ref s4.heap.objs.size)) (EP X pins σ Q) X.xe { s4 with heap := s4.heap.push { cls := .type "slice", data := .fields #[.none, .none, vs] } }
  refine tail_any (ops := [.ref a, .ref s4.heap.objs.size]) ht.typeIs (PyProof.Rows.slot_tuple_getitem.lookup) ?_ (by with_unfolding_all rfl)
  refine HT.getItem_tuple_rev ht (Heap.IsSliceOf.new _ .none .none vs) ps ?_ (by rw [List.size_toArray]; omega)
  refine ⟨.ref _, _, I5.laid (t' := s4.toks) (o := .tup xs.reverse) (fun b ob q => Heap.get?_push_of_some _ q) (Nat.le_refl _) ?_, rfl, q _ (I5.hok.fresh (Nat.le_refl _))⟩
  exact ⟨by rw [List.length_reverse]; exact hz, _, r.reverse, IsTup.new _ _⟩
theorem kRevT {K : PySem.W.Frag} {e : Expr} {te : TE} {k : Nat} {p1 p2 p3 pos : Pos} (hK : X.K = K) (he : PE X e te) : PE X (.Subscript e (.Slice none none (some (.UnaryOp .USub (.Constant (.int 1) k p1) p2)) p3) pos) (tRevT K te) := by subst hK; exact pe_revT he
end
end L2
namespace DL
open PySem L2 Evl PyProof.Rows TL RZ
theorem ed_revT {O : List Addr} {n : Nat} {ρ : Rho} {te : TE} {K : PySem.W.Frag} {ds : List PyData} (h : EvD O n te ρ (.tuple ds)) : EvD O n (tRevT K te) ρ (.tuple ds.reverse) := fun σ H hn s Q q => h σ H hn s _ fun v H1 e1 d1 => by
  cases d1 with
  | tup a k => exact ⟨_, _, rfl, st_of (sub_of a).1, fun p hp => q _ _ (e1.trans (Ex.new hp)) (.tup (sub_mk upd_same (not_own (own_ex e1 s.own) hp)) (k.reverse.mono (Ex.o O (Ex.new hp))))⟩
end DL
/-! DXI: isinstance(e, ValueError) of a kept exception of an own class. -/
namespace DL
open PySem L2 Evl PyProof.Rows TL RZ
/-- what the class at C says of such a question -/
structure IsiC (K : PySem.W.Frag) (C : Addr) : Prop where
  cl : PySem.W.isClsIn K C = true
  ga : PySem.W.findIn K (.ref C) "__getattribute__" = some (some (.builtin "BaseException.__getattribute__"))
  gg : PySem.W.findIn K (.ref C) "__getattr__" = some none
  ex : PySem.W.subIn K (.ref C) (.type "BaseException") = some true
  cc : PySem.W.findIn K (.ref C) "__class__" = some (some (.builtin "object.__class__"))
  sp : PySem.W.specialIn K (.builtin "object.__class__") "__get__" = some (some (.builtin "getset_descriptor.__get__"))
  tk : PySem.W.takesIn K (.builtin "object.__class__") = some true
  mr : PySem.W.mroIn K C (.type "object") = some true
  ve : PySem.W.subIn K (.ref C) (.type "ValueError") = some true
theorem kit_ve {K : PySem.W.Frag} {C : Addr} (I : IsiC K C) : PySem.W.kitOne K (.ref C) (.type "ValueError") = some true := by
  have m : PySem.W.kitMeta "ValueError" = true := by decide +kernel
  unfold PySem.W.kitOne PySem.W.kitCls
  rw [if_neg (by intro z; have q := eq_of_beq z; cases q)]
  simp only [m, if_true, I.ve]
def rIsiE (K : PySem.W.Frag) (C : Addr) : List V → Hp → VK → Prop := fun xs H Q => ∃ (a dd : Addr) (fs : List (Str × V)), xs = [.ref a, .ty "ValueError"] ∧ H a = some (exk a (.ref C) (some dd)) ∧ H dd = some (.xd fs) ∧ Q (.bl true) H
theorem kIsiE {X : Cx} {K : PySem.W.Frag} {C : Addr} (hK : X.K = K) (C1 : IsiC K C) : CallR X (.builtin "isinstance") (rIsiE K C) := by
  subst hK
  intro pins s σ H xs us Q I r h
  obtain ⟨a, dd, fs, rfl, ea, ed, q⟩ := h
  obtain ⟨u1, u2, rfl, r1, r2⟩ := vals2 r
  obtain rfl : u1 = Value.ref a := r1
  obtain rfl : u2 = Value.type "ValueError" := r2
  obtain ⟨oe, ha, hz, vs, hd⟩ := exk_at I.hok ea
  have hx : ObjOk X.prog X.w H s.heap dd (.xd fs) := I.hok dd _ ed
  obtain ⟨mA, hns, hr⟩ := hx
  obtain ⟨od, ho, hl⟩ := lookIn_ns hns
  have J : PySem.W.InstAt s.heap a oe C (some od) := ⟨ha, hz.1, by unfold PySem.W.notCls; rw [hd] <;> rfl, by rw [hz.2]; exact ho⟩
  exact PySem.W.kia_one (PySem.W.kitx_exc C1.cl C1.ga C1.gg C1.ex C1.cc C1.sp C1.tk C1.mr) I.kIn J (kit_ve C1) (fun z => nomatch z) fun tk => ⟨.bl true, H, I.tok tk, rfl, q⟩
end DL
/-! DXK: try .. except (A, B) as n, where the suite keeps the exception; defs that raise one of several own exceptions. -/
namespace DL
open PySem PySem.Spec L2 PyProof.Rows
theorem fly_keeps {base h h' : Heap} {l : List Env} {e : Addr} {Z : Obj → Prop} (k : ∀ b o, h.get? b = some o → h'.get? b = some o) (f : HandSPX.FlyingZ base l e Z h) : HandSPX.FlyingZ base l e Z h' := by
  obtain ⟨f1, f2, f3, oe, vs, T, oT, ts, he, hz, hd, h1, hn, hne, hT, hdT, h3⟩ := f
  exact ⟨fun b o e => k b o (f1 b o e), f2, f3.of_keeps fun b o hb _ => ⟨o, k b o hb, rfl⟩, oe, vs, T, oT, ts, k _ _ he, hz, hd, h1, hn, hne, k _ _ hT, hdT, h3⟩
/-- what 'except (x1, x2) as n' wishes where each exception of the body is the clause's and the suite goes on: behind it the exception stays told of -/
def wKeep2 (K : PySem.W.Frag) (c1 c2 : Value) (i : Nat) (ts : Addr → Value → Option Addr → TS) (D : Ends) : WX := fun cls d σ H =>
  PySem.W.exmAny K cls [c1, c2] = some true ∧ ∀ a, H a = none →
    ts a cls d { nx := fun σ' H' => H' a = none → D.nx (σ'.set i none) (upd H' a (exk a cls d)), rt := fun _ _ => False } (σ.set i (some (.ref a))) H
section
variable {X : Cx} {x1 x2 n : Str} {c1 c2 : Value} {i kk : Nat} {body suite : List Stmt} {b₀ : Stmt} {p1 p2 tpos pos pos' : Pos} {tb : WX → TS} {ts : Addr → Value → Option Addr → TS}
theorem ps_try_keep2 (hs : X.stack = X.env :: X.outer) (hf : X.env.frame = some X.env.locals) (hex : X.ex = []) (hN : X.N.Nodup) (hi : X.N[i]? = some n)
    (hln : X.env.kindOf n = some .local) (hc1 : Names X x1 c1) (hc2 : Names X x2 c2)
    (hb : ∀ (W : WX) (pn : List (Addr × Obj)) (xe : Value → Shared → Prop), Takes (X.tr pn xe) W → PassesOwn (model X.prog X.w) X.A X.env xe → PSs (X.tr pn xe) body (tb W))
    (hsu : ∀ (a : Addr) (oe : Obj) (cls : Value) (d : Option Addr) (pn : List (Addr × Obj)), Zc cls d oe → (∃ vs, oe.data = .fields vs) → PSs (X.suite a ((a, oe) :: pn)) (b₀ :: suite) (ts a cls d)) :
    PS X (.Try body [.ExceptHandler (some (.Tuple [.Name x1 p1, .Name x2 p2] kk tpos)) (some n) (b₀ :: suite) pos'] [] [] pos) (fun D σ H => tb (wKeep2 X.K c1 c2 i ts D) D σ H) := by
  refine ⟨fun pins s σ H D I h => ?_⟩
  have ok := I.ok
  have frames : X.A.frames = some (X.env :: X.outer) := by
    rw [ok.frames, hs]
  refine wpAny_Try_except ?_
  refine wpAny_mono ((hb (wKeep2 X.K c1 c2 i ts D) (X.pn ++ pins)
    (fun e s₁ => wpAny (model X.prog X.w) X.A (noteFrame e X.env) (fun _ s₂ => wpAny (model X.prog X.w) X.A (setFlight e none)
      (fun _ s₃ => wpAny (model X.prog X.w) X.A (handleBy e X.env [.ExceptHandler (some (.Tuple [.Name x1 p1, .Name x2 p2] kk tpos)) (some n) (b₀ :: suite) pos']) (SP X pins D) X.xe s₃) X.xe s₂) X.xe s₁)
    (fun u s' xx => ?_) PassesOwn.looking).run [] s σ H D (I.toTry _) h) (fun f s1 hsp => ?_) (fun e s1 he => he)
  · obtain ⟨a, B, sI, pins', σ', H', cls, d, rfl, J', nb, up, sky, na, os, ag, hone, hyes⟩ := xx
    have J : Inv X pins σ' H' sI := J'.ofTry ok
    rw [show (X.tr (X.pn ++ pins) _).stack = X.env :: X.outer from hs] at sky
    show wpAny (model X.prog X.w) X.A (noteFrame (.ref a) X.env) _ _ _
    refine Sky.land Zc.steady frames hf sky fun h3 fl3 up3 => ?_
    have J3 : Inv X pins σ' H' { s' with heap := h3 } := J.landed nb fl3.1 (up.trans up3) os ag
    obtain ⟨oe3, vs3, he3, hz3, hd3⟩ := fl3.there
    have away : ∀ {h : Heap} {ob : Obj} {vs : Array Value}, h.FunFrames B (X.env :: X.outer) → h.get? a = some ob → ob.data = .fields vs → a ∉ frs (X.env :: X.outer) := by
      intro h ob vs ff e dd hm
      obtain ⟨_, ob', e', no⟩ := ff.mem hm
      rw [e] at e'
      cases e'
      exact no _ dd
    have nfr := away fl3.2.2.1 he3 hd3
    have nL : a ≠ X.env.locals := by
      intro z
      refine nfr (List.mem_filterMap.mpr ⟨X.env, List.mem_cons_self, ?_⟩)
      rw [hf, z]
    have nF : a ∉ X.fs := by
      intro hm
      obtain ⟨e, he, q⟩ := List.mem_filterMap.mp hm
      exact nfr (List.mem_filterMap.mpr ⟨e, List.mem_cons_of_mem _ he, q⟩)
    -- the exception is new: nothing of what stood ahead of it lies there
    have nI : sI.heap.get? a = none := by
      cases e : sI.heap.get? a with
      | none => rfl
      | some ob =>
        have z := nb a ob e (by rw [show (X.tr (X.pn ++ pins) _).stack = X.env :: X.outer from hs]; exact nfr)
        rw [fl3.2.1] at z
        cases z
    have n0 : X.s_0.heap.get? a = none := by
      cases e : X.s_0.heap.get? a with
      | none => rfl
      | some ob =>
        obtain ⟨ob', q⟩ := J.base.there a ob e (by rw [hex]; exact List.not_mem_nil)
        rw [nI] at q
        cases q
    have npin : ∀ p ∈ X.pn ++ pins, p.1 ≠ a := by
      intro p hp z
      have q := (J.pin p hp).1
      rw [z, nI] at q
      cases q
    have ncell : ∀ y k, X.env.cells.lookup y = some k → k ≠ a := by
      intro y k e z
      obtain ⟨v, ob, q, _⟩ := J.cell y k e
      rw [z, nI] at q
      cases q
    have S3 := J3.suite he3 hd3 na nL nF
    refine wpAny_handleBy_cons (codeAny_handlers_test ?_) (by intro q; cases q)
    have looks : PySem.W.Looks (model X.prog X.w) h3 (typeOf (.ref a)) cls := by
      intro A Q E s k q
      refine wpAny_typeOf_ref (k _ _ he3) ?_
      rw [hz3.1]
      exact q
    have test : ∀ {x : Str} {c : Value} {np : Pos} {Q : Value → Shared → Prop} {E : Value → Shared → Prop}, Names X x c → Q c { s' with heap := h3 } → wpAny (model X.prog X.w) (X.A.mark (some (.ref a))) (eval (.Name x np) X.env) Q E { s' with heap := h3 } := by
      intro x c np Q E hc q
      obtain ⟨g1, g2, g3 | ⟨g3, g4, g5⟩⟩ := hc
      · exact ld_glob (X := X.suite a ((a, oe3) :: (X.pn ++ pins))) S3 g1 g3 q g2
      · exact ld_blt (X := X.suite a ((a, oe3) :: (X.pn ++ pins))) S3 g1 g3 g4 q g5 g2
    have hkp : ∀ b o, h3.get? b = some o → (h3.push { cls := .type "tuple", data := .seq [c1, c2].toArray }).get? b = some o := fun b o e => Heap.get?_push_of_some _ e
    have upP : h3.UpToSlots (h3.push { cls := .type "tuple", data := .seq [c1, c2].toArray }) := Heap.UpToSlots.of_keeps hkp
    have fl3p := fly_keeps hkp fl3
    have J3p : Inv X pins σ' H' { s' with heap := h3.push { cls := .type "tuple", data := .seq [c1, c2].toArray } } := J.landed nb fl3p.1 ((up.trans up3).trans upP) os ag
    have one := PySem.W.exm_tup2 (M := model X.prog X.w) (e := a) (J3p.kIn) (looks.keeps hkp) (Heap.get?_push_size _ rfl) hone
    refine PyProof.Rows.Tuple_ (PyProof.Rows.spliced_more (test hc1 (PyProof.Rows.spliced_more (test hc2 (PyProof.Rows.spliced_none ?_)))))
    refine wpAny_newObj_type ?_
    refine one.here ?_
    refine codeAny_handlers_suite_as ?_
    refine HandSPX.lands_againZ fl3p fun h4 fl4 up4 => ?_
    have J4 : Inv X pins σ' H' { s' with heap := h4 } := J.landed nb fl4.1 (((up.trans up3).trans upP).trans up4) os ag
    obtain ⟨oe4, vs4, he4, hz4, hd4⟩ := fl4.there
    have S4 := J4.suite he4 hd4 na nL nF
    refine store_ok (X := X.suite a ((a, oe4) :: (X.pn ++ pins))) (v := .ref a) S4 hN hi (.inl hln) rfl (fun s5 S5 => ?_) (.inr hln)
    have go := (hsu a oe4 cls d (X.pn ++ pins) hz4 ⟨_, hd4⟩).run [] s5 _ H' _ S5 (hyes a na)
    refine wpAny_mono go (fun f s6 hsp => ?_) (fun _ _ z => False.elim z)
    cases f with
    | next =>
      obtain ⟨σ6, H6, S6, q6⟩ := hsp
      obtain ⟨e6, n6, _⟩ := S6.pin (a, oe4) (List.mem_append_left _ List.mem_cons_self)
      have T6 := track (S6.unsuite ok) n6 n0 npin nL ncell (exk_ok (cls := cls) (d := d) e6 hz4 hd4)
      exact gone_ok T6 hN hi hln fun s7 J7 => ⟨_, _, J7, q6 n6⟩
    | brk =>
      obtain ⟨σ6, H6, S6, q6⟩ := hsp
      exact q6.elim
    | cont =>
      obtain ⟨σ6, H6, S6, q6⟩ := hsp
      exact q6.elim
    | ret u =>
      obtain ⟨v6, σ6, H6, S6, r6, q6⟩ := hsp
      exact q6.elim
  · cases f with
    | ret u =>
      obtain ⟨v, σ', H', J', r, q⟩ := hsp
      exact ⟨v, σ', H', J'.ofTry ok, r, q⟩
    | next =>
      obtain ⟨σ', H', J', q⟩ := hsp
      exact wpAny_execs_nil ⟨σ', H', J'.ofTry ok, q⟩
    | brk =>
      obtain ⟨σ', H', J', q⟩ := hsp
      exact ⟨σ', H', J'.ofTry ok, q⟩
    | cont =>
      obtain ⟨σ', H', J', q⟩ := hsp
      exact ⟨σ', H', J'.ofTry ok, q⟩
end
end DL
namespace DL
open PySem L2 Evl PyProof.Rows TL RZ
/-- a def that answers or raises one of several: the class, its field, what it holds -/
abbrev Ex3 := Addr × Str × Int
def spDY (R : List PyData → PyData ⊕ Ex3 → Prop) : Sp := fun vs H Q E => ∃ (O : List Addr) (ds : List PyData) (r : PyData ⊕ Ex3), (∀ a, a ∈ O → H a ≠ none) ∧ DqAll (sub H O) vs ds ∧ R ds r ∧
  match r with
  | .inl d => ∀ v H', Ex H H' → Dq (sub H' O) v d → Q v H'
  | .inr e => Out e.1 e.2.1 H E e.2.2
section
variable {P : Program} {w : World} {K : PySem.W.Frag} {mg : Str → Option Value} {base : Heap}
theorem pure_okY {R : List PyData → PyData ⊕ Ex3 → Prop} {x qual : Str} {st : Stmt} {f : Addr} {fd : FuncData} {N ps : List Str} {k : Nat} (F : Fun K x qual st f fd) (S : FnScope N ps (defScope st)) (hl : ∀ ds d, R ds d → ds.length = ps.length) (hp : ps.length ≤ N.length)
    (body : ∀ (cdv : Value) (A : Around) (outer : List Env) (s : Shared) (H : Hp) (E : XK), Room k (A.deeper (envOfC qual (defScope st) s.heap.objs.size f cdv)) →
      ∃ t, PSs (cxOf (L2.CX P w) P w K mg base N qual (defScope st) f cdv A outer s H E) (defBody st) t ∧ ∀ O ds r, R ds r → match r with
        | .inl d => RunR O N.length t (argR N ds) d
        | .inr e => RunE O N.length e.1 e.2.1 E t (argR N ds) e.2.2) : FnOk P w K mg base (L2.CX P w) (k + 1) f fd ps (spDY R) := by
  refine F.okX S (fun vs H Q E h => ?_) (fun cdv A outer s H vs Q E hr h => ?_)
  · obtain ⟨O, ds, r, _, hd, hR, _⟩ := h
    rw [hd.length]
    exact hl ds r hR
  · obtain ⟨t, ht, hb⟩ := body cdv A outer s H E hr
    obtain ⟨O, ds, r, ho, hd, hR, q⟩ := h
    have len : (L2.start N vs).length = N.length := start_len (by rw [hd.length, hl ds r hR]; exact hp)
    refine ⟨t, ht, ?_⟩
    have b := hb O ds r hR
    cases r with
    | inl d => exact b _ (L2.start N vs) H len (sd_start ho hd) q
    | inr k => exact b _ (L2.start N vs) H len (sd_start ho hd) q
end
section
variable {O : List Addr} {n : Nat} {ρ ρ1 : Rho} {R : List PyData → PyData ⊕ Ex3 → Prop} {ds : List PyData} {d : PyData} {C : Addr} {f : Str} {k : Int} {tr : TA} {E : L2.St → XK} {te : TE} {i : Nat}
theorem ed_callY (h : EvDA O n tr ρ ds) (hR : R ds (.inl d)) : EvD O n (tCallS (spDY R) E tr) ρ d := fun σ H hn s Q q =>
  h σ H hn s _ fun vs H1 e1 d1 => ⟨O, ds, .inl d, own_ex e1 s.own, d1, hR, fun v H2 e2 d2 => q v H2 (e1.trans e2) d2⟩
theorem ee_callY (h : EvDA O n tr ρ ds) (hR : R ds (.inr (C, f, k))) : EvE O n C f (tCallS (spDY R) E tr) ρ k E := fun σ H hn s q Q =>
  h σ H hn s _ fun vs H1 e1 d1 => ⟨O, ds, .inr (C, f, k), own_ex e1 s.own, d1, hR, q.ex e1⟩
/-- an expression that raises, as a statement or in an assignment -/
theorem re_drop {E : XK} (h : EvE O n C f te ρ k (fun _ => E)) : RunE O n C f E (tDrop te) ρ k := fun D σ H hn s q => h σ H hn s q _
theorem re_asg {E : XK} {g : TG} (h : EvE O n C f te ρ k (fun _ => E)) : RunE O n C f E (tAsg te g) ρ k := fun D σ H hn s q => h σ H hn s q _
end
/-- isinstance(e, C2) of a kept exception of the class C -/
def rIsiO (C C2 : Addr) (b : Bool) : List V → Hp → VK → Prop := fun xs H Q => ∃ (a dd : Addr) (fs : List (Str × V)), xs = [.ref a, .ref C2] ∧ H a = some (exk a (.ref C) (some dd)) ∧ H dd = some (.xd fs) ∧ Q (.bl b) H
end DL
namespace DL
open PySem L2 Evl PyProof.Rows TL RZ
/-- isinstance(e, x) of a kept exception, whatever its class; what the class says is told where it is read -/
def rIsiQ (K : PySem.W.Frag) : List V → Hp → VK → Prop := fun xs H Q => ∃ (a C dd : Addr) (fs : List (Str × V)) (v2 : V) (u2 : Value) (b : Bool), xs = [.ref a, v2] ∧ H a = some (exk a (.ref C) (some dd)) ∧ H dd = some (.xd fs) ∧ IsiC K C ∧ (∀ u, RelV v2 u → u = u2) ∧ PySem.W.kitOne K (.ref C) u2 = some b ∧ Q (.bl b) H
theorem kIsiQ {X : Cx} {K : PySem.W.Frag} (hK : X.K = K) : CallR X (.builtin "isinstance") (rIsiQ K) := by
  subst hK
  intro pins s σ H xs us Q I r h
  obtain ⟨a, C, dd, fs, v2, u2', b, rfl, ea, ed, C1, hu, me, q⟩ := h
  obtain ⟨u1, u2, rfl, r1, r2⟩ := vals2 r
  obtain rfl : u1 = Value.ref a := r1
  obtain rfl := hu u2 r2
  obtain ⟨oe, ha, hz, vs, hd⟩ := exk_at I.hok ea
  have hx : ObjOk X.prog X.w H s.heap dd (.xd fs) := I.hok dd _ ed
  obtain ⟨mA, hns, hr⟩ := hx
  obtain ⟨od, ho, hl⟩ := lookIn_ns hns
  have J : PySem.W.InstAt s.heap a oe C (some od) := ⟨ha, hz.1, by unfold PySem.W.notCls; rw [hd] <;> rfl, by rw [hz.2]; exact ho⟩
  exact PySem.W.kia_one (PySem.W.kitx_exc C1.cl C1.ga C1.gg C1.ex C1.cc C1.sp C1.tk C1.mr) I.kIn J me (fun z => nomatch z) fun tk => ⟨.bl b, H, I.tok tk, rfl, q⟩
end DL
namespace DL
open PySem L2 Evl PyProof.Rows TL RZ
theorem exm_cross {K : PySem.W.Frag} {C S : Addr} {b : Bool} (e : PySem.W.subIn K (.ref S) (.type "BaseException") = some true) (i : PySem.W.isClsIn K S = true)
    (t : PySem.W.typeIn K (.ref S) = some (.type "type")) (u : PySem.W.subIn K (.ref C) (.ref S) = some b) : PySem.W.exmOne K (.ref C) (.ref S) = some b := by
  have i2 : (PySem.W.clsIn K S).isSome = true := i
  have a1 : (PySem.W.subIn K (.ref S) (.type "BaseException") == some true) = true := by
    rw [e]
    rfl
  unfold PySem.W.exmOne
  rw [if_pos a1]
  have a2 : ((PySem.W.clsIn K S).isSome && PySem.W.typeIn K (.ref S) == some (.type "type")) = true := by
    rw [i2, t]
    rfl
  show (if _ then _ else _) = _
  rw [if_pos a2]
  exact u
theorem exm_any1 {K : PySem.W.Frag} {C C2 : Addr} (h1 : PySem.W.exmOne K (.ref C) (.ref C) = some true) (h2 : PySem.W.exmOne K (.ref C) (.ref C2) = some false) : PySem.W.exmAny K (.ref C) [.ref C, .ref C2] = some true := by
  show (match PySem.W.exmOne K (.ref C) (.ref C), PySem.W.exmAny K (.ref C) [.ref C2] with | some b, some d => some (b || d) | _, _ => none) = _
  rw [h1, show PySem.W.exmAny K (.ref C) [.ref C2] = some false by show (match PySem.W.exmOne K (.ref C) (.ref C2), PySem.W.exmAny K (.ref C) [] with | some b, some d => some (b || d) | _, _ => none) = _; rw [h2]; rfl]
  rfl
theorem exm_any2 {K : PySem.W.Frag} {C C2 : Addr} (h1 : PySem.W.exmOne K (.ref C2) (.ref C2) = some true) (h2 : PySem.W.exmOne K (.ref C2) (.ref C) = some false) : PySem.W.exmAny K (.ref C2) [.ref C, .ref C2] = some true := by
  show (match PySem.W.exmOne K (.ref C2) (.ref C), PySem.W.exmAny K (.ref C2) [.ref C2] with | some b, some d => some (b || d) | _, _ => none) = _
  rw [h2, show PySem.W.exmAny K (.ref C2) [.ref C2] = some true by show (match PySem.W.exmOne K (.ref C2) (.ref C2), PySem.W.exmAny K (.ref C2) [] with | some b, some d => some (b || d) | _, _ => none) = _; rw [h1]; rfl]
  rfl
end DL
namespace DL
open PySem L2 Evl PyProof.Rows TL RZ
theorem kit_cross {K : PySem.W.Frag} {C S : Addr} (me : PySem.W.subIn K (.ref C) (.ref C) = some true) (i : PySem.W.isClsIn K S = true) (t : PySem.W.typeIn K (.ref S) = some (.type "type")) (u : PySem.W.subIn K (.ref C) (.ref S) = some false) : PySem.W.kitOne K (.ref C) (.ref S) = some false := by
  have ne : C ≠ S := fun z => by
    rw [← z, me] at u
    cases u
  have i2 : (PySem.W.clsIn K S).isSome = true := i
  have a2 : ((PySem.W.clsIn K S).isSome && PySem.W.typeIn K (.ref S) == some (.type "type")) = true := by
    rw [i2, t]
    rfl
  unfold PySem.W.kitOne
  rw [if_neg (fun z => ne (Value.ref.inj (eq_of_beq z)))]
  unfold PySem.W.kitCls
  show (if _ then _ else _) = _
  rw [if_pos a2]
  exact u
end DL
/-! DXL: behind a try whose suite kept the exception in a slot: what is read of it there. -/
namespace DL
open PySem L2 Evl PyProof.Rows TL RZ
/-- slot j holds a kept exception of C with f = k -/
def KP (j : Nat) (C : Addr) (f : Str) (k : Int) (H : Hp) (σ : L2.St) : Prop := ∃ a dd, σ[j]? = some (some (.ref a)) ∧ H a = some (exk a (.ref C) (some dd)) ∧ H dd = some (.xd [(f, .int k)])
theorem KP.ex {j : Nat} {C : Addr} {f : Str} {k : Int} {H H' : Hp} {σ : L2.St} (h : KP j C f k H σ) (e : Ex H H') : KP j C f k H' σ := by
  obtain ⟨a, dd, h1, h2, h3⟩ := h
  exact ⟨a, dd, h1, e _ _ h2, e _ _ h3⟩
section
variable (O : List Addr) (n j : Nat) (C : Addr) (f : Str) (k : Int)
def EvK (te : TE) (ρ : Rho) (d : PyData) : Prop := ∀ (σ : L2.St) (H : Hp), σ.length = n → SD O H σ ρ → KP j C f k H σ → ∀ Q : VK, (∀ v H', Ex H H' → Dq (sub H' O) v d → Q v H') → te σ H Q
def EvKA (ta : TA) (ρ : Rho) (ds : List PyData) : Prop := ∀ (σ : L2.St) (H : Hp), σ.length = n → SD O H σ ρ → KP j C f k H σ → ∀ Q : List V → Hp → Prop, (∀ vs H', Ex H H' → DqAll (sub H' O) vs ds → Q vs H') → ta σ H Q
def EvKT (tt : TT) (ρ : Rho) (b : Bool) : Prop := ∀ (σ : L2.St) (H : Hp), σ.length = n → SD O H σ ρ → KP j C f k H σ → ∀ Q : Bool → Hp → Prop, (∀ H', Ex H H' → Q b H') → tt σ H Q
def RunK (t : TS) (ρ : Rho) (d : PyData) : Prop := ∀ (D : Ends) (σ : L2.St) (H : Hp), σ.length = n → SD O H σ ρ → KP j C f k H σ → (∀ v H', Ex H H' → Dq (sub H' O) v d → D.rt v H') → t D σ H
end
section
variable {O : List Addr} {n j i : Nat} {C C2 : Addr} {f : Str} {k : Int} {te : TE} {ta : TA} {tt : TT} {t u : TS} {ρ : Rho} {d : PyData} {ds : List PyData} {K : PySem.W.Frag} {b : Bool}
theorem ek_of (h : EvD O n te ρ d) : EvK O n j C f k te ρ d := fun σ H hn s _ Q q => h σ H hn s Q q
theorem ek_kept : EvK O n j C f k (tKept C f (tVar j)) ρ (.int k) := fun σ H hn s p Q q => by
  obtain ⟨a, dd, h1, h2, h3⟩ := p
  exact ⟨_, h1, a, dd, .int k, rfl, h2, h3, q _ H (Ex.refl H) (.int k)⟩
theorem ek_ve (I : IsiC K C) : EvK O n j C f k (tCB (rIsiQ K) (tCons (tVar j) (tCons (tC (.ty "ValueError")) tNil))) ρ (.bool true) := fun σ H hn s p Q q => by
  obtain ⟨a, dd, h1, h2, h3⟩ := p
  exact ⟨_, h1, a, C, dd, _, .ty "ValueError", .type "ValueError", true, rfl, h2, h3, I, fun u r => r, kit_ve I, q _ H (Ex.refl H) (.bl true)⟩
theorem ek_isi (I : IsiC K C) (h : PySem.W.kitOne K (.ref C) (.ref C2) = some b) : EvK O n j C f k (tCB (rIsiQ K) (tCons (tVar j) (tCons (tC (.ref C2)) tNil))) ρ (.bool b) := fun σ H hn s p Q q => by
  obtain ⟨a, dd, h1, h2, h3⟩ := p
  exact ⟨_, h1, a, C, dd, _, .ref C2, .ref C2, b, rfl, h2, h3, I, fun u r => r, h, q _ H (Ex.refl H) (.bl b)⟩
theorem eka_nil : EvKA O n j C f k tNil ρ [] := fun σ H _ s _ Q q => q _ H (Ex.refl H) .nil
theorem eka_cons {tr : TA} {x : PyData} {xs : List PyData} (ha : EvK O n j C f k te ρ x) (hr : EvKA O n j C f k tr ρ xs) : EvKA O n j C f k (tCons te tr) ρ (x :: xs) := fun σ H hn s p Q q =>
  ha σ H hn s p _ fun v H1 e1 d1 => hr σ H1 hn (s.ex e1) (p.ex e1) _ fun vs H2 e2 d2 => q _ H2 (e1.trans e2) (.cons (d1.mono (Ex.o O e2)) d2)
theorem ek_lst (hr : EvKA O n j C f k ta ρ ds) (hl : ds.length ≤ 100000) : EvK O n j C f k (tLst ta) ρ (.list ds) := fun σ H hn s p Q q =>
  hr σ H hn s p _ fun vs H1 e1 d1 => ⟨by rw [d1.length]; exact sz_of hl, fun l hp => q _ _ (e1.trans (Ex.new hp)) (.lst (sub_mk upd_same (not_own (own_ex e1 s.own) hp)) (d1.mono (Ex.o O (Ex.new hp))))⟩
/-- the kept exception is not None -/
theorem ekt_isN : EvKT O n j C f k (tTest (tOp (fun x y H Q => y = .non ∧ Q (.bl (decide (x = .non))) H) (tVar j) (tC .non))) ρ false := fun σ H hn s p Q q => by
  obtain ⟨a, dd, h1, h2, h3⟩ := p
  exact ⟨_, h1, rfl, _, rfl, q H (Ex.refl H)⟩
theorem ekt_B (h : EvK O n j C f k te ρ (.bool b)) : EvKT O n j C f k (tB te) ρ b := fun σ H hn s p Q q => h σ H hn s p _ fun v H1 e1 d1 => by
  cases d1
  exact ⟨b, rfl, q H1 e1⟩
theorem rk_when (h : EvKT O n j C f k tt ρ b) (h1 : b = true → RunK O n j C f k t ρ d) (h2 : b = false → RunK O n j C f k u ρ d) : RunK O n j C f k (tSeq (tIfS tt t tNext) u) ρ d := fun D σ H hn s p q => h σ H hn s p _ fun H1 e1 => by
  cases b with
  | true => exact iteT (h1 rfl _ σ H1 hn (s.ex e1) (p.ex e1) fun v H2 e2 d2 => q v H2 (e1.trans e2) d2)
  | false => exact iteF (h2 rfl D σ H1 hn (s.ex e1) (p.ex e1) fun v H2 e2 d2 => q v H2 (e1.trans e2) d2)
theorem rk_ret (h : EvK O n j C f k te ρ d) : RunK O n j C f k (tRet te) ρ d := fun D σ H hn s p q => h σ H hn s p _ fun v H1 e1 d1 => q v H1 e1 d1
/-! ### the try -/
variable {c1 c2 : Value} {ts : Addr → Value → Option Addr → TS} {tb : WX → TS} {ρ1 : Rho}
/-- it runs through -/
theorem rn_try2 (h : ∀ W, RunN O n (tb W) ρ ρ1) : RunN O n (fun D σ H => tb (wKeep2 K c1 c2 i ts D) D σ H) ρ ρ1 := fun D σ H hn s q => h _ D σ H hn s q
/-- its body raises; the suite keeps the exception in slot j -/
theorem rr_try2 (hx : ∀ (W : WX) (D : Ends) (σ : L2.St) (H : Hp), σ.length = n → SD O H σ ρ → Out C f H (fun cls d H' => W cls d σ H') k → tb W D σ H)
    (hts : ∀ a cls d, ts a cls d = tAsg (tVar i) (gName j)) (hm : PySem.W.exmAny K (.ref C) [c1, c2] = some true) (hi : i < n) (hj : j < n) (hij : i ≠ j)
    (h2 : RunK O n j C f k u ((ρ.set j none).set i none) d) : RunR O n (tSeq (fun D σ H => tb (wKeep2 K c1 c2 i ts D) D σ H) u) ρ d := fun D σ H hn s q => by
  refine hx _ _ σ H hn s fun dd H' e1 nd hd => ⟨hm, fun a na => ?_⟩
  rw [hts]
  have li : i < σ.length := by rw [hn]; exact hi
  refine ⟨.ref a, List.getElem?_set_self li, fun na2 => ?_⟩
  have x3 : Ex H' (upd H' a (exk a (.ref C) (some dd))) := Ex.new na
  have x13 := e1.trans x3
  refine h2 D _ _ (by rw [List.length_set, List.length_set, List.length_set]; exact hn) ?_ ⟨a, dd, ?_, upd_same, x3 _ _ hd⟩ fun v H3 e3 d3 => q v H3 (x13.trans e3) d3
  · refine ⟨own_ex x13 s.own, fun l x hl => ?_⟩
    by_cases c : i = l
    · subst c
      by_cases hb : i < (ρ.set j none).length
      · rw [List.getElem?_set_self hb] at hl
        cases hl
      · rw [List.getElem?_eq_none (by rw [List.length_set]; omega)] at hl
        cases hl
    · rw [List.getElem?_set_ne c] at hl
      by_cases c2 : j = l
      · subst c2
        by_cases hb : j < ρ.length
        · rw [List.getElem?_set_self hb] at hl
          cases hl
        · rw [List.getElem?_eq_none (by rw [List.length_set]; omega)] at hl
          cases hl
      · rw [List.getElem?_set_ne c2] at hl
        obtain ⟨v, h1, h3⟩ := s.at' l x hl
        exact ⟨v, by rw [List.getElem?_set_ne c, List.getElem?_set_ne c2, List.getElem?_set_ne c]; exact h1, h3.mono (Ex.o O x13)⟩
  · rw [List.getElem?_set_ne hij, List.getElem?_set_self (by rw [List.length_set]; omega)]
end
/-! ### tests that raise -/
section
variable {O : List Addr} {n : Nat} {ρ : Rho} {C : Addr} {f : Str} {k : Int} {te : TE} {tt : TT} {t u : TS} {E : XK}
def EvTE (O : List Addr) (n : Nat) (C : Addr) (f : Str) (tt : TT) (ρ : Rho) (k : Int) (E : L2.St → XK) : Prop := ∀ (σ : L2.St) (H : Hp), σ.length = n → SD O H σ ρ → Out C f H (E σ) k → ∀ Q, tt σ H Q
theorem te_B {E : L2.St → XK} (h : EvE O n C f te ρ k E) : EvTE O n C f (tB te) ρ k E := fun σ H hn s q Q => h σ H hn s q _
theorem te_not {E : L2.St → XK} (h : EvTE O n C f tt ρ k E) : EvTE O n C f (tNot tt) ρ k E := fun σ H hn s q Q => h σ H hn s q _
theorem re_test (h : EvTE O n C f tt ρ k (fun _ => E)) : RunE O n C f E (tSeq (tIfS tt t tNext) u) ρ k := fun D σ H hn s q => h σ H hn s q _
theorem re_raiseT {ta : TA} (h : EvDA O n ta ρ [.int k]) : RunE O n C f E (tSeq (tRz C f (fun cls d _ H => E cls d H) ta) u) ρ k := re_fst (re_raise h)
/-- an expression by cases, whose chosen part raises -/
theorem ee_if {E : L2.St → XK} {ta tb : TE} {tt : TT} {b : Bool} (h : EvDT O n tt ρ b) (h1 : b = true → EvE O n C f ta ρ k E) (h2 : b = false → EvE O n C f tb ρ k E) : EvE O n C f (tIf tt ta tb) ρ k E := fun σ H hn s q Q => h σ H hn s _ fun H1 e1 => by
  cases b with
  | true => exact iteT (h1 rfl σ H1 hn (s.ex e1) (q.ex e1) Q)
  | false => exact iteF (h2 rfl σ H1 hn (s.ex e1) (q.ex e1) Q)
end
end DL
/-! KWX: an own exception class called with keywords. -/
namespace PySem
namespace HandSPX
section
variable {M : Model} {A : Around} {E : Value → Shared → Prop} {h : Heap} {g : Array GenState} {d : Drawn} {t : Nat} {os : OsState}
variable {nm q : Str} {C N : Addr} {bs bm bmB : List Value} {hdct : Bool} {sn : List Str} {sub : List Value} {ab : Bool} {col : Option Bool} {dd : Option Addr} {k0 k1 k2 k3 k5 : Option Value} {B newId initId : String} {kw : List (Str × Value)}
theorem check_new_kw (F : ExcBaseFacts B newId initId bmB) (hT : ∀ X : String, bm.contains (.type X) = bmB.contains (.type X)) {rest : List Value} {Q : Unit → Shared → Prop}
    (hC : h.get? C = some (excClassObj nm q C N bs bm hdct sn sub ab col dd k0 k1 k2 k3 k5 newId)) (hq : Q () ⟨h, g, d, t, os⟩) : wpAny M A (checkBuiltinCall newId ⟨.ref C :: rest, kw⟩) Q E ⟨h, g, d, t, os⟩ := by
  have hcont : (Value.ref C :: bm).contains (.type B) = true := by rw [List.contains_cons, hT, F.hasB, Bool.or_true]
  have hstar := F.noStar
  simp only [checkBuiltinCall, F.newKind, F.newSplit, F.newRow]
  repeat (first | refine wpAny_loadPart_at hC ?_ | (refine wpAny_isSubtype_exc hC ?_; rw [hcont]) | refine wpAny_staticBase_exc hC ?_ | refine wpAny_madeBy_exc hC ?_ | simp only [bne_self_eq_false, Bool.false_eq_true, if_false] | wp_step)
  exact hq
end
section
variable {prog : Program} {w : World} {A : Around} {E : Value → Shared → Prop} {R : Result → Shared → Prop} {h : Heap} {g : Array GenState} {d : Drawn} {t : Nat} {os : OsState}
variable {nm q : Str} {C N : Addr} {bs bm bmB : List Value} {hdct : Bool} {sn : List Str} {sub : List Value} {ab : Bool} {col : Option Bool} {dd : Option Addr} {k0 k1 k2 k3 k5 : Option Value} {B newId initId : String} {kw : List (Str × Value)}
theorem new_kw (F : ExcBaseFacts B newId initId bmB) (hT : ∀ X : String, bm.contains (.type X) = bmB.contains (.type X)) {rest : List Value}
    (hC : h.get? C = some (excClassObj nm q C N bs bm hdct sn sub ab col dd k0 k1 k2 k3 k5 newId))
    (hq : R (.ok (.ret (.ref (h.objs.size + 1)))) ⟨(h.push { cls := .type "tuple", data := .seq rest.toArray }).push
      { cls := .ref C, data := .fields #[.ref h.objs.size, .none, .none, .none, .bool false, .none] }, g, d, t, os⟩) (hrest : rest.length ≤ sizeLine) :
    codeAny (model prog w) A (.builtin newId ⟨.ref C :: rest, kw⟩) R ⟨h, g, d, t, os⟩ := by
  have hends := F.ends
  have hcB : (Value.ref C :: bm).contains (.type B) = true := by rw [List.contains_cons, hT, F.hasB, Bool.or_true]
  have hcA : (Value.ref C :: bm).contains (.type "AttributeError") = false := by rw [List.contains_cons, hT, F.noAttr]; rfl
  have hcN : (Value.ref C :: bm).contains (.type "NameError") = false := by rw [List.contains_cons, hT, F.noName]; rfl
  refine codeAny_builtinAt F.entry ?_
  unfold Builtin.«BaseException.__new__»
  refine wpAt_bind ?_
  show wpAt _ _ _ (stack >>= _) _ _ _
  refine wpAt_bind (wpAt_stack fun p below => wpAt_of_wpAny ?_)
  wp_walk
  refine wpAt_of_wpAny ?_
  rw [F.owner]
  repeat (first | with_reducible refine wpAny_madeHere_exc F.canon hC ?_ | with_reducible refine wpAny_loadPart_at hC ?_ | (with_reducible refine wpAny_isSubtype_exc hC ?_; first | rw [hcB] | rw [hcA] | rw [hcN]) | wp_step)
  show R _ _
  rw [Heap.size_push]
  exact hq
theorem type_call_kw (F : ExcBaseFacts B newId initId bmB) (hT : ∀ X : String, bm.contains (.type X) = bmB.contains (.type X)) {rest : List Value} {fI : Addr} {Q : Fin → Shared → Prop}
    (hC : h.get? C = some (excClassObj nm q C N bs bm hdct sn sub ab col dd k0 k1 k2 k3 k5 newId))
    (hi : W.Looks (model prog w) h (typeLookup (.ref C) "__init__") (some (.ref fI))) (hb : ∀ self, W.Looks (model prog w) h (bindSpecial (.ref fI) self) (.ref fI, [self])) (hrest : rest.length ≤ sizeLine)
    (hq : codeAny (model prog w) A (.call (.ref fI) ⟨.ref (h.objs.size + 1) :: rest, kw⟩)
      (fun r s' => match r with | .ok (.ret v) => v = .none ∧ Q (.done (.ret (.ref (h.objs.size + 1)))) s' | .ok _ => False | .error e => E e s')
      ⟨(h.push (W.kdv_tup rest)).push (excO C h.objs.size), g, d, t, os⟩) :
    wpAny (model prog w) A (Builtin.«type.__call__» ⟨.ref C :: rest, kw⟩) Q E ⟨h, g, d, t, os⟩ := by
  repeat (first | with_reducible refine wpAny_loadPart_at hC ?_ | with_reducible refine wpAny_madeBy_exc hC ?_ | wp_step)
  refine codeAny_call_builtin_code (Code.quiet_builtin _ F.quiet) (check_new_kw F hT hC ?_)
  refine new_kw F hT hC ?_ hrest
  show wpAny _ _ _ _ _ _
  have k : ∀ b o, h.get? b = some o → ((h.push (W.kdv_tup rest)).push (excO C h.objs.size)).get? b = some o := fun b o e => Heap.get?_push_of_some _ (Heap.get?_push_of_some _ e)
  have hC₁ := k _ _ hC
  have hget : ((h.push (W.kdv_tup rest)).push (excO C h.objs.size)).get? (h.objs.size + 1) = some (excO C h.objs.size) := by heap_get
  have hcC : (Value.ref C :: bm).contains (.ref C) = true := by simp
  have i1 := hi.keeps k
  have b1 := (hb (.ref (h.objs.size + 1))).keeps k
  unfold isInstance
  repeat (first | with_reducible refine wpAny_loadPart_at hget ?_ | (with_reducible refine wpAny_isSubtype_exc hC₁ ?_; rw [hcC]) | wp_step)
  show wpAny _ _ (typeLookup (.ref C) _) _ _ _
  refine i1.at ?_
  refine wpAny_holding (wpAny_bind (b1.at ?_))
  refine wpAny_bind (wpAny_call (codeAny_mono hq fun r s' z => ?_))
  rcases r with e | (v | _ | _ | _) <;> first | exact z | exact z.elim | skip
  obtain ⟨rfl, z⟩ := z
  first
    | exact wpAny_pure (wpAny_pure z)
    | (wp_walk; exact z)
theorem call_kw (F : ExcBaseFacts B newId initId bmB) (hT : ∀ X : String, bm.contains (.type X) = bmB.contains (.type X)) {rest : List Value} {fI : Addr}
    (hC : h.get? C = some (excClassObj nm q C N bs bm hdct sn sub ab col dd k0 k1 k2 k3 k5 newId))
    (hi : W.Looks (model prog w) h (typeLookup (.ref C) "__init__") (some (.ref fI))) (hb : ∀ self, W.Looks (model prog w) h (bindSpecial (.ref fI) self) (.ref fI, [self])) (hrest : rest.length ≤ sizeLine)
    (hq : codeAny (model prog w) (A.under (.builtin "type.__call__" ⟨.ref C :: rest, kw⟩)) (.call (.ref fI) ⟨.ref (h.objs.size + 1) :: rest, kw⟩) (W.InitBack (h.objs.size + 1) R)
      ⟨(h.push (W.kdv_tup rest)).push (excO C h.objs.size), g, d, t, os⟩) :
    codeAny (model prog w) A (.call (.ref C) ⟨rest, kw⟩) R ⟨h, g, d, t, os⟩ := by
  have f1 := tc_lookup
  have f2 := tc_bind (.ref C)
  have hTy : (⟨h, g, d, t, os⟩ : Shared).TypeIs (.ref C) "type" := ⟨_, hC, rfl⟩
  refine codeAny_of_tree ?_
  show wpAny _ _ (callAny (.ref C) _) _ _ _
  repeat (any_goals (first | assumption | with_reducible refine wpAny_loadPart_at hC ?_ | wp_step))
  refine ⟨rfl, ?_⟩
  refine codeAny_call_builtin_at (Code.quiet_builtin _ (by decide +kernel)) entry_typeCall (wpAny_check_type_call_sub hC (type_call_kw F hT hC hi hb hrest ?_))
  refine codeAny_mono hq fun r s' z => ?_
  rcases r with e | (v | _ | _ | _) <;> exact z
end
end HandSPX
end PySem
namespace L2
open PySem PySem.Spec PyProof.Rows
/-- C(k = v, ..), an own exception class with an own __init__ -/
def tMkK (C : Addr) (sp : Sp) (m : Nat) (gV : List V → List V → List V) (tk : TA) : St → Hp → XK → Prop := fun σ H Q => tk σ H fun zs H1 => zs.length = m ∧ ∀ a, H1 a = none → sp (gV [.ref a] zs) (upd H1 a (exo a C none))
  (fun v H2 => v = .non ∧ ∃ (d : Addr) (fs : List (Str × V)), H2 a = some (exo a C (some d)) ∧ H2 d = some (exd d fs) ∧ H1 d = none ∧ Q (.ref C) (some d) (upd (del H2 a) d (.xd fs))) (fun _ _ _ => False)
theorem pmk_oexK {X : Cx} {CX : CXT} {x : Str} {C fI : Addr} {k : Nat} {fd : FuncData} {ps ks : List Str} {sp : Sp} {p pos : Pos} {kws : List Keyword} {tk : TA} {g : List Value → List Value → List Value} {gV : List V → List V → List V} (T : OexC X.K C) (iC : PySem.W.findIn X.K (.ref C) "__init__" = some (some (.ref fI))) (tI : PySem.W.typeIn X.K (.ref fI) = some (.type "function"))
    (F1 : FnOk X.prog X.w X.K X.mg X.base CX k fI fd ps sp) (hr : Room (k + 1) X.A) (hb : KBn X.K fd ps 1 ks g gV) (hx : Passes CX X (fun _ _ _ => False)) (hg : Gl X x) (hm : X.mg x = some (.ref C)) (hkw : PK X kws tk)
    (hall : (backToKw pos (keywordEach kws X.env)).all (·.1.isSome) = true := by rfl) (hks : (backToKw pos (keywordEach kws X.env)).filterMap (·.1) = ks := by rfl) (hdb : (x == ("__debug__" : Str)) = false := by decide)
    (hpl : ((backTo pos (starEach [] X.env)).any (·.1) || (backToKw pos (keywordEach kws X.env)).any (·.1.isNone)) = false := by rfl) :
    PMk X (.Call (.Name x p) [] kws pos) (tMkK C sp ks.length gV tk) := by
  intro pins s σ H Q I h
  obtain ⟨nm, q, N, bs, bm, sn, sub, ab, col, dd, k0, k1, k2, k3, k5, hC, hbm⟩ := T.cls
  refine wpAny_Call_Name_kw (ld_glob I hg hm ?_ hdb)
  refine PySem.W.callWith_KW0 (h₀ := X.base) I.ok.mod.kin T.kC hall ?_ hpl
  refine thn (hkw.run pos pins s σ H _ I h) fun ws s1 ⟨zs, H1, I1, rz, l1, q1⟩ => ⟨I1.kIn, ?_⟩
  rw [hks]
  show wpAny _ _ (call (.ref C) [] (ks.zip ws)) _ _ _
  obtain ⟨hp, g0, dr, tk0, os⟩ := s1
  have hsz : hp.objs.size ≤ hp.objs.size + 1 := Nat.le_succ _
  have hn : H1 (hp.objs.size + 1) = none := I1.hok.fresh hsz
  have hq := q1 (hp.objs.size + 1) hn
  have kk : ∀ b o, hp.get? b = some o → ((hp.push (PySem.W.kdv_tup [])).push (PySem.HandSPX.excO C hp.objs.size)).get? b = some o := fun b o e => Heap.get?_push_of_some _ (Heap.get?_push_of_some _ e)
  have hget : ((hp.push (PySem.W.kdv_tup [])).push (PySem.HandSPX.excO C hp.objs.size)).get? (hp.objs.size + 1) = some (PySem.HandSPX.excO C hp.objs.size) := by heap_get
  have I2 : Inv X pins σ (upd H1 (hp.objs.size + 1) (exo (hp.objs.size + 1) C none)) ⟨(hp.push (PySem.W.kdv_tup [])).push (PySem.HandSPX.excO C hp.objs.size), g0, dr, tk0, os⟩ :=
    I1.laid (t' := tk0) (a := hp.objs.size + 1) (o := exo (hp.objs.size + 1) C none) (h' := (hp.push (PySem.W.kdv_tup [])).push (PySem.HandSPX.excO C hp.objs.size)) kk hsz (exo_ok hget)
  have r1 : Vals [V.ref (hp.objs.size + 1)] [Value.ref (hp.objs.size + 1)] := .cons rfl .nil
  have r2 := hb.rel r1 rz
  refine wpAny_call (PySem.HandSPX.call_kw F.excBase_ValueError (fun Y => PySem.HandSPX.refsVE_contains Y bm hbm) (I1.kIn _ _ hC) (PySem.W.looks_findIn I1.kIn iC) (fun self => PySem.W.bind_fn I1.kIn self tI) (Nat.zero_le _)
    (codeAny_mono (F1.run _ X.stack _ _ ⟨[Value.ref (hp.objs.size + 1)], ks.zip ws⟩ (g [Value.ref (hp.objs.size + 1)] ws) _ _ (fun _ _ _ => False) (hr.make C [] (ks.zip ws)) (I2.env0.make C [] (ks.zip ws)) (hb.to _ [Value.ref (hp.objs.size + 1)] ws I2.kIn rfl (rz.length.symm.trans l1)) r2 hq) fun r s' hq' => ?_))
  cases r with
  | error er => exact hx pins σ _ _ er s' I2 hq'
  | ok fl =>
    cases fl with
    | ret u =>
      obtain ⟨v, H2, os2, bare2, un2, hok2, rv, ev, d, fs, ea, ed, hd1, q2⟩ := hq'
      subst ev
      obtain ⟨h2, g2, d2, t2, os'⟩ := s'
      exact ⟨rv, mk_end (raises_own T.exC T.tyC) I1 hsz kk un2 hok2 os2 bare2 ea ed hd1 q2⟩
    | next => exact False.elim hq'
    | brk => exact False.elim hq'
    | cont => exact False.elim hq'
end L2
/-! DXV: own exceptions as values: made (by places, by names, of nothing), kept as data, asked by isinstance, read by their fields. -/
namespace DL
open PySem PySem.Spec L2 PyProof.Rows
/-- an expression that makes an exception, its value kept -/
def tMkV (t : L2.St → Hp → XK → Prop) : TE := fun σ H Q => t σ H fun cls d H' => ∀ a, H' a = none → Q (.ref a) (upd H' a (exk a cls d))
theorem pe_mkV {X : Cx} {e : Expr} {t : L2.St → Hp → XK → Prop} (he : PMk X e t) : PE X e (tMkV t) := by
  refine ⟨fun pins s σ H Q I h => wpAny_mono (he pins s σ H _ I h) (fun u s' x => ?_) fun _ _ z => z⟩
  obtain ⟨a, oe, vs, sI, H', cls, d, rfl, J, k, hne, ha, hz, hd, h1, na, os, ag, r, q⟩ := x
  obtain ⟨hp, g, dr, tk, os'⟩ := s'
  have J1 := J.laidN (t' := tk) (o := exk a cls d) k hne na (exk_ok ha hz hd)
  obtain rfl : os' = sI.os := os
  exact ⟨.ref a, _, { J1 with bare := ag }, rfl, q a na⟩
/-- C() of a class without an own __init__ -/
theorem pmk_own0 {X : Cx} {C : Addr} {bmB : List Value} {B newId initId : String} {x : Str} {p pos : Pos} (F : ExcBaseFacts B newId initId bmB) (q : PySem.W.excIn X.K C bmB newId = true) (gC : X.mg x = some (.ref C))
    (kC : PySem.W.keepIn X.K (.ref C) = true) (r : Raises X (.ref C)) (hg : Gl X x) (hdb : (x == ("__debug__" : Str)) = false := by decide) :
    PMk X (.Call (.Name x p) [] [] pos) (fun _ H Q => Q (.ref C) none H) := by
  intro pins s σ H Q I h
  refine wpAny_Call_Name_kw (ld_glob I hg gC ?_ hdb)
  refine PySem.W.callWith_K0 I.kIn kC ?_
  show wpAny _ _ (call (.ref C) []) _ _ _
  obtain ⟨bm, N, nm, qn, bs, hdct, sn, sub, ab, col, dd, k0, k1, k2, k3, k5, mN, hC, hN, hni, T⟩ := exc_obj I.kIn q
  refine wpAny_call_exc_subT F T hC hN hni (fun h' e hm => ?_) (Nat.zero_le _)
  exact mk_of I hm r h (I.hok.gone hm.new)
end DL
namespace DL
open PySem L2 Evl PyProof.Rows TL RZ
/-- an exception of the class at C with these fields, as data; without any: none of its own -/
def exD (C : Addr) (ks : List (PyData × PyData)) : PyData := .dict ((.str "error", .int (C : Int)) :: ks)
def exD0 (C : Addr) : PyData := exD C [(.none, .none)]
theorem dq_ex {H : Hp} {v : V} {C : Addr} {ks : List (PyData × PyData)} (h : Dq H v (exD C ks)) : ∃ a, v = .ref a ∧ (H a = some (exk a (.ref C) none) ∨ ∃ dx fs, H a = some (exk a (.ref C) (some dx)) ∧ H dx = some (.xd fs)) := by
  generalize e : exD C ks = d at h
  unfold exD at e
  cases h with
  | exo h1 h2 k =>
    injection e with e
    injection e with e1 e2
    injection e1 with e1 e3
    injection e3 with e3
    have e4 := Int.ofNat.inj e3
    subst e4
    exact ⟨_, rfl, .inr ⟨_, _, h1, h2⟩⟩
  | exn h1 =>
    injection e with e
    injection e with e1 e2
    injection e1 with e1 e3
    injection e3 with e3
    have e4 := Int.ofNat.inj e3
    subst e4
    exact ⟨_, rfl, .inl h1⟩
  | ob a k =>
    injection e with e
    injection e with e1 e2
    injection e1 with e1 e3
    cases e1
  | dic a k =>
    injection e with e
    injection e with e1 e2
    injection e1 with e1 e3
    cases e1
  | _ => cases e
theorem dq_ex1 {H : Hp} {v : V} {C : Addr} {f : Str} {d : PyData} (h : Dq H v (exD C [(.str f, d)])) : ∃ a dx w, v = .ref a ∧ H a = some (exk a (.ref C) (some dx)) ∧ H dx = some (.xd [(f, w)]) ∧ Dq H w d := by
  generalize e : exD C [(.str f, d)] = q at h
  unfold exD at e
  cases h with
  | exo h1 h2 k =>
    injection e with e
    injection e with e1 e2
    injection e1 with e1 e3
    injection e3 with e3
    have e4 := Int.ofNat.inj e3
    subst e4
    subst e2
    cases k with
    | cons hv hr =>
      cases hr
      exact ⟨_, _, _, rfl, h1, h2, hv⟩
  | exn h1 =>
    injection e with e
    injection e with e1 e2
    injection e2 with e2 e5
    injection e2 with e2 e6
    cases e2
  | ob a k =>
    injection e with e
    injection e with e1 e2
    injection e1 with e1 e3
    cases e1
  | dic a k =>
    injection e with e
    injection e with e1 e2
    injection e1 with e1 e3
    cases e1
  | _ => cases e
section
variable {O : List Addr} {n : Nat} {ρ : Rho} {C fI : Addr} {f : Str} {d : PyData} {ta : TA} {te : TE} {K : PySem.W.Frag}
theorem mk_end1 {H0 H1 : Hp} {v : V} (e1 : Ex H0 H1) (own : ∀ a, a ∈ O → H0 a ≠ none) (d1 : Dq (sub H1 O) v d) {a dx : Addr} {Q : VK} (na : H1 a = none) (nd : H1 dx = none) (hne : dx ≠ a) (q : ∀ v H', Ex H0 H' → Dq (sub H' O) v (exD C [(.str f, d)]) → Q v H') :
    ∀ b, (upd (del (upd (upd (upd H1 a (exo a C none)) dx (exd dx [(f, v)])) a (exo a C (some dx))) a) dx (.xd [(f, v)])) b = none →
      Q (.ref b) (upd (upd (del (upd (upd (upd H1 a (exo a C none)) dx (exd dx [(f, v)])) a (exo a C (some dx))) a) dx (.xd [(f, v)])) b (exk b (.ref C) (some dx))) := fun b nb => by
  have x2 : Ex H1 (upd (del (upd (upd (upd H1 a (exo a C none)) dx (exd dx [(f, v)])) a (exo a C (some dx))) a) dx (.xd [(f, v)])) := fun y o hy => by
    have ya : y ≠ a := ne_of_none hy na
    have yd : y ≠ dx := ne_of_none hy nd
    rw [upd_ne yd, del_ne ya, upd_ne ya, upd_ne yd, upd_ne ya]
    exact hy
  have hdx : (upd (del (upd (upd (upd H1 a (exo a C none)) dx (exd dx [(f, v)])) a (exo a C (some dx))) a) dx (.xd [(f, v)])) dx = some (.xd [(f, v)]) := upd_same
  generalize upd (del (upd (upd (upd H1 a (exo a C none)) dx (exd dx [(f, v)])) a (exo a C (some dx))) a) dx (.xd [(f, v)]) = H2 at x2 hdx nb
  have x3 : Ex H2 (upd H2 b (exk b (.ref C) (some dx))) := Ex.new nb
  have x13 := (e1.trans x2).trans x3
  have nbO : b ∉ O := not_own (own_ex (e1.trans x2) own) nb
  have ndO : dx ∉ O := not_own (own_ex e1 own) nd
  refine q _ _ x13 (.exo (sub_mk upd_same nbO) (sub_mk (x3 _ _ hdx) ndO) (.cons (d1.mono (Ex.o O (x2.trans x3))) .nil))
/-- C(e) -/
theorem ed_mk (h : EvDA O n ta ρ [d]) : EvD O n (tMkV (tMkO C (spInit C f) [] ta)) ρ (exD C [(.str f, d)]) := fun σ H hn s Q q => h σ H hn s _ fun vs H1 e1 d1 => by
  cases d1 with
  | @cons w _ _ _ a r =>
    cases r
    refine ⟨by show 1 ≤ 1000; decide, fun x nx => ⟨x, _, rfl, upd_same, fun dx ndx hne => ⟨rfl, dx, [(f, w)], upd_same, ?_, ?_, ?_⟩⟩⟩
    · rw [upd_ne hne]
      exact upd_same
    · rw [upd_ne hne] at ndx
      exact ndx
    · rw [upd_ne hne] at ndx
      exact mk_end1 e1 s.own a nx ndx hne q
/-- C(f = e) -/
theorem ed_mkK {g : List V → List V → List V} (hg : ∀ a zs, g [.ref a] zs = .ref a :: zs) (h : EvDA O n ta ρ [d]) : EvD O n (tMkV (tMkK C (spInit C f) 1 g ta)) ρ (exD C [(.str f, d)]) := fun σ H hn s Q q => h σ H hn s _ fun vs H1 e1 d1 => by
  cases d1 with
  | @cons w _ _ _ a r =>
    cases r
    refine ⟨rfl, fun x nx => ?_⟩
    rw [hg]
    refine ⟨x, _, rfl, upd_same, fun dx ndx hne => ⟨rfl, dx, [(f, w)], upd_same, ?_, ?_, ?_⟩⟩
    · rw [upd_ne hne]
      exact upd_same
    · rw [upd_ne hne] at ndx
      exact ndx
    · rw [upd_ne hne] at ndx
      exact mk_end1 e1 s.own a nx ndx hne q
/-- C() -/
theorem ed_mk0 : EvD O n (tMkV (fun _ H Q => Q (.ref C) none H)) ρ (exD0 C) := fun σ H hn s Q q => fun b nb =>
  q _ _ (Ex.new nb) (.exn (sub_mk upd_same (not_own s.own nb)))
/-- e.f -/
theorem ed_exf (h : EvD O n te ρ (exD C [(.str f, d)])) : EvD O n (tKept C f te) ρ d := fun σ H hn s Q q => h σ H hn s _ fun v H1 e1 d1 => by
  obtain ⟨a, dx, w, rfl, h1, h2, h3⟩ := dq_ex1 d1
  exact ⟨a, dx, w, rfl, (sub_of h1).1, (sub_of h2).1, q w H1 e1 h3⟩
/-- isinstance(e, x) of an exception -/
def rIsiX (K : PySem.W.Frag) : List V → Hp → VK → Prop := fun xs H Q => ∃ (a C : Addr) (v2 : V) (u2 : Value) (b : Bool), xs = [.ref a, v2] ∧ (H a = some (exk a (.ref C) none) ∨ ∃ dd fs, H a = some (exk a (.ref C) (some dd)) ∧ H dd = some (.xd fs)) ∧ IsiC K C ∧ (∀ u, RelV v2 u → u = u2) ∧ PySem.W.kitOne K (.ref C) u2 = some b ∧ Q (.bl b) H
theorem kIsiX {X : Cx} (hK : X.K = K) : CallR X (.builtin "isinstance") (rIsiX K) := by
  subst hK
  intro pins s σ H xs us Q I r h
  obtain ⟨a, C, v2, u2', b, rfl, ea, C1, hu, me, q⟩ := h
  obtain ⟨u1, u2, rfl, r1, r2⟩ := vals2 r
  obtain rfl : u1 = Value.ref a := r1
  obtain rfl := hu u2 r2
  rcases ea with ea | ⟨dd, fs, ea, ed⟩
  · obtain ⟨oe, ha, hz, vs, hd⟩ := exk_at I.hok ea
    have J : PySem.W.InstAt s.heap a oe C none := ⟨ha, hz.1, by unfold PySem.W.notCls; rw [hd] <;> rfl, by rw [hz.2]; trivial⟩
    exact PySem.W.kia_one (PySem.W.kitx_exc C1.cl C1.ga C1.gg C1.ex C1.cc C1.sp C1.tk C1.mr) I.kIn J me (fun z => nomatch z) fun tk => ⟨.bl b, H, I.tok tk, rfl, q⟩
  · obtain ⟨oe, ha, hz, vs, hd⟩ := exk_at I.hok ea
    have hx : ObjOk X.prog X.w H s.heap dd (.xd fs) := I.hok dd _ ed
    obtain ⟨mA, hns, hr⟩ := hx
    obtain ⟨od, ho, hl⟩ := lookIn_ns hns
    have J : PySem.W.InstAt s.heap a oe C (some od) := ⟨ha, hz.1, by unfold PySem.W.notCls; rw [hd] <;> rfl, by rw [hz.2]; exact ho⟩
    exact PySem.W.kia_one (PySem.W.kitx_exc C1.cl C1.ga C1.gg C1.ex C1.cc C1.sp C1.tk C1.mr) I.kIn J me (fun z => nomatch z) fun tk => ⟨.bl b, H, I.tok tk, rfl, q⟩
theorem ed_isx {ks : List (PyData × PyData)} {v2 : V} {u2 : Value} {b : Bool} (I : IsiC K C) (hu : ∀ u, RelV v2 u → u = u2) (hk : PySem.W.kitOne K (.ref C) u2 = some b) (h : EvD O n te ρ (exD C ks)) : EvD O n (tCB (rIsiX K) (tCons te (tCons (tC v2) tNil))) ρ (.bool b) := fun σ H hn s Q q => h σ H hn s _ fun v H1 e1 d1 => by
  obtain ⟨a, rfl, h1⟩ := dq_ex d1
  refine ⟨a, C, v2, u2, b, rfl, ?_, I, hu, hk, q _ H1 e1 (.bl b)⟩
  rcases h1 with h1 | ⟨dx, fs, h1, h2⟩
  · exact .inl (sub_of h1).1
  · exact .inr ⟨dx, fs, (sub_of h1).1, (sub_of h2).1⟩
end
/-- isinstance(e, T) for a class T of the language -/
theorem kit_ty2 {K : PySem.W.Frag} {C : Addr} {T : String} {b : Bool} (m : PySem.W.kitMeta T = true) (h : PySem.W.subIn K (.ref C) (.type T) = some b) : PySem.W.kitOne K (.ref C) (.type T) = some b := by
  unfold PySem.W.kitOne PySem.W.kitCls
  rw [if_neg (by intro z; have q := eq_of_beq z; cases q)]
  simp only [m, if_true, h]
end DL
namespace DL
open PySem L2 Evl PyProof.Rows TL RZ
/-- what the written part says of an own exception class without an __init__ -/
structure Err0 (K : PySem.W.Frag) (mg : Str → Option Value) (x : Str) (C : Addr) : Prop where
  gC : mg x = some (.ref C)
  q : PySem.W.excIn K C [.type "ValueError", .type "Exception", .type "BaseException", .type "object"] "ValueError.__new__" = true
  kC : PySem.W.keepIn K (.ref C) = true
  exC : PySem.W.subIn K (.ref C) (.type "BaseException") = some true
  tyC : PySem.W.typeIn K (.ref C) = some (.type "type")
theorem kit_sub {K : PySem.W.Frag} {C S : Addr} (i : PySem.W.isClsIn K S = true) (t : PySem.W.typeIn K (.ref S) = some (.type "type")) (u : PySem.W.subIn K (.ref C) (.ref S) = some true) : PySem.W.kitOne K (.ref C) (.ref S) = some true := by
  have i2 : (PySem.W.clsIn K S).isSome = true := i
  have a2 : ((PySem.W.clsIn K S).isSome && PySem.W.typeIn K (.ref S) == some (.type "type")) = true := by
    rw [i2, t]
    rfl
  unfold PySem.W.kitOne
  by_cases c : (Value.ref C == Value.ref S) = true
  · rw [if_pos c]
  · rw [if_neg c]
    unfold PySem.W.kitCls
    show (if _ then _ else _) = _
    rw [if_pos a2]
    exact u
theorem kb_init {K : PySem.W.Frag} {f : Addr} {fd : FuncData} {x qual k0 k1 : Str} {st : Stmt} (F : Fun K x qual st f fd)
    (h : ∀ (kV doc pm : Value) (an : Option Addr) (cdv ct : Value) (u v : Value), bindArgs (PySem.W.fnOf x qual (defArgs st) (defBody st) (defScope st) .none kV doc pm an cdv ct) ⟨[u], [(k1, v)]⟩ = pure [(k0, u), (k1, v)]) : KBn K fd [k0, k1] 1 [k1] (fun us ws => us ++ ws) (fun vs zs => vs ++ zs) := by
  obtain ⟨oc, od, kV, doc, pm, an, cdv, ct, osl, rfl, lk, hcd⟩ := F.ex
  refine ⟨fun s us ws X l1 l2 => ?_, fun r1 r2 => r1.append r2⟩
  match us, ws, l1, l2 with
  | [u], [v], _, _ => exact .of_eq (h kV doc pm an cdv ct u v)
section
variable {X : Cx} {K : PySem.W.Frag} {mg : Str → Option Value} {x f : Str} {C fI : Addr} {fd : FuncData} {k : Nat} {e : Expr} {es : List Expr} {ta tk : TA} {p pos : Pos} {ps : List Str} {kws : List Keyword}
theorem pe_mk (hK : X.K = K) (hmg : X.mg = mg) (T : ErrC K mg x C fI f) (F1 : FnOk X.prog X.w X.K X.mg X.base CX0 k fI fd ps (spInit C f)) (hb : Binds K fd ps []) (hr : Room (k + 1) X.A)
    (hg : Gl X x) (ha : PA X (e :: es) ta) (hdb : (x == ("__debug__" : Str)) = false := by decide) (he : starEach (e :: es) X.env = (false, eval e X.env) :: starEach es X.env := by rfl) (hpl : (backTo pos (starEach es X.env)).any (·.1) = false := by rfl) :
    PE X (.Call (.Name x p) (e :: es) [] pos) (tMkV (tMkO C (spInit C f) [] ta)) := by
  subst hK
  subst hmg
  exact pe_mkV (pmk_oex (dvs := []) T.cls T.iC T.tC F1 hr hb .nil (fun _ _ _ _ _ _ _ z => z.elim) hg T.gC ha hdb he hpl)
theorem pe_mkK (hK : X.K = K) (hmg : X.mg = mg) (T : ErrC K mg x C fI f) (F1 : FnOk X.prog X.w X.K X.mg X.base CX0 k fI fd ps (spInit C f)) (hb : KBn K fd ps 1 [f] (fun us ws => us ++ ws) (fun us ws => us ++ ws)) (hr : Room (k + 1) X.A)
    (hg : Gl X x) (hkw : PK X kws tk)
    (hall : (backToKw pos (keywordEach kws X.env)).all (·.1.isSome) = true := by rfl) (hks : (backToKw pos (keywordEach kws X.env)).filterMap (·.1) = [f] := by rfl) (hdb : (x == ("__debug__" : Str)) = false := by decide)
    (hpl : ((backTo pos (starEach [] X.env)).any (·.1) || (backToKw pos (keywordEach kws X.env)).any (·.1.isNone)) = false := by rfl) :
    PE X (.Call (.Name x p) [] kws pos) (tMkV (tMkK C (spInit C f) 1 (fun us ws => us ++ ws) tk)) := by
  subst hK
  subst hmg
  exact pe_mkV (pmk_oexK T.cls T.iC T.tC F1 hr hb (fun _ _ _ _ _ _ _ z => z.elim) hg T.gC hkw hall hks hdb hpl)
theorem pe_mk0 (hK : X.K = K) (hmg : X.mg = mg) (T : Err0 K mg x C) (hg : Gl X x) (hdb : (x == ("__debug__" : Str)) = false := by decide) : PE X (.Call (.Name x p) [] [] pos) (tMkV (fun _ H Q => Q (.ref C) none H)) := by
  subst hK
  subst hmg
  exact pe_mkV (pmk_own0 F.excBase_ValueError T.q T.gC T.kC (raises_own T.exC T.tyC) hg hdb)
end
end DL
/-! DIY: isinstance(x, C) of an object of the own class C. -/
namespace DL
open PySem L2 Evl PyProof.Rows TL RZ
section
variable {O : List Addr} {n : Nat} {ρ : Rho} {te : TE} {C : Addr} {ks : List (PyData × PyData)}
def rIsC (C : Addr) : List V → Hp → VK → Prop := fun xs H Q => ∃ a dx fs, xs = [.ref a, .ref C] ∧ H a = some (.ins C dx fs) ∧ Q (.bl true) H
theorem kIsC {X : Cx} {K : PySem.W.Frag} (hK : X.K = K) (c : C8.InsC K C) : CallR X (.builtin "isinstance") (rIsC C) := by subst hK; exact C8.call_isC c
theorem ed_isY (h : EvD O n te ρ (obD C ks)) : EvD O n (tCB (rIsC C) (tCons te (tCons (tC (.ref C)) tNil))) ρ (.bool true) := fun σ H hn s Q q => h σ H hn s _ fun v H1 e1 d1 => by
  obtain ⟨a, dx, fs, rfl, ha, _⟩ := dq_ob d1
  exact ⟨a, dx, fs, rfl, (sub_of ha).1, q _ H1 e1 (.bl true)⟩
/-- is not True -/
theorem rd_notBl {a b : Bool} : RD O rNotB (.bool a) (.bool b) (.bool (!decide (a = b))) := fun H v w _ h1 h2 Q q => by
  cases h1; cases h2
  exact ⟨a, b, rfl, rfl, q _ H (Ex.refl H) (.bl _)⟩
end
end DL
/-! DSM: a staticmethod called through its class. -/
namespace DL
open PySem L2 Evl PyProof.Rows TL RZ
/-- what of the text: C.m is a staticmethod, its record at p, its def at f -/
structure StM (K : PySem.W.Frag) (C : Addr) (m : Str) (p f : Addr) : Prop where
  rd : PySem.W.readsIn K C (.type "type") = true
  ga : PySem.W.specialIn K (.ref C) "__getattribute__" = some (some (.builtin "type.__getattribute__"))
  at_ : PySem.W.findCls K (.ref C) (.type "type") m = some (.get (.builtin "staticmethod.__get__") (.ref p) .none (.ref C))
  rc : ∃ rest, PySem.W.recIn K p "staticmethod" = some (.ref f :: rest)
  kp : PySem.W.keepIn K (.ref f) = true
section
variable {X : Cx} {CX : CXT} {k : Nat} {C p f : Addr} {fd : FuncData} {ps ks : List Str} {sp : Sp} {dvs : List V} {ds : List Value} {o e : Expr} {es : List Expr} {kws : List Keyword} {m : Str} {pos apos : Pos} {t tk : TA} {pl : Sem Bool} {g : List Value → List Value → List Value} {gV : List V → List V → List V}
/-- the def itself is read off the class -/
theorem stm_read {pins : List (Addr × Obj)} {σ : L2.St} {H : Hp} {s : Shared} {A : Around} {E : Value → Shared → Prop} {Q : Value × List Value → Shared → Prop} (I : Inv X pins σ H s) (S : StM X.K C m p f) (h : ∀ s', Inv X pins σ H s' → Q (.ref f, []) s') :
    wpAny (model X.prog X.w) A (getMethod (.ref C) m pl) Q E s := by
  obtain ⟨rest, hp⟩ := S.rc
  refine PySem.W.method_cls I.kIn S.ga (PySem.W.cls_bind I.kIn S.rd S.at_ (wpAny_call (PySem.W.sm_get (s := { s with toks := s.toks + 1 }) I.kIn hp (PySem.W.handed_on rfl ?_))))
  exact h _ (I.tok _)
theorem pe_smeth {E : XK} (he : PE X o (tC (.ref C))) (S : StM X.K C m p f) (F : FnOk X.prog X.w X.K X.mg X.base CX k f fd ps sp) (hr : Room k X.A) (hb : Binds X.K fd ps ds) (hd : Vals dvs ds) (hx : Passes CX X E) (ha : PA X (e :: es) t)
    (hst : starEach (e :: es) X.env = (false, eval e X.env) :: starEach es X.env := by rfl) (hpl : (backTo pos (starEach es X.env)).any (·.1) = false := by rfl)
    (ht : eval (.Call (.Attribute o m apos) (e :: es) [] pos) X.env = (do
      let ov ← eval o X.env
      standAt apos.atName
      let (f, first) ← holding [ov] (getMethod ov m pl)
      callWith pos f first (backTo pos (starEach (e :: es) X.env)) (backToKw pos (keywordEach [] X.env))) := by rfl) :
    PE X (.Call (.Attribute o m apos) (e :: es) [] pos) (tCall sp dvs E t) := by
  refine ⟨fun pins s σ H Q I h => ?_⟩
  refine PySem.W.methodCall_KW (pl := pl) (thn (he.run pins s σ H (fun x H1 => x = .ref C ∧ tCall sp dvs E t σ H1 Q) I ⟨rfl, h⟩) fun u s1 ⟨x, H1, I1, rx, ex, q⟩ => ?_) ht
  subst ex
  obtain rfl : u = Value.ref C := rx
  refine stm_read I1 S fun s2 I2 => ?_
  refine PySem.W.callWith_K (h₀ := X.base) I.ok.mod.kin S.kp (thn (ha.run pos pins s2 σ H1 _ I2 q) fun us s3 ⟨vs, H2, I3, r, q2⟩ => ⟨I3.kIn, ?_⟩) hst hpl
  exact run_fn F hr hb hd hx I3 r q2
/-- in a def that may raise -/
theorem pe_smethS {E : L2.St → XK} (he : PE X o (tC (.ref C))) (S : StM X.K C m p f) (F : FnOk X.prog X.w X.K X.mg X.base CX k f fd ps sp) (hr : Room k X.A) (hb : Binds X.K fd ps []) (hx : ∀ σ, PassesAt CX X σ (E σ)) (ha : PA X (e :: es) t)
    (hst : starEach (e :: es) X.env = (false, eval e X.env) :: starEach es X.env := by rfl) (hpl : (backTo pos (starEach es X.env)).any (·.1) = false := by rfl)
    (ht : eval (.Call (.Attribute o m apos) (e :: es) [] pos) X.env = (do
      let ov ← eval o X.env
      standAt apos.atName
      let (f, first) ← holding [ov] (getMethod ov m pl)
      callWith pos f first (backTo pos (starEach (e :: es) X.env)) (backToKw pos (keywordEach [] X.env))) := by rfl) :
    PE X (.Call (.Attribute o m apos) (e :: es) [] pos) (tCallS sp E t) := by
  refine ⟨fun pins s σ H Q I h => ?_⟩
  refine PySem.W.methodCall_KW (pl := pl) (thn (he.run pins s σ H (fun x H1 => x = .ref C ∧ tCallS sp E t σ H1 Q) I ⟨rfl, h⟩) fun u s1 ⟨x, H1, I1, rx, ex, q⟩ => ?_) ht
  subst ex
  obtain rfl : u = Value.ref C := rx
  refine stm_read I1 S fun s2 I2 => ?_
  refine PySem.W.callWith_K (h₀ := X.base) I.ok.mod.kin S.kp (thn (ha.run pos pins s2 σ H1 _ I2 q) fun us s3 ⟨vs, H2, I3, r, q2⟩ => ⟨I3.kIn, ?_⟩) hst hpl
  exact run_fnS F hr hb (hx σ) I3 r q2
/-- C.m(k = v, ..), keywords alone -/
theorem pe_smethN0 {E : XK} (he : PE X o (tC (.ref C))) (S : StM X.K C m p f) (F : FnOk X.prog X.w X.K X.mg X.base CX k f fd ps sp) (hr : Room k X.A) (hb : KBn X.K fd ps 0 ks g gV) (hx : Passes CX X E)
    (hkw : PK X kws tk) (hall : (backToKw pos (keywordEach kws X.env)).all (·.1.isSome) = true := by rfl) (hks : (backToKw pos (keywordEach kws X.env)).filterMap (·.1) = ks := by rfl)
    (hpl : ((backTo pos (starEach [] X.env)).any (·.1) || (backToKw pos (keywordEach kws X.env)).any (·.1.isNone)) = false := by rfl)
    (ht : eval (.Call (.Attribute o m apos) [] kws pos) X.env = (do
      let ov ← eval o X.env
      standAt apos.atName
      let (f, first) ← holding [ov] (getMethod ov m pl)
      callWith pos f first (backTo pos (starEach [] X.env)) (backToKw pos (keywordEach kws X.env))) := by rfl) :
    PE X (.Call (.Attribute o m apos) [] kws pos) (tCallN 0 ks.length sp gV E tNil tk) := by
  refine ⟨fun pins s σ H Q I h => ?_⟩
  refine PySem.W.methodCall_KW (pl := pl) (thn (he.run pins s σ H (fun x H1 => x = .ref C ∧ tCallN 0 ks.length sp gV E tNil tk σ H1 Q) I ⟨rfl, h⟩) fun u s1 ⟨x, H1, I1, rx, ex, q⟩ => ?_) ht
  subst ex
  obtain rfl : u = Value.ref C := rx
  refine stm_read I1 S fun s2 I2 => ?_
  refine PySem.W.callWith_KW0 (h₀ := X.base) I.ok.mod.kin S.kp hall ?_ hpl
  refine thn (hkw.run pos pins s2 σ H1 _ I2 q) fun ws s3 ⟨zs, H2, I3, rz, l1, l2, q2⟩ => ⟨I3.kIn, ?_⟩
  rw [hks]
  exact run_fnN (us := []) (vs := []) F hr hb hx I3 .nil rz rfl l2 q2
end
/-! ### x == y of an own class -/
def rEqO (C : Addr) (sp : Sp) (E : XK) : R2 := fun x y H Q => ∃ (a b dx dy : Addr) (fs gs : List (Str × V)), x = .ref a ∧ y = .ref b ∧ H a = some (.ins C dx fs) ∧ H b = some (.ins C dy gs) ∧ sp [.ref a, .ref b] H (fun v H' => ∃ r : Bool, v = .bl r ∧ Q (.bl r) H') E
section
variable {X : Cx} {CX : CXT} {n : Nat} {C f : Addr} {fd : FuncData} {ps : List Str} {sp : Sp} {E : XK}
theorem op_eqO (F : FnOk X.prog X.w X.K X.mg X.base CX n f fd ps sp) (hr : Room n X.A) (hs : Meth X.K C "__eq__" f) (hb : Binds X.K fd ps []) (hx : Passes CX X E) : OpR X (compareOp .Eq) (rEqO C sp E) := by
  intro pins s σ H x y v u Q I rx ry hq
  obtain ⟨a, b, dx, dy, fs, gs, rfl, rfl, ha, hb', hsp⟩ := hq
  cases rx
  cases ry
  show wpAny (model X.prog X.w) X.A (richCompare .Eq (.ref a) (.ref b)) (EP X pins σ Q) X.xe s
  obtain ⟨mA, J, _⟩ := ins_get I.hok ha
  obtain ⟨mB, J', _⟩ := ins_get I.hok hb'
  obtain ⟨od, J, _⟩ := J.look
  obtain ⟨od', J', _⟩ := J'.look
  obtain ⟨m, hF⟩ := I.fr
  refine PySem.W.cmp_K (op := .Eq) (tb := .ref C) hr.units0 hF I.ok.mod.kin J J'.type (by simp [PySem.W.notFirst]) hs.at_ hs.fn ?_
  have hl := F.len _ _ _ _ hsp
  have r2 : Vals [V.ref a, V.ref b] [Value.ref a, Value.ref b] := .cons rfl (.cons rfl .nil)
  have bd := hb s [.ref a, .ref b] I.kIn (by simpa using hl)
  rw [List.append_nil] at bd
  refine wpAny_call (codeAny_mono (F.run X.A X.stack s H ⟨[.ref a, .ref b], []⟩ [.ref a, .ref b] [.ref a, .ref b] _ E hr I.env0 bd r2 hsp) fun r s' hq => ?_)
  cases r with
  | error e => exact hx pins σ H s e s' I hq
  | ok fl =>
    cases fl with
    | ret w =>
      obtain ⟨z, H', I', rz, r, ez, q⟩ := I.after hq
      subst ez
      cases rz
      cases r <;> exact ⟨.bl _, H', I', rfl, q⟩
    | next => exact False.elim hq
    | brk => exact False.elim hq
    | cont => exact False.elim hq
end
theorem rd_eqO {O : List Addr} {C : Addr} {ks ls : List (PyData × PyData)} {r : Bool} {R : List PyData → PyData → Prop} {E : XK} (hR : R [obD C ks, obD C ls] (.bool r)) : RD O (rEqO C (spD R) E) (obD C ks) (obD C ls) (.bool r) := fun H v w ho h1 h2 Q q => by
  have h1' := h1
  have h2' := h2
  obtain ⟨a, dx, fs, rfl, ha, kk⟩ := dq_ob h1
  obtain ⟨b, dy, gs, rfl, hb, ll⟩ := dq_ob h2
  refine ⟨a, b, dx, dy, fs, gs, rfl, rfl, (sub_of ha).1, (sub_of hb).1, O, [obD C ks, obD C ls], .bool r, ho, .cons h1' (.cons h2' .nil), hR, fun v H' e d => ?_⟩
  cases d
  exact ⟨r, rfl, q _ H' e (.bl r)⟩
end DL
namespace K08
open PySem L2 PyProof.Rows DL TL RZ
def top (i : Nat) : Stmt := PySem.Challenge.pw_allbutts_k08_years_as_texts.main.body.getD i (.Pass ⟨0, 0, 0, 0⟩)
abbrev s_is_number_text : Stmt := top 6
abbrev N_is_number_text : List Str := ["text"]
theorem sc_is_number_text : FnScope N_is_number_text ["text"] (defScope s_is_number_text) := ⟨rfl, rfl, rfl, by decide +kernel, rfl, by decide +kernel, by decide +kernel⟩
abbrev s_is_size_text : Stmt := top 7
abbrev N_is_size_text : List Str := ["text"]
theorem sc_is_size_text : FnScope N_is_size_text ["text"] (defScope s_is_size_text) := ⟨rfl, rfl, rfl, by decide +kernel, rfl, by decide +kernel, by decide +kernel⟩
abbrev s_is_run_text : Stmt := top 8
abbrev N_is_run_text : List Str := ["text"]
theorem sc_is_run_text : FnScope N_is_run_text ["text"] (defScope s_is_run_text) := ⟨rfl, rfl, rfl, by decide +kernel, rfl, by decide +kernel, by decide +kernel⟩
abbrev s_runs_in : Stmt := top 9
abbrev N_runs_in : List Str := ["pieces", "place", "piece"]
theorem sc_runs_in : FnScope N_runs_in ["pieces"] (defScope s_runs_in) := ⟨rfl, rfl, rfl, by decide +kernel, rfl, by decide +kernel, by decide +kernel⟩
abbrev s_runs_text : Stmt := top 11
abbrev N_runs_text : List Str := ["runs", "run"]
theorem sc_runs_text : FnScope N_runs_text ["runs"] (defScope s_runs_text) := ⟨rfl, rfl, rfl, by decide +kernel, rfl, by decide +kernel, by decide +kernel⟩
abbrev s_swings_of : Stmt := top 15
abbrev N_swings_of : List Str := ["runs", "sizes", "found", "place", "run"]
theorem sc_swings_of : FnScope N_swings_of ["runs"] (defScope s_swings_of) := ⟨rfl, rfl, rfl, by decide +kernel, rfl, by decide +kernel, by decide +kernel⟩
abbrev s__sizes_without : Stmt := top 16
abbrev N__sizes_without : List Str := ["sizes", "place", "turned"]
theorem sc__sizes_without : FnScope N__sizes_without ["sizes", "place"] (defScope s__sizes_without) := ⟨rfl, rfl, rfl, by decide +kernel, rfl, by decide +kernel, by decide +kernel⟩
abbrev s_ring_of : Stmt := top 17
abbrev N_ring_of : List Str := ["runs", "begin", "joined", "run"]
theorem sc_ring_of : FnScope N_ring_of ["runs"] (defScope s_ring_of) := ⟨rfl, rfl, rfl, by decide +kernel, rfl, by decide +kernel, by decide +kernel⟩
abbrev s__first_turn : Stmt := top 18
abbrev N__first_turn : List Str := ["runs", "place", "run"]
theorem sc__first_turn : FnScope N__first_turn ["runs"] (defScope s__first_turn) := ⟨rfl, rfl, rfl, by decide +kernel, rfl, by decide +kernel, by decide +kernel⟩
abbrev s__law_box : Stmt := top 20
abbrev N__law_box : List Str := ["_law_script", "_law_k", "_law_cell"]
theorem sc__law_box : FnScope N__law_box ["_law_script", "_law_k"] (defScope s__law_box) := ⟨rfl, rfl, rfl, by decide +kernel, rfl, by decide +kernel, by decide +kernel⟩
abbrev s__law_take : Stmt := top 21
abbrev N__law_take : List Str := ["_law_box_here", "_law_size_so", "_law_drawn_so", "_law_once", "_law_far", "_law_again"]
theorem sc__law_take : FnScope N__law_take ["_law_box_here", "_law_size_so"] (defScope s__law_take) := ⟨rfl, rfl, rfl, by decide +kernel, rfl, by decide +kernel, by decide +kernel⟩
abbrev s__law_cells : Stmt := top 22
abbrev N__law_cells : List Str := ["_law_script", "_law_top_so", "_law_cells_so", "_law_k", "_law_cell", "_law_at_so"]
theorem sc__law_cells : FnScope N__law_cells ["_law_script", "_law_top_so"] (defScope s__law_cells) := ⟨rfl, rfl, rfl, by decide +kernel, rfl, by decide +kernel, by decide +kernel⟩
abbrev s__law_of : Stmt := top 23
abbrev N__law_of : List Str := ["_law_box_here", "_law_goods_so"]
theorem sc__law_of : FnScope N__law_of ["_law_box_here", "_law_goods_so"] (defScope s__law_of) := ⟨rfl, rfl, rfl, by decide +kernel, rfl, by decide +kernel, by decide +kernel⟩
abbrev s__law_same : Stmt := top 24
abbrev N__law_same : List Str := ["_law_got", "_law_due", "_law_mine", "_law_its"]
theorem sc__law_same : FnScope N__law_same ["_law_got", "_law_due"] (defScope s__law_same) := ⟨rfl, rfl, rfl, by decide +kernel, rfl, by decide +kernel, by decide +kernel⟩
abbrev s__law_runs : Stmt := top 25
abbrev N__law_runs : List Str := ["_law_box_here", "_law_most_so", "_law_high_so", "_law_found", "_law_turn", "_law_size_so"]
theorem sc__law_runs : FnScope N__law_runs ["_law_box_here", "_law_most_so", "_law_high_so"] (defScope s__law_runs) := ⟨rfl, rfl, rfl, by decide +kernel, rfl, by decide +kernel, by decide +kernel⟩
abbrev s__law_read : Stmt := top 26
abbrev N__law_read : List Str := ["_law_text_so", "_law_found", "_law_wrong_so", "error_so"]
theorem sc__law_read : FnScope N__law_read ["_law_text_so"] (defScope s__law_read) := ⟨rfl, rfl, rfl, by decide +kernel, rfl, by decide +kernel, by decide +kernel⟩
abbrev s__law_written : Stmt := top 27
abbrev N__law_written : List Str := ["_law_runs_so", "_law_own"]
theorem sc__law_written : FnScope N__law_written ["_law_runs_so"] (defScope s__law_written) := ⟨rfl, rfl, rfl, by decide +kernel, rfl, by decide +kernel, by decide +kernel⟩
abbrev s__law_by_hand_right : Stmt := top 28
abbrev N__law_by_hand_right : List Str := ["_law_far", "_law_some", "_law_got", "_law_due", "_law_rows_so", "_law_forty_so", "_law_own"]
theorem sc__law_by_hand_right : FnScope N__law_by_hand_right [] (defScope s__law_by_hand_right) := ⟨rfl, rfl, rfl, by decide +kernel, rfl, by decide +kernel, by decide +kernel⟩
abbrev s__law_case_right : Stmt := top 29
abbrev N__law_case_right : List Str := ["_law_box_here", "_law_runs_so", "_law_text_so", "_law_one_so", "_law_got", "_law_pieces_so", "_law_k", "_law_own", "_law_odd", "_law_bent"]
theorem sc__law_case_right : FnScope N__law_case_right ["_law_box_here", "_law_runs_so"] (defScope s__law_case_right) := ⟨rfl, rfl, rfl, by decide +kernel, rfl, by decide +kernel, by decide +kernel⟩
abbrev s__law_right : Stmt := top 30
abbrev N__law_right : List Str := ["_law_box_here", "_law_turn", "_law_high_so"]
theorem sc__law_right : FnScope N__law_right ["_law_box_here"] (defScope s__law_right) := ⟨rfl, rfl, rfl, by decide +kernel, rfl, by decide +kernel, by decide +kernel⟩
abbrev s_law : Stmt := top 31
abbrev N_law : List Str := ["_law_script", "_law_cells_so", "_law_k"]
theorem sc_law : FnScope N_law ["_law_script"] (defScope s_law) := ⟨rfl, rfl, rfl, by decide +kernel, rfl, by decide +kernel, by decide +kernel⟩
def i_BadText : Stmt := match top 4 with | .ClassDef (body := b) .. => b.getD 0 (.Pass ⟨0, 0, 0, 0⟩) | _ => .Pass ⟨0, 0, 0, 0⟩
theorem sci_BadText : FnScope ["self", "piece"] ["self", "piece"] (defScope i_BadText) := ⟨rfl, rfl, rfl, by decide +kernel, rfl, by decide +kernel, by decide +kernel⟩
def methOf (i j : Nat) : Stmt := match top i with | .ClassDef (body := b) .. => b.getD j (.Pass ⟨0, 0, 0, 0⟩) | _ => .Pass ⟨0, 0, 0, 0⟩
abbrev s_init : Stmt := methOf 14 0
abbrev sp_runs : Stmt := methOf 14 2
abbrev sp_text : Stmt := methOf 14 9
abbrev s_t_of : Stmt := methOf 14 1
abbrev N_t_of : List Str := ["text", "pieces", "runs"]
theorem sc_t_of : FnScope N_t_of ["text"] (defScope s_t_of) := ⟨rfl, rfl, rfl, by decide +kernel, rfl, by decide +kernel, by decide +kernel⟩
abbrev s_t___eq__ : Stmt := methOf 14 11
abbrev N_t___eq__ : List Str := ["self", "other"]
theorem sc_t___eq__ : FnScope N_t___eq__ ["self", "other"] (defScope s_t___eq__) := ⟨rfl, rfl, rfl, by decide +kernel, rfl, by decide +kernel, by decide +kernel⟩
structure Txt (K : PySem.W.Frag) (mg : Str → Option Value) : Type where
  C_Y : Addr
  m_Y : mg "Year" = some (.ref C_Y)
  cls_Y : Cls K C_Y
  IC_Y : C8.InsC K C_Y
  noR : NoAttr K C_Y "_runs"
  noS : NoAttr K C_Y "_swings"
  fI_Y : Addr
  fdI_Y : FuncData
  FI_Y : Fun K "__init__" "Year.__init__" s_init fI_Y fdI_Y
  bI_Y : Binds K fdI_Y ["self", "runs"] []
  M_Y : Mk K C_Y fI_Y
  p_runs : Addr
  g_runs : Addr
  fdg_runs : FuncData
  P_runs : PropOf K C_Y "runs" p_runs g_runs
  FG_runs : Fun K "runs" "Year.runs" sp_runs g_runs fdg_runs
  bG_runs : Binds K fdg_runs ["self"] []
  p_text : Addr
  g_text : Addr
  fdg_text : FuncData
  P_text : PropOf K C_Y "text" p_text g_text
  FG_text : Fun K "text" "Year.text" sp_text g_text fdg_text
  bG_text : Binds K fdg_text ["self"] []
  f_t_of : Addr
  fd_t_of : FuncData
  F_t_of : Fun K "of" "Year.of" s_t_of f_t_of fd_t_of
  b_t_of : Binds K fd_t_of ["text"] []
  q_of : Addr
  S_of : StM K C_Y "of" q_of f_t_of
  f_t___eq__ : Addr
  fd_t___eq__ : FuncData
  F_t___eq__ : Fun K "__eq__" "Year.__eq__" s_t___eq__ f_t___eq__ fd_t___eq__
  b_t___eq__ : Binds K fd_t___eq__ ["self", "other"] []
  ME___eq__ : Meth K C_Y "__eq__" f_t___eq__
  z_enumerate : mg "enumerate" = none
  z_tuple : mg "tuple" = none
  z_int : mg "int" = none
  z_abs : mg "abs" = none
  z_len : mg "len" = none
  z_sorted : mg "sorted" = none
  z_min : mg "min" = none
  z_sum : mg "sum" = none
  z_list : mg "list" = none
  z_isinstance : mg "isinstance" = none
  z_all : mg "all" = none
  z_bool : mg "bool" = none
  z_str : mg "str" = none
  z_zip : mg "zip" = none
  z_range : mg "range" = none
  z_ValueError : mg "ValueError" = none
  uc_MOST_RUNS : Value
  gc_MOST_RUNS : mg "MOST_RUNS" = some uc_MOST_RUNS
  rc_MOST_RUNS : RelV (.int 40) uc_MOST_RUNS
  C_BadText : Addr
  fI_BadText : Addr
  fdI_BadText : FuncData
  FI_BadText : Fun K "__init__" "BadText.__init__" i_BadText fI_BadText fdI_BadText
  bI_BadText : Binds K fdI_BadText ["self", "piece"] []
  E_BadText : ErrC K mg "BadText" C_BadText fI_BadText "piece"
  I_BadText : IsiC K C_BadText
  C_ButtError : Addr
  gC_ButtError : mg "ButtError" = some (.ref C_ButtError)
  XU_BadText_ButtError : PySem.W.exmOne K (.ref C_BadText) (.ref C_ButtError) = some true
  KU_BadText : PySem.W.kitOne K (.ref C_BadText) (.ref C_ButtError) = some true
  KO_BadText_BadText : PySem.W.kitOne K (.ref C_BadText) (.ref C_BadText) = some true
  f_is_number_text : Addr
  fd_is_number_text : FuncData
  F_is_number_text : Fun K "is_number_text" "is_number_text" s_is_number_text f_is_number_text fd_is_number_text
  m_is_number_text : mg "is_number_text" = some (.ref f_is_number_text)
  b_is_number_text : Binds K fd_is_number_text ["text"] []
  f_is_size_text : Addr
  fd_is_size_text : FuncData
  F_is_size_text : Fun K "is_size_text" "is_size_text" s_is_size_text f_is_size_text fd_is_size_text
  m_is_size_text : mg "is_size_text" = some (.ref f_is_size_text)
  b_is_size_text : Binds K fd_is_size_text ["text"] []
  f_is_run_text : Addr
  fd_is_run_text : FuncData
  F_is_run_text : Fun K "is_run_text" "is_run_text" s_is_run_text f_is_run_text fd_is_run_text
  m_is_run_text : mg "is_run_text" = some (.ref f_is_run_text)
  b_is_run_text : Binds K fd_is_run_text ["text"] []
  f_runs_in : Addr
  fd_runs_in : FuncData
  F_runs_in : Fun K "runs_in" "runs_in" s_runs_in f_runs_in fd_runs_in
  m_runs_in : mg "runs_in" = some (.ref f_runs_in)
  b_runs_in : Binds K fd_runs_in ["pieces"] []
  f_runs_text : Addr
  fd_runs_text : FuncData
  F_runs_text : Fun K "runs_text" "runs_text" s_runs_text f_runs_text fd_runs_text
  m_runs_text : mg "runs_text" = some (.ref f_runs_text)
  b_runs_text : Binds K fd_runs_text ["runs"] []
  f_swings_of : Addr
  fd_swings_of : FuncData
  F_swings_of : Fun K "swings_of" "swings_of" s_swings_of f_swings_of fd_swings_of
  m_swings_of : mg "swings_of" = some (.ref f_swings_of)
  b_swings_of : Binds K fd_swings_of ["runs"] []
  f__sizes_without : Addr
  fd__sizes_without : FuncData
  F__sizes_without : Fun K "_sizes_without" "_sizes_without" s__sizes_without f__sizes_without fd__sizes_without
  m__sizes_without : mg "_sizes_without" = some (.ref f__sizes_without)
  b__sizes_without : Binds K fd__sizes_without ["sizes", "place"] []
  f_ring_of : Addr
  fd_ring_of : FuncData
  F_ring_of : Fun K "ring_of" "ring_of" s_ring_of f_ring_of fd_ring_of
  m_ring_of : mg "ring_of" = some (.ref f_ring_of)
  b_ring_of : Binds K fd_ring_of ["runs"] []
  f__first_turn : Addr
  fd__first_turn : FuncData
  F__first_turn : Fun K "_first_turn" "_first_turn" s__first_turn f__first_turn fd__first_turn
  m__first_turn : mg "_first_turn" = some (.ref f__first_turn)
  b__first_turn : Binds K fd__first_turn ["runs"] []
  f__law_box : Addr
  fd__law_box : FuncData
  F__law_box : Fun K "_law_box" "_law_box" s__law_box f__law_box fd__law_box
  m__law_box : mg "_law_box" = some (.ref f__law_box)
  b__law_box : Binds K fd__law_box ["_law_script", "_law_k"] []
  f__law_take : Addr
  fd__law_take : FuncData
  F__law_take : Fun K "_law_take" "_law_take" s__law_take f__law_take fd__law_take
  m__law_take : mg "_law_take" = some (.ref f__law_take)
  b__law_take : Binds K fd__law_take ["_law_box_here", "_law_size_so"] []
  f__law_cells : Addr
  fd__law_cells : FuncData
  F__law_cells : Fun K "_law_cells" "_law_cells" s__law_cells f__law_cells fd__law_cells
  m__law_cells : mg "_law_cells" = some (.ref f__law_cells)
  b__law_cells : Binds K fd__law_cells ["_law_script", "_law_top_so"] []
  f__law_of : Addr
  fd__law_of : FuncData
  F__law_of : Fun K "_law_of" "_law_of" s__law_of f__law_of fd__law_of
  m__law_of : mg "_law_of" = some (.ref f__law_of)
  b__law_of : Binds K fd__law_of ["_law_box_here", "_law_goods_so"] []
  f__law_same : Addr
  fd__law_same : FuncData
  F__law_same : Fun K "_law_same" "_law_same" s__law_same f__law_same fd__law_same
  m__law_same : mg "_law_same" = some (.ref f__law_same)
  b__law_same : Binds K fd__law_same ["_law_got", "_law_due"] []
  f__law_runs : Addr
  fd__law_runs : FuncData
  F__law_runs : Fun K "_law_runs" "_law_runs" s__law_runs f__law_runs fd__law_runs
  m__law_runs : mg "_law_runs" = some (.ref f__law_runs)
  b__law_runs : Binds K fd__law_runs ["_law_box_here", "_law_most_so", "_law_high_so"] []
  f__law_read : Addr
  fd__law_read : FuncData
  F__law_read : Fun K "_law_read" "_law_read" s__law_read f__law_read fd__law_read
  m__law_read : mg "_law_read" = some (.ref f__law_read)
  b__law_read : Binds K fd__law_read ["_law_text_so"] []
  f__law_written : Addr
  fd__law_written : FuncData
  F__law_written : Fun K "_law_written" "_law_written" s__law_written f__law_written fd__law_written
  m__law_written : mg "_law_written" = some (.ref f__law_written)
  b__law_written : Binds K fd__law_written ["_law_runs_so"] []
  f__law_by_hand_right : Addr
  fd__law_by_hand_right : FuncData
  F__law_by_hand_right : Fun K "_law_by_hand_right" "_law_by_hand_right" s__law_by_hand_right f__law_by_hand_right fd__law_by_hand_right
  m__law_by_hand_right : mg "_law_by_hand_right" = some (.ref f__law_by_hand_right)
  b__law_by_hand_right : Binds K fd__law_by_hand_right [] []
  f__law_case_right : Addr
  fd__law_case_right : FuncData
  F__law_case_right : Fun K "_law_case_right" "_law_case_right" s__law_case_right f__law_case_right fd__law_case_right
  m__law_case_right : mg "_law_case_right" = some (.ref f__law_case_right)
  b__law_case_right : Binds K fd__law_case_right ["_law_box_here", "_law_runs_so"] []
  f__law_right : Addr
  fd__law_right : FuncData
  F__law_right : Fun K "_law_right" "_law_right" s__law_right f__law_right fd__law_right
  m__law_right : mg "_law_right" = some (.ref f__law_right)
  b__law_right : Binds K fd__law_right ["_law_box_here"] []
  f_law : Addr
  fd_law : FuncData
  F_law : Fun K "law" "law" s_law f_law fd_law
  m_law : mg "law" = some (.ref f_law)
  b_law : Binds K fd_law ["_law_script"] []
theorem ok_init_BadText {P : Program} {w : World} {K : PySem.W.Frag} {mg : Str → Option Value} {base : Heap} (T : Txt K mg) : FnOk P w K mg base CX0 1 T.fI_BadText T.fdI_BadText ["self", "piece"] (spInit T.C_BadText "piece") := by
  refine T.FI_BadText.ok sci_BadText (fun vs H Q E h => ?_) (fun cdv A outer s H vs Q E hr h => ⟨_, pss_one (ps_ost (pv 0) (pv 1)), ?_⟩)
  · obtain ⟨a, v, rfl, _⟩ := h
    rfl
  · obtain ⟨a, v, rfl, ha, k⟩ := h
    exact ⟨v, rfl, _, rfl, a, T.C_BadText, rfl, T.E_BadText.cls, T.E_BadText.noN, .inl ⟨ha, fun dx n ne => k dx n ne⟩⟩
def spLaw (K : PySem.W.Frag) : Sp := fun vs H Q _ => ∃ (a : Addr) (ns : List Int), vs = [.ref a] ∧ SqL K H a (ns.map V.int) ∧ ns.length ≤ 63 ∧ ∀ H', Q (.bl true) H'
end K08
namespace WK
/-- the level behind i runs -/
def lv (b : Int) (rs : List Int) (x : Int) : Nat → Int
  | 0 => x
  | i + 1 => max 0 (min b (lv b rs x i + rs.getD i 0))
def row (b : Int) (rs : List Int) (x : Int) (i : Nat) : Int × Int × Int := (lv b rs x (i + 1), max 0 (-(lv b rs x i + rs.getD i 0)), max 0 (lv b rs x i + rs.getD i 0 - b))
def rows (b : Int) (rs : List Int) (x : Int) (i : Nat) : List (Int × Int × Int) := (List.range i).map (row b rs x)
def buy (b : Int) (rs : List Int) (x : Int) : Int := ((rows b rs x rs.length).map fun t => t.2.1).sum
def spill (b : Int) (rs : List Int) (x : Int) : Int := ((rows b rs x rs.length).map fun t => t.2.2).sum
def wst (b : Int) (t : Int × Int × Int) (r : Int) : Int × Int × Int := (max 0 (min b (t.1 + r)), t.2.1 + max 0 (-(t.1 + r)), t.2.2 + max 0 (t.1 + r - b))
def tot (b : Int) (rs : List Int) (t : Int × Int × Int) : Int × Int × Int := rs.foldl (wst b) t
theorem tot_at (b : Int) (rs : List Int) (x : Int) : ∀ i, i ≤ rs.length → tot b (rs.take i) (x, 0, 0) = (lv b rs x i, ((rows b rs x i).map fun t => t.2.1).sum, ((rows b rs x i).map fun t => t.2.2).sum)
  | 0, _ => rfl
  | i + 1, h => by
    have q := tot_at b rs x i (by omega)
    unfold tot at *
    rw [List.take_succ_eq_append_getElem (by omega), List.foldl_append, q]
    have g : rs.getD i 0 = rs[i] := by rw [List.getD_eq_getElem?_getD, List.getElem?_eq_getElem (by omega)]; rfl
    have e : rows b rs x (i + 1) = rows b rs x i ++ [row b rs x i] := by
      unfold rows
      rw [List.range_succ, List.map_append]
      rfl
    rw [e]
    simp only [List.map_append, List.map_cons, List.map_nil, List.sum_append, List.sum_cons, List.sum_nil, Int.add_zero, List.foldl_cons, List.foldl_nil]
    rw [← g]
    rfl
theorem tot_all (b : Int) (rs : List Int) (x : Int) : tot b rs (x, 0, 0) = (lv b rs x rs.length, buy b rs x, spill b rs x) := by
  have q := tot_at b rs x rs.length (Nat.le_refl _)
  rw [List.take_of_length_le (Nat.le_refl _)] at q
  exact q
theorem shift (b : Int) : ∀ (rs : List Int) (y p q d e : Int), tot b rs (y, p + d, q + e) = ((tot b rs (y, p, q)).1, (tot b rs (y, p, q)).2.1 + d, (tot b rs (y, p, q)).2.2 + e)
  | [], y, p, q, d, e => rfl
  | r :: rs, y, p, q, d, e => by
    show tot b rs (wst b (y, p + d, q + e) r) = _
    have e1 : wst b (y, p + d, q + e) r = (max 0 (min b (y + r)), (p + max 0 (-(y + r))) + d, (q + max 0 (y + r - b)) + e) := by
      unfold wst
      refine Prod.ext rfl (Prod.ext ?_ ?_)
      · show p + d + max 0 (-(y + r)) = p + max 0 (-(y + r)) + d
        omega
      · show q + e + max 0 (y + r - b) = q + max 0 (y + r - b) + e
        omega
    rw [e1, shift b rs]
    rfl
theorem inside {b : Int} (hb : 0 ≤ b) : ∀ (rs : List Int) (t : Int × Int × Int), 0 ≤ t.1 → t.1 ≤ b → 0 ≤ (tot b rs t).1 ∧ (tot b rs t).1 ≤ b
  | [], t, h0, h1 => ⟨h0, h1⟩
  | r :: rs, t, h0, h1 => inside hb rs (wst b t r) (by unfold wst; dsimp only; omega) (by unfold wst; dsimp only; omega)
/-- a run that is greater than neither neighbour -/
def Str (p q r : Int) : Prop := (0 < p ∧ q < 0 ∧ 0 < r ∧ -q ≤ p ∧ -q ≤ r) ∨ (p < 0 ∧ 0 < q ∧ r < 0 ∧ q ≤ -p ∧ q ≤ -r)
def absI (r : Int) : Int := if r < 0 then -r else r
def much (b q : Int) : Int := max 0 (absI q - b)
theorem three {b : Int} (hb : 0 ≤ b) {p q r : Int} (h : Str p q r) (t : Int × Int × Int) (h0 : 0 ≤ t.1) (h1 : t.1 ≤ b) :
    wst b (wst b (wst b t p) q) r = ((wst b t (p + q + r)).1, (wst b t (p + q + r)).2.1 + much b q, (wst b t (p + q + r)).2.2 + much b q) := by
  obtain ⟨y, B, S⟩ := t
  unfold wst much absI
  dsimp only at *
  rcases h with ⟨a1, a2, a3, a4, a5⟩ | ⟨a1, a2, a3, a4, a5⟩
  · rw [if_pos a2]
    simp only [Prod.mk.injEq]
    omega
  · rw [if_neg (by omega)]
    simp only [Prod.mk.injEq]
    omega
theorem strike {b x : Int} (hb : 0 ≤ b) (h0 : 0 ≤ x) (h1 : x ≤ b) {p q r : Int} (h : Str p q r) (A B : List Int) :
    tot b (A ++ [p, q, r] ++ B) (x, 0, 0) = ((tot b (A ++ [p + q + r] ++ B) (x, 0, 0)).1, (tot b (A ++ [p + q + r] ++ B) (x, 0, 0)).2.1 + much b q, (tot b (A ++ [p + q + r] ++ B) (x, 0, 0)).2.2 + much b q) := by
  unfold tot
  rw [List.foldl_append, List.foldl_append, List.foldl_append, List.foldl_append]
  obtain ⟨i1, i2⟩ := inside hb A (x, 0, 0) h0 h1
  unfold tot at i1 i2
  generalize A.foldl (wst b) (x, 0, 0) = t at i1 i2
  show B.foldl (wst b) (wst b (wst b (wst b t p) q) r) = _
  rw [three hb h t i1 i2]
  exact shift b B _ _ _ _ _
/-- one of two signs alike -/
def Par (g f : Int) : Prop := (0 < f ∧ f < g) ∨ (g < f ∧ f < 0)
theorem parted {b x : Int} (hb : 0 ≤ b) (h0 : 0 ≤ x) (h1 : x ≤ b) {g f : Int} (h : Par g f) (A B : List Int) :
    tot b (A ++ [f, g - f] ++ B) (x, 0, 0) = tot b (A ++ [g] ++ B) (x, 0, 0) := by
  unfold tot
  rw [List.foldl_append, List.foldl_append, List.foldl_append, List.foldl_append]
  obtain ⟨i1, i2⟩ := inside hb A (x, 0, 0) h0 h1
  unfold tot at i1 i2
  generalize A.foldl (wst b) (x, 0, 0) = t at i1 i2
  congr 1
  obtain ⟨y, B', S⟩ := t
  show wst b (wst b (y, B', S) f) (g - f) = wst b (y, B', S) g
  unfold wst
  unfold Par at h
  dsimp only at *
  simp only [Prod.mk.injEq]
  rcases h with ⟨a1, a2⟩ | ⟨a1, a2⟩ <;> omega
end WK
/-! the SWINGS of a row as the program finds them: plain functions -/
namespace SW
def posAt (rs : List Int) (i : Nat) : Bool := decide (0 < rs.getD i 0)
def turnAt (rs : List Int) (i : Nat) : Bool := posAt rs i != posAt rs (if i = 0 then rs.length - 1 else i - 1)
def firstTurn (rs : List Int) : Option Nat := (List.range rs.length).find? (turnAt rs)
def turned (sz : List Int) (p : Nat) : List Int := sz.drop p ++ sz.take p
def without (sz : List Int) (p : Nat) : List Int := ((turned sz p).getD (sz.length - 1) 0 - (turned sz p).getD 0 0 + (turned sz p).getD 1 0) :: ((turned sz p).drop 2).take (sz.length - 3)
theorem turned_len {sz : List Int} {p : Nat} (h : p ≤ sz.length) : (turned sz p).length = sz.length := by
  unfold turned
  rw [List.length_append, List.length_drop, List.length_take]
  omega
theorem without_len {sz : List Int} {p : Nat} (h : p ≤ sz.length) (h3 : 3 ≤ sz.length) : (without sz p).length = sz.length - 2 := by
  unfold without
  rw [List.length_cons, List.length_take, List.length_drop, turned_len h]
  omega
def lastD (a : List Int) : Int := a.getD (a.length - 1) 0
def joinStep (a : List Int) (r : Int) : List Int := if a.length > 0 ∧ (decide (0 < lastD a) = decide (0 < r)) then a.set (a.length - 1) (lastD a + r) else a ++ [r]
def joined (rs : List Int) : List Int := rs.foldl joinStep []
def ringOf (rs : List Int) : List Int := match firstTurn rs with
  | none => [rs.sum]
  | some b => joined (turned rs b)
theorem joinStep_len (a : List Int) (r : Int) : (joinStep a r).length ≤ a.length + 1 := by
  unfold joinStep
  split
  · rw [List.length_set]
    omega
  · rw [List.length_append]
    exact Nat.le_refl _
theorem joined_take_len (rs : List Int) : ∀ i, (joined (rs.take i)).length ≤ i := fun i => by
  have q : ∀ (xs : List Int) (a : List Int), (xs.foldl joinStep a).length ≤ a.length + xs.length := by
    intro xs
    induction xs with
    | nil => exact fun a => Nat.le_refl _
    | cons x xs ih =>
      intro a
      have h1 := ih (joinStep a x)
      have h2 := joinStep_len a x
      rw [List.foldl_cons, List.length_cons]
      omega
  have h := q (rs.take i) []
  rw [List.length_take] at h
  have : ([] : List Int).length = 0 := rfl
  unfold joined
  omega
theorem joined_snoc {rs : List Int} {i : Nat} (h : i < rs.length) : joined (rs.take (i + 1)) = joinStep (joined (rs.take i)) (rs.getD i 0) := by
  unfold joined
  rw [List.take_succ_eq_append_getElem h, List.foldl_append, List.getD_eq_getElem?_getD, List.getElem?_eq_getElem h]
  rfl
def minD (sz : List Int) : Int := sz.min?.getD 0
def placeOf (sz : List Int) : Nat := sz.findIdx (fun x => x == minD sz)
theorem min_ok {sz : List Int} (h : sz ≠ []) : minD sz ∈ sz ∧ ∀ y, y ∈ sz → minD sz ≤ y := by
  unfold minD
  cases e : sz.min? with
  | none => exact absurd (List.min?_eq_none_iff.mp e) h
  | some a =>
    have q := List.min?_eq_some_iff.mp e
    exact ⟨q.1, q.2⟩
theorem place_ok {sz : List Int} (h : sz ≠ []) : placeOf sz < sz.length ∧ sz[placeOf sz]? = some (minD sz) ∧ ∀ m z, m < placeOf sz → sz[m]? = some z → z ≠ minD sz := by
  have hm := (min_ok h).1
  have lt : placeOf sz < sz.length := List.findIdx_lt_length_of_exists ⟨minD sz, hm, by simp⟩
  refine ⟨lt, ?_, fun m z hlt hz => ?_⟩
  · have q := List.findIdx_getElem (p := fun x => x == minD sz) (w := lt)
    rw [List.getElem?_eq_getElem lt]
    have q2 : (sz[placeOf sz] == minD sz) = true := q
    exact congrArg some (beq_iff_eq.mp q2)
  · have q := List.not_of_lt_findIdx (p := fun x => x == minD sz) hlt
    obtain ⟨hl, e⟩ := List.getElem?_eq_some_iff.mp hz
    rw [e] at q
    simpa using q
def stepS (p : List Int × List Int) : List Int × List Int := (without p.1 (placeOf p.1), p.2 ++ [p.1.getD (placeOf p.1) 0])
def itS (sz : List Int) : Nat → List Int × List Int
  | 0 => (sz, [])
  | i + 1 => stepS (itS sz i)
def turnsS (sz : List Int) : Nat := (sz.length - 1) / 2
theorem itS_len (sz : List Int) : ∀ i, i ≤ turnsS sz → (itS sz i).1.length = sz.length - 2 * i ∧ (itS sz i).2.length = i
  | 0, _ => ⟨rfl, rfl⟩
  | i + 1, h => by
    have ih := itS_len sz i (by omega)
    unfold turnsS at h
    have l3 : 3 ≤ (itS sz i).1.length := by omega
    have ne : (itS sz i).1 ≠ [] := fun z => by rw [z] at l3; exact absurd l3 (by decide)
    constructor
    · show (without (itS sz i).1 (placeOf (itS sz i).1)).length = _
      rw [without_len (Nat.le_of_lt (place_ok ne).1) l3]
      omega
    · show ((itS sz i).2 ++ [_]).length = _
      rw [List.length_append, ih.2]
      rfl
def foundS (sz : List Int) : List Int := if (itS sz (turnsS sz)).1.length = 2 then (itS sz (turnsS sz)).2 ++ [minD (itS sz (turnsS sz)).1] else (itS sz (turnsS sz)).2
def downS (ns : List Int) : List Int := ns.mergeSort (fun a b => decide (b ≤ a))
theorem down_ok (ns : List Int) : (downS ns).Perm ns ∧ (downS ns).Pairwise (· ≥ ·) := by
  refine ⟨List.mergeSort_perm _ _, ?_⟩
  have q := List.pairwise_mergeSort (le := fun (a b : Int) => decide (b ≤ a)) (fun a b c h1 h2 => by simp at *; omega) (fun a b => by simp; omega) ns
  exact q.imp fun h => by simpa using h
def absI (r : Int) : Int := if r < 0 then -r else r
/-- the SWINGS of a row of RUNs, as the program finds them -/
def swOf (rs : List Int) : List Int := downS (foundS ((ringOf rs).map absI))
theorem ring_len {rs : List Int} (h : rs.length ≤ 10000) : (ringOf rs).length ≤ 10000 := by
  unfold ringOf
  cases hf : firstTurn rs with
  | none =>
    show 1 ≤ 10000
    decide
  | some b =>
    have hb : b < rs.length := List.mem_range.mp (List.find?_range_eq_some.mp hf).2.1
    have q := joined_take_len (turned rs b) (turned rs b).length
    rw [List.take_of_length_le (Nat.le_refl _), turned_len (Nat.le_of_lt hb)] at q
    exact Nat.le_trans q h
end SW
/-! what a row buys in the long run: by its swings -/
namespace WK
open SW
theorem conserve {b : Int} (hb : 0 ≤ b) : ∀ (rs : List Int) (t : Int × Int × Int), (tot b rs t).1 + (tot b rs t).2.2 - (tot b rs t).2.1 = t.1 + rs.sum + t.2.2 - t.2.1
  | [], t => by
    show t.1 + t.2.2 - t.2.1 = t.1 + 0 + t.2.2 - t.2.1
    omega
  | r :: rs, t => by
    have q := conserve hb rs (wst b t r)
    show (tot b rs (wst b t r)).1 + (tot b rs (wst b t r)).2.2 - (tot b rs (wst b t r)).2.1 = _
    rw [q, List.sum_cons]
    unfold wst
    dsimp only
    omega
theorem mono {b : Int} (hb : 0 ≤ b) : ∀ (rs : List Int) (t u : Int × Int × Int), 0 ≤ t.1 → t.1 ≤ u.1 → u.1 ≤ b →
    (tot b rs t).1 ≤ (tot b rs u).1 ∧ (tot b rs u).2.1 - u.2.1 ≤ (tot b rs t).2.1 - t.2.1 ∧ (tot b rs t).2.2 - t.2.2 ≤ (tot b rs u).2.2 - u.2.2
  | [], t, u, h0, h1, h2 => by
    refine ⟨h1, ?_, ?_⟩
    · show u.2.1 - u.2.1 ≤ t.2.1 - t.2.1
      omega
    · show t.2.2 - t.2.2 ≤ u.2.2 - u.2.2
      omega
  | r :: rs, t, u, h0, h1, h2 => by
    obtain ⟨q1, q2, q3⟩ := mono hb rs (wst b t r) (wst b u r) (by unfold wst; dsimp only; omega) (by unfold wst; dsimp only; omega) (by unfold wst; dsimp only; omega)
    refine ⟨q1, ?_, ?_⟩
    · show (tot b rs (wst b u r)).2.1 - u.2.1 ≤ (tot b rs (wst b t r)).2.1 - t.2.1
      have e1 : (wst b u r).2.1 = u.2.1 + max 0 (-(u.1 + r)) := rfl
      have e2 : (wst b t r).2.1 = t.2.1 + max 0 (-(t.1 + r)) := rfl
      omega
    · show (tot b rs (wst b t r)).2.2 - t.2.2 ≤ (tot b rs (wst b u r)).2.2 - u.2.2
      have e1 : (wst b u r).2.2 = u.2.2 + max 0 (u.1 + r - b) := rfl
      have e2 : (wst b t r).2.2 = t.2.2 + max 0 (t.1 + r - b) := rfl
      omega
/-- a LEVEL at which the row ends as it began -/
def Fx (b : Int) (rs : List Int) (x : Int) : Prop := 0 ≤ x ∧ x ≤ b ∧ (tot b rs (x, 0, 0)).1 = x
theorem uniq_le {b : Int} (hb : 0 ≤ b) {rs : List Int} {x y : Int} (hx : Fx b rs x) (hy : Fx b rs y) (h : x ≤ y) : (tot b rs (x, 0, 0)).2 = (tot b rs (y, 0, 0)).2 := by
  obtain ⟨x0, x1, x2⟩ := hx
  obtain ⟨y0, y1, y2⟩ := hy
  obtain ⟨_, q2, q3⟩ := mono hb rs (x, 0, 0) (y, 0, 0) x0 h y1
  have c1 := conserve hb rs (x, 0, 0)
  have c2 := conserve hb rs (y, 0, 0)
  dsimp only at *
  refine Prod.ext ?_ ?_ <;> omega
theorem uniq {b : Int} (hb : 0 ≤ b) {rs : List Int} {x y : Int} (hx : Fx b rs x) (hy : Fx b rs y) : (tot b rs (x, 0, 0)).2 = (tot b rs (y, 0, 0)).2 := by
  rcases Int.le_total x y with h | h
  · exact uniq_le hb hx hy h
  · exact (uniq_le hb hy hx h).symm
theorem fx_sum {b : Int} (hb : 0 ≤ b) {rs : List Int} {x : Int} (hx : Fx b rs x) : (tot b rs (x, 0, 0)).2.2 - (tot b rs (x, 0, 0)).2.1 = rs.sum := by
  have c1 := conserve hb rs (x, 0, 0)
  have c2 := hx.2.2
  dsimp only at *
  omega
theorem tot_app (b : Int) (A C : List Int) (t : Int × Int × Int) : tot b (A ++ C) t = tot b C (tot b A t) := by
  unfold tot
  rw [List.foldl_append]
theorem tot_from (b : Int) (rs : List Int) (t : Int × Int × Int) : tot b rs t = ((tot b rs (t.1, 0, 0)).1, (tot b rs (t.1, 0, 0)).2.1 + t.2.1, (tot b rs (t.1, 0, 0)).2.2 + t.2.2) := by
  have q := shift b rs t.1 0 0 t.2.1 t.2.2
  rw [Int.zero_add, Int.zero_add] at q
  exact q
theorem rot {b : Int} (hb : 0 ≤ b) {A C : List Int} {x : Int} (h : Fx b (A ++ C) x) : ∃ y, Fx b (C ++ A) y ∧ (tot b (C ++ A) (y, 0, 0)).2 = (tot b (A ++ C) (x, 0, 0)).2 := by
  obtain ⟨x0, x1, x2⟩ := h
  obtain ⟨i0, i1⟩ := inside hb A (x, 0, 0) x0 x1
  rw [tot_app, tot_from] at x2
  dsimp only at x2
  generalize hA : tot b A (x, 0, 0) = tA at *
  generalize hC : tot b C (tA.1, 0, 0) = tC at *
  refine ⟨tA.1, ⟨i0, i1, ?_⟩, ?_⟩
  · rw [tot_app, hC, tot_from]
    dsimp only
    rw [x2, hA]
  · rw [tot_app, tot_app, hC, hA, tot_from b A tC, tot_from b C tA, x2, hA, hC]
    dsimp only
    refine Prod.ext ?_ ?_ <;> dsimp only <;> omega
/-! ### rings, told by their sizes -/
def sgn (s : Bool) (a : Int) : Int := if s = true then a else -a
def sg : Bool → List Int → List Int
  | _, [] => []
  | s, a :: l => sgn s a :: sg (!s) l
def par (n : Nat) (s : Bool) : Bool := if n % 2 = 0 then s else !s
theorem par_succ (n : Nat) (s : Bool) : par n (!s) = par (n + 1) s := by
  unfold par
  rcases Nat.mod_two_eq_zero_or_one n with h | h
  · rw [if_pos h, if_neg (by omega)]
  · rw [if_neg (by omega), if_pos (by omega)]
    cases s <;> rfl
theorem sg_app : ∀ (s : Bool) (A C : List Int), sg s (A ++ C) = sg s A ++ sg (par A.length s) C
  | s, [], C => rfl
  | s, a :: A, C => by
    show sgn s a :: sg (!s) (A ++ C) = sgn s a :: (sg (!s) A ++ sg (par (A.length + 1) s) C)
    rw [sg_app, par_succ]
def E (b : Int) (sz : List Int) (B S : Int) : Prop := sz.length % 2 = 0 ∧ (∀ a, a ∈ sz → 0 < a) ∧ ∃ s x, Fx b (sg s sz) x ∧ (tot b (sg s sz) (x, 0, 0)).2 = (B, S)
theorem E_rot {b B S : Int} (hb : 0 ≤ b) {A C : List Int} (h : E b (A ++ C) B S) : E b (C ++ A) B S := by
  obtain ⟨h1, h2, s, x, h3, h4⟩ := h
  rw [List.length_append] at h1
  refine ⟨by rw [List.length_append]; omega, fun a ha => h2 a (by rw [List.mem_append] at *; exact ha.symm), par A.length s, ?_⟩
  rw [sg_app] at h3 h4
  obtain ⟨y, q1, q2⟩ := rot hb h3
  have e : par C.length (par A.length s) = s := by
    unfold par
    rcases Nat.mod_two_eq_zero_or_one A.length with h | h
    · rw [if_pos h, if_pos (by omega)]
    · rw [if_neg (by omega), if_neg (by omega)]
      cases s <;> rfl
  refine ⟨y, ?_, ?_⟩
  · rw [sg_app, e]
    exact q1
  · rw [sg_app, e, q2, h4]
def mx (b a : Int) : Int := max 0 (a - b)
theorem E_three {b B S z a0 a1 : Int} (hb : 0 ≤ b) {m : List Int} (h : E b (z :: a0 :: a1 :: m) B S) (h0 : a0 ≤ z) (h1 : a0 ≤ a1) : E b ((z - a0 + a1) :: m) (B - mx b a0) (S - mx b a0) := by
  obtain ⟨e1, e2, s, x, e3, e4⟩ := h
  have pz := e2 z (by simp)
  have p0 := e2 a0 (by simp)
  have p1 := e2 a1 (by simp)
  refine ⟨?_, fun a ha => ?_, s, x, ?_⟩
  · simp only [List.length_cons] at *
    omega
  · rcases List.mem_cons.mp ha with rfl | ha
    · omega
    · exact e2 a (by simp [ha])
  have st : Str (sgn s z) (sgn (!s) a0) (sgn s a1) := by
    cases s
    · right
      show -z < 0 ∧ 0 < a0 ∧ -a1 < 0 ∧ a0 ≤ - -z ∧ a0 ≤ - -a1
      omega
    · left
      show 0 < z ∧ -a0 < 0 ∧ 0 < a1 ∧ - -a0 ≤ z ∧ - -a0 ≤ a1
      omega
  have eq1 : sg s (z :: a0 :: a1 :: m) = [] ++ [sgn s z, sgn (!s) a0, sgn s a1] ++ sg (!s) m := by
    show sgn s z :: sgn (!s) a0 :: sgn (!(!s)) a1 :: sg (!(!(!s))) m = _
    rw [Bool.not_not]
    rfl
  have eq2 : sg s ((z - a0 + a1) :: m) = [] ++ [sgn s z + sgn (!s) a0 + sgn s a1] ++ sg (!s) m := by
    show sgn s (z - a0 + a1) :: sg (!s) m = (sgn s z + sgn (!s) a0 + sgn s a1) :: sg (!s) m
    congr 1
    cases s
    · show -(z - a0 + a1) = -z + a0 + -a1
      omega
    · show z - a0 + a1 = z + -a0 + a1
      omega
  have mu : much b (sgn (!s) a0) = mx b a0 := by
    unfold much mx absI
    cases s
    · show max 0 ((if a0 < 0 then -a0 else a0) - b) = _
      rw [if_neg (by omega)]
    · show max 0 ((if -a0 < 0 then - -a0 else -a0) - b) = _
      rw [if_pos (by omega), Int.neg_neg]
  obtain ⟨x0, x1, x2⟩ := e3
  rw [eq1] at x2 e4
  rw [eq2]
  have q := strike (b := b) (x := x) hb x0 x1 st [] (sg (!s) m)
  rw [q, mu] at x2 e4
  dsimp only at x2 e4
  refine ⟨⟨x0, x1, x2⟩, ?_⟩
  have e5 := congrArg Prod.fst e4
  have e6 := congrArg Prod.snd e4
  dsimp only at e5 e6
  refine Prod.ext ?_ ?_ <;> dsimp only <;> omega
theorem ends {l : List Int} (h : 3 ≤ l.length) : l = (l.getD 0 0 :: l.getD 1 0 :: ((l.drop 2).take (l.length - 3))) ++ [l.getD (l.length - 1) 0] := by
  match l, h with
  | a :: b :: l, h =>
    have hl : l ≠ [] := fun z => by rw [z] at h; simp at h
    show a :: b :: l = a :: b :: ((l.take (l.length + 2 - 3)) ++ [(a :: b :: l).getD (l.length + 2 - 1) 0])
    have e : (a :: b :: l).getD (l.length + 2 - 1) 0 = l.getLast hl := by
      obtain ⟨k, hk⟩ : ∃ k, l.length = k + 1 := ⟨l.length - 1, by have := List.length_pos_iff.mpr hl; omega⟩
      rw [hk]
      show l.getD k 0 = _
      rw [List.getLast_eq_getElem, List.getD_eq_getElem?_getD, List.getElem?_eq_getElem (by omega)]
      show l[k] = _
      congr 1
      omega
    rw [e, show l.length + 2 - 3 = l.length - 1 by omega, ← List.dropLast_eq_take, List.dropLast_concat_getLast]
theorem E_turn {b B S : Int} (hb : 0 ≤ b) {sz : List Int} {p : Nat} (h : E b sz B S) : E b (turned sz p) B S := by
  unfold turned
  refine E_rot hb ?_
  rw [List.take_append_drop]
  exact h
theorem E_step {b B S : Int} (hb : 0 ≤ b) {sz : List Int} (h : E b sz B S) (h4 : 4 ≤ sz.length) : E b (without sz (placeOf sz)) (B - mx b (sz.getD (placeOf sz) 0)) (S - mx b (sz.getD (placeOf sz) 0)) := by
  have ne : sz ≠ [] := fun z => by rw [z] at h4; exact absurd h4 (by decide)
  obtain ⟨p1, p2, _⟩ := place_ok ne
  have tl := turned_len (sz := sz) (Nat.le_of_lt p1)
  have g0 : (turned sz (placeOf sz)).getD 0 0 = sz.getD (placeOf sz) 0 := by
    unfold turned
    rw [List.getD_eq_getElem?_getD, List.getElem?_append_left (by rw [List.length_drop]; omega), List.getElem?_drop, Nat.add_zero, List.getD_eq_getElem?_getD]
  have gm : sz.getD (placeOf sz) 0 = minD sz := by
    rw [List.getD_eq_getElem?_getD, p2]
    rfl
  have lo : ∀ i, i < sz.length → minD sz ≤ (turned sz (placeOf sz)).getD i 0 := fun i hi => by
    refine (min_ok ne).2 _ ?_
    have : (turned sz (placeOf sz)).getD i 0 ∈ turned sz (placeOf sz) := by
      rw [List.getD_eq_getElem?_getD, List.getElem?_eq_getElem (by omega)]
      exact List.getElem_mem _
    unfold turned at this
    rcases List.mem_append.mp this with q | q
    · exact List.mem_of_mem_drop q
    · exact List.mem_of_mem_take q
  have ht := E_turn (p := placeOf sz) hb h
  rw [ends (l := turned sz (placeOf sz)) (by omega)] at ht
  have h3 := E_three hb (E_rot hb ht) (by rw [g0, gm]; exact lo _ (by omega)) (by rw [g0, gm]; exact lo _ (by omega))
  rw [tl] at h3
  rw [g0] at h3
  unfold without
  rw [g0]
  exact h3
def tall (b : Int) (l : List Int) : Int := (l.map (mx b)).sum
theorem tall_snoc (b : Int) (l : List Int) (a : Int) : tall b (l ++ [a]) = tall b l + mx b a := by
  unfold tall
  rw [List.map_append, List.sum_append]
  simp
theorem E_it {b B S : Int} (hb : 0 ≤ b) {sz : List Int} (h : E b sz B S) (h2 : 2 ≤ sz.length) : ∀ i, i ≤ turnsS sz → E b (itS sz i).1 (B - tall b (itS sz i).2) (S - tall b (itS sz i).2)
  | 0, _ => by
    show E b sz (B - 0) (S - 0)
    rw [Int.sub_zero, Int.sub_zero]
    exact h
  | i + 1, hi => by
    have ih := E_it hb h h2 i (by omega)
    have l1 := (itS_len sz i (by omega)).1
    have h1 := h.1
    unfold turnsS at hi
    have q := E_step hb ih (by omega)
    show E b (without (itS sz i).1 (placeOf (itS sz i).1)) (B - tall b ((itS sz i).2 ++ [_])) (S - tall b ((itS sz i).2 ++ [_]))
    rw [tall_snoc, show ∀ B t m : Int, B - (t + m) = B - t - m from fun B t m => by omega, show ∀ B t m : Int, B - (t + m) = B - t - m from fun B t m => by omega]
    exact q
theorem E_two {b B S a c : Int} (hb : 0 ≤ b) (h : E b [a, c] B S) : B = max 0 (B - S) + mx b (min a c) ∧ S = max 0 (S - B) + mx b (min a c) := by
  obtain ⟨_, e2, s, x, ⟨x0, x1, x2⟩, e4⟩ := h
  have pa := e2 a (by simp)
  have pc := e2 c (by simp)
  have e5 := congrArg Prod.fst e4
  have e6 := congrArg Prod.snd e4
  dsimp only at e5 e6
  cases s
  · have e : tot b (sg false [a, c]) (x, 0, 0) = wst b (wst b (x, 0, 0) (-a)) c := rfl
    rw [e] at x2 e5 e6
    unfold wst at x2 e5 e6
    dsimp only at x2 e5 e6
    unfold mx
    omega
  · have e : tot b (sg true [a, c]) (x, 0, 0) = wst b (wst b (x, 0, 0) a) (-c) := rfl
    rw [e] at x2 e5 e6
    unfold wst at x2 e5 e6
    dsimp only at x2 e5 e6
    unfold mx
    omega
theorem E_found {b B S : Int} (hb : 0 ≤ b) {sz : List Int} (h : E b sz B S) (h2 : 2 ≤ sz.length) : B = max 0 (B - S) + tall b (foundS sz) ∧ S = max 0 (S - B) + tall b (foundS sz) := by
  have q := E_it hb h h2 (turnsS sz) (Nat.le_refl _)
  have l1 := (itS_len sz (turnsS sz) (Nat.le_refl _)).1
  have h1 := h.1
  have l2 : (itS sz (turnsS sz)).1.length = 2 := by
    rw [l1]
    unfold turnsS
    omega
  unfold foundS
  rw [if_pos l2, tall_snoc]
  generalize itS sz (turnsS sz) = I at *
  obtain ⟨I1, I2⟩ := I
  dsimp only at *
  match I1, l2, q with
  | [a, c], _, q =>
    have w := E_two hb q
    have m : minD [a, c] = min a c := by
      obtain ⟨m1, m2⟩ := min_ok (sz := [a, c]) (by simp)
      have ma := m2 a (by simp)
      have mc := m2 c (by simp)
      simp only [List.mem_cons, List.not_mem_nil, or_false] at m1
      omega
    rw [m]
    omega
/-! ### rows -/
theorem sgn_pos {s : Bool} {a : Int} (h : 0 < a) : decide (0 < sgn s a) = s := by
  cases s
  · exact decide_eq_false (by show ¬ 0 < -a; omega)
  · exact decide_eq_true (by show 0 < a; exact h)
theorem absI_pos {r : Int} (h : r ≠ 0) : 0 < SW.absI r := by
  unfold SW.absI
  split <;> omega
theorem sgn_abs (r : Int) : sgn (decide (0 < r)) (SW.absI r) = r := by
  unfold sgn SW.absI
  by_cases h : 0 < r
  · rw [decide_eq_true h, if_pos rfl, if_neg (by omega)]
  · rw [decide_eq_false h, if_neg (by simp)]
    split <;> omega
/-- a row joined so far -/
def J (acc : List Int) (s e : Bool) : Prop := acc ≠ [] ∧ (∀ a, a ∈ acc → a ≠ 0) ∧ acc = sg s (acc.map SW.absI) ∧ par (acc.length - 1) s = e
theorem last_snoc (d : List Int) (l : Int) : lastD (d ++ [l]) = l := by
  unfold lastD
  rw [List.length_append, List.getD_eq_getElem?_getD]
  show ((d ++ [l])[d.length + 1 - 1]?).getD 0 = l
  rw [Nat.add_sub_cancel, List.getElem?_append_right (Nat.le_refl _), Nat.sub_self]
  rfl
theorem set_snoc (d : List Int) (l m : Int) : (d ++ [l]).set ((d ++ [l]).length - 1) m = d ++ [m] := by
  rw [List.length_append]
  show (d ++ [l]).set (d.length + 1 - 1) m = _
  rw [Nat.add_sub_cancel, List.set_append_right _ _ (Nat.le_refl _), Nat.sub_self]
  rfl
theorem snoc_of {acc : List Int} (h : acc ≠ []) : ∃ d l, acc = d ++ [l] := ⟨acc.dropLast, acc.getLast h, (List.dropLast_concat_getLast h).symm⟩
theorem J_last {d : List Int} {l : Int} {s e : Bool} (h : J (d ++ [l]) s e) : e = decide (0 < l) ∧ d = sg s (d.map SW.absI) ∧ l ≠ 0 ∧ par d.length s = e := by
  obtain ⟨_, h2, h3, h4⟩ := h
  have hl := h2 l (by simp)
  rw [List.map_append, sg_app, List.length_map] at h3
  have q := List.append_inj h3 (by
    have : ∀ (s : Bool) (A : List Int), (sg s A).length = A.length := by
      intro s A
      induction A generalizing s with
      | nil => rfl
      | cons a A ih => show (sg (!s) A).length + 1 = _; rw [ih]; rfl
    rw [this, List.length_map])
  have q2 : l = sgn (par d.length s) (SW.absI l) := by
    have := q.2
    injection this
  rw [List.length_append] at h4
  have h4 : par d.length s = e := h4
  refine ⟨?_, q.1, hl, h4⟩
  rw [q2, sgn_pos (absI_pos hl), h4]
theorem J_step {acc : List Int} {s e : Bool} {r : Int} (h : J acc s e) (hr : r ≠ 0) : J (joinStep acc r) s (decide (0 < r)) := by
  obtain ⟨d, l, rfl⟩ := snoc_of h.1
  obtain ⟨j1, j2, j3, j4⟩ := J_last h
  have h2 := h.2.1
  unfold joinStep
  rw [last_snoc]
  split
  · next c =>
    have c := c.2
    have sum0 : l + r ≠ 0 ∧ decide (0 < l + r) = decide (0 < r) := by
      by_cases a : 0 < l
      · have b : 0 < r := by rw [decide_eq_true a] at c; exact of_decide_eq_true c.symm
        exact ⟨by omega, by rw [decide_eq_true b, decide_eq_true (by omega)]⟩
      · have b : ¬ 0 < r := by rw [decide_eq_false a] at c; exact of_decide_eq_false c.symm
        exact ⟨by omega, by rw [decide_eq_false b, decide_eq_false (by omega)]⟩
    rw [set_snoc]
    refine ⟨by simp, fun a ha => ?_, ?_, ?_⟩
    · rcases List.mem_append.mp ha with ha | ha
      · exact h2 a (by simp [ha])
      · rw [List.mem_singleton.mp ha]
        exact sum0.1
    · rw [List.map_append, sg_app, List.length_map, ← j2, j4, j1, c, ← sum0.2]
      show d ++ [l + r] = d ++ [sgn (decide (0 < l + r)) (SW.absI (l + r))]
      rw [sgn_abs]
    · rw [List.length_append]
      show par d.length s = _
      rw [j4, j1, c]
  · next c =>
    have c : decide (0 < l) ≠ decide (0 < r) := fun z => c ⟨by simp, z⟩
    have e2 : par (d ++ [l]).length s = decide (0 < r) := by
      rw [List.length_append]
      show par (d.length + 1) s = _
      have : par (d.length + 1) s = !par d.length s := by
        unfold par
        rcases Nat.mod_two_eq_zero_or_one d.length with h | h
        · rw [if_neg (by omega), if_pos h]
        · rw [if_pos (by omega), if_neg (by omega), Bool.not_not]
      rw [this, j4, j1]
      cases hl : decide (0 < l) <;> cases hr : decide (0 < r) <;> first | rfl | (rw [hl, hr] at c; exact absurd rfl c)
    refine ⟨by simp, fun a ha => ?_, ?_, ?_⟩
    · rcases List.mem_append.mp ha with ha | ha
      · exact h2 a ha
      · rw [List.mem_singleton.mp ha]
        exact hr
    · rw [List.map_append, sg_app, List.length_map, ← h.2.2.1, e2]
      show d ++ [l] ++ [r] = d ++ [l] ++ [sgn (decide (0 < r)) (SW.absI r)]
      rw [sgn_abs]
    · rw [List.length_append]
      show par ((d ++ [l]).length + 1 - 1) s = _
      rw [Nat.add_sub_cancel]
      exact e2
theorem J_fold : ∀ (rs acc : List Int) (s e : Bool), J acc s e → (∀ r, r ∈ rs → r ≠ 0) → ∃ e', J (rs.foldl joinStep acc) s e' ∧ e' = (match rs.getLast? with | none => e | some l => decide (0 < l))
  | [], acc, s, e, h, _ => ⟨e, h, rfl⟩
  | r :: rs, acc, s, e, h, hr => by
    obtain ⟨e', q1, q2⟩ := J_fold rs _ s _ (J_step h (hr r (by simp))) fun a ha => hr a (by simp [ha])
    refine ⟨e', q1, ?_⟩
    rw [q2]
    cases rs with
    | nil => rfl
    | cons a rs =>
      rw [List.getLast?_cons_cons]
      cases h : (a :: rs).getLast? with
      | none => simp at h
      | some l => rfl
theorem join_tot {b x : Int} (hb : 0 ≤ b) (h0 : 0 ≤ x) (h1 : x ≤ b) : ∀ (rs acc : List Int), (∀ a, a ∈ acc → a ≠ 0) → (∀ r, r ∈ rs → r ≠ 0) → tot b (rs.foldl joinStep acc) (x, 0, 0) = tot b (acc ++ rs) (x, 0, 0)
  | [], acc, _, _ => by
    rw [List.append_nil]
    rfl
  | r :: rs, acc, ha, hr => by
    have hr0 := hr r (by simp)
    show tot b (rs.foldl joinStep (joinStep acc r)) (x, 0, 0) = _
    have js : joinStep acc r = if acc.length > 0 ∧ (decide (0 < lastD acc) = decide (0 < r)) then acc.set (acc.length - 1) (lastD acc + r) else acc ++ [r] := rfl
    rw [js]
    split
    · next c =>
      obtain ⟨d, l, rfl⟩ := snoc_of (acc := acc) (fun z => by rw [z] at c; simp at c)
      rw [last_snoc] at c ⊢
      have hl := ha l (by simp)
      have c := c.2
      have pr : Par (l + r) l := by
        by_cases a : 0 < l
        · have b : 0 < r := by rw [decide_eq_true a] at c; exact of_decide_eq_true c.symm
          left
          omega
        · have b : ¬ 0 < r := by rw [decide_eq_false a] at c; exact of_decide_eq_false c.symm
          right
          omega
      rw [set_snoc, join_tot hb h0 h1 rs (d ++ [l + r]) (fun a h => ?_) fun a h => hr a (by simp [h])]
      · have q := parted hb h0 h1 pr d rs
        rw [show l + r - l = r by omega] at q
        rw [← q]
        simp
      · rcases List.mem_append.mp h with h | h
        · exact ha a (by simp [h])
        · rw [List.mem_singleton.mp h]
          unfold Par at pr
          omega
    · rw [join_tot hb h0 h1 rs (acc ++ [r]) (fun a h => ?_) fun a h => hr a (by simp [h])]
      · simp
      · rcases List.mem_append.mp h with h | h
        · exact ha a h
        · rw [List.mem_singleton.mp h]
          exact hr0
theorem one_sign {b x : Int} (hb : 0 ≤ b) (h0 : 0 ≤ x) (h1 : x ≤ b) : ∀ (rs : List Int) (r : Int), r ≠ 0 → (∀ a, a ∈ rs → a ≠ 0 ∧ decide (0 < a) = decide (0 < r)) → tot b (r :: rs) (x, 0, 0) = tot b [r + rs.sum] (x, 0, 0)
  | [], r, _, _ => by
    show tot b [r] (x, 0, 0) = tot b [r + 0] (x, 0, 0)
    rw [Int.add_zero]
  | a :: rs, r, hr, h => by
    obtain ⟨ha, hs⟩ := h a (by simp)
    have pr : Par (r + a) r ∧ r + a ≠ 0 ∧ decide (0 < r + a) = decide (0 < r) := by
      by_cases c : 0 < r
      · have d : 0 < a := by rw [decide_eq_true c] at hs; exact of_decide_eq_true hs
        exact ⟨.inl (by omega), by omega, by rw [decide_eq_true c, decide_eq_true (by omega)]⟩
      · have d : ¬ 0 < a := by rw [decide_eq_false c] at hs; exact of_decide_eq_false hs
        exact ⟨.inr (by omega), by omega, by rw [decide_eq_false c, decide_eq_false (by omega)]⟩
    have q := parted hb h0 h1 pr.1 [] rs
    rw [show r + a - r = a by omega] at q
    have q : tot b (r :: a :: rs) (x, 0, 0) = tot b ((r + a) :: rs) (x, 0, 0) := q
    rw [q, one_sign hb h0 h1 rs (r + a) pr.2.1 fun y hy => ⟨(h y (by simp [hy])).1, by rw [pr.2.2]; exact (h y (by simp [hy])).2⟩, List.sum_cons]
    congr 2
    omega
theorem getD_mem {rs : List Int} {i : Nat} (h : i < rs.length) : rs.getD i 0 ∈ rs := by
  rw [List.getD_eq_getElem?_getD, List.getElem?_eq_getElem h]
  exact List.getElem_mem _
theorem no_turn {rs : List Int} (h : firstTurn rs = none) (ne : rs ≠ []) : ∀ i, i < rs.length → posAt rs i = posAt rs 0
  | 0, _ => rfl
  | i + 1, hi => by
    rw [← no_turn h ne i (by omega)]
    unfold firstTurn at h
    have q := List.find?_eq_none.mp h (i + 1) (List.mem_range.mpr hi)
    unfold turnAt at q
    rw [if_neg (by omega), Nat.add_sub_cancel] at q
    simpa using q
theorem perm_sum {a b : List Int} (h : a.Perm b) : a.sum = b.sum := by
  induction h with
  | nil => rfl
  | cons x _ ih => rw [List.sum_cons, List.sum_cons, ih]
  | swap x y l =>
    rw [List.sum_cons, List.sum_cons, List.sum_cons, List.sum_cons]
    omega
  | trans _ _ h1 h2 => exact h1.trans h2
/-- what a row buys and spills in a year that ends as it began -/
theorem long_run {b : Int} (hb : 0 ≤ b) {rs : List Int} (ne : rs ≠ []) (nz : ∀ r, r ∈ rs → r ≠ 0) {x : Int} (hx : Fx b rs x) :
    (tot b rs (x, 0, 0)).2 = (max 0 (-rs.sum) + tall b (swOf rs), max 0 rs.sum + tall b (swOf rs)) := by
  have hs := fx_sum hb hx
  have perm : ∀ l : List Int, tall b (downS l) = tall b l := fun l => by
    unfold tall
    exact perm_sum ((down_ok l).1.map _)
  unfold swOf ringOf
  cases hf : firstTurn rs with
  | none =>
    dsimp only
    rw [perm]
    have e0 : foundS ([rs.sum].map SW.absI) = [] := by
      have t0 : turnsS ([rs.sum].map SW.absI) = 0 := by
        unfold turnsS
        simp
      unfold foundS
      rw [t0, if_neg (by show ¬ 1 = 2; decide)]
      rfl
    rw [e0]
    obtain ⟨r, t, rfl⟩ : ∃ r t, rs = r :: t := by
      cases rs with
      | nil => exact absurd rfl ne
      | cons r t => exact ⟨r, t, rfl⟩
    have q := one_sign (b := b) (x := x) hb hx.1 hx.2.1 t r (nz r (by simp)) fun a ha => by
      refine ⟨nz a (by simp [ha]), ?_⟩
      obtain ⟨i, hi, rfl⟩ := List.getElem_of_mem ha
      have w := no_turn hf ne (i + 1) (by rw [List.length_cons]; omega)
      unfold posAt at w
      rw [List.getD_eq_getElem?_getD, List.getElem?_eq_getElem (by rw [List.length_cons]; omega)] at w
      exact w
    have e1 : tot b [r + t.sum] (x, 0, 0) = wst b (x, 0, 0) (r + t.sum) := rfl
    obtain ⟨x0, x1, x2⟩ := hx
    rw [q, e1] at x2 ⊢
    rw [List.sum_cons]
    unfold wst at x2 ⊢
    dsimp only at x2 ⊢
    have : tall b [] = 0 := rfl
    rw [this]
    refine Prod.ext ?_ ?_ <;> dsimp only <;> omega
  | some p =>
    dsimp only
    rw [perm]
    have hp := List.find?_range_eq_some.mp hf
    have pl : p < rs.length := List.mem_range.mp hp.2.1
    have tu : turnAt rs p = true := hp.1
    have hx2 : Fx b (rs.take p ++ rs.drop p) x := by
      rw [List.take_append_drop]
      exact hx
    obtain ⟨y, y1, y2⟩ := rot hb hx2
    rw [List.take_append_drop] at y2
    have tne : ∃ r t, turned rs p = r :: t := by
      cases h : turned rs p with
      | nil =>
        have := turned_len (sz := rs) (Nat.le_of_lt pl)
        rw [h] at this
        have z : ([] : List Int).length = 0 := rfl
        omega
      | cons r t => exact ⟨r, t, rfl⟩
    obtain ⟨r, t, ht⟩ := tne
    have tnz : ∀ a, a ∈ r :: t → a ≠ 0 := fun a ha => by
      rw [← ht] at ha
      unfold turned at ha
      rcases List.mem_append.mp ha with h | h
      · exact nz a (List.mem_of_mem_drop h)
      · exact nz a (List.mem_of_mem_take h)
    have je : joined (turned rs p) = t.foldl joinStep [r] := by
      rw [ht]
      rfl
    have jt : tot b (joined (turned rs p)) (y, 0, 0) = tot b (turned rs p) (y, 0, 0) := by
      rw [je, ht]
      exact join_tot hb y1.1 y1.2.1 t [r] (fun a ha => tnz a (by rw [List.mem_singleton.mp ha]; simp)) fun a ha => tnz a (by simp [ha])
    have r0 := tnz r (by simp)
    have j0 : J [r] (decide (0 < r)) (decide (0 < r)) := by
      refine ⟨by simp, fun a ha => by rw [List.mem_singleton.mp ha]; exact r0, ?_, rfl⟩
      show [r] = [sgn (decide (0 < r)) (SW.absI r)]
      rw [sgn_abs]
    obtain ⟨e', j1, j2⟩ := J_fold t [r] _ _ j0 fun a ha => tnz a (by simp [ha])
    rw [← je] at j1
    generalize hR : joined (turned rs p) = R at *
    obtain ⟨k1, k2, k3, k4⟩ := j1
    -- the first and the last one differ in sign
    have hr : decide (0 < r) = posAt rs p := by
      have : r = rs.getD p 0 := by
        have w : (turned rs p).getD 0 0 = rs.getD p 0 := by
          unfold turned
          rw [List.getD_eq_getElem?_getD, List.getElem?_append_left (by rw [List.length_drop]; omega), List.getElem?_drop, Nat.add_zero, List.getD_eq_getElem?_getD]
        rw [ht] at w
        exact w
      rw [this]
      rfl
    have two : 2 ≤ rs.length := by
      cases hl : rs.length with
      | zero => omega
      | succ n =>
        cases n with
        | zero =>
          have p0 : p = 0 := by omega
          subst p0
          unfold turnAt at tu
          rw [if_pos rfl, hl] at tu
          simp at tu
        | succ n => omega
    have he : e' = posAt rs (if p = 0 then rs.length - 1 else p - 1) := by
      have tl : t.getLast? = some (rs.getD (if p = 0 then rs.length - 1 else p - 1) 0) := by
        have w : (turned rs p).getLast? = some (rs.getD (if p = 0 then rs.length - 1 else p - 1) 0) := by
          unfold turned
          rw [List.getLast?_eq_getElem?]
          by_cases c : p = 0
          · subst c
            rw [if_pos rfl, List.drop_zero, List.take_zero, List.append_nil, List.getElem?_eq_getElem (by omega), List.getD_eq_getElem?_getD, List.getElem?_eq_getElem (by omega)]
            rfl
          · rw [if_neg c, List.length_append, List.length_drop, List.length_take, List.getElem?_append_right (by rw [List.length_drop]; omega), List.length_drop, List.getElem?_take, if_pos (by omega), List.getD_eq_getElem?_getD, show rs.length - p + min p rs.length - 1 - (rs.length - p) = p - 1 by omega, List.getElem?_eq_getElem (by omega)]
            rfl
        rw [ht] at w
        cases t with
        | nil =>
          have := turned_len (sz := rs) (Nat.le_of_lt pl)
          rw [ht] at this
          have z : [r].length = 1 := rfl
          omega
        | cons a t =>
          rw [List.getLast?_cons_cons] at w
          exact w
      rw [j2, tl]
      rfl
    have df : e' ≠ decide (0 < r) := by
      rw [he, hr]
      unfold turnAt at tu
      intro z
      rw [z] at tu
      simp at tu
    have even : R.length % 2 = 0 := by
      have l0 := List.length_pos_iff.mpr k1
      rcases Nat.mod_two_eq_zero_or_one R.length with h | h
      · exact h
      · exfalso
        unfold par at k4
        rw [if_pos (by omega)] at k4
        exact df k4.symm
    have hE : E b (R.map SW.absI) (tot b rs (x, 0, 0)).2.1 (tot b rs (x, 0, 0)).2.2 := by
      refine ⟨by rw [List.length_map]; exact even, fun a ha => ?_, decide (0 < r), y, ?_⟩
      · obtain ⟨c, hc, rfl⟩ := List.mem_map.mp ha
        exact absI_pos (k2 c hc)
      rw [← k3]
      have y3 : tot b R (y, 0, 0) = tot b (rs.drop p ++ rs.take p) (y, 0, 0) := jt
      refine ⟨⟨y1.1, y1.2.1, by rw [y3]; exact y1.2.2⟩, ?_⟩
      rw [y3, y2]
    have l0 := List.length_pos_iff.mpr k1
    obtain ⟨f1, f2⟩ := E_found hb hE (by rw [List.length_map]; omega)
    refine Prod.ext ?_ ?_ <;> dsimp only <;> omega
/-- there is one -/
def after (b : Int) (rs : List Int) : Nat → Int
  | 0 => 0
  | n + 1 => (tot b rs (after b rs n, 0, 0)).1
theorem after_in {b : Int} (hb : 0 ≤ b) (rs : List Int) : ∀ n, 0 ≤ after b rs n ∧ after b rs n ≤ b
  | 0 => ⟨Int.le_refl 0, hb⟩
  | n + 1 => inside hb rs (after b rs n, 0, 0) (after_in hb rs n).1 (after_in hb rs n).2
theorem after_up {b : Int} (hb : 0 ≤ b) (rs : List Int) : ∀ n, after b rs n ≤ after b rs (n + 1)
  | 0 => (after_in hb rs 1).1
  | n + 1 => (mono hb rs (after b rs n, 0, 0) (after b rs (n + 1), 0, 0) (after_in hb rs n).1 (after_up hb rs n) (after_in hb rs (n + 1)).2).1
theorem after_fx {b : Int} (hb : 0 ≤ b) (rs : List Int) : ∀ n, Fx b rs (after b rs n) ∨ (n : Int) ≤ after b rs n
  | 0 => .inr (Int.le_refl 0)
  | n + 1 => by
    have h := after_in hb rs n
    rcases after_fx hb rs n with q | q
    · left
      have e : after b rs (n + 1) = after b rs n := q.2.2
      rw [e]
      exact q
    · by_cases c : after b rs (n + 1) = after b rs n
      · left
        rw [c]
        exact ⟨h.1, h.2, c⟩
      · right
        have := after_up hb rs n
        omega
theorem settled {b : Int} (hb : 0 ≤ b) (rs : List Int) {n : Nat} (h : b < n) : Fx b rs (after b rs n) := by
  rcases after_fx hb rs n with q | q
  · exact q
  · have := (after_in hb rs n).2
    omega
end WK
namespace K08
open PySem L2 PyProof.Rows DL TL RZ SW
local macro_rules | `(tactic| walk_at "len") => `(tactic| first
  | exact Nat.le_of_ble_eq_true rfl
  | assumption
  | (simp only [List.length_map, List.length_cons, List.length_nil, dI, dS, dB, List.length_reverse, List.length_append, List.length_range, rngD]; omega)
  | omega)
local macro_rules | `(tactic| walk_at "rd") => `(tactic| first
  | with_reducible exact rd_add
  | with_reducible exact rd_sub
  | with_reducible exact rd_eqs
  | with_reducible exact rd_eqi
  | with_reducible exact rd_eqb
  | with_reducible exact rd_eqN
  | with_reducible exact rd_nes
  | with_reducible exact rd_nei
  | with_reducible exact rd_neb
  | with_reducible exact rd_B
  | with_reducible exact rd_isN
  | with_reducible exact rd_inS
  | ((with_reducible apply rd_ixTz); rfl; rfl)
  | ((with_reducible apply rd_ixLz); rfl; rfl)
  | ((with_reducible apply rd_cats); walk_at "len")
  | ((with_reducible apply rd_catl); walk_at "len")
  | ((with_reducible apply rd_repl) <;> (first | decide | omega))
  | ((with_reducible apply rd_reps); exact ⟨by decide +kernel, by intro _ _; decide +kernel, by intro _ _; decide +kernel⟩)
  | ((with_reducible apply rd_neD) <;> (first | rfl | decide +kernel))
  | ((with_reducible apply rd_eqD) <;> (first | rfl | decide +kernel))
  | (apply rd_I (C := CMul) (g := fun i j => i * j); exact (by first | exact .inl ⟨by decide, by decide⟩ | exact .inr ⟨by decide, by decide⟩))
  | (apply rd_I (C := CPow) (g := fun i j => i ^ j.toNat); exact ⟨by decide, by decide, by decide⟩))
local macro_rules | `(tactic| walk_at "rc") => `(tactic| first
  | with_reducible exact rc_lenL
  | with_reducible exact rc_lenT
  | with_reducible exact rc_int
  | with_reducible exact rc_intb
  | with_reducible exact rc_abs
  | with_reducible exact rc_all
  | with_reducible exact rc_max2
  | with_reducible exact rc_min2
  | with_reducible exact rc_sumT
  | with_reducible exact rc_sumL
  | with_reducible exact rc_list (.lst _)
  | with_reducible exact rc_list (.tup _)
  | with_reducible exact rc_tuple (.lst _)
  | with_reducible exact rc_tuple (.tup _)
  | ((with_reducible apply rc_str); first | assumption | decide +kernel)
  | ((with_reducible apply rc_lenS); assumption))
local macro_rules | `(tactic| walk_at "ea") => `(tactic| first
  | with_reducible exact ea_nil
  | ((with_reducible apply ea_cons); (walk_at "ev"); (walk_at "ea")))
local macro_rules | `(tactic| walk_at "call") => `(tactic| fail "call")
local macro_rules | `(tactic| walk_at "it") => `(tactic| first
  | ((with_reducible apply it_list); walk_at "ev")
  | ((with_reducible apply it_tup); walk_at "ev")
  | ((with_reducible apply it_rng); (walk_at "ea"); walk_at "len")
  | ((with_reducible apply it_enum); walk_at "ev")
  | ((with_reducible apply it_zip); (walk_at "ev"); (walk_at "ev"))
  | ((with_reducible apply it_zipA); rotate_left; (walk_at "ev"); (walk_at "ev"); first | exact .lst _ _ | exact .tup _ _)
  | ((with_reducible apply it_seq); rotate_left; (walk_at "ev"); first | exact .lst _ | exact .tup _ | assumption))
local macro_rules | `(tactic| walk_at "tgs") => `(tactic| first
  | with_reducible exact .nil
  | (apply TgsD.cons; (walk_at "tg"); (walk_at "tgs")))
local macro_rules | `(tactic| walk_at "tg") => `(tactic| first
  | ((with_reducible apply tg_name) <;> decide)
  | (apply tg_tup; (walk_at "tgs"); rfl)
  | (apply tg_seq; rotate_left; (walk_at "tgs"); rfl; first | exact .lst _ | exact .tup _ | assumption))
local macro_rules | `(tactic| walk_at "all2") => `(tactic| first
  | exact .nil
  | (apply All2.cons; (apply Exists.intro; apply And.intro; (walk_at "tg"); (walk_at "ev")); (walk_at "all2")))
local macro_rules | `(tactic| walk_at "ej") => `(tactic| first
  | with_reducible exact .nil
  | (apply EvJ.cons; (walk_at "ev"); (walk_at "ej")))
local macro_rules | `(tactic| walk_at "eo") => `(tactic| first
  | with_reducible exact eo_none
  | ((with_reducible apply eo_some); walk_at "ev"))
local macro_rules | `(tactic| walk_at "ev") => `(tactic| first
  | ((with_reducible apply ed_var); exact rfl)
  | with_reducible exact ed_int
  | with_reducible exact ed_str
  | with_reducible exact ed_bl
  | with_reducible exact ed_non
  | ((with_reducible apply ed_tup); (walk_at "ea"); (walk_at "len"))
  | ((with_reducible apply ed_lst); (walk_at "ea"); (walk_at "len"))
  | ((with_reducible apply ed_call); (walk_at "ea"); (walk_at "call"))
  | ((with_reducible apply ed_callN); (walk_at "ea"); rfl; (first | exact fun H vs q => q | exact sw_dq | exact sw3_dq); (walk_at "call"))
  | ((with_reducible apply ed_op); (walk_at "ev"); (walk_at "ev"); (walk_at "rd"))
  | ((with_reducible apply ed_isi); (walk_at "ev"); decide; try (first | rfl | decide))
  | ((with_reducible apply ed_isiT); (walk_at "ev"); decide; decide; try (first | rfl | decide))
  | ((with_reducible apply ed_neg); walk_at "ev")
  | ((with_reducible apply ed_andV); (walk_at "ev"); intro _; walk_at "ev")
  | ((with_reducible apply ed_orV); (walk_at "ev"); intro _; walk_at "ev")
  | ((with_reducible apply ed_notV); walk_at "ev")
  | ((with_reducible apply ed_split); (walk_at "ev"); (walk_at "ev"); (decide +kernel); walk_at "len")
  | ((with_reducible apply ed_partition); (walk_at "ev"); (walk_at "ev"); (decide +kernel); walk_at "len")
  | ((with_reducible apply ed_isdigit); walk_at "ev")
  | ((with_reducible apply ed_isascii); walk_at "ev")
  | ((with_reducible apply ed_startswith); (walk_at "ev"); walk_at "ev")
  | ((with_reducible apply ed_revL); walk_at "ev")
  | ((with_reducible apply ed_slA); (walk_at "ev"); (walk_at "eo"); walk_at "eo")
  | ((with_reducible apply ed_slL); (walk_at "ev"); (walk_at "eo"); walk_at "eo")
  | ((with_reducible apply ed_slS); (walk_at "ev"); (walk_at "eo"); (walk_at "eo"); walk_at "len")
  | ((with_reducible apply ed_joined); (walk_at "ej"); walk_at "len")
  | ((with_reducible apply ed_fmtI); (walk_at "ev"); first | assumption | decide +kernel)
  | ((with_reducible apply ed_fmtS); (walk_at "ev"); walk_at "len")
  | ((with_reducible apply ed_cb); (walk_at "ea"); walk_at "rc")
  | (apply ed_lc; (walk_at "it"); (walk_at "len"); intro D'; walk_at "all2"))
local macro_rules | `(tactic| walk_at "et") => `(tactic| first
  | ((with_reducible apply et_test); walk_at "ev")
  | ((with_reducible apply et_B); walk_at "ev")
  | ((with_reducible apply DL.et_not); walk_at "et")
  | ((with_reducible apply et_and); (walk_at "et"); intro _; walk_at "et")
  | ((with_reducible apply et_or); (walk_at "et"); intro _; walk_at "et"))
local macro_rules | `(tactic| walk_at "etb") => `(tactic| (apply et_is; (walk_at "et"); first | rfl | decide | (simp [tyIs, tyN]; done)))

section
variable {P : Program} {w : World} {K : PySem.W.Frag} {mg : Str → Option Value} {base : Heap}
/-! ### the ring of a row -/
def ftD (rs : List Int) : PyData := match firstTurn rs with
  | some k => .int (k : Int)
  | none => .none
def R_first_turn (ds : List PyData) (d : PyData) : Prop := ∃ rs : List Int, ds = [.tuple (dI rs)] ∧ d = ftD rs
theorem enum_at {ds : List PyData} {i : Nat} {d : PyData} (h : (enumD ds)[i]? = some d) : ∃ e, ds[i]? = some e ∧ d = .tuple [.int (i : Int), e] := by
  unfold enumD at h
  rw [List.getElem?_zipWith_eq_some] at h
  obtain ⟨a, b, h1, h2, rfl⟩ := h
  have q := List.getElem?_eq_some_iff.mp h1
  obtain ⟨hi, e⟩ := q
  rw [List.getElem_range] at e
  subst e
  exact ⟨b, h2, rfl⟩
theorem ok__first_turn (T : Txt K mg) : FnOk P w K mg base CX0 1 T.f__first_turn T.fd__first_turn ["runs"] (spD R_first_turn) := by
  refine pure_ok T.F__first_turn sc__first_turn (fun ds d h => ?_) (by decide) (fun cdv A outer s H E hr => ?_)
  · obtain ⟨_, rfl, rfl⟩ := h
    rfl
  have hu := hu64 hr
  refine ⟨_, (pss_cons (ps_for PassesOwn.never rfl (kiEnumT (K := K) (by rfl) (by rfl) T.z_enumerate (pa_cons (pv 0) pa_nil)) (kgTup (K := K) (n := 2) (by rfl) (by rfl) (pgs_cons (pg_name (i := 1) sc__first_turn.nd rfl (Or.inl rfl)) (pgs_cons (pg_name (i := 2) sc__first_turn.nd rfl (Or.inl rfl)) pgs_nil))) (pss_one (ps_if (pt_cmpR op_ne (pe_cmpR op_gt (pv 2) pe_int (nomark _)) (pe_cmpR op_gt (pe_ix (kIxT (K := K) (by rfl)) (pv 0) (pe_op op_sub (pv 1) pe_int) (fun _ _ => rfl)) pe_int (nomark _)) (nomark _)) (pss_one (ps_ret (pv 1))) pss_nil)))
  (pss_one (ps_ret pe_non))), fun O ds d hR => ?_⟩
  obtain ⟨rs, rfl, rfl⟩ := hR
  have hget : ∀ i, i < rs.length → rs[i]? = some (rs.getD i 0) := fun i hi => by
    rw [List.getD_eq_getElem?_getD, List.getElem?_eq_getElem hi]
    rfl
  have hdI : ∀ i, i < rs.length → (dI rs)[i]? = some (.int (rs.getD i 0)) := fun i hi => by
    unfold dI
    rw [List.getElem?_map, hget i hi]
    rfl
  -- what a turn finds
  have test : ∀ i, i < rs.length → EvDT O N__first_turn.length (tTest (tOp rNe (tOp (rI0 fun i j => .bl (decide (j < i))) (tVar 2) (tC (.int 0))) (tOp (rI0 fun i j => .bl (decide (j < i))) (tOp (rIxT K) (tVar 0) (tOp (rI0 fun i j => .int (i - j)) (tVar 1) (tC (.int 1)))) (tC (.int 0)))))
      (((argR N__first_turn [.tuple (dI rs)]).set 1 (some (.int (i : Int)))).set 2 (some (.int (rs.getD i 0)))) (turnAt rs i) := fun i hi => by
    apply et_is
    · apply et_test
      refine ed_op (ed_op (ed_var rfl) ed_int rd_B) (ed_op (ed_op (z := .int (rs.getD (if i = 0 then rs.length - 1 else i - 1) 0)) (ed_var rfl) (ed_op (ed_var rfl) ed_int rd_sub) ?_) ed_int rd_B) rd_neb
      by_cases c : i = 0
      · subst c
        rw [if_pos rfl]
        refine rd_ixT_last (fun z => ?_) ?_
        · have := congrArg List.length z
          unfold dI at this
          rw [List.length_map] at this
          have : rs.length = 0 := this
          omega
        · have l : (dI rs).length = rs.length := by
            unfold dI
            rw [List.length_map]
          rw [l]
          exact hdI _ (by omega)
      · rw [if_neg c]
        have e : ((i : Int) - 1) = ((i - 1 : Nat) : Int) := by omega
        rw [e]
        exact rd_ixT (hdI _ (by omega))
    · unfold turnAt posAt
      generalize decide (0 < rs.getD i 0) = b1
      generalize decide (0 < rs.getD (if i = 0 then rs.length - 1 else i - 1) 0) = b2
      cases b1 <;> cases b2 <;> rfl
  have lenE : (enumD (dI rs)).length = rs.length := by
    unfold enumD dI
    rw [List.length_zipWith, List.length_range, List.length_map, Nat.min_self]
  have tgt : ∀ (i : Nat) (d : PyData), (enumD (dI rs))[i]? = some d → i < rs.length ∧ ∀ ρ : Rho, (ρ = argR N__first_turn [.tuple (dI rs)] ∨ ∃ a b, ρ = ((argR N__first_turn [.tuple (dI rs)]).set 1 (some a)).set 2 (some b)) →
      TgD O N__first_turn.length [1, 2] (gTup K 2 (gCons (gName 1) (gCons (gName 2) gNil))) ρ d (((argR N__first_turn [.tuple (dI rs)]).set 1 (some (.int (i : Int)))).set 2 (some (.int (rs.getD i 0)))) := fun i d hd => by
    have hi : i < rs.length := by
      have q := (List.getElem?_eq_some_iff.mp hd).1
      omega
    refine ⟨hi, fun ρ hρ => ?_⟩
    obtain ⟨e, he, rfl⟩ := enum_at hd
    rw [hdI i hi] at he
    cases he
    rcases hρ with rfl | ⟨a, b, rfl⟩
    · apply tg_is
      · walk_at "tg"
      · rfl
    · apply tg_is
      · walk_at "tg"
      · rfl
  let R : Nat → Rho := fun i => match i with
    | 0 => argR N__first_turn [.tuple (dI rs)]
    | i + 1 => ((argR N__first_turn [.tuple (dI rs)]).set 1 (some (.int (i : Int)))).set 2 (some (.int (rs.getD i 0)))
  have hR : ∀ i, R i = argR N__first_turn [.tuple (dI rs)] ∨ ∃ a b, R i = ((argR N__first_turn [.tuple (dI rs)]).set 1 (some a)).set 2 (some b) := fun i => by
    cases i with
    | zero => exact .inl rfl
    | succ i => exact .inr ⟨_, _, rfl⟩
  have pass : ∀ i d, (enumD (dI rs))[i]? = some d → turnAt rs i = false → ∃ ρ', TgD O N__first_turn.length [1, 2] (gTup K 2 (gCons (gName 1) (gCons (gName 2) gNil))) (R i) d ρ' ∧ RunN O N__first_turn.length (tIfS (tTest (tOp rNe (tOp (rI0 fun i j => .bl (decide (j < i))) (tVar 2) (tC (.int 0))) (tOp (rI0 fun i j => .bl (decide (j < i))) (tOp (rIxT K) (tVar 0) (tOp (rI0 fun i j => .int (i - j)) (tVar 1) (tC (.int 1)))) (tC (.int 0))))) (tRet (tVar 1)) tNext) ρ' (R (i + 1)) := fun i d hd hf => by
    obtain ⟨hi, ht⟩ := tgt i d hd
    refine ⟨_, ht _ (hR i), ?_⟩
    refine rn_if (test i hi) (fun z => by rw [hf] at z; cases z) fun _ => ?_
    exact rn_next
  unfold ftD
  cases hw : firstTurn rs with
  | some k =>
    unfold firstTurn at hw
    obtain ⟨h1, h2, h3⟩ := List.find?_range_eq_some.mp hw
    have hk : k < rs.length := List.mem_range.mp h2
    apply rr_fst
    refine rr_for (vs := [1, 2]) (k := k) (it_enumT (ed_var rfl)) R rfl (by omega) (fun i d hi hd => pass i d hd ?_) fun e he => ?_
    · have q := h3 i hi
      simpa using q
    · obtain ⟨hi, ht⟩ := tgt k e he
      refine ⟨_, ht _ (hR k), ?_⟩
      refine rr_if (test k hi) (fun _ => ?_) (fun z => by rw [h1] at z; cases z)
      apply rr_ret
      exact ed_var rfl
  | none =>
    unfold firstTurn at hw
    have h1 := List.find?_eq_none.mp hw
    apply rr_seq
    · refine rn_for (vs := [1, 2]) (it_enumT (ed_var rfl)) R rfl fun i d hd => pass i d hd ?_
      have hi := (tgt i d hd).1
      have q := h1 i (List.mem_range.mpr hi)
      simpa using q
    · apply rr_ret
      exact ed_non
/-! ### a ring without one of its sizes -/
theorem cut_dI (ns : List Int) (lo hi : Option Int) : DL.cutD (dI ns) lo hi = dI ((ns.drop (HT.sIx ns.length 0 lo)).take (HT.sIx ns.length ns.length hi - HT.sIx ns.length 0 lo)) := by
  unfold DL.cutD dI
  rw [List.length_map, List.map_take, List.map_drop]
theorem cut_from {ns : List Int} {p : Nat} (h : p ≤ ns.length) : DL.cutD (dI ns) (some (p : Int)) none = dI (ns.drop p) := by
  rw [cut_dI, HT.sIx_nat, HT.sIx_none, Nat.min_eq_left h, List.take_of_length_le]
  rw [List.length_drop]
  exact Nat.le_refl _
theorem cut_to {ns : List Int} {p : Nat} (h : p ≤ ns.length) : DL.cutD (dI ns) none (some (p : Int)) = dI (ns.take p) := by
  rw [cut_dI, HT.sIx_nat, HT.sIx_none, Nat.min_eq_left h, List.drop_zero, Nat.sub_zero]
theorem cut_mid {ns : List Int} (h : 3 ≤ ns.length) : DL.cutD (dI ns) (some 2) (some (-1)) = dI ((ns.drop 2).take (ns.length - 3)) := by
  have e1 : HT.sIx ns.length 0 (some (2 : Int)) = 2 := by
    rw [show (some 2 : Option Int) = some ((2 : Nat) : Int) from rfl, HT.sIx_nat]
    omega
  have e2 : HT.sIx ns.length ns.length (some (-1 : Int)) = ns.length - 1 := by
    show (if (-1 : Int) < 0 then ((-1 : Int) + (ns.length : Int)).toNat else min (-1 : Int).toNat ns.length) = _
    rw [if_pos (by decide)]
    omega
  rw [cut_dI, e1, e2, show ns.length - 1 - 2 = ns.length - 3 by omega]
theorem dI_at {ns : List Int} {i : Nat} (h : i < ns.length) : (dI ns)[i]? = some (.int (ns.getD i 0)) := by
  unfold dI
  rw [List.getElem?_map, List.getD_eq_getElem?_getD, List.getElem?_eq_getElem h]
  rfl
theorem dI_app (a b : List Int) : dI a ++ dI b = dI (a ++ b) := by
  unfold dI
  rw [List.map_append]
def R_sizes_without (ds : List PyData) (d : PyData) : Prop := ∃ (sz : List Int) (p : Nat), 3 ≤ sz.length ∧ sz.length ≤ 10000 ∧ p < sz.length ∧ ds = [.list (dI sz), .int (p : Int)] ∧ d = .list (dI (without sz p))
theorem dI_len (ns : List Int) : (dI ns).length = ns.length := by
  unfold dI
  rw [List.length_map]
theorem ok__sizes_without (T : Txt K mg) : FnOk P w K mg base CX0 1 T.f__sizes_without T.fd__sizes_without ["sizes", "place"] (spD R_sizes_without) := by
  refine pure_ok T.F__sizes_without sc__sizes_without (fun ds d h => ?_) (by decide) (fun cdv A outer s H E hr => ?_)
  · obtain ⟨_, _, _, _, _, rfl, rfl⟩ := h
    rfl
  have hu := hu64 hr
  refine ⟨_, (pss_cons (ps_set (i := 2) sc__sizes_without.nd rfl (Or.inl rfl) (pe_op op_cat (pe_slice (kSlL (K := K) (by rfl)) (pv 0) (po_some (pv 1)) po_none) (pe_slice (kSlL (K := K) (by rfl)) (pv 0) po_none (po_some (pv 1)))))
  (pss_one (ps_ret (pe_op op_cat (pe_lst (pa_cons (pe_op op_add (pe_op op_sub (pe_ix (kIxL (K := K) (by rfl)) (pv 2) (pe_un un_neg pe_int) (fun _ _ => rfl)) (pe_ix (kIxL (K := K) (by rfl)) (pv 2) pe_int (fun _ _ => rfl))) (pe_ix (kIxL (K := K) (by rfl)) (pv 2) pe_int (fun _ _ => rfl))) pa_nil)) (pe_slice (kSlL (K := K) (by rfl)) (pv 2) (po_some pe_int) (po_some (pe_un un_neg pe_int))))))), fun O ds d hR => ?_⟩
  obtain ⟨sz, p, h3, hl, hp, rfl, rfl⟩ := hR
  have lt := turned_len (sz := sz) (p := p) (by omega)
  apply rr_seq
  · apply rn_asg (d := .list (dI (turned sz p)))
    · apply ed_is
      · apply ed_op
        · exact ed_slL (ed_var rfl) (eo_some (ed_var (d := .int (p : Int)) rfl)) eo_none
        · exact ed_slL (ed_var rfl) eo_none (eo_some (ed_var (d := .int (p : Int)) rfl))
        · refine rd_catl ?_
          rw [cut_from (by omega), cut_to (by omega), dI_len, dI_len, List.length_drop, List.length_take]
          omega
      · rw [cut_from (by omega), cut_to (by omega), dI_app]
        rfl
    · decide
  apply rr_ret
  apply ed_is
  · apply ed_op
    · apply ed_lst
      · refine ea_cons (ed_op (ed_op (ed_op (ed_var rfl) (ed_neg ed_int) (rd_ixL_last (d := .int ((turned sz p).getD (sz.length - 1) 0)) ?_ ?_)) (ed_op (ed_var rfl) (ed_int (i := ((0 : Nat) : Int))) (rd_ixL (i := 0) (dI_at (by omega)))) rd_sub) (ed_op (ed_var rfl) (ed_int (i := ((1 : Nat) : Int))) (rd_ixL (i := 1) (dI_at (by omega)))) rd_add) ea_nil
        · intro z
          have q := congrArg List.length z
          rw [dI_len, lt] at q
          have q : sz.length = 0 := q
          omega
        · rw [dI_len, lt]
          exact dI_at (by omega)
      · exact Nat.le_of_ble_eq_true rfl
    · exact ed_slL (ed_var rfl) (eo_some (ed_int (i := 2))) (eo_some (ed_neg ed_int))
    · refine rd_catl ?_
      rw [show (-1 : Int) = -(1 : Int) from rfl, cut_mid (by omega), dI_len, List.length_take, List.length_drop]
      show 1 + _ ≤ _
      omega
  · rw [show (-(1 : Int)) = -1 from rfl, cut_mid (by omega), lt]
    rfl
/-! ### neighbours of one sign put together -/
theorem flat_dI (ns : List Int) : (dI ns).all isFlat = true := by
  rw [List.all_eq_true]
  intro d hd
  obtain ⟨i, _, rfl⟩ := List.mem_map.mp hd
  rfl
def Rring_of (ds : List PyData) (d : PyData) : Prop := ∃ rs : List Int, rs.length ≤ 10000 ∧ ds = [.tuple (dI rs)] ∧ d = .tuple (dI (ringOf rs))
theorem ok_ring_of (T : Txt K mg) : FnOk P w K mg base CX0 2 T.f_ring_of T.fd_ring_of ["runs"] (spD Rring_of) := by
  refine pure_ok T.F_ring_of sc_ring_of (fun ds d h => ?_) (by decide) (fun cdv A outer s H E hr => ?_)
  · obtain ⟨_, _, rfl, rfl⟩ := h
    rfl
  have G__first_turn := ok__first_turn (P := P) (w := w) (base := base) T
  have hr__first_turn : Room 1 _ := hr.mono (by decide)
  have b__first_turn := T.b__first_turn
  have hu := hu64 hr
  refine ⟨_, (pss_cons (ps_set (i := 1) sc_ring_of.nd rfl (Or.inl rfl) (pe_call G__first_turn hr__first_turn rfl T.m__first_turn T.F__first_turn.kp b__first_turn .nil pass0 (pa_cons (pv 0) pa_nil)))
  (pss_cons (ps_if (pt_cmpR op_isN (pv 1) pe_non (nomark _)) (pss_one (ps_ret (pe_tup (pa_cons (pe_callB (kSumT (K := K) (by rfl) (by rfl)) (by rfl) T.z_sum (by decide +kernel) (pa_cons (pv 0) pa_nil)) pa_nil)))) pss_nil)
  (pss_cons (ps_set (i := 2) sc_ring_of.nd rfl (Or.inl rfl) (pe_lst pa_nil))
  (pss_cons (ps_for PassesOwn.never rfl (kiTup (K := K) (by rfl) (pe_op (kCatA (K := K) (by rfl)) (pe_slice (kSlA (K := K) (by rfl)) (pv 0) (po_some (pv 1)) po_none) (pe_slice (kSlA (K := K) (by rfl)) (pv 0) po_none (po_some (pv 1))))) (pg_name (i := 3) sc_ring_of.nd rfl (Or.inl rfl)) (pss_one (ps_if (PW.pt (pw_and (pt_cmpR op_gt (pe_callB (kLen (K := K) (by rfl)) (by rfl) T.z_len PySem.boot_len (pa_cons (pv 2) pa_nil)) pe_int (nomark _)) (pw_and1 (pt_cmpR op_eq (pe_cmpR op_gt (pe_ix (kIxL (K := K) (by rfl)) (pv 2) (pe_un un_neg pe_int) (fun _ _ => rfl)) pe_int (nomark _)) (pe_cmpR op_gt (pv 3) pe_int (nomark _)) (nomark _))))) (pss_one (ps_asg (pe_op op_add (pe_ix (kIxL (K := K) (by rfl)) (pv 2) (pe_un un_neg pe_int) (fun _ _ => rfl)) (pv 3)) (pg_sub (pv 2) (pe_un un_neg pe_int) set_list))) (pss_one (ps_expr (pe_bm PySem.F.plainAttrs_list PySem.F.slot_list_append PySem.F.type_list_append mt_append (pv 2) (pa_cons (pv 3) pa_nil)))))))
  (pss_one (ps_ret (pe_callTy (kTuple (K := K) (by rfl)) (by rfl) T.z_tuple (by decide +kernel) (pa_cons (pv 2) pa_nil)))))))), fun O ds d hR => ?_⟩
  obtain ⟨rs, hl, rfl, rfl⟩ := hR
  have rft : R_first_turn [.tuple (dI rs)] (ftD rs) := ⟨rs, rfl, rfl⟩
  apply rr_seq
  · apply rn_asg
    · exact ed_call (ea_cons (ed_var rfl) ea_nil) rft
    · decide
  unfold ringOf
  cases hf : firstTurn rs with
  | none =>
    have e : ftD rs = .none := by
      unfold ftD
      rw [hf]
    rw [e]
    apply rr_when (b := true)
    · apply et_is
      · exact et_test (ed_op (ed_var rfl) ed_non rd_isN)
      · rfl
    · intro _
      apply rr_ret
      exact ed_tup (ea_cons (ed_cb (ea_cons (ed_var rfl) ea_nil) rc_sumT) ea_nil) (Nat.le_of_ble_eq_true rfl)
    · intro z
      cases z
  | some b =>
    have e : ftD rs = .int (b : Int) := by
      unfold ftD
      rw [hf]
    have hb : b < rs.length := List.mem_range.mp (List.find?_range_eq_some.mp hf).2.1
    rw [e]
    apply rr_when (b := false)
    · apply et_is
      · exact et_test (ed_op (ed_var rfl) ed_non rd_isN)
      · rfl
    · intro z
      cases z
    intro _
    have tl := turned_len (sz := rs) (p := b) (by omega)
    refine rl_new (m := 2) (es := []) ea_nil rfl (by decide) (by decide) (by show 2 < 4; decide) ?_
    generalize hts : turned rs b = ts at tl
    let ρ0 : Rho := ((argR N_ring_of [.tuple (dI rs)]).set 1 (some (.int (b : Int)))).set 2 none
    let R : Nat → Rho × List PyData := fun i => (match i with
      | 0 => ρ0
      | i + 1 => ρ0.set 3 (some (.int (ts.getD i 0))), dI (joined (ts.take i)))
    have hfree : ∀ i, (R i).1[2]? = some none ∧ (R i).1.length = 4 := fun i => by
      cases i with
      | zero => exact ⟨rfl, rfl⟩
      | succ i => exact ⟨rfl, rfl⟩
    have fin : (R (dI ts).length).2 = dI (joined ts) := by
      show dI (joined (ts.take (dI ts).length)) = _
      rw [dI_len, List.take_of_length_le (Nat.le_refl _)]
    refine rl_seqR (ρ1 := (R (dI ts).length).1) (es := (R (dI ts).length).2) ?_ ?_
    · refine rl_for (vs := [3]) (es := dI ts) (fun O' => ?_) R rfl fun P i d hd => ?_
      · apply it_tup
        apply ed_is
        · refine ed_op (ed_slA (ed_var rfl) (eo_some (ed_var (d := .int (b : Int)) rfl)) eo_none) (ed_slA (ed_var rfl) eo_none (eo_some (ed_var (d := .int (b : Int)) rfl))) (rd_catT ?_)
          rw [cut_from (by omega), cut_to (by omega), dI_len, dI_len, List.length_drop, List.length_take]
          omega
        · rw [cut_from (by omega), cut_to (by omega), dI_app, ← hts]
          rfl
      · have hi : i < ts.length := by
          have q := (List.getElem?_eq_some_iff.mp hd).1
          rw [dI_len] at q
          exact q
        rw [dI_at hi] at hd
        cases hd
        refine ⟨ρ0.set 3 (some (.int (ts.getD i 0))), ?_, by decide, rfl, ?_⟩
        · cases i with
          | zero => exact tg_name (by decide) (by decide)
          | succ i =>
            apply tg_is
            · exact tg_name (by decide) (by decide)
            · rfl
        · have hjl : (joined (ts.take i)).length ≤ 10000 := Nat.le_trans (joined_take_len ts i) (by omega)
          show RunL O _ 2 _ (ρ0.set 3 (some (.int (ts.getD i 0)))) (dI (joined (ts.take i))) (ρ0.set 3 (some (.int (ts.getD i 0)))) (dI (joined (ts.take (i + 1))))
          rw [joined_snoc hi]
          generalize joined (ts.take i) = acc at hjl
          generalize ts.getD i 0 = r
          have last : acc ≠ [] → ∀ O', EvD O' N_ring_of.length (tOp (rIxL K) (tVar 2) (tUn (rU fun i => .int (-i)) (tC (.int 1)))) (vw (ρ0.set 3 (some (.int r))) 2 (dI acc)) (.int (lastD acc)) := fun hne O' => by
            refine ed_op (ed_var rfl) (ed_neg ed_int) (rd_ixL_last ?_ ?_)
            · intro z
              have q := congrArg List.length z
              rw [dI_len] at q
              exact hne (List.length_eq_zero_iff.mp q)
            · rw [dI_len]
              exact dI_at (by have := List.length_pos_iff.mpr hne; omega)
          have len : EvDT O N_ring_of.length (tTest (tOp (rI0 fun i j => .bl (decide (j < i))) (tCB (DL.rLen K) (tCons (tVar 2) tNil)) (tC (.int 0)))) (vw (ρ0.set 3 (some (.int r))) 2 (dI acc)) (decide ((0 : Int) < ((dI acc).length : Int))) :=
            et_test (ed_op (ed_cb (ea_cons (ed_var rfl) ea_nil) rc_lenL) ed_int rd_B)
          by_cases hne : acc = []
          · subst hne
            have js : joinStep [] r = [] ++ [r] := by
              unfold joinStep
              rw [if_neg (by intro z; exact absurd z.1 (by decide))]
            rw [js, ← dI_app]
            refine rl_if (b := false) (et_is (et_and (a := false) (b := false) len (fun z => by cases z)) rfl) (fun z => by cases z) fun _ => ?_
            exact rl_append (ed_var rfl) rfl (by decide)
          · have hpos := List.length_pos_iff.mpr hne
            have lt : decide ((0 : Int) < ((dI acc).length : Int)) = true := by
              rw [dI_len]
              exact decide_eq_true (by omega)
            rw [lt] at len
            have both : EvDT O N_ring_of.length _ (vw (ρ0.set 3 (some (.int r))) 2 (dI acc)) (true && decide (decide (0 < lastD acc) = decide (0 < r))) :=
              et_and len fun _ => et_test (ed_op (ed_op (last hne O) (ed_int (i := 0)) (rd_B (g := fun i j => decide (j < i)))) (ed_op (ed_var (i := 3) (d := .int r) rfl) (ed_int (i := 0)) (rd_B (g := fun i j => decide (j < i)))) rd_eqb)
            by_cases hs : decide (0 < lastD acc) = decide (0 < r)
            · have js : joinStep acc r = acc.set (acc.length - 1) (lastD acc + r) := by
                unfold joinStep
                rw [if_pos ⟨hpos, hs⟩]
              rw [js]
              refine rl_if (b := true) (et_is both (by rw [decide_eq_true hs]; rfl)) (fun _ => ?_) (fun z => by cases z)
              have q := rl_setLast (O := O) (n := N_ring_of.length) (m := 2) (ρ := ρ0.set 3 (some (.int r))) (ds := dI acc) (d := .int (lastD acc + r)) (ti := tUn (rU fun i => .int (-i)) (tC (.int 1))) (ed_op (last hne O) (ed_var (i := 3) rfl) rd_add) (ed_neg ed_int) rfl (fun z => hne (List.length_eq_zero_iff.mp (by rw [← dI_len, z]; rfl)))
              have e : (dI acc).set ((dI acc).length - 1) (.int (lastD acc + r)) = dI (acc.set (acc.length - 1) (lastD acc + r)) := by
                rw [dI_len]
                unfold dI
                rw [List.map_set]
              rw [e] at q
              exact q
            · have js : joinStep acc r = acc ++ [r] := by
                unfold joinStep
                rw [if_neg (fun z => hs z.2)]
              rw [js, ← dI_app]
              refine rl_if (b := false) (et_is both (by rw [decide_eq_false hs]; rfl)) (fun z => by cases z) fun _ => ?_
              exact rl_append (ed_var rfl) rfl (by rw [dI_len]; omega)
    · rw [fin]
      apply rl_read
      apply rr_ret
      refine ed_cb (ea_cons (ed_var ?_) ea_nil) (rc_tuple (.lst _))
      show ((R (dI ts).length).1.set 2 _)[2]? = _
      rw [List.getElem?_set_self (by rw [(hfree _).2]; decide)]
      show _ = some (some (PyData.list (dI (joined (turned rs b)))))
      rw [hts]
/-! ### swings -/
def R_swings_of (ds : List PyData) (d : PyData) : Prop := ∃ rs : List Int, rs.length ≤ 10000 ∧ ds = [.tuple (dI rs)] ∧ d = .tuple (dI (swOf rs))
theorem ok_swings_of (T : Txt K mg) : FnOk P w K mg base CX0 3 T.f_swings_of T.fd_swings_of ["runs"] (spD R_swings_of) := by
  refine pure_ok T.F_swings_of sc_swings_of (fun ds d h => ?_) (by decide) (fun cdv A outer s H E hr => ?_)
  · obtain ⟨_, _, rfl, rfl⟩ := h
    rfl
  have G__sizes_without := ok__sizes_without (P := P) (w := w) (base := base) T
  have hr__sizes_without : Room 1 _ := hr.mono (by decide)
  have b__sizes_without := T.b__sizes_without
  have G_ring_of := ok_ring_of (P := P) (w := w) (base := base) T
  have hr_ring_of : Room 2 _ := hr.mono (by decide)
  have b_ring_of := T.b_ring_of
  have hu := hu64 hr
  refine ⟨_, (pss_cons (ps_setLc (i := 1) (own := [("run", 4)]) rfl sc_swings_of.nd rfl rfl (sw_true rfl rfl rfl rfl) (kiTup (K := K) (by rfl) (pe_call G_ring_of hr_ring_of rfl T.m_ring_of T.F_ring_of.kp b_ring_of .nil pass0 (pa_cons (pv 0) pa_nil))) (blkOk_by (N := N_swings_of) (sc := defScope s_swings_of) (by decide +kernel)) (fun _ _ _ _ _ => (pg_name (i := 4) sc_swings_of.nd rfl (by first | exact Or.inl rfl | exact Or.inr rfl))) (fun _ _ _ _ _ => pts_nil) (fun _ _ _ _ _ => (pe_callB call_abs (by rfl) T.z_abs (by decide +kernel) (pa_cons (pv 4) pa_nil))))
  (pss_cons (ps_set (i := 2) sc_swings_of.nd rfl (Or.inl rfl) (pe_lst pa_nil))
  (pss_cons (ps_while PassesOwn.never (pt_cmpR op_gt (pe_callB (kLen (K := K) (by rfl)) (by rfl) T.z_len PySem.boot_len (pa_cons (pv 1) pa_nil)) pe_int (nomark _)) (pss_cons (ps_set (i := 3) sc_swings_of.nd rfl (Or.inl rfl) (pe_bm PySem.F.plainAttrs_list PySem.F.slot_list_index PySem.F.type_list_index (kIndex (K := K) (by rfl)) (pv 1) (pa_cons (pe_callB (kMin (K := K) (by rfl) (by rfl)) (by rfl) T.z_min (by decide +kernel) (pa_cons (pv 1) pa_nil)) pa_nil)))
  (pss_cons (ps_expr (pe_bm PySem.F.plainAttrs_list PySem.F.slot_list_append PySem.F.type_list_append mt_append (pv 2) (pa_cons (pe_ix (kIxL (K := K) (by rfl)) (pv 1) (pv 3) (fun _ _ => rfl)) pa_nil)))
  (pss_one (ps_set (i := 1) sc_swings_of.nd rfl (Or.inl rfl) (pe_call G__sizes_without hr__sizes_without rfl T.m__sizes_without T.F__sizes_without.kp b__sizes_without .nil pass0 (pa_cons (pv 1) (pa_cons (pv 3) pa_nil))))))))
  (pss_cons (ps_if (pt_cmpR op_eq (pe_callB (kLen (K := K) (by rfl)) (by rfl) T.z_len PySem.boot_len (pa_cons (pv 1) pa_nil)) pe_int (nomark _)) (pss_one (ps_expr (pe_bm PySem.F.plainAttrs_list PySem.F.slot_list_append PySem.F.type_list_append mt_append (pv 2) (pa_cons (pe_callB (kMin (K := K) (by rfl) (by rfl)) (by rfl) T.z_min (by decide +kernel) (pa_cons (pv 1) pa_nil)) pa_nil)))) pss_nil)
  (pss_one (ps_ret (pe_callTy (kTuple (K := K) (by rfl)) (by rfl) T.z_tuple (by decide +kernel) (pa_cons (pe_callBK (kSortedRev (b := true) (K := K) (by rfl)) (by rfl) T.z_sorted (by decide +kernel) (pa_cons (pv 2) pa_nil) (pk_cons pe_bl pk_nil)) pa_nil)))))))), fun O ds d hR => ?_⟩
  obtain ⟨rs, hl, rfl, rfl⟩ := hR
  have rr : Rring_of [.tuple (dI rs)] (.tuple (dI (ringOf rs))) := ⟨rs, hl, rfl, rfl⟩
  have lr := ring_len hl
  apply rr_seq
  · apply rn_asg (d := .list (dI ((ringOf rs).map absI)))
    · refine ed_lcM (l := ringOf rs) (e1 := PyData.int) (e2 := PyData.int) (f := absI) (it_tup (ed_call (ea_cons (ed_var rfl) ea_nil) rr)) (by omega) fun D a ha => ⟨_, tg_name (by decide) (by decide), ?_⟩
      exact ed_cb (ea_cons (ed_var rfl) ea_nil) rc_abs
    · decide
  generalize hsz : (ringOf rs).map absI = sz
  have ls : sz.length ≤ 10000 := by
    rw [← hsz, List.length_map]
    exact lr
  have goal : swOf rs = downS (foundS sz) := by
    unfold swOf
    rw [hsz]
  rw [goal]
  refine rl_new (m := 2) (es := []) ea_nil rfl (by decide) (by decide) (by show 2 < 5; decide) ?_
  let ρ0 : Rho := ((argR N_swings_of [.tuple (dI rs)]).set 1 (some (.list (dI sz)))).set 2 none
  let R : Nat → Rho × List PyData := fun i => (match i with
    | 0 => ρ0
    | i + 1 => (ρ0.set 3 (some (.int (placeOf (itS sz i).1 : Nat)))).set 1 (some (.list (dI (itS sz (i + 1)).1))), dI (itS sz i).2)
  have one : ∀ i, (R i).1[1]? = some (some (.list (dI (itS sz i).1))) ∧ (R i).1[2]? = some none ∧ (R i).1.length = 5 := fun i => by
    cases i with
    | zero => exact ⟨rfl, rfl, rfl⟩
    | succ i => exact ⟨rfl, rfl, rfl⟩
  have vw1 : ∀ i (es : List PyData), (vw (R i).1 2 es)[1]? = some (some (.list (dI (itS sz i).1))) := fun i es => by
    show ((R i).1.set 2 _)[1]? = _
    rw [List.getElem?_set_ne (by decide)]
    exact (one i).1
  refine rl_seqR (ρ1 := (R (turnsS sz)).1) (es := (R (turnsS sz)).2) ?_ ?_
  · refine rl_while R rfl (fun i hi => ?_) fun i hi => ?_
    · apply et_is
      · exact et_test (ed_op (ed_cb (ea_cons (ed_var (vw1 i _)) ea_nil) rc_lenL) ed_int rd_B)
      · rw [dI_len, (itS_len sz i hi).1]
        unfold turnsS at *
        by_cases c : i < (sz.length - 1) / 2
        · rw [decide_eq_true c]
          exact decide_eq_true (by omega)
        · rw [decide_eq_false c]
          exact decide_eq_false (by omega)
    · obtain ⟨l1, l2⟩ := itS_len sz i (by omega)
      have l3 : 3 ≤ (itS sz i).1.length := by
        unfold turnsS at hi
        omega
      have ne : (itS sz i).1 ≠ [] := fun z => by
        rw [z] at l3
        exact absurd l3 (by decide)
      obtain ⟨p1, p2, p3⟩ := place_ok ne
      obtain ⟨m1, m2⟩ := min_ok ne
      have len : (itS sz i).1.length ≤ 10000 := by omega
      have rw' : R_sizes_without [.list (dI (itS sz i).1), .int (placeOf (itS sz i).1 : Nat)] (.list (dI (without (itS sz i).1 (placeOf (itS sz i).1)))) := ⟨_, _, l3, len, p1, rfl, rfl⟩
      have e1 : (((R i).1.set 3 (some (.int (placeOf (itS sz i).1 : Nat)))).set 1 (some (.list (dI (without (itS sz i).1 (placeOf (itS sz i).1)))))) = (R (i + 1)).1 := by
        cases i <;> rfl
      have e2 : (R i).2 ++ [.int ((itS sz i).1.getD (placeOf (itS sz i).1) 0)] = (R (i + 1)).2 := by
        show dI _ ++ dI [_] = dI _
        rw [dI_app]
        rfl
      have at1 : ((R i).1.set 3 (some (.int (placeOf (itS sz i).1 : Nat))))[1]? = some (some (.list (dI (itS sz i).1))) := by
        rw [List.getElem?_set_ne (by decide)]
        exact (one i).1
      have at3 : ((R i).1.set 3 (some (PyData.int (placeOf (itS sz i).1 : Nat))))[3]? = some (some (.int (placeOf (itS sz i).1 : Nat))) := by
        rw [List.getElem?_set_self (by rw [(one i).2.2]; decide)]
      have at1v : (vw ((R i).1.set 3 (some (.int (placeOf (itS sz i).1 : Nat)))) 2 (R i).2)[1]? = some (some (.list (dI (itS sz i).1))) := by
        show (List.set _ 2 _)[1]? = _
        rw [List.getElem?_set_ne (by decide)]
        exact at1
      have at3v : (vw ((R i).1.set 3 (some (.int (placeOf (itS sz i).1 : Nat)))) 2 (R i).2)[3]? = some (some (.int (placeOf (itS sz i).1 : Nat))) := by
        show (List.set _ 2 _)[3]? = _
        rw [List.getElem?_set_ne (by decide)]
        exact at3
      refine rl_seq (rl_asg (d := .int (placeOf (itS sz i).1 : Nat)) (ed_index (ed_var (vw1 i _)) (ed_cb (ea_cons (ed_var (vw1 i _)) ea_nil) (rc_min m1 m2)) p2 p3) rfl (by decide) (by decide)) ?_
      refine rl_seq (rl_append (d := .int ((itS sz i).1.getD (placeOf (itS sz i).1) 0)) (ed_op (ed_var at1v) (ed_var at3v) (rd_ixL (dI_at p1))) rfl ?_) ?_
      · show (dI (itS sz i).2).length ≤ _
        rw [dI_len, l2]
        unfold turnsS at hi
        omega
      rw [← e1, ← e2]
      exact rl_asgO (fun O' => ed_call (ea_cons (ed_var at1) (ea_cons (ed_var at3) ea_nil)) rw') (by decide) (by decide)
  · obtain ⟨l1, l2⟩ := itS_len sz (turnsS sz) (Nat.le_refl _)
    have end_ : ∀ (es : List Int), RunLR O N_swings_of.length 2 (tRet (tCB (rTupleOf K) (tCons (tCKw (rSortedKw K true [.bl true]) (tCons (tVar 2) tNil) (tCons (tC (.bl true)) tNil)) tNil))) (R (turnsS sz)).1 (dI es) (.tuple (dI (downS es))) := fun es => by
      apply rl_read
      apply rr_ret
      have at2 : (vw (R (turnsS sz)).1 2 (dI es))[2]? = some (some (.list (dI es))) := by
        show (List.set _ 2 _)[2]? = _
        rw [List.getElem?_set_self (by rw [(one _).2.2]; decide)]
      exact ed_cb (ea_cons (ed_sortedRev (ed_var at2) (down_ok es).1 (down_ok es).2) ea_nil) (rc_tuple (.lst _))
    have test : EvDT O N_swings_of.length (tTest (tOp rEq (tCB (DL.rLen K) (tCons (tVar 1) tNil)) (tC (.int 2)))) (vw (R (turnsS sz)).1 2 (R (turnsS sz)).2) (decide ((itS sz (turnsS sz)).1.length = 2)) := by
      apply et_is
      · exact et_test (ed_op (ed_cb (ea_cons (ed_var (vw1 _ _)) ea_nil) rc_lenL) ed_int rd_eqi)
      · rw [dI_len]
        by_cases c : (itS sz (turnsS sz)).1.length = 2
        · rw [decide_eq_true c]
          exact decide_eq_true (by omega)
        · rw [decide_eq_false c]
          exact decide_eq_false (by omega)
    unfold foundS
    by_cases c : (itS sz (turnsS sz)).1.length = 2
    · rw [if_pos c]
      rw [decide_eq_true c] at test
      have ne : (itS sz (turnsS sz)).1 ≠ [] := fun z => by
        rw [z] at c
        exact absurd c (by decide)
      obtain ⟨m1, m2⟩ := min_ok ne
      refine rl_seqR (rl_if test (fun _ => rl_append (d := .int (minD (itS sz (turnsS sz)).1)) (ed_cb (ea_cons (ed_var (vw1 _ _)) ea_nil) (rc_min m1 m2)) rfl ?_) (fun z => by cases z)) ?_
      · show (dI (itS sz (turnsS sz)).2).length ≤ _
        rw [dI_len, l2]
        unfold turnsS
        omega
      · have e : (R (turnsS sz)).2 ++ [.int (minD (itS sz (turnsS sz)).1)] = dI ((itS sz (turnsS sz)).2 ++ [minD (itS sz (turnsS sz)).1]) := dI_app _ [_]
        rw [e]
        exact end_ _
    · rw [if_neg c]
      rw [decide_eq_false c] at test
      refine rl_seqR (rl_if test (fun z => by cases z) (fun _ => rl_next)) ?_
      exact end_ _
end
end K08
namespace K08
open PySem L2 PyProof.Rows DL TL RZ SW
local macro_rules | `(tactic| walk_at "len") => `(tactic| first
  | exact Nat.le_of_ble_eq_true rfl
  | assumption
  | (simp only [List.length_map, List.length_cons, List.length_nil, dI, dS, dB, List.length_reverse, List.length_append, List.length_range, rngD]; omega)
  | omega)
local macro_rules | `(tactic| walk_at "rd") => `(tactic| first
  | with_reducible exact rd_add
  | with_reducible exact rd_sub
  | with_reducible exact rd_eqs
  | with_reducible exact rd_eqi
  | with_reducible exact rd_eqb
  | with_reducible exact rd_eqN
  | with_reducible exact rd_nes
  | with_reducible exact rd_nei
  | with_reducible exact rd_neb
  | with_reducible exact rd_B
  | with_reducible exact rd_isN
  | with_reducible exact rd_inS
  | ((with_reducible apply rd_ixTz); rfl; rfl)
  | ((with_reducible apply rd_ixLz); rfl; rfl)
  | ((with_reducible apply rd_cats); walk_at "len")
  | ((with_reducible apply rd_catl); walk_at "len")
  | ((with_reducible apply rd_repl) <;> (first | decide | omega))
  | ((with_reducible apply rd_reps); exact ⟨by decide +kernel, by intro _ _; decide +kernel, by intro _ _; decide +kernel⟩)
  | ((with_reducible apply rd_neD) <;> (first | rfl | decide +kernel))
  | ((with_reducible apply rd_eqD) <;> (first | rfl | decide +kernel))
  | (apply rd_I (C := CMul) (g := fun i j => i * j); exact (by first | exact .inl ⟨by decide, by decide⟩ | exact .inr ⟨by decide, by decide⟩))
  | (apply rd_I (C := CPow) (g := fun i j => i ^ j.toNat); exact ⟨by decide, by decide, by decide⟩))
local macro_rules | `(tactic| walk_at "rc") => `(tactic| first
  | with_reducible exact rc_lenL
  | with_reducible exact rc_lenT
  | with_reducible exact rc_int
  | with_reducible exact rc_intb
  | with_reducible exact rc_abs
  | with_reducible exact rc_all
  | with_reducible exact rc_max2
  | with_reducible exact rc_min2
  | with_reducible exact rc_sumT
  | with_reducible exact rc_sumL
  | with_reducible exact rc_list (.lst _)
  | with_reducible exact rc_list (.tup _)
  | with_reducible exact rc_tuple (.lst _)
  | with_reducible exact rc_tuple (.tup _)
  | ((with_reducible apply rc_str); first | assumption | decide +kernel)
  | ((with_reducible apply rc_lenS); assumption))
local macro_rules | `(tactic| walk_at "ea") => `(tactic| first
  | with_reducible exact ea_nil
  | ((with_reducible apply ea_cons); (walk_at "ev"); (walk_at "ea")))
local macro_rules | `(tactic| walk_at "call") => `(tactic| fail "call")
local macro_rules | `(tactic| walk_at "it") => `(tactic| first
  | ((with_reducible apply it_list); walk_at "ev")
  | ((with_reducible apply it_tup); walk_at "ev")
  | ((with_reducible apply it_rng); (walk_at "ea"); walk_at "len")
  | ((with_reducible apply it_enum); walk_at "ev")
  | ((with_reducible apply it_zip); (walk_at "ev"); (walk_at "ev"))
  | ((with_reducible apply it_zipA); rotate_left; (walk_at "ev"); (walk_at "ev"); first | exact .lst _ _ | exact .tup _ _)
  | ((with_reducible apply it_seq); rotate_left; (walk_at "ev"); first | exact .lst _ | exact .tup _ | assumption))
local macro_rules | `(tactic| walk_at "tgs") => `(tactic| first
  | with_reducible exact .nil
  | (apply TgsD.cons; (walk_at "tg"); (walk_at "tgs")))
local macro_rules | `(tactic| walk_at "tg") => `(tactic| first
  | ((with_reducible apply tg_name) <;> decide)
  | (apply tg_tup; (walk_at "tgs"); rfl)
  | (apply tg_seq; rotate_left; (walk_at "tgs"); rfl; first | exact .lst _ | exact .tup _ | assumption))
local macro_rules | `(tactic| walk_at "all2") => `(tactic| first
  | exact .nil
  | (apply All2.cons; (apply Exists.intro; apply And.intro; (walk_at "tg"); (walk_at "ev")); (walk_at "all2")))
local macro_rules | `(tactic| walk_at "ej") => `(tactic| first
  | with_reducible exact .nil
  | (apply EvJ.cons; (walk_at "ev"); (walk_at "ej")))
local macro_rules | `(tactic| walk_at "eo") => `(tactic| first
  | with_reducible exact eo_none
  | ((with_reducible apply eo_some); walk_at "ev"))
local macro_rules | `(tactic| walk_at "ev") => `(tactic| first
  | ((with_reducible apply ed_var); exact rfl)
  | with_reducible exact ed_int
  | with_reducible exact ed_str
  | with_reducible exact ed_bl
  | with_reducible exact ed_non
  | ((with_reducible apply ed_tup); (walk_at "ea"); (walk_at "len"))
  | ((with_reducible apply ed_lst); (walk_at "ea"); (walk_at "len"))
  | ((with_reducible apply ed_call); (walk_at "ea"); (walk_at "call"))
  | ((with_reducible apply ed_callN); (walk_at "ea"); rfl; (first | exact fun H vs q => q | exact sw_dq | exact sw3_dq); (walk_at "call"))
  | ((with_reducible apply ed_op); (walk_at "ev"); (walk_at "ev"); (walk_at "rd"))
  | ((with_reducible apply ed_isi); (walk_at "ev"); decide; try (first | rfl | decide))
  | ((with_reducible apply ed_isiT); (walk_at "ev"); decide; decide; try (first | rfl | decide))
  | ((with_reducible apply ed_neg); walk_at "ev")
  | ((with_reducible apply ed_andV); (walk_at "ev"); intro _; walk_at "ev")
  | ((with_reducible apply ed_orV); (walk_at "ev"); intro _; walk_at "ev")
  | ((with_reducible apply ed_notV); walk_at "ev")
  | ((with_reducible apply ed_split); (walk_at "ev"); (walk_at "ev"); (decide +kernel); walk_at "len")
  | ((with_reducible apply ed_partition); (walk_at "ev"); (walk_at "ev"); (decide +kernel); walk_at "len")
  | ((with_reducible apply ed_isdigit); walk_at "ev")
  | ((with_reducible apply ed_isascii); walk_at "ev")
  | ((with_reducible apply ed_startswith); (walk_at "ev"); walk_at "ev")
  | ((with_reducible apply ed_revL); walk_at "ev")
  | ((with_reducible apply ed_slA); (walk_at "ev"); (walk_at "eo"); walk_at "eo")
  | ((with_reducible apply ed_slL); (walk_at "ev"); (walk_at "eo"); walk_at "eo")
  | ((with_reducible apply ed_slS); (walk_at "ev"); (walk_at "eo"); (walk_at "eo"); walk_at "len")
  | ((with_reducible apply ed_joined); (walk_at "ej"); walk_at "len")
  | ((with_reducible apply ed_fmtI); (walk_at "ev"); first | assumption | decide +kernel)
  | ((with_reducible apply ed_fmtS); (walk_at "ev"); walk_at "len")
  | ((with_reducible apply ed_cb); (walk_at "ea"); walk_at "rc")
  | (apply ed_lc; (walk_at "it"); (walk_at "len"); intro D'; walk_at "all2"))
local macro_rules | `(tactic| walk_at "et") => `(tactic| first
  | ((with_reducible apply et_test); walk_at "ev")
  | ((with_reducible apply et_B); walk_at "ev")
  | ((with_reducible apply DL.et_not); walk_at "et")
  | ((with_reducible apply et_and); (walk_at "et"); intro _; walk_at "et")
  | ((with_reducible apply et_or); (walk_at "et"); intro _; walk_at "et"))
local macro_rules | `(tactic| walk_at "etb") => `(tactic| (apply et_is; (walk_at "et"); first | rfl | decide | (simp [tyIs, tyN]; done)))

/-! ### the class -/
abbrev N_init : List Str := ["self", "runs", "kept", "place", "run"]
theorem sc_init : FnScope N_init ["self", "runs"] (defScope s_init) := ⟨rfl, rfl, rfl, by decide +kernel, rfl, by decide +kernel, by decide +kernel⟩
abbrev N_p_runs : List Str := ["self"]
abbrev s_p_runs : Stmt := sp_runs
theorem sc_p_runs : FnScope N_p_runs ["self"] (defScope s_p_runs) := ⟨rfl, rfl, rfl, by decide +kernel, rfl, by decide +kernel, by decide +kernel⟩
section
variable {P : Program} {w : World} {K : PySem.W.Frag} {mg : Str → Option Value} {base : Heap}
/-- a Year's fields -/
def yrF (rs : List Int) : List (PyData × PyData) := [(.str "_runs", .tuple (dI rs)), (.str "_swings", .tuple (dI (swOf rs)))]
def R_year (ds : List PyData) (ks : List (PyData × PyData)) : Prop := ∃ (rs : List Int) (x : PyData), rs.length ≤ 10000 ∧ (∀ r, r ∈ rs → r ≠ 0) ∧ SeqD x (dI rs) ∧ ds = [x] ∧ ks = yrF rs
theorem ok_Year (T : Txt K mg) : FnOk P w K mg base CX0 4 T.fI_Y T.fdI_Y ["self", "runs"] (spMk T.C_Y R_year) := by
  refine T.FI_Y.ok sc_init (fun vs H Q E h => ?_) (fun cdv A outer s H vs Q E hr h => ?_)
  · obtain ⟨O, x, dx, us, ds, ks, rfl, _, _, _, hd, ⟨_, _, _, _, _, rfl, _⟩, _⟩ := h
    show us.length + 1 = 2
    rw [hd.length]
    rfl
  have G_swings_of := ok_swings_of (P := P) (w := w) (base := base) T
  have hr_swings_of : Room 3 _ := hr.mono (by decide)
  have b_swings_of := T.b_swings_of
  refine ⟨_, (pss_cons (ps_set (i := 2) sc_init.nd rfl (Or.inl rfl) (pe_callTy (kTuple (K := K) (by rfl)) (by rfl) T.z_tuple (by decide +kernel) (pa_cons (pv 1) pa_nil)))
    (pss_cons (ps_for PassesOwn.never rfl (kiEnumT (K := K) (by rfl) (by rfl) T.z_enumerate (pa_cons (pv 2) pa_nil)) (kgTup (K := K) (n := 2) (by rfl) (by rfl) (pgs_cons (pg_name (i := 3) sc_init.nd rfl (Or.inl rfl)) (pgs_cons (pg_name (i := 4) sc_init.nd rfl (Or.inl rfl)) pgs_nil))) (pss_one (ps_if (pt_cmpR op_eq (pv 4) pe_int (nomark _)) (pss_one ps_never) pss_nil)))
    (pss_cons (ps_fld (pv 0) (pv 2) rfl)
    (pss_one (ps_fld (pv 0) (pe_call G_swings_of hr_swings_of rfl T.m_swings_of T.F_swings_of.kp b_swings_of .nil pass0 (pa_cons (pv 2) pa_nil)) rfl))))), ?_⟩
  obtain ⟨O, x, dx, us, ds, ks, rfl, ho, hxO, hx, hd, ⟨rs, dd, hl, hz, hs, rfl, rfl⟩, k⟩ := h
  cases hd with
  | @cons u us dd' ds' hu hd2 =>
  cases hd2
  let ρ0 : Rho := [none, some dd, none, none, none]
  let ρ1 : Rho := [none, some dd, some (.tuple (dI rs)), none, none]
  have own : ∀ a, a ∈ x :: O → H a ≠ none := fun a ha => by
    rcases List.mem_cons.mp ha with rfl | ha
    · rw [hx]
      exact fun z => by cases z
    · exact ho a ha
  have sd0 : SD (x :: O) H (L2.start N_init (V.ref x :: [u])) ρ0 := ⟨own, fun i d e => by
    match i, e with
    | 0, e => cases e
    | 1, e =>
      cases e
      exact ⟨u, rfl, hu⟩
    | 2, e => cases e
    | 3, e => cases e
    | 4, e => cases e
    | i + 5, e => cases e⟩
  refine (rv_asg (O := x :: O) (n := 5) (i := 2) (ρ := ρ0) (d := .tuple (dI rs)) (ed_cb (ea_cons (ed_var rfl) ea_nil) (rc_tuple hs)) (by decide)) _ _ H rfl sd0 fun σ1 H1 l1 x1 c1 s1 => ?_
  have lenE : (enumD (dI rs)).length = rs.length := by
    unfold enumD dI
    rw [List.length_zipWith, List.length_range, List.length_map, Nat.min_self]
  let R : Nat → Rho := fun i => match i with
    | 0 => ρ1
    | i + 1 => (ρ1.set 3 (some (.int (i : Int)))).set 4 (some (.int (rs.getD i 0)))
  have R2 : ∀ i, (R i)[2]? = some (some (.tuple (dI rs))) := fun i => by
    cases i <;> rfl
  refine (rv_for (O := x :: O) (n := 5) (vs := [3, 4]) (ρ := ρ1) (it_enumT (ed_var rfl)) R rfl fun i d hd => ?_) _ σ1 H1 l1 s1 fun σ2 H2 l2 x2 c2 s2 => ?_
  · obtain ⟨e, he, rfl⟩ := enum_at hd
    have hi : i < rs.length := by
      have q := (List.getElem?_eq_some_iff.mp hd).1
      omega
    rw [dI_at hi] at he
    cases he
    have ne : rs.getD i 0 ≠ 0 := by
      refine hz _ ?_
      rw [List.getD_eq_getElem?_getD, List.getElem?_eq_getElem hi]
      exact List.getElem_mem hi
    refine ⟨(ρ1.set 3 (some (.int (i : Int)))).set 4 (some (.int (rs.getD i 0))), ?_, ?_⟩
    · cases i with
      | zero =>
        apply tg_is
        · walk_at "tg"
        · rfl
      | succ i =>
        apply tg_is
        · walk_at "tg"
        · rfl
    · refine rv_if (b := false) (et_is (et_test (ed_op (ed_var (i := 4) rfl) ed_int rd_eqi)) (decide_eq_false ne)) (fun z => by cases z) fun _ => ?_
      exact rv_more rv_next fun i z => by cases z
  have z0 : σ2[0]? = some (some (.ref x)) := by
    rw [c2 0 (by decide), c1 0 (by decide)]
    rfl
  have ex2 : Evl.Ex H H2 := x1.trans x2
  refine init_fld (O := O) (ed_var (R2 _)) l2 s2 z0 (ex2 _ _ hx) T.cls_Y T.noR (by decide) fun v3 H3 e3 s3 h3 d3 => ?_
  have rsw : R_swings_of [.tuple (dI rs)] (.tuple (dI (swOf rs))) := ⟨rs, hl, rfl, rfl⟩
  refine init_fld (O := O) (ed_call (ea_cons (ed_var (R2 _)) ea_nil) rsw) l2 s3 z0 h3 T.cls_Y T.noS (by show 1 < 1000; decide) fun v4 H4 e4 s4 h4 d4 => ?_
  refine k H4 dx _ (((Ex.o [x] ex2).trans e3).trans e4) h4 ?_
  have d3' := d3.mono (e4.less (P := x :: O) fun a ha => by rw [List.mem_singleton.mp ha]; exact List.mem_cons_self)
  exact .cons d3' (.cons d4 .nil)
def R_p_runs (C : Addr) (ds : List PyData) (d : PyData) : Prop := ∃ rs : List Int, ds = [obD C (yrF rs)] ∧ d = .tuple (dI rs)
theorem ok_prop_runs (T : Txt K mg) : FnOk P w K mg base CX0 1 T.g_runs T.fdg_runs ["self"] (spD (R_p_runs T.C_Y)) := by
  refine pure_ok T.FG_runs sc_p_runs (fun ds d h => ?_) (by decide) (fun cdv A outer s H E hr => ?_)
  · obtain ⟨_, rfl, rfl⟩ := h
    rfl
  refine ⟨_, pss_one (ps_ret (pe_fld (pv 0) rfl)), fun O ds d hR => ?_⟩
  obtain ⟨rs, rfl, rfl⟩ := hR
  apply rr_ret
  exact ed_fld (ed_var rfl) T.cls_Y T.noR rfl
/-- a new Year -/
theorem ed_year {O : List Addr} {n : Nat} {ρ : Rho} {te : TE} {C : Addr} {E : XK} {x : PyData} {rs : List Int} (h : EvD O n te ρ x) (hs : SeqD x (dI rs)) (hl : rs.length ≤ 10000) (hz : ∀ r, r ∈ rs → r ≠ 0) : EvD O n (tMake C (spMk C R_year) [] E (tCons te tNil)) ρ (obD C (yrF rs)) :=
  ed_make (ea_cons h ea_nil) ⟨rs, x, hl, hz, hs, rfl, rfl⟩
/-- its runs -/
theorem ed_runs {O : List Addr} {n : Nat} {ρ : Rho} {te : TE} {C : Addr} {E : XK} {rs : List Int} (h : EvD O n te ρ (obD C (yrF rs))) : EvD O n (tProp C (spD (R_p_runs C)) [] E te) ρ (.tuple (dI rs)) := ed_prop h ⟨rs, rfl, rfl⟩
end
end K08
/-! DRV: for x in reversed(range(n)). -/
namespace DL
open PySem L2 Evl PyProof.Rows TL RZ
def rngR (m : Nat) : List PyData := (List.range m).map fun i : Nat => PyData.int ((m : Int) - 1 - (i : Int))
theorem it_revR {O : List Addr} {n : Nat} {ρ : Rho} {te : TE} {m : Nat} (h : EvD O n te ρ (.int (m : Int))) (hm : m ≤ 1000000) : IterD O n (iRevR (tRg1 te)) ρ (rngR m) := fun σ H hn s R q => h σ H hn s _ fun v H1 e1 d1 => by
  cases d1
  refine ⟨(m : Int), rfl, by decide, by decide, by omega, by omega, ?_⟩
  have e : ((m : Int) - 0).toNat = m := by omega
  rw [e]
  have l : (rngR m).length = m := by
    unfold rngR
    rw [List.length_map, List.length_range]
  refine q (Itc (0 + (m : Int) - 1) (-1) m) H1 (fun _ _ => True) (YFn fun i => .int (0 + (m : Int) - 1 + (i : Nat) * (-1))) e1 (fun P => ?_) True.intro (fun _ _ _ _ _ _ => True.intro) ?_
  · rw [l]
    exact walk_rangeC.mono (fun _ _ => True.intro) fun i H2 x H3 hi _ y => ⟨y.1, y.2⟩
  · rintro P i H2 x H3 hi _ _ ⟨rfl, rfl⟩
    rw [l] at hi
    refine ⟨Ex.refl _, .int ((m : Int) - 1 - (i : Int)), ?_, ?_⟩
    · unfold rngR
      rw [List.getElem?_map, List.getElem?_range hi]
      rfl
    · show Dq _ (V.int (0 + (m : Int) - 1 + ((i : Nat) : Int) * (-1))) _
      rw [show (0 + (m : Int) - 1 + ((i : Nat) : Int) * (-1)) = (m : Int) - 1 - (i : Int) by omega]
      exact .int _
end DL
/-! DCA: defs that change the list they are handed first, and answer with a new one. -/
namespace DL
open PySem L2 Evl PyProof.Rows TL RZ
def SDXp (L : Addr) (O : List Addr) (H0 : Hp) (c : Own) (H : Hp) (σ : L2.St) (ρ : Rho) : Prop := ∃ P al, al 0 = L ∧ SDM O H0 c H σ ρ P al
def RunMp (L : Addr) (O : List Addr) (n : Nat) (t : TS) (ρ : Rho) (c : Own) (ρ' : Rho) (c' : Own) : Prop := ∀ (H0 : Hp) (D : Ends) (σ : L2.St) (H : Hp), σ.length = n → SDXp L O H0 c H σ ρ →
  (∀ σ' H', σ'.length = n → SDXp L O H0 c' H' σ' ρ' → D.nx σ' H') → t D σ H
section
variable {L : Addr} {O : List Addr} {n m i j : Nat} {ρ ρ1 ρ' : Rho} {c c1 c' : Own} {ds es : List PyData} {d x : PyData} {te ti ta tb : TE} {tl : TA} {tt : TT} {t u tb : TS} {K : PySem.W.Frag} {g : TG} {wi : TI} {vs : List Nat}
theorem rp_seq (h1 : RunMp L O n t ρ c ρ1 c1) (h2 : RunMp L O n u ρ1 c1 ρ' c') : RunMp L O n (tSeq t u) ρ c ρ' c' := fun H0 D σ H hn s k =>
  h1 H0 _ σ H hn s fun σ1 H1 hn1 s1 => h2 H0 D σ1 H1 hn1 s1 k
theorem rp_next : RunMp L O n tNext ρ c ρ c := fun H0 D σ H hn s k => k σ H hn s
theorem rp_is (h : RunMp L O n t ρ c ρ1 c1) (e1 : ρ1 = ρ') (e2 : c1 = c') : RunMp L O n t ρ c ρ' c' := e1 ▸ e2 ▸ h
theorem rp_asg (h : ∀ P, EvD P n te ρ d) (hi : i < n) (hc : c i = none) : RunMp L O n (tAsg te (gName i)) ρ c (ρ.set i (some d)) c := fun H0 D σ H hn ⟨P, al, pl, s⟩ k =>
  h P σ H hn s.sd _ fun v H1 e1 d1 => k _ H1 (by rw [List.length_set]; exact hn) ⟨P, al, pl, (s.step e1).put d1 (by rw [hn]; exact hi) hc⟩
theorem rp_asgV (h : EvD O n te (vwC c 0 ρ) d) (f : isFlat d = true) (hi : i < n) (hc : c i = none) : RunMp L O n (tAsg te (gName i)) ρ c (ρ.set i (some d)) c := fun H0 D σ H hn ⟨P, al, pl, s⟩ k =>
  h σ H hn s.view _ fun v H1 e1 d1 => k _ H1 (by rw [List.length_set]; exact hn) ⟨P, al, pl, (s.step e1).put (flat_dq d1 f) (by rw [hn]; exact hi) hc⟩
theorem rp_own (h : ∀ P, EvF P n te ρ ds) (hm0 : m ≠ 0) (hm : m < n) (hr : m < ρ.length) (hc : c m = none) : RunMp L O n (tAsg te (gName m)) ρ c (ρ.set m none) (c.put m ds) := fun H0 D σ H hn ⟨P, al, pl, s⟩ k =>
  h P σ H hn s.sd _ fun p xs H1 e1 np d1 => k _ _ (by rw [List.length_set]; exact hn) ⟨_, _, (by simpa [Ne.symm hm0] using pl), (s.step e1).own np d1 (by rw [hn]; exact hm) hr hc⟩
theorem rp_if {b : Bool} (h : EvDT O n tt (vwC c 0 ρ) b) (h1 : b = true → RunMp L O n t ρ c ρ' c') (h2 : b = false → RunMp L O n u ρ c ρ' c') : RunMp L O n (tIfS tt t u) ρ c ρ' c' := fun H0 D σ H hn ⟨P, al, pl, s⟩ k =>
  h σ H hn s.view _ fun H1 e1 => by
    cases b with
    | true => exact iteT (h1 rfl H0 D σ H1 hn ⟨P, al, pl, s.step e1⟩ k)
    | false => exact iteF (h2 rfl H0 D σ H1 hn ⟨P, al, pl, s.step e1⟩ k)
theorem rp_for (hw : ∀ P, IterD P n wi ρ es) (R : Nat → Rho × Own) (h0 : R 0 = (ρ, c))
    (hs : ∀ i e, es[i]? = some e → ∃ ρ', (∀ P, TgD P n vs g (R i).1 e ρ') ∧ (∀ k fs, (R i).2 k = some fs → k ∉ vs ∧ ρ'[k]? = some none) ∧ RunMp L O n t ρ' (R i).2 (R (i + 1)).1 (R (i + 1)).2) :
    RunMp L O n (tFor wi g t) ρ c (R es.length).1 (R es.length).2 := fun H0 D σ H hn ⟨P0, al0, pl0, s0⟩ k => hw P0 σ H hn s0.sd _ fun J H1 G Y e1 W g1 gk yk => by
  have s1 := s0.step e1
  let Z : List Addr := P0.filter fun a => decide (a ∉ O)
  let HB : Hp := sub H1 Z
  have zOf : ∀ a, a ∈ Z → a ∈ P0 ∧ a ∉ O := fun a ha => by
    have q := List.mem_filter.mp ha
    exact ⟨q.1, of_decide_eq_true q.2⟩
  have exB : Ex H0 HB := fun a o ha => by
    refine sub_mk (s1.ex a o ha) fun z => ?_
    obtain ⟨z1, z2⟩ := zOf a z
    rcases s1.only a z1 with q | ⟨k2, fs, h1, rfl⟩
    · exact z2 q
    · have q := (s1.at_ k2 fs h1).2.2.2.2.2
      rw [q] at ha
      cases ha
  have sB : SDM O HB c H1 σ ρ P0 al0 := ⟨s1.less, s1.only, s1.sd, fun k2 fs hk => by
    obtain ⟨h1, h2, h3, h4, h5, h6⟩ := s1.at_ k2 fs hk
    refine ⟨h1, h2, h3, h4, h5, ?_⟩
    show (if al0 k2 ∈ Z then none else H1 (al0 k2)) = none
    rw [if_pos (List.mem_filter.mpr ⟨h4, decide_eq_true h5⟩)], s1.inj, ex_sub H1 Z⟩
  -- what was there is there for all owned sets
  have toG : ∀ (P2 : List Addr) (al2 : Nat → Addr) (c2 : Own) (σ2 : L2.St) (ρ2 : Rho) (H2 : Hp), SDM O HB c2 H2 σ2 ρ2 P2 al2 → Ex (sub H1 P0) (sub H2 P2) := fun P2 al2 c2 σ2 ρ2 H2 s2 a o ha => by
    obtain ⟨h1, h2⟩ := sub_of ha
    have nz : a ∉ Z := fun z => h2 (zOf a z).1
    have hb : HB a = some o := sub_mk h1 nz
    refine sub_mk (s2.ex a o hb) fun z => ?_
    rcases s2.only a z with q | ⟨k2, fs, q1, rfl⟩
    · exact h2 (s1.less a q)
    · have q := (s2.at_ k2 fs q1).2.2.2.2.2
      rw [q] at hb
      cases hb
  have toG0 : ∀ (P2 : List Addr) (al2 : Nat → Addr) (c2 : Own) (σ2 : L2.St) (ρ2 : Rho) (H2 : Hp), SDM O HB c2 H2 σ2 ρ2 P2 al2 → Ex (sub H1 P0) (sub H2 P0) := fun P2 al2 c2 σ2 ρ2 H2 s2 a o ha => by
    obtain ⟨h1, h2⟩ := sub_of ha
    have nz : a ∉ Z := fun z => h2 (zOf a z).1
    exact sub_mk (s2.ex a o (sub_mk h1 nz)) h2
  refine for_it (W P0) (fun i σ2 H2 => σ2.length = n ∧ SDXp L O HB (R i).2 H2 σ2 (R i).1) ⟨hn, P0, al0, pl0, by rw [h0]; exact sB⟩ (fun i σ2 H2 _ p => ?_) ?_ ?_
  · obtain ⟨_, P2, al2, pl2, s2⟩ := p
    exact gk _ _ _ _ g1 (toG0 P2 al2 _ _ _ _ s2)
  · rintro i x σ2 H2 H3 hi ⟨l2, P2, al2, pl2, s2⟩ y
    obtain ⟨e3, e, hdi, hx⟩ := yk P2 i H2 x H3 hi s2.sd.own (gk _ _ _ _ g1 (toG P2 al2 _ _ _ _ s2)) y
    obtain ⟨ρ', ht, hfree, hb⟩ := hs i e hdi
    have s3 := s2.step e3
    refine ht P2 σ2 H3 x l2 s3.sd hx _ fun σ' hl' hout s' => ?_
    refine hb HB _ σ' H3 hl' ⟨P2, al2, pl2, ⟨s3.less, s3.only, s', fun k2 fs hk => ?_, s3.inj, s3.ex⟩⟩ fun σ4 H4 hl4 s4 => ⟨hl4, s4⟩
    obtain ⟨h1, h2, h3, h4⟩ := s3.at_ k2 fs hk
    obtain ⟨f1, f2⟩ := hfree k2 fs hk
    exact ⟨by rw [hout k2 f1]; exact h1, h2, f2, h4⟩
  · rintro σ2 H2 ⟨l2, P2, al2, pl2, s2⟩
    exact k σ2 H2 l2 ⟨P2, al2, pl2, s2.base exB⟩
theorem rp_while {k : Nat} (R : Nat → Rho × Own) (h0 : R 0 = (ρ, c)) (ht : ∀ i, i ≤ k → EvDT O n tt (vwC (R i).2 0 (R i).1) (decide (i < k))) (hs : ∀ i, i < k → RunMp L O n tb (R i).1 (R i).2 (R (i + 1)).1 (R (i + 1)).2) :
    RunMp L O n (tWhile tt tb) ρ c (R k).1 (R k).2 := fun H0 D σ H hn s kk => by
  refine ⟨fun w σ2 H2 => ∃ i, w = k - i ∧ i ≤ k ∧ σ2.length = n ∧ SDXp L O H0 (R i).2 H2 σ2 (R i).1, ⟨k, 0, rfl, Nat.zero_le _, hn, by rw [h0]; exact s⟩, ?_⟩
  rintro w σ2 H2 ⟨i, rfl, hi, l2, P, al, pl, s2⟩
  refine ht i hi σ2 H2 l2 s2.view _ fun H3 e3 => ?_
  by_cases c : i < k
  · rw [decide_eq_true c]
    refine iteT ⟨fun σ' H' => ∃ i', i' = i + 1 ∧ σ'.length = n ∧ SDXp L O H0 (R i').2 H' σ' (R i').1, ?_, ?_⟩
    · rintro σ' H' ⟨i', rfl, l', s'⟩
      exact ⟨k - (i + 1), by omega, i + 1, rfl, by omega, l', s'⟩
    · exact hs i c H0 _ σ2 H3 l2 ⟨P, al, pl, s2.step e3⟩ fun σ4 H4 l4 s4 => ⟨i + 1, rfl, l4, s4⟩
  · rw [decide_eq_false c]
    have e : i = k := by omega
    subst e
    exact iteF (kk σ2 H3 l2 ⟨P, al, pl, s2.step e3⟩)
theorem rp_set (hc : c m = some ds) (h : EvD O n te (vwC c 0 ρ) x) (fx : isFlat x = true) (hi : ∀ P, EvD P n ti ρ (.int (i : Int))) (li : i < ds.length) : RunMp L O n (tAsg te (gSub (tVar m) ti rSetL)) ρ c ρ (c.put m (ds.set i x)) := fun H0 D σ H hn ⟨P, al, pl, s⟩ k =>
  h σ H hn s.view _ fun v H1 e1 d1 => by
    have s1 := s.step e1
    refine ⟨_, (s1.at_ m ds hc).1, hi P σ H1 hn s1.sd _ fun w H2 e2 d2 => ?_⟩
    cases d2
    have s2 := s1.step e2
    obtain ⟨_, ⟨ys, hy, dy⟩, _⟩ := s2.at_ m ds hc
    exact ⟨al m, ys, (i : Int), i, rfl, rfl, hy, ixN_nat (by rw [dy.length]; exact li), k σ _ hn ⟨P, al, pl, s2.other hc (dy.setAt (flat_dq d1 fx) i)⟩⟩
theorem rp_appendV {zs : List PyData} (hc : c m = some ds) (h : EvD O n te (vwC c 0 ρ) (.tuple zs)) (f : zs.all isFlat = true) (hl : ds.length ≤ 100000) : RunMp L O n (tDrop (tBM K "list" rAppend (tVar m) (tCons te tNil))) ρ c ρ (c.put m (ds ++ [.tuple zs])) := fun H0 D σ H hn ⟨P, al, pl, s⟩ k => by
  obtain ⟨m1, ⟨xs, hx, _⟩, _⟩ := s.at_ m ds hc
  refine ⟨_, m1, ty_lst hx, h σ H hn s.view _ fun v H1 e1 d1 => ?_⟩
  have s1 := s.step e1
  have d2 : Dq (sub H1 P) v (.tuple zs) := by
    cases d1 with
    | @tup a ws _ ha ka =>
      obtain ⟨a1, a2⟩ := sub_of ha
      refine .tup (sub_mk a1 fun z => ?_) (flat_all ka f)
      rcases s1.only _ z with q | ⟨k2, fs, g1, rfl⟩
      · exact a2 q
      · obtain ⟨_, ⟨ys, hy, _⟩, _⟩ := s1.at_ k2 fs g1
        rw [a1] at hy
        cases hy
  obtain ⟨_, ⟨ys, hy, dy⟩, _⟩ := s1.at_ m ds hc
  refine ⟨al m, ys, v, rfl, rfl, hy, Nat.lt_of_le_of_lt (show ys.length ≤ 100000 by have q := dy.length; omega) (by decide), ?_⟩
  exact k σ _ hn ⟨P, al, pl, s1.other hc (dy.append (.cons d2 .nil))⟩
theorem rp_less {c1 : Own} {ρ1 : Rho} (h : RunMp L O n t ρ c ρ1 c1) (w : ∀ (i : Nat) (d : PyData), ρ'[i]? = some (some d) → ρ1[i]? = some (some d)) (wo : ∀ (i : Nat) (ds : List PyData), c1 i = some ds → ρ'[i]? = some none) : RunMp L O n t ρ c ρ' c1 := fun H0 D σ H hn s k =>
  h H0 D σ H hn s fun σ' H' hn' ⟨P, al, pl, s'⟩ => k σ' H' hn' ⟨P, al, pl, ⟨s'.less, s'.only, ⟨s'.sd.own, fun i d hd => s'.sd.at' i d (w i d hd)⟩, fun m ds hm => by
    obtain ⟨a, b, _, e⟩ := s'.at_ m ds hm
    exact ⟨a, b, wo m ds hm, e⟩, s'.inj, s'.ex⟩⟩
theorem rp_forRev {M : Nat} (h : EvD O n te (vwC c 0 ρ) (.int (M : Int))) (hM : M ≤ 1000000) (R : Nat → Rho × Own) (h0 : R 0 = (ρ, c))
    (hs : ∀ i e, (rngR M)[i]? = some e → ∃ ρ', (∀ P, TgD P n vs g (R i).1 e ρ') ∧ (∀ k fs, (R i).2 k = some fs → k ∉ vs ∧ ρ'[k]? = some none) ∧ RunMp L O n t ρ' (R i).2 (R (i + 1)).1 (R (i + 1)).2) :
    RunMp L O n (tFor (iRevR (tRg1 te)) g t) ρ c (R (rngR M).length).1 (R (rngR M).length).2 := fun H0 D σ H hn ⟨P, al, pl, s⟩ k =>
  h σ H hn s.view _ fun v H1 e1 d1 => by
    cases d1
    exact rp_for (wi := iRevR (tRg1 (tC (.int (M : Int))))) (es := rngR M) (fun P => it_revR ed_int hM) R h0 hs H0 D σ H1 hn ⟨P, al, pl, s.step e1⟩ k
theorem rp_forR2 {lo M : Nat} (h : EvD O n te (vwC c 0 ρ) (.int (M : Int))) (hM : M ≤ 1000000) (hl : lo ≤ M) (R : Nat → Rho × Own) (h0 : R 0 = (ρ, c))
    (hs : ∀ i e, ((List.range (M - lo)).map fun k => PyData.int ((lo + k : Nat) : Int))[i]? = some e → ∃ ρ', (∀ P, TgD P n vs g (R i).1 e ρ') ∧ (∀ k fs, (R i).2 k = some fs → k ∉ vs ∧ ρ'[k]? = some none) ∧ RunMp L O n t ρ' (R i).2 (R (i + 1)).1 (R (i + 1)).2) :
    RunMp L O n (tFor (iRng2 (tCons (tC (.int (lo : Int))) (tCons te tNil))) g t) ρ c (R (M - lo)).1 (R (M - lo)).2 := fun H0 D σ H hn ⟨P, al, pl, s⟩ k =>
  h σ H hn s.view _ fun v H1 e1 d1 => by
    cases d1
    have q := rp_for (L := L) (O := O) (n := n) (t := t) (vs := vs) (g := g) (wi := iRng2 (tCons (tC (.int (lo : Int))) (tCons (tC (.int (M : Int))) tNil))) (es := (List.range (M - lo)).map fun k => PyData.int ((lo + k : Nat) : Int)) (fun P => it_rng2 (ea_cons ed_int (ea_cons ed_int ea_nil)) hM hl) R h0 hs H0 D σ H1 hn ⟨P, al, pl, s.step e1⟩
    rw [List.length_map, List.length_range] at q
    exact q k
end
/-- a def's promise: the first argument is a list that it changes; the answer is a new list -/
def spC (R : List PyData → List PyData → List PyData → List PyData → Prop) : Sp := fun vs H Q _ => ∃ (O : List Addr) (L : Addr) (xs us : List V) (ds rs ds' fs : List PyData),
  vs = .ref L :: us ∧ (∀ a, a ∈ L :: O → H a ≠ none) ∧ L ∉ O ∧ H L = some (.lst xs) ∧ DqAll (sub H (L :: O)) xs ds ∧ DqAll (sub H (L :: O)) us rs ∧ R ds rs ds' fs ∧
  ∀ F H' ys zs, ExO [L] H H' → H F = none → H' L = some (.lst ys) → H' F = some (.lst zs) → DqAll (sub H' (L :: F :: O)) ys ds' → DqAll (sub H' (L :: F :: O)) zs fs → Q (.ref F) H'
/-- runs to the return of the new list of slot m, slot 0's changed -/
def RunMC (L : Addr) (O : List Addr) (n : Nat) (t : TS) (ρ : Rho) (c : Own) (ds' fs : List PyData) : Prop := ∀ (H0 : Hp) (D : Ends) (σ : L2.St) (H : Hp), σ.length = n → SDXp L O H0 c H σ ρ →
  (∀ H' P al c' m, m ≠ 0 → (∃ σ' ρ', SDM O H0 c' H' σ' ρ' P al) → al 0 = L → c' 0 = some ds' → c' m = some fs → D.rt (.ref (al m)) H') → t D σ H
section
variable {L : Addr} {O : List Addr} {n m i j : Nat} {ρ ρ1 ρ' : Rho} {c c1 c' : Own} {ds es ds' fs : List PyData} {t u : TS}
theorem rmc_seq (h1 : RunMp L O n t ρ c ρ1 c1) (h2 : RunMC L O n u ρ1 c1 ds' fs) : RunMC L O n (tSeq t u) ρ c ds' fs := fun H0 D σ H hn s k =>
  h1 H0 _ σ H hn s fun σ1 H1 hn1 s1 => h2 H0 D σ1 H1 hn1 s1 k
theorem rmc_ret (h0 : c 0 = some ds') (hm : c m = some fs) (m0 : m ≠ 0) : RunMC L O n (tRet (tVar m)) ρ c ds' fs := fun H0 D σ H hn ⟨P, al, pl, s⟩ k => by
  have hσ := (s.at_ m fs hm).1
  exact ⟨_, hσ, k H P al c m m0 ⟨σ, ρ, s⟩ pl h0 hm⟩
end
section
variable {P : Program} {w : World} {K : PySem.W.Frag} {mg : Str → Option Value} {base : Heap}
theorem chg_ok {R : List PyData → List PyData → List PyData → List PyData → Prop} {x qual : Str} {st : Stmt} {f : Addr} {fd : FuncData} {N ps : List Str} {k : Nat} (F : Fun K x qual st f fd) (S : FnScope N ps (defScope st)) (hl : ∀ ds rs ds' fs, R ds rs ds' fs → rs.length + 1 = ps.length) (hp : ps.length ≤ N.length)
    (body : ∀ (cdv : Value) (A : Around) (outer : List Env) (s : Shared) (H : Hp) (E : XK), Room k (A.deeper (envOfC qual (defScope st) s.heap.objs.size f cdv)) →
      ∃ t, PSs (cxOf CX0 P w K mg base N qual (defScope st) f cdv A outer s H E).nox (defBody st) t ∧ ∀ L O ds rs ds' fs, R ds rs ds' fs → RunMC L O N.length t (Option.none :: (rs.map some ++ List.replicate (N.length - (rs.length + 1)) Option.none)) (Own.none.put 0 ds) ds' fs) : FnOk P w K mg base CX0 (k + 1) f fd ps (spC R) := by
  refine F.ok S (fun vs H Q E h => ?_) (fun cdv A outer s H vs Q E hr h => ?_)
  · obtain ⟨O, L, xs, us, ds, rs, ds', fs, rfl, _, _, _, _, hd, hR, _⟩ := h
    show us.length + 1 = _
    rw [hd.length]
    exact hl _ _ _ _ hR
  · obtain ⟨t, ht, hb⟩ := body cdv A outer s H E hr
    obtain ⟨O, L, xs, us, ds, rs, ds', fs, rfl, ho, hLO, hL, hx, hu, hR, q⟩ := h
    have len := hl _ _ _ _ hR
    have ul := hu.length
    have sl : (L2.start N (V.ref L :: us)).length = N.length := start_len (by show us.length + 1 ≤ _; omega)
    have a0 : (L2.start N (V.ref L :: us))[0]? = some (some (.ref L)) := rfl
    have own : ∀ a, a ∈ L :: O → H a ≠ none := ho
    have sd : SD (L :: O) H (L2.start N (V.ref L :: us)) (Option.none :: (rs.map some ++ List.replicate (N.length - (rs.length + 1)) Option.none)) := by
      have q1 : SD (L :: O) H (L2.start (N.drop 1) us) (argR (N.drop 1) rs) := sd_start own hu
      refine ⟨own, fun i d e => ?_⟩
      cases i with
      | zero => cases e
      | succ i =>
        have e2 : (argR (N.drop 1) rs)[i]? = some (some d) := by
          unfold argR
          rw [List.length_drop]
          rw [show N.length - 1 - rs.length = N.length - (rs.length + 1) by omega]
          simpa using e
        obtain ⟨v, h1, h2⟩ := q1.at' i d e2
        refine ⟨v, ?_, h2⟩
        unfold L2.start at h1 ⊢
        rw [List.length_drop] at h1
        have e3 : N.length - (V.ref L :: us).length = N.length - 1 - us.length := by
          show N.length - (us.length + 1) = _
          omega
        rw [e3]
        simpa using h1
    have hH0 : (sub H [L]) L = none := by
      cases z : (sub H [L]) L with
      | none => rfl
      | some o => exact absurd (List.mem_singleton.mpr rfl) (sub_of z).2
    refine ⟨t, ht, hb L O ds rs ds' fs hR (sub H [L]) _ _ H sl ⟨L :: O, fun _ => L, rfl, ?_⟩ fun H' P al c' m m0 ⟨σ', ρ', s⟩ pl h0 hm => ?_⟩
    · refine ⟨fun a ha => List.mem_cons_of_mem _ ha, fun a ha => ?_, sd, fun m es hm => ?_, fun m m' es es' hm hm' _ => ?_, ex_sub H [L]⟩
      · rcases List.mem_cons.mp ha with rfl | ha
        · exact .inr ⟨0, ds, rfl, rfl⟩
        · exact .inl ha
      · have e : m = 0 := by
          by_cases c : m = 0
          · exact c
          · simp [Own.put, c] at hm
        subst e
        have e : ds = es := by simpa [Own.put] using hm
        subst e
        exact ⟨a0, ⟨xs, hL, hx⟩, rfl, List.mem_cons_self, hLO, hH0⟩
      · have e : m = 0 := by
          by_cases c : m = 0
          · exact c
          · simp [Own.put, c] at hm
        have e' : m' = 0 := by
          by_cases c : m' = 0
          · exact c
          · simp [Own.put, c] at hm'
        rw [e, e']
    · obtain ⟨_, ⟨ys, hy, dy⟩, _, pL, _⟩ := s.at_ 0 ds' h0
      obtain ⟨_, ⟨zs, hz, dz⟩, _, pF, nF, fF⟩ := s.at_ m fs hm
      rw [pl] at hy pL
      have neF : al m ≠ L := fun z => m0 (s.inj m 0 fs ds' hm h0 (by rw [z, pl]))
      have hF : H (al m) = none := by
        cases z : H (al m) with
        | none => rfl
        | some o =>
          have q := sub_mk (O := [L]) z fun w => neF (List.mem_singleton.mp w)
          rw [fF] at q
          cases q
      have le : Ex (sub H' P) (sub H' (L :: al m :: O)) := sub_less fun a ha => by
        rcases List.mem_cons.mp ha with rfl | ha
        · exact pL
        · rcases List.mem_cons.mp ha with rfl | ha
          · exact pF
          · exact s.less a ha
      exact q (al m) H' ys zs (fun a o ha => sub_mk (s.ex a o ha) (sub_of ha).2) hF hy hz (dy.mono le) (dz.mono le)
end
section
variable {O : List Addr} {n m i : Nat} {ρ ρ' : Rho} {c c' : Own} {ds es rs ds' fs : List PyData} {d : PyData} {te ta : TE} {tr : TA} {t u : TS} {K : PySem.W.Frag} {E : XK} {R : List PyData → List PyData → List PyData → List PyData → Prop}
/-- the own list of slot m is changed by another def -/
theorem SDM.chg {H0 H H2 : Hp} {σ : L2.St} {P : List Addr} {al : Nat → Addr} {ys : List V} (s : SDM O H0 c H σ ρ P al) (hm : c m = some ds) (e2 : ExO [al m] H H2) (hy : H2 (al m) = some (.lst ys)) (d : DqAll (sub H2 P) ys es) : SDM O H0 (c.put m es) H2 σ ρ P al := by
  obtain ⟨m1, m2, m3, m4, m5, m6⟩ := s.at_ m ds hm
  have ex : Ex (sub H P) (sub H2 P) := fun a o ha => by
    obtain ⟨h1, h3⟩ := sub_of ha
    exact sub_mk (e2.at h1 fun w => h3 (by rw [List.mem_singleton.mp w]; exact m4)) h3
  have cs : ∀ k fs, (c.put m es) k = some fs → ∃ fs', c k = some fs' := fun k fs hk => by
    by_cases c2 : k = m
    · exact ⟨ds, by rw [c2]; exact hm⟩
    · exact ⟨fs, by simpa [Own.put, c2] using hk⟩
  refine ⟨s.less, fun a ha => ?_, ⟨fun a ha z => ?_, fun i d' hd => ?_⟩, fun k fs hk => ?_, fun k k' fs fs' hk hk' he => ?_, fun a o ha => ?_⟩
  · rcases s.only a ha with q | ⟨k, fs, h1, h2⟩
    · exact .inl q
    · by_cases c2 : k = m
      · exact .inr ⟨m, es, by simp [Own.put], by rw [h2, c2]⟩
      · exact .inr ⟨k, fs, by simp [Own.put, c2, h1], h2⟩
  · by_cases c2 : a = al m
    · rw [c2, hy] at z
      cases z
    · cases z3 : H a with
      | none => exact s.sd.own a ha z3
      | some o =>
        have := e2.at z3 fun w => c2 (List.mem_singleton.mp w)
        rw [z] at this
        cases this
  · obtain ⟨v, h1, h2⟩ := s.sd.at' i d' hd
    exact ⟨v, h1, h2.mono ex⟩
  · by_cases c2 : k = m
    · subst c2
      have hk : some es = some fs := by simpa [Own.put] using hk
      cases hk
      exact ⟨m1, ⟨ys, hy, d⟩, m3, m4, m5, m6⟩
    · have hk : c k = some fs := by simpa [Own.put, c2] using hk
      obtain ⟨h1, ⟨ys2, h2, h3⟩, h4⟩ := s.at_ k fs hk
      have ne : al k ≠ al m := fun z => c2 (s.inj k m fs ds hk hm z)
      exact ⟨h1, ⟨ys2, e2.at h2 fun w => ne (List.mem_singleton.mp w), h3.mono ex⟩, h4⟩
  · obtain ⟨a1, b1⟩ := cs k fs hk
    obtain ⟨a2, b2⟩ := cs k' fs' hk'
    exact s.inj k k' a1 a2 b1 b2 he
  · have ne : a ≠ al m := fun z => by rw [z, m6] at ha; cases ha
    exact e2.at (s.ex a o ha) fun w => ne (List.mem_singleton.mp w)
/-- what a call of such a def asks and leaves -/
theorem call_chg {H0 H1 : Hp} {σ : L2.St} {P : List Addr} {al : Nat → Addr} {us : List V} {Q : VK} {XE : XK} (s1 : SDM O H0 c H1 σ ρ P al) (hc : c m = some ds) (d1 : DqAll (sub H1 P) us rs) (hR : R ds rs ds' fs)
    (k : ∀ F H2 zs, SDM O H0 (c.put m ds') (sub H2 [F]) σ ρ P al → (sub H2 [F]) F = none → upd (sub H2 [F]) F (.lst zs) = H2 → DqAll (sub (sub H2 [F]) P) zs fs → Q (.ref F) H2) : spC R (.ref (al m) :: us) H1 Q XE := by
  obtain ⟨_, ⟨xs, hx, dx⟩, _, pL, nL, fL⟩ := s1.at_ m ds hc
  let P' : List Addr := P.filter fun a => decide (a ≠ al m)
  have fl : ∀ a, a ∈ P' → a ∈ P ∧ a ≠ al m := fun a ha => by
    have q := List.mem_filter.mp ha
    exact ⟨q.1, of_decide_eq_true q.2⟩
  have fm : ∀ a, a ∈ P → a ∈ al m :: P' := fun a ha => by
    by_cases c2 : a = al m
    · rw [c2]
      exact List.mem_cons_self
    · exact List.mem_cons_of_mem _ (List.mem_filter.mpr ⟨ha, decide_eq_true c2⟩)
  have mf : ∀ a, a ∈ al m :: P' → a ∈ P := fun a ha => by
    rcases List.mem_cons.mp ha with rfl | ha
    · exact pL
    · exact (fl a ha).1
  have sb : sub H1 (al m :: P') = sub H1 P := by
    funext a
    unfold sub
    by_cases c2 : a ∈ P
    · rw [if_pos c2, if_pos (fm a c2)]
    · rw [if_neg c2, if_neg fun z => c2 (mf a z)]
  refine ⟨P', al m, xs, us, ds, rs, ds', fs, rfl, fun a ha => s1.sd.own a (mf a ha), fun z => (fl _ z).2 rfl, hx, by rw [sb]; exact dx, by rw [sb]; exact d1, hR, fun F H2 ys zs e2 hF hy hz dy dz => ?_⟩
  have nF : F ∉ P := fun z => s1.sd.own F z hF
  have neF : F ≠ al m := fun z => nF (z ▸ pL)
  have nD : sub H2 [F] F = none := by
    cases z : sub H2 [F] F with
    | none => rfl
    | some o => exact absurd (List.mem_singleton.mpr rfl) (sub_of z).2
  have eU : upd (sub H2 [F]) F (.lst zs) = H2 := by
    funext a
    by_cases c : a = F
    · rw [c, upd_same, hz]
    · rw [upd_ne c]
      have na : a ∉ [F] := fun z => c (List.mem_singleton.mp z)
      cases z : H2 a with
      | some o => exact sub_mk z na
      | none =>
        cases z2 : sub H2 [F] a with
        | none => rfl
        | some o =>
          have := (sub_of z2).1
          rw [z] at this
          cases this
  have toP : Ex (sub H2 (al m :: F :: P')) (sub (sub H2 [F]) P) := fun a o ha => by
    obtain ⟨h1, h3⟩ := sub_of ha
    refine sub_mk (sub_mk h1 fun w => h3 ?_) fun w => h3 ?_
    · rw [List.mem_singleton.mp w]
      exact List.mem_cons_of_mem _ List.mem_cons_self
    · rcases List.mem_cons.mp (fm a w) with q | q
      · rw [q]
        exact List.mem_cons_self
      · exact List.mem_cons_of_mem _ (List.mem_cons_of_mem _ q)
  have eF : ExO [al m] H1 (sub H2 [F]) := fun a o ha => by
    obtain ⟨h1, h3⟩ := sub_of ha
    refine sub_mk (sub_mk (e2.at h1 h3) fun w => ?_) h3
    rw [List.mem_singleton.mp w, hF] at h1
    cases h1
  exact k F H2 zs (s1.chg hc eF (sub_mk hy fun w => neF (List.mem_singleton.mp w).symm) (dy.mono toP)) nD eU (dz.mono toP)
/-- x = f(xs, e): the own list of slot m is changed, a new one comes into slot i; what is passed beside is flat -/
theorem rm_callC (hc : c m = some ds) (h : EvDA O n tr (vwC c 0 ρ) rs) (f : rs.all isFlat = true) (hR : R ds rs ds' fs) (hi : i < n) (hri : i < ρ.length) (hci : c i = none) (him : i ≠ m) :
    RunM O n (tAsg (tCall (spC R) [] E (tCons (tVar m) tr)) (gName i)) ρ c (ρ.set i none) ((c.put m ds').put i fs) := fun H0 D σ H hn ⟨P, al, s⟩ k => by
  obtain ⟨m1, _⟩ := s.at_ m ds hc
  refine ⟨_, m1, h σ H hn s.view _ fun us H1 e1 d1 => ?_⟩
  have s1 := s.step e1
  show spC R ((.ref (al m) :: us) ++ []) H1 _ _
  rw [List.append_nil]
  refine call_chg s1 hc (flat_all d1 f) hR fun F H2 zs s2 nF eU dz => ?_
  have s3 := s2.own (m := i) nF dz (by rw [hn]; exact hi) hri (by simp [Own.put, him, hci])
  rw [eU] at s3
  exact k _ H2 (by rw [List.length_set]; exact hn) ⟨_, _, s3⟩
/-- return tuple(ys + f(xs, e)) -/
theorem rmr_catC {l : Nat} (hc : c m = some ds) (hl : ρ[l]? = some (some (.list es))) (h : ∀ P, EvDA P n tr ρ rs) (hR : R ds rs ds' fs) (hz : es.length + fs.length ≤ 100000) :
    RunMR O n (tRet (tCB (rTupleOf K) (tCons (tOp rCat (tVar l) (tCall (spC R) [] E (tCons (tVar m) tr))) tNil))) ρ c (.tuple (es ++ fs)) := fun H0 D σ H hn ⟨P, al, s⟩ k => by
  obtain ⟨m1, _⟩ := s.at_ m ds hc
  obtain ⟨v, hv, dv⟩ := s.sd.at' l _ hl
  refine ⟨v, hv, _, m1, h P σ H hn s.sd _ fun us H1 e1 d1 => ?_⟩
  have s1 := s.step e1
  show spC R ((.ref (al m) :: us) ++ []) H1 _ _
  rw [List.append_nil]
  refine call_chg s1 hc d1 hR fun F H2 zs s2 nF eU dz => ?_
  obtain ⟨v', hv', dv'⟩ := s2.sd.at' l _ hl
  rw [hv] at hv'
  cases hv'
  have e12 : Ex (sub H2 [F]) H2 := ex_sub H2 [F]
  have hzF : H2 F = some (.lst zs) := by rw [← eU, upd_same]
  cases dv' with
  | @lst a xs _ ha ka =>
    have hO : Ex (sub (sub H2 [F]) P) (sub H2 O) := fun b o hb => by
      obtain ⟨h1, h2⟩ := sub_of hb
      exact sub_mk (sub_of h1).1 fun w => h2 (s.less b w)
    have kx := (ka.mono hO).append (dz.mono hO)
    refine ⟨a, F, xs, zs, rfl, rfl, e12 _ _ (sub_of ha).1, hzF, ?_, fun p hp => ?_⟩
    · rw [ka.length, dz.length]
      exact sz_of hz
    have ownO : ∀ b, b ∈ O → H2 b ≠ none := fun b hb w => by
      have := s2.sd.own b (s.less b hb)
      cases z : (sub H2 [F]) b with
      | none => exact this z
      | some o =>
        rw [e12 _ _ z] at w
        cases w
    refine ⟨p, _, rfl, .inl ⟨sq_of upd_same, fun q hq => ?_⟩⟩
    have e3 := Ex.new (o := .lst (xs ++ zs)) hp
    have e4 := Ex.new (o := .tup (xs ++ zs)) hq
    refine k _ _ (((s2.ex.trans e12).trans e3).trans e4) (.tup (sub_mk upd_same ?_) (kx.mono (Ex.o O (e3.trans e4))))
    exact not_own (own_ex e3 ownO) hq
end
end DL
/-! DDC: dicts with whole numbers and texts as keys: as data, and as a def's own. -/
namespace DL
open PySem L2 Evl PyProof.Rows TL RZ
/-- what a dict holds -/
abbrev Dk := List (Key × PyData)
def dkL (ks : Dk) : List (PyData × PyData) := ks.map fun p => (keyD p.1, p.2)
def dcD (ks : Dk) : PyData := .dict ((PyData.none, PyData.none) :: dkL ks)
def getK (ks : Dk) (k : Key) : Option PyData := (ks.find? fun p => decide (p.1 = k)).map (·.2)
def putD (ks : Dk) (k : Key) (d : PyData) : Dk :=
  if (ks.any fun p => decide (p.1 = k)) = true then ks.map (fun p => if p.1 = k then (p.1, d) else p) else ks ++ [(k, d)]
def dropD (ks : Dk) (k : Key) : Dk := ks.filter fun p => decide (p.1 ≠ k)
inductive DkP (H : Hp) : List (Key × V) → Dk → Prop
  | nil : DkP H [] []
  | cons {k : Key} {v : V} {kvs : List (Key × V)} {d : PyData} {ks : Dk} : Dq H v d → DkP H kvs ks → DkP H ((k, v) :: kvs) ((k, d) :: ks)
theorem DkP.of {H : Hp} : ∀ {kvs : List (Key × V)} {ks : Dk}, DqK H kvs (dkL ks) → DkP H kvs ks
  | _, [], h => by
    cases h
    exact .nil
  | _, (k, d) :: ks, h => by
    have h' : DqK H _ ((keyD k, d) :: dkL ks) := h
    cases h' with
    | cons e hd r =>
      cases keyD_inj e
      exact .cons hd (DkP.of r)
theorem DkP.to {H : Hp} : ∀ {kvs : List (Key × V)} {ks : Dk}, DkP H kvs ks → DqK H kvs (dkL ks)
  | _, _, .nil => .nil
  | _, _, .cons hd r => .cons rfl hd (DkP.to r)
theorem DkP.mono {H H' : Hp} (e : Ex H H') : ∀ {kvs : List (Key × V)} {ks : Dk}, DkP H kvs ks → DkP H' kvs ks
  | _, _, .nil => .nil
  | _, _, .cons hd r => .cons (hd.mono e) (r.mono e)
theorem DkP.length {H : Hp} : ∀ {kvs : List (Key × V)} {ks : Dk}, DkP H kvs ks → kvs.length = ks.length
  | _, _, .nil => rfl
  | _, _, .cons _ r => congrArg Nat.succ r.length
theorem DkP.keys {H : Hp} : ∀ {kvs : List (Key × V)} {ks : Dk}, DkP H kvs ks → kvs.map (·.1) = ks.map (·.1)
  | _, _, .nil => rfl
  | _, _, .cons _ r => congrArg (List.cons _) r.keys
theorem DkP.get {H : Hp} (k : Key) : ∀ {kvs : List (Key × V)} {ks : Dk}, DkP H kvs ks → (valV kvs k = none ∧ getK ks k = none) ∨ ∃ v d, valV kvs k = some v ∧ getK ks k = some d ∧ Dq H v d
  | _, _, .nil => .inl ⟨rfl, rfl⟩
  | _, _, .cons (k := j) hd r => by
    by_cases c : j = k
    · subst c
      exact .inr ⟨_, _, by simp [valV, List.find?_cons], by simp [getK, List.find?_cons], hd⟩
    · rcases DkP.get k r with ⟨h1, h2⟩ | ⟨v, d, h1, h2, h3⟩
      · exact .inl ⟨by unfold valV at h1 ⊢; rw [List.find?_cons]; simp only [c, decide_false]; exact h1, by unfold getK at h2 ⊢; rw [List.find?_cons]; simp only [c, decide_false]; exact h2⟩
      · exact .inr ⟨v, d, by unfold valV at h1 ⊢; rw [List.find?_cons]; simp only [c, decide_false]; exact h1, by unfold getK at h2 ⊢; rw [List.find?_cons]; simp only [c, decide_false]; exact h2, h3⟩
theorem DkP.app {H : Hp} : ∀ {kvs : List (Key × V)} {ks : Dk} {k : Key} {v : V} {d : PyData}, DkP H kvs ks → Dq H v d → DkP H (kvs ++ [(k, v)]) (ks ++ [(k, d)])
  | _, _, _, _, _, .nil, h => .cons h .nil
  | _, _, _, _, _, .cons hd r, h => .cons hd (r.app h)
theorem DkP.over {H : Hp} {k : Key} {v : V} {d : PyData} (h : Dq H v d) : ∀ {kvs : List (Key × V)} {ks : Dk}, DkP H kvs ks → DkP H (kvs.map fun p => if p.1 = k then (p.1, v) else p) (ks.map fun p => if p.1 = k then (p.1, d) else p)
  | _, _, .nil => .nil
  | _, _, .cons (k := j) hd r => by
    rw [List.map_cons, List.map_cons]
    by_cases c : j = k
    · rw [if_pos c, if_pos c]
      exact .cons h (r.over h)
    · rw [if_neg c, if_neg c]
      exact .cons hd (r.over h)
theorem DkP.put {H : Hp} {kvs : List (Key × V)} {ks : Dk} {k : Key} {v : V} {d : PyData} (r : DkP H kvs ks) (h : Dq H v d) : DkP H (putK kvs k v) (putD ks k d) := by
  have e : (kvs.any fun p => decide (p.1 = k)) = ks.any fun p => decide (p.1 = k) := by
    have q := congrArg (List.any · fun j => decide (j = k)) r.keys
    rw [List.any_map, List.any_map] at q
    exact q
  unfold putK putD
  rw [e]
  split
  · exact r.over h
  · exact r.app h
theorem DkP.drop {H : Hp} {k : Key} : ∀ {kvs : List (Key × V)} {ks : Dk}, DkP H kvs ks → DkP H (dropK kvs k) (dropD ks k)
  | _, _, .nil => .nil
  | _, _, .cons (k := j) hd r => by
    unfold dropK dropD
    rw [List.filter_cons, List.filter_cons]
    by_cases c : j = k
    · rw [if_neg (by simpa using c), if_neg (by simpa using c)]
      exact r.drop
    · rw [if_pos (by simpa using c), if_pos (by simpa using c)]
      exact .cons hd r.drop
theorem dq_dic {H : Hp} {v : V} {ks : Dk} (h : Dq H v (dcD ks)) : ∃ a kvs, v = .ref a ∧ Rd H a (.dK kvs) ∧ DkP H kvs ks := by
  unfold dcD at h
  cases h with
  | dic ha hk => exact ⟨_, _, rfl, ha, DkP.of hk⟩
theorem dq_mk {H : Hp} {a : Addr} {kvs : List (Key × V)} {ks : Dk} (ha : H a = some (.dK kvs)) (h : DkP H kvs ks) : Dq H (.ref a) (dcD ks) := .dic (.inl ha) h.to
theorem rd_subK {H : Hp} {O : List Addr} {a : Addr} {u : HO} (h : Rd (sub H O) a u) : Rd H a u := h.imp (fun h => (sub_of h).1) fun ⟨o, h⟩ => ⟨o, (sub_of h).1⟩
theorem rd_mono {H H' : Hp} {a : Addr} {u : HO} (e : Ex H H') (h : Rd H a u) : Rd H' a u := h.imp (e _ _) fun ⟨o, h⟩ => ⟨o, e _ _ h⟩
theorem dget_r {H : Hp} {a : Addr} {kvs : List (Key × V)} {k : Key} (h : Rd H a (.dK kvs)) : DGet H a (kV k) (valV kvs k) := .inl ⟨kvs, k, h, rfl, rfl⟩
theorem dq_key {H : Hp} {v : V} : ∀ {k : Key}, Dq H v (keyD k) → v = kV k
  | .inl i, h => by
    cases h
    rfl
  | .inr x, h => by
    cases h
    rfl
theorem hu1_of {k : Nat} {A : Around} (h : Room k A) : A.units + 1 < cLine := by
  have := hu64 h
  omega
/-! ### what is read -/
section
variable {O : List Addr} {n : Nat} {ρ : Rho} {td ti tx : TE} {ks : Dk} {k : Key} {d x : PyData}
theorem ed_dget (h : EvD O n td ρ (dcD ks)) (hi : EvD O n ti ρ (keyD k)) (hg : getK ks k = some d) : EvD O n (tDGet td ti) ρ d := fun σ H hn s Q q => h σ H hn s _ fun v H1 e1 d1 => hi σ H1 hn (s.ex e1) _ fun u H2 e2 d2 => by
  obtain ⟨a, kvs, rfl, ha, hp⟩ := dq_dic (d1.mono (Ex.o O e2))
  rw [dq_key d2]
  rcases hp.get k with ⟨_, z⟩ | ⟨v, d', h1, h2, h3⟩
  · rw [hg] at z
    cases z
  · rw [hg] at h2
    cases h2
    refine ⟨a, v, rfl, ?_, q v H2 (e1.trans e2) h3⟩
    rw [← h1]
    exact dget_r (rd_subK ha)
theorem ed_dget2 (h : EvD O n td ρ (dcD ks)) (hi : EvD O n ti ρ (keyD k)) (hx : EvD O n tx ρ x) : EvD O n (tDGet2 td ti tx) ρ ((getK ks k).getD x) := fun σ H hn s Q q => h σ H hn s _ fun v H1 e1 d1 => by
  obtain ⟨a, kvs, rfl, ha, hp⟩ := dq_dic d1
  refine ⟨a, rfl, .inl ⟨kvs, rd_subK ha⟩, hi σ H1 hn (s.ex e1) _ fun u H2 e2 d2 => hx σ H2 hn ((s.ex e1).ex e2) _ fun z H3 e3 d3 => ?_⟩
  rw [dq_key d2]
  have ha' := rd_mono (e2.trans e3) (rd_subK ha)
  refine ⟨_, dget_r ha', ?_⟩
  rcases hp.get k with ⟨h1, h2⟩ | ⟨v, d', h1, h2, h3⟩
  · rw [h1]
    rw [h2] at q
    exact q z H3 ((e1.trans e2).trans e3) d3
  · rw [h1]
    rw [h2] at q
    exact q v H3 ((e1.trans e2).trans e3) (h3.mono (Ex.o O (e2.trans e3)))
theorem ed_din (hi : EvD O n ti ρ (keyD k)) (h : EvD O n td ρ (dcD ks)) : EvD O n (tDIn ti td) ρ (.bool (getK ks k).isSome) := fun σ H hn s Q q => hi σ H hn s _ fun u H1 e1 d1 => h σ H1 hn (s.ex e1) _ fun v H2 e2 d2 => by
  obtain ⟨a, kvs, rfl, ha, hp⟩ := dq_dic d2
  rw [dq_key d1]
  refine ⟨a, _, rfl, dget_r (rd_subK ha), ?_⟩
  rcases hp.get k with ⟨h1, h2⟩ | ⟨v, d', h1, h2, h3⟩
  · rw [h1]
    rw [h2] at q
    exact q _ H2 (e1.trans e2) (.bl _)
  · rw [h1]
    rw [h2] at q
    exact q _ H2 (e1.trans e2) (.bl _)
theorem ed_dnotin (hi : EvD O n ti ρ (keyD k)) (h : EvD O n td ρ (dcD ks)) : EvD O n (tDNotIn ti td) ρ (.bool (!(getK ks k).isSome)) := fun σ H hn s Q q => hi σ H hn s _ fun u H1 e1 d1 => h σ H1 hn (s.ex e1) _ fun v H2 e2 d2 => by
  obtain ⟨a, kvs, rfl, ha, hp⟩ := dq_dic d2
  rw [dq_key d1]
  refine ⟨a, _, rfl, dget_r (rd_subK ha), ?_⟩
  rcases hp.get k with ⟨h1, h2⟩ | ⟨v, d', h1, h2, h3⟩
  · rw [h1]
    rw [h2] at q
    exact q _ H2 (e1.trans e2) (.bl _)
  · rw [h1]
    rw [h2] at q
    exact q _ H2 (e1.trans e2) (.bl _)
end
/-! ### sorted(d, reverse=b), whole numbers as keys -/
def rSortedDR (K : PySem.W.Frag) (b : Bool) : List V → List V → Hp → VK → Prop := fun vs zs H Q => ∃ (a : Addr) (kvs : List (Key × V)) (ns : List Int), vs = [.ref a] ∧ zs = [.bl b] ∧ Rd H a (.dK kvs) ∧ kvs.map (·.1) = ns.map Sum.inl ∧ ns.length ≤ 100000 ∧
  ∀ (ys : List Int) (p : Addr), ys.Perm ns → OrdB b ys → H p = none → Q (.ref p) (upd H p (.lst (ys.map V.int)))
theorem kSortedDR {X : Cx} {b : Bool} (hcalm : X.calm = true) : CallRK X (.builtin "sorted") [Str.ofString "reverse"] (rSortedDR X.K b) := by
  intro pins s σ H xs zs us ws Q I r rz q
  obtain ⟨a, kvs, ks, ex, ez, hd, hks, hlen0, q⟩ := q
  subst ex
  subst ez
  obtain ⟨u, eu, rx⟩ := vals1 r
  subst eu
  cases rx
  obtain ⟨w1, rfl, e1⟩ := vals1 rz
  obtain rfl : w1 = Value.bool b := e1
  obtain ⟨z, lo, vs, rel, dd⟩ := dk_rd I.hok hd
  obtain ⟨ep, hat⟩ := dd.dictAt
  have hkeys : vs.map (·.1) = ks.map Sum.inl := rel.keys.symm.trans hks
  have hl : vs.length = ks.length := by
    have e := congrArg List.length hkeys
    rw [List.length_map, List.length_map] at e
    exact e
  have h16 : vs.length ≤ sizeLine := by rw [hl, sizeLine_eq]; omega
  show wpAny (model X.prog X.w) X.A (call (.builtin "sorted") [.ref a] [(Str.ofString "reverse", .bool b)]) _ _ _
  refine call_function_entry_kw PyProof.Rows.kind_sorted PyProof.Rows.plain_sorted PyProof.Rows.entry_sorted (PyProof.Rows.args_sorted_rev _ _) ?_
  unfold Builtin.«sorted»
  refine wpAny_bind (m := checkCount "sorted" 1 1 _) (wpAny_pure ?_)
  refine wpAny_bind (PySem.W.kdu_collect (A := X.A.in1) (PySem.W.kdl_dict (knd := mixKind X.prog X.w) (kvs := vs) (ep := ep) lo) (I.ok.hd hcalm) hat h16 fun h' tk acc hk hacc => ?_)
  have hal : acc.toList.length = ks.length := by rw [Array.length_toList, hacc.1, hl]
  have hS : IntsAre acc.toList ks := ints_each hal fun j v e => by
    obtain ⟨k, x, e1, e2⟩ := hacc.2 j v (by rw [← Array.getElem?_toList]; exact e)
    have e3 : (vs.map (·.1))[j]? = some k := by rw [List.getElem?_map, e1]; rfl
    rw [hkeys, List.getElem?_map] at e3
    cases e4 : ks[j]? with
    | none => rw [e4] at e3; cases e3
    | some y =>
      rw [e4] at e3
      have e5 : Sum.inl y = k := Option.some.inj e3
      subst e5
      rcases keyIs_shape (show keyIs (Sum.inl y) v = true from e2) with ⟨i, t, ek, ev⟩ | ⟨z, t, ek, ev⟩
      · cases ek
        exact ⟨y, t, rfl, ev⟩
      · cases ek
  have I1 : Inv X pins σ H { s with heap := h', toks := tk } := I.kept hk
  have hz2 : acc.toList.length ≤ sizeLine := by rw [hal, sizeLine_eq]; omega
  refine wpAny_bind (wpAny_newList ?_ hz2)
  have hoL : (h'.push (seqObj "list" acc.toList.toArray 0)).get? h'.objs.size = some (seqObj "list" acc.toList.toArray 0) := Heap.get?_push_size _ rfl
  show wpAny _ _ _ _ _ { s with heap := h'.push (seqObj "list" acc.toList.toArray 0), toks := tk }
  refine wpAny_bind (wpAny_holding (wpAny_call_entry_kw PyProof.Rows.slot_list_sort ⟨_, hoL, rfl⟩ PyProof.Rows.entry_list_sort ?_ (PyProof.Rows.args_list_sort_rev _ _)))
  refine SrtR.list_sort_ordR (s := { s with heap := h'.push (seqObj "list" acc.toList.toArray 0), toks := tk }) SrtO.swo_int hoL hz2 (fun h2 => SrtO.ints_sortable hS h2) fun out h1 h2 => ⟨_, rfl, ?_⟩
  obtain ⟨ys, g1, g2, g3⟩ := SrtR.ints_outR hS h1 h2
  obtain ⟨e', he'⟩ := PyProof.Rows.sortedHeap_at (vs := acc.toList) (out := (if b = true then out.toArray.reverse else out.toArray)) hoL
  have hlen : (ys.map V.int).length ≤ sizeLine := by
    rw [List.length_map, g2.length_eq, sizeLine_eq]
    omega
  refine wpAny_pure ⟨_, rfl, .ref h'.objs.size, upd H h'.objs.size (.lst (ys.map V.int)), I1.laid (t' := tk) (fun b u e => ?_) (Nat.le_refl _)
    (show ObjOk X.prog X.w _ _ _ (.lst (ys.map V.int)) from ⟨hlen, (if b = true then out.toArray.reverse else out.toArray).toList, e', vals_of_ints g1, by rw [Array.toArray_toList]; exact he'⟩), rfl, q ys _ g2 g3 (I1.hok.fresh (Nat.le_refl _))⟩
  have hb : b < h'.objs.size := Heap.lt_size e
  rw [PyProof.Rows.sortedHeap_old (Nat.ne_of_lt hb) (by rw [size_push']; exact Nat.lt_succ_of_lt hb)]
  exact Heap.get?_push_of_some _ e
theorem ed_sortedDR {O : List Addr} {n : Nat} {ρ : Rho} {te : TE} {ks : Dk} {K : PySem.W.Frag} {b : Bool} {ns zs : List Int} (h : EvD O n te ρ (dcD ks)) (hk : ks.map (·.1) = ns.map Sum.inl) (hl : ns.length ≤ 100000) (hp : zs.Perm ns) (hz : OrdB b zs) : EvD O n (tCKw (rSortedDR K b) (tCons te tNil) (tCons (tC (.bl b)) tNil)) ρ (.list (dI zs)) := fun σ H hn s Q q => h σ H hn s _ fun v H1 e1 d1 => by
  obtain ⟨a, kvs, rfl, ha, hpp⟩ := dq_dic d1
  refine ⟨a, kvs, ns, rfl, rfl, rd_subK ha, by rw [hpp.keys]; exact hk, hl, fun ys p hy ho np => ?_⟩
  have e : ys = zs := by
    cases b with
    | true => exact (List.Perm.eq_of_pairwise (fun a b _ _ h1 h2 => Int.le_antisymm h2 h1) ho hz (hy.trans hp.symm))
    | false => exact (List.Perm.eq_of_pairwise (fun a b _ _ h1 h2 => Int.le_antisymm h1 h2) ho hz (hy.trans hp.symm))
  subst e
  exact q _ _ (e1.trans (Ex.new np)) (.lst (sub_mk upd_same (not_own (own_ex e1 s.own) np)) (dq_ints _))
end DL
/-! DDO: a dict of a def's own. -/
namespace DL
open PySem L2 Evl PyProof.Rows TL RZ
structure SDD (O : List Addr) (L : Addr) (m : Nat) (ks : Dk) (H : Hp) (σ : L2.St) (ρ : Rho) : Prop where
  sd : SD (L :: O) H σ ρ
  at_ : σ[m]? = some (some (.ref L))
  hd : ∃ kvs, H L = some (.dK kvs) ∧ DkP (sub H (L :: O)) kvs ks
  nL : L ∉ O
  free : ρ[m]? = some none
abbrev vwD (ρ : Rho) (m : Nat) (ks : Dk) : Rho := ρ.set m (some (dcD ks))
section
variable {O : List Addr} {L : Addr} {m i : Nat} {ks ks' : Dk} {H H' : Hp} {σ : L2.St} {ρ : Rho} {v : V} {d : PyData}
theorem SDD.view (s : SDD O L m ks H σ ρ) : SD O H σ (vwD ρ m ks) := ⟨fun a ha => s.sd.own a (List.mem_cons_of_mem _ ha), fun i d hd => by
  by_cases c : m = i
  · subst c
    have hb : m < ρ.length := (List.getElem?_eq_some_iff.mp s.free).1
    rw [List.getElem?_set_self hb] at hd
    cases hd
    obtain ⟨kvs, h1, h2⟩ := s.hd
    exact ⟨_, s.at_, dq_mk (sub_mk h1 s.nL) (h2.mono ex_less)⟩
  · rw [List.getElem?_set_ne c] at hd
    obtain ⟨v, h1, h2⟩ := s.sd.at' i d hd
    exact ⟨v, h1, h2.mono ex_less⟩⟩
theorem SDD.step (s : SDD O L m ks H σ ρ) (e : Ex H H') : SDD O L m ks H' σ ρ := ⟨s.sd.ex e, s.at_, by
  obtain ⟨kvs, h1, h2⟩ := s.hd
  exact ⟨kvs, e _ _ h1, h2.mono (Ex.o _ e)⟩, s.nL, s.free⟩
theorem SDD.put (s : SDD O L m ks H σ ρ) (h : Dq (sub H (L :: O)) v d) (hi : i < σ.length) (hm : i ≠ m) : SDD O L m ks H (σ.set i (some v)) (ρ.set i (some d)) :=
  ⟨s.sd.set h hi, by rw [List.getElem?_set_ne hm]; exact s.at_, s.hd, s.nL, by rw [List.getElem?_set_ne hm]; exact s.free⟩
theorem SDD.other {kvs : List (Key × V)} (s : SDD O L m ks H σ ρ) (h : DkP (sub H (L :: O)) kvs ks') : SDD O L m ks' (upd H L (.dK kvs)) σ ρ := by
  have sb : sub (upd H L (.dK kvs)) (L :: O) = sub H (L :: O) := sub_upd List.mem_cons_self
  refine ⟨⟨fun a ha z => ?_, fun i d hd => by rw [sb]; exact s.sd.at' i d hd⟩, s.at_, ⟨kvs, upd_same, by rw [sb]; exact h⟩, s.nL, s.free⟩
  by_cases c : a = L
  · rw [c, upd_same] at z
    cases z
  · rw [upd_ne c] at z
    exact s.sd.own a ha z
end
section
variable (O : List Addr) (n : Nat) (m : Nat)
def RunDc (t : TS) (ρ : Rho) (ks : Dk) (ρ' : Rho) (ks' : Dk) : Prop := ∀ (L : Addr) (D : Ends) (σ : L2.St) (H : Hp), σ.length = n → SDD O L m ks H σ ρ →
  (∀ σ' H', σ'.length = n → ExO [L] H H' → SDD O L m ks' H' σ' ρ' → D.nx σ' H') → t D σ H
def RunDcR (t : TS) (ρ : Rho) (ks : Dk) (d : PyData) : Prop := ∀ (L : Addr) (D : Ends) (σ : L2.St) (H : Hp), σ.length = n → SDD O L m ks H σ ρ →
  (∀ v H', ExO [L] H H' → Dq (sub H' O) v d → D.rt v H') → t D σ H
/-- runs to its end, or to a return of None -/
def RunDcX (t : TS) (ρ : Rho) (ks : Dk) (ks' : Dk) : Prop := ∀ (L : Addr) (D : Ends) (σ : L2.St) (H : Hp), σ.length = n → SDD O L m ks H σ ρ →
  (∀ H', ExO [L] H H' → (∃ kvs, H' L = some (.dK kvs) ∧ DkP (sub H' (L :: O)) kvs ks') → D.rt .non H' ∧ ∀ σ', D.nx σ' H') → t D σ H
end
section
variable {O : List Addr} {n m i : Nat} {ρ ρ1 ρ' : Rho} {ks ks1 ks' : Dk} {d : PyData} {te ty tv : TE} {tt : TT} {t u tb : TS} {wi : TI} {g : TG} {vs : List Nat} {es rs : List PyData} {tr : TA} {k : Key} {E : XK}
theorem dc_next : RunDc O n m tNext ρ ks ρ ks := fun L D σ H hn s k => k σ H hn (ExO.refl _ H) s
theorem dc_is (h : RunDc O n m t ρ ks ρ1 ks1) (e1 : ρ1 = ρ') (e2 : ks1 = ks') : RunDc O n m t ρ ks ρ' ks' := e1 ▸ e2 ▸ h
theorem dc_seq (h1 : RunDc O n m t ρ ks ρ1 ks1) (h2 : RunDc O n m u ρ1 ks1 ρ' ks') : RunDc O n m (tSeq t u) ρ ks ρ' ks' := fun L D σ H hn s k =>
  h1 L _ σ H hn s fun σ1 H1 hn1 e1 s1 => h2 L D σ1 H1 hn1 s1 fun σ2 H2 hn2 e2 s2 => k σ2 H2 hn2 (e1.trans e2) s2
theorem dc_seqR (h1 : RunDc O n m t ρ ks ρ1 ks1) (h2 : RunDcR O n m u ρ1 ks1 d) : RunDcR O n m (tSeq t u) ρ ks d := fun L D σ H hn s k =>
  h1 L _ σ H hn s fun σ1 H1 hn1 e1 s1 => h2 L D σ1 H1 hn1 s1 fun v H2 e2 d2 => k v H2 (e1.trans e2) d2
theorem dc_seqX (h1 : RunDc O n m t ρ ks ρ1 ks1) (h2 : RunDcX O n m u ρ1 ks1 ks') : RunDcX O n m (tSeq t u) ρ ks ks' := fun L D σ H hn s k =>
  h1 L _ σ H hn s fun σ1 H1 hn1 e1 s1 => h2 L D σ1 H1 hn1 s1 fun H2 e2 d2 => k H2 (e1.trans e2) d2
theorem dc_endX (h : RunDc O n m t ρ ks ρ' ks') : RunDcX O n m t ρ ks ks' := fun L D σ H hn s k =>
  h L D σ H hn s fun σ1 H1 hn1 e1 s1 => (k H1 e1 s1.hd).2 σ1
theorem dc_retX : RunDcX O n m tRetN ρ ks ks := fun L D σ H hn s k => (k H (ExO.refl _ H) s.hd).1
theorem dc_read (h : RunR O n t (vwD ρ m ks) d) : RunDcR O n m t ρ ks d := fun L D σ H hn s k => h D σ H hn s.view fun v H1 e1 d1 => k v H1 (Ex.o [L] e1) d1
theorem dc_asg (h : EvD O n te (vwD ρ m ks) d) (f : isFlat d = true) (hi : i < n) (hm : i ≠ m) : RunDc O n m (tAsg te (gName i)) ρ ks (ρ.set i (some d)) ks := fun L D σ H hn s k =>
  h σ H hn s.view _ fun v H1 e1 d1 => k _ H1 (by rw [List.length_set]; exact hn) (Ex.o [L] e1) ((s.step e1).put (flat_dq d1 f) (by rw [hn]; exact hi) hm)
theorem dc_asgO (h : ∀ P, EvD P n te ρ d) (hi : i < n) (hm : i ≠ m) : RunDc O n m (tAsg te (gName i)) ρ ks (ρ.set i (some d)) ks := fun L D σ H hn s k =>
  h _ σ H hn s.sd _ fun v H1 e1 d1 => k _ H1 (by rw [List.length_set]; exact hn) (Ex.o [L] e1) ((s.step e1).put d1 (by rw [hn]; exact hi) hm)
theorem dc_if {b : Bool} (h : EvDT O n tt (vwD ρ m ks) b) (h1 : b = true → RunDc O n m t ρ ks ρ' ks') (h2 : b = false → RunDc O n m u ρ ks ρ' ks') : RunDc O n m (tIfS tt t u) ρ ks ρ' ks' := fun L D σ H hn s k =>
  h σ H hn s.view _ fun H1 e1 => by
    cases b with
    | true => exact iteT (h1 rfl L D σ H1 hn (s.step e1) fun σ2 H2 hn2 e2 s2 => k σ2 H2 hn2 ((Ex.o [L] e1).trans e2) s2)
    | false => exact iteF (h2 rfl L D σ H1 hn (s.step e1) fun σ2 H2 hn2 e2 s2 => k σ2 H2 hn2 ((Ex.o [L] e1).trans e2) s2)
theorem dc_whenX {b : Bool} (h : EvDT O n tt (vwD ρ m ks) b) (h1 : b = true → ks = ks') (h2 : b = false → RunDcX O n m u ρ ks ks') : RunDcX O n m (tSeq (tIfS tt tRetN tNext) u) ρ ks ks' := fun L D σ H hn s k =>
  h σ H hn s.view _ fun H1 e1 => by
    cases b with
    | true =>
      obtain rfl := h1 rfl
      exact iteT (k H1 (Ex.o [L] e1) (s.step e1).hd).1
    | false => exact iteF (h2 rfl L D σ H1 hn (s.step e1) fun H2 e2 s2 => k H2 ((Ex.o [L] e1).trans e2) s2)
/-- d[k] = v -/
theorem dc_put (hv : EvD O n tv (vwD ρ m ks) d) (f : isFlat d = true) (hk : EvD O n ty (vwD ρ m ks) (keyD k)) (hl : ks.length ≤ 100000) : RunDc O n m (sDPut (tVar m) ty tv) ρ ks ρ (putD ks k d) := fun L D σ H hn s kk =>
  hv σ H hn s.view _ fun v H1 e1 d1 => by
    have s1 := s.step e1
    refine ⟨_, s1.at_, hk σ H1 hn s1.view _ fun u H2 e2 d2 => ?_⟩
    have s2 := s1.step e2
    obtain ⟨kvs, h1, h2⟩ := s2.hd
    rw [dq_key d2]
    refine ⟨L, _, rfl, DPut.k h1 (Nat.lt_of_le_of_lt (show kvs.length ≤ 100000 by rw [h2.length]; exact hl) (by decide)), ?_⟩
    exact kk σ _ hn ((Ex.o [L] (e1.trans e2)).trans (ExO.upd List.mem_cons_self)) (s2.other (h2.put (flat_dq d1 f)))
/-- d[k] = v, anything that doesn't read the dict -/
theorem dc_putO (hv : ∀ P, EvD P n tv ρ d) (hk : EvD O n ty (vwD ρ m ks) (keyD k)) (hl : ks.length ≤ 100000) : RunDc O n m (sDPut (tVar m) ty tv) ρ ks ρ (putD ks k d) := fun L D σ H hn s kk =>
  hv _ σ H hn s.sd _ fun v H1 e1 d1 => by
    have s1 := s.step e1
    refine ⟨_, s1.at_, hk σ H1 hn s1.view _ fun u H2 e2 d2 => ?_⟩
    have s2 := s1.step e2
    obtain ⟨kvs, h1, h2⟩ := s2.hd
    rw [dq_key d2]
    refine ⟨L, _, rfl, DPut.k h1 (Nat.lt_of_le_of_lt (show kvs.length ≤ 100000 by rw [h2.length]; exact hl) (by decide)), ?_⟩
    exact kk σ _ hn ((Ex.o [L] (e1.trans e2)).trans (ExO.upd List.mem_cons_self)) (s2.other (h2.put (d1.mono (Ex.o _ e2))))
/-- del d[k] -/
theorem dc_del (hk : EvD O n ty (vwD ρ m ks) (keyD k)) (hg : (getK ks k).isSome = true) : RunDc O n m (sDDel (tVar m) ty) ρ ks ρ (dropD ks k) := fun L D σ H hn s kk => by
  refine ⟨_, s.at_, hk σ H hn s.view _ fun u H2 e2 d2 => ?_⟩
  have s2 := s.step e2
  obtain ⟨kvs, h1, h2⟩ := s2.hd
  rw [dq_key d2]
  refine ⟨L, kvs, k, rfl, h1, rfl, ?_, kk σ _ hn ((Ex.o [L] e2).trans (ExO.upd List.mem_cons_self)) (s2.other h2.drop)⟩
  rcases h2.get k with ⟨_, z⟩ | ⟨v, d, z, _, _⟩
  · rw [z] at hg
    cases hg
  · rw [z]
    rfl
/-- a for over what isn't the dict -/
theorem dc_for (hw : ∀ O', IterD O' n wi ρ es) (R : Nat → Rho × Dk) (h0 : R 0 = (ρ, ks)) (hs : ∀ (P : List Addr) i d, es[i]? = some d → ∃ ρ', TgD P n vs g (R i).1 d ρ' ∧ m ∉ vs ∧ ρ'[m]? = some none ∧ RunDc O n m tb ρ' (R i).2 (R (i + 1)).1 (R (i + 1)).2) :
    RunDc O n m (tFor wi g tb) ρ ks (R es.length).1 (R es.length).2 := fun L D σ H hn s k => hw (L :: O) σ H hn s.sd _ fun J H1 G Y e1 W g1 gk yk => by
  have s1 := s.step e1
  refine for_it (W (L :: O)) (fun i σ2 H2 => σ2.length = n ∧ ExO [L] H1 H2 ∧ SDD O L m (R i).2 H2 σ2 (R i).1) ⟨hn, ExO.refl _ _, by rw [h0]; exact s1⟩ (fun i σ2 H2 _ p => gk _ _ _ _ g1 (p.2.1.less fun a ha => by rw [List.mem_singleton.mp ha]; exact List.mem_cons_self)) ?_ ?_
  · rintro i x σ2 H2 H3 hi ⟨l2, x2, s2⟩ y
    obtain ⟨e3, d, hdi, hx⟩ := yk (L :: O) i H2 x H3 hi s2.sd.own (gk _ _ _ _ g1 (x2.less fun a ha => by rw [List.mem_singleton.mp ha]; exact List.mem_cons_self)) y
    obtain ⟨ρ', ht, hmv, hfree, hb⟩ := hs (L :: O) i d hdi
    have s3 := s2.step e3
    refine ht σ2 H3 x l2 s3.sd hx _ fun σ' hl' hout s' => ?_
    refine hb L _ σ' H3 hl' ⟨s', by rw [hout m hmv]; exact s3.at_, s3.hd, s3.nL, hfree⟩ fun σ4 H4 hl4 e4 s4 => ⟨hl4, (x2.trans (Ex.o [L] e3)).trans e4, s4⟩
  · rintro σ2 H2 ⟨l2, x2, s2⟩
    exact k σ2 H2 l2 ((Ex.o [L] e1).trans x2) s2
/-- some slots forgotten -/
theorem dc_less (h : RunDc O n m t ρ ks ρ1 ks1) (w : ∀ (i : Nat) (d : PyData), ρ'[i]? = some (some d) → ρ1[i]? = some (some d)) (wo : ρ'[m]? = some none) : RunDc O n m t ρ ks ρ' ks1 := fun L D σ H hn s k =>
  h L D σ H hn s fun σ1 H1 hn1 e1 s1 => k σ1 H1 hn1 e1 ⟨⟨s1.sd.own, fun i d hd => s1.sd.at' i d (w i d hd)⟩, s1.at_, s1.hd, s1.nL, wo⟩
/-! ### defs that answer with a new dict, or change one -/
def spKn (R : List PyData → Dk → Prop) : Sp := fun vs H Q _ => ∃ (O : List Addr) (ds : List PyData) (ks : Dk), (∀ a, a ∈ O → H a ≠ none) ∧ DqAll (sub H O) vs ds ∧ R ds ks ∧ ∀ p kvs H', Ex H H' → H' p = none → DkP (sub H' O) kvs ks → Q (.ref p) (upd H' p (.dK kvs))
def spK (R : Dk → List PyData → Dk → Prop) : Sp := fun vs H Q _ => ∃ (O : List Addr) (L : Addr) (kvs : List (Key × V)) (us : List V) (ks : Dk) (rs : List PyData) (ks' : Dk), vs = .ref L :: us ∧ (∀ a, a ∈ L :: O → H a ≠ none) ∧ L ∉ O ∧ H L = some (.dK kvs) ∧ DkP (sub H (L :: O)) kvs ks ∧ DqAll (sub H (L :: O)) us rs ∧ R ks rs ks' ∧
  ∀ H' kvs', ExO [L] H H' → H' L = some (.dK kvs') → DkP (sub H' (L :: O)) kvs' ks' → Q .non H'
theorem upd_back {H : Hp} {L : Addr} {o : HO} (h : H L = some o) : upd (sub H [L]) L o = H ∧ sub H [L] L = none := by
  have n : sub H [L] L = none := by
    cases z : sub H [L] L with
    | none => rfl
    | some o => exact absurd (List.mem_singleton.mpr rfl) (sub_of z).2
  refine ⟨?_, n⟩
  funext a
  by_cases c : a = L
  · rw [c, upd_same, h]
  · rw [upd_ne c]
    have na : a ∉ [L] := fun z => c (List.mem_singleton.mp z)
    cases z : H a with
    | some o => exact sub_mk z na
    | none =>
      cases z2 : sub H [L] a with
      | none => rfl
      | some o =>
        have := (sub_of z2).1
        rw [z] at this
        cases this
theorem ed_callKn {R : List PyData → Dk → Prop} (h : EvDA O n tr ρ es) (hR : R es ks) : EvD O n (tCall (spKn R) [] E tr) ρ (dcD ks) := fun σ H hn s Q q =>
  h σ H hn s _ fun vs H1 e1 d1 => ⟨O, es, ks, own_ex e1 s.own, by rw [List.append_nil]; exact d1, hR, fun p kvs H2 e2 np d2 => q _ _ ((e1.trans e2).trans (Ex.new np)) (dq_mk (sub_mk upd_same (not_own (own_ex (e1.trans e2) s.own) np)) (d2.mono (Ex.o O (Ex.new np))))⟩
/-- d = {}, new -/
theorem dc_new (hm : m < n) (hr : m < ρ.length) (h2 : RunDcR O n m u (ρ.set m none) [] d) : RunR O n (tSeq (tAsg tDNewK (gName m)) u) ρ d := fun D σ H hn s k L nL => by
  have x2 : Ex H (upd H L (.dK [])) := Ex.new nL
  have nLO : L ∉ O := not_own s.own nL
  refine h2 L D (σ.set m (some (.ref L))) _ (by rw [List.length_set]; exact hn) ⟨(s.more x2 nL upd_same).forget, by rw [List.getElem?_set_self (by omega)], ⟨[], upd_same, .nil⟩, nLO, by rw [List.getElem?_set_self hr]⟩ fun v H3 e3 d3 => ?_
  refine k v H3 (fun y o hy => ?_) d3
  have ne : y ≠ L := ne_of_none hy nL
  exact e3.at (x2 y o hy) fun z => ne (List.mem_singleton.mp z)
/-- x, d = e, a new dict -/
theorem dc_par {R : List PyData → Dk → Prop} (he : EvD O n te ρ d) (h : EvDA O n tr ρ es) (hR : R es ks) (hi : i < n) (hm : m < n) (hr : m < ρ.length) (him : i ≠ m) {dd : PyData} (h2 : RunDcR O n m u ((ρ.set i (some d)).set m none) ks dd) : RunR O n (tSeq (tPar i m (tCons te (tCons (tCall (spKn R) [] E tr) tNil))) u) ρ dd := fun D σ H hn s k =>
  he σ H hn s _ fun v H1 e1 d1 => h σ H1 hn (s.ex e1) _ fun us H2 e2 d2 => by
    refine ⟨O, es, ks, own_ex (e1.trans e2) s.own, by rw [List.append_nil]; exact d2, hR, fun L kvs H3 e3 nL d3 => ⟨_, _, rfl, ?_⟩⟩
    have s3 := ((s.ex e1).ex e2).ex e3
    have x4 : Ex H3 (upd H3 L (.dK kvs)) := Ex.new nL
    have nLO : L ∉ O := not_own s3.own nL
    have d1' : Dq (sub (upd H3 L (.dK kvs)) (L :: O)) v d := (d1.mono (Ex.o O (e2.trans e3))).mono (ex_more x4 nL)
    have s4 : SD (L :: O) (upd H3 L (.dK kvs)) ((σ.set i (some v)).set m (some (.ref L))) ((ρ.set i (some d)).set m none) := ((s3.more x4 nL upd_same).set d1' (by omega)).forget
    refine h2 L D _ _ (by rw [List.length_set, List.length_set]; exact hn) ⟨s4, by rw [List.getElem?_set_self (by rw [List.length_set]; omega)], ⟨kvs, upd_same, d3.mono (ex_more x4 nL)⟩, nLO, by rw [List.getElem?_set_self (by rw [List.length_set]; exact hr)]⟩ fun w H5 e5 d5 => ?_
    refine k w H5 (fun y o hy => ?_) d5
    have hy3 := ((e1.trans e2).trans e3) y o hy
    have ne : y ≠ L := ne_of_none hy3 nL
    exact e5.at (x4 y o hy3) fun z => ne (List.mem_singleton.mp z)
/-- f(d, e), a def that changes the dict -/
theorem dc_call {R : Dk → List PyData → Dk → Prop} (h : EvDA O n tr (vwD ρ m ks) rs) (f : rs.all isFlat = true) (hR : R ks rs ks') : RunDc O n m (tDrop (tCall (spK R) [] E (tCons (tVar m) tr))) ρ ks ρ ks' := fun L D σ H hn s k => by
  refine ⟨_, s.at_, h σ H hn s.view _ fun us H1 e1 d1 => ?_⟩
  have s1 := s.step e1
  obtain ⟨kvs, h1, h2⟩ := s1.hd
  show spK R ((.ref L :: us) ++ []) H1 _ _
  rw [List.append_nil]
  refine ⟨O, L, kvs, us, ks, rs, ks', rfl, s1.sd.own, s1.nL, h1, h2, flat_all d1 f, hR, fun H2 kvs' e2 hL d2 => ?_⟩
  have le : Ex (sub H1 (L :: O)) (sub H2 (L :: O)) := e2.less fun a ha => by rw [List.mem_singleton.mp ha]; exact List.mem_cons_self
  refine k σ H2 hn ((Ex.o [L] e1).trans e2) ⟨⟨fun a ha z => ?_, fun i d hd => ?_⟩, s1.at_, ⟨kvs', hL, d2⟩, s1.nL, s1.free⟩
  · by_cases c : a = L
    · rw [c, hL] at z
      cases z
    · cases z3 : H1 a with
      | none => exact s1.sd.own a ha z3
      | some o =>
        have := e2.at z3 fun w => c (List.mem_singleton.mp w)
        rw [z] at this
        cases this
  · obtain ⟨v, q1, q2⟩ := s1.sd.at' i d hd
    exact ⟨v, q1, q2.mono le⟩
end
section
variable {P : Program} {w : World} {K : PySem.W.Frag} {mg : Str → Option Value} {base : Heap}
theorem pure_okKn {R : List PyData → Dk → Prop} {x qual : Str} {st : Stmt} {f : Addr} {fd : FuncData} {N ps : List Str} {k m : Nat} (F : Fun K x qual st f fd) (S : FnScope N ps (defScope st)) (hl : ∀ ds ks, R ds ks → ds.length = ps.length) (hp : ps.length ≤ N.length) (hm : m < N.length) (hm2 : ps.length ≤ m)
    (body : ∀ (cdv : Value) (A : Around) (outer : List Env) (s : Shared) (H : Hp) (E : XK), Room k (A.deeper (envOfC qual (defScope st) s.heap.objs.size f cdv)) →
      ∃ t, PSs (cxOf CX0 P w K mg base N qual (defScope st) f cdv A outer s H E).nox (defBody st) (tSeq (tAsg tDNewK (gName m)) (tSeq t (tRet (tVar m)))) ∧ ∀ O ds ks, R ds ks → ∃ ρ', RunDc O N.length m t (argR N ds) [] ρ' ks) : FnOk P w K mg base CX0 (k + 1) f fd ps (spKn R) := by
  refine F.ok S (fun vs H Q E h => ?_) (fun cdv A outer s H vs Q E hr h => ?_)
  · obtain ⟨O, ds, ks, _, hd, hR, _⟩ := h
    rw [hd.length]
    exact hl ds ks hR
  · obtain ⟨t, ht, hb⟩ := body cdv A outer s H E hr
    obtain ⟨O, ds, ks, ho, hd, hR, q⟩ := h
    obtain ⟨ρ', hb⟩ := hb O ds ks hR
    have ld := hl ds ks hR
    have sl : (L2.start N vs).length = N.length := start_len (by rw [hd.length, ld]; exact hp)
    have s0 : SD O H (L2.start N vs) (argR N ds) := sd_start ho hd
    have fr : (argR N ds)[m]? = some none := by
      unfold argR
      rw [List.getElem?_append_right (by rw [List.length_map]; omega), List.getElem?_replicate, if_pos (by rw [List.length_map]; omega)]
    refine ⟨_, ht, fun L nL => ?_⟩
    have x2 : Ex H (upd H L (.dK [])) := Ex.new nL
    have nLO : L ∉ O := not_own s0.own nL
    have ml : m < (argR N ds).length := (List.getElem?_eq_some_iff.mp fr).1
    have s1 := (s0.more x2 nL upd_same).forget (i := m) (o := some (.ref L))
    have er : (argR N ds).set m none = argR N ds := by
      refine List.ext_getElem? fun i => ?_
      by_cases c : m = i
      · subst c
        rw [List.getElem?_set_self ml, fr]
      · rw [List.getElem?_set_ne c]
    rw [er] at s1
    refine hb L _ ((L2.start N vs).set m (some (.ref L))) _ (by rw [List.length_set]; exact sl) ⟨s1, by rw [List.getElem?_set_self (by rw [sl]; exact hm)], ⟨[], upd_same, .nil⟩, nLO, fr⟩ fun σ3 H3 l3 e3 s3 => ?_
    obtain ⟨kvs, h1, h2⟩ := s3.hd
    refine ⟨_, s3.at_, ?_⟩
    obtain ⟨u1, u2⟩ := upd_back h1
    have r := q L kvs (sub H3 [L]) (fun y o hy => ?_) u2 (h2.mono fun a o ha => ?_)
    · rw [u1] at r
      exact r
    · have ne : y ≠ L := ne_of_none hy nL
      exact sub_mk (e3.at (x2 y o hy) fun z => ne (List.mem_singleton.mp z)) fun z => ne (List.mem_singleton.mp z)
    · obtain ⟨q1, q2⟩ := sub_of ha
      exact sub_mk (sub_mk q1 fun z => q2 (by rw [List.mem_singleton.mp z]; exact List.mem_cons_self)) fun z => q2 (List.mem_cons_of_mem _ z)
theorem chd_ok {R : Dk → List PyData → Dk → Prop} {x qual : Str} {st : Stmt} {f : Addr} {fd : FuncData} {N ps : List Str} {k : Nat} (F : Fun K x qual st f fd) (S : FnScope N ps (defScope st)) (hl : ∀ ks rs ks', R ks rs ks' → rs.length + 1 = ps.length) (hp : ps.length ≤ N.length)
    (body : ∀ (cdv : Value) (A : Around) (outer : List Env) (s : Shared) (H : Hp) (E : XK), Room k (A.deeper (envOfC qual (defScope st) s.heap.objs.size f cdv)) →
      ∃ t, PSs (cxOf CX0 P w K mg base N qual (defScope st) f cdv A outer s H E).nox (defBody st) t ∧ ∀ O ks rs ks', R ks rs ks' → RunDcX O N.length 0 t (Option.none :: (rs.map some ++ List.replicate (N.length - (rs.length + 1)) Option.none)) ks ks') : FnOk P w K mg base CX0 (k + 1) f fd ps (spK R) := by
  refine F.ok S (fun vs H Q E h => ?_) (fun cdv A outer s H vs Q E hr h => ?_)
  · obtain ⟨O, L, kvs, us, ks, rs, ks', rfl, _, _, _, _, hd, hR, _⟩ := h
    show us.length + 1 = _
    rw [hd.length]
    exact hl _ _ _ hR
  · obtain ⟨t, ht, hb⟩ := body cdv A outer s H E hr
    obtain ⟨O, L, kvs, us, ks, rs, ks', rfl, ho, hLO, hL, hx, hu, hR, q⟩ := h
    have len := hl _ _ _ hR
    have ul := hu.length
    have sl : (L2.start N (V.ref L :: us)).length = N.length := start_len (by show us.length + 1 ≤ _; omega)
    have sd : SD (L :: O) H (L2.start N (V.ref L :: us)) (Option.none :: (rs.map some ++ List.replicate (N.length - (rs.length + 1)) Option.none)) := by
      have q1 : SD (L :: O) H (L2.start (N.drop 1) us) (argR (N.drop 1) rs) := sd_start ho hu
      refine ⟨ho, fun i d e => ?_⟩
      cases i with
      | zero => cases e
      | succ i =>
        have e2 : (argR (N.drop 1) rs)[i]? = some (some d) := by
          unfold argR
          rw [List.length_drop]
          rw [show N.length - 1 - rs.length = N.length - (rs.length + 1) by omega]
          simpa using e
        obtain ⟨v, h1, h2⟩ := q1.at' i d e2
        refine ⟨v, ?_, h2⟩
        unfold L2.start at h1 ⊢
        rw [List.length_drop] at h1
        have e3 : N.length - (V.ref L :: us).length = N.length - 1 - us.length := by
          show N.length - (us.length + 1) = _
          omega
        rw [e3]
        simpa using h1
    exact ⟨t, ht, hb O ks rs ks' hR L _ _ H sl ⟨sd, rfl, ⟨kvs, hL, hx⟩, hLO, rfl⟩ fun H' e ⟨kvs', h1, h2⟩ => ⟨q H' kvs' e h1 h2, fun σ' => q H' kvs' e h1 h2⟩⟩
end
end DL
/-! DEX: an own dict in a def that may raise; a raising def called where nothing is raised; try .. except of one class, and what is read behind it. -/
namespace DL
open PySem L2 Evl PyProof.Rows TL RZ
/-- what is wanted where C with f = k is raised, beside an own dict at L -/
def OutL (L : Addr) (C : Addr) (f : Str) (H : Hp) (E : XK) (k : Int) : Prop := ∀ (dd : Addr) (H' : Hp), ExO [L] H H' → H dd = none → H' dd = some (.xd [(f, V.int k)]) → E (.ref C) (some dd) H'
theorem OutL.step {L C : Addr} {f : Str} {H H1 : Hp} {E : XK} {k : Int} (o : OutL L C f H E k) (e : ExO [L] H H1) (hL : H1 L ≠ none) : OutL L C f H1 E k := fun dd H' e2 n2 h2 => by
  refine o dd H' (e.trans e2) ?_ h2
  cases z : H dd with
  | none => rfl
  | some u =>
    have nd : dd ≠ L := fun w => hL (by rw [← w]; exact n2)
    have := e.at z fun w => nd (List.mem_singleton.mp w)
    rw [n2] at this
    cases this
theorem OutL.out {L C : Addr} {f : Str} {H : Hp} {E : XK} {k : Int} (o : OutL L C f H E k) : Out C f H E k := fun dd H' e n h => o dd H' (Ex.o [L] e) n h
section
variable (O : List Addr) (n m : Nat) (C : Addr) (f : Str) (E : XK)
def RunDcE (t : TS) (ρ : Rho) (ks : Dk) (k : Int) : Prop := ∀ (L : Addr) (D : Ends) (σ : L2.St) (H : Hp), σ.length = n → SDD O L m ks H σ ρ → OutL L C f H E k → t D σ H
def RunDcY (t : TS) (ρ : Rho) (ks : Dk) (r : PyData ⊕ Int) : Prop := match r with
  | .inl d => RunDcR O n m t ρ ks d
  | .inr k => RunDcE O n m C f E t ρ ks k
end
section
variable {O : List Addr} {n m i : Nat} {ρ ρ1 ρ' : Rho} {ks ks1 ks' : Dk} {d : PyData} {r : PyData ⊕ Int} {te : TE} {tt : TT} {t u tb : TS} {wi : TI} {g : TG} {vs : List Nat} {es : List PyData} {tr : TA} {C : Addr} {f : Str} {E : XK} {k : Int} {E0 : XK}
theorem SDD.hL {L : Addr} {H : Hp} {σ : L2.St} (s : SDD O L m ks H σ ρ) : H L ≠ none := fun z => by
  obtain ⟨kvs, h, _⟩ := s.hd
  rw [z] at h
  cases h
theorem dce_of (h : RunE O n C f E t (vwD ρ m ks) k) : RunDcE O n m C f E t ρ ks k := fun L D σ H hn s o => h D σ H hn s.view o.out
theorem dce_when {b : Bool} (h : EvDT O n tt (vwD ρ m ks) b) (hb : b = true) (h1 : RunDcE O n m C f E t ρ ks k) : RunDcE O n m C f E (tSeq (tIfS tt t tNext) u) ρ ks k := fun L D σ H hn s o =>
  h σ H hn s.view _ fun H1 e1 => by
    subst hb
    exact iteT (h1 L _ σ H1 hn (s.step e1) (o.step (Ex.o [L] e1) (s.step e1).hL))
/-- a for whose m'-th turn raises, or that runs through, and what follows it -/
theorem dcy_for {q : Nat} (hw : ∀ O', IterD O' n wi ρ es) (R : Nat → Rho × Dk) (h0 : R 0 = (ρ, ks)) (hs : ∀ (P : List Addr) i d, i < q → es[i]? = some d → ∃ ρ', TgD P n vs g (R i).1 d ρ' ∧ m ∉ vs ∧ ρ'[m]? = some none ∧ RunDc O n m tb ρ' (R i).2 (R (i + 1)).1 (R (i + 1)).2)
    (hx : q < es.length → ∃ k, r = .inr k ∧ ∀ (P : List Addr) d, es[q]? = some d → ∃ ρ', TgD P n vs g (R q).1 d ρ' ∧ m ∉ vs ∧ ρ'[m]? = some none ∧ RunDcE O n m C f E tb ρ' (R q).2 k)
    (he : es.length ≤ q → RunDcY O n m C f E u (R es.length).1 (R es.length).2 r) : RunDcY O n m C f E (tSeq (tFor wi g tb) u) ρ ks r := by
  by_cases c : q < es.length
  · obtain ⟨k, rfl, hx2⟩ := hx c
    intro L D σ H hn s o
    refine hw (L :: O) σ H hn s.sd _ fun J H1 G Y e1 W g1 gk yk => ?_
    have s1 := s.step e1
    refine for_it (W (L :: O)) (fun i σ2 H2 => i ≤ q ∧ σ2.length = n ∧ ExO [L] H1 H2 ∧ SDD O L m (R i).2 H2 σ2 (R i).1) ⟨Nat.zero_le _, hn, ExO.refl _ _, by rw [h0]; exact s1⟩ (fun i σ2 H2 _ p => gk _ _ _ _ g1 (p.2.2.1.less fun a ha => by rw [List.mem_singleton.mp ha]; exact List.mem_cons_self)) ?_ ?_
    · rintro i x σ2 H2 H3 hi ⟨iq, l2, x2, s2⟩ y
      obtain ⟨e3, d, hdi, hx3⟩ := yk (L :: O) i H2 x H3 hi s2.sd.own (gk _ _ _ _ g1 (x2.less fun a ha => by rw [List.mem_singleton.mp ha]; exact List.mem_cons_self)) y
      have s3 := s2.step e3
      by_cases c2 : i = q
      · subst c2
        obtain ⟨ρ', ht, hmv, hfree, hb⟩ := hx2 (L :: O) d hdi
        refine ht σ2 H3 x l2 s3.sd hx3 _ fun σ' hl' hout s' => ?_
        have s4 : SDD O L m (R i).2 H3 σ' ρ' := ⟨s', by rw [hout m hmv]; exact s3.at_, s3.hd, s3.nL, hfree⟩
        exact hb L _ σ' H3 hl' s4 (o.step ((Ex.o [L] e1).trans (x2.trans (Ex.o [L] e3))) s4.hL)
      · obtain ⟨ρ', ht, hmv, hfree, hb⟩ := hs (L :: O) i d (by omega) hdi
        refine ht σ2 H3 x l2 s3.sd hx3 _ fun σ' hl' hout s' => ?_
        refine hb L _ σ' H3 hl' ⟨s', by rw [hout m hmv]; exact s3.at_, s3.hd, s3.nL, hfree⟩ fun σ4 H4 hl4 e4 s4 => ⟨by omega, hl4, (x2.trans (Ex.o [L] e3)).trans e4, s4⟩
    · rintro σ2 H2 ⟨iq, l2, x2, s2⟩
      omega
  · have q1 := he (by omega)
    have run := dc_for (tb := tb) hw R h0 fun P i d hd => hs P i d (by have := (List.getElem?_eq_some_iff.mp hd).1; omega) hd
    cases r with
    | inl d => exact dc_seqR run q1
    | inr k =>
      intro L D σ H hn s o
      exact run L _ σ H hn s fun σ1 H1 hn1 e1 s1 => q1 L D σ1 H1 hn1 s1 (o.step e1 s1.hL)
def RunY (O : List Addr) (n : Nat) (C : Addr) (f : Str) (E : XK) (t : TS) (ρ : Rho) (r : PyData ⊕ Int) : Prop := match r with
  | .inl d => RunR O n t ρ d
  | .inr k => RunE O n C f E t ρ k
theorem of_runY : RunY O n C f E t ρ r → match r with
  | .inl d => RunR O n t ρ d
  | .inr k => RunE O n C f E t ρ k := by
  intro h
  cases r <;> exact h
/-- x, d = e, a new dict, and what follows -/
theorem dcy_par {R : List PyData → Dk → Prop} (hE : EvD O n te ρ d) (h : EvDA O n tr ρ es) (hR : R es ks) (hi : i < n) (hm : m < n) (hr : m < ρ.length) (him : i ≠ m) (h2 : RunDcY O n m C f E u ((ρ.set i (some d)).set m none) ks r) : RunY O n C f E (tSeq (tPar i m (tCons te (tCons (tCall (spKn R) [] E0 tr) tNil))) u) ρ r := by
  cases r with
  | inl dd => exact dc_par hE h hR hi hm hr him h2
  | inr k =>
    intro D σ H hn s o
    refine hE σ H hn s _ fun v H1 e1 d1 => h σ H1 hn (s.ex e1) _ fun us H2 e2 d2 => ?_
    refine ⟨O, es, ks, own_ex (e1.trans e2) s.own, by rw [List.append_nil]; exact d2, hR, fun L kvs H3 e3 nL d3 => ⟨_, _, rfl, ?_⟩⟩
    have s3 := ((s.ex e1).ex e2).ex e3
    have x4 : Ex H3 (upd H3 L (.dK kvs)) := Ex.new nL
    have nLO : L ∉ O := not_own s3.own nL
    have d1' : Dq (sub (upd H3 L (.dK kvs)) (L :: O)) v d := (d1.mono (Ex.o O (e2.trans e3))).mono (ex_more x4 nL)
    have s4 : SD (L :: O) (upd H3 L (.dK kvs)) ((σ.set i (some v)).set m (some (.ref L))) ((ρ.set i (some d)).set m none) := ((s3.more x4 nL upd_same).set d1' (by omega)).forget
    refine h2 L D _ _ (by rw [List.length_set, List.length_set]; exact hn) ⟨s4, by rw [List.getElem?_set_self (by rw [List.length_set]; omega)], ⟨kvs, upd_same, d3.mono (ex_more x4 nL)⟩, nLO, by rw [List.getElem?_set_self (by rw [List.length_set]; exact hr)]⟩ fun dd H5 e5 n5 h5 => ?_
    have nd : dd ≠ L := fun w => by
      rw [w, upd_same] at n5
      cases n5
    have n3 : H3 dd = none := by
      rw [upd_ne nd] at n5
      exact n5
    refine o dd H5 (fun y oo hy => ?_) ?_ h5
    · have hy3 := ((e1.trans e2).trans e3) y oo hy
      have ne : y ≠ L := ne_of_none hy3 nL
      exact e5.at (x4 y oo hy3) fun z => ne (List.mem_singleton.mp z)
    · cases z : H dd with
      | none => rfl
      | some w =>
        have := ((e1.trans e2).trans e3) dd w z
        rw [n3] at this
        cases this
end
/-- a def that may raise, where it doesn't -/
theorem calm_of {P : Program} {w : World} {K : PySem.W.Frag} {mg : Str → Option Value} {base : Heap} {k : Nat} {f : Addr} {fd : FuncData} {ps : List Str} {sp sp' : Sp} (F : FnOk P w K mg base (L2.CX P w) k f fd ps sp)
    (h : ∀ vs H Q E, sp' vs H Q E → sp vs H Q (fun _ _ _ => False)) : FnOk P w K mg base CX0 k f fd ps sp' :=
  ⟨fun vs H Q E q => F.len vs H Q _ (h _ _ _ _ q), fun A outer s H args us vs Q E hr he hb hv hs => codeAny_mono (F.run A outer s H args us vs Q _ hr he hb hv (h _ _ _ _ hs)) fun r s' q => by
    cases r with
    | ok x => cases x <;> exact q
    | error e =>
      obtain ⟨_, _, _, _, _, _, _, _, _, _, _, _, z⟩ := q
      exact z.elim⟩
theorem calm_D {P : Program} {w : World} {K : PySem.W.Frag} {mg : Str → Option Value} {base : Heap} {k : Nat} {f : Addr} {fd : FuncData} {ps : List Str} {C : Addr} {g : Str} {R : List PyData → PyData ⊕ Int → Prop} {R' : List PyData → PyData → Prop} (F : FnOk P w K mg base (L2.CX P w) k f fd ps (spDX C g R))
    (h : ∀ ds d, R' ds d → R ds (.inl d)) : FnOk P w K mg base CX0 k f fd ps (spD R') :=
  calm_of F fun vs H Q E ⟨O, ds, d, h1, h2, h3, h4⟩ => ⟨O, ds, .inl d, h1, h2, h _ _ h3, h4⟩
section
variable {O : List Addr} {n i j : Nat} {ρ ρ1 : Rho} {C : Addr} {f : Str} {k : Int} {d : PyData} {te tf : TE} {tt : TT} {b : Bool} {c1 : Value} {ts : Addr → Value → Option Addr → TS} {tb : WX → TS} {u : TS} {K : PySem.W.Frag}
theorem ek_ifT (h : EvDT O n tt ρ b) (hb : b = true) (h1 : EvK O n j C f k te ρ d) : EvK O n j C f k (tIf tt te tf) ρ d := fun σ H hn s p Q q => h σ H hn s _ fun H1 e1 => by
  subst hb
  exact iteT (h1 σ H1 hn (s.ex e1) (p.ex e1) Q fun v H2 e2 d2 => q v H2 (e1.trans e2) d2)
theorem rn_try1 (h : ∀ W, RunN O n (tb W) ρ ρ1) : RunN O n (fun D σ H => tb (wKeep K c1 i ts D) D σ H) ρ ρ1 := fun D σ H hn s q => h _ D σ H hn s q
/-- its body raises; the suite keeps the exception in slot j -/
theorem rr_try1 (hx : ∀ (W : WX) (D : Ends) (σ : L2.St) (H : Hp), σ.length = n → SD O H σ ρ → Out C f H (fun cls d H' => W cls d σ H') k → tb W D σ H)
    (hts : ∀ a cls d, ts a cls d = tAsg (tVar i) (gName j)) (hm : PySem.W.exmOne K (.ref C) c1 = some true) (hi : i < n) (hj : j < n) (hij : i ≠ j)
    (h2 : RunK O n j C f k u ((ρ.set j none).set i none) d) : RunR O n (tSeq (fun D σ H => tb (wKeep K c1 i ts D) D σ H) u) ρ d := fun D σ H hn s q => by
  refine hx _ _ σ H hn s fun dd H' e1 nd hd => ⟨hm, fun a na => ?_⟩
  rw [hts]
  have li : i < σ.length := by rw [hn]; exact hi
  refine ⟨.ref a, List.getElem?_set_self li, fun na2 => ?_⟩
  have x3 : Ex H' (upd H' a (exk a (.ref C) (some dd))) := Ex.new na
  have x13 := e1.trans x3
  refine h2 D _ _ (by rw [List.length_set, List.length_set, List.length_set]; exact hn) ?_ ⟨a, dd, ?_, upd_same, x3 _ _ hd⟩ fun v H3 e3 d3 => q v H3 (x13.trans e3) d3
  · refine ⟨own_ex x13 s.own, fun l x hl => ?_⟩
    by_cases c : i = l
    · subst c
      by_cases hb : i < (ρ.set j none).length
      · rw [List.getElem?_set_self hb] at hl
        cases hl
      · rw [List.getElem?_eq_none (by rw [List.length_set]; omega)] at hl
        cases hl
    · rw [List.getElem?_set_ne c] at hl
      by_cases c2 : j = l
      · subst c2
        by_cases hb : j < ρ.length
        · rw [List.getElem?_set_self hb] at hl
          cases hl
        · rw [List.getElem?_eq_none (by rw [List.length_set]; omega)] at hl
          cases hl
      · rw [List.getElem?_set_ne c2] at hl
        obtain ⟨v, h1, h3⟩ := s.at' l x hl
        exact ⟨v, by rw [List.getElem?_set_ne c, List.getElem?_set_ne c2, List.getElem?_set_ne c]; exact h1, h3.mono (Ex.o O x13)⟩
  · rw [List.getElem?_set_ne hij, List.getElem?_set_self (by rw [List.length_set]; omega)]
end
end DL

/-! ### enumerate of a list or a tuple -/
namespace DL
open PySem PySem.Spec PyProof.Rows PySem.Calls L2
def iEnumS (K : PySem.W.Frag) (ta : TA) : TI := fun σ H R => ta σ H fun vs H1 => ∃ a xs, vs = [.ref a] ∧ ((SqL K H1 a xs ∧ R (Ite K a) H1) ∨ (SqT K H1 a xs ∧ R (IteT K a) H1))
theorem pi_enumS {X : Cx} {e : Expr} {ta : TA} {p pos tpos : Pos} {elts : List Expr} {kk : Nat} (hg : Gl X "enumerate") (hm : X.mg "enumerate" = none) (ha : PA X [e] ta)
    (hs : starEach [e] X.env = [(false, eval e X.env)] := by rfl) : PI X (.Tuple elts kk tpos) (.Call (.Name "enumerate" p) [e] [] pos) (iEnumS X.K ta) := by
  refine ⟨fun pins s σ H R I h => Call_ (ld_blt I hg hm boot_enumerate (callWith_type1 (thn (ha.run pos pins s σ H _ I h) fun us s1 hh => ?_) hs rfl))⟩
  obtain ⟨vs, H1, I1, r1, a, xs, ex, hq⟩ := hh
  subst ex
  cases r1 with
  | cons r rr =>
    cases rr
    cases r
    have fp : ∀ b, b ∈ [s1.heap.objs.size + 1, s1.heap.objs.size] → FpOk X pins H1 b := fun b hb => by
      have hle : s1.heap.objs.size ≤ b := by
        rcases List.mem_cons.mp hb with rfl | hb
        · exact Nat.le_add_right _ _
        · rw [List.mem_singleton.mp hb]
          exact Nat.le_refl _
      exact I1.fpOk hle (I1.hok.fresh hle)
    rcases hq with ⟨hq, q⟩ | ⟨hq, q⟩
    · obtain ⟨its, rv, p', hz⟩ := I1.list hq
      refine call_enumerate_list p'.isList fun h' he hit hsz hk => wpAny_pyIter_enum he ?_
      have I2 : Inv X pins σ H1 { s1 with heap := h' } := I1.kept (t' := s1.toks) hk
      exact ⟨s1.heap.objs.size + 1, [s1.heap.objs.size + 1, s1.heap.objs.size], _, _, H1, rfl, I2, turn_enum a (s1.heap.objs.size + 1) s1.heap.objs.size, ⟨⟨.none, he⟩, hit, Nat.succ_ne_self _⟩, fp, q⟩
    · obtain ⟨its, rv, p', hz⟩ := I1.tuple hq
      have pT : s1.heap.IsTuple a its.toArray := p'
      refine enum_begins1 (begins_tuple a its.toArray) pT fun h' he hit hk => wpAny_pyIter_enum he ?_
      have I2 : Inv X pins σ H1 { s1 with heap := h' } := I1.kept (t' := s1.toks) hk
      have hti : h'.IsTupleIter s1.heap.objs.size a 0 := ⟨_, hit, rfl, rfl⟩
      exact ⟨s1.heap.objs.size + 1, [s1.heap.objs.size + 1, s1.heap.objs.size], _, _, H1, rfl, I2, turn_enumT a (s1.heap.objs.size + 1) s1.heap.objs.size, ⟨⟨.none, he⟩, hti, Nat.succ_ne_self _⟩, fp, q⟩
theorem kiEnumS {X : Cx} {K : PySem.W.Frag} {e : Expr} {ta : TA} {p pos tpos : Pos} {elts : List Expr} {kk : Nat} (hK : X.K = K) (hg : Gl X "enumerate") (hm : X.mg "enumerate" = none) (ha : PA X [e] ta)
    (hs : starEach [e] X.env = [(false, eval e X.env)] := by rfl) : PI X (.Tuple elts kk tpos) (.Call (.Name "enumerate" p) [e] [] pos) (iEnumS K ta) := by
  subst hK
  exact pi_enumS hg hm ha hs
end DL
namespace DL
open PySem L2 Evl PyProof.Rows TL RZ
theorem it_enumS {O : List Addr} {n : Nat} {ρ : Rho} {te : TE} {x : PyData} {ds : List PyData} {K : PySem.W.Frag} (hs : SeqD x ds) (h : EvD O n te ρ x) : IterD O n (iEnumS K (tCons te tNil)) ρ (enumD ds) := fun σ H hn s R q => h σ H hn s _ fun v H1 e1 d1 => by
  have l : (enumD ds).length = ds.length := by
    unfold enumD
    rw [List.length_zipWith, List.length_range, Nat.min_self]
  cases hs with
  | lst =>
    cases d1 with
    | @lst a xs _ ha k =>
      refine ⟨a, xs, rfl, .inl ⟨sq_of (sub_of ha).1, q (Ite K a) H1 (fun P H2 => sub H2 P a = some (.lst xs) ∧ DqAll (sub H2 P) xs ds) (YPair (fun i => some (.int (i : Nat))) (fun i => xs[i]?)) e1 (fun P => ?_) ⟨ha, k⟩ (fun P P' H2 H3 g e => ⟨e _ _ g.1, g.2.mono e⟩) ?_⟩⟩
      · rw [l, ← k.length]
        exact walk_enum.mono (fun H2 g => sq_of (sub_of g.1).1) fun _ _ _ _ _ _ y => y
      · rintro P i H2 x H3 hi ho ⟨g1, g2⟩ ⟨T, x1, x2, rfl, hT, hH, q1, q2⟩
        rw [l] at hi
        obtain ⟨d, h1, h2⟩ := g2.getV q2
        cases q1
        obtain ⟨a1, a2⟩ := pair_new ho hT hH (.int (i : Nat)) h2
        refine ⟨a1, _, ?_, a2⟩
        unfold enumD
        rw [List.getElem?_zipWith, List.getElem?_range hi, h1]
  | tup =>
    cases d1 with
    | @tup a xs _ ha k =>
      refine ⟨a, xs, rfl, .inr ⟨st_of (sub_of ha).1, ?_⟩⟩
      refine q (IteT K a) H1 (fun P H2 => sub H2 P a = some (.tup xs) ∧ DqAll (sub H2 P) xs ds) (fun i H v H' => ∃ T x, v = .ref T ∧ H T = none ∧ H' = upd H T (.tup [.int (i : Nat), x]) ∧ xs[i]? = some x) e1 (fun P => ?_) ⟨ha, k⟩ (fun P P' H2 H3 g e => ⟨e _ _ g.1, g.2.mono e⟩) ?_
      · rw [l, ← k.length]
        refine ⟨fun i H2 hi g => ?_, fun H2 g => ⟨xs, st_of (sub_of g.1).1, rfl⟩, fun i H2 x H3 hi g y => ?_⟩
        · exact ⟨xs, xs[i], st_of (sub_of g.1).1, List.getElem?_eq_getElem hi⟩
        · obtain ⟨T, z, hv, hT, hH, hz⟩ := y
          exact ⟨T, z, hv, hT, hH, hz xs (st_of (sub_of g.1).1)⟩
      · rintro P i H2 x H3 hi ho ⟨g1, g2⟩ ⟨T, z, rfl, hT, hH, hz⟩
        obtain ⟨d, h1, h2⟩ := g2.getV hz
        obtain ⟨a1, a2⟩ := pair_new ho hT hH (.int (i : Int)) h2
        refine ⟨a1, _, ?_, a2⟩
        unfold enumD
        rw [List.getElem?_zipWith, List.getElem?_range (by rw [← l]; exact hi), h1]
end DL
namespace K08
open PySem L2 PyProof.Rows DL TL RZ SW
local macro_rules | `(tactic| walk_at "len") => `(tactic| first
  | exact Nat.le_of_ble_eq_true rfl
  | assumption
  | (simp only [List.length_map, List.length_cons, List.length_nil, dI, dS, dB, List.length_reverse, List.length_append, List.length_range, rngD]; omega)
  | omega)
local macro_rules | `(tactic| walk_at "rd") => `(tactic| first
  | with_reducible exact rd_add
  | with_reducible exact rd_sub
  | with_reducible exact rd_eqs
  | with_reducible exact rd_eqi
  | with_reducible exact rd_eqb
  | with_reducible exact rd_eqN
  | with_reducible exact rd_nes
  | with_reducible exact rd_nei
  | with_reducible exact rd_neb
  | with_reducible exact rd_B
  | with_reducible exact rd_isN
  | with_reducible exact rd_inS
  | ((with_reducible apply rd_ixTz); rfl; rfl)
  | ((with_reducible apply rd_ixLz); rfl; rfl)
  | ((with_reducible apply rd_cats); walk_at "len")
  | ((with_reducible apply rd_catl); walk_at "len")
  | ((with_reducible apply rd_repl) <;> (first | decide | omega))
  | ((with_reducible apply rd_reps); exact ⟨by decide +kernel, by intro _ _; decide +kernel, by intro _ _; decide +kernel⟩)
  | ((with_reducible apply rd_neD) <;> (first | rfl | decide +kernel))
  | ((with_reducible apply rd_eqD) <;> (first | rfl | decide +kernel))
  | (apply rd_I (C := CMul) (g := fun i j => i * j); exact (by first | exact .inl ⟨by decide, by decide⟩ | exact .inr ⟨by decide, by decide⟩))
  | (apply rd_I (C := CPow) (g := fun i j => i ^ j.toNat); exact ⟨by decide, by decide, by decide⟩))
local macro_rules | `(tactic| walk_at "rc") => `(tactic| first
  | with_reducible exact rc_lenL
  | with_reducible exact rc_lenT
  | with_reducible exact rc_int
  | with_reducible exact rc_intb
  | with_reducible exact rc_abs
  | with_reducible exact rc_all
  | with_reducible exact rc_max2
  | with_reducible exact rc_min2
  | with_reducible exact rc_sumT
  | with_reducible exact rc_sumL
  | with_reducible exact rc_list (.lst _)
  | with_reducible exact rc_list (.tup _)
  | with_reducible exact rc_tuple (.lst _)
  | with_reducible exact rc_tuple (.tup _)
  | ((with_reducible apply rc_str); first | assumption | decide +kernel)
  | ((with_reducible apply rc_lenS); assumption))
local macro_rules | `(tactic| walk_at "ea") => `(tactic| first
  | with_reducible exact ea_nil
  | ((with_reducible apply ea_cons); (walk_at "ev"); (walk_at "ea")))
local macro_rules | `(tactic| walk_at "call") => `(tactic| fail "call")
local macro_rules | `(tactic| walk_at "it") => `(tactic| first
  | ((with_reducible apply it_list); walk_at "ev")
  | ((with_reducible apply it_tup); walk_at "ev")
  | ((with_reducible apply it_rng); (walk_at "ea"); walk_at "len")
  | ((with_reducible apply it_enum); walk_at "ev")
  | ((with_reducible apply it_zip); (walk_at "ev"); (walk_at "ev"))
  | ((with_reducible apply it_zipA); rotate_left; (walk_at "ev"); (walk_at "ev"); first | exact .lst _ _ | exact .tup _ _)
  | ((with_reducible apply it_seq); rotate_left; (walk_at "ev"); first | exact .lst _ | exact .tup _ | assumption))
local macro_rules | `(tactic| walk_at "tgs") => `(tactic| first
  | with_reducible exact .nil
  | (apply TgsD.cons; (walk_at "tg"); (walk_at "tgs")))
local macro_rules | `(tactic| walk_at "tg") => `(tactic| first
  | ((with_reducible apply tg_name) <;> decide)
  | (apply tg_tup; (walk_at "tgs"); rfl)
  | (apply tg_seq; rotate_left; (walk_at "tgs"); rfl; first | exact .lst _ | exact .tup _ | assumption))
local macro_rules | `(tactic| walk_at "all2") => `(tactic| first
  | exact .nil
  | (apply All2.cons; (apply Exists.intro; apply And.intro; (walk_at "tg"); (walk_at "ev")); (walk_at "all2")))
local macro_rules | `(tactic| walk_at "ej") => `(tactic| first
  | with_reducible exact .nil
  | (apply EvJ.cons; (walk_at "ev"); (walk_at "ej")))
local macro_rules | `(tactic| walk_at "eo") => `(tactic| first
  | with_reducible exact eo_none
  | ((with_reducible apply eo_some); walk_at "ev"))
local macro_rules | `(tactic| walk_at "ev") => `(tactic| first
  | ((with_reducible apply ed_var); exact rfl)
  | with_reducible exact ed_int
  | with_reducible exact ed_str
  | with_reducible exact ed_bl
  | with_reducible exact ed_non
  | ((with_reducible apply ed_tup); (walk_at "ea"); (walk_at "len"))
  | ((with_reducible apply ed_lst); (walk_at "ea"); (walk_at "len"))
  | ((with_reducible apply ed_call); (walk_at "ea"); (walk_at "call"))
  | ((with_reducible apply ed_callN); (walk_at "ea"); rfl; (first | exact fun H vs q => q | exact sw_dq | exact sw3_dq); (walk_at "call"))
  | ((with_reducible apply ed_op); (walk_at "ev"); (walk_at "ev"); (walk_at "rd"))
  | ((with_reducible apply ed_isi); (walk_at "ev"); decide; try (first | rfl | decide))
  | ((with_reducible apply ed_isiT); (walk_at "ev"); decide; decide; try (first | rfl | decide))
  | ((with_reducible apply ed_neg); walk_at "ev")
  | ((with_reducible apply ed_andV); (walk_at "ev"); intro _; walk_at "ev")
  | ((with_reducible apply ed_orV); (walk_at "ev"); intro _; walk_at "ev")
  | ((with_reducible apply ed_notV); walk_at "ev")
  | ((with_reducible apply ed_split); (walk_at "ev"); (walk_at "ev"); (decide +kernel); walk_at "len")
  | ((with_reducible apply ed_partition); (walk_at "ev"); (walk_at "ev"); (decide +kernel); walk_at "len")
  | ((with_reducible apply ed_isdigit); walk_at "ev")
  | ((with_reducible apply ed_isascii); walk_at "ev")
  | ((with_reducible apply ed_startswith); (walk_at "ev"); walk_at "ev")
  | ((with_reducible apply ed_revL); walk_at "ev")
  | ((with_reducible apply ed_slA); (walk_at "ev"); (walk_at "eo"); walk_at "eo")
  | ((with_reducible apply ed_slL); (walk_at "ev"); (walk_at "eo"); walk_at "eo")
  | ((with_reducible apply ed_slS); (walk_at "ev"); (walk_at "eo"); (walk_at "eo"); walk_at "len")
  | ((with_reducible apply ed_joined); (walk_at "ej"); walk_at "len")
  | ((with_reducible apply ed_fmtI); (walk_at "ev"); first | assumption | decide +kernel)
  | ((with_reducible apply ed_fmtS); (walk_at "ev"); walk_at "len")
  | ((with_reducible apply ed_cb); (walk_at "ea"); walk_at "rc")
  | (apply ed_lc; (walk_at "it"); (walk_at "len"); intro D'; walk_at "all2"))
local macro_rules | `(tactic| walk_at "et") => `(tactic| first
  | ((with_reducible apply et_test); walk_at "ev")
  | ((with_reducible apply et_B); walk_at "ev")
  | ((with_reducible apply DL.et_not); walk_at "et")
  | ((with_reducible apply et_and); (walk_at "et"); intro _; walk_at "et")
  | ((with_reducible apply et_or); (walk_at "et"); intro _; walk_at "et"))
local macro_rules | `(tactic| walk_at "etb") => `(tactic| (apply et_is; (walk_at "et"); first | rfl | decide | (simp [tyIs, tyN]; done)))


section
variable {P : Program} {w : World} {K : PySem.W.Frag} {mg : Str → Option Value} {base : Heap}
def numOk (s : Str) : Bool := if (!(Txt.isascii s && Txt.isdigit s)) = true then false else (decide (s = ("0" : Str)) || !Txt.startswith s ("0" : Str))
def sizeOk (s : Str) : Bool := !decide (s = ("0" : Str)) && numOk s
def R_is_number_text (ds : List PyData) (d : PyData) : Prop := ∃ s : Str, ds = [.str s] ∧ d = .bool (numOk s)
def R_is_size_text (ds : List PyData) (d : PyData) : Prop := ∃ s : Str, ds = [.str s] ∧ d = .bool (sizeOk s)
theorem numOk_num {n : Int} (h : 0 ≤ n) : numOk (numS n) = true := by
  unfold numOk
  rw [numS_ascii h, numS_digit h]
  by_cases z : n = 0
  · subst z
    rw [numS_zero]
    decide +kernel
  · obtain ⟨c, r, e, q⟩ := numL_head n.toNat (by omega)
    rw [starts0 (x := numS n) (c := c) (r := r) (by rw [numS_tl h]; exact e) (by omega)]
    cases decide (numS n = ("0" : Str)) <;> rfl
theorem sizeOk_num {n : Int} (h : 0 < n) : sizeOk (numS n) = true := by
  unfold sizeOk
  rw [decide_eq_false (numS_ne0 h), numOk_num (by omega)]
  rfl
theorem ok_is_number_text (T : Txt K mg) : FnOk P w K mg base CX0 1 T.f_is_number_text T.fd_is_number_text ["text"] (spD R_is_number_text) := by
  refine pure_ok T.F_is_number_text sc_is_number_text (fun ds d h => ?_) (by decide) (fun cdv A outer s H E hr => ?_)
  · obtain ⟨s, rfl, rfl⟩ := h
    rfl
  have hu := hu64 hr
  refine ⟨_, (pss_cons (ps_if (pt_not (PW.pt (pw_and (pt_val (pe_m0 PySem.F.slot_str_isascii PySem.F.type_str_isascii mt_isascii (pv 0))) (pw_and1 (pt_val (pe_m0 PySem.F.slot_str_isdigit PySem.F.type_str_isdigit mt_isdigit (pv 0))))))) (pss_one (ps_ret pe_bl)) pss_nil)
  (pss_one (ps_ret (pe_or (pe_cmpR op_eq (pv 0) pe_str (nomark _)) (pe_one (pe_not (pe_m1 PySem.F.slot_str_startswith PySem.F.type_str_startswith mt_startswith (pv 0) pe_str))))))), fun O ds d hR => ?_⟩
  obtain ⟨s, rfl, rfl⟩ := hR
  apply rr_when
  · walk_at "et"
  · intro c
    apply rr_ret
    apply ed_is
    · walk_at "ev"
    · unfold numOk
      rw [c]
      rfl
  · intro c
    apply rr_ret
    apply ed_is
    · walk_at "ev"
    · unfold numOk
      rw [c]
      rfl
theorem r_is_number_text {s : Str} : R_is_number_text [.str s] (.bool (numOk s)) := ⟨s, rfl, rfl⟩
theorem r_is_size_text {s : Str} : R_is_size_text [.str s] (.bool (sizeOk s)) := ⟨s, rfl, rfl⟩
local macro_rules | `(tactic| walk_at "call") => `(tactic| first | with_reducible exact r_is_number_text | with_reducible exact r_is_size_text)
theorem ok_is_size_text (T : Txt K mg) : FnOk P w K mg base CX0 2 T.f_is_size_text T.fd_is_size_text ["text"] (spD R_is_size_text) := by
  refine pure_ok T.F_is_size_text sc_is_size_text (fun ds d h => ?_) (by decide) (fun cdv A outer s H E hr => ?_)
  · obtain ⟨s, rfl, rfl⟩ := h
    rfl
  have G_is_number_text := ok_is_number_text (P := P) (w := w) (base := base) T
  have hr_is_number_text : Room 1 _ := hr.mono (by decide)
  have b_is_number_text := T.b_is_number_text
  have hu := hu64 hr
  refine ⟨_, (pss_one (ps_ret (pe_and (pe_cmpR op_ne (pv 0) pe_str (nomark _)) (pe_one (pe_call G_is_number_text hr_is_number_text rfl T.m_is_number_text T.F_is_number_text.kp b_is_number_text .nil pass0 (pa_cons (pv 0) pa_nil)))))), fun O ds d hR => ?_⟩
  obtain ⟨s, rfl, rfl⟩ := hR
  apply rr_ret
  apply ed_is
  · walk_at "ev"
  · rfl
/-! runs -/
def runOk (s : Str) : Bool := decide (cutS s none (some 1) ∈ [("+" : Str), ("-" : Str)]) && sizeOk (cutS s (some 1) none)
theorem cut_head {x : Str} {c : Nat} {r : List Nat} (e : x.cps.toList = c :: r) : cutS x none (some 1) = ⟨#[c]⟩ ∧ cutS x (some 1) none = ⟨r.toArray⟩ := by
  have l : x.length = r.length + 1 := by rw [str_len, e]; rfl
  have s1 : HT.sIx x.length x.length (some 1) = 1 := by
    rw [show (some 1 : Option Int) = some ((1 : Nat) : Int) from rfl, HT.sIx_nat]
    omega
  have s2 : HT.sIx x.length 0 (some 1) = 1 := by
    rw [show (some 1 : Option Int) = some ((1 : Nat) : Int) from rfl, HT.sIx_nat]
    omega
  unfold cutS
  rw [s1, s2, HT.sIx_none, HT.sIx_none, e]
  constructor
  · rfl
  · show (⟨((r.drop 0).take (x.length - 1)).toArray⟩ : Str) = _
    rw [List.drop_zero, List.take_of_length_le (by omega)]
/-- a number that is no zero, of at most forty digits -/
def RunN1 (r : Int) : Prop := r ≠ 0 ∧ -(10 ^ 40) < r ∧ r < 10 ^ 40
theorem runOk_plus {r : Int} (h : RunN1 r) : runOk (plusS r) = true := by
  have e := plusS_tl r
  unfold sigL at e
  obtain ⟨q1, q2⟩ := cut_head e
  unfold runOk
  rw [q1, q2]
  have e3 : (⟨(numL r.natAbs).toArray⟩ : Str) = numS ((r.natAbs : Nat) : Int) := str_ext (by rw [numS_tl (Int.natCast_nonneg _), Int.toNat_natCast])
  rw [e3, sizeOk_num (by have := h.1; omega), Bool.and_true]
  split <;> decide +kernel
def R_is_run_text (ds : List PyData) (d : PyData) : Prop := ∃ s : Str, s.length ≤ 100000 ∧ ds = [.str s] ∧ d = .bool (runOk s)
theorem ok_is_run_text (T : Txt K mg) : FnOk P w K mg base CX0 3 T.f_is_run_text T.fd_is_run_text ["text"] (spD R_is_run_text) := by
  refine pure_ok T.F_is_run_text sc_is_run_text (fun ds d h => ?_) (by decide) (fun cdv A outer s H E hr => ?_)
  · obtain ⟨s, _, rfl, rfl⟩ := h
    rfl
  have G_is_size_text := ok_is_size_text (P := P) (w := w) (base := base) T
  have hr_is_size_text : Room 2 _ := hr.mono (by decide)
  have b_is_size_text := T.b_is_size_text
  have hu := hu64 hr
  refine ⟨_, (pss_one (ps_ret (pe_and (pe_cmpR (kIn (K := K) (by rfl)) (pe_slice sl_str (pv 0) po_none (po_some pe_int)) (pe_tup (pa_cons pe_str (pa_cons pe_str pa_nil))) (by rfl)) (pe_one (pe_call G_is_size_text hr_is_size_text rfl T.m_is_size_text T.F_is_size_text.kp b_is_size_text .nil pass0 (pa_cons (pe_slice sl_str (pv 0) (po_some pe_int) po_none) pa_nil)))))), fun O ds d hR => ?_⟩
  obtain ⟨s, hl, rfl, rfl⟩ := hR
  apply rr_ret
  apply ed_is
  · apply ed_andV
    · apply ed_op
      · walk_at "ev"
      · walk_at "ev"
      · exact rd_inS (xs := [("+" : Str), ("-" : Str)])
    · intro _
      walk_at "ev"
  · rfl

/-- at most a thousand of them -/
def Runs (rs : List Int) : Prop := (∀ r, r ∈ rs → RunN1 r) ∧ rs.length ≤ 1000
def rnT (rs : List Int) : Str := Txt.join (" " : Str) (rs.map plusS)
/-! ### texts that are right or wrong -/
def wrongAt (ps : List Str) : Option Nat := ps.findIdx? fun p => !runOk p
/-- pieces of at most 640 signs, at most a thousand; those that are right are numbers -/
def okPs (ps : List Str) : Bool := decide (ps.length ≤ 1000) && ps.all fun p => decide (p.length ≤ 640) && (!runOk p || (PySem.intText? p).isSome)
def valP (p : Str) : Int := (PySem.intText? p).getD 0
def readP (ps : List Str) : PyData ⊕ Int := match wrongAt ps with
  | some k => .inr (k : Int)
  | none => .inl (.tuple (dI (ps.map valP)))
def R_runs_in (ds : List PyData) (r : PyData ⊕ Int) : Prop := ∃ ps : List Str, okPs ps = true ∧ ds = [.list (dS ps)] ∧ r = readP ps
theorem okPs_len {ps : List Str} (h : okPs ps = true) : ps.length ≤ 1000 := of_decide_eq_true (Bool.and_eq_true_iff.mp h).1
theorem okPs_at {ps : List Str} (h : okPs ps = true) {p : Str} (hp : p ∈ ps) : p.length ≤ 640 ∧ (runOk p = true → (PySem.intText? p).isSome = true) := by
  have q := List.all_eq_true.mp (Bool.and_eq_true_iff.mp h).2 p hp
  obtain ⟨q1, q2⟩ := Bool.and_eq_true_iff.mp q
  refine ⟨of_decide_eq_true q1, fun z => ?_⟩
  rw [z] at q2
  exact q2
theorem dS_at {ps : List Str} {i : Nat} {e : PyData} (h : (dS ps)[i]? = some e) : ∃ p, ps[i]? = some p ∧ p ∈ ps ∧ e = .str p := by
  unfold dS at h
  rw [List.getElem?_map] at h
  cases z : ps[i]? with
  | none => rw [z] at h; cases h
  | some p =>
    rw [z] at h
    exact ⟨p, rfl, List.mem_of_getElem? z, (Option.some.inj h).symm⟩
def inR (ps : List Str) : Nat → Rho
  | 0 => argR N_runs_in [.list (dS ps)]
  | i + 1 => ((argR N_runs_in [.list (dS ps)]).set 1 (some (.int (i : Int)))).set 2 ((dS ps)[i]?)
theorem inR_tg {ps : List Str} {i : Nat} {p : Str} {O : List Addr} (h : (dS ps)[i]? = some (.str p)) :
    TgD O N_runs_in.length [1, 2] (gTup K 2 (gCons (gName 1) (gCons (gName 2) gNil))) (inR ps i) (.tuple [.int (i : Int), .str p]) (((argR N_runs_in [.list (dS ps)]).set 1 (some (.int (i : Int)))).set 2 (some (.str p))) := by
  cases i with
  | zero =>
    show TgD O _ _ _ (argR N_runs_in [.list (dS ps)]) _ _
    apply tg_is
    · walk_at "tg"
    · rfl
  | succ i =>
    show TgD O _ _ _ (((argR N_runs_in [.list (dS ps)]).set 1 (some (.int (i : Int)))).set 2 ((dS ps)[i]?)) _ _
    have hlt : i < (dS ps).length := by
      have := (List.getElem?_eq_some_iff.mp h).1
      omega
    rw [List.getElem?_eq_getElem hlt]
    apply tg_is
    · walk_at "tg"
    · rfl
theorem okX_runs_in (T : Txt K mg) : FnOk P w K mg base (L2.CX P w) 4 T.f_runs_in T.fd_runs_in ["pieces"] (spDX T.C_BadText "piece" R_runs_in) := by
  refine pure_okX T.F_runs_in sc_runs_in (fun ds d h => ?_) (by decide) (fun cdv A outer s H E hr => ?_)
  · obtain ⟨_, _, rfl, rfl⟩ := h
    rfl
  have G_is_run_text := ok_is_run_text (P := P) (w := w) (base := base) T
  have hr_is_run_text : Room 3 _ := hr.mono (by decide)
  have b_is_run_text := T.b_is_run_text
  have hu := hu64 hr
  refine ⟨_, (pss_cons (ps_for (passes_of rfl) rfl (kiEnum (K := K) (by rfl) (by rfl) T.z_enumerate (pa_cons (pv 0) pa_nil)) (kgTup (K := K) (n := 2) (by rfl) (by rfl) (pgs_cons (pg_name (i := 1) sc_runs_in.nd rfl (Or.inl rfl)) (pgs_cons (pg_name (i := 2) sc_runs_in.nd rfl (Or.inl rfl)) pgs_nil))) (pss_one (ps_if (pt_not (pt_val (pe_call G_is_run_text hr_is_run_text rfl T.m_is_run_text T.F_is_run_text.kp b_is_run_text .nil pass0 (pa_cons (pv 2) pa_nil)))) (pss_one (ps_rz (by rfl) (by rfl) T.E_BadText (ok_init_BadText T) T.bI_BadText (by rfl) (hr.mono (by decide)) (takes_of rfl rfl rfl rfl) (by rfl) (pa_cons (pv 1) pa_nil))) pss_nil)))
  (pss_one (ps_ret (pe_callTy (kTuple (K := K) (by rfl)) (by rfl) T.z_tuple (by decide +kernel) (pa_cons (pe_lc (own := [("piece", 2)]) rfl sc_runs_in.nd (kiList (K := K) (by rfl) (pv 0)) (blkOk_by (N := N_runs_in) (sc := defScope s_runs_in) (by decide +kernel)) (fun _ _ _ _ _ => (pg_name (i := 2) sc_runs_in.nd rfl (by first | exact Or.inl rfl | exact Or.inr rfl))) (fun _ _ _ _ _ => pts_nil) (fun _ _ _ _ _ => (pe_callTy call_int_str (by rfl) T.z_int (by decide +kernel) (pa_cons (pv 2) pa_nil)))) pa_nil))))), fun O ds r hR => ?_⟩
  obtain ⟨ps, hok, rfl, rfl⟩ := hR
  have hlen := okPs_len hok
  have step : ∀ i d, (enumD (dS ps))[i]? = some d → (∀ p, ps[i]? = some p → runOk p = true) → ∃ ρ', TgD O N_runs_in.length [1, 2] (gTup K 2 (gCons (gName 1) (gCons (gName 2) gNil))) (inR ps i) d ρ' ∧
      RunN O N_runs_in.length (tIfS (tNot (tB (tCall (spD R_is_run_text) [] E0 (tCons (tVar 2) tNil)))) (tRz T.C_BadText "piece" (fun cls d _ H => E cls d H) (tCons (tVar 1) tNil)) tNext) ρ' (inR ps (i + 1)) := by
    intro i d hd hgood
    obtain ⟨e, he, rfl⟩ := enum_at hd
    obtain ⟨p, hp, hm, rfl⟩ := dS_at he
    have hl := (okPs_at hok hm).1
    refine ⟨_, inR_tg he, ?_⟩
    show RunN O _ _ _ (((argR N_runs_in [.list (dS ps)]).set 1 (some (.int (i : Int)))).set 2 ((dS ps)[i]?))
    rw [he]
    apply rn_if (b := false)
    · apply et_is
      · apply DL.et_not
        apply et_B
        apply ed_call
        · walk_at "ea"
        · exact ⟨p, by omega, rfl, rfl⟩
      · rw [hgood p hp]
        rfl
    · intro z
      cases z
    · intro _
      exact rn_next
  cases hw : wrongAt ps with
  | some k =>
    obtain ⟨hk, h1, h2⟩ := List.findIdx?_eq_some_iff_getElem.mp hw
    unfold readP
    rw [hw]
    have hlt : k < (enumD (dS ps)).length := by
      unfold enumD dS
      rw [List.length_zipWith, List.length_range, List.length_map, Nat.min_self]
      exact hk
    apply re_fst
    refine re_for (vs := [1, 2]) (m := k) (by walk_at "it") (inR ps) rfl hlt (fun i d hi hd => step i d hd fun p hp => ?_) fun d hd => ?_
    · have q := h2 i hi
      obtain ⟨hi2, e⟩ := List.getElem?_eq_some_iff.mp hp
      rw [e] at q
      simpa using q
    · obtain ⟨e, he, rfl⟩ := enum_at hd
      obtain ⟨p, hp, hm, rfl⟩ := dS_at he
      have hl := (okPs_at hok hm).1
      obtain ⟨hk2, ep⟩ := List.getElem?_eq_some_iff.mp hp
      rw [ep] at h1
      refine ⟨_, inR_tg he, ?_⟩
      apply re_if (b := true)
      · apply et_is
        · apply DL.et_not
          apply et_B
          apply ed_call
          · walk_at "ea"
          · exact ⟨p, by omega, rfl, rfl⟩
        · exact h1
      · intro _
        apply re_raise
        walk_at "ea"
      · intro z
        cases z
  | none =>
    have h1 := List.findIdx?_eq_none_iff.mp hw
    unfold readP
    rw [hw]
    have good : ∀ p, p ∈ ps → runOk p = true := fun p hp => by
      have q := h1 p hp
      simpa using q
    apply rr_seq
    · exact rn_for (vs := [1, 2]) (by walk_at "it") (inR ps) rfl fun i d hd => step i d hd fun p hp => good p (List.mem_of_getElem? hp)
    have last : ∀ ρ : Rho, ρ.length = 3 → ρ[0]? = some (some (.list (dS ps))) → RunR O N_runs_in.length (tRet (tCB (rTupleOf K) (tCons (tLc (iList K (tVar 0)) (gName 2) tYes (tCB (fun xs H Q => ∃ a n, xs = [.str a] ∧ PySem.intText? a = some n ∧ a.length ≤ 640 ∧ Q (.int n) H) (tCons (tVar 2) tNil)) [2]) tNil))) ρ (.tuple (dI (ps.map valP))) := fun ρ hρ h0 => by
      apply rr_ret
      apply ed_cb
      · apply ea_cons
        · refine ed_lcM (l := ps) (e1 := PyData.str) (e2 := PyData.int) (f := valP) (it_list (ed_var h0)) (by omega) fun D a ha => ⟨_, tg_name (by decide) (by decide), ?_⟩
          obtain ⟨q1, q2⟩ := okPs_at hok ha
          have q3 := q2 (good a ha)
          have q4 : PySem.intText? a = some (valP a) := by
            unfold valP
            cases z : PySem.intText? a with
            | none =>
              rw [z] at q3
              cases q3
            | some i => rfl
          refine ed_cb (ea_cons (ed_var ?_) ea_nil) (rc_ints q4 q1)
          have hw2 : (wipeR ρ [2]).length = 3 := by rw [wipeR_length]; exact hρ
          rw [List.getElem?_set_self (by omega)]
        · exact ea_nil
      · exact rc_tuple (.lst _)
    refine last _ ?_ ?_
    · generalize (enumD (dS ps)).length = m
      cases m <;> simp [argR, inR]
    · generalize (enumD (dS ps)).length = m
      cases m <;> rfl
def R_runs_text (ds : List PyData) (d : PyData) : Prop := ∃ rs, Runs rs ∧ ds = [.tuple (dI rs)] ∧ d = .str (rnT rs)
theorem plus_sum {rs : List Int} (h : Runs rs) : ((rs.map plusS).map (·.length)).sum + (rs.map plusS).length * 1 ≤ 42000 := by
  have q := sum_le (c := 41) (xs := rs.map plusS) fun x hx => by
    obtain ⟨m, hm, rfl⟩ := List.mem_map.mp hx
    exact plusS_len (h.1 m hm).2
  rw [List.length_map] at *
  have := h.2
  omega
theorem ok_runs_text (T : Txt K mg) : FnOk P w K mg base CX0 1 T.f_runs_text T.fd_runs_text ["runs"] (spD R_runs_text) := by
  refine pure_ok T.F_runs_text sc_runs_text (fun ds d h => ?_) (by decide) (fun cdv A outer s H E hr => ?_)
  · obtain ⟨_, _, rfl, rfl⟩ := h
    rfl
  have hu := hu64 hr
  refine ⟨_, (pss_one (ps_ret (kJoin (K := K) (by rfl) pe_str (pe_lc (own := [("run", 1)]) rfl sc_runs_text.nd (kiTup (K := K) (by rfl) (pv 0)) (blkOk_by (N := N_runs_text) (sc := defScope s_runs_text) (by decide +kernel)) (fun _ _ _ _ _ => (pg_name (i := 1) sc_runs_text.nd rfl (by first | exact Or.inl rfl | exact Or.inr rfl))) (fun _ _ _ _ _ => pts_nil) (fun _ _ _ _ _ => (pe_joined1 (pe_plus (pv 1) (pe_joined1 pe_str)))))))), fun O ds d hR => ?_⟩
  obtain ⟨rs, hn, rfl, rfl⟩ := hR
  have c0 : (" " : Str).length = 1 := by decide +kernel
  apply rr_ret
  apply ed_is
  · apply ed_join (xs := rs.map plusS) (x := .list (dS (rs.map plusS)))
    · walk_at "ev"
    · refine ed_lcM (l := rs) (e1 := PyData.int) (e2 := PyData.str) (f := plusS) (it_tup (ed_var rfl)) (by have := hn.2; omega) fun D a ha => ?_
      refine ⟨_, by walk_at "tg", ?_⟩
      exact ed_plus (by walk_at "ev") (by walk_at "ev") (hn.1 a ha).2
    · exact .lst _
    · rw [c0]
      have := plus_sum hn
      omega
  · rfl
theorem rnT_len {rs : List Int} (h : Runs rs) : (rnT rs).length ≤ 42000 := by
  unfold rnT
  have q := Txt_join_len (" " : Str) (rs.map plusS)
  have c0 : (" " : Str).length = 1 := by decide +kernel
  rw [c0] at q
  exact Nat.le_trans q (plus_sum h)
theorem sp1 : ((" " : Str).length == 0) = false := by decide +kernel
theorem split_runs {rs : List Int} (hne : rs ≠ []) : Txt.split (rnT rs) (" " : Str) = rs.map plusS := by
  unfold rnT
  have ey : tl (" " : Str) = 32 :: [] := by decide +kernel
  refine split_join ey (by decide +kernel) (fun z => hne (List.map_eq_nil_iff.mp z)) fun p hp => ?_
  obtain ⟨n, hn, rfl⟩ := List.mem_map.mp hp
  show 32 ∉ (plusS n).cps.toList
  rw [plusS_tl]
  intro hm
  rcases List.mem_cons.mp hm with e | hm
  · split at e <;> omega
  · exact numL_free (n := n.natAbs) (s := 32) (.inl (by decide)) hm

theorem ok_runs_in (T : Txt K mg) : FnOk P w K mg base CX0 4 T.f_runs_in T.fd_runs_in ["pieces"] (spD fun ds d => R_runs_in ds (.inl d)) := calm_D (okX_runs_in T) fun ds d h => h
abbrev N_p_text : List Str := ["self"]
abbrev s_p_text : Stmt := sp_text
theorem sc_p_text : FnScope N_p_text ["self"] (defScope s_p_text) := ⟨rfl, rfl, rfl, by decide +kernel, rfl, by decide +kernel, by decide +kernel⟩
def R_p_text (C : Addr) (ds : List PyData) (d : PyData) : Prop := ∃ rs : List Int, Runs rs ∧ ds = [obD C (yrF rs)] ∧ d = .str (rnT rs)
theorem ok_prop_text (T : Txt K mg) : FnOk P w K mg base CX0 4 T.g_text T.fdg_text ["self"] (spD (R_p_text T.C_Y)) := by
  refine pure_ok T.FG_text sc_p_text (fun ds d h => ?_) (by decide) (fun cdv A outer s H E hr => ?_)
  · obtain ⟨_, _, rfl, rfl⟩ := h
    rfl
  have G_runs_text := ok_runs_text (P := P) (w := w) (base := base) T
  have hr_runs_text : Room 1 _ := hr.mono (by decide)
  have b_runs_text := T.b_runs_text
  refine ⟨_, (pss_one (ps_ret (pe_call G_runs_text hr_runs_text rfl T.m_runs_text T.F_runs_text.kp b_runs_text .nil pass0 (pa_cons (pe_fld (pv 0) rfl) pa_nil)))), fun O ds d hR => ?_⟩
  obtain ⟨rs, hn, rfl, rfl⟩ := hR
  apply rr_ret
  exact ed_call (ea_cons (ed_fld (d := .tuple (dI rs)) (ed_var rfl) T.cls_Y T.noR rfl) ea_nil) ⟨rs, hn, rfl, rfl⟩
/-! ### Year.of -/
def pcs (s : Str) : List Str := Txt.split s (" " : Str)
def okPy (ps : List Str) : Bool := okPs ps && ps.all fun p => !runOk p || !decide (valP p = 0)
def readY (C : Addr) (s : Str) : PyData ⊕ Int := match wrongAt ((pcs s).take 40) with
  | some k => .inr (k : Int)
  | none => if 40 < (pcs s).length then .inr 40 else .inl (obD C (yrF (((pcs s).take 40).map valP)))
def R_of (C : Addr) (ds : List PyData) (r : PyData ⊕ Int) : Prop := ∃ s : Str, s.length ≤ 100000 ∧ (pcs s).length ≤ 1000 ∧ okPy ((pcs s).take 40) = true ∧ ds = [.str s] ∧ r = readY C s
theorem cutS_take (ps : List Str) (m : Nat) : DL.cutD (dS ps) none (some (m : Int)) = dS (ps.take m) := by
  unfold DL.cutD
  rw [HT.sIx_none, show HT.sIx (dS ps).length (dS ps).length (some (m : Int)) = min m (dS ps).length from HT.sIx_nat _ _ m, List.drop_zero, Nat.sub_zero]
  unfold dS
  rw [List.length_map, ← List.map_take]
  congr 1
  by_cases c : m ≤ ps.length
  · rw [Nat.min_eq_left c]
  · rw [Nat.min_eq_right (by omega), List.take_of_length_le (Nat.le_refl _), List.take_of_length_le (by omega)]
theorem dS_len (ps : List Str) : (dS ps).length = ps.length := List.length_map ..
theorem okX_t_of (T : Txt K mg) : FnOk P w K mg base (L2.CX P w) 6 T.f_t_of T.fd_t_of ["text"] (spDX T.C_BadText "piece" (R_of T.C_Y)) := by
  refine pure_okX T.F_t_of sc_t_of (fun ds d h => ?_) (by decide) (fun cdv A outer s H E hr => ?_)
  · obtain ⟨_, _, _, _, rfl, rfl⟩ := h
    rfl
  have G_runs_in := okX_runs_in (P := P) (w := w) (base := base) T
  have hr_runs_in : Room 4 _ := hr.mono (by decide)
  have b_runs_in := T.b_runs_in
  have G_Year := ok_Year (P := P) (w := w) (base := base) T
  have hr_Year : Room 5 _ := hr.mono (by decide)
  have hu := hu64 hr
  refine ⟨_, (pss_cons (ps_set (i := 1) sc_t_of.nd rfl (Or.inl rfl) (pe_split (pv 0) pe_str))
  (pss_cons (ps_set (i := 2) sc_t_of.nd rfl (Or.inl rfl) (pe_callS G_runs_in hr_runs_in rfl T.m_runs_in T.F_runs_in.kp b_runs_in (fun σ => passAt (takes_of rfl rfl rfl rfl) σ) (pa_cons (pe_slice (kSlL (K := K) (by rfl)) (pv 1) po_none (po_some (pe_glob (v := .int 40) (by rfl) T.gc_MOST_RUNS T.rc_MOST_RUNS))) pa_nil)))
  (pss_cons (ps_if (pt_cmpR op_gt (pe_callB (kLen (K := K) (by rfl)) (by rfl) T.z_len PySem.boot_len (pa_cons (pv 1) pa_nil)) (pe_glob (v := .int 40) (by rfl) T.gc_MOST_RUNS T.rc_MOST_RUNS) (nomark _)) (pss_one (ps_rz (by rfl) (by rfl) T.E_BadText (ok_init_BadText T) T.bI_BadText (by rfl) (hr.mono (by decide)) (takes_of rfl rfl rfl rfl) (by rfl) (pa_cons (pe_glob (v := .int 40) (by rfl) T.gc_MOST_RUNS T.rc_MOST_RUNS) pa_nil))) pss_nil)
  (pss_one (ps_ret (pe_make T.M_Y G_Year hr_Year rfl T.m_Y T.bI_Y .nil pass0 (pa_cons (pv 2) pa_nil))))))), fun O ds r hR => ?_⟩
  obtain ⟨s, hl, hl2, hok, rfl, rfl⟩ := hR
  have hok1 := (Bool.and_eq_true_iff.mp hok).1
  have at2 : R_runs_in [.list (dS ((pcs s).take 40))] (readP ((pcs s).take 40)) := ⟨_, hok1, rfl, rfl⟩
  have c1 : EvD O N_t_of.length (tSl (rSlL K) (tVar 1) tNoPart (tPart (tC (.int 40)))) [some (.str s), some (.list (dS (pcs s))), none] (.list (dS ((pcs s).take 40))) := ed_is (ed_slL (ed_var rfl) eo_none (eo_some (ed_int (i := ((40 : Nat) : Int))))) (congrArg PyData.list (cutS_take (pcs s) 40))
  have spl := fun (O : List Addr) (n : Nat) => ed_split (O := O) (n := n) (ρ := [some (.str s), none, none]) (to := tVar 0) (te := tC (.str (" " : Str))) (ed_var rfl) ed_str sp1 hl
  have lng : ∀ (x : Option PyData), EvDT O N_t_of.length (tTest (tOp (rI0 fun i j => .bl (decide (j < i))) (tCB (DL.rLen K) (tCons (tVar 1) tNil)) (tC (.int 40)))) [some (.str s), some (.list (dS (pcs s))), x] (decide (40 < (pcs s).length)) := fun x => et_is (et_test (ed_op (ed_cb (ea_cons (ed_var rfl) ea_nil) rc_lenL) ed_int rd_B)) (decide_eq_decide.mpr (by rw [dS_len]; omega))
  cases hw : wrongAt ((pcs s).take 40) with
  | some k =>
    have e1 : readP ((pcs s).take 40) = .inr (k : Int) := by unfold readP; rw [hw]
    have e2 : readY T.C_Y s = .inr (k : Int) := by unfold readY; rw [hw]
    rw [e1] at at2
    rw [e2]
    refine re_seq (rn_asg (spl O _) (by decide)) ?_
    exact re_fst (re_asg (ee_call (ea_cons c1 ea_nil) at2))
  | none =>
    have e1 : readP ((pcs s).take 40) = .inl (.tuple (dI (((pcs s).take 40).map valP))) := by unfold readP; rw [hw]
    rw [e1] at at2
    by_cases c : 40 < (pcs s).length
    · have e2 : readY T.C_Y s = .inr 40 := by unfold readY; rw [hw]; exact if_pos c
      rw [e2]
      refine re_seq (rn_asg (spl O _) (by decide)) ?_
      refine re_seq (rn_asg (ed_callX (ea_cons c1 ea_nil) at2) (by decide)) ?_
      refine re_when (b := true) (et_is (lng _) (decide_eq_true c)) (fun _ => re_raise (ea_cons ed_int ea_nil)) fun z => by cases z
    · have e2 : readY T.C_Y s = .inl (obD T.C_Y (yrF (((pcs s).take 40).map valP))) := by unfold readY; rw [hw]; exact if_neg c
      rw [e2]
      refine rr_seq (rn_asg (spl O _) (by decide)) ?_
      refine rr_seq (rn_asg (ed_callX (ea_cons c1 ea_nil) at2) (by decide)) ?_
      refine rr_when (b := false) (et_is (lng _) (decide_eq_false c)) (fun z => by cases z) fun _ => ?_
      apply rr_ret
      refine ed_year (ed_var rfl) (.tup _) (by rw [List.length_map, List.length_take]; omega) fun r hr => ?_
      obtain ⟨p, hp, rfl⟩ := List.mem_map.mp hr
      have h1 := List.findIdx?_eq_none_iff.mp hw p hp
      have h2 := List.all_eq_true.mp (Bool.and_eq_true_iff.mp hok).2 p hp
      intro z
      rw [show decide (valP p = 0) = true from decide_eq_true z] at h2
      simp at h1 h2
      rw [h1] at h2
      cases h2
def okT (s : Str) : Prop := s.length ≤ 100000 ∧ (pcs s).length ≤ 1000 ∧ okPy ((pcs s).take 40) = true
def R_ofC (C : Addr) (ds : List PyData) (d : PyData) : Prop := ∃ s : Str, okT s ∧ ds = [.str s] ∧ readY C s = .inl d
theorem ok_t_of (T : Txt K mg) : FnOk P w K mg base CX0 6 T.f_t_of T.fd_t_of ["text"] (spD (R_ofC T.C_Y)) := calm_D (okX_t_of T) fun ds d ⟨s, ⟨h1, h2, h3⟩, h4, h5⟩ => ⟨s, h1, h2, h3, h4, h5.symm⟩
def R_eq (C : Addr) (ds : List PyData) (d : PyData) : Prop := ∃ a b : List Int, ds = [obD C (yrF a), obD C (yrF b)] ∧ d = .bool (decide (a = b))
theorem eqv_ints2 : ∀ ns zs : List Int, PyData.eqv (.list (dI ns)) (.list (dI zs)) = decide (ns = zs)
  | [], [] => rfl
  | [], z :: zs => rfl
  | n :: ns, [] => rfl
  | n :: ns, z :: zs => by
    have ih := eqv_ints2 ns zs
    unfold PyData.eqv at ih ⊢
    show (PyData.eqv (.int n) (.int z) && PyData.eqvAll (dI ns) (dI zs)) = _
    rw [ih]
    by_cases c : n = z
    · subst c
      rw [show PyData.eqv (.int n) (.int n) = true from by unfold PyData.eqv; simp]
      simp
    · rw [show PyData.eqv (.int n) (.int z) = false from by unfold PyData.eqv; simp [c]]
      simp [c]
theorem ok_t___eq__ (T : Txt K mg) : FnOk P w K mg base CX0 1 T.f_t___eq__ T.fd_t___eq__ ["self", "other"] (spD (R_eq T.C_Y)) := by
  refine pure_ok T.F_t___eq__ sc_t___eq__ (fun ds d h => ?_) (by decide) (fun cdv A outer s H E hr => ?_)
  · obtain ⟨_, _, rfl, rfl⟩ := h
    rfl
  have hu := hu64 hr
  refine ⟨_, (pss_one (ps_ret (pe_and (pe_callB (kIsC (K := K) (by rfl) T.IC_Y) (by rfl) T.z_isinstance (by decide +kernel) (pa_cons (pv 1) (pa_cons (pe_glob (v := .ref T.C_Y) (by rfl) T.m_Y rfl) pa_nil))) (pe_one (pe_cmpR (kEqD (K := K) (by rfl) hu) (pe_fld (pv 0) rfl) (pe_fld (pv 1) rfl) (nomark _)))))), fun O ds d hR => ?_⟩
  obtain ⟨a, b, rfl, rfl⟩ := hR
  apply rr_ret
  apply ed_is
  · apply ed_andV
    · exact ed_isY (ed_var rfl)
    · intro _
      exact ed_op (ed_fld (d := .tuple (dI a)) (ed_var rfl) T.cls_Y T.noR rfl) (ed_fld (d := .tuple (dI b)) (ed_var rfl) T.cls_Y T.noR rfl) (rd_eqD (shaped_ints (.tup _)) (shaped_ints (.tup _)))
  · exact congrArg PyData.bool (eqv_ints2 a b)
end
end K08
namespace K08
open PySem L2 PyProof.Rows DL TL RZ SW
local macro_rules | `(tactic| walk_at "len") => `(tactic| first
  | exact Nat.le_of_ble_eq_true rfl
  | assumption
  | (simp only [List.length_map, List.length_cons, List.length_nil, dI, dS, dB, List.length_reverse, List.length_append, List.length_range, rngD]; omega)
  | omega)
local macro_rules | `(tactic| walk_at "rd") => `(tactic| first
  | with_reducible exact rd_add
  | with_reducible exact rd_sub
  | with_reducible exact rd_eqs
  | with_reducible exact rd_eqi
  | with_reducible exact rd_eqb
  | with_reducible exact rd_eqN
  | with_reducible exact rd_nes
  | with_reducible exact rd_nei
  | with_reducible exact rd_neb
  | with_reducible exact rd_B
  | with_reducible exact rd_isN
  | with_reducible exact rd_inS
  | ((with_reducible apply rd_ixTz); rfl; rfl)
  | ((with_reducible apply rd_ixLz); rfl; rfl)
  | ((with_reducible apply rd_cats); walk_at "len")
  | ((with_reducible apply rd_catl); walk_at "len")
  | ((with_reducible apply rd_repl) <;> (first | decide | omega))
  | ((with_reducible apply rd_reps); exact ⟨by decide +kernel, by intro _ _; decide +kernel, by intro _ _; decide +kernel⟩)
  | ((with_reducible apply rd_neD) <;> (first | rfl | decide +kernel))
  | ((with_reducible apply rd_eqD) <;> (first | rfl | decide +kernel))
  | (apply rd_I (C := CMul) (g := fun i j => i * j); exact (by first | exact .inl ⟨by decide, by decide⟩ | exact .inr ⟨by decide, by decide⟩))
  | (apply rd_I (C := CPow) (g := fun i j => i ^ j.toNat); exact ⟨by decide, by decide, by decide⟩))
local macro_rules | `(tactic| walk_at "rc") => `(tactic| first
  | with_reducible exact rc_lenL
  | with_reducible exact rc_lenT
  | with_reducible exact rc_int
  | with_reducible exact rc_intb
  | with_reducible exact rc_abs
  | with_reducible exact rc_all
  | with_reducible exact rc_max2
  | with_reducible exact rc_min2
  | with_reducible exact rc_sumT
  | with_reducible exact rc_sumL
  | with_reducible exact rc_list (.lst _)
  | with_reducible exact rc_list (.tup _)
  | with_reducible exact rc_tuple (.lst _)
  | with_reducible exact rc_tuple (.tup _)
  | ((with_reducible apply rc_str); first | assumption | decide +kernel)
  | ((with_reducible apply rc_lenS); assumption))
local macro_rules | `(tactic| walk_at "ea") => `(tactic| first
  | with_reducible exact ea_nil
  | ((with_reducible apply ea_cons); (walk_at "ev"); (walk_at "ea")))
local macro_rules | `(tactic| walk_at "call") => `(tactic| fail "call")
local macro_rules | `(tactic| walk_at "it") => `(tactic| first
  | ((with_reducible apply it_list); walk_at "ev")
  | ((with_reducible apply it_tup); walk_at "ev")
  | ((with_reducible apply it_rng); (walk_at "ea"); walk_at "len")
  | ((with_reducible apply it_enum); walk_at "ev")
  | ((with_reducible apply it_zip); (walk_at "ev"); (walk_at "ev"))
  | ((with_reducible apply it_zipA); rotate_left; (walk_at "ev"); (walk_at "ev"); first | exact .lst _ _ | exact .tup _ _)
  | ((with_reducible apply it_seq); rotate_left; (walk_at "ev"); first | exact .lst _ | exact .tup _ | assumption))
local macro_rules | `(tactic| walk_at "tgs") => `(tactic| first
  | with_reducible exact .nil
  | (apply TgsD.cons; (walk_at "tg"); (walk_at "tgs")))
local macro_rules | `(tactic| walk_at "tg") => `(tactic| first
  | ((with_reducible apply tg_name) <;> decide)
  | (apply tg_tup; (walk_at "tgs"); rfl)
  | (apply tg_seq; rotate_left; (walk_at "tgs"); rfl; first | exact .lst _ | exact .tup _ | assumption))
local macro_rules | `(tactic| walk_at "all2") => `(tactic| first
  | exact .nil
  | (apply All2.cons; (apply Exists.intro; apply And.intro; (walk_at "tg"); (walk_at "ev")); (walk_at "all2")))
local macro_rules | `(tactic| walk_at "ej") => `(tactic| first
  | with_reducible exact .nil
  | (apply EvJ.cons; (walk_at "ev"); (walk_at "ej")))
local macro_rules | `(tactic| walk_at "eo") => `(tactic| first
  | with_reducible exact eo_none
  | ((with_reducible apply eo_some); walk_at "ev"))
local macro_rules | `(tactic| walk_at "ev") => `(tactic| first
  | ((with_reducible apply ed_var); exact rfl)
  | with_reducible exact ed_int
  | with_reducible exact ed_str
  | with_reducible exact ed_bl
  | with_reducible exact ed_non
  | ((with_reducible apply ed_tup); (walk_at "ea"); (walk_at "len"))
  | ((with_reducible apply ed_lst); (walk_at "ea"); (walk_at "len"))
  | ((with_reducible apply ed_call); (walk_at "ea"); (walk_at "call"))
  | ((with_reducible apply ed_callN); (walk_at "ea"); rfl; (first | exact fun H vs q => q | exact sw_dq | exact sw3_dq); (walk_at "call"))
  | ((with_reducible apply ed_op); (walk_at "ev"); (walk_at "ev"); (walk_at "rd"))
  | ((with_reducible apply ed_isi); (walk_at "ev"); decide; try (first | rfl | decide))
  | ((with_reducible apply ed_isiT); (walk_at "ev"); decide; decide; try (first | rfl | decide))
  | ((with_reducible apply ed_neg); walk_at "ev")
  | ((with_reducible apply ed_andV); (walk_at "ev"); intro _; walk_at "ev")
  | ((with_reducible apply ed_orV); (walk_at "ev"); intro _; walk_at "ev")
  | ((with_reducible apply ed_notV); walk_at "ev")
  | ((with_reducible apply ed_split); (walk_at "ev"); (walk_at "ev"); (decide +kernel); walk_at "len")
  | ((with_reducible apply ed_partition); (walk_at "ev"); (walk_at "ev"); (decide +kernel); walk_at "len")
  | ((with_reducible apply ed_isdigit); walk_at "ev")
  | ((with_reducible apply ed_isascii); walk_at "ev")
  | ((with_reducible apply ed_startswith); (walk_at "ev"); walk_at "ev")
  | ((with_reducible apply ed_revL); walk_at "ev")
  | ((with_reducible apply ed_slA); (walk_at "ev"); (walk_at "eo"); walk_at "eo")
  | ((with_reducible apply ed_slL); (walk_at "ev"); (walk_at "eo"); walk_at "eo")
  | ((with_reducible apply ed_slS); (walk_at "ev"); (walk_at "eo"); (walk_at "eo"); walk_at "len")
  | ((with_reducible apply ed_joined); (walk_at "ej"); walk_at "len")
  | ((with_reducible apply ed_fmtI); (walk_at "ev"); first | assumption | decide +kernel)
  | ((with_reducible apply ed_fmtS); (walk_at "ev"); walk_at "len")
  | ((with_reducible apply ed_cb); (walk_at "ea"); walk_at "rc")
  | (apply ed_lc; (walk_at "it"); (walk_at "len"); intro D'; walk_at "all2"))
local macro_rules | `(tactic| walk_at "et") => `(tactic| first
  | ((with_reducible apply et_test); walk_at "ev")
  | ((with_reducible apply et_B); walk_at "ev")
  | ((with_reducible apply DL.et_not); walk_at "et")
  | ((with_reducible apply et_and); (walk_at "et"); intro _; walk_at "et")
  | ((with_reducible apply et_or); (walk_at "et"); intro _; walk_at "et"))
local macro_rules | `(tactic| walk_at "etb") => `(tactic| (apply et_is; (walk_at "et"); first | rfl | decide | (simp [tyIs, tyN]; done)))

section
variable {P : Program} {w : World} {K : PySem.W.Frag} {mg : Str → Option Value} {base : Heap}
/-! ### what the law reads and writes -/
abbrev badD (k : Int) : PyData := .list [.int k, .bool true, .bool true]
def rdD (s : Str) : PyData := match wrongAt ((pcs s).take 40) with
  | some k => badD (k : Int)
  | none => if 40 < (pcs s).length then badD 40 else .tuple (dI (((pcs s).take 40).map valP))
def R_read (ds : List PyData) (d : PyData) : Prop := ∃ s : Str, okT s ∧ ds = [.str s] ∧ d = rdD s
theorem ok__law_read (T : Txt K mg) : FnOk P w K mg base CX0 7 T.f__law_read T.fd__law_read ["_law_text_so"] (spD R_read) := by
  refine pure_ok T.F__law_read sc__law_read (fun ds d h => ?_) (by decide) (fun cdv A outer s H E hr => ?_)
  · obtain ⟨_, _, rfl, _⟩ := h
    rfl
  have G_t_of := okX_t_of (P := P) (w := w) (base := base) T
  have hr_t_of : Room 6 _ := hr.mono (by decide)
  have b_t_of := T.b_t_of
  have G_prop_runs := ok_prop_runs (P := P) (w := w) (base := base) T
  have hr_prop_runs : Room 2 _ := hr.mono (by decide)
  have hu := hu64 hr
  refine ⟨_, (pss_cons (ps_asg (pe_tup (pa_cons pe_non (pa_cons pe_non pa_nil))) (kgTup (K := K) (n := 2) (by rfl) (by rfl) (pgs_cons (pg_name (i := 1) sc__law_read.nd rfl (Or.inl rfl)) (pgs_cons (pg_name (i := 2) sc__law_read.nd rfl (Or.inl rfl)) pgs_nil))))
  (pss_cons (ps_try_keep (i := 3) rfl rfl rfl sc__law_read.nd rfl rfl ⟨by rfl, by decide, .inl T.E_BadText.gC⟩ (fun W pn xe tk _ => (pss_one (ps_set (i := 1) sc__law_read.nd rfl (Or.inl rfl) (pe_smethS (pe_glob (v := .ref T.C_Y) (by rfl) T.m_Y rfl) T.S_of G_t_of hr_t_of b_t_of (fun σ => passAt tk σ) (pa_cons (pv 0) pa_nil))))) (fun a oe cls d pn _ _ => (pss_one (ps_set (i := 2) sc__law_read.nd rfl (Or.inl rfl) (pv 3)))))
  (pss_cons (ps_if (pt_cmpR op_isN (pv 2) pe_non (nomark _)) (pss_one (ps_ret (pe_prop (pv 1) T.cls_Y T.P_runs G_prop_runs hr_prop_runs T.bG_runs .nil pass0 rfl))) pss_nil)
  (pss_one (ps_ret (pe_lst (pa_cons (pe_kept (by rfl) T.E_BadText (pv 2)) (pa_cons (pe_callB (kIsiQ (K := K) (by rfl)) (by rfl) T.z_isinstance (by decide +kernel) (pa_cons (pv 2) (pa_cons (pe_glob (v := .ref T.C_ButtError) (by rfl) T.gC_ButtError rfl) pa_nil))) (pa_cons (pe_callB (kIsiQ (K := K) (by rfl)) (by rfl) T.z_isinstance (by decide +kernel) (pa_cons (pv 2) (pa_cons (pe_bltn (v := .ty "ValueError") (u := .type "ValueError") (by rfl) T.z_ValueError (by decide +kernel) (by rfl)) pa_nil))) pa_nil))))))))), fun O ds d hR => ?_⟩
  obtain ⟨s, ⟨h1, h2, h3⟩, rfl, rfl⟩ := hR
  refine rr_seq (ρ1 := [some (.str s), some .none, some .none, none]) (rn_asgG (vs := [1, 2]) (d := .tuple [.none, .none]) (ed_tup (ea_cons ed_non (ea_cons ed_non ea_nil)) (Nat.le_of_ble_eq_true rfl)) (tg_is (tg_tup (.cons (tg_name (by decide) (by decide)) (.cons (tg_name (by decide) (by decide)) .nil)) rfl) rfl)) ?_
  have rf : R_of T.C_Y [.str s] (readY T.C_Y s) := ⟨s, h1, h2, h3, rfl, rfl⟩
  have bad : ∀ k : Int, readY T.C_Y s = .inr k → rdD s = badD k := fun k e => by
    unfold readY at e
    unfold rdD
    cases hw : wrongAt ((pcs s).take 40) with
    | some j =>
      rw [hw] at e
      cases e
      rfl
    | none =>
      rw [hw] at e
      show (if 40 < (pcs s).length then badD 40 else _) = _
      by_cases c : 40 < (pcs s).length
      · rw [if_pos c]
        have e : (if 40 < (pcs s).length then (Sum.inr 40 : PyData ⊕ Int) else _) = Sum.inr k := e
        rw [if_pos c] at e
        cases e
        rfl
      · have e : (if 40 < (pcs s).length then (Sum.inr 40 : PyData ⊕ Int) else _) = Sum.inr k := e
        rw [if_neg c] at e
        cases e
  have good : ∀ d : PyData, readY T.C_Y s = .inl d → ((pcs s).take 40).length ≤ 40 ∧ d = obD T.C_Y (yrF (((pcs s).take 40).map valP)) ∧ rdD s = .tuple (dI (((pcs s).take 40).map valP)) := fun d e => by
    unfold readY at e
    unfold rdD
    cases hw : wrongAt ((pcs s).take 40) with
    | some j =>
      rw [hw] at e
      cases e
    | none =>
      rw [hw] at e
      by_cases c : 40 < (pcs s).length
      · have e : (if 40 < (pcs s).length then (Sum.inr 40 : PyData ⊕ Int) else _) = Sum.inl d := e
        rw [if_pos c] at e
        cases e
      · have e : (if 40 < (pcs s).length then (Sum.inr 40 : PyData ⊕ Int) else _) = Sum.inl d := e
        rw [if_neg c] at e
        cases e
        exact ⟨by rw [List.length_take]; omega, rfl, if_neg c⟩
  cases hr : readY T.C_Y s with
  | inl d =>
    rw [hr] at rf
    obtain ⟨g0, g1, g2⟩ := good d hr
    rw [g2]
    subst g1
    refine rr_seq (ρ1 := [some (.str s), some (obD T.C_Y (yrF (((pcs s).take 40).map valP))), some .none, none]) (fun D σ H hn s q => rn_asg (ed_callX (ea_cons (ed_var rfl) ea_nil) rf) (by decide) D σ H hn s q) ?_
    exact rr_when (b := true) (et_is (et_test (ed_op (ed_var rfl) ed_non rd_isN)) rfl) (fun _ => rr_ret (ed_runs (ed_var rfl))) fun z => by cases z
  | inr k =>
    rw [hr] at rf
    rw [bad k hr]
    refine rr_try1 (n := N__law_read.length) (ts := fun _ _ _ => tAsg (tVar 3) (gName 2)) (tb := fun W => tAsg (tCallS (spDX T.C_BadText "piece" (R_of T.C_Y)) (WE W) (tCons (tVar 0) tNil)) (gName 1)) (C := T.C_BadText) (f := "piece") (k := k) (j := 2) (i := 3) (fun W D σ H hn s q => ?_) (fun _ _ _ => rfl) T.E_BadText.te (by decide) (by decide) (by decide) ?_
    · exact ee_call (ea_cons (ed_var rfl) ea_nil) rf σ H hn s q _
    · refine rk_when ekt_isN (fun z => by cases z) fun _ => ?_
      exact rk_ret (ek_lst (eka_cons ek_kept (eka_cons (ek_isi T.I_BadText T.KU_BadText) (eka_cons (ek_ve T.I_BadText) eka_nil))) (Nat.le_of_ble_eq_true rfl))
theorem mul01 (b : Bool) : MulOk ("+" : Str) (if b then 1 else 0) := by
  cases b with
  | false => exact ⟨by decide +kernel, fun h => absurd (show (0 : Int) < 1 by decide) h, fun h => absurd (show (0 : Int) < 1 by decide) h⟩
  | true => exact ⟨by decide +kernel, fun _ h => absurd h (by decide +kernel), fun _ h => absurd h (by decide +kernel)⟩
def R_written (ds : List PyData) (d : PyData) : Prop := ∃ rs, Runs rs ∧ ds = [.tuple (dI rs)] ∧ d = .str (rnT rs)
theorem ok__law_written (T : Txt K mg) : FnOk P w K mg base CX0 1 T.f__law_written T.fd__law_written ["_law_runs_so"] (spD R_written) := by
  refine pure_ok T.F__law_written sc__law_written (fun ds d h => ?_) (by decide) (fun cdv A outer s H E hr => ?_)
  · obtain ⟨_, _, rfl, rfl⟩ := h
    rfl
  have hu := hu64 hr
  refine ⟨_, (pss_one (ps_ret (kJoin (K := K) (by rfl) pe_str (pe_lc (own := [("_law_own", 1)]) rfl sc__law_written.nd (kiTup (K := K) (by rfl) (pv 0)) (blkOk_by (N := N__law_written) (sc := defScope s__law_written) (by decide +kernel)) (fun _ _ _ _ _ => (pg_name (i := 1) sc__law_written.nd rfl (by first | exact Or.inl rfl | exact Or.inr rfl))) (fun _ _ _ _ _ => pts_nil) (fun _ _ _ _ _ => (pe_op op_add_str (pe_op op_repS pe_str (pe_callTy call_int1 (by rfl) T.z_int (by decide +kernel) (pa_cons (pe_cmpR op_gt (pv 1) pe_int (nomark _)) pa_nil))) (pe_callTy call_str_int (by rfl) T.z_str (by decide +kernel) (pa_cons (pv 1) pa_nil)))))))), fun O ds d hR => ?_⟩
  obtain ⟨rs, hn, rfl, rfl⟩ := hR
  have c0 : (" " : Str).length = 1 := by decide +kernel
  apply rr_ret
  apply ed_is
  · apply ed_join (xs := rs.map plusS) (x := .list (dS (rs.map plusS)))
    · walk_at "ev"
    · refine ed_lcM (l := rs) (e1 := PyData.int) (e2 := PyData.str) (f := plusS) (it_tup (ed_var rfl)) (by have := hn.2; omega) fun D a ha => ?_
      refine ⟨_, by walk_at "tg", ?_⟩
      have hr := hn.1 a ha
      have hl := log_abs hr.2
      have len := plusS_len hr.2
      have sgn : ∀ (O' : List Addr), EvD O' N__law_written.length (tOp rRepS (tC (.str ("+" : Str))) (tCB (fun xs H Q => (∃ i, xs = [.int i] ∧ Q (.int i) H) ∨ ∃ k, xs = [.bl k] ∧ Q (.int (if k then 1 else 0)) H) (tCons (tOp (rI0 fun i j => .bl (decide (j < i))) (tVar 1) (tC (.int 0))) tNil))) [some (.tuple (dI rs)), some (.int a)] (.str (Txt.mul ("+" : Str) (if decide (0 < a) then 1 else 0))) := fun O' =>
        ed_op ed_str (ed_cb (ea_cons (ed_op (ed_var rfl) ed_int rd_B) ea_nil) rc_intb) (rd_reps (mul01 _))
      by_cases c : 0 < a
      · have e : plusS a = Txt.mul ("+" : Str) (if decide (0 < a) then 1 else 0) ++ Str.ofString (toString a) := by
          unfold plusS
          rw [if_neg (by omega), if_pos (decide_eq_true c)]
          exact congrArg (· ++ Str.ofString (toString a)) (by decide +kernel)
        rw [e] at len ⊢
        rw [Str.length_append] at len
        exact ed_op (sgn _) (ed_cb (ea_cons (ed_var rfl) ea_nil) (rc_str hl)) (rd_cats (by have e2 : (Str.ofString (toString a)).length = (toString a : Str).length := rfl; omega))
      · have e : plusS a = Txt.mul ("+" : Str) (if decide (0 < a) then 1 else 0) ++ Str.ofString (toString a) := by
          unfold plusS
          rw [if_pos (by have := hr.1; omega), if_neg (by rw [decide_eq_true_eq]; exact c)]
          have e0 : Txt.mul ("+" : Str) 0 = ("" : Str) := by decide +kernel
          rw [e0]
          exact str_ext (by rw [Str.cps_append, show ("" : Str).cps = #[] from rfl]; simp)
        rw [e] at len ⊢
        rw [Str.length_append] at len
        exact ed_op (sgn _) (ed_cb (ea_cons (ed_var rfl) ea_nil) (rc_str hl)) (rd_cats (by have e2 : (Str.ofString (toString a)).length = (toString a : Str).length := rfl; omega))
    · exact .lst _
    · rw [c0]
      have := plus_sum hn
      omega
  · rfl
end
end K08
namespace K08
open PySem L2 PyProof.Rows DL TL RZ
local macro_rules | `(tactic| walk_at "len") => `(tactic| first
  | exact Nat.le_of_ble_eq_true rfl
  | assumption
  | (simp only [List.length_map, List.length_cons, List.length_nil, dI, dS, dB, List.length_reverse, List.length_append, List.length_range, rngD]; omega)
  | omega)
local macro_rules | `(tactic| walk_at "rd") => `(tactic| first
  | with_reducible exact rd_add
  | with_reducible exact rd_sub
  | with_reducible exact rd_eqs
  | with_reducible exact rd_eqi
  | with_reducible exact rd_eqb
  | with_reducible exact rd_eqN
  | with_reducible exact rd_nes
  | with_reducible exact rd_nei
  | with_reducible exact rd_neb
  | with_reducible exact rd_B
  | with_reducible exact rd_isN
  | with_reducible exact rd_inS
  | ((with_reducible apply rd_ixTz); rfl; rfl)
  | ((with_reducible apply rd_ixLz); rfl; rfl)
  | ((with_reducible apply rd_cats); walk_at "len")
  | ((with_reducible apply rd_catl); walk_at "len")
  | ((with_reducible apply rd_repl) <;> (first | decide | omega))
  | ((with_reducible apply rd_reps); exact ⟨by decide +kernel, by intro _ _; decide +kernel, by intro _ _; decide +kernel⟩)
  | ((with_reducible apply rd_neD) <;> (first | rfl | decide +kernel))
  | ((with_reducible apply rd_eqD) <;> (first | rfl | decide +kernel))
  | (apply rd_I (C := CMul) (g := fun i j => i * j); exact (by first | exact .inl ⟨by decide, by decide⟩ | exact .inr ⟨by decide, by decide⟩))
  | (apply rd_I (C := CPow) (g := fun i j => i ^ j.toNat); exact ⟨by decide, by decide, by decide⟩))
local macro_rules | `(tactic| walk_at "rc") => `(tactic| first
  | with_reducible exact rc_lenL
  | with_reducible exact rc_lenT
  | with_reducible exact rc_int
  | with_reducible exact rc_intb
  | with_reducible exact rc_abs
  | with_reducible exact rc_all
  | with_reducible exact rc_max2
  | with_reducible exact rc_min2
  | with_reducible exact rc_sumT
  | with_reducible exact rc_sumL
  | with_reducible exact rc_list (.lst _)
  | with_reducible exact rc_list (.tup _)
  | with_reducible exact rc_tuple (.lst _)
  | with_reducible exact rc_tuple (.tup _)
  | ((with_reducible apply rc_str); first | assumption | decide +kernel)
  | ((with_reducible apply rc_lenS); assumption))
local macro_rules | `(tactic| walk_at "ea") => `(tactic| first
  | with_reducible exact ea_nil
  | ((with_reducible apply ea_cons); (walk_at "ev"); (walk_at "ea")))
local macro_rules | `(tactic| walk_at "call") => `(tactic| fail "call")
local macro_rules | `(tactic| walk_at "it") => `(tactic| first
  | ((with_reducible apply it_list); walk_at "ev")
  | ((with_reducible apply it_tup); walk_at "ev")
  | ((with_reducible apply it_rng); (walk_at "ea"); walk_at "len")
  | ((with_reducible apply it_enum); walk_at "ev")
  | ((with_reducible apply it_zip); (walk_at "ev"); (walk_at "ev"))
  | ((with_reducible apply it_zipA); rotate_left; (walk_at "ev"); (walk_at "ev"); first | exact .lst _ _ | exact .tup _ _)
  | ((with_reducible apply it_seq); rotate_left; (walk_at "ev"); first | exact .lst _ | exact .tup _ | assumption))
local macro_rules | `(tactic| walk_at "tgs") => `(tactic| first
  | with_reducible exact .nil
  | (apply TgsD.cons; (walk_at "tg"); (walk_at "tgs")))
local macro_rules | `(tactic| walk_at "tg") => `(tactic| first
  | ((with_reducible apply tg_name) <;> decide)
  | (apply tg_tup; (walk_at "tgs"); rfl)
  | (apply tg_seq; rotate_left; (walk_at "tgs"); rfl; first | exact .lst _ | exact .tup _ | assumption))
local macro_rules | `(tactic| walk_at "all2") => `(tactic| first
  | exact .nil
  | (apply All2.cons; (apply Exists.intro; apply And.intro; (walk_at "tg"); (walk_at "ev")); (walk_at "all2")))
local macro_rules | `(tactic| walk_at "ej") => `(tactic| first
  | with_reducible exact .nil
  | (apply EvJ.cons; (walk_at "ev"); (walk_at "ej")))
local macro_rules | `(tactic| walk_at "eo") => `(tactic| first
  | with_reducible exact eo_none
  | ((with_reducible apply eo_some); walk_at "ev"))
local macro_rules | `(tactic| walk_at "ev") => `(tactic| first
  | ((with_reducible apply ed_var); exact rfl)
  | with_reducible exact ed_int
  | with_reducible exact ed_str
  | with_reducible exact ed_bl
  | with_reducible exact ed_non
  | ((with_reducible apply ed_tup); (walk_at "ea"); (walk_at "len"))
  | ((with_reducible apply ed_lst); (walk_at "ea"); (walk_at "len"))
  | ((with_reducible apply ed_call); (walk_at "ea"); (walk_at "call"))
  | ((with_reducible apply ed_callN); (walk_at "ea"); rfl; (first | exact fun H vs q => q | exact sw_dq | exact sw3_dq); (walk_at "call"))
  | ((with_reducible apply ed_op); (walk_at "ev"); (walk_at "ev"); (walk_at "rd"))
  | ((with_reducible apply ed_isi); (walk_at "ev"); decide; try (first | rfl | decide))
  | ((with_reducible apply ed_isiT); (walk_at "ev"); decide; decide; try (first | rfl | decide))
  | ((with_reducible apply ed_neg); walk_at "ev")
  | ((with_reducible apply ed_andV); (walk_at "ev"); intro _; walk_at "ev")
  | ((with_reducible apply ed_orV); (walk_at "ev"); intro _; walk_at "ev")
  | ((with_reducible apply ed_notV); walk_at "ev")
  | ((with_reducible apply ed_split); (walk_at "ev"); (walk_at "ev"); (decide +kernel); walk_at "len")
  | ((with_reducible apply ed_partition); (walk_at "ev"); (walk_at "ev"); (decide +kernel); walk_at "len")
  | ((with_reducible apply ed_isdigit); walk_at "ev")
  | ((with_reducible apply ed_isascii); walk_at "ev")
  | ((with_reducible apply ed_startswith); (walk_at "ev"); walk_at "ev")
  | ((with_reducible apply ed_revL); walk_at "ev")
  | ((with_reducible apply ed_slA); (walk_at "ev"); (walk_at "eo"); walk_at "eo")
  | ((with_reducible apply ed_slL); (walk_at "ev"); (walk_at "eo"); walk_at "eo")
  | ((with_reducible apply ed_slS); (walk_at "ev"); (walk_at "eo"); (walk_at "eo"); walk_at "len")
  | ((with_reducible apply ed_joined); (walk_at "ej"); walk_at "len")
  | ((with_reducible apply ed_fmtI); (walk_at "ev"); first | assumption | decide +kernel)
  | ((with_reducible apply ed_fmtS); (walk_at "ev"); walk_at "len")
  | ((with_reducible apply ed_cb); (walk_at "ea"); walk_at "rc")
  | (apply ed_lc; (walk_at "it"); (walk_at "len"); intro D'; walk_at "all2"))
local macro_rules | `(tactic| walk_at "et") => `(tactic| first
  | ((with_reducible apply et_test); walk_at "ev")
  | ((with_reducible apply et_B); walk_at "ev")
  | ((with_reducible apply DL.et_not); walk_at "et")
  | ((with_reducible apply et_and); (walk_at "et"); intro _; walk_at "et")
  | ((with_reducible apply et_or); (walk_at "et"); intro _; walk_at "et"))
local macro_rules | `(tactic| walk_at "etb") => `(tactic| (apply et_is; (walk_at "et"); first | rfl | decide | (simp [tyIs, tyN]; done)))

section
variable {P : Program} {w : World} {K : PySem.W.Frag} {mg : Str → Option Value} {base : Heap}
/-! ### the law's own compare, of like data -/
theorem same_step (T : Txt K mg) {m : Nat} (G__law_same : FnOk P w K mg base CX0 m T.f__law_same T.fd__law_same ["_law_got", "_law_due"] (spD (R_same m))) : FnOk P w K mg base CX0 (m + 1) T.f__law_same T.fd__law_same ["_law_got", "_law_due"] (spD (R_same (m + 1))) := by
  refine pure_ok T.F__law_same sc__law_same (fun ds d h => ?_) (by decide) (fun cdv A outer s H E hr => ?_)
  · obtain ⟨x, _, rfl, rfl⟩ := h
    rfl
  have hr__law_same := hr
  have b__law_same := T.b__law_same
  have hu := hu64 hr
  refine ⟨_, (pss_cons (ps_if (pt_val (pe_callB (kIsiT (K := K) (by rfl)) (by rfl) T.z_isinstance (by decide +kernel) (pa_cons (pv 1) (pa_cons (pe_tup (pa_cons (pe_bltn (v := .ty "list") (u := .type "list") (by rfl) T.z_list (by decide +kernel) (by rfl)) (pa_cons (pe_bltn (v := .ty "tuple") (u := .type "tuple") (by rfl) T.z_tuple (by decide +kernel) (by rfl)) pa_nil))) pa_nil)))) (pss_cons (ps_if (pt_cmpR op_ne (pe_callB (kIsi (K := K) (by rfl)) (by rfl) T.z_isinstance (by decide +kernel) (pa_cons (pv 0) (pa_cons (pe_bltn (v := .ty "list") (u := .type "list") (by rfl) T.z_list (by decide +kernel) (by rfl)) pa_nil))) (pe_callB (kIsi (K := K) (by rfl)) (by rfl) T.z_isinstance (by decide +kernel) (pa_cons (pv 1) (pa_cons (pe_bltn (v := .ty "list") (u := .type "list") (by rfl) T.z_list (by decide +kernel) (by rfl)) pa_nil))) (nomark _)) (pss_one (ps_ret pe_bl)) pss_nil)
  (pss_cons (ps_if (pt_cmpR op_ne (pe_callB (kIsi (K := K) (by rfl)) (by rfl) T.z_isinstance (by decide +kernel) (pa_cons (pv 0) (pa_cons (pe_bltn (v := .ty "tuple") (u := .type "tuple") (by rfl) T.z_tuple (by decide +kernel) (by rfl)) pa_nil))) (pe_callB (kIsi (K := K) (by rfl)) (by rfl) T.z_isinstance (by decide +kernel) (pa_cons (pv 1) (pa_cons (pe_bltn (v := .ty "tuple") (u := .type "tuple") (by rfl) T.z_tuple (by decide +kernel) (by rfl)) pa_nil))) (nomark _)) (pss_one (ps_ret pe_bl)) pss_nil)
  (pss_one (ps_ret (pe_and (pe_cmpR op_eq (pe_callB (kLen (K := K) (by rfl)) (by rfl) T.z_len PySem.boot_len (pa_cons (pv 0) pa_nil)) (pe_callB (kLen (K := K) (by rfl)) (by rfl) T.z_len PySem.boot_len (pa_cons (pv 1) pa_nil)) (nomark _)) (pe_one (pe_callB (kAll (K := K) (by rfl) (by rfl)) (by rfl) T.z_all (by decide +kernel) (pa_cons (pe_lc (own := [("_law_mine", 2), ("_law_its", 3)]) rfl sc__law_same.nd (kiZipA (K := K) (by rfl) (by rfl) T.z_zip (pa_cons (pv 0) (pa_cons (pv 1) pa_nil))) (blkOk_by (N := N__law_same) (sc := defScope s__law_same) (by decide +kernel)) (fun _ _ _ _ _ => (kgTup (K := K) (n := 2) (by rfl) (by rfl) (pgs_cons (pg_name (i := 2) sc__law_same.nd rfl (by first | exact Or.inl rfl | exact Or.inr rfl)) (pgs_cons (pg_name (i := 3) sc__law_same.nd rfl (by first | exact Or.inl rfl | exact Or.inr rfl)) pgs_nil)))) (fun _ _ _ _ _ => pts_nil) (fun _ _ _ _ _ => (pe_call G__law_same hr__law_same rfl T.m__law_same T.F__law_same.kp b__law_same .nil pass0 (pa_cons (pv 2) (pa_cons (pv 3) pa_nil))))) pa_nil)))))))) pss_nil)
  (pss_cons (ps_if (PW.pt (pw_or (pt_cmpR op_isN (pv 1) pe_non (nomark _)) (pw_or1 (pt_val (pe_callB (kIsiT (K := K) (by rfl)) (by rfl) T.z_isinstance (by decide +kernel) (pa_cons (pv 1) (pa_cons (pe_tup (pa_cons (pe_bltn (v := .ty "bool") (u := .type "bool") (by rfl) T.z_bool (by decide +kernel) (by rfl)) (pa_cons (pe_bltn (v := .ty "str") (u := .type "str") (by rfl) T.z_str (by decide +kernel) (by rfl)) pa_nil))) pa_nil))))))) (pss_one (ps_ret (pe_and (pe_cmpR op_eq (pv 0) (pv 1) (nomark _)) (pe_and (pe_cmpR op_eq (pe_callB (kIsi (K := K) (by rfl)) (by rfl) T.z_isinstance (by decide +kernel) (pa_cons (pv 0) (pa_cons (pe_bltn (v := .ty "bool") (u := .type "bool") (by rfl) T.z_bool (by decide +kernel) (by rfl)) pa_nil))) (pe_callB (kIsi (K := K) (by rfl)) (by rfl) T.z_isinstance (by decide +kernel) (pa_cons (pv 1) (pa_cons (pe_bltn (v := .ty "bool") (u := .type "bool") (by rfl) T.z_bool (by decide +kernel) (by rfl)) pa_nil))) (nomark _)) (pe_one (pe_cmpR op_eq (pe_cmpR op_isN (pv 0) pe_non (nomark _)) (pe_cmpR op_isN (pv 1) pe_non (nomark _)) (nomark _))))))) pss_nil)
  (pss_one (ps_ret (pe_and (pe_callB (kIsi (K := K) (by rfl)) (by rfl) T.z_isinstance (by decide +kernel) (pa_cons (pv 0) (pa_cons (pe_bltn (v := .ty "int") (u := .type "int") (by rfl) T.z_int (by decide +kernel) (by rfl)) pa_nil))) (pe_and (pe_not (pe_callB (kIsi (K := K) (by rfl)) (by rfl) T.z_isinstance (by decide +kernel) (pa_cons (pv 0) (pa_cons (pe_bltn (v := .ty "bool") (u := .type "bool") (by rfl) T.z_bool (by decide +kernel) (by rfl)) pa_nil)))) (pe_one (pe_cmpR op_eq (pv 0) (pv 1) (nomark _))))))))), fun O ds d hR => ?_⟩
  obtain ⟨x, hx, rfl, rfl⟩ := hR
  cases x with
  | dict kvs => exact hx.elim
  | list xs =>
    obtain ⟨hl, hx⟩ := hx
    have hz : (zipD xs xs).length ≤ 100000 := by
      rw [zip_same, List.length_map]
      omega
    apply rr_fst
    apply rr_if (b := true)
    · walk_at "etb"
    · intro _
      apply rr_when (b := false)
      · walk_at "etb"
      · intro z
        cases z
      intro _
      apply rr_when (b := false)
      · walk_at "etb"
      · intro z
        cases z
      intro _
      apply rr_ret
      apply ed_is
      · apply ed_andV
        · walk_at "ev"
        · intro _
          apply ed_cb
          · apply ea_cons
            · refine ed_lc (es := dB (xs.map fun _ => true)) (it_zipA (.lst xs xs) (by walk_at "ev") (by walk_at "ev")) hz fun D => ?_
              rw [zip_same]
              unfold dB
              rw [List.map_map]
              exact All2.of fun y hy => ⟨_, by walk_at "tg", ed_call (by walk_at "ea") ⟨y, hx y hy, rfl, rfl⟩⟩
            · exact ea_nil
          · exact rc_all
      · rw [all_true fun _ _ => rfl]
        simp
    · intro z
      cases z
  | tuple xs =>
    obtain ⟨hl, hx⟩ := hx
    have hz : (zipD xs xs).length ≤ 100000 := by
      rw [zip_same, List.length_map]
      omega
    apply rr_fst
    apply rr_if (b := true)
    · walk_at "etb"
    · intro _
      apply rr_when (b := false)
      · walk_at "etb"
      · intro z
        cases z
      intro _
      apply rr_when (b := false)
      · walk_at "etb"
      · intro z
        cases z
      intro _
      apply rr_ret
      apply ed_is
      · apply ed_andV
        · walk_at "ev"
        · intro _
          apply ed_cb
          · apply ea_cons
            · refine ed_lc (es := dB (xs.map fun _ => true)) (it_zipA (.tup xs xs) (by walk_at "ev") (by walk_at "ev")) hz fun D => ?_
              rw [zip_same]
              unfold dB
              rw [List.map_map]
              exact All2.of fun y hy => ⟨_, by walk_at "tg", ed_call (by walk_at "ea") ⟨y, hx y hy, rfl, rfl⟩⟩
            · exact ea_nil
          · exact rc_all
      · rw [all_true fun _ _ => rfl]
        simp
    · intro z
      cases z
  | none =>
    apply rr_when (b := false)
    · walk_at "etb"
    · intro z
      cases z
    intro _
    apply rr_when (b := true)
    · walk_at "etb"
    · intro _
      apply rr_ret
      apply ed_is
      · walk_at "ev"
      · rfl
    · intro z
      cases z
  | bool b =>
    apply rr_when (b := false)
    · walk_at "etb"
    · intro z
      cases z
    intro _
    apply rr_when (b := true)
    · walk_at "etb"
    · intro _
      apply rr_ret
      apply ed_is
      · walk_at "ev"
      · cases b <;> rfl
    · intro z
      cases z
  | str y =>
    apply rr_when (b := false)
    · walk_at "etb"
    · intro z
      cases z
    intro _
    apply rr_when (b := true)
    · walk_at "etb"
    · intro _
      apply rr_ret
      apply ed_is
      · walk_at "ev"
      · simp [tyIs, tyN]
    · intro z
      cases z
  | int i =>
    apply rr_when (b := false)
    · walk_at "etb"
    · intro z
      cases z
    intro _
    apply rr_when (b := false)
    · walk_at "etb"
    · intro z
      cases z
    · intro _
      apply rr_ret
      apply ed_is
      · walk_at "ev"
      · simp [tyIs, tyN]
theorem same_all (T : Txt K mg) : ∀ m, FnOk P w K mg base CX0 m T.f__law_same T.fd__law_same ["_law_got", "_law_due"] (spD (R_same m))
  | 0 => none_left fun ds d h => by
    obtain ⟨x, hx, _⟩ := h
    exact hx
  | m + 1 => same_step T (same_all T m)
theorem ok__law_same (T : Txt K mg) : FnOk P w K mg base CX0 7 T.f__law_same T.fd__law_same ["_law_got", "_law_due"] (spD (R_same 7)) := same_all T 7
end
end K08
namespace K08
open PySem L2 PyProof.Rows DL TL RZ
section
variable {P : Program} {w : World} {K : PySem.W.Frag} {mg : Str → Option Value} {base : Heap}
/-! ### the law's draws -/
theorem ok__law_take (T : Txt K mg) : FnOk P w K mg base CX0 1 T.f__law_take T.fd__law_take ["_law_box_here", "_law_size_so"] spTake := by
  refine T.F__law_take.ok sc__law_take (fun vs H Q E h => ?_) (fun cdv A outer s H vs Q E hr h => ?_)
  · obtain ⟨p, c, m, rfl, _⟩ := h
    rfl
  have hu := hu64 hr
  obtain ⟨p, c, m, rfl, ⟨b0, b1, b2, hb, h0, h1, h2, h3, h4⟩, hc, hm, hm2, k⟩ := h
  refine ⟨_, (pss_cons (ps_if (pt_cmpR op_gt (pe_ix (kIxL (K := K) (by rfl)) (pv 0) pe_int (fun _ _ => rfl)) pe_int (nomark _)) (pss_cons (ps_set (i := 2) sc__law_take.nd rfl (Or.inl rfl) (pe_op op_mod (pe_callTy call_int1 (by rfl) T.z_int (by decide +kernel) (pa_cons (pe_ix (kIxL (K := K) (by rfl)) (pv 0) pe_int (fun _ _ => rfl)) pa_nil)) (pv 1)))
  (pss_cons (ps_asg (pe_op op_fdivW (pe_ix (kIxL (K := K) (by rfl)) (pv 0) pe_int (fun _ _ => rfl)) (pv 1)) (pg_sub (pv 0) pe_int set_list))
  (pss_one (ps_ret (pv 2))))) pss_nil)
  (pss_cons (ps_asg (pe_op op_add (pe_ix (kIxL (K := K) (by rfl)) (pv 0) pe_int (fun _ _ => rfl)) pe_int) (pg_sub (pv 0) pe_int set_list))
  (pss_cons (ps_set (i := 3) sc__law_take.nd rfl (Or.inl rfl) (pe_op op_mod (pe_callTy call_int1 (by rfl) T.z_int (by decide +kernel) (pa_cons (pe_op op_mul (pe_op op_add (pe_ix (kIxL (K := K) (by rfl)) (pv 0) pe_int (fun _ _ => rfl)) (pe_op op_mul pe_int (pe_ix (kIxL (K := K) (by rfl)) (pv 0) pe_int (fun _ _ => rfl)))) (pe_op op_add pe_int (pe_ix (kIxL (K := K) (by rfl)) (pv 0) pe_int (fun _ _ => rfl)))) pa_nil)) pe_int))
  (pss_cons (ps_set (i := 4) sc__law_take.nd rfl (Or.inl rfl) (pe_op op_add (pe_op op_mod (pe_callTy call_int1 (by rfl) T.z_int (by decide +kernel) (pa_cons (pv 3) pa_nil)) pe_int) pe_int))
  (pss_cons (ps_set (i := 5) sc__law_take.nd rfl (Or.inl rfl) (pe_op op_mod (pe_callTy call_int1 (by rfl) T.z_int (by decide +kernel) (pa_cons (pe_op op_mul (pe_op op_add (pe_op op_add (pv 3) (pe_ix (kIxL (K := K) (by rfl)) (pv 0) pe_int (fun _ _ => rfl))) (pe_op op_fdivW (pe_ix (kIxL (K := K) (by rfl)) (pv 0) pe_int (fun _ _ => rfl)) pe_int)) (pv 4)) pa_nil)) pe_int))
  (pss_one (ps_ret (pe_op op_mod (pe_callTy call_int1 (by rfl) T.z_int (by decide +kernel) (pa_cons (pe_op op_fdivW (pe_op op_mod (pe_callTy call_int1 (by rfl) T.z_int (by decide +kernel) (pa_cons (pe_op op_add (pe_op op_mul (pv 5) pe_int) (pv 3)) pa_nil)) pe_int) pe_int) pa_nil)) (pv 1))))))))), ?_⟩
  have sq : SqL K H p [.int b0, .int b1, .int b2] := .inl (.inl hb)
  have e0 : Evl.Ev (tVar 0) (L2.start N__law_take [V.ref p, V.int m]) H (.ref p) := Evl.ev_var rfl
  have box : ∀ {σ : L2.St} {H' : Hp} {i : Int} {v : V} {xs : List V}, σ[0]? = some (some (.ref p)) → H' p = some (.lst xs) → atI xs i = some v → Evl.Ev (tOp (rIxL K) (tVar 0) (tC (.int i))) σ H' v :=
    fun hσ hH ha => Evl.ev_op (Evl.ev_var hσ) Evl.ev_c (Evl.rv_ixL (.inl (.inl hH)) ha)
  refine Evl.q_when (b := decide (0 < b0)) (Evl.et_test (Evl.ev_op (box rfl hb rfl) Evl.ev_c (Evl.rv_I0))) (fun z H1 x1 => ?_) (fun z H1 x1 => ?_)
  · have z := of_decide_eq_true z
    have hb1 := x1 _ _ hb
    refine Evl.q_asg (Evl.ev_op (rc1 (K := K) (box rfl hb1 rfl)) (Evl.ev_var rfl) (Evl.rv_I hm)) fun H2 x2 => ?_
    have hb2 := x2 _ _ hb1
    refine Evl.q_setL (l := p) (j := 0) hb2 (Evl.ev_op (box rfl hb2 rfl) (Evl.ev_var rfl) (Evl.rv_I ⟨hm, hm2⟩)) (Evl.ev_var rfl) (Evl.ev_c (v := .int ((0 : Nat) : Int))) (show 0 < 3 by decide) fun H3 x3 => ?_
    refine Evl.s_ret (Evl.ev_var rfl) fun H4 x4 => ?_
    refine k (b0 % m) H4 (Int.emod_nonneg _ (by omega)) (Int.emod_lt_of_pos _ hm) ?_ ?_
    · exact ((Ex.o [p] (x1.trans (x2.trans x3))).trans (ExO.upd (List.mem_singleton.mpr rfl))).trans (Ex.o [p] x4)
    · exact ⟨b0 / m, b1, b2, x4 _ _ upd_same, Int.ediv_nonneg h0 (by omega), h1, h2, h3, by omega⟩
  · have z := of_decide_eq_false z
    have hb1 := x1 _ _ hb
    refine Evl.q_setL (l := p) (j := 2) hb1 (Evl.ev_op (box rfl hb1 rfl) Evl.ev_c Evl.rv_I0) (Evl.ev_var rfl) (Evl.ev_c (v := .int ((2 : Nat) : Int))) (show 2 < 3 by decide) fun H2 x2 => ?_
    have hb2 : upd H2 p (.lst (([.int b0, .int b1, .int b2] : List V).set 2 (.int (b2 + 1)))) p = some (.lst [.int b0, .int b1, .int (b2 + 1)]) := upd_same
    refine Evl.q_asg (Evl.ev_op (rc1 (K := K) (Evl.ev_op (Evl.ev_op (box rfl hb2 rfl) (Evl.ev_op Evl.ev_c (box rfl hb2 rfl) (Evl.rv_I (.inl ⟨by decide, by decide⟩))) Evl.rv_I0) (Evl.ev_op Evl.ev_c (box rfl hb2 rfl) Evl.rv_I0) (Evl.rv_I (.inr ⟨by omega, by omega⟩)))) Evl.ev_c (Evl.rv_I (by decide))) fun H3 x3 => ?_
    have hb3 := x3 _ _ hb2
    have o1 : ∀ x : Int, 0 ≤ x % 2147483647 ∧ x % 2147483647 < 2147483647 := fun x => ⟨Int.emod_nonneg _ (by decide), Int.emod_lt_of_pos _ (by decide)⟩
    generalize ho : ((b1 + 48271 * (b2 + 1)) * (39373 + (b2 + 1))) % 2147483647 = once
    have ho1 := o1 ((b1 + 48271 * (b2 + 1)) * (39373 + (b2 + 1)))
    rw [ho] at ho1
    refine Evl.q_asg (v := .int (once % 40009 + 7)) (Evl.ev_op (Evl.ev_op (rc1 (K := K) (Evl.ev_var rfl)) Evl.ev_c (Evl.rv_I (by decide))) Evl.ev_c Evl.rv_I0) fun H4 x4 => ?_
    have hb4 := x4 _ _ hb3
    have hf : 0 ≤ once % 40009 + 7 ∧ once % 40009 + 7 < 40016 := by
      have q1 := Int.emod_nonneg once (b := 40009) (by decide)
      have q2 := Int.emod_lt_of_pos once (b := 40009) (by decide)
      omega
    refine Evl.q_asg (Evl.ev_op (rc1 (K := K) (Evl.ev_op (Evl.ev_op (Evl.ev_op (Evl.ev_var rfl) (box rfl hb4 rfl) Evl.rv_I0) (Evl.ev_op (box rfl hb4 rfl) Evl.ev_c (Evl.rv_I ⟨by decide, by decide⟩)) Evl.rv_I0) (Evl.ev_var rfl) (Evl.rv_I (.inr ⟨by omega, by omega⟩)))) Evl.ev_c (Evl.rv_I (by decide))) fun H5 x5 => ?_
    have hb5 := x5 _ _ hb4
    refine Evl.s_ret (Evl.ev_op (rc1 (K := K) (Evl.ev_op (Evl.ev_op (rc1 (K := K) (Evl.ev_op (Evl.ev_op (Evl.ev_var rfl) Evl.ev_c (Evl.rv_I (.inr ⟨by decide, by decide⟩))) (Evl.ev_var rfl) Evl.rv_I0)) Evl.ev_c (Evl.rv_I (by decide))) Evl.ev_c (Evl.rv_I ⟨by decide, by decide⟩))) (Evl.ev_var rfl) (Evl.rv_I hm)) fun H6 x6 => ?_
    refine k _ H6 (Int.emod_nonneg _ (by omega)) (Int.emod_lt_of_pos _ hm) ?_ ?_
    · exact (((Ex.o [p] x1).trans (Ex.o [p] x2)).trans (ExO.upd (List.mem_singleton.mpr rfl))).trans (Ex.o [p] (x3.trans (x4.trans (x5.trans x6))))
    · exact ⟨b0, b1, b2 + 1, x6 _ _ hb5, h0, h1, h2, by omega, by omega⟩
theorem ok__law_of (T : Txt K mg) : FnOk P w K mg base CX0 2 T.f__law_of T.fd__law_of ["_law_box_here", "_law_goods_so"] spOf := by
  refine T.F__law_of.ok sc__law_of (fun vs H Q E h => ?_) (fun cdv A outer s H vs Q E hr h => ?_)
  · obtain ⟨p, c, x, ds, rfl, _⟩ := h
    rfl
  have G__law_take := ok__law_take (P := P) (w := w) (base := base) T
  have hr__law_take : Room 1 _ := hr.mono (by decide)
  have b__law_take := T.b__law_take
  have hu := hu64 hr
  obtain ⟨p, c, x, ds, rfl, hb, hc, hx, hl, hl2, k⟩ := h
  refine ⟨_, (pss_one (ps_ret (pe_ix (kIxL (K := K) (by rfl)) (pv 1) (pe_call G__law_take hr__law_take rfl T.m__law_take T.F__law_take.kp b__law_take .nil pass0 (pa_cons (pv 0) (pa_cons (pe_callB (kLen (K := K) (by rfl)) (by rfl) T.z_len PySem.boot_len (pa_cons (pv 1) pa_nil)) pa_nil))) (fun _ _ => rfl)))), ?_⟩
  cases hx with
  | @lst a xs _ ha hxs =>
    have len := hxs.length
    have hlog : ((ds.length : Int)).natAbs.log2 < 9000 := by
      have e : ((ds.length : Int)).natAbs = ds.length := by omega
      rw [e]
      exact Nat.lt_trans ((Nat.log2_lt (by omega)).mpr (show ds.length < 2 ^ 10 by omega)) (by decide)
    refine ⟨_, rfl, _, rfl, _, rfl, a, xs, rfl, .inl (Evl.sq_of (sub_of ha).1), p, c, (ds.length : Int), ?_, hb, hc, by omega, hlog, fun r H1 r0 r1 e1 b1 => ?_⟩
    · rw [← len]
      rfl
    have hr2 : r.toNat < ds.length := by omega
    obtain ⟨v, hv, dv⟩ := hxs.get (List.getElem?_eq_getElem hr2)
    refine ⟨a, xs, r, v, rfl, rfl, Evl.sq_of (e1.at (sub_of ha).1 (sub_of ha).2), ?_, k _ v H1 (List.getElem_mem hr2) (dv.mono e1) e1 b1⟩
    have e : r = ((r.toNat : Nat) : Int) := by omega
    rw [e]
    exact atI_nat hv
theorem ok__law_box (T : Txt K mg) : FnOk P w K mg base CX0 1 T.f__law_box T.fd__law_box ["_law_script", "_law_k"] (spBox K) := by
  refine T.F__law_box.ok sc__law_box (fun vs H Q E h => ?_) (fun cdv A outer s H vs Q E hr h => ?_)
  · obtain ⟨a, cs, j, rfl, _⟩ := h
    rfl
  have hu := hu64 hr
  obtain ⟨a, cs, j, rfl, hs, j0, j2, k⟩ := h
  refine ⟨_, (pss_cons (ps_set (i := 2) sc__law_box.nd rfl (Or.inl rfl) (pe_ifExp (pt_cmpR op_lt (pv 1) (pe_callB (kLen (K := K) (by rfl)) (by rfl) T.z_len PySem.boot_len (pa_cons (pv 0) pa_nil)) (nomark _)) (pe_ix (kIxL (K := K) (by rfl)) (pv 0) (pv 1) (fun _ _ => rfl)) pe_int))
  (pss_one (ps_ret (pe_lst (pa_cons (pe_op op_mul (pe_callB call_abs (by rfl) T.z_abs (by decide +kernel) (pa_cons (pv 2) pa_nil)) (pe_callTy call_int1 (by rfl) T.z_int (by decide +kernel) (pa_cons (pe_cmpR op_ge (pe_callB call_abs (by rfl) T.z_abs (by decide +kernel) (pa_cons (pv 2) pa_nil)) (pe_op op_pow pe_int pe_int) (nomark _)) pa_nil))) (pa_cons (pe_op op_add (pe_op op_add (pe_op op_mod (pe_callTy call_int1 (by rfl) T.z_int (by decide +kernel) (pa_cons (pv 2) pa_nil)) pe_int) (pe_op op_mul pe_int (pv 1))) pe_int) (pa_cons pe_int pa_nil))))))), ?_⟩
  have body : ∀ i : Int, Evl.Ev (tIf (tTest (tOp (rI0 fun i j => .bl (decide (i < j))) (tVar 1) (tCB (DL.rLen K) (tCons (tVar 0) tNil)))) (tOp (rIxL K) (tVar 0) (tVar 1)) (tC (.int 0))) (L2.start N__law_box [V.ref a, V.int j]) H (.int (if j < (cs.length : Int) then cs.getD j.toNat 0 else 0)) := fun _ => by
    refine Evl.ev_if (b := decide (j < (cs.length : Int))) (Evl.et_test (Evl.ev_op (Evl.ev_var rfl) (Evl.ev_is (Evl.ev_len (Evl.ev_var rfl) hs) (by rw [List.length_map])) Evl.rv_I0)) (fun z => ?_) (fun z => ?_)
    · have z := of_decide_eq_true z
      rw [if_pos z]
      have hj : j.toNat < cs.length := by omega
      refine Evl.ev_op (Evl.ev_var rfl) (Evl.ev_var rfl) (Evl.rv_ixL hs ?_)
      have e : j = ((j.toNat : Nat) : Int) := by omega
      rw [e]
      refine atI_nat ?_
      rw [List.getElem?_map, List.getElem?_eq_getElem hj, Int.toNat_natCast, List.getD_eq_getElem?_getD, List.getElem?_eq_getElem hj]
      rfl
    · rw [if_neg (of_decide_eq_false z)]
      exact Evl.ev_c
  refine Evl.q_asg (body 0) fun H1 x1 => ?_
  generalize (if j < (cs.length : Int) then cs.getD j.toNat 0 else 0) = cell
  have ab : Evl.Ev (tCB (fun xs H Q => ∃ i, xs = [.int i] ∧ Q (.int (if i < 0 then -i else i)) H) (tCons (tVar 2) tNil)) ((L2.start N__law_box [V.ref a, V.int j]).set 2 (some (.int cell))) H1 (.int (if cell < 0 then -cell else cell)) := rabs (Evl.ev_var rfl)
  refine Evl.s_retL (Evl.el_lst (Evl.ea_cons (Evl.ev_op ab (rcb (K := K) (Evl.ev_op ab (Evl.ev_op Evl.ev_c Evl.ev_c (Evl.rv_I ⟨by decide, by decide, by decide⟩)) Evl.rv_I0)) (Evl.rv_I (.inr ?_)))
    (Evl.ea_cons (Evl.ev_op (Evl.ev_op (Evl.ev_op (rc1 (K := K) (Evl.ev_var rfl)) Evl.ev_c (Evl.rv_I (by decide))) (Evl.ev_op Evl.ev_c (Evl.ev_var rfl) (Evl.rv_I (.inl ⟨by decide, by decide⟩))) Evl.rv_I0) Evl.ev_c Evl.rv_I0) (Evl.ea_cons Evl.ev_c Evl.ea_nil))) (Nat.le_of_ble_eq_true rfl)) fun p H2 hp x2 h2 => ?_
  · generalize decide (10 ^ Int.toNat 18 ≤ if cell < 0 then -cell else cell) = b
    cases b <;> exact ⟨by decide, by decide⟩
  · refine k p H2 (Evl.fresh_back x1 hp) (x1.trans x2) ⟨_, _, _, h2, ?_, ?_, ?_, by decide, by decide⟩
    · have q := abs_pos cell
      refine Int.mul_nonneg q ?_
      generalize decide (10 ^ Int.toNat 18 ≤ if cell < 0 then -cell else cell) = b
      cases b <;> decide
    · have q1 := Int.emod_nonneg cell (b := 2305843009213693951) (by decide)
      omega
    · have q2 := Int.emod_lt_of_pos cell (b := 2305843009213693951) (by decide)
      omega
theorem ok__law_cells (T : Txt K mg) : FnOk P w K mg base CX0 1 T.f__law_cells T.fd__law_cells ["_law_script", "_law_top_so"] (spCells K) := by
  refine T.F__law_cells.ok sc__law_cells (fun vs H Q E h => ?_) (fun cdv A outer s H vs Q E hr h => ?_)
  · obtain ⟨a, ns, rfl, _⟩ := h
    rfl
  have hu := hu64 hr
  obtain ⟨a, ns, rfl, hs, h63, k⟩ := h
  refine ⟨_, (pss_cons (ps_set (i := 2) sc__law_cells.nd rfl (Or.inl rfl) (kOrT (K := K) (by rfl) (pe_callTy (kList (K := K) (by rfl)) (by rfl) T.z_list (by decide +kernel) (pa_cons (pe_slice (kSlL (K := K) (by rfl)) (pv 0) po_none (po_some (pv 1))) pa_nil)) (pe_one (pe_lst (pa_cons pe_int pa_nil)))))
  (pss_cons (ps_for PassesOwn.never rfl (kiEnum (K := K) (by rfl) (by rfl) T.z_enumerate (pa_cons (pe_slice (kSlL (K := K) (by rfl)) (pv 0) (po_some (pv 1)) (po_some pe_int)) pa_nil)) (kgTup (K := K) (n := 2) (by rfl) (by rfl) (pgs_cons (pg_name (i := 3) sc__law_cells.nd rfl (Or.inl rfl)) (pgs_cons (pg_name (i := 4) sc__law_cells.nd rfl (Or.inl rfl)) pgs_nil))) (pss_cons (ps_set (i := 5) sc__law_cells.nd rfl (Or.inl rfl) (pe_op op_mod (pe_callTy call_int1 (by rfl) T.z_int (by decide +kernel) (pa_cons (pv 3) pa_nil)) (pv 1)))
  (pss_one (ps_asg (pe_op op_add (pe_ix (kIxL (K := K) (by rfl)) (pv 2) (pv 5) (fun _ _ => rfl)) (pe_op op_mul (pv 4) (pe_op op_add (pv 3) pe_int))) (pg_sub (pv 2) (pv 5) set_list)))))
  (pss_one (ps_ret (pv 2))))), ?_⟩
  -- what stands in slot 2: a new list of one to three ints, three if the script goes on
  have first : ∀ (D : Ends) (u : TS), (∀ (p : Addr) (cs : List Int) (H1 : Hp), H p = none → Evl.Ex H H1 → H1 p = some (.lst (cs.map V.int)) → 1 ≤ cs.length → cs.length ≤ 3 → (3 < ns.length → cs.length = 3) → u D ((L2.start N__law_cells [V.ref a, V.int 3]).set 2 (some (.ref p))) H1) →
      tSeq (tAsg (tOrT K (tCB (rListOf K) (tCons (tSl (rSlL K) (tVar 0) tNoPart (tPart (tVar 1))) tNil)) (tLst (tCons (tC (.int 0)) tNil))) (gName 2)) u D (L2.start N__law_cells [V.ref a, V.int 3]) H := fun D u hu' => by
    have e3 : cutV (ns.map V.int) none (some 3) = (ns.take 3).map V.int := by
      rw [cut_map, HT.sIx_none, show HT.sIx ns.length ns.length (some 3) = min 3 ns.length from HT.sIx_nat _ _ 3, List.drop_zero, Nat.sub_zero]
      congr 1
      by_cases c : ns.length ≤ 3
      · rw [Nat.min_eq_right c, List.take_of_length_le (Nat.le_refl _), List.take_of_length_le c]
      · rw [Nat.min_eq_left (by omega)]
    refine ⟨_, rfl, _, rfl, 3, rfl, a, ns.map V.int, rfl, hs, fun p1 n1 => ?_⟩
    have x1 : Evl.Ex H (upd H p1 (.lst (cutV (ns.map V.int) none (some 3)))) := Evl.Ex.new n1
    rw [e3] at x1 ⊢
    refine ⟨p1, _, rfl, .inl (Evl.sq_of upd_same), fun p2 n2 => ?_⟩
    have x2 := x1.trans (Evl.Ex.new (o := .lst ((ns.take 3).map V.int)) n2)
    refine ⟨!((ns.take 3).map V.int).isEmpty, .inl ⟨_, Evl.sq_of upd_same, rfl⟩, ?_⟩
    cases ns with
    | nil =>
      refine iteF ⟨(by show 1 ≤ sizeLine; decide), fun p3 n3 => ?_⟩
      exact hu' p3 [0] _ (Evl.fresh_back x2 n3) (x2.trans (Evl.Ex.new n3)) upd_same (by decide) (by decide) (fun z => by simp at z)
    | cons n0 nr =>
      refine iteT ?_
      refine hu' p2 ((n0 :: nr).take 3) _ (Evl.fresh_back x1 n2) x2 upd_same ?_ ?_ fun z => ?_
      · rw [List.length_take, List.length_cons]
        omega
      · rw [List.length_take]
        omega
      · rw [List.length_take]
        omega
  refine first _ _ fun p cs H1 hp x1 h1 c1 c3 cz => ?_
  have hs1 : SqL K H1 a (ns.map V.int) := Evl.ex_l x1 hs
  refine ⟨_, rfl, _, rfl, 3, rfl, 63, rfl, a, ns.map V.int, rfl, hs1, fun q nq => ?_⟩
  rw [cut_map]
  generalize hms : (ns.drop (HT.sIx ns.length 0 (some 3))).take (HT.sIx ns.length ns.length (some 63) - HT.sIx ns.length 0 (some 3)) = ms
  have hm : 0 < ms.length → 3 < ns.length := fun z => by
    have e : HT.sIx ns.length 0 (some 3) = min 3 ns.length := HT.sIx_nat _ _ 3
    rw [← hms, List.length_take, List.length_drop, e] at z
    omega
  have hmz : ms.length ≤ 63 := by
    rw [← hms, List.length_take, List.length_drop]
    omega
  have x2 : Evl.Ex H1 (upd H1 q (.lst (ms.map V.int))) := Evl.Ex.new nq
  have hnp : H p = none := hp
  have npq : q ≠ p := fun z => by rw [z, h1] at nq; cases nq
  refine ⟨q, ms.map V.int, rfl, Evl.sq_of upd_same, for_it (walk_enum (xs := ms.map V.int)) (fun i σ H2 => ∃ (cs2 : List Int) (o3 o4 o5 : Option V), σ = [some (.ref a), some (.int 3), some (.ref p), o3, o4, o5] ∧ cs2.length = cs.length ∧ H2 p = some (.lst (cs2.map V.int)) ∧ H2 q = some (.lst (ms.map V.int)) ∧ Evl.Ex H H2)
    ⟨cs, none, none, none, rfl, rfl, x2 _ _ h1, upd_same, x1.trans x2⟩ (fun i σ H2 _ ⟨_, _, _, _, _, _, _, hq, _⟩ => Evl.sq_of hq) ?_ ?_⟩
  · rintro i x σ H2 H3 hi ⟨cs2, o3, o4, o5, rfl, l2, hp2, hq2, x3⟩ ⟨Tt, y1, y2, rfl, nT, rfl, q1, q2⟩
    cases q1
    have q2 : (ms.map V.int)[i]? = some y2 := q2
    obtain ⟨z, rfl⟩ : ∃ z, y2 = V.int z := by
      rw [List.getElem?_map] at q2
      cases e : ms[i]? with
      | none =>
        rw [e] at q2
        cases q2
      | some z =>
        rw [e] at q2
        exact ⟨z, (Option.some.inj q2).symm⟩
    have x4 : Evl.Ex H2 (upd H2 Tt (.tup [.int (i : Nat), .int z])) := Evl.Ex.new nT
    have hi2 : i < ms.length := by
      rw [List.length_map] at hi
      exact hi
    have hcs : cs2.length = 3 := by
      rw [l2]
      exact cz (hm (by omega))
    refine ⟨Tt, [.int (i : Nat), .int z], rfl, Evl.st_of upd_same, rfl, .int (i : Nat), [.int z], rfl, .int z, [], rfl, rfl, ?_⟩
    -- at = int(k) % top
    refine Evl.q_asg (Evl.ev_op (rc1 (K := K) (Evl.ev_var rfl)) (Evl.ev_var rfl) (Evl.rv_I (by decide))) fun H4 x5 => ?_
    obtain ⟨j, hj, hj3⟩ : ∃ j : Nat, ((i : Nat) : Int) % 3 = (j : Int) ∧ j < 3 := ⟨i % 3, by omega, Nat.mod_lt _ (by decide)⟩
    rw [hj]
    have hp4 : H4 p = some (.lst (cs2.map V.int)) := x5 _ _ (x4 _ _ hp2)
    have hjl : j < (cs2.map V.int).length := by rw [List.length_map]; omega
    have hget : (cs2.map V.int)[j]? = some (.int (cs2[j]'(by omega))) := by
      rw [List.getElem?_map, List.getElem?_eq_getElem (by omega)]
      rfl
    refine Evl.s_setL (l := p) (j := j) hp4 (Evl.ev_op (Evl.ev_op (Evl.ev_var rfl) (Evl.ev_var rfl) (Evl.rv_ixL (Evl.sq_of hp4) (atI_nat hget))) (Evl.ev_op (Evl.ev_var rfl) (Evl.ev_op (Evl.ev_var rfl) Evl.ev_c Evl.rv_I0) (Evl.rv_I (.inr ⟨by omega, by omega⟩))) Evl.rv_I0) (Evl.ev_var rfl) (Evl.ev_var rfl) hjl fun H5 x6 => ?_
    refine ⟨cs2.set j (cs2[j]'(by omega) + z * (((i : Nat) : Int) + 2)), some (.int (i : Nat)), some (.int z), some (.int (j : Int)), rfl, by rw [List.length_set]; exact l2, ?_, ?_, ?_⟩
    · rw [List.map_set]
      exact upd_same
    · rw [upd_ne npq]
      exact x6 _ _ (x5 _ _ (x4 _ _ hq2))
    · exact Evl.Ex.mut (x3.trans (x4.trans (x5.trans x6))) hnp
  · rintro σ H2 ⟨cs2, o3, o4, o5, rfl, l2, hp2, hq2, x3⟩
    exact ⟨_, rfl, k p cs2 H2 hnp x3 hp2 (by omega) (by omega)⟩
end
end K08
namespace K08
open PySem L2 PyProof.Rows DL TL RZ SW
/-! ### pieces that are bent -/
theorem size_bad {t : List Nat} {c : Nat} (hc : c ∈ t) (h : Unicode.isDigit c = false) : sizeOk ⟨t.toArray⟩ = false := by
  have q : Txt.isdigit (⟨t.toArray⟩ : Str) = false := by
    unfold Txt.isdigit
    have e : (t.toArray).all Unicode.isDigit = false := by
      rw [← Array.all_toList]
      exact List.all_eq_false.mpr ⟨c, hc, by rw [h]; exact Bool.false_ne_true⟩
    show (_ && (t.toArray).all Unicode.isDigit) = false
    rw [e, Bool.and_false]
  unfold sizeOk numOk
  rw [q, Bool.and_false, if_pos (by rfl), Bool.and_false]
theorem bad_tail {b : Str} {h : Nat} {t : List Nat} {c : Nat} (e : b.cps.toList = h :: t) (hc : c ∈ t) (hd : Unicode.isDigit c = false) : runOk b = false := by
  unfold runOk
  rw [(cut_head e).2, size_bad hc hd, Bool.and_false]
theorem bad_head {b : Str} {h : Nat} {t : List Nat} (e : b.cps.toList = h :: t) (h1 : h ≠ 43) (h2 : h ≠ 45) : runOk b = false := by
  unfold runOk
  rw [(cut_head e).1]
  have q : ¬ ((⟨#[h]⟩ : Str) ∈ [("+" : Str), ("-" : Str)]) := by
    intro z
    have p1 : ("+" : Str).cps.toList = [43] := by decide +kernel
    have p2 : ("-" : Str).cps.toList = [45] := by decide +kernel
    simp only [List.mem_cons, List.not_mem_nil, or_false] at z
    rcases z with z | z
    · have y := congrArg (fun x : Str => x.cps.toList) z
      rw [p1] at y
      exact h1 (List.cons.inj y).1
    · have y := congrArg (fun x : Str => x.cps.toList) z
      rw [p2] at y
      exact h2 (List.cons.inj y).1
  rw [decide_eq_false q, Bool.false_and]
theorem cat_tl (a b : Str) : (a ++ b).cps.toList = a.cps.toList ++ b.cps.toList := tl_append a b
theorem sig_tl (n : Int) : (plusS n).cps.toList = (if n < 0 then 45 else 43) :: numL n.natAbs := plusS_tl n
/-- behind a right piece one of these -/
theorem bad0 {n : Int} {c : Str} (h : c ∈ [("x" : Str), "+", "-", ".", "_", ","]) : runOk (plusS n ++ c) = false ∧ (plusS n ++ c).length = (plusS n).length + 1 ∧ (32 ∉ (plusS n).cps.toList → 32 ∉ (plusS n ++ c).cps.toList) := by
  have key : ∀ (d : Nat), c.cps.toList = [d] → Unicode.isDigit d = false → d ≠ 32 → runOk (plusS n ++ c) = false ∧ (plusS n ++ c).length = (plusS n).length + 1 ∧ (32 ∉ (plusS n).cps.toList → 32 ∉ (plusS n ++ c).cps.toList) := by
    intro d e hd h32
    refine ⟨?_, ?_, ?_⟩
    · refine bad_tail (h := if n < 0 then 45 else 43) (t := numL n.natAbs ++ [d]) (c := d) ?_ ?_ hd
      · rw [cat_tl, sig_tl, e, List.cons_append]
      · exact List.mem_append_right _ (List.mem_singleton.mpr rfl)
    · rw [Str.length_append, str_len c, e]
      rfl
    · intro z w
      rw [cat_tl, e] at w
      rcases List.mem_append.mp w with w | w
      · exact z w
      · exact h32 (List.mem_singleton.mp w).symm
  simp only [List.mem_cons, List.not_mem_nil, or_false] at h
  rcases h with rfl | rfl | rfl | rfl | rfl | rfl
  · exact key 120 (by decide +kernel) (by decide +kernel) (by decide)
  · exact key 43 (by decide +kernel) (by decide +kernel) (by decide)
  · exact key 45 (by decide +kernel) (by decide +kernel) (by decide)
  · exact key 46 (by decide +kernel) (by decide +kernel) (by decide)
  · exact key 95 (by decide +kernel) (by decide +kernel) (by decide)
  · exact key 44 (by decide +kernel) (by decide +kernel) (by decide)
theorem free32 (n : Int) : 32 ∉ (plusS n).cps.toList := by
  rw [sig_tl]
  intro hm
  rcases List.mem_cons.mp hm with e | hm
  · split at e <;> omega
  · exact numL_free (n := n.natAbs) (s := 32) (.inl (by decide)) hm
/-- without its sign -/
theorem bad1 {n : Int} (h : RunN1 n) : runOk (cutS (plusS n) (some 1) none) = false ∧ (cutS (plusS n) (some 1) none).length ≤ 40 ∧ 32 ∉ (cutS (plusS n) (some 1) none).cps.toList := by
  have e := (cut_head (sig_tl n)).2
  rw [e]
  obtain ⟨c, r, q, hc⟩ := numL_head n.natAbs (by have := h.1; omega)
  refine ⟨?_, ?_, ?_⟩
  · refine bad_head (h := c) (t := r) ?_ (by omega) (by omega)
    show numL n.natAbs = _
    exact q
  · show (numL n.natAbs).toArray.size ≤ 40
    rw [List.size_toArray]
    exact numL_len40 h.2
  · show 32 ∉ numL n.natAbs
    exact numL_free (.inl (by decide))
theorem bad2 {c : Str} (h : c ∈ [("" : Str), "+", "-", "0", "+0", "all"]) : runOk c = false ∧ c.length ≤ 40 ∧ 32 ∉ c.cps.toList := by
  simp only [List.mem_cons, List.not_mem_nil, or_false] at h
  rcases h with rfl | rfl | rfl | rfl | rfl | rfl <;> decide +kernel
/-- ahead of a right piece one of these -/
theorem bad3 {n : Int} {c : Str} (h : c ∈ [("+" : Str), "-", "0", "x"]) : runOk (c ++ plusS n) = false ∧ (c ++ plusS n).length = (plusS n).length + 1 ∧ 32 ∉ (c ++ plusS n).cps.toList := by
  have rest : ∀ (d : Nat), c.cps.toList = [d] → d ≠ 32 → (c ++ plusS n).length = (plusS n).length + 1 ∧ 32 ∉ (c ++ plusS n).cps.toList := by
    intro d e h32
    constructor
    · rw [Str.length_append, str_len c, e]
      exact Nat.add_comm _ _
    · intro w
      rw [cat_tl, e] at w
      rcases List.mem_append.mp w with w | w
      · exact h32 (List.mem_singleton.mp w).symm
      · exact free32 n w
  have sgn : ∀ (d : Nat), c.cps.toList = [d] → d ≠ 32 → runOk (c ++ plusS n) = false := by
    intro d e _
    refine bad_tail (h := d) (t := (plusS n).cps.toList) (c := if n < 0 then 45 else 43) ?_ ?_ ?_
    · rw [cat_tl, e]
      rfl
    · rw [sig_tl]
      exact List.mem_cons_self
    · split <;> decide +kernel
  have hdn : ∀ (d : Nat), c.cps.toList = [d] → d ≠ 43 → d ≠ 45 → runOk (c ++ plusS n) = false := by
    intro d e h1 h2
    refine bad_head (h := d) (t := (plusS n).cps.toList) ?_ h1 h2
    rw [cat_tl, e]
    rfl
  simp only [List.mem_cons, List.not_mem_nil, or_false] at h
  rcases h with rfl | rfl | rfl | rfl
  · exact ⟨sgn 43 (by decide +kernel) (by decide), rest 43 (by decide +kernel) (by decide)⟩
  · exact ⟨sgn 45 (by decide +kernel) (by decide), rest 45 (by decide +kernel) (by decide)⟩
  · exact ⟨hdn 48 (by decide +kernel) (by decide) (by decide), rest 48 (by decide +kernel) (by decide)⟩
  · exact ⟨hdn 120 (by decide +kernel) (by decide) (by decide), rest 120 (by decide +kernel) (by decide)⟩
/-! ### rows of pieces, one of them bent -/
theorem split_ps {ps : List Str} (hne : ps ≠ []) (h : ∀ p, p ∈ ps → 32 ∉ p.cps.toList) : pcs (Txt.join (" " : Str) ps) = ps := by
  have ey : tl (" " : Str) = 32 :: [] := by decide +kernel
  exact split_join ey (by decide +kernel) hne h
theorem runs_ok {ns : List Int} (h : Runs ns) : okPs (ns.map plusS) = true ∧ readP (ns.map plusS) = .inl (.tuple (dI ns)) := by
  constructor
  · unfold okPs
    rw [decide_eq_true (by rw [List.length_map]; exact h.2), Bool.true_and, List.all_eq_true]
    intro p hp
    obtain ⟨n, hn, rfl⟩ := List.mem_map.mp hp
    have q := h.1 n hn
    rw [int_plus q.2, decide_eq_true (by have := plusS_len q.2; omega)]
    simp
  · unfold readP
    have w : wrongAt (ns.map plusS) = none := by
      refine List.findIdx?_eq_none_iff.mpr fun p hp => ?_
      obtain ⟨n, hn, rfl⟩ := List.mem_map.mp hp
      rw [runOk_plus (h.1 n hn)]
      rfl
    rw [w]
    have e : (ns.map plusS).map valP = ns := by
      rw [List.map_map]
      refine (List.map_congr_left fun n hn => ?_).trans (List.map_id ns)
      show (PySem.intText? (plusS n)).getD 0 = n
      rw [int_plus (h.1 n hn).2]
      rfl
    rw [e]
theorem bent_ok {ns : List Int} {k : Nat} {b : Str} (h : Runs ns) (hk : k < ns.length) (hb : runOk b = false) (hl : b.length ≤ 640) : okPs ((ns.map plusS).set k b) = true ∧ readP ((ns.map plusS).set k b) = .inr (k : Int) := by
  constructor
  · unfold okPs
    rw [decide_eq_true (by rw [List.length_set, List.length_map]; exact h.2), Bool.true_and, List.all_eq_true]
    intro p hp
    rcases List.mem_or_eq_of_mem_set hp with hp | rfl
    · obtain ⟨n, hn, rfl⟩ := List.mem_map.mp hp
      have q := h.1 n hn
      rw [int_plus q.2, decide_eq_true (by have := plusS_len q.2; omega)]
      simp
    · rw [hb, decide_eq_true hl]
      rfl
  · unfold readP
    have w : wrongAt ((ns.map plusS).set k b) = some k := by
      refine List.findIdx?_eq_some_iff_getElem.mpr ⟨by rw [List.length_set, List.length_map]; exact hk, ?_, fun j hj => ?_⟩
      · rw [List.getElem_set_self, hb]
        rfl
      · rw [List.getElem_set_ne (by omega), List.getElem_map]
        have hj2 : j < ns.length := by omega
        rw [runOk_plus (h.1 _ (List.getElem_mem hj2))]
        decide
    rw [w]
/-! ### what k08 bends -/
theorem starts48 {r : List Nat} : Txt.startswith (⟨(48 :: r).toArray⟩ : Str) ("0" : Str) = true := by
  have e0 : ("0" : Str).cps = #[48] := by decide +kernel
  have e1 : ("0" : Str).length = 1 := by decide +kernel
  unfold Txt.startswith Builtin.Str.subAt
  rw [e0, e1]
  have h1 : (⟨(48 :: r).toArray⟩ : Str).length = r.length + 1 := by
    show (48 :: r).toArray.size = _
    rw [List.size_toArray, List.length_cons]
  rw [h1]
  have h2 : ((⟨(48 :: r).toArray⟩ : Str).cps.extract 0 (0 + 1)) = #[48] := by
    show (48 :: r).toArray.extract 0 1 = _
    simp
  rw [h2]
  simp
theorem size48 {t : List Nat} (h : t ≠ []) : sizeOk ⟨(48 :: t).toArray⟩ = false := by
  have e0 : ("0" : Str).cps.toList = [48] := by decide +kernel
  have n0 : (⟨(48 :: t).toArray⟩ : Str) ≠ ("0" : Str) := fun z => by
    have y := congrArg (fun x : Str => x.cps.toList) z
    rw [e0] at y
    exact h (List.cons.inj y).2
  unfold sizeOk numOk
  rw [decide_eq_false n0, starts48]
  simp
theorem cut_sig (n : Int) : cutS (plusS n) none (some 1) = (if n < 0 then ("-" : Str) else ("+" : Str)) := by
  have e := (cut_head (sig_tl n)).1
  rw [e]
  split <;> decide +kernel
theorem cut_dig (n : Int) : (cutS (plusS n) (some 1) none).cps.toList = numL n.natAbs := by
  rw [(cut_head (sig_tl n)).2]
def odds (n : Int) : List Str := [cutS (plusS n) (some 1) none, ("+" : Str) ++ plusS n, cutS (plusS n) none (some 1) ++ ("0" : Str) ++ cutS (plusS n) (some 1) none, plusS n ++ ("+" : Str), cutS (plusS n) none (some 1), ("" : Str), plusS n ++ ("x" : Str), cutS (plusS n) none (some 1) ++ ("0" : Str), ("x" : Str) ++ plusS n]
theorem odd_bad {n : Int} (h : RunN1 n) {b : Str} (hb : b ∈ odds n) : runOk b = false ∧ b.length ≤ 60 ∧ 32 ∉ b.cps.toList := by
  have l := plusS_len h.2
  have hn := free32 n
  unfold odds at hb
  simp only [List.mem_cons, List.not_mem_nil, or_false] at hb
  rcases hb with rfl | rfl | rfl | rfl | rfl | rfl | rfl | rfl | rfl
  · obtain ⟨a1, a2, a3⟩ := bad1 h
    exact ⟨a1, by omega, a3⟩
  · obtain ⟨a1, a2, a3⟩ := bad3 (n := n) (c := ("+" : Str)) (by simp)
    exact ⟨a1, by omega, a3⟩
  · obtain ⟨c, r, q, hc⟩ := numL_head n.natAbs (by have := h.1; omega)
    have e0 : ("0" : Str).cps.toList = [48] := by decide +kernel
    have e : (cutS (plusS n) none (some 1) ++ ("0" : Str) ++ cutS (plusS n) (some 1) none).cps.toList = (if n < 0 then 45 else 43) :: 48 :: numL n.natAbs := by
      rw [cat_tl, cat_tl, cut_sig, cut_dig, e0]
      by_cases c : n < 0
      · rw [if_pos c, if_pos c]
        have : ("-" : Str).cps.toList = [45] := by decide +kernel
        rw [this]
        rfl
      · rw [if_neg c, if_neg c]
        have : ("+" : Str).cps.toList = [43] := by decide +kernel
        rw [this]
        rfl
    refine ⟨?_, ?_, ?_⟩
    · unfold runOk
      rw [(cut_head e).2, size48 (by rw [q]; exact fun z => by cases z), Bool.and_false]
    · rw [str_len, e]
      have := numL_len40 h.2
      show _ + 1 + 1 ≤ _
      omega
    · rw [e]
      intro z
      rcases List.mem_cons.mp z with z | z
      · split at z <;> omega
      · rcases List.mem_cons.mp z with z | z
        · omega
        · exact numL_free (.inl (by decide)) z
  · obtain ⟨a1, a2, a3⟩ := bad0 (n := n) (c := ("+" : Str)) (by simp)
    exact ⟨a1, by omega, a3 hn⟩
  · rw [cut_sig]
    split
    · obtain ⟨a1, a2, a3⟩ := bad2 (c := ("-" : Str)) (by simp)
      exact ⟨a1, by omega, a3⟩
    · obtain ⟨a1, a2, a3⟩ := bad2 (c := ("+" : Str)) (by simp)
      exact ⟨a1, by omega, a3⟩
  · obtain ⟨a1, a2, a3⟩ := bad2 (c := ("" : Str)) (by simp)
    exact ⟨a1, by omega, a3⟩
  · obtain ⟨a1, a2, a3⟩ := bad0 (n := n) (c := ("x" : Str)) (by simp)
    exact ⟨a1, by omega, a3 hn⟩
  · rw [cut_sig]
    split <;> decide +kernel
  · obtain ⟨a1, a2, a3⟩ := bad3 (n := n) (c := ("x" : Str)) (by simp)
    exact ⟨a1, by omega, a3⟩
theorem val_plus {n : Int} (h : RunN1 n) : valP (plusS n) = n := by
  unfold valP
  rw [int_plus h.2]
  rfl
theorem okPy_of {ps : List Str} (hl : ps.length ≤ 1000) (h : ∀ p, p ∈ ps → (∃ n, RunN1 n ∧ p = plusS n) ∨ (runOk p = false ∧ p.length ≤ 60)) : okPy ps = true := by
  unfold okPy okPs
  rw [decide_eq_true hl, Bool.true_and, Bool.and_eq_true, List.all_eq_true, List.all_eq_true]
  constructor
  · intro p hp
    rcases h p hp with ⟨n, hn, rfl⟩ | ⟨h1, h2⟩
    · rw [int_plus hn.2, decide_eq_true (by have := plusS_len hn.2; omega)]
      simp
    · rw [h1, decide_eq_true (by omega)]
      rfl
  · intro p hp
    rcases h p hp with ⟨n, hn, rfl⟩ | ⟨h1, h2⟩
    · rw [val_plus hn, decide_eq_false hn.1]
      simp
    · rw [h1]
      rfl
theorem join_len {ps : List Str} {m : Nat} (hl : ps.length ≤ m) (hm : m ≤ 1000) (h : ∀ p, p ∈ ps → p.length ≤ 60) : (Txt.join (" " : Str) ps).length ≤ 61000 := by
  have q := Txt_join_len (" " : Str) ps
  have c0 : (" " : Str).length = 1 := by decide +kernel
  rw [c0] at q
  have s := sum_le (c := 60) h
  omega
theorem good_txt {ns : List Int} (h : Runs ns) (ne : ns ≠ []) (hl : ns.length ≤ 40) : okT (rnT ns) ∧ pcs (rnT ns) = ns.map plusS ∧ wrongAt (ns.map plusS) = none ∧ (ns.map plusS).map valP = ns := by
  have sp : pcs (rnT ns) = ns.map plusS := split_ps (fun z => ne (List.map_eq_nil_iff.mp z)) fun p hp => by
    obtain ⟨n, _, rfl⟩ := List.mem_map.mp hp
    exact free32 n
  have el : (ns.map plusS).length = ns.length := List.length_map ..
  refine ⟨⟨?_, ?_, ?_⟩, sp, ?_, ?_⟩
  · have := rnT_len h
    omega
  · rw [sp, el]
    omega
  · rw [sp, List.take_of_length_le (by omega)]
    exact okPy_of (by omega) fun p hp => by
      obtain ⟨n, hn, rfl⟩ := List.mem_map.mp hp
      exact .inl ⟨n, h.1 n hn, rfl⟩
  · refine List.findIdx?_eq_none_iff.mpr fun p hp => ?_
    obtain ⟨n, hn, rfl⟩ := List.mem_map.mp hp
    rw [runOk_plus (h.1 n hn)]
    rfl
  · rw [List.map_map]
    exact (List.map_congr_left fun n hn => val_plus (h.1 n hn)).trans (List.map_id ns)
theorem good_rd {ns : List Int} (h : Runs ns) (ne : ns ≠ []) (hl : ns.length ≤ 40) : rdD (rnT ns) = .tuple (dI ns) ∧ ∀ C, readY C (rnT ns) = .inl (obD C (yrF ns)) := by
  obtain ⟨_, sp, w, v⟩ := good_txt h ne hl
  have el : (ns.map plusS).length = ns.length := List.length_map ..
  have tk : (ns.map plusS).take 40 = ns.map plusS := List.take_of_length_le (by omega)
  constructor
  · unfold rdD
    rw [sp, tk, w]
    show (if 40 < (ns.map plusS).length then badD 40 else _) = _
    rw [if_neg (by omega), v]
  · intro C
    unfold readY
    rw [sp, tk, w]
    show (if 40 < (ns.map plusS).length then (Sum.inr 40 : PyData ⊕ Int) else _) = _
    rw [if_neg (by omega), v]
def bent (ns : List Int) (k : Nat) (b : Str) : List Str := (ns.map plusS).take k ++ [b] ++ (ns.map plusS).drop (k + 1) ++ [("+0" : Str)]
theorem bent_rd {ns : List Int} {k : Nat} {b : Str} (h : Runs ns) (hl : ns.length ≤ 30) (hk : k < ns.length) (hb : runOk b = false) (bl : b.length ≤ 60) (bs : 32 ∉ b.cps.toList) : okT (Txt.join (" " : Str) (bent ns k b)) ∧ rdD (Txt.join (" " : Str) (bent ns k b)) = badD (k : Int) := by
  have el : (ns.map plusS).length = ns.length := List.length_map ..
  have lt : ((ns.map plusS).take k).length = k := by rw [List.length_take, el]; omega
  have lb : (bent ns k b).length = ns.length + 1 := by
    unfold bent
    rw [List.length_append, List.length_append, List.length_append, lt, List.length_drop, el]
    show k + 1 + _ + 1 = _
    omega
  have z0 := bad2 (c := ("+0" : Str)) (by simp)
  have all : ∀ p, p ∈ bent ns k b → ((∃ n, RunN1 n ∧ p = plusS n) ∨ (runOk p = false ∧ p.length ≤ 60)) ∧ p.length ≤ 60 ∧ 32 ∉ p.cps.toList := fun p hp => by
    unfold bent at hp
    have pl : ∀ p, p ∈ ns.map plusS → ((∃ n, RunN1 n ∧ p = plusS n) ∨ (runOk p = false ∧ p.length ≤ 60)) ∧ p.length ≤ 60 ∧ 32 ∉ p.cps.toList := fun p hp => by
      obtain ⟨n, hn, rfl⟩ := List.mem_map.mp hp
      have l := plusS_len (h.1 n hn).2
      exact ⟨.inl ⟨n, h.1 n hn, rfl⟩, by omega, free32 n⟩
    rcases List.mem_append.mp hp with hp | hp
    · rcases List.mem_append.mp hp with hp | hp
      · rcases List.mem_append.mp hp with hp | hp
        · exact pl p (List.mem_of_mem_take hp)
        · rw [List.mem_singleton.mp hp]
          exact ⟨.inr ⟨hb, bl⟩, bl, bs⟩
      · exact pl p (List.mem_of_mem_drop hp)
    · rw [List.mem_singleton.mp hp]
      exact ⟨.inr ⟨z0.1, by have := z0.2.1; omega⟩, by have := z0.2.1; omega, z0.2.2⟩
  have sp : pcs (Txt.join (" " : Str) (bent ns k b)) = bent ns k b := split_ps (fun z => by rw [z] at lb; cases lb) fun p hp => (all p hp).2.2
  have tk : (bent ns k b).take 40 = bent ns k b := List.take_of_length_le (by omega)
  have w : wrongAt (bent ns k b) = some k := by
    have at_ : ∀ j (hj : j < (bent ns k b).length) (x : Str), (bent ns k b)[j]? = some x → (bent ns k b)[j] = x := fun j hj x e => by
      rw [List.getElem?_eq_getElem hj] at e
      exact Option.some.inj e
    have l1 : ((ns.map plusS).take k ++ [b]).length = k + 1 := by rw [List.length_append, lt]; rfl
    have l2 : k + 1 ≤ ((ns.map plusS).take k ++ [b] ++ (ns.map plusS).drop (k + 1)).length := by rw [List.length_append, l1]; omega
    have g1 : ∀ j, j < k → (bent ns k b)[j]? = some (plusS (ns.getD j 0)) := fun j hj => by
      have hj2 : j < ns.length := by omega
      unfold bent
      rw [List.getElem?_append_left (by omega), List.getElem?_append_left (by omega), List.getElem?_append_left (by omega), List.getElem?_take, if_pos hj, List.getElem?_map, List.getElem?_eq_getElem hj2, List.getD_eq_getElem?_getD, List.getElem?_eq_getElem hj2]
      rfl
    have g2 : (bent ns k b)[k]? = some b := by
      unfold bent
      rw [List.getElem?_append_left (by omega), List.getElem?_append_left (by omega), List.getElem?_append_right (by omega), lt, Nat.sub_self]
      rfl
    refine List.findIdx?_eq_some_iff_getElem.mpr ⟨by omega, ?_, fun j hj => ?_⟩
    · rw [at_ k (by omega) b g2, hb]
      rfl
    · have hj2 : j < ns.length := by omega
      have e3 : ns.getD j 0 = ns[j] := by rw [List.getD_eq_getElem?_getD, List.getElem?_eq_getElem hj2]; rfl
      rw [at_ j (by omega) _ (g1 j hj), e3, runOk_plus (h.1 _ (List.getElem_mem hj2))]
      decide
  refine ⟨⟨?_, ?_, ?_⟩, ?_⟩
  · have := join_len (ps := bent ns k b) (m := 100) (by omega) (by omega) fun p hp => (all p hp).2.1
    omega
  · rw [sp]
    omega
  · rw [sp, tk]
    exact okPy_of (by omega) fun p hp => (all p hp).1
  · unfold rdD
    rw [sp, tk, w]
theorem bent_sum {ns : List Int} {k : Nat} {b : Str} (h : Runs ns) (hl : ns.length ≤ 30) (hk : k < ns.length) (bl : b.length ≤ 60) : ((bent ns k b).map (·.length)).sum + (bent ns k b).length * (" " : Str).length ≤ 100000 := by
  have el : (ns.map plusS).length = ns.length := List.length_map ..
  have lb : (bent ns k b).length = ns.length + 1 := by
    unfold bent
    rw [List.length_append, List.length_append, List.length_append, List.length_take, List.length_drop, el]
    show min k _ + 1 + _ + 1 = _
    omega
  have c0 : (" " : Str).length = 1 := by decide +kernel
  have s := sum_le (c := 60) (xs := bent ns k b) fun p hp => by
    have pl : ∀ p, p ∈ ns.map plusS → p.length ≤ 60 := fun p hp => by
      obtain ⟨n, hn, rfl⟩ := List.mem_map.mp hp
      have := plusS_len (h.1 n hn).2
      omega
    unfold bent at hp
    rcases List.mem_append.mp hp with hp | hp
    · rcases List.mem_append.mp hp with hp | hp
      · rcases List.mem_append.mp hp with hp | hp
        · exact pl p (List.mem_of_mem_take hp)
        · rw [List.mem_singleton.mp hp]
          exact bl
      · exact pl p (List.mem_of_mem_drop hp)
    · rw [List.mem_singleton.mp hp]
      decide +kernel
  rw [c0]
  omega
end K08
namespace K08
open PySem L2 PyProof.Rows DL TL RZ SW
local macro_rules | `(tactic| walk_at "len") => `(tactic| first
  | exact Nat.le_of_ble_eq_true rfl
  | assumption
  | (simp only [List.length_map, List.length_cons, List.length_nil, dI, dS, dB, List.length_reverse, List.length_append, List.length_range, rngD]; omega)
  | omega)
local macro_rules | `(tactic| walk_at "rd") => `(tactic| first
  | with_reducible exact rd_add
  | with_reducible exact rd_sub
  | with_reducible exact rd_eqs
  | with_reducible exact rd_eqi
  | with_reducible exact rd_eqb
  | with_reducible exact rd_eqN
  | with_reducible exact rd_nes
  | with_reducible exact rd_nei
  | with_reducible exact rd_neb
  | with_reducible exact rd_B
  | with_reducible exact rd_isN
  | with_reducible exact rd_inS
  | ((with_reducible apply rd_ixTz); rfl; rfl)
  | ((with_reducible apply rd_ixLz); rfl; rfl)
  | ((with_reducible apply rd_cats); walk_at "len")
  | ((with_reducible apply rd_catl); walk_at "len")
  | ((with_reducible apply rd_repl) <;> (first | decide | omega))
  | ((with_reducible apply rd_reps); exact ⟨by decide +kernel, by intro _ _; decide +kernel, by intro _ _; decide +kernel⟩)
  | ((with_reducible apply rd_neD) <;> (first | rfl | decide +kernel))
  | ((with_reducible apply rd_eqD) <;> (first | rfl | decide +kernel))
  | (apply rd_I (C := CMul) (g := fun i j => i * j); exact (by first | exact .inl ⟨by decide, by decide⟩ | exact .inr ⟨by decide, by decide⟩))
  | (apply rd_I (C := CPow) (g := fun i j => i ^ j.toNat); exact ⟨by decide, by decide, by decide⟩))
local macro_rules | `(tactic| walk_at "rc") => `(tactic| first
  | with_reducible exact rc_lenL
  | with_reducible exact rc_lenT
  | with_reducible exact rc_int
  | with_reducible exact rc_intb
  | with_reducible exact rc_abs
  | with_reducible exact rc_all
  | with_reducible exact rc_max2
  | with_reducible exact rc_min2
  | with_reducible exact rc_sumT
  | with_reducible exact rc_sumL
  | with_reducible exact rc_list (.lst _)
  | with_reducible exact rc_list (.tup _)
  | with_reducible exact rc_tuple (.lst _)
  | with_reducible exact rc_tuple (.tup _)
  | ((with_reducible apply rc_str); first | assumption | decide +kernel)
  | ((with_reducible apply rc_lenS); assumption))
local macro_rules | `(tactic| walk_at "ea") => `(tactic| first
  | with_reducible exact ea_nil
  | ((with_reducible apply ea_cons); (walk_at "ev"); (walk_at "ea")))
local macro_rules | `(tactic| walk_at "call") => `(tactic| fail "call")
local macro_rules | `(tactic| walk_at "it") => `(tactic| first
  | ((with_reducible apply it_list); walk_at "ev")
  | ((with_reducible apply it_tup); walk_at "ev")
  | ((with_reducible apply it_rng); (walk_at "ea"); walk_at "len")
  | ((with_reducible apply it_enum); walk_at "ev")
  | ((with_reducible apply it_zip); (walk_at "ev"); (walk_at "ev"))
  | ((with_reducible apply it_zipA); rotate_left; (walk_at "ev"); (walk_at "ev"); first | exact .lst _ _ | exact .tup _ _)
  | ((with_reducible apply it_seq); rotate_left; (walk_at "ev"); first | exact .lst _ | exact .tup _ | assumption))
local macro_rules | `(tactic| walk_at "tgs") => `(tactic| first
  | with_reducible exact .nil
  | (apply TgsD.cons; (walk_at "tg"); (walk_at "tgs")))
local macro_rules | `(tactic| walk_at "tg") => `(tactic| first
  | ((with_reducible apply tg_name) <;> decide)
  | (apply tg_tup; (walk_at "tgs"); rfl)
  | (apply tg_seq; rotate_left; (walk_at "tgs"); rfl; first | exact .lst _ | exact .tup _ | assumption))
local macro_rules | `(tactic| walk_at "all2") => `(tactic| first
  | exact .nil
  | (apply All2.cons; (apply Exists.intro; apply And.intro; (walk_at "tg"); (walk_at "ev")); (walk_at "all2")))
local macro_rules | `(tactic| walk_at "ej") => `(tactic| first
  | with_reducible exact .nil
  | (apply EvJ.cons; (walk_at "ev"); (walk_at "ej")))
local macro_rules | `(tactic| walk_at "eo") => `(tactic| first
  | with_reducible exact eo_none
  | ((with_reducible apply eo_some); walk_at "ev"))
local macro_rules | `(tactic| walk_at "ev") => `(tactic| first
  | ((with_reducible apply ed_var); exact rfl)
  | with_reducible exact ed_int
  | with_reducible exact ed_str
  | with_reducible exact ed_bl
  | with_reducible exact ed_non
  | ((with_reducible apply ed_tup); (walk_at "ea"); (walk_at "len"))
  | ((with_reducible apply ed_lst); (walk_at "ea"); (walk_at "len"))
  | ((with_reducible apply ed_call); (walk_at "ea"); (walk_at "call"))
  | ((with_reducible apply ed_callN); (walk_at "ea"); rfl; (first | exact fun H vs q => q | exact sw_dq | exact sw3_dq); (walk_at "call"))
  | ((with_reducible apply ed_op); (walk_at "ev"); (walk_at "ev"); (walk_at "rd"))
  | ((with_reducible apply ed_isi); (walk_at "ev"); decide; try (first | rfl | decide))
  | ((with_reducible apply ed_isiT); (walk_at "ev"); decide; decide; try (first | rfl | decide))
  | ((with_reducible apply ed_neg); walk_at "ev")
  | ((with_reducible apply ed_andV); (walk_at "ev"); intro _; walk_at "ev")
  | ((with_reducible apply ed_orV); (walk_at "ev"); intro _; walk_at "ev")
  | ((with_reducible apply ed_notV); walk_at "ev")
  | ((with_reducible apply ed_split); (walk_at "ev"); (walk_at "ev"); (decide +kernel); walk_at "len")
  | ((with_reducible apply ed_partition); (walk_at "ev"); (walk_at "ev"); (decide +kernel); walk_at "len")
  | ((with_reducible apply ed_isdigit); walk_at "ev")
  | ((with_reducible apply ed_isascii); walk_at "ev")
  | ((with_reducible apply ed_startswith); (walk_at "ev"); walk_at "ev")
  | ((with_reducible apply ed_revL); walk_at "ev")
  | ((with_reducible apply ed_slA); (walk_at "ev"); (walk_at "eo"); walk_at "eo")
  | ((with_reducible apply ed_slL); (walk_at "ev"); (walk_at "eo"); walk_at "eo")
  | ((with_reducible apply ed_slS); (walk_at "ev"); (walk_at "eo"); (walk_at "eo"); walk_at "len")
  | ((with_reducible apply ed_joined); (walk_at "ej"); walk_at "len")
  | ((with_reducible apply ed_fmtI); (walk_at "ev"); first | assumption | decide +kernel)
  | ((with_reducible apply ed_fmtS); (walk_at "ev"); walk_at "len")
  | ((with_reducible apply ed_cb); (walk_at "ea"); walk_at "rc")
  | (apply ed_lc; (walk_at "it"); (walk_at "len"); intro D'; walk_at "all2"))
local macro_rules | `(tactic| walk_at "et") => `(tactic| first
  | ((with_reducible apply et_test); walk_at "ev")
  | ((with_reducible apply et_B); walk_at "ev")
  | ((with_reducible apply DL.et_not); walk_at "et")
  | ((with_reducible apply et_and); (walk_at "et"); intro _; walk_at "et")
  | ((with_reducible apply et_or); (walk_at "et"); intro _; walk_at "et"))
local macro_rules | `(tactic| walk_at "etb") => `(tactic| (apply et_is; (walk_at "et"); first | rfl | decide | (simp [tyIs, tyN]; done)))

section
variable {P : Program} {w : World} {K : PySem.W.Frag} {mg : Str → Option Value} {base : Heap}
local macro_rules | `(tactic| walk_at "call") => `(tactic| fail "call")
/-- if c: return ..; the drawn c comes out false -/
theorem rg_passEB {n k : Nat} {ρ : Rho} {c : Own} {tt : TT} {t : TS} {T : Rho → Own → Prop} {S : PyData → Prop} (h : EvBT n tt ρ k fun b => b = false) (h2 : T ρ c) : RG n (tIfS tt t tNext) ρ c k T S :=
  rg_wk (rg_if (k1 := k) (k2 := 0) (B := fun b => b = false) h (fun z => by cases z) fun _ => rg_next h2) (Nat.le_refl _) (fun _ _ z => z) fun _ z => z
/-- a drawn row -/
structure rowd (M : Nat) (h : Int) (rs : List Int) : Prop where
  ne : rs ≠ []
  len : rs.length ≤ M
  el : ∀ r, r ∈ rs → r ≠ 0 ∧ -h ≤ r ∧ r ≤ h
def R_runs (ds : List PyData) (S : PyData → Prop) : Prop := ∃ (M : Nat) (h : Int), 0 < M ∧ M ≤ 20 ∧ 1 ≤ h ∧ h < 2 ^ 190 ∧ ds = [.int (M : Int), .int h] ∧ ∀ rs, rowd M h rs → S (.tuple (dI rs))
theorem ok__law_runs (T : Txt K mg) : FnOk P w K mg base CX0 2 T.f__law_runs T.fd__law_runs ["_law_box_here", "_law_most_so", "_law_high_so"] (spB 60 R_runs) := by
  refine draw_ok T.F__law_runs sc__law_runs (fun ds S h => ?_) (by decide) (fun cdv A outer s H E hr => ?_)
  · obtain ⟨_, _, _, _, _, _, rfl, _⟩ := h
    rfl
  have G__law_take := ok__law_take (P := P) (w := w) (base := base) T
  have hr__law_take : Room 1 _ := hr.mono (by decide)
  have b__law_take := T.b__law_take
  have hu := hu64 hr
  refine ⟨_, (pss_cons (ps_set (i := 3) sc__law_runs.nd rfl (Or.inl rfl) (pe_lst pa_nil))
  (pss_cons (ps_for PassesOwn.never rfl (pi_range1 rfl T.z_range (pa_cons (pe_op op_add pe_int (pe_call G__law_take hr__law_take rfl T.m__law_take T.F__law_take.kp b__law_take .nil pass0 (pa_cons (pv 0) (pa_cons (pv 1) pa_nil)))) pa_nil)) (pg_name (i := 4) sc__law_runs.nd rfl (Or.inl rfl)) (pss_cons (ps_set (i := 5) sc__law_runs.nd rfl (Or.inl rfl) (pe_op op_add pe_int (pe_call G__law_take hr__law_take rfl T.m__law_take T.F__law_take.kp b__law_take .nil pass0 (pa_cons (pv 0) (pa_cons (pv 2) pa_nil)))))
  (pss_one (ps_expr (pe_bm PySem.F.plainAttrs_list PySem.F.slot_list_append PySem.F.type_list_append mt_append (pv 3) (pa_cons (pe_ifExp (pt_cmpR op_eq (pe_call G__law_take hr__law_take rfl T.m__law_take T.F__law_take.kp b__law_take .nil pass0 (pa_cons (pv 0) (pa_cons pe_int pa_nil))) pe_int (nomark _)) (pv 5) (pe_op op_sub pe_int (pv 5))) pa_nil))))))
  (pss_one (ps_ret (pe_callTy (kTuple (K := K) (by rfl)) (by rfl) T.z_tuple (by decide +kernel) (pa_cons (pv 3) pa_nil)))))), fun ds S hR => rbr_rg ?_⟩
  obtain ⟨M, h, m0, m1, h0, h1, rfl, hS⟩ := hR
  refine rg_k (k := ((0 + 1) + M * ((0 + 1) + ((1 + 0) + 0))) + 0) ?_ (by omega)
  refine rg_own0 (m := 3) (ds := []) (fun P => ef_lst ea_nil (by decide)) (by decide) (by show 3 < 6; decide) (by decide) rfl ?_
  let Iv : Nat → Rho → Own → Prop := fun i ρ c => ∃ (xs : List Int) (a4 a5 : Option PyData), xs.length = i ∧ (∀ x, x ∈ xs → x ≠ 0 ∧ -h ≤ x ∧ x ≤ h) ∧ c = Own.none.put 3 (dI xs) ∧ ρ = [none, some (.int (M : Int)), some (.int h), none, a4, a5]
  refine rg_seq (rg_forR (M := M) (k := 0 + 1) (Tm := fun m => 1 ≤ m) (eb_wk (eb_op (k1 := 0) (k2 := 1) (S1 := fun d => d = .int 1) (S2 := fun d => ∃ r : Int, d = .int r ∧ 0 ≤ r ∧ r < M) (eb_pure fun O => ed_int) (eb_draw (m := (M : Int)) (fun O => ed_var rfl) (by omega) (log_lt (by omega) (by omega)) fun r r0 r1 => ⟨r, rfl, r0, r1⟩) fun x y hx hy => ?_) (Nat.le_refl _) fun d hd => hd) (by omega) (by decide) (by decide) Iv ⟨[], _, _, rfl, (fun x hx => by cases hx), rfl, rfl⟩ fun i hi ρi ci hI => ?_) fun ρ1 c1 hI => ?_
  · subst hx
    obtain ⟨r, rfl, r0, r1⟩ := hy
    exact ⟨.int (1 + r), ⟨(1 + r).toNat, congrArg PyData.int (by omega), by omega, by omega⟩, fun O => rd_add⟩
  · obtain ⟨xs, a4, a5, xl, xe, rfl, rfl⟩ := hI
    refine ⟨rfl, fun a fs ha => by
      have := put_ne ha
      subst this
      exact ⟨by decide, rfl⟩, ?_⟩
    refine rg_get (k1 := 0 + 1) (k2 := (1 + 0) + 0) (S1 := fun d => ∃ x : Int, d = .int x ∧ 1 ≤ x ∧ x ≤ h) (eb_op (k1 := 0) (k2 := 1) (S1 := fun d => d = .int 1) (S2 := fun d => ∃ r : Int, d = .int r ∧ 0 ≤ r ∧ r < h) (eb_pure fun O => ed_int) (eb_draw (m := h) (fun O => ed_var rfl) (by omega) (log_lt (by omega) (by omega)) fun r r0 r1 => ⟨r, rfl, r0, r1⟩) fun x y hx hy => ?_) (by decide) (by decide) rfl fun d hd => ?_
    · subst hx
      obtain ⟨r, rfl, r0, r1⟩ := hy
      exact ⟨.int (1 + r), ⟨1 + r, rfl, by omega, by omega⟩, fun O => rd_add⟩
    obtain ⟨x, rfl, x0, x1⟩ := hd
    refine rg_wk (rg_app (ds := dI xs) (k := (1 + 0) + 0) (S1 := fun d => ∃ y : Int, d = .int y ∧ y ≠ 0 ∧ -h ≤ y ∧ y ≤ h) rfl (eb_if (k := 1 + 0) (k1 := 0) (B := fun _ => True) (ebt_test (eb_op (k1 := 1) (k2 := 0) (S1 := fun d => ∃ r : Int, d = .int r) (S2 := fun d => d = .int 0) (eb_draw (m := 2) (fun O => ed_int) (by decide) (by decide) fun r _ _ => ⟨r, rfl⟩) (eb_pure fun O => ed_int) fun x y hx hy => ?_)) (fun _ => eb_wk (eb_pure (d := .int x) fun O => ed_var rfl) (Nat.le_refl _) fun d hd => ?_) fun _ => eb_wk (eb_pure (d := .int (0 - x)) fun O => ed_op ed_int (ed_var rfl) rd_sub) (Nat.le_refl _) fun d hd => ?_) (by rw [dI_len]; omega)) (Nat.le_refl _) (fun ρ' c' hz => ?_) fun _ z => z
    · obtain ⟨r, rfl⟩ := hx
      subst hy
      exact ⟨_, ⟨_, rfl, trivial⟩, fun O => rd_eqi⟩
    · subst hd
      exact ⟨x, rfl, by omega, by omega, by omega⟩
    · subst hd
      exact ⟨0 - x, rfl, by omega, by omega, by omega⟩
    · obtain ⟨_, ⟨y, rfl, hy⟩, rfl, rfl⟩ := hz
      refine ⟨xs ++ [y], _, _, by rw [List.length_append, xl]; rfl, fun z hz => ?_, ?_, rfl⟩
      · rcases List.mem_append.mp hz with hz | hz
        · exact xe z hz
        · rw [List.mem_singleton.mp hz]
          exact hy
      · rw [put_put, ← dI_app]
        rfl
  · obtain ⟨m, hm1, hm2, xs, a4, a5, xl, xe, rfl, rfl⟩ := hI
    refine rg_freeze (m := 3) (ds := dI xs) rfl ?_
    refine rg_c (c := Own.none) ?_ (by rw [put_del]) rfl
    refine rg_ret0 (fun O => ed_cb (ea_cons (ed_var rfl) ea_nil) (rc_tuple (.lst _))) (hS _ ⟨fun z => ?_, by omega, xe⟩)
    subst z
    have : ([] : List Int).length = 0 := rfl
    omega

theorem kb_t_of' (T : Txt K mg) : KBn K T.fd_t_of ["text"] 0 ["text"] (fun us ws => us ++ ws) (fun vs zs => vs ++ zs) := kb_one T.F_t_of fun _ _ _ _ _ _ _ => rfl
def allD (n : Nat) (xs : List PyData) : Prop := ∀ y, y ∈ xs → okD n y
theorem al0 {n : Nat} : allD n [] := fun y hy => by cases hy
theorem alC {n : Nat} {x : PyData} {xs : List PyData} (h : okD n x) (t : allD n xs) : allD n (x :: xs) := fun y hy => by
  rcases List.mem_cons.mp hy with rfl | hy
  · exact h
  · exact t y hy
theorem okLs {n : Nat} {xs : List PyData} (hl : xs.length ≤ 1000) (h : allD n xs) : okD (n + 1) (.list xs) := ⟨hl, h⟩
theorem okTI (n : Nat) {l : List Int} (h : l.length ≤ 1000) : okD (n + 2) (.tuple (dI l)) := ⟨by rw [dI_len]; exact h, fun y hy => by
  obtain ⟨k, _, rfl⟩ := List.mem_map.mp hy
  trivial⟩
theorem okDI (n : Nat) (i : Int) : okD (n + 1) (.int i) := trivial
theorem okDB (n : Nat) (b : Bool) : okD (n + 1) (.bool b) := trivial
theorem okDS (n : Nat) (x : Str) : okD (n + 1) (.str x) := trivial
theorem cutS_drop (ps : List Str) (m : Nat) : DL.cutD (dS ps) (some (m : Int)) none = dS (ps.drop m) := by
  unfold DL.cutD
  have e : HT.sIx (dS ps).length 0 (some (m : Int)) = min m (dS ps).length := HT.sIx_nat _ _ m
  rw [HT.sIx_none, e, dS_len]
  unfold dS
  rw [← List.map_drop]
  by_cases c : m ≤ ps.length
  · rw [Nat.min_eq_left c, List.take_of_length_le (by rw [List.length_map, List.length_drop]; omega)]
  · rw [Nat.min_eq_right (by omega), List.drop_of_length_le (Nat.le_refl _), List.drop_of_length_le (by omega), List.map_nil, List.take_nil]
theorem dS_app (a b : List Str) : dS a ++ dS b = dS (a ++ b) := List.map_append.symm
theorem ed_ptxt {O : List Addr} {n : Nat} {ρ : Rho} {te : TE} {C : Addr} {rs : List Int} (h : Runs rs) (he : EvD O n te ρ (obD C (yrF rs))) : EvD O n (tProp C (spD (R_p_text C)) [] E0 te) ρ (.str (rnT rs)) := ed_prop he ⟨rs, h, rfl, rfl⟩
/-! ### a case -/
def R_case (ds : List PyData) (S : PyData → Prop) : Prop := ∃ rs : List Int, Runs rs ∧ rs ≠ [] ∧ rs.length ≤ 14 ∧ ds = [.tuple (dI rs)] ∧ S (.bool true)
theorem ok__law_case_right (T : Txt K mg) : FnOk P w K mg base CX0 8 T.f__law_case_right T.fd__law_case_right ["_law_box_here", "_law_runs_so"] (spB 5 R_case) := by
  refine draw_ok T.F__law_case_right sc__law_case_right (fun ds S h => ?_) (by decide) (fun cdv A outer s H E hr => ?_)
  · obtain ⟨_, _, _, _, rfl, _⟩ := h
    rfl
  have G__law_take := ok__law_take (P := P) (w := w) (base := base) T
  have hr__law_take : Room 1 _ := hr.mono (by decide)
  have b__law_take := T.b__law_take
  have G__law_same := ok__law_same (P := P) (w := w) (base := base) T
  have hr__law_same : Room 7 _ := hr.mono (by decide)
  have b__law_same := T.b__law_same
  have G__law_written := ok__law_written (P := P) (w := w) (base := base) T
  have hr__law_written : Room 1 _ := hr.mono (by decide)
  have b__law_written := T.b__law_written
  have G__law_read := ok__law_read (P := P) (w := w) (base := base) T
  have hr__law_read : Room 7 _ := hr.mono (by decide)
  have b__law_read := T.b__law_read
  have G__law_of := ok__law_of (P := P) (w := w) (base := base) T
  have hr__law_of : Room 2 _ := hr.mono (by decide)
  have b__law_of := T.b__law_of
  have G_t___eq__ := ok_t___eq__ (P := P) (w := w) (base := base) T
  have hr_t___eq__ : Room 1 _ := hr.mono (by decide)
  have b_t___eq__ := T.b_t___eq__
  have G_t_of := ok_t_of (P := P) (w := w) (base := base) T
  have hr_t_of : Room 6 _ := hr.mono (by decide)
  have b_t_of := T.b_t_of
  have G_Year := ok_Year (P := P) (w := w) (base := base) T
  have hr_Year : Room 5 _ := hr.mono (by decide)
  have G_prop_text := ok_prop_text (P := P) (w := w) (base := base) T
  have hr_prop_text : Room 5 _ := hr.mono (by decide)
  have kb_t_of := kb_t_of' T
  have hu := hu64 hr
  refine ⟨_, (pss_cons (ps_par (i := 2) (j := 3) rfl sc__law_case_right.nd rfl rfl (by decide) rfl rfl (pa_cons (pe_call G__law_written hr__law_written rfl T.m__law_written T.F__law_written.kp b__law_written .nil pass0 (pa_cons (pv 1) pa_nil)) (pa_cons (pe_make T.M_Y G_Year hr_Year rfl T.m_Y T.bI_Y .nil pass0 (pa_cons (pv 1) pa_nil)) pa_nil)) (by first | rfl | kernel_rfl))
  (pss_cons (ps_set (i := 4) sc__law_case_right.nd rfl (Or.inl rfl) (pe_lst (pa_cons (pe_prop (pv 3) T.cls_Y T.P_text G_prop_text hr_prop_text T.bG_text .nil pass0 rfl) (pa_cons (pe_call G__law_read hr__law_read rfl T.m__law_read T.F__law_read.kp b__law_read .nil pass0 (pa_cons (pv 2) pa_nil)) (pa_cons (pe_cmpR (op_eqO G_t___eq__ hr_t___eq__ T.ME___eq__ b_t___eq__ pass0) (pe_smeth (pe_glob (v := .ref T.C_Y) (by rfl) T.m_Y rfl) T.S_of G_t_of hr_t_of b_t_of .nil pass0 (pa_cons (pe_prop (pv 3) T.cls_Y T.P_text G_prop_text hr_prop_text T.bG_text .nil pass0 rfl) pa_nil)) (pv 3) (nomark _)) (pa_cons (pe_prop (pe_smethN0 (pe_glob (v := .ref T.C_Y) (by rfl) T.m_Y rfl) T.S_of G_t_of hr_t_of kb_t_of pass0 (pk_cons (pv 2) pk_nil)) T.cls_Y T.P_text G_prop_text hr_prop_text T.bG_text .nil pass0 rfl) pa_nil))))))
  (pss_cons (ps_if (pt_not (pt_val (pe_call G__law_same hr__law_same rfl T.m__law_same T.F__law_same.kp b__law_same .nil pass0 (pa_cons (pv 4) (pa_cons (pe_lst (pa_cons (pv 2) (pa_cons (pv 1) (pa_cons pe_bl (pa_cons (pv 2) pa_nil))))) pa_nil))))) (pss_one (ps_ret pe_bl)) pss_nil)
  (pss_cons (ps_set (i := 5) sc__law_case_right.nd rfl (Or.inl rfl) (pe_split (pv 2) pe_str))
  (pss_cons (ps_set (i := 6) sc__law_case_right.nd rfl (Or.inl rfl) (pe_call G__law_take hr__law_take rfl T.m__law_take T.F__law_take.kp b__law_take .nil pass0 (pa_cons (pv 0) (pa_cons (pe_callB (kLen (K := K) (by rfl)) (by rfl) T.z_len PySem.boot_len (pa_cons (pv 5) pa_nil)) pa_nil))))
  (pss_cons (ps_set (i := 7) sc__law_case_right.nd rfl (Or.inl rfl) (pe_ix (kIxL (K := K) (by rfl)) (pv 5) (pv 6) (fun _ _ => rfl)))
  (pss_cons (ps_set (i := 8) sc__law_case_right.nd rfl (Or.inl rfl) (pe_lst (pa_cons (pe_slice sl_str (pv 7) (po_some pe_int) po_none) (pa_cons (pe_op op_add_str pe_str (pv 7)) (pa_cons (pe_op op_add_str (pe_op op_add_str (pe_slice sl_str (pv 7) po_none (po_some pe_int)) pe_str) (pe_slice sl_str (pv 7) (po_some pe_int) po_none)) (pa_cons (pe_op op_add_str (pv 7) pe_str) (pa_cons (pe_slice sl_str (pv 7) po_none (po_some pe_int)) (pa_cons pe_str (pa_cons (pe_op op_add_str (pv 7) pe_str) pa_nil)))))))))
  (pss_cons (ps_set (i := 8) sc__law_case_right.nd rfl (Or.inl rfl) (pe_op op_cat (pv 8) (pe_lst (pa_cons (pe_op op_add_str (pe_slice sl_str (pv 7) po_none (po_some pe_int)) pe_str) (pa_cons (pe_op op_add_str pe_str (pv 7)) pa_nil)))))
  (pss_cons (ps_set (i := 9) sc__law_case_right.nd rfl (Or.inl rfl) (pe_op op_cat (pe_op op_cat (pe_op op_cat (pe_slice (kSlL (K := K) (by rfl)) (pv 5) po_none (po_some (pv 6))) (pe_lst (pa_cons (pe_call G__law_of hr__law_of rfl T.m__law_of T.F__law_of.kp b__law_of .nil pass0 (pa_cons (pv 0) (pa_cons (pv 8) pa_nil))) pa_nil))) (pe_slice (kSlL (K := K) (by rfl)) (pv 5) (po_some (pe_op op_add (pv 6) pe_int)) po_none)) (pe_lst (pa_cons pe_str pa_nil))))
  (pss_one (ps_ret (pe_call G__law_same hr__law_same rfl T.m__law_same T.F__law_same.kp b__law_same .nil pass0 (pa_cons (pe_call G__law_read hr__law_read rfl T.m__law_read T.F__law_read.kp b__law_read .nil pass0 (pa_cons (kJoin (K := K) (by rfl) pe_str (pv 9)) pa_nil)) (pa_cons (pe_lst (pa_cons (pv 6) (pa_cons pe_bl (pa_cons pe_bl pa_nil)))) pa_nil)))))))))))))), fun ds S hR => rbr_rg ?_⟩
  obtain ⟨rs, hr, ne, l14, rfl, hS⟩ := hR
  obtain ⟨ok, sp, w, v⟩ := good_txt hr ne (by omega)
  obtain ⟨g1, g2⟩ := good_rd hr ne (by omega)
  have lp := List.length_pos_iff.mpr ne
  have nz : ∀ r, r ∈ rs → r ≠ 0 := fun r h => (hr.1 r h).1
  let Tx : PyData := .str (rnT rs)
  let Y : PyData := obD T.C_Y (yrF rs)
  refine rg_k (k := 1 + ((0 + (0 + 1 + 0) + 0 + 0) + 0)) ?_ (by decide)
  refine rg_par0 (x := Tx) (y := Y) (fun O => ea_cons (ed_call (ea_cons (ed_var rfl) ea_nil) ⟨rs, hr, rfl, rfl⟩) (ea_cons (ed_year (ed_var rfl) (.tup _) (by omega) nz) ea_nil)) (by decide) (by decide) (by decide) (by decide) rfl rfl ?_
  have of_ : R_ofC T.C_Y [Tx] Y := ⟨rnT rs, ok, rfl, g2 _⟩
  let G : PyData := .list [Tx, .tuple (dI rs), .bool true, Tx]
  refine rg_let (d := G) (fun O => ed_lst (xs := [Tx, .tuple (dI rs), .bool true, Tx]) (ea_cons (ed_ptxt hr (ed_var rfl)) (ea_cons (ed_is (ed_call (ea_cons (ed_var rfl) ea_nil) ⟨rnT rs, ok, rfl, rfl⟩) g1) (ea_cons (ed_is (ed_op (ed_call (ea_cons (ed_ptxt hr (ed_var rfl)) ea_nil) of_) (ed_var rfl) (rd_eqO ⟨rs, rs, rfl, rfl⟩)) (congrArg PyData.bool (decide_eq_true rfl))) (ea_cons (ed_ptxt hr (ed_callN (ds := [Tx]) (ea_cons (ed_var rfl) ea_nil) rfl (fun _ _ h => h) of_)) ea_nil)))) (Nat.le_of_ble_eq_true rfl)) (by decide) (by decide) rfl ?_
  have okG : okD 7 G := okLs (Nat.le_of_ble_eq_true rfl) (alC (okDS _ _) (alC (okTI _ (by omega)) (alC (okDB _ _) (alC (okDS _ _) al0))))
  refine rg_pass (fun O => by
    rw [vw_none]
    exact et_is (DL.et_not (et_B (ed_call (ea_cons (ed_var rfl) (ea_cons (ed_lst (xs := [Tx, .tuple (dI rs), .bool true, Tx]) (ea_cons (ed_var rfl) (ea_cons (ed_var rfl) (ea_cons ed_bl (ea_cons (ed_var rfl) ea_nil)))) (Nat.le_of_ble_eq_true rfl)) ea_nil)) (r_same rfl okG)))) rfl) ?_
  let ps := rs.map plusS
  have pl : ps.length = rs.length := List.length_map ..
  refine rg_let (d := .list (dS ps)) (fun O => ed_is (ed_split (ed_var rfl) ed_str sp1 ok.1) (congrArg (fun x => PyData.list (dS x)) sp)) (by decide) (by decide) rfl ?_
  refine rg_get (k1 := 1) (S1 := fun d => ∃ k : Nat, d = .int (k : Int) ∧ k < rs.length) (eb_draw (m := (rs.length : Int)) (fun O => ed_is (ed_cb (ea_cons (ed_var rfl) ea_nil) rc_lenL) (congrArg PyData.int (by rw [dS_len, pl]))) (by omega) (log_lt (by omega) (by omega)) fun r r0 r1 => ⟨r.toNat, congrArg PyData.int (by omega), by omega⟩) (by decide) (by decide) rfl fun d hd => ?_
  obtain ⟨k, rfl, hk⟩ := hd
  have hn : RunN1 (rs.getD k 0) := hr.1 _ (by
    rw [List.getD_eq_getElem?_getD, List.getElem?_eq_getElem hk]
    exact List.getElem_mem hk)
  have pk : (dS ps)[k]? = some (.str (plusS (rs.getD k 0))) := by
    show ((rs.map plusS).map PyData.str)[k]? = _
    rw [List.getElem?_map, List.getElem?_map, List.getElem?_eq_getElem hk, List.getD_eq_getElem?_getD, List.getElem?_eq_getElem hk]
    rfl
  refine rg_let (d := .str (plusS (rs.getD k 0))) (fun O => ed_op (ed_var rfl) (ed_var rfl) (rd_ixL pk)) (by decide) (by decide) rfl ?_
  generalize rs.getD k 0 = n at hn
  have ll := plusS_len hn.2
  have o1 : ("0" : Str).length = 1 := by decide +kernel
  have o2 : ("+" : Str).length = 1 := by decide +kernel
  have o3 : ("x" : Str).length = 1 := by decide +kernel
  have b1 := (odd_bad hn (b := cutS (plusS n) (some 1) none) (by unfold odds; simp)).2.1
  have b2 := (odd_bad hn (b := cutS (plusS n) none (some 1)) (by unfold odds; simp)).2.1
  have hd : ∀ {O : List Addr} {ρ : Rho}, ρ[7]? = some (some (.str (plusS n))) → EvD O N__law_case_right.length (tSl rSlS (tVar 7) tNoPart (tPart (tC (.int 1)))) ρ (.str (cutS (plusS n) none (some 1))) := fun e => ed_slS (ed_var e) eo_none (eo_some ed_int) (by omega)
  have tl' : ∀ {O : List Addr} {ρ : Rho}, ρ[7]? = some (some (.str (plusS n))) → EvD O N__law_case_right.length (tSl rSlS (tVar 7) (tPart (tC (.int 1))) tNoPart) ρ (.str (cutS (plusS n) (some 1) none)) := fun e => ed_slS (ed_var e) (eo_some ed_int) eo_none (by omega)
  refine rg_let (d := .list (dS ((odds n).take 7))) (fun O => ed_lst (xs := dS ((odds n).take 7)) (ea_cons (tl' rfl) (ea_cons (ed_op ed_str (ed_var rfl) (rd_cats (by omega))) (ea_cons (ed_op (ed_op (hd rfl) ed_str (rd_cats (by omega))) (tl' rfl) (rd_cats (by rw [Str.length_append]; omega))) (ea_cons (ed_op (ed_var rfl) ed_str (rd_cats (by omega))) (ea_cons (hd rfl) (ea_cons ed_str (ea_cons (ed_op (ed_var rfl) ed_str (rd_cats (by omega))) ea_nil))))))) (Nat.le_of_ble_eq_true rfl)) (by decide) (by decide) rfl ?_
  refine rg_let (d := .list (dS (odds n))) (fun O => ed_op (ed_var rfl) (ed_lst (xs := dS ((odds n).drop 7)) (ea_cons (ed_op (hd rfl) ed_str (rd_cats (by omega))) (ea_cons (ed_op ed_str (ed_var rfl) (rd_cats (by omega))) ea_nil)) (Nat.le_of_ble_eq_true rfl)) (rd_catl (Nat.le_of_ble_eq_true rfl))) (by decide) (by decide) rfl ?_
  have lt : ∀ m, (dS (ps.take m)).length ≤ 14 := fun m => by rw [dS_len, List.length_take, pl]; omega
  have ld : ∀ m, (dS (ps.drop m)).length ≤ 14 := fun m => by rw [dS_len, List.length_drop, pl]; omega
  refine rg_get (k1 := 0 + (0 + 1 + 0) + 0 + 0) (S1 := fun d => ∃ b, b ∈ odds n ∧ d = .list (dS (bent rs k b))) (eb_op (k1 := 0 + (0 + 1 + 0) + 0) (k2 := 0) (S1 := fun d => ∃ b, b ∈ odds n ∧ d = .list (dS (ps.take k ++ [b] ++ ps.drop (k + 1)))) (S2 := fun d => d = .list (dS [("+0" : Str)])) (eb_op (k1 := 0 + (0 + 1 + 0)) (k2 := 0) (S1 := fun d => ∃ b, b ∈ odds n ∧ d = .list (dS (ps.take k ++ [b]))) (S2 := fun d => d = .list (dS (ps.drop (k + 1)))) (eb_op (k1 := 0) (k2 := 0 + 1 + 0) (S1 := fun d => d = .list (dS (ps.take k))) (S2 := fun d => ∃ b, b ∈ odds n ∧ d = .list (dS [b])) (eb_pure fun O => ed_is (ed_slL (ed_var rfl) eo_none (eo_some (ed_var rfl))) (congrArg PyData.list (cutS_take ps k))) (eb_wk (eb_lst (eba_cons (k1 := 0 + 1) (k2 := 0) (S1 := fun d => ∃ b, b ∈ odds n ∧ d = .str b) (eb_of (k := 0) (S := fun d => ∃ b, b ∈ odds n ∧ d = .str b) (eb_wk (eb_pure fun O => ed_var rfl) (Nat.le_refl _) fun d hd => ?_)) eba_nil) fun ds hd => ?_) (Nat.le_refl _) fun d hd => ?_) fun x y hx hy => ?_) (eb_pure fun O => ed_is (ed_slL (ed_var rfl) (eo_some (ed_is (d := .int ((k : Int) + 1)) (x := .int ((k + 1 : Nat) : Int)) (ed_op (ed_var rfl) ed_int rd_add) (congrArg PyData.int (by omega)))) eo_none) (congrArg PyData.list (cutS_drop ps (k + 1)))) fun x y hx hy => ?_) (eb_pure fun O => ed_lst (xs := dS [("+0" : Str)]) (ea_cons ed_str ea_nil) (Nat.le_of_ble_eq_true rfl)) fun x y hx hy => ?_) (by decide) (by decide) rfl fun d hd => ?_
  · subst hd
    refine ⟨_, rfl, Nat.succ_pos _, Nat.le_of_ble_eq_true rfl, fun e he => ?_⟩
    obtain ⟨b, hb, rfl⟩ := List.mem_map.mp he
    exact ⟨rfl, b, hb, rfl⟩
  · obtain ⟨_, _, rfl, _, rfl⟩ := hd
    exact Nat.le_of_ble_eq_true rfl
  · obtain ⟨_, rfl, _, _, rfl, ⟨b, hb, rfl⟩, rfl⟩ := hd
    exact ⟨b, hb, rfl⟩
  · subst hx
    obtain ⟨b, hb, rfl⟩ := hy
    exact ⟨.list (dS (ps.take k) ++ dS [b]), ⟨b, hb, congrArg PyData.list (dS_app _ _)⟩, fun O => rd_catl (by have := lt k; show _ + 1 ≤ _; omega)⟩
  · obtain ⟨b, hb, rfl⟩ := hx
    subst hy
    exact ⟨.list (dS (ps.take k ++ [b]) ++ dS (ps.drop (k + 1))), ⟨b, hb, congrArg PyData.list (dS_app _ _)⟩, fun O => rd_catl (by have := lt k; have := ld (k + 1); rw [dS_len, List.length_append] at *; rw [dS_len] at *; show _ + 1 + _ ≤ _; omega)⟩
  · obtain ⟨b, hb, rfl⟩ := hx
    subst hy
    exact ⟨.list (dS (ps.take k ++ [b] ++ ps.drop (k + 1)) ++ dS [("+0" : Str)]), ⟨b, hb, congrArg PyData.list (dS_app _ _)⟩, fun O => rd_catl (by have := lt k; have := ld (k + 1); rw [dS_len, List.length_append, List.length_append] at *; rw [dS_len] at *; show _ + 1 + _ + 1 ≤ _; omega)⟩
  obtain ⟨b, hb, rfl⟩ := hd
  obtain ⟨q1, q2, q3⟩ := odd_bad hn hb
  obtain ⟨z1, z2⟩ := bent_rd hr (by omega) hk q1 q2 q3
  refine rg_ret0 (d := .bool true) (fun O => ed_call (ea_cons (ed_is (ed_call (ea_cons (ed_join (xs := bent rs k b) (x := .list (dS (bent rs k b))) ed_str (ed_var rfl) (.lst _) ?_) ea_nil) ⟨_, z1, rfl, rfl⟩) z2) (ea_cons (ed_lst (xs := [.int (k : Int), .bool true, .bool true]) (ea_cons (ed_var rfl) (ea_cons ed_bl (ea_cons ed_bl ea_nil))) (Nat.le_of_ble_eq_true rfl)) ea_nil)) (r_same rfl (show okD 7 (badD (k : Int)) from okLs (Nat.le_of_ble_eq_true rfl) (alC (okDI _ _) (alC (okDB _ _) (alC (okDB _ _) al0)))))) hS
  exact bent_sum hr (by omega) hk q2
theorem ok__law_right (T : Txt K mg) : FnOk P w K mg base CX0 9 T.f__law_right T.fd__law_right ["_law_box_here"] spRight := by
  refine right_ok (kf := 5000) T.F__law_right sc__law_right rfl (by decide) (by decide) (fun cdv A outer s H E hr => ?_)
  have G__law_of := ok__law_of (P := P) (w := w) (base := base) T
  have hr__law_of : Room 2 _ := hr.mono (by decide)
  have b__law_of := T.b__law_of
  have G__law_case_right := ok__law_case_right (P := P) (w := w) (base := base) T
  have hr__law_case_right : Room 8 _ := hr.mono (by decide)
  have b__law_case_right := T.b__law_case_right
  have G__law_runs := ok__law_runs (P := P) (w := w) (base := base) T
  have hr__law_runs : Room 2 _ := hr.mono (by decide)
  have b__law_runs := T.b__law_runs
  have hu := hu64 hr
  refine ⟨_, (pss_cons (ps_for PassesOwn.never rfl (pi_range1 rfl T.z_range (pa_cons pe_int pa_nil)) (pg_name (i := 1) sc__law_right.nd rfl (Or.inl rfl)) (pss_cons (ps_set (i := 2) sc__law_right.nd rfl (Or.inl rfl) (pe_call G__law_of hr__law_of rfl T.m__law_of T.F__law_of.kp b__law_of .nil pass0 (pa_cons (pv 0) (pa_cons (pe_lst (pa_cons pe_int (pa_cons pe_int (pa_cons pe_int (pa_cons (pe_op op_pow pe_int pe_int) pa_nil))))) pa_nil))))
  (pss_one (ps_if (pt_not (pt_val (pe_call G__law_case_right hr__law_case_right rfl T.m__law_case_right T.F__law_case_right.kp b__law_case_right .nil pass0 (pa_cons (pv 0) (pa_cons (pe_call G__law_runs hr__law_runs rfl T.m__law_runs T.F__law_runs.kp b__law_runs .nil pass0 (pa_cons (pv 0) (pa_cons pe_int (pa_cons (pv 2) pa_nil)))) pa_nil))))) (pss_one (ps_ret pe_bl)) pss_nil))))
  (pss_one (ps_ret pe_bl))), rbr_rg ?_⟩
  refine rg_k (k := 9 * ((0 + 1) + (((0 + 60) + 0) + 5)) + 0) ?_ (by decide)
  let Iv : Nat → Rho → Own → Prop := fun i ρ c => c = Own.none ∧ ∃ a1 a2, ρ = [none, a1, a2]
  refine rg_seq (T1 := Iv (rngD 9).length) (rg_for (M := 9) (vs := [1]) (es := rngD 9) (fun P => it_rng (m := 9) (ea_cons ed_int ea_nil) (by decide)) (by decide) Iv ⟨rfl, _, _, rfl⟩ (by decide) fun i e hi ρi ci hI => ?_) fun ρ1 c1 hI => ?_
  · obtain ⟨rfl, a1, a2, rfl⟩ := hI
    refine ⟨[none, some e, a2], fun P => tg_is (tg_name (by decide) (by decide)) rfl, rfl, fun a fs ha => (by cases ha), ?_⟩
    refine rg_get (k1 := 0 + 1) (k2 := ((0 + 60) + 0) + 5) (S1 := fun d => ∃ h : Int, d = .int h ∧ 1 ≤ h ∧ h ≤ 10 ^ 9) (eb_of (k := 0) (S := fun d => ∃ h : Int, d = .int h ∧ 1 ≤ h ∧ h ≤ 10 ^ 9) (eb_wk (eb_pure fun O => by walk_at "ev") (Nat.le_refl _) fun d hd => ?_)) (by decide) (by decide) rfl fun d hd => ?_
    · subst hd
      refine ⟨_, rfl, by decide, by decide, fun e he => ?_⟩
      simp only [List.mem_cons, List.not_mem_nil, or_false] at he
      rcases he with rfl | rfl | rfl | rfl <;> exact ⟨rfl, _, rfl, by decide, by decide⟩
    obtain ⟨h, rfl, h0, h9⟩ := hd
    refine rg_passEB (k := ((0 + 60) + 0) + 5) (ebt_not (ebt_B (eb_call (kf := 5) (k := (0 + 60) + 0) (A := fun ds => ∃ rs, rowd 14 h rs ∧ ds = [.tuple (dI rs)]) (eba_wk (eba_cons (k1 := 0 + 60) (k2 := 0) (S1 := fun d => ∃ rs, rowd 14 h rs ∧ d = .tuple (dI rs)) (eb_call (kf := 60) (k := 0) (A := fun ds => ds = [.int ((14 : Nat) : Int), .int h]) (eba_wk (eba_pure fun O => ea_cons ed_int (ea_cons (ed_var rfl) ea_nil)) (Nat.le_refl _) fun ds hd => hd) fun ds hd => ?_) eba_nil) (Nat.le_refl _) fun ds hd => ?_) fun ds hd => ?_))) ⟨rfl, _, _, rfl⟩
    · subst hd
      exact ⟨14, h, by decide, by decide, h0, by omega, rfl, fun x hx => ⟨x, hx, rfl⟩⟩
    · obtain ⟨_, _, rfl, ⟨rs, hr, rfl⟩, rfl⟩ := hd
      exact ⟨rs, hr, rfl⟩
    · obtain ⟨rs, hr, rfl⟩ := hd
      exact ⟨rs, ⟨fun r h2 => by have := hr.el r h2; exact ⟨this.1, by omega, by omega⟩, by have := hr.len; omega⟩, hr.ne, hr.len, rfl, true, rfl, rfl⟩
  · obtain ⟨rfl, a1, a2, rfl⟩ := hI
    exact rg_ret0 (fun O => ed_bl) rfl
end
end K08
namespace K08
open PySem L2 PyProof.Rows DL TL RZ SW
local macro_rules | `(tactic| walk_at "len") => `(tactic| first
  | exact Nat.le_of_ble_eq_true rfl
  | assumption
  | (simp only [List.length_map, List.length_cons, List.length_nil, dI, dS, dB, List.length_reverse, List.length_append, List.length_range, rngD]; omega)
  | omega)
local macro_rules | `(tactic| walk_at "rd") => `(tactic| first
  | with_reducible exact rd_add
  | with_reducible exact rd_sub
  | with_reducible exact rd_eqs
  | with_reducible exact rd_eqi
  | with_reducible exact rd_eqb
  | with_reducible exact rd_eqN
  | with_reducible exact rd_nes
  | with_reducible exact rd_nei
  | with_reducible exact rd_neb
  | with_reducible exact rd_B
  | with_reducible exact rd_isN
  | with_reducible exact rd_inS
  | ((with_reducible apply rd_ixTz); rfl; rfl)
  | ((with_reducible apply rd_ixLz); rfl; rfl)
  | ((with_reducible apply rd_cats); walk_at "len")
  | ((with_reducible apply rd_catl); walk_at "len")
  | ((with_reducible apply rd_repl) <;> (first | decide | omega))
  | ((with_reducible apply rd_reps); exact ⟨by decide +kernel, by intro _ _; decide +kernel, by intro _ _; decide +kernel⟩)
  | ((with_reducible apply rd_neD) <;> (first | rfl | decide +kernel))
  | ((with_reducible apply rd_eqD) <;> (first | rfl | decide +kernel))
  | (apply rd_I (C := CMul) (g := fun i j => i * j); exact (by first | exact .inl ⟨by decide, by decide⟩ | exact .inr ⟨by decide, by decide⟩))
  | (apply rd_I (C := CPow) (g := fun i j => i ^ j.toNat); exact ⟨by decide, by decide, by decide⟩))
local macro_rules | `(tactic| walk_at "rc") => `(tactic| first
  | with_reducible exact rc_lenL
  | with_reducible exact rc_lenT
  | with_reducible exact rc_int
  | with_reducible exact rc_intb
  | with_reducible exact rc_abs
  | with_reducible exact rc_all
  | with_reducible exact rc_max2
  | with_reducible exact rc_min2
  | with_reducible exact rc_sumT
  | with_reducible exact rc_sumL
  | with_reducible exact rc_list (.lst _)
  | with_reducible exact rc_list (.tup _)
  | with_reducible exact rc_tuple (.lst _)
  | with_reducible exact rc_tuple (.tup _)
  | ((with_reducible apply rc_str); first | assumption | decide +kernel)
  | ((with_reducible apply rc_lenS); assumption))
local macro_rules | `(tactic| walk_at "ea") => `(tactic| first
  | with_reducible exact ea_nil
  | ((with_reducible apply ea_cons); (walk_at "ev"); (walk_at "ea")))
local macro_rules | `(tactic| walk_at "call") => `(tactic| fail "call")
local macro_rules | `(tactic| walk_at "it") => `(tactic| first
  | ((with_reducible apply it_list); walk_at "ev")
  | ((with_reducible apply it_tup); walk_at "ev")
  | ((with_reducible apply it_rng); (walk_at "ea"); walk_at "len")
  | ((with_reducible apply it_enum); walk_at "ev")
  | ((with_reducible apply it_zip); (walk_at "ev"); (walk_at "ev"))
  | ((with_reducible apply it_zipA); rotate_left; (walk_at "ev"); (walk_at "ev"); first | exact .lst _ _ | exact .tup _ _)
  | ((with_reducible apply it_seq); rotate_left; (walk_at "ev"); first | exact .lst _ | exact .tup _ | assumption))
local macro_rules | `(tactic| walk_at "tgs") => `(tactic| first
  | with_reducible exact .nil
  | (apply TgsD.cons; (walk_at "tg"); (walk_at "tgs")))
local macro_rules | `(tactic| walk_at "tg") => `(tactic| first
  | ((with_reducible apply tg_name) <;> decide)
  | (apply tg_tup; (walk_at "tgs"); rfl)
  | (apply tg_seq; rotate_left; (walk_at "tgs"); rfl; first | exact .lst _ | exact .tup _ | assumption))
local macro_rules | `(tactic| walk_at "all2") => `(tactic| first
  | exact .nil
  | (apply All2.cons; (apply Exists.intro; apply And.intro; (walk_at "tg"); (walk_at "ev")); (walk_at "all2")))
local macro_rules | `(tactic| walk_at "ej") => `(tactic| first
  | with_reducible exact .nil
  | (apply EvJ.cons; (walk_at "ev"); (walk_at "ej")))
local macro_rules | `(tactic| walk_at "eo") => `(tactic| first
  | with_reducible exact eo_none
  | ((with_reducible apply eo_some); walk_at "ev"))
local macro_rules | `(tactic| walk_at "ev") => `(tactic| first
  | ((with_reducible apply ed_var); exact rfl)
  | with_reducible exact ed_int
  | with_reducible exact ed_str
  | with_reducible exact ed_bl
  | with_reducible exact ed_non
  | ((with_reducible apply ed_tup); (walk_at "ea"); (walk_at "len"))
  | ((with_reducible apply ed_lst); (walk_at "ea"); (walk_at "len"))
  | ((with_reducible apply ed_call); (walk_at "ea"); (walk_at "call"))
  | ((with_reducible apply ed_callN); (walk_at "ea"); rfl; (first | exact fun H vs q => q | exact sw_dq | exact sw3_dq); (walk_at "call"))
  | ((with_reducible apply ed_op); (walk_at "ev"); (walk_at "ev"); (walk_at "rd"))
  | ((with_reducible apply ed_isi); (walk_at "ev"); decide; try (first | rfl | decide))
  | ((with_reducible apply ed_isiT); (walk_at "ev"); decide; decide; try (first | rfl | decide))
  | ((with_reducible apply ed_neg); walk_at "ev")
  | ((with_reducible apply ed_andV); (walk_at "ev"); intro _; walk_at "ev")
  | ((with_reducible apply ed_orV); (walk_at "ev"); intro _; walk_at "ev")
  | ((with_reducible apply ed_notV); walk_at "ev")
  | ((with_reducible apply ed_split); (walk_at "ev"); (walk_at "ev"); (decide +kernel); walk_at "len")
  | ((with_reducible apply ed_partition); (walk_at "ev"); (walk_at "ev"); (decide +kernel); walk_at "len")
  | ((with_reducible apply ed_isdigit); walk_at "ev")
  | ((with_reducible apply ed_isascii); walk_at "ev")
  | ((with_reducible apply ed_startswith); (walk_at "ev"); walk_at "ev")
  | ((with_reducible apply ed_revL); walk_at "ev")
  | ((with_reducible apply ed_slA); (walk_at "ev"); (walk_at "eo"); walk_at "eo")
  | ((with_reducible apply ed_slL); (walk_at "ev"); (walk_at "eo"); walk_at "eo")
  | ((with_reducible apply ed_slS); (walk_at "ev"); (walk_at "eo"); (walk_at "eo"); walk_at "len")
  | ((with_reducible apply ed_joined); (walk_at "ej"); walk_at "len")
  | ((with_reducible apply ed_fmtI); (walk_at "ev"); first | assumption | decide +kernel)
  | ((with_reducible apply ed_fmtS); (walk_at "ev"); walk_at "len")
  | ((with_reducible apply ed_cb); (walk_at "ea"); walk_at "rc")
  | (apply ed_lc; (walk_at "it"); (walk_at "len"); intro D'; walk_at "all2"))
local macro_rules | `(tactic| walk_at "et") => `(tactic| first
  | ((with_reducible apply et_test); walk_at "ev")
  | ((with_reducible apply et_B); walk_at "ev")
  | ((with_reducible apply DL.et_not); walk_at "et")
  | ((with_reducible apply et_and); (walk_at "et"); intro _; walk_at "et")
  | ((with_reducible apply et_or); (walk_at "et"); intro _; walk_at "et"))
local macro_rules | `(tactic| walk_at "etb") => `(tactic| (apply et_is; (walk_at "et"); first | rfl | decide | (simp [tyIs, tyN]; done)))

section
variable {P : Program} {w : World} {K : PySem.W.Frag} {mg : Str → Option Value} {base : Heap}
def some6 : List (Str × List Int) := [("+3 -1 +2 -4", [3, -1, 2, -4]), ("-7", [-7]), ("+1", [1]), ("+1000000000000000000000000000000 -1000000000000000000000000000000", [1000000000000000000000000000000, -1000000000000000000000000000000]), ("+1 -2 +1 -2 +1 -2 +1 -2 +1 -2 +1 -2 +1 -2 +1 -2 +1 -2 +1 -2 +1 -2 +1 -2 +1 -2 +1 -2 +1 -2 +1 -2 +1 -2 +1 -2 +1 -2 +1 -2", [1, -2, 1, -2, 1, -2, 1, -2, 1, -2, 1, -2, 1, -2, 1, -2, 1, -2, 1, -2, 1, -2, 1, -2, 1, -2, 1, -2, 1, -2, 1, -2, 1, -2, 1, -2, 1, -2, 1, -2]), ("-10 +90 -200", [-10, 90, -200])]
def rowsL : List (Str × Int) := [("", 0), (" ", 0), ("3", 0), ("+0", 0), ("-0", 0), ("+", 0), ("-", 0), ("+03", 0), ("+3 ", 1), (" +3", 0), ("+3  -1", 1), ("+3 1", 1), ("+3 -1 +2.", 2), ("++3", 0), ("+-3", 0), ("-+3", 0), ("+3 -x", 1), ("+3,-1", 0), ("+3 0 -1 0", 1), ("+3 -1 x +0", 2), ("+3_0", 0), ("=3", 0), ("x3", 0), ("3+", 0), ("+3-1", 0), ("+ 3", 0), ("*3 +1", 0), ("+1 +2 +3 +4 - +5", 4), ("- 3", 0), ("-3 +1;", 1)]
def fortyS : Str := "+1 -2 +1 -2 +1 -2 +1 -2 +1 -2 +1 -2 +1 -2 +1 -2 +1 -2 +1 -2 +1 -2 +1 -2 +1 -2 +1 -2 +1 -2 +1 -2 +1 -2 +1 -2 +1 -2 +1 -2"
def endsL : List Str := [" +1", " x", " ", " +1 x"]
instance (s : Str) : Decidable (okT s) := inferInstanceAs (Decidable (_ ∧ _ ∧ _))
instance (r : Int) : Decidable (RunN1 r) := inferInstanceAs (Decidable (_ ∧ _ ∧ _))
instance (rs : List Int) : Decidable (Runs rs) := inferInstanceAs (Decidable ((∀ r, r ∈ rs → RunN1 r) ∧ rs.length ≤ 1000))
def sixB (t : Str × List Int) : Bool := decide (okT t.1) && decide (Runs t.2) && decide (wrongAt ((pcs t.1).take 40) = none) && !decide (40 < (pcs t.1).length) && decide (((pcs t.1).take 40).map valP = t.2) && decide (rnT t.2 = t.1)
theorem six_ok (t : Str × List Int) (h : sixB t = true) : okT t.1 ∧ Runs t.2 ∧ (∀ C, readY C t.1 = .inl (obD C (yrF t.2))) ∧ rnT t.2 = t.1 ∧ rdD t.1 = .tuple (dI t.2) := by
  unfold sixB at h
  simp only [Bool.and_eq_true, decide_eq_true_eq, Bool.not_eq_true', decide_eq_false_iff_not] at h
  obtain ⟨⟨⟨⟨⟨h1, h2⟩, h3⟩, h4⟩, h5⟩, h6⟩ := h
  refine ⟨h1, h2, fun C => ?_, h6, ?_⟩
  · unfold readY
    rw [h3]
    show (if 40 < (pcs t.1).length then (Sum.inr 40 : PyData ⊕ Int) else _) = _
    rw [if_neg h4, h5]
  · unfold rdD
    rw [h3]
    show (if 40 < (pcs t.1).length then badD 40 else _) = _
    rw [if_neg h4, h5]
theorem some6_ok : ∀ t, t ∈ some6 → sixB t = true := List.all_eq_true.mp (by decide +kernel : some6.all sixB = true)
theorem rows_ok : ∀ t, t ∈ rowsL → okT t.1 := fun t ht => of_decide_eq_true (List.all_eq_true.mp (by decide +kernel : (rowsL.all fun t => decide (okT t.1)) = true) t ht)
theorem ends_ok : ∀ s, s ∈ endsL → okT (fortyS ++ s) := fun t ht => of_decide_eq_true (List.all_eq_true.mp (by decide +kernel : (endsL.all fun s => decide (okT (fortyS ++ s))) = true) t ht)
def G1 : List PyData := some6.map (fun t => rdD t.1) ++ some6.map (fun t => PyData.str t.1)
def D1 : List PyData := some6.map (fun t => PyData.tuple (dI t.2)) ++ some6.map (fun t => PyData.str t.1)
def X3 : List PyData := [.str "+3 -1", .str "-5", .bool true]
def rowD (t : Str × Int) : PyData := .tuple [.str t.1, .int t.2]
def GR : PyData := .list (rowsL.map fun t => rdD t.1)
def DR : PyData := .list (rowsL.map fun t => badD t.2)
def GE : List PyData := endsL.map fun s => rdD (fortyS ++ s)
def twos : List Str := (List.replicate 20 [("+1" : Str), "-2"]).flatten
abbrev rJn (K : PySem.W.Frag) : V → List V → Hp → VK → Prop := fun x xs H Q => ∃ a p, ∃ ys : List Str, x = .str a ∧ xs = [.ref p] ∧ (SqL K H p (ys.map V.str) ∨ SqT K H p (ys.map V.str)) ∧ (ys.map (·.length)).sum + ys.length * a.length ≤ 16777216 ∧ Q (.str (Txt.join a ys)) H
theorem ed_forty {O : List Addr} {n : Nat} {ρ : Rho} : EvD O n (tM1 (rJn K) (tC (.str (" " : Str))) (tOp rRep (tLst (tCons (tC (.str ("+1" : Str))) (tCons (tC (.str ("-2" : Str))) tNil))) (tC (.int 20)))) ρ (.str fortyS) :=
  ed_is (ed_join (xs := twos) (x := .list (dS twos)) ed_str (ed_is (ed_op (ed_lst (xs := dS ["+1", "-2"]) (ea_cons ed_str (ea_cons ed_str ea_nil)) (Nat.le_of_ble_eq_true rfl)) ed_int (rd_repl (Nat.le_of_ble_eq_true rfl) (by decide) (by decide))) (by kernel_rfl)) (.lst _) (by decide +kernel)) (congrArg PyData.str (by decide +kernel))
def R_by_hand (ds : List PyData) (d : PyData) : Prop := ds = [] ∧ d = .bool true
theorem ok__law_by_hand_right (T : Txt K mg) : FnOk P w K mg base CX0 8 T.f__law_by_hand_right T.fd__law_by_hand_right [] (spD R_by_hand) := by
  refine pure_ok T.F__law_by_hand_right sc__law_by_hand_right (fun ds d h => ?_) (by decide) (fun cdv A outer s H E hr => ?_)
  · obtain ⟨rfl, rfl⟩ := h
    rfl
  have G__law_same := ok__law_same (P := P) (w := w) (base := base) T
  have hr__law_same : Room 7 _ := hr.mono (by decide)
  have b__law_same := T.b__law_same
  have G__law_read := ok__law_read (P := P) (w := w) (base := base) T
  have hr__law_read : Room 7 _ := hr.mono (by decide)
  have b__law_read := T.b__law_read
  have G_t___eq__ := ok_t___eq__ (P := P) (w := w) (base := base) T
  have hr_t___eq__ : Room 1 _ := hr.mono (by decide)
  have b_t___eq__ := T.b_t___eq__
  have G_t_of := ok_t_of (P := P) (w := w) (base := base) T
  have hr_t_of : Room 6 _ := hr.mono (by decide)
  have b_t_of := T.b_t_of
  have G_prop_text := ok_prop_text (P := P) (w := w) (base := base) T
  have hr_prop_text : Room 5 _ := hr.mono (by decide)
  have G_Year := ok_Year (P := P) (w := w) (base := base) T
  have hr_Year : Room 5 _ := hr.mono (by decide)
  have kb_t_of := kb_t_of' T
  have hu := hu64 hr
  refine ⟨_, (pss_cons (ps_set (i := 0) sc__law_by_hand_right.nd rfl (Or.inl rfl) (pe_op op_add_str pe_str (pe_op op_repS pe_str pe_int)))
  (pss_cons (ps_set (i := 1) sc__law_by_hand_right.nd rfl (Or.inl rfl) (pe_lst (pa_cons pe_str (pa_cons pe_str (pa_cons pe_str (pa_cons (pe_op op_add_str (pe_op op_add_str (pe_op op_add_str pe_str (pv 0)) pe_str) (pv 0)) (pa_cons (kJoin (K := K) (by rfl) pe_str (pe_op op_rep (pe_lst (pa_cons pe_str (pa_cons pe_str pa_nil))) pe_int)) (pa_cons pe_str pa_nil))))))))
  (pss_cons (ps_set (i := 2) sc__law_by_hand_right.nd rfl (Or.inl rfl) (pe_op op_cat (pe_lc (own := [("_law_own", 6)]) rfl sc__law_by_hand_right.nd (kiList (K := K) (by rfl) (pv 1)) (blkOk_by (N := N__law_by_hand_right) (sc := defScope s__law_by_hand_right) (by decide +kernel)) (fun _ _ _ _ _ => (pg_name (i := 6) sc__law_by_hand_right.nd rfl (by first | exact Or.inl rfl | exact Or.inr rfl))) (fun _ _ _ _ _ => pts_nil) (fun _ _ _ _ _ => (pe_call G__law_read hr__law_read rfl T.m__law_read T.F__law_read.kp b__law_read .nil pass0 (pa_cons (pv 6) pa_nil)))) (pe_lc (own := [("_law_own", 6)]) rfl sc__law_by_hand_right.nd (kiList (K := K) (by rfl) (pv 1)) (blkOk_by (N := N__law_by_hand_right) (sc := defScope s__law_by_hand_right) (by decide +kernel)) (fun _ _ _ _ _ => (pg_name (i := 6) sc__law_by_hand_right.nd rfl (by first | exact Or.inl rfl | exact Or.inr rfl))) (fun _ _ _ _ _ => pts_nil) (fun _ _ _ _ _ => (pe_prop (pe_smeth (pe_glob (v := .ref T.C_Y) (by rfl) T.m_Y rfl) T.S_of G_t_of hr_t_of b_t_of .nil pass0 (pa_cons (pv 6) pa_nil)) T.cls_Y T.P_text G_prop_text hr_prop_text T.bG_text .nil pass0 rfl)))))
  (pss_cons (ps_set (i := 3) sc__law_by_hand_right.nd rfl (Or.inl rfl) (pe_op op_cat (pe_lst (pa_cons (pe_tup (pa_cons pe_int (pa_cons (pe_un un_neg pe_int) (pa_cons pe_int (pa_cons (pe_un un_neg pe_int) pa_nil))))) (pa_cons (pe_tup (pa_cons (pe_un un_neg pe_int) pa_nil)) (pa_cons (pe_tup (pa_cons pe_int pa_nil)) (pa_cons (pe_tup (pa_cons (pe_op op_pow pe_int pe_int) (pa_cons (pe_un un_neg (pe_op op_pow pe_int pe_int)) pa_nil))) (pa_cons (pe_op (kRepT (K := K) (by rfl)) (pe_tup (pa_cons pe_int (pa_cons (pe_un un_neg pe_int) pa_nil))) pe_int) (pa_cons (pe_tup (pa_cons (pe_un un_neg pe_int) (pa_cons pe_int (pa_cons (pe_un un_neg pe_int) pa_nil)))) pa_nil))))))) (pv 1)))
  (pss_cons (ps_set (i := 2) sc__law_by_hand_right.nd rfl (Or.inl rfl) (pe_op op_cat (pv 2) (pe_lst (pa_cons (pe_prop (pe_make T.M_Y G_Year hr_Year rfl T.m_Y T.bI_Y .nil pass0 (pa_cons (pe_tup (pa_cons pe_int (pa_cons (pe_un un_neg pe_int) pa_nil))) pa_nil)) T.cls_Y T.P_text G_prop_text hr_prop_text T.bG_text .nil pass0 rfl) (pa_cons (pe_prop (pe_make T.M_Y G_Year hr_Year rfl T.m_Y T.bI_Y .nil pass0 (pa_cons (pe_lst (pa_cons (pe_un un_neg pe_int) pa_nil)) pa_nil)) T.cls_Y T.P_text G_prop_text hr_prop_text T.bG_text .nil pass0 rfl) (pa_cons (pe_cmpR (op_eqO G_t___eq__ hr_t___eq__ T.ME___eq__ b_t___eq__ pass0) (pe_smethN0 (pe_glob (v := .ref T.C_Y) (by rfl) T.m_Y rfl) T.S_of G_t_of hr_t_of kb_t_of pass0 (pk_cons pe_str pk_nil)) (pe_make T.M_Y G_Year hr_Year rfl T.m_Y T.bI_Y .nil pass0 (pa_cons (pe_tup (pa_cons pe_int (pa_cons (pe_un un_neg pe_int) pa_nil))) pa_nil)) (nomark _)) pa_nil))))))
  (pss_cons (ps_set (i := 3) sc__law_by_hand_right.nd rfl (Or.inl rfl) (pe_op op_cat (pv 3) (pe_lst (pa_cons pe_str (pa_cons pe_str (pa_cons pe_bl pa_nil))))))
  (pss_cons (ps_set (i := 4) sc__law_by_hand_right.nd rfl (Or.inl rfl) (pe_lst (pa_cons (pe_tup (pa_cons pe_str (pa_cons pe_int pa_nil))) (pa_cons (pe_tup (pa_cons pe_str (pa_cons pe_int pa_nil))) (pa_cons (pe_tup (pa_cons pe_str (pa_cons pe_int pa_nil))) (pa_cons (pe_tup (pa_cons pe_str (pa_cons pe_int pa_nil))) (pa_cons (pe_tup (pa_cons pe_str (pa_cons pe_int pa_nil))) (pa_cons (pe_tup (pa_cons pe_str (pa_cons pe_int pa_nil))) (pa_cons (pe_tup (pa_cons pe_str (pa_cons pe_int pa_nil))) (pa_cons (pe_tup (pa_cons pe_str (pa_cons pe_int pa_nil))) (pa_cons (pe_tup (pa_cons pe_str (pa_cons pe_int pa_nil))) pa_nil)))))))))))
  (pss_cons (ps_set (i := 4) sc__law_by_hand_right.nd rfl (Or.inl rfl) (pe_op op_cat (pv 4) (pe_lst (pa_cons (pe_tup (pa_cons pe_str (pa_cons pe_int pa_nil))) (pa_cons (pe_tup (pa_cons pe_str (pa_cons pe_int pa_nil))) (pa_cons (pe_tup (pa_cons pe_str (pa_cons pe_int pa_nil))) (pa_cons (pe_tup (pa_cons pe_str (pa_cons pe_int pa_nil))) (pa_cons (pe_tup (pa_cons pe_str (pa_cons pe_int pa_nil))) (pa_cons (pe_tup (pa_cons pe_str (pa_cons pe_int pa_nil))) pa_nil)))))))))
  (pss_cons (ps_set (i := 4) sc__law_by_hand_right.nd rfl (Or.inl rfl) (pe_op op_cat (pv 4) (pe_lst (pa_cons (pe_tup (pa_cons pe_str (pa_cons pe_int pa_nil))) (pa_cons (pe_tup (pa_cons pe_str (pa_cons pe_int pa_nil))) (pa_cons (pe_tup (pa_cons pe_str (pa_cons pe_int pa_nil))) (pa_cons (pe_tup (pa_cons pe_str (pa_cons pe_int pa_nil))) (pa_cons (pe_tup (pa_cons pe_str (pa_cons pe_int pa_nil))) pa_nil))))))))
  (pss_cons (ps_set (i := 4) sc__law_by_hand_right.nd rfl (Or.inl rfl) (pe_op op_cat (pv 4) (pe_lst (pa_cons (pe_tup (pa_cons pe_str (pa_cons pe_int pa_nil))) (pa_cons (pe_tup (pa_cons pe_str (pa_cons pe_int pa_nil))) (pa_cons (pe_tup (pa_cons pe_str (pa_cons pe_int pa_nil))) (pa_cons (pe_tup (pa_cons pe_str (pa_cons pe_int pa_nil))) (pa_cons (pe_tup (pa_cons pe_str (pa_cons pe_int pa_nil))) (pa_cons (pe_tup (pa_cons pe_str (pa_cons pe_int pa_nil))) (pa_cons (pe_tup (pa_cons pe_str (pa_cons pe_int pa_nil))) pa_nil))))))))))
  (pss_cons (ps_set (i := 4) sc__law_by_hand_right.nd rfl (Or.inl rfl) (pe_op op_cat (pv 4) (pe_lst (pa_cons (pe_tup (pa_cons pe_str (pa_cons pe_int pa_nil))) (pa_cons (pe_tup (pa_cons pe_str (pa_cons pe_int pa_nil))) (pa_cons (pe_tup (pa_cons pe_str (pa_cons pe_int pa_nil))) pa_nil))))))
  (pss_cons (ps_set (i := 2) sc__law_by_hand_right.nd rfl (Or.inl rfl) (pe_op op_cat (pv 2) (pe_lst (pa_cons (pe_lc (own := [("_law_own", 6)]) rfl sc__law_by_hand_right.nd (kiList (K := K) (by rfl) (pv 4)) (blkOk_by (N := N__law_by_hand_right) (sc := defScope s__law_by_hand_right) (by decide +kernel)) (fun _ _ _ _ _ => (pg_name (i := 6) sc__law_by_hand_right.nd rfl (by first | exact Or.inl rfl | exact Or.inr rfl))) (fun _ _ _ _ _ => pts_nil) (fun _ _ _ _ _ => (pe_call G__law_read hr__law_read rfl T.m__law_read T.F__law_read.kp b__law_read .nil pass0 (pa_cons (pe_ix (kIxT (K := K) (by rfl)) (pv 6) pe_int (fun _ _ => rfl)) pa_nil)))) pa_nil))))
  (pss_cons (ps_expr (pe_bm PySem.F.plainAttrs_list PySem.F.slot_list_append PySem.F.type_list_append mt_append (pv 3) (pa_cons (pe_lc (own := [("_law_own", 6)]) rfl sc__law_by_hand_right.nd (kiList (K := K) (by rfl) (pv 4)) (blkOk_by (N := N__law_by_hand_right) (sc := defScope s__law_by_hand_right) (by decide +kernel)) (fun _ _ _ _ _ => (pg_name (i := 6) sc__law_by_hand_right.nd rfl (by first | exact Or.inl rfl | exact Or.inr rfl))) (fun _ _ _ _ _ => pts_nil) (fun _ _ _ _ _ => (pe_lst (pa_cons (pe_ix (kIxT (K := K) (by rfl)) (pv 6) pe_int (fun _ _ => rfl)) (pa_cons pe_bl (pa_cons pe_bl pa_nil)))))) pa_nil)))
  (pss_cons (ps_set (i := 5) sc__law_by_hand_right.nd rfl (Or.inr rfl) (kJoin (K := K) (by rfl) pe_str (pe_op op_rep (pe_lst (pa_cons pe_str (pa_cons pe_str pa_nil))) pe_int)))
  (pss_cons (ps_set (i := 2) sc__law_by_hand_right.nd rfl (Or.inl rfl) (pe_op op_cat (pv 2) (pe_lc (own := [("_law_own", 6)]) rfl sc__law_by_hand_right.nd (kiTup (K := K) (by rfl) (pe_tup (pa_cons pe_str (pa_cons pe_str (pa_cons pe_str (pa_cons pe_str pa_nil)))))) (blkOk_by (N := N__law_by_hand_right) (sc := defScope s__law_by_hand_right) (by decide +kernel)) (fun _ _ _ _ _ => (pg_name (i := 6) sc__law_by_hand_right.nd rfl (by first | exact Or.inl rfl | exact Or.inr rfl))) (fun _ _ _ _ _ => pts_nil) (fun _ _ _ _ _ => (pe_call G__law_read hr__law_read rfl T.m__law_read T.F__law_read.kp b__law_read .nil pass0 (pa_cons (pe_op op_add_str (pv 5) (pv 6)) pa_nil))))))
  (pss_cons (ps_expr (pe_bm PySem.F.plainAttrs_list PySem.F.slot_list_append PySem.F.type_list_append mt_append (pv 2) (pa_cons (pe_call G__law_read hr__law_read rfl T.m__law_read T.F__law_read.kp b__law_read .nil pass0 (pa_cons (pe_op op_add_str pe_str (pv 5)) pa_nil)) pa_nil)))
  (pss_one (ps_ret (pe_call G__law_same hr__law_same rfl T.m__law_same T.F__law_same.kp b__law_same .nil pass0 (pa_cons (pv 2) (pa_cons (pe_op op_cat (pe_op op_cat (pv 3) (pe_op op_rep (pe_lst (pa_cons (pe_lst (pa_cons pe_int (pa_cons pe_bl (pa_cons pe_bl pa_nil)))) pa_nil)) pe_int)) (pe_lst (pa_cons (pe_lst (pa_cons pe_int (pa_cons pe_bl (pa_cons pe_bl pa_nil)))) pa_nil))) pa_nil))))))))))))))))))))), fun O ds d hR => ?_⟩
  obtain ⟨rfl, rfl⟩ := hR
  let FR : PyData := .str "1000000000000000000000000000000"
  let SM : PyData := .list (some6.map fun t => PyData.str t.1)
  refine rr_seq (ρ1 := [some FR, none, none, none, none, none, none]) (rn_asg (d := FR) ?_ (by decide)) ?_
  · apply ed_is
    · walk_at "ev"
    · kernel_rfl
  have far4 : ("+1000000000000000000000000000000 -1000000000000000000000000000000" : Str) = (("+" : Str) ++ ("1000000000000000000000000000000" : Str) ++ (" -" : Str)) ++ ("1000000000000000000000000000000" : Str) := by decide +kernel
  refine rr_seq (ρ1 := [some FR, some SM, none, none, none, none, none]) (rn_asg (d := SM) (ed_lst (xs := some6.map fun t => PyData.str t.1) (ea_cons ed_str (ea_cons ed_str (ea_cons ed_str (ea_cons (ed_is (ed_op (ed_op (ed_op ed_str (ed_var rfl) (rd_cats (by decide +kernel))) ed_str (rd_cats (by decide +kernel))) (ed_var rfl) (rd_cats (by decide +kernel))) (congrArg PyData.str far4.symm)) (ea_cons ed_forty (ea_cons ed_str ea_nil)))))) (Nat.le_of_ble_eq_true rfl)) (by decide)) ?_
  have l6 : some6.length ≤ 100000 := Nat.le_of_ble_eq_true rfl
  refine rr_seq (ρ1 := [some FR, some SM, some (.list G1), none, none, none, none]) (rn_asg (d := .list G1) (ed_op (x := .list (some6.map fun t => rdD t.1)) (y := .list (some6.map fun t => PyData.str t.1)) ?_ ?_ (rd_catl (Nat.le_of_ble_eq_true rfl))) (by decide)) ?_
  · have q := ed_lcM (O := O) (n := N__law_by_hand_right.length) (ρ := [some FR, some SM, none, none, none, none, none]) (wi := iList K (tVar 1)) (vs := [6]) (g := gName 6) (te := tCall (spD R_read) [] E0 (tCons (tVar 6) tNil)) (l := some6) (e1 := fun t => PyData.str t.1) (e2 := id) (f := fun t => rdD t.1) (it_list (ed_var rfl)) l6 fun D t ht => ⟨_, tg_name (by decide) (by decide), ed_call (ea_cons (ed_var rfl) ea_nil) ⟨t.1, (six_ok t (some6_ok t ht)).1, rfl, rfl⟩⟩
    rw [List.map_id] at q
    exact q
  · have q := ed_lcM (O := O) (n := N__law_by_hand_right.length) (ρ := [some FR, some SM, none, none, none, none, none]) (wi := iList K (tVar 1)) (vs := [6]) (g := gName 6) (te := tProp T.C_Y (spD (R_p_text T.C_Y)) [] E0 (tCall (spD (R_ofC T.C_Y)) [] E0 (tCons (tVar 6) tNil))) (l := some6) (e1 := fun t => PyData.str t.1) (e2 := id) (f := fun t => PyData.str t.1) (it_list (ed_var rfl)) l6 fun D t ht => ⟨_, tg_name (by decide) (by decide), by
      obtain ⟨h1, h2, h3, h4, _⟩ := six_ok t (some6_ok t ht)
      exact ed_is (ed_ptxt h2 (ed_call (ea_cons (ed_var rfl) ea_nil) ⟨t.1, h1, rfl, h3 _⟩)) (congrArg PyData.str h4)⟩
    rw [List.map_id] at q
    exact q
  refine rr_seq (ρ1 := [some FR, some SM, some (.list G1), some (.list D1), none, none, none]) (rn_asg (d := .list D1) (ed_op (ed_lst (xs := some6.map fun t => PyData.tuple (dI t.2)) (ea_cons ?_ (ea_cons ?_ (ea_cons ?_ (ea_cons ?_ (ea_cons (ed_is (ed_op (ed_tup (xs := dI [1, -2]) (ea_cons ed_int (ea_cons (ed_neg ed_int) ea_nil)) (Nat.le_of_ble_eq_true rfl)) ed_int (rd_repT (by decide +kernel) (Nat.le_of_ble_eq_true rfl) (by decide) (by decide))) (by kernel_rfl)) (ea_cons ?_ ea_nil)))))) (Nat.le_of_ble_eq_true rfl)) (ed_var rfl) (rd_catl (Nat.le_of_ble_eq_true rfl))) (by decide)) ?_
  · apply ed_is
    · walk_at "ev"
    · first | rfl | kernel_rfl
  · apply ed_is
    · walk_at "ev"
    · first | rfl | kernel_rfl
  · apply ed_is
    · walk_at "ev"
    · first | rfl | kernel_rfl
  · apply ed_is
    · walk_at "ev"
    · first | rfl | kernel_rfl
  · apply ed_is
    · walk_at "ev"
    · first | rfl | kernel_rfl
  have t3 : Runs [3, -1] := by decide +kernel
  have t5 : Runs [-5] := by decide +kernel
  have t4 : sixB ("+4 -4", [4, -4]) = true := by decide +kernel
  obtain ⟨f1, f2, f3, f4, _⟩ := six_ok _ t4
  refine rr_seq (ρ1 := [some FR, some SM, some (.list (G1 ++ X3)), some (.list D1), none, none, none]) (rn_asg (d := .list (G1 ++ X3)) (ed_op (ed_var rfl) (ed_lst (xs := X3) (ea_cons (ed_is (ed_ptxt t3 (ed_year (ed_tup (xs := dI [3, -1]) (ea_cons ed_int (ea_cons (ed_neg ed_int) ea_nil)) (Nat.le_of_ble_eq_true rfl)) (.tup _) (by decide) (by decide))) (congrArg PyData.str (by decide +kernel))) (ea_cons (ed_is (ed_ptxt t5 (ed_year (ed_lst (xs := dI [-5]) (ea_cons (ed_neg ed_int) ea_nil) (Nat.le_of_ble_eq_true rfl)) (.lst _) (by decide) (by decide))) (congrArg PyData.str (by decide +kernel))) (ea_cons (ed_is (ed_op (ed_callN (ds := [.str "+4 -4"]) (ea_cons ed_str ea_nil) rfl (fun _ _ h => h) ⟨"+4 -4", f1, rfl, f3 T.C_Y⟩) (ed_year (ed_tup (xs := dI [4, -4]) (ea_cons ed_int (ea_cons (ed_neg ed_int) ea_nil)) (Nat.le_of_ble_eq_true rfl)) (.tup _) (by decide) (by decide)) (rd_eqO ⟨[4, -4], [4, -4], rfl, rfl⟩)) (congrArg PyData.bool (decide_eq_true rfl))) ea_nil))) (Nat.le_of_ble_eq_true rfl)) (rd_catl (Nat.le_of_ble_eq_true rfl))) (by decide)) ?_
  refine rm_enter ?_
  refine rm_seqR (ρ1 := [some FR, some SM, some (.list (G1 ++ X3)), none, none, none, none]) (c1 := Own.none.put 3 (D1 ++ X3)) (rm_own (fun P => ef_cat (ed_var rfl) (ed_lst (xs := X3) (ea_cons ed_str (ea_cons ed_str (ea_cons ed_bl ea_nil))) (Nat.le_of_ble_eq_true rfl)) (Nat.le_of_ble_eq_true rfl)) (by decide) (by show 3 < 7; decide) rfl) ?_
  refine rm_seqR (ρ1 := [some FR, some SM, some (.list (G1 ++ X3)), none, some (.list ((rowsL.take 9).map rowD)), none, none]) (c1 := Own.none.put 3 (D1 ++ X3)) (rm_is (rm_asg (d := .list ((rowsL.take 9).map rowD)) (fun P => ?_) (by decide) rfl) rfl rfl) ?_
  · apply ed_is
    · walk_at "ev"
    · kernel_rfl
  refine rm_seqR (ρ1 := [some FR, some SM, some (.list (G1 ++ X3)), none, some (.list ((rowsL.take 15).map rowD)), none, none]) (c1 := Own.none.put 3 (D1 ++ X3)) (rm_is (rm_asg (d := .list ((rowsL.take 15).map rowD)) (fun P => ?_) (by decide) rfl) rfl rfl) ?_
  · apply ed_is
    · walk_at "ev"
    · kernel_rfl
  refine rm_seqR (ρ1 := [some FR, some SM, some (.list (G1 ++ X3)), none, some (.list ((rowsL.take 20).map rowD)), none, none]) (c1 := Own.none.put 3 (D1 ++ X3)) (rm_is (rm_asg (d := .list ((rowsL.take 20).map rowD)) (fun P => ?_) (by decide) rfl) rfl rfl) ?_
  · apply ed_is
    · walk_at "ev"
    · kernel_rfl
  refine rm_seqR (ρ1 := [some FR, some SM, some (.list (G1 ++ X3)), none, some (.list ((rowsL.take 27).map rowD)), none, none]) (c1 := Own.none.put 3 (D1 ++ X3)) (rm_is (rm_asg (d := .list ((rowsL.take 27).map rowD)) (fun P => ?_) (by decide) rfl) rfl rfl) ?_
  · apply ed_is
    · walk_at "ev"
    · kernel_rfl
  refine rm_seqR (ρ1 := [some FR, some SM, some (.list (G1 ++ X3)), none, some (.list (rowsL.map rowD)), none, none]) (c1 := Own.none.put 3 (D1 ++ X3)) (rm_is (rm_asg (d := .list (rowsL.map rowD)) (fun P => ?_) (by decide) rfl) rfl rfl) ?_
  · apply ed_is
    · walk_at "ev"
    · kernel_rfl
  have lR : rowsL.length ≤ 100000 := Nat.le_of_ble_eq_true rfl
  refine rm_seqR (ρ1 := [some FR, some SM, some (.list (G1 ++ X3 ++ [GR])), none, some (.list (rowsL.map rowD)), none, none]) (c1 := Own.none.put 3 (D1 ++ X3)) (rm_is (rm_asg (d := .list (G1 ++ X3 ++ [GR])) (fun P => ed_op (ed_var rfl) (ed_lst (xs := [GR]) (ea_cons (ed_is (d := .list ((rowsL.map fun t => rdD t.1).map id)) (ed_lcM (l := rowsL) (e1 := rowD) (e2 := id) (f := fun t => rdD t.1) (it_list (ed_var rfl)) lR fun D t ht => ⟨_, tg_name (by decide) (by decide), ed_call (ea_cons (ed_op (ed_var rfl) ed_int (rd_ixTz (i := 0) rfl rfl)) ea_nil) ⟨t.1, rows_ok t ht, rfl, rfl⟩⟩) (by rw [List.map_id]; rfl)) ea_nil) (Nat.le_of_ble_eq_true rfl)) (rd_catl (Nat.le_of_ble_eq_true rfl))) (by decide) rfl) rfl rfl) ?_
  refine rm_seqR (rm_append (ds := D1 ++ X3) (d := DR) rfl (fun P => ed_is (d := .list ((rowsL.map fun t => badD t.2).map id)) (ed_lcM (l := rowsL) (e1 := rowD) (e2 := id) (f := fun t => badD t.2) (it_list (ed_var rfl)) lR fun D t ht => ⟨_, tg_name (by decide) (by decide), ed_lst (xs := [.int t.2, .bool true, .bool true]) (ea_cons (ed_op (ed_var rfl) ed_int (rd_ixTz (i := 1) rfl rfl)) (ea_cons ed_bl (ea_cons ed_bl ea_nil))) (Nat.le_of_ble_eq_true rfl)⟩) (by rw [List.map_id]; rfl)) (Nat.le_of_ble_eq_true rfl)) ?_
  refine rm_seqR (ρ1 := [some FR, some SM, some (.list (G1 ++ X3 ++ [GR])), none, some (.list (rowsL.map rowD)), some (.str fortyS), none]) (c1 := (Own.none.put 3 (D1 ++ X3)).put 3 (D1 ++ X3 ++ [DR])) (rm_is (rm_asg (d := .str fortyS) (fun P => ed_forty) (by decide) rfl) rfl rfl) ?_
  have lE : endsL.length ≤ 100000 := Nat.le_of_ble_eq_true rfl
  have len40 : fortyS.length ≤ 1000 := by decide +kernel
  have lenE : ∀ s, s ∈ endsL → s.length ≤ 10 := fun s hs => of_decide_eq_true (List.all_eq_true.mp (by decide +kernel : (endsL.all fun s => decide (s.length ≤ 10)) = true) s hs)
  refine rm_seqR (ρ1 := [some FR, some SM, none, none, some (.list (rowsL.map rowD)), some (.str fortyS), none]) (c1 := ((Own.none.put 3 (D1 ++ X3)).put 3 (D1 ++ X3 ++ [DR])).put 2 (G1 ++ X3 ++ [GR] ++ GE)) (rm_own (fun P => ef_cat (ed_var rfl) (ed_is (d := .list (GE.map id)) (ed_lcM (l := endsL) (e1 := PyData.str) (e2 := id) (f := fun s => rdD (fortyS ++ s)) (it_tup (ed_tup (xs := dS endsL) (ea_cons ed_str (ea_cons ed_str (ea_cons ed_str (ea_cons ed_str ea_nil)))) (Nat.le_of_ble_eq_true rfl))) lE fun D s hs => ⟨_, tg_name (by decide) (by decide), ed_call (ea_cons (ed_op (ed_var rfl) (ed_var rfl) (rd_cats (by have := lenE s hs; omega))) ea_nil) ⟨fortyS ++ s, ends_ok s hs, rfl, rfl⟩⟩) (by rw [List.map_id])) (Nat.le_of_ble_eq_true rfl)) (by decide) (by show 2 < 7; decide) rfl) ?_
  have okX : okT (("+1 x " : Str) ++ fortyS) := by decide +kernel
  refine rm_seqR (rm_append (ds := G1 ++ X3 ++ [GR] ++ GE) (d := rdD (("+1 x " : Str) ++ fortyS)) rfl (fun P => ed_call (ea_cons (ed_op ed_str (ed_var rfl) (rd_cats (by decide +kernel))) ea_nil) ⟨_, okX, rfl, rfl⟩) (Nat.le_of_ble_eq_true rfl)) ?_
  refine rm_freezeR (m := 2) (ds := G1 ++ X3 ++ [GR] ++ GE ++ [rdD (("+1 x " : Str) ++ fortyS)]) rfl ?_
  refine rm_freezeR (m := 3) (ds := D1 ++ X3 ++ [DR]) rfl ?_
  refine rm_leave ?_
  apply rr_ret
  refine ed_call (ds := [.list (G1 ++ X3 ++ [GR] ++ GE ++ [rdD (("+1 x " : Str) ++ fortyS)]), .list (D1 ++ X3 ++ [DR] ++ List.replicate 4 (badD 40) ++ [badD 1])]) (ea_cons (ed_var rfl) (ea_cons ?_ ea_nil)) (r_same (by kernel_rfl) (okD_of (by decide +kernel)))
  refine ed_op (ed_op (ed_var rfl) (ed_is (ed_op (ed_lst (xs := [badD 40]) (ea_cons (ed_lst (xs := [.int 40, .bool true, .bool true]) (ea_cons ed_int (ea_cons ed_bl (ea_cons ed_bl ea_nil))) (Nat.le_of_ble_eq_true rfl)) ea_nil) (Nat.le_of_ble_eq_true rfl)) ed_int (rd_repl (Nat.le_of_ble_eq_true rfl) (by decide) (by decide))) rfl) (rd_catl (Nat.le_of_ble_eq_true rfl))) (ed_lst (xs := [badD 1]) (ea_cons (ed_lst (xs := [.int 1, .bool true, .bool true]) (ea_cons ed_int (ea_cons ed_bl (ea_cons ed_bl ea_nil))) (Nat.le_of_ble_eq_true rfl)) ea_nil) (Nat.le_of_ble_eq_true rfl)) (rd_catl (Nat.le_of_ble_eq_true rfl))
end
end K08
namespace K08
open PySem L2 PyProof.Rows DL TL RZ
section
variable {P : Program} {w : World} {K : PySem.W.Frag} {mg : Str → Option Value} {base : Heap}
theorem ok_law (T : Txt K mg) : FnOk P w K mg base CX0 10 T.f_law T.fd_law ["_law_script"] (spLaw K) := by
  refine T.F_law.ok sc_law (fun vs H Q E h => ?_) (fun cdv A outer s H vs Q E hr h => ?_)
  · obtain ⟨a, ns, rfl, _⟩ := h
    rfl
  have G__law_cells := ok__law_cells (P := P) (w := w) (base := base) T
  have hr__law_cells : Room 1 _ := hr.mono (by decide)
  have b__law_cells := T.b__law_cells
  have G__law_by_hand_right := ok__law_by_hand_right (P := P) (w := w) (base := base) T
  have hr__law_by_hand_right : Room 8 _ := hr.mono (by decide)
  have b__law_by_hand_right := T.b__law_by_hand_right
  have G__law_right := ok__law_right (P := P) (w := w) (base := base) T
  have hr__law_right : Room 9 _ := hr.mono (by decide)
  have b__law_right := T.b__law_right
  have G__law_box := ok__law_box (P := P) (w := w) (base := base) T
  have hr__law_box : Room 1 _ := hr.mono (by decide)
  have b__law_box := T.b__law_box
  have hu := hu64 hr
  obtain ⟨a, ns, rfl, hs, h63, k⟩ := h
  refine ⟨_, (pss_cons (ps_set (i := 1) sc_law.nd rfl (Or.inr rfl) (pe_call G__law_cells hr__law_cells rfl T.m__law_cells T.F__law_cells.kp b__law_cells .nil pass0 (pa_cons (pv 0) (pa_cons pe_int pa_nil))))
  (pss_cons (ps_if (pt_not (pt_val (pe_call0 G__law_by_hand_right hr__law_by_hand_right rfl T.m__law_by_hand_right T.F__law_by_hand_right.kp b__law_by_hand_right .nil pass0))) (pss_one (ps_ret pe_bl)) pss_nil)
  (pss_one (ps_ret (pe_callB (kAll (K := K) (by rfl) (by rfl)) (by rfl) T.z_all (by decide +kernel) (pa_cons (pe_lc (own := [("_law_k", 2)]) rfl sc_law.nd (pi_range1 rfl T.z_range (pa_cons (pe_callB (kLen (K := K) (by rfl)) (by rfl) T.z_len PySem.boot_len (pa_cons (pv 1) pa_nil)) pa_nil)) (blkOk_by (N := N_law) (sc := defScope s_law) (by decide +kernel)) (fun _ _ _ _ _ => (pg_name (i := 2) sc_law.nd rfl (by first | exact Or.inl rfl | exact Or.inr rfl))) (fun _ _ _ _ _ => pts_nil) (fun _ _ _ _ _ => (pe_call G__law_right hr__law_right rfl T.m__law_right T.F__law_right.kp b__law_right .nil pass0 (pa_cons (pe_call G__law_box hr__law_box rfl T.m__law_box T.F__law_box.kp b__law_box .nil pass0 (pa_cons (pv 1) (pa_cons (pv 2) pa_nil))) pa_nil)))) pa_nil)))))), ?_⟩
  refine ⟨_, rfl, a, ns, rfl, hs, h63, fun p cs Hc np xc hpc c1 c3 => ?_⟩
  refine ⟨[], [], _, (fun _ z => by cases z), .nil, ⟨rfl, rfl⟩, fun v H0 x00 d1 => ?_⟩
  cases d1
  refine ⟨true, rfl, iteF ?_⟩
  have hp := x00 _ _ hpc
  refine ⟨_, rfl, p, _, rfl, .inl (Evl.sq_of hp), _, rfl, by omega, by rw [List.length_map]; omega, fun Dl nD => ?_⟩
  have e0 : (((cs.map V.int).length : Nat) : Int).toNat = cs.length := by
    rw [List.length_map]
    omega
  rw [e0]
  have npD : p ≠ Dl := fun z => by rw [← z, hp] at nD; cases nD
  refine lc_range (lo := 0) (n := cs.length) (fun i H' => H' Dl = some (.lst ((List.replicate i true).map V.bl)) ∧ Evl.Ex H0 H') ?_ ?_ ?_
  · exact ⟨upd_same, Evl.Ex.new nD⟩
  · rintro i H2 hi ⟨hD, x2⟩
    refine ⟨rfl, tYes_go ?_⟩
    refine ⟨_, rfl, _, rfl, p, cs, (0 : Int) + (i : Int), rfl, Evl.sq_of (x2 _ _ hp), by omega, by omega, fun b H3 nb x3 hb => ?_⟩
    refine ⟨b, rfl, hb, fun H4 e4 => ?_⟩
    have x4 : Evl.Ex H2 H4 := fun y o hy => by
      have n2 : y ≠ b := fun z => by rw [z, nb] at hy; cases hy
      exact e4.at (x3 _ _ hy) (fun z => n2 (List.mem_singleton.mp z))
    refine ⟨_, x4 _ _ hD, Evl.sz_lt (by rw [List.length_map, List.length_replicate]; omega), ?_, Evl.Ex.mut (x2.trans x4) nD⟩
    rw [List.replicate_succ', List.map_append]
    exact upd_same
  · rintro H2 ⟨hD, x2⟩
    refine ⟨Dl, List.replicate cs.length true, rfl, Evl.sq_of hD, ?_⟩
    have e : (List.replicate cs.length true).all id = true := by
      rw [List.all_eq_true]
      intro b hb
      rw [List.eq_of_mem_replicate hb]
      rfl
    rw [e]
    exact k H2
end
end K08
namespace K08
open PySem L2 PyProof.Rows DL TL RZ
theorem all_mk {l : PySem.W.OpenLaw} {w : World} {K : PySem.W.Frag} {h : Heap} {mg : Str → Option Value} {fa : Addr} (X : K.In h) (G : h.Ns mainGlobals mg) (hfa : mg "law" = some (.ref fa))
    {f0 f1 f2 f3 f4 f5 f6 f7 f8 f9 f10 f11 f12 f13 f14 f15 f16 f17 f18 f19 f20 : Addr} {od0 an0 od1 an1 od2 an2 od3 an3 od4 an4 od5 an5 od6 an6 od7 an7 od8 an8 od9 an9 od10 an10 od11 an11 od12 an12 od13 an13 od14 an14 od15 an15 od16 an16 od17 an17 od18 an18 od19 an19 od20 an20 : Option Addr} {sl0 sl1 sl2 sl3 sl4 sl5 sl6 sl7 sl8 sl9 sl10 sl11 sl12 sl13 sl14 sl15 sl16 sl17 sl18 sl19 sl20 : Array (Option Value)} {oc0 kV0 dc0 pm0 cd0 ct0 oc1 kV1 dc1 pm1 cd1 ct1 oc2 kV2 dc2 pm2 cd2 ct2 oc3 kV3 dc3 pm3 cd3 ct3 oc4 kV4 dc4 pm4 cd4 ct4 oc5 kV5 dc5 pm5 cd5 ct5 oc6 kV6 dc6 pm6 cd6 ct6 oc7 kV7 dc7 pm7 cd7 ct7 oc8 kV8 dc8 pm8 cd8 ct8 oc9 kV9 dc9 pm9 cd9 ct9 oc10 kV10 dc10 pm10 cd10 ct10 oc11 kV11 dc11 pm11 cd11 ct11 oc12 kV12 dc12 pm12 cd12 ct12 oc13 kV13 dc13 pm13 cd13 ct13 oc14 kV14 dc14 pm14 cd14 ct14 oc15 kV15 dc15 pm15 cd15 ct15 oc16 kV16 dc16 pm16 cd16 ct16 oc17 kV17 dc17 pm17 cd17 ct17 oc18 kV18 dc18 pm18 cd18 ct18 oc19 kV19 dc19 pm19 cd19 ct19 oc20 kV20 dc20 pm20 cd20 ct20 : Value}
    (a0 : PySem.W.nsIn K mainGlobals "is_number_text" = some (some (.ref f0))) (l0 : K.lookup f0 = some ⟨oc0, od0, .func (PySem.W.fnOf "is_number_text" "is_number_text" (defArgs s_is_number_text) (defBody s_is_number_text) (defScope s_is_number_text) .none kV0 dc0 pm0 an0 cd0 ct0), sl0⟩) (c0 : PySem.W.codeIn K cd0 "is_number_text" = true) (k0 : PySem.W.keepIn K (.ref f0) = true)
    (a1 : PySem.W.nsIn K mainGlobals "is_size_text" = some (some (.ref f1))) (l1 : K.lookup f1 = some ⟨oc1, od1, .func (PySem.W.fnOf "is_size_text" "is_size_text" (defArgs s_is_size_text) (defBody s_is_size_text) (defScope s_is_size_text) .none kV1 dc1 pm1 an1 cd1 ct1), sl1⟩) (c1 : PySem.W.codeIn K cd1 "is_size_text" = true) (k1 : PySem.W.keepIn K (.ref f1) = true)
    (a2 : PySem.W.nsIn K mainGlobals "is_run_text" = some (some (.ref f2))) (l2 : K.lookup f2 = some ⟨oc2, od2, .func (PySem.W.fnOf "is_run_text" "is_run_text" (defArgs s_is_run_text) (defBody s_is_run_text) (defScope s_is_run_text) .none kV2 dc2 pm2 an2 cd2 ct2), sl2⟩) (c2 : PySem.W.codeIn K cd2 "is_run_text" = true) (k2 : PySem.W.keepIn K (.ref f2) = true)
    (a3 : PySem.W.nsIn K mainGlobals "runs_in" = some (some (.ref f3))) (l3 : K.lookup f3 = some ⟨oc3, od3, .func (PySem.W.fnOf "runs_in" "runs_in" (defArgs s_runs_in) (defBody s_runs_in) (defScope s_runs_in) .none kV3 dc3 pm3 an3 cd3 ct3), sl3⟩) (c3 : PySem.W.codeIn K cd3 "runs_in" = true) (k3 : PySem.W.keepIn K (.ref f3) = true)
    (a4 : PySem.W.nsIn K mainGlobals "runs_text" = some (some (.ref f4))) (l4 : K.lookup f4 = some ⟨oc4, od4, .func (PySem.W.fnOf "runs_text" "runs_text" (defArgs s_runs_text) (defBody s_runs_text) (defScope s_runs_text) .none kV4 dc4 pm4 an4 cd4 ct4), sl4⟩) (c4 : PySem.W.codeIn K cd4 "runs_text" = true) (k4 : PySem.W.keepIn K (.ref f4) = true)
    (a5 : PySem.W.nsIn K mainGlobals "swings_of" = some (some (.ref f5))) (l5 : K.lookup f5 = some ⟨oc5, od5, .func (PySem.W.fnOf "swings_of" "swings_of" (defArgs s_swings_of) (defBody s_swings_of) (defScope s_swings_of) .none kV5 dc5 pm5 an5 cd5 ct5), sl5⟩) (c5 : PySem.W.codeIn K cd5 "swings_of" = true) (k5 : PySem.W.keepIn K (.ref f5) = true)
    (a6 : PySem.W.nsIn K mainGlobals "_sizes_without" = some (some (.ref f6))) (l6 : K.lookup f6 = some ⟨oc6, od6, .func (PySem.W.fnOf "_sizes_without" "_sizes_without" (defArgs s__sizes_without) (defBody s__sizes_without) (defScope s__sizes_without) .none kV6 dc6 pm6 an6 cd6 ct6), sl6⟩) (c6 : PySem.W.codeIn K cd6 "_sizes_without" = true) (k6 : PySem.W.keepIn K (.ref f6) = true)
    (a7 : PySem.W.nsIn K mainGlobals "ring_of" = some (some (.ref f7))) (l7 : K.lookup f7 = some ⟨oc7, od7, .func (PySem.W.fnOf "ring_of" "ring_of" (defArgs s_ring_of) (defBody s_ring_of) (defScope s_ring_of) .none kV7 dc7 pm7 an7 cd7 ct7), sl7⟩) (c7 : PySem.W.codeIn K cd7 "ring_of" = true) (k7 : PySem.W.keepIn K (.ref f7) = true)
    (a8 : PySem.W.nsIn K mainGlobals "_first_turn" = some (some (.ref f8))) (l8 : K.lookup f8 = some ⟨oc8, od8, .func (PySem.W.fnOf "_first_turn" "_first_turn" (defArgs s__first_turn) (defBody s__first_turn) (defScope s__first_turn) .none kV8 dc8 pm8 an8 cd8 ct8), sl8⟩) (c8 : PySem.W.codeIn K cd8 "_first_turn" = true) (k8 : PySem.W.keepIn K (.ref f8) = true)
    (a9 : PySem.W.nsIn K mainGlobals "_law_box" = some (some (.ref f9))) (l9 : K.lookup f9 = some ⟨oc9, od9, .func (PySem.W.fnOf "_law_box" "_law_box" (defArgs s__law_box) (defBody s__law_box) (defScope s__law_box) .none kV9 dc9 pm9 an9 cd9 ct9), sl9⟩) (c9 : PySem.W.codeIn K cd9 "_law_box" = true) (k9 : PySem.W.keepIn K (.ref f9) = true)
    (a10 : PySem.W.nsIn K mainGlobals "_law_take" = some (some (.ref f10))) (l10 : K.lookup f10 = some ⟨oc10, od10, .func (PySem.W.fnOf "_law_take" "_law_take" (defArgs s__law_take) (defBody s__law_take) (defScope s__law_take) .none kV10 dc10 pm10 an10 cd10 ct10), sl10⟩) (c10 : PySem.W.codeIn K cd10 "_law_take" = true) (k10 : PySem.W.keepIn K (.ref f10) = true)
    (a11 : PySem.W.nsIn K mainGlobals "_law_cells" = some (some (.ref f11))) (l11 : K.lookup f11 = some ⟨oc11, od11, .func (PySem.W.fnOf "_law_cells" "_law_cells" (defArgs s__law_cells) (defBody s__law_cells) (defScope s__law_cells) .none kV11 dc11 pm11 an11 cd11 ct11), sl11⟩) (c11 : PySem.W.codeIn K cd11 "_law_cells" = true) (k11 : PySem.W.keepIn K (.ref f11) = true)
    (a12 : PySem.W.nsIn K mainGlobals "_law_of" = some (some (.ref f12))) (l12 : K.lookup f12 = some ⟨oc12, od12, .func (PySem.W.fnOf "_law_of" "_law_of" (defArgs s__law_of) (defBody s__law_of) (defScope s__law_of) .none kV12 dc12 pm12 an12 cd12 ct12), sl12⟩) (c12 : PySem.W.codeIn K cd12 "_law_of" = true) (k12 : PySem.W.keepIn K (.ref f12) = true)
    (a13 : PySem.W.nsIn K mainGlobals "_law_same" = some (some (.ref f13))) (l13 : K.lookup f13 = some ⟨oc13, od13, .func (PySem.W.fnOf "_law_same" "_law_same" (defArgs s__law_same) (defBody s__law_same) (defScope s__law_same) .none kV13 dc13 pm13 an13 cd13 ct13), sl13⟩) (c13 : PySem.W.codeIn K cd13 "_law_same" = true) (k13 : PySem.W.keepIn K (.ref f13) = true)
    (a14 : PySem.W.nsIn K mainGlobals "_law_runs" = some (some (.ref f14))) (l14 : K.lookup f14 = some ⟨oc14, od14, .func (PySem.W.fnOf "_law_runs" "_law_runs" (defArgs s__law_runs) (defBody s__law_runs) (defScope s__law_runs) .none kV14 dc14 pm14 an14 cd14 ct14), sl14⟩) (c14 : PySem.W.codeIn K cd14 "_law_runs" = true) (k14 : PySem.W.keepIn K (.ref f14) = true)
    (a15 : PySem.W.nsIn K mainGlobals "_law_read" = some (some (.ref f15))) (l15 : K.lookup f15 = some ⟨oc15, od15, .func (PySem.W.fnOf "_law_read" "_law_read" (defArgs s__law_read) (defBody s__law_read) (defScope s__law_read) .none kV15 dc15 pm15 an15 cd15 ct15), sl15⟩) (c15 : PySem.W.codeIn K cd15 "_law_read" = true) (k15 : PySem.W.keepIn K (.ref f15) = true)
    (a16 : PySem.W.nsIn K mainGlobals "_law_written" = some (some (.ref f16))) (l16 : K.lookup f16 = some ⟨oc16, od16, .func (PySem.W.fnOf "_law_written" "_law_written" (defArgs s__law_written) (defBody s__law_written) (defScope s__law_written) .none kV16 dc16 pm16 an16 cd16 ct16), sl16⟩) (c16 : PySem.W.codeIn K cd16 "_law_written" = true) (k16 : PySem.W.keepIn K (.ref f16) = true)
    (a17 : PySem.W.nsIn K mainGlobals "_law_by_hand_right" = some (some (.ref f17))) (l17 : K.lookup f17 = some ⟨oc17, od17, .func (PySem.W.fnOf "_law_by_hand_right" "_law_by_hand_right" (defArgs s__law_by_hand_right) (defBody s__law_by_hand_right) (defScope s__law_by_hand_right) .none kV17 dc17 pm17 an17 cd17 ct17), sl17⟩) (c17 : PySem.W.codeIn K cd17 "_law_by_hand_right" = true) (k17 : PySem.W.keepIn K (.ref f17) = true)
    (a18 : PySem.W.nsIn K mainGlobals "_law_case_right" = some (some (.ref f18))) (l18 : K.lookup f18 = some ⟨oc18, od18, .func (PySem.W.fnOf "_law_case_right" "_law_case_right" (defArgs s__law_case_right) (defBody s__law_case_right) (defScope s__law_case_right) .none kV18 dc18 pm18 an18 cd18 ct18), sl18⟩) (c18 : PySem.W.codeIn K cd18 "_law_case_right" = true) (k18 : PySem.W.keepIn K (.ref f18) = true)
    (a19 : PySem.W.nsIn K mainGlobals "_law_right" = some (some (.ref f19))) (l19 : K.lookup f19 = some ⟨oc19, od19, .func (PySem.W.fnOf "_law_right" "_law_right" (defArgs s__law_right) (defBody s__law_right) (defScope s__law_right) .none kV19 dc19 pm19 an19 cd19 ct19), sl19⟩) (c19 : PySem.W.codeIn K cd19 "_law_right" = true) (k19 : PySem.W.keepIn K (.ref f19) = true)
    (a20 : PySem.W.nsIn K mainGlobals "law" = some (some (.ref f20))) (l20 : K.lookup f20 = some ⟨oc20, od20, .func (PySem.W.fnOf "law" "law" (defArgs s_law) (defBody s_law) (defScope s_law) .none kV20 dc20 pm20 an20 cd20 ct20), sl20⟩) (c20 : PySem.W.codeIn K cd20 "law" = true) (k20 : PySem.W.keepIn K (.ref f20) = true)
    {B_BadText C_BadText fI_BadText N_BadText : Addr} {nm_BadText q_BadText : Str} {bs_BadText sub_BadText : List Value} {sn_BadText : List Str} {ab_BadText : Bool} {col_BadText : Option Bool} {dd_BadText od_BadText an_BadText : Option Addr} {m0_BadText m1_BadText m2_BadText m3_BadText m5_BadText : Option Value} {oc_BadText kV_BadText dc_BadText pm_BadText cd_BadText ct_BadText : Value} {sl_BadText : Array (Option Value)}
    (aC_BadText : PySem.W.nsIn K mainGlobals "BadText" = some (some (.ref C_BadText)))
    (xL_BadText : K.lookup C_BadText = some (excClassObj nm_BadText q_BadText C_BadText N_BadText bs_BadText [.ref B_BadText, .type "ValueError", .type "Exception", .type "BaseException", .type "object"] true sn_BadText sub_BadText ab_BadText col_BadText dd_BadText m0_BadText m1_BadText m2_BadText m3_BadText m5_BadText "ValueError.__new__"))
    (sa_BadText : PySem.W.findIn K (.ref C_BadText) "__setattr__" = some (some (.builtin "object.__setattr__"))) (ga_BadText : PySem.W.findIn K (.ref C_BadText) "__getattribute__" = some (some (.builtin "BaseException.__getattribute__"))) (gg_BadText : PySem.W.findIn K (.ref C_BadText) "__getattr__" = some none)
    (nb_BadText : PySem.W.findIn K (.ref C_BadText) "piece" = some none) (ai_BadText : PySem.W.findIn K (.ref C_BadText) "__init__" = some (some (.ref fI_BadText))) (ti_BadText : PySem.W.typeIn K (.ref fI_BadText) = some (.type "function"))
    (li_BadText : K.lookup fI_BadText = some ⟨oc_BadText, od_BadText, .func (PySem.W.fnOf "__init__" "BadText.__init__" (defArgs i_BadText) (defBody i_BadText) (defScope i_BadText) .none kV_BadText dc_BadText pm_BadText an_BadText cd_BadText ct_BadText), sl_BadText⟩) (ci_BadText : PySem.W.codeIn K cd_BadText "BadText.__init__" = true) (ki_BadText : PySem.W.keepIn K (.ref fI_BadText) = true)
    (kC_BadText : PySem.W.keepIn K (.ref C_BadText) = true) (eC_BadText : PySem.W.subIn K (.ref C_BadText) (.type "BaseException") = some true) (tC_BadText : PySem.W.typeIn K (.ref C_BadText) = some (.type "type")) (hC_BadText : PySem.W.hasDictIn K C_BadText = true) (iC_BadText : PySem.W.isClsIn K C_BadText = true) (sC_BadText : PySem.W.subIn K (.ref C_BadText) (.ref C_BadText) = some true)
    (cl_BadText : PySem.W.findIn K (.ref C_BadText) "__class__" = some (some (.builtin "object.__class__"))) (sp_BadText : PySem.W.specialIn K (.builtin "object.__class__") "__get__" = some (some (.builtin "getset_descriptor.__get__"))) (tk_BadText : PySem.W.takesIn K (.builtin "object.__class__") = some true) (mr_BadText : PySem.W.mroIn K C_BadText (.type "object") = some true) (ve_BadText : PySem.W.subIn K (.ref C_BadText) (.type "ValueError") = some true)
    {CB_ButtError : Addr} (aB_ButtError : PySem.W.nsIn K mainGlobals "ButtError" = some (some (.ref CB_ButtError))) (eB_ButtError : PySem.W.subIn K (.ref CB_ButtError) (.type "BaseException") = some true) (iB_ButtError : PySem.W.isClsIn K CB_ButtError = true) (tB_ButtError : PySem.W.typeIn K (.ref CB_ButtError) = some (.type "type")) (uB_BadText_ButtError : PySem.W.subIn K (.ref C_BadText) (.ref CB_ButtError) = some true)
    {CY fIY : Addr} {ocY kVY dcY pmY cdY ctY : Value} {odY anY : Option Addr} {slY : Array (Option Value)}
    (aY : PySem.W.nsIn K mainGlobals "Year" = some (some (.ref CY))) (icY : PySem.W.findIn K (.ref CY) "__class__" = some (some (.builtin "object.__class__"))) (hnY : PySem.W.specialIn K (.builtin "object.__class__") "__get__" = some (some (.builtin "getset_descriptor.__get__"))) (tkY : PySem.W.takesIn K (.builtin "object.__class__") = some true) (mrY : PySem.W.mroIn K CY (.type "object") = some true) (pgY : PySem.W.plainGet K CY Str.empty = true) (hdY : PySem.W.hasDictIn K CY = true) (poY : PySem.W.plainOver K CY = true) (saY : PySem.W.findIn K (.ref CY) "__setattr__" = some (some (.builtin "object.__setattr__")))
    (nrY : PySem.W.findIn K (.ref CY) "_runs" = some none) (nsY : PySem.W.findIn K (.ref CY) "_swings" = some none) (mkY : PySem.W.makesIn K CY = true) (inY : PySem.W.findIn K (.ref CY) "__init__" = some (some (.ref fIY)))
    (lIY : K.lookup fIY = some ⟨ocY, odY, .func (PySem.W.fnOf "__init__" "Year.__init__" (defArgs s_init) (defBody s_init) (defScope s_init) .none kVY dcY pmY anY cdY ctY), slY⟩) (cIY : PySem.W.codeIn K cdY "Year.__init__" = true) (kIY : PySem.W.keepIn K (.ref fIY) = true) (ifY : PySem.W.isFn K (.ref fIY) = true) (kpY : PySem.W.keepIn K (.ref CY) = true)
    {p_runs g_runs : Addr} {re_runs : List Value} {oc_runs kV_runs dc_runs pm_runs cd_runs ct_runs : Value} {od_runs an_runs : Option Addr} {sl_runs : Array (Option Value)}
    (fi_runs : PySem.W.findIn K (.ref CY) "runs" = some (some (.ref p_runs))) (ge_runs : PySem.W.specialIn K (.ref p_runs) "__get__" = some (some (.builtin "property.__get__"))) (ta_runs : PySem.W.takesIn K (.ref p_runs) = some true) (rc_runs : PySem.W.recIn K p_runs "property" = some (.ref g_runs :: re_runs))
    (l_runs : K.lookup g_runs = some ⟨oc_runs, od_runs, .func (PySem.W.fnOf "runs" "Year.runs" (defArgs sp_runs) (defBody sp_runs) (defScope sp_runs) .none kV_runs dc_runs pm_runs an_runs cd_runs ct_runs), sl_runs⟩) (c_runs : PySem.W.codeIn K cd_runs "Year.runs" = true) (k_runs : PySem.W.keepIn K (.ref g_runs) = true)
    {p_text g_text : Addr} {re_text : List Value} {oc_text kV_text dc_text pm_text cd_text ct_text : Value} {od_text an_text : Option Addr} {sl_text : Array (Option Value)}
    (fi_text : PySem.W.findIn K (.ref CY) "text" = some (some (.ref p_text))) (ge_text : PySem.W.specialIn K (.ref p_text) "__get__" = some (some (.builtin "property.__get__"))) (ta_text : PySem.W.takesIn K (.ref p_text) = some true) (rc_text : PySem.W.recIn K p_text "property" = some (.ref g_text :: re_text))
    (l_text : K.lookup g_text = some ⟨oc_text, od_text, .func (PySem.W.fnOf "text" "Year.text" (defArgs sp_text) (defBody sp_text) (defScope sp_text) .none kV_text dc_text pm_text an_text cd_text ct_text), sl_text⟩) (c_text : PySem.W.codeIn K cd_text "Year.text" = true) (k_text : PySem.W.keepIn K (.ref g_text) = true)
    {fT_of qT_of : Addr} {reT_of : List Value} {ocT_of kVT_of dcT_of pmT_of cdT_of ctT_of : Value} {odT_of anT_of : Option Addr} {slT_of : Array (Option Value)} (rdT_of : PySem.W.readsIn K CY (.type "type") = true) (gaT_of : PySem.W.specialIn K (.ref CY) "__getattribute__" = some (some (.builtin "type.__getattribute__"))) (fiT_of : PySem.W.findCls K (.ref CY) (.type "type") "of" = some (.get (.builtin "staticmethod.__get__") (.ref qT_of) .none (.ref CY))) (rcT_of : PySem.W.recIn K qT_of "staticmethod" = some (.ref fT_of :: reT_of)) (lT_of : K.lookup fT_of = some ⟨ocT_of, odT_of, .func (PySem.W.fnOf "of" "Year.of" (defArgs s_t_of) (defBody s_t_of) (defScope s_t_of) .none kVT_of dcT_of pmT_of anT_of cdT_of ctT_of), slT_of⟩) (cT_of : PySem.W.codeIn K cdT_of "Year.of" = true) (kT_of : PySem.W.keepIn K (.ref fT_of) = true)
    {fT___eq__ : Addr} {ocT___eq__ kVT___eq__ dcT___eq__ pmT___eq__ cdT___eq__ ctT___eq__ : Value} {odT___eq__ anT___eq__ : Option Addr} {slT___eq__ : Array (Option Value)} (fiT___eq__ : PySem.W.findIn K (.ref CY) "__eq__" = some (some (.ref fT___eq__))) (lT___eq__ : K.lookup fT___eq__ = some ⟨ocT___eq__, odT___eq__, .func (PySem.W.fnOf "__eq__" "Year.__eq__" (defArgs s_t___eq__) (defBody s_t___eq__) (defScope s_t___eq__) .none kVT___eq__ dcT___eq__ pmT___eq__ anT___eq__ cdT___eq__ ctT___eq__), slT___eq__⟩) (cT___eq__ : PySem.W.codeIn K cdT___eq__ "Year.__eq__" = true) (kT___eq__ : PySem.W.keepIn K (.ref fT___eq__) = true) (ifT___eq__ : PySem.W.isFn K (.ref fT___eq__) = true)
    {uc_MOST_RUNS : Value} (aK_MOST_RUNS : PySem.W.nsIn K mainGlobals "MOST_RUNS" = some (some uc_MOST_RUNS)) (rK_MOST_RUNS : RelV (.int 40) uc_MOST_RUNS)
    (y0 : PySem.W.nsIn K mainGlobals "enumerate" = some none) (y1 : PySem.W.nsIn K mainGlobals "tuple" = some none) (y2 : PySem.W.nsIn K mainGlobals "int" = some none) (y3 : PySem.W.nsIn K mainGlobals "abs" = some none) (y4 : PySem.W.nsIn K mainGlobals "len" = some none) (y5 : PySem.W.nsIn K mainGlobals "sorted" = some none) (y6 : PySem.W.nsIn K mainGlobals "min" = some none) (y7 : PySem.W.nsIn K mainGlobals "sum" = some none) (y8 : PySem.W.nsIn K mainGlobals "list" = some none) (y9 : PySem.W.nsIn K mainGlobals "isinstance" = some none) (y10 : PySem.W.nsIn K mainGlobals "all" = some none) (y11 : PySem.W.nsIn K mainGlobals "bool" = some none) (y12 : PySem.W.nsIn K mainGlobals "str" = some none) (y13 : PySem.W.nsIn K mainGlobals "zip" = some none) (y14 : PySem.W.nsIn K mainGlobals "range" = some none) (y15 : PySem.W.nsIn K mainGlobals "ValueError" = some none) :
    ∃ fd : FuncData, (∀ (s : Shared) (v : Value), BindsTo s fd ⟨[v], []⟩ [("_law_script", v)]) ∧ ∀ base : Heap, K.In base → base.Ns mainGlobals mg → FnOk l.prog w K mg base CX0 10 fa fd ["_law_script"] (spLaw K) := by
  have e := hfa.symm.trans (PySem.W.mg_of X G a20)
  cases e
  let T : Txt K mg :=
    { z_enumerate := PySem.W.mg_none_of X G y0, z_tuple := PySem.W.mg_none_of X G y1, z_int := PySem.W.mg_none_of X G y2, z_abs := PySem.W.mg_none_of X G y3, z_len := PySem.W.mg_none_of X G y4, z_sorted := PySem.W.mg_none_of X G y5, z_min := PySem.W.mg_none_of X G y6, z_sum := PySem.W.mg_none_of X G y7, z_list := PySem.W.mg_none_of X G y8, z_isinstance := PySem.W.mg_none_of X G y9, z_all := PySem.W.mg_none_of X G y10, z_bool := PySem.W.mg_none_of X G y11, z_str := PySem.W.mg_none_of X G y12, z_zip := PySem.W.mg_none_of X G y13, z_range := PySem.W.mg_none_of X G y14, z_ValueError := PySem.W.mg_none_of X G y15,
      uc_MOST_RUNS := uc_MOST_RUNS, gc_MOST_RUNS := PySem.W.mg_of X G aK_MOST_RUNS, rc_MOST_RUNS := rK_MOST_RUNS,
      f_t_of := fT_of, fd_t_of := _, F_t_of := fun_mk (st := s_t_of) lT_of cT_of kT_of, b_t_of := (fun_mk (st := s_t_of) lT_of cT_of kT_of).binds (ps := ["text"]) fun _ _ _ _ _ _ us hl => match us, hl with | [_], _ => rfl, q_of := qT_of, S_of := ⟨rdT_of, gaT_of, fiT_of, ⟨reT_of, rcT_of⟩, kT_of⟩,
      f_t___eq__ := fT___eq__, fd_t___eq__ := _, F_t___eq__ := fun_mk (st := s_t___eq__) lT___eq__ cT___eq__ kT___eq__, b_t___eq__ := (fun_mk (st := s_t___eq__) lT___eq__ cT___eq__ kT___eq__).binds (ps := ["self", "other"]) fun _ _ _ _ _ _ us hl => match us, hl with | [_, _], _ => rfl, ME___eq__ := ⟨fiT___eq__, ifT___eq__, kT___eq__⟩,
      C_Y := CY, m_Y := PySem.W.mg_of X G aY, cls_Y := ⟨pgY, hdY, poY, saY⟩, IC_Y := ⟨⟨pgY, hdY, poY, saY⟩, icY, hnY, tkY, mrY, if_pos (beq_self_eq_true _)⟩, noR := nrY, noS := nsY, fI_Y := fIY, fdI_Y := _, FI_Y := fun_mk (st := s_init) lIY cIY kIY, bI_Y := (fun_mk (st := s_init) lIY cIY kIY).binds (ps := ["self", "runs"]) fun _ _ _ _ _ _ us hl => match us, hl with | [_, _], _ => rfl, M_Y := ⟨mkY, inY, ifY, kpY⟩,
      p_runs := p_runs, g_runs := g_runs, fdg_runs := _, P_runs := ⟨fi_runs, ge_runs, ta_runs, ⟨re_runs, rc_runs⟩⟩, FG_runs := fun_mk (st := sp_runs) l_runs c_runs k_runs, bG_runs := (fun_mk (st := sp_runs) l_runs c_runs k_runs).binds (ps := ["self"]) fun _ _ _ _ _ _ us hl => match us, hl with | [_], _ => rfl,
      p_text := p_text, g_text := g_text, fdg_text := _, P_text := ⟨fi_text, ge_text, ta_text, ⟨re_text, rc_text⟩⟩, FG_text := fun_mk (st := sp_text) l_text c_text k_text, bG_text := (fun_mk (st := sp_text) l_text c_text k_text).binds (ps := ["self"]) fun _ _ _ _ _ _ us hl => match us, hl with | [_], _ => rfl,
      C_BadText := C_BadText, fI_BadText := fI_BadText, fdI_BadText := _, FI_BadText := fun_mk (st := i_BadText) li_BadText ci_BadText ki_BadText, bI_BadText := (fun_mk (st := i_BadText) li_BadText ci_BadText ki_BadText).binds (ps := ["self", "piece"]) fun _ _ _ _ _ _ us hl => match us, hl with | [_, _], _ => rfl,
      E_BadText := { gC := PySem.W.mg_of X G aC_BadText, cls := ⟨⟨_, _, _, _, _, _, _, _, _, _, _, _, _, _, _, xL_BadText, (show PySem.HandSPX.refsVE [.type "ValueError", .type "Exception", .type "BaseException", .type "object"] = true by decide +kernel)⟩, sa_BadText, eC_BadText, tC_BadText, kC_BadText⟩, ga := ga_BadText, gg := gg_BadText, noN := nb_BadText, iC := ai_BadText, tC := ti_BadText, hdC := hC_BadText, te := exm_self eC_BadText iC_BadText tC_BadText sC_BadText },
      I_BadText := ⟨iC_BadText, ga_BadText, gg_BadText, eC_BadText, cl_BadText, sp_BadText, tk_BadText, mr_BadText, ve_BadText⟩,
      KU_BadText := DL.kit_sub iB_ButtError tB_ButtError uB_BadText_ButtError,
      C_ButtError := CB_ButtError, gC_ButtError := PySem.W.mg_of X G aB_ButtError, XU_BadText_ButtError := DL.exm_cross eB_ButtError iB_ButtError tB_ButtError uB_BadText_ButtError,
      KO_BadText_BadText := if_pos (beq_self_eq_true _),
      f_is_number_text := f0, fd_is_number_text := _, F_is_number_text := fun_mk (st := s_is_number_text) l0 c0 k0, m_is_number_text := PySem.W.mg_of X G a0, b_is_number_text := (fun_mk (st := s_is_number_text) l0 c0 k0).binds (ps := ["text"]) fun _ _ _ _ _ _ us hl => match us, hl with | [_], _ => rfl,
      f_is_size_text := f1, fd_is_size_text := _, F_is_size_text := fun_mk (st := s_is_size_text) l1 c1 k1, m_is_size_text := PySem.W.mg_of X G a1, b_is_size_text := (fun_mk (st := s_is_size_text) l1 c1 k1).binds (ps := ["text"]) fun _ _ _ _ _ _ us hl => match us, hl with | [_], _ => rfl,
      f_is_run_text := f2, fd_is_run_text := _, F_is_run_text := fun_mk (st := s_is_run_text) l2 c2 k2, m_is_run_text := PySem.W.mg_of X G a2, b_is_run_text := (fun_mk (st := s_is_run_text) l2 c2 k2).binds (ps := ["text"]) fun _ _ _ _ _ _ us hl => match us, hl with | [_], _ => rfl,
      f_runs_in := f3, fd_runs_in := _, F_runs_in := fun_mk (st := s_runs_in) l3 c3 k3, m_runs_in := PySem.W.mg_of X G a3, b_runs_in := (fun_mk (st := s_runs_in) l3 c3 k3).binds (ps := ["pieces"]) fun _ _ _ _ _ _ us hl => match us, hl with | [_], _ => rfl,
      f_runs_text := f4, fd_runs_text := _, F_runs_text := fun_mk (st := s_runs_text) l4 c4 k4, m_runs_text := PySem.W.mg_of X G a4, b_runs_text := (fun_mk (st := s_runs_text) l4 c4 k4).binds (ps := ["runs"]) fun _ _ _ _ _ _ us hl => match us, hl with | [_], _ => rfl,
      f_swings_of := f5, fd_swings_of := _, F_swings_of := fun_mk (st := s_swings_of) l5 c5 k5, m_swings_of := PySem.W.mg_of X G a5, b_swings_of := (fun_mk (st := s_swings_of) l5 c5 k5).binds (ps := ["runs"]) fun _ _ _ _ _ _ us hl => match us, hl with | [_], _ => rfl,
      f__sizes_without := f6, fd__sizes_without := _, F__sizes_without := fun_mk (st := s__sizes_without) l6 c6 k6, m__sizes_without := PySem.W.mg_of X G a6, b__sizes_without := (fun_mk (st := s__sizes_without) l6 c6 k6).binds (ps := ["sizes", "place"]) fun _ _ _ _ _ _ us hl => match us, hl with | [_, _], _ => rfl,
      f_ring_of := f7, fd_ring_of := _, F_ring_of := fun_mk (st := s_ring_of) l7 c7 k7, m_ring_of := PySem.W.mg_of X G a7, b_ring_of := (fun_mk (st := s_ring_of) l7 c7 k7).binds (ps := ["runs"]) fun _ _ _ _ _ _ us hl => match us, hl with | [_], _ => rfl,
      f__first_turn := f8, fd__first_turn := _, F__first_turn := fun_mk (st := s__first_turn) l8 c8 k8, m__first_turn := PySem.W.mg_of X G a8, b__first_turn := (fun_mk (st := s__first_turn) l8 c8 k8).binds (ps := ["runs"]) fun _ _ _ _ _ _ us hl => match us, hl with | [_], _ => rfl,
      f__law_box := f9, fd__law_box := _, F__law_box := fun_mk (st := s__law_box) l9 c9 k9, m__law_box := PySem.W.mg_of X G a9, b__law_box := (fun_mk (st := s__law_box) l9 c9 k9).binds (ps := ["_law_script", "_law_k"]) fun _ _ _ _ _ _ us hl => match us, hl with | [_, _], _ => rfl,
      f__law_take := f10, fd__law_take := _, F__law_take := fun_mk (st := s__law_take) l10 c10 k10, m__law_take := PySem.W.mg_of X G a10, b__law_take := (fun_mk (st := s__law_take) l10 c10 k10).binds (ps := ["_law_box_here", "_law_size_so"]) fun _ _ _ _ _ _ us hl => match us, hl with | [_, _], _ => rfl,
      f__law_cells := f11, fd__law_cells := _, F__law_cells := fun_mk (st := s__law_cells) l11 c11 k11, m__law_cells := PySem.W.mg_of X G a11, b__law_cells := (fun_mk (st := s__law_cells) l11 c11 k11).binds (ps := ["_law_script", "_law_top_so"]) fun _ _ _ _ _ _ us hl => match us, hl with | [_, _], _ => rfl,
      f__law_of := f12, fd__law_of := _, F__law_of := fun_mk (st := s__law_of) l12 c12 k12, m__law_of := PySem.W.mg_of X G a12, b__law_of := (fun_mk (st := s__law_of) l12 c12 k12).binds (ps := ["_law_box_here", "_law_goods_so"]) fun _ _ _ _ _ _ us hl => match us, hl with | [_, _], _ => rfl,
      f__law_same := f13, fd__law_same := _, F__law_same := fun_mk (st := s__law_same) l13 c13 k13, m__law_same := PySem.W.mg_of X G a13, b__law_same := (fun_mk (st := s__law_same) l13 c13 k13).binds (ps := ["_law_got", "_law_due"]) fun _ _ _ _ _ _ us hl => match us, hl with | [_, _], _ => rfl,
      f__law_runs := f14, fd__law_runs := _, F__law_runs := fun_mk (st := s__law_runs) l14 c14 k14, m__law_runs := PySem.W.mg_of X G a14, b__law_runs := (fun_mk (st := s__law_runs) l14 c14 k14).binds (ps := ["_law_box_here", "_law_most_so", "_law_high_so"]) fun _ _ _ _ _ _ us hl => match us, hl with | [_, _, _], _ => rfl,
      f__law_read := f15, fd__law_read := _, F__law_read := fun_mk (st := s__law_read) l15 c15 k15, m__law_read := PySem.W.mg_of X G a15, b__law_read := (fun_mk (st := s__law_read) l15 c15 k15).binds (ps := ["_law_text_so"]) fun _ _ _ _ _ _ us hl => match us, hl with | [_], _ => rfl,
      f__law_written := f16, fd__law_written := _, F__law_written := fun_mk (st := s__law_written) l16 c16 k16, m__law_written := PySem.W.mg_of X G a16, b__law_written := (fun_mk (st := s__law_written) l16 c16 k16).binds (ps := ["_law_runs_so"]) fun _ _ _ _ _ _ us hl => match us, hl with | [_], _ => rfl,
      f__law_by_hand_right := f17, fd__law_by_hand_right := _, F__law_by_hand_right := fun_mk (st := s__law_by_hand_right) l17 c17 k17, m__law_by_hand_right := PySem.W.mg_of X G a17, b__law_by_hand_right := (fun_mk (st := s__law_by_hand_right) l17 c17 k17).binds (ps := []) fun _ _ _ _ _ _ us hl => match us, hl with | [], _ => rfl,
      f__law_case_right := f18, fd__law_case_right := _, F__law_case_right := fun_mk (st := s__law_case_right) l18 c18 k18, m__law_case_right := PySem.W.mg_of X G a18, b__law_case_right := (fun_mk (st := s__law_case_right) l18 c18 k18).binds (ps := ["_law_box_here", "_law_runs_so"]) fun _ _ _ _ _ _ us hl => match us, hl with | [_, _], _ => rfl,
      f__law_right := f19, fd__law_right := _, F__law_right := fun_mk (st := s__law_right) l19 c19 k19, m__law_right := PySem.W.mg_of X G a19, b__law_right := (fun_mk (st := s__law_right) l19 c19 k19).binds (ps := ["_law_box_here"]) fun _ _ _ _ _ _ us hl => match us, hl with | [_], _ => rfl,
      f_law := fa, fd_law := _, F_law := fun_mk (st := s_law) l20 c20 k20, m_law := PySem.W.mg_of X G a20, b_law := (fun_mk (st := s_law) l20 c20 k20).binds (ps := ["_law_script"]) fun _ _ _ _ _ _ us hl => match us, hl with | [_], _ => rfl }
  exact ⟨PySem.W.fnOf "law" "law" (defArgs s_law) (defBody s_law) (defScope s_law) .none kV20 dc20 pm20 an20 cd20 ct20, fun s v => .of_eq rfl, fun base _ _ => ok_law T⟩
theorem walk {l : PySem.W.OpenLaw} {q : Program} {loose : List Str} {XP : (Str → Option Value) → Heap → Prop} {YP : World → Heap → Prop} {d : DefRec} {K : Params → PySem.W.Frag} (hn : l.most = some 63) (hdf : d.params.defaults = [])
    (hY : ∀ (w : World) (h : Heap), YP w h → (K w.params).In h)
    (F : ∀ (w : World) (mg : Str → Option Value) (fa : Addr) (h : Heap), (K w.params).In h → h.Ns mainGlobals mg → mg d.name = some (.ref fa) →
      ∃ fd : FuncData, (∀ (s : Shared) (u : Value), BindsTo s fd ⟨[u], []⟩ [("_law_script", u)]) ∧ ∀ base : Heap, (K w.params).In base → base.Ns mainGlobals mg → FnOk l.prog w (K w.params) mg base CX0 10 fa fd ["_law_script"] (spLaw (K w.params))) :
    PySem.W.WalkO q loose XP YP l.row.toRowW d [] (fun f vs => PySem.call f vs) :=
  L2.walk_of (n := 63) (k := 10) (x := "_law_script") (CX := fun _ => CX0) (sp := fun w => spLaw (K w.params)) hn (by decide) hdf ⟨rfl, by decide, by decide⟩ hY F (fun _ _ a ns hl _ hS => ⟨a, ns, rfl, hS, hl, fun _ => rfl⟩) fun _ _ _ _ _ z => z
end K08
open PySem PySem.W PyProof.Rows
set_option maxRecDepth 100000 in
set_option maxHeartbeats 0 in
theorem PySem.Challenge.cw_allbutts_k08_years_as_texts_holds : PySem.Challenge.rw_allbutts_k08_years_as_texts.Holds := by
  w_on; o_law; k_head; (case hw => w_witness2)
  k_fill
  refine K08.walk (l := PySem.Challenge.rw_allbutts_k08_years_as_texts) rfl rfl (fun w h Y => PySem.W.kIn_of Y) ?F
  case F =>
    intro w mg fa h KX G hmg
    refine' K08.all_mk KX G hmg ?a0 ?l0 ?c0 ?k0 ?a1 ?l1 ?c1 ?k1 ?a2 ?l2 ?c2 ?k2 ?a3 ?l3 ?c3 ?k3 ?a4 ?l4 ?c4 ?k4 ?a5 ?l5 ?c5 ?k5 ?a6 ?l6 ?c6 ?k6 ?a7 ?l7 ?c7 ?k7 ?a8 ?l8 ?c8 ?k8 ?a9 ?l9 ?c9 ?k9 ?a10 ?l10 ?c10 ?k10 ?a11 ?l11 ?c11 ?k11 ?a12 ?l12 ?c12 ?k12 ?a13 ?l13 ?c13 ?k13 ?a14 ?l14 ?c14 ?k14 ?a15 ?l15 ?c15 ?k15 ?a16 ?l16 ?c16 ?k16 ?a17 ?l17 ?c17 ?k17 ?a18 ?l18 ?c18 ?k18 ?a19 ?l19 ?c19 ?k19 ?a20 ?l20 ?c20 ?k20 ?aC_BadText ?xL_BadText ?sa_BadText ?ga_BadText ?gg_BadText ?nb_BadText ?ai_BadText ?ti_BadText ?li_BadText ?ci_BadText ?ki_BadText ?kC_BadText ?eC_BadText ?tC_BadText ?hC_BadText ?iC_BadText ?sC_BadText  ?cl_BadText ?sp_BadText ?tk_BadText ?mr_BadText ?ve_BadText  ?aB_ButtError ?eB_ButtError ?iB_ButtError ?tB_ButtError ?uB_BadText_ButtError ?aY ?icY ?hnY ?tkY ?mrY ?pgY ?hdY ?poY ?saY ?nrY ?nsY ?mkY ?inY ?lIY ?cIY ?kIY ?ifY ?kpY ?fi_runs ?ge_runs ?ta_runs ?rc_runs ?l_runs ?c_runs ?k_runs ?fi_text ?ge_text ?ta_text ?rc_text ?l_text ?c_text ?k_text ?rdT_of ?gaT_of ?fiT_of ?rcT_of ?lT_of ?cT_of ?kT_of ?fiT___eq__ ?lT___eq__ ?cT___eq__ ?kT___eq__ ?ifT___eq__ ?aK_MOST_RUNS ?rK_MOST_RUNS ?y0 ?y1 ?y2 ?y3 ?y4 ?y5 ?y6 ?y7 ?y8 ?y9 ?y10 ?y11 ?y12 ?y13 ?y14 ?y15
    (case aC_BadText => k_is); (case xL_BadText => k_is); (case sa_BadText => k_is); (case ga_BadText => k_is); (case gg_BadText => k_is); (case nb_BadText => k_is); (case ai_BadText => k_is); (case ti_BadText => k_is); (case li_BadText => k_is); (case ci_BadText => k_is); (case ki_BadText => k_is); (case kC_BadText => k_is); (case eC_BadText => k_is); (case tC_BadText => k_is); (case hC_BadText => k_is); (case iC_BadText => k_is); (case sC_BadText => first | rfl | k_is)
    (case cl_BadText => k_is); (case sp_BadText => k_is); (case tk_BadText => k_is); (case mr_BadText => k_is); (case ve_BadText => k_is)
    (case aB_ButtError => first | k_is | rfl); (case eB_ButtError => first | k_is | rfl); (case iB_ButtError => first | k_is | rfl); (case tB_ButtError => first | k_is | rfl); (case uB_BadText_ButtError => first | k_is | rfl)
    (case aY => k_is); (case icY => k_is); (case hnY => k_is); (case tkY => k_is); (case mrY => k_is); (case pgY => k_is); (case hdY => k_is); (case poY => k_is); (case saY => k_is); (case nrY => k_is); (case nsY => k_is); (case mkY => k_is); (case inY => k_is); (case lIY => k_is); (case cIY => k_is); (case kIY => k_is); (case ifY => k_is); (case kpY => k_is); (case fi_runs => k_is); (case ge_runs => k_is); (case ta_runs => k_is); (case rc_runs => k_is); (case l_runs => k_is); (case c_runs => k_is); (case k_runs => k_is); (case fi_text => k_is); (case ge_text => k_is); (case ta_text => k_is); (case rc_text => k_is); (case l_text => k_is); (case c_text => k_is); (case k_text => k_is); (case rdT_of => k_is); (case gaT_of => k_is); (case fiT_of => k_is); (case rcT_of => k_is); (case lT_of => k_is); (case cT_of => k_is); (case kT_of => k_is); (case fiT___eq__ => k_is); (case lT___eq__ => k_is); (case cT___eq__ => k_is); (case kT___eq__ => k_is); (case ifT___eq__ => k_is)
    (case aK_MOST_RUNS => k_is); (case rK_MOST_RUNS => exact ⟨_, rfl⟩)
    (case a0 => k_is); (case l0 => k_is); (case c0 => k_is); (case k0 => k_is)
    (case a1 => k_is); (case l1 => k_is); (case c1 => k_is); (case k1 => k_is)
    (case a2 => k_is); (case l2 => k_is); (case c2 => k_is); (case k2 => k_is)
    (case a3 => k_is); (case l3 => k_is); (case c3 => k_is); (case k3 => k_is)
    (case a4 => k_is); (case l4 => k_is); (case c4 => k_is); (case k4 => k_is)
    (case a5 => k_is); (case l5 => k_is); (case c5 => k_is); (case k5 => k_is)
    (case a6 => k_is); (case l6 => k_is); (case c6 => k_is); (case k6 => k_is)
    (case a7 => k_is); (case l7 => k_is); (case c7 => k_is); (case k7 => k_is)
    (case a8 => k_is); (case l8 => k_is); (case c8 => k_is); (case k8 => k_is)
    (case a9 => k_is); (case l9 => k_is); (case c9 => k_is); (case k9 => k_is)
    (case a10 => k_is); (case l10 => k_is); (case c10 => k_is); (case k10 => k_is)
    (case a11 => k_is); (case l11 => k_is); (case c11 => k_is); (case k11 => k_is)
    (case a12 => k_is); (case l12 => k_is); (case c12 => k_is); (case k12 => k_is)
    (case a13 => k_is); (case l13 => k_is); (case c13 => k_is); (case k13 => k_is)
    (case a14 => k_is); (case l14 => k_is); (case c14 => k_is); (case k14 => k_is)
    (case a15 => k_is); (case l15 => k_is); (case c15 => k_is); (case k15 => k_is)
    (case a16 => k_is); (case l16 => k_is); (case c16 => k_is); (case k16 => k_is)
    (case a17 => k_is); (case l17 => k_is); (case c17 => k_is); (case k17 => k_is)
    (case a18 => k_is); (case l18 => k_is); (case c18 => k_is); (case k18 => k_is)
    (case a19 => k_is); (case l19 => k_is); (case c19 => k_is); (case k19 => k_is)
    (case a20 => k_is); (case l20 => k_is); (case c20 => k_is); (case k20 => k_is)
    (case y0 => k_is); (case y1 => k_is); (case y2 => k_is); (case y3 => k_is); (case y4 => k_is); (case y5 => k_is); (case y6 => k_is); (case y7 => k_is); (case y8 => k_is); (case y9 => k_is); (case y10 => k_is); (case y11 => k_is); (case y12 => k_is); (case y13 => k_is); (case y14 => k_is); (case y15 => k_is)
