import PyProof.Rows.All
import Wide.All
import OpenK.AllK
import Wide.FinOn
import HandS.ForMost
import HandS.Evl
import HandS.Wide
import HandS.TupAny
import HandS.IsInst
import HandS.Zip
import HandS.More
import HandS.Strs
import KE.SortCalls
import HandS.Sort
import HandS.DictComp
import KE.GoesMore
import KE.GoesEnum
import HandS.Style
import KE.KDictZip
import HandS.Conv
import HandS.Rev
import HandS.Defaults
import HandS.ExcValue
import HandS.Set
import HandS.SetTxt0
import HandS.SetFor
import HandS.NoneIn
import PySem.Challenge.RW_leapcart_k01_carts_folk_leaps_told
set_option Elab.async false
set_option linter.all false
set_option maxRecDepth 100000
/-! A reading by data: what a piece of the program makes of trees, heaps left aside. -/
namespace Sm
open PySem L2 Evl

/-! ### data in a heap -/
def keyD : Key → PyData
  | .inl i => .int i
  | .inr x => .str x
/-- the law's script, a list of ints that nobody changes, is told apart from dicts by its first key -/
def scrD (ns : List Int) : PyData := .dict ((.none, .none) :: ns.map fun n => (.int n, .none))
mutual
inductive Rp (K : PySem.W.Frag) (H : Hp) : V → PyData → Prop
  | non : Rp K H .non .none
  | bl (b : Bool) : Rp K H (.bl b) (.bool b)
  | int (i : Int) : Rp K H (.int i) (.int i)
  | str (x : Str) : Rp K H (.str x) (.str x)
  | lst {a : Addr} {xs : List V} {ds : List PyData} : H a = some (.lst xs) → RpAll K H xs ds → Rp K H (.ref a) (.list ds)
  | tup {a : Addr} {xs : List V} {ds : List PyData} : SqT K H a xs → RpAll K H xs ds → Rp K H (.ref a) (.tuple ds)
  | scr {a : Addr} {ns : List Int} : SqL K H a (ns.map V.int) → Rp K H (.ref a) (.dict ((.none, .none) :: ns.map fun n => (.int n, .none)))
  | dic {a : Addr} {ks : List (Key × V)} {ds : List (PyData × PyData)} : H a = some (.dK ks) → RpKV K H ks ds → Rp K H (.ref a) (.dict ds)
inductive RpAll (K : PySem.W.Frag) (H : Hp) : List V → List PyData → Prop
  | nil : RpAll K H [] []
  | cons {v : V} {vs : List V} {d : PyData} {ds : List PyData} : Rp K H v d → RpAll K H vs ds → RpAll K H (v :: vs) (d :: ds)
inductive RpKV (K : PySem.W.Frag) (H : Hp) : List (Key × V) → List (PyData × PyData) → Prop
  | nil : RpKV K H [] []
  | cons {k : Key} {v : V} {vs : List (Key × V)} {d : PyData} {ds : List (PyData × PyData)} : Rp K H v d → RpKV K H vs ds → RpKV K H ((k, v) :: vs) ((keyD k, d) :: ds)
end
section
variable {K : PySem.W.Frag} {H H' : Hp}
theorem Rp.mono (e : Ex H H') (d : PyData) (v : V) (h : Rp K H v d) : Rp K H' v d :=
  Rp.rec (motive_1 := fun v d _ => Rp K H' v d) (motive_2 := fun v d _ => RpAll K H' v d) (motive_3 := fun v d _ => RpKV K H' v d)
    .non .bl .int .str (fun h _ ih => .lst (e _ _ h) ih) (fun h _ ih => .tup (ex_t e h) ih) (fun h => .scr (ex_l e h)) (fun h _ ih => .dic (e _ _ h) ih) .nil (fun _ _ a b => .cons a b) .nil (fun _ _ a b => .cons a b) h
theorem RpAll.mono (e : Ex H H') (d : List PyData) (v : List V) (h : RpAll K H v d) : RpAll K H' v d :=
  RpAll.rec (motive_1 := fun v d _ => Rp K H' v d) (motive_2 := fun v d _ => RpAll K H' v d) (motive_3 := fun v d _ => RpKV K H' v d)
    .non .bl .int .str (fun h _ ih => .lst (e _ _ h) ih) (fun h _ ih => .tup (ex_t e h) ih) (fun h => .scr (ex_l e h)) (fun h _ ih => .dic (e _ _ h) ih) .nil (fun _ _ a b => .cons a b) .nil (fun _ _ a b => .cons a b) h
theorem RpKV.mono (e : Ex H H') (d : List (PyData × PyData)) (v : List (Key × V)) (h : RpKV K H v d) : RpKV K H' v d :=
  RpKV.rec (motive_1 := fun v d _ => Rp K H' v d) (motive_2 := fun v d _ => RpAll K H' v d) (motive_3 := fun v d _ => RpKV K H' v d)
    .non .bl .int .str (fun h _ ih => .lst (e _ _ h) ih) (fun h _ ih => .tup (ex_t e h) ih) (fun h => .scr (ex_l e h)) (fun h _ ih => .dic (e _ _ h) ih) .nil (fun _ _ a b => .cons a b) .nil (fun _ _ a b => .cons a b) h
theorem Rp.dp (d : PyData) (v : V) (c : PyData.canLay0 d = true) (h : Rp K H v d) : Dp K H v d :=
  Rp.rec (motive_1 := fun v d _ => PyData.canLay0 d = true → Dp K H v d) (motive_2 := fun v d _ => PyData.canLayAll0 d = true → DpAll K H v d) (motive_3 := fun v d _ => True)
    (fun _ => .non) (fun b _ => .bl b) (fun i _ => .int i) (fun x _ => .str x) (fun h _ ih c => .lst (sq_of h) (ih (by simpa [PyData.canLay0] using c))) (fun h _ ih c => .tup h (ih (by simpa [PyData.canLay0] using c))) (fun _ c => by simp [PyData.canLay0] at c) (fun _ _ _ c => by simp [PyData.canLay0] at c)
    (fun _ => .nil) (fun _ _ a b c => .cons (a (by simp [PyData.canLayAll0] at c; exact c.1)) (b (by simp [PyData.canLayAll0] at c; exact c.2))) trivial (fun _ _ _ _ => trivial) h c
theorem RpAll.dp (d : List PyData) (v : List V) (c : PyData.canLayAll0 d = true) (h : RpAll K H v d) : DpAll K H v d :=
  RpAll.rec (motive_1 := fun v d _ => PyData.canLay0 d = true → Dp K H v d) (motive_2 := fun v d _ => PyData.canLayAll0 d = true → DpAll K H v d) (motive_3 := fun v d _ => True)
    (fun _ => .non) (fun b _ => .bl b) (fun i _ => .int i) (fun x _ => .str x) (fun h _ ih c => .lst (sq_of h) (ih (by simpa [PyData.canLay0] using c))) (fun h _ ih c => .tup h (ih (by simpa [PyData.canLay0] using c))) (fun _ c => by simp [PyData.canLay0] at c) (fun _ _ _ c => by simp [PyData.canLay0] at c)
    (fun _ => .nil) (fun _ _ a b c => .cons (a (by simp [PyData.canLayAll0] at c; exact c.1)) (b (by simp [PyData.canLayAll0] at c; exact c.2))) trivial (fun _ _ _ _ => trivial) h c
end
section
variable {K : PySem.W.Frag} {H H' : Hp}
theorem RpAll.len : ∀ {vs : List V} {ds : List PyData}, RpAll K H vs ds → vs.length = ds.length
  | _, [], h => by cases h; rfl
  | _, d :: ds, h => by
    cases h with
    | cons h1 h2 => rw [List.length_cons, List.length_cons, RpAll.len h2]
theorem RpAll.get : ∀ {vs : List V} {ds : List PyData}, RpAll K H vs ds → ∀ (i : Nat) (d : PyData), ds[i]? = some d → ∃ v, vs[i]? = some v ∧ Rp K H v d
  | _, [], h, i, d, e => by simp at e
  | _, d0 :: ds, h, i, d, e => by
    cases h with
    | cons h1 h2 =>
      cases i with
      | zero =>
        simp at e
        subst e
        exact ⟨_, rfl, h1⟩
      | succ n =>
        have e' : ds[n]? = some d := by simpa using e
        obtain ⟨v, ev, hv⟩ := RpAll.get h2 n d e'
        exact ⟨v, by simpa using ev, hv⟩
theorem RpAll.getV : ∀ {vs : List V} {ds : List PyData}, RpAll K H vs ds → ∀ (i : Nat) (v : V), vs[i]? = some v → ∃ d, ds[i]? = some d ∧ Rp K H v d
  | _, [], h, i, d, e => by cases h; simp at e
  | _, d0 :: ds, h, i, d, e => by
    cases h with
    | cons h1 h2 =>
      cases i with
      | zero =>
        simp at e
        subst e
        exact ⟨_, rfl, h1⟩
      | succ n =>
        obtain ⟨v, ev, hv⟩ := RpAll.getV h2 n d (by simpa using e)
        exact ⟨v, by simpa using ev, hv⟩
theorem RpAll.app : ∀ {vs : List V} {ds : List PyData} {vs' : List V} {ds' : List PyData}, RpAll K H vs ds → RpAll K H vs' ds' → RpAll K H (vs ++ vs') (ds ++ ds')
  | _, [], _, _, h, h' => by cases h; exact h'
  | _, d :: ds, _, _, h, h' => by
    cases h with
    | cons h1 h2 => exact .cons h1 (RpAll.app h2 h')
theorem RpAll.take : ∀ {vs : List V} {ds : List PyData} (n : Nat), RpAll K H vs ds → RpAll K H (vs.take n) (ds.take n)
  | _, _, 0, h => by
    rw [List.take_zero, List.take_zero]
    exact .nil
  | _, [], n + 1, h => by
    cases h
    exact .nil
  | _, d :: ds, n + 1, h => by
    cases h with
    | cons h1 h2 => exact .cons h1 (RpAll.take n h2)
theorem RpAll.drop : ∀ {vs : List V} {ds : List PyData} (n : Nat), RpAll K H vs ds → RpAll K H (vs.drop n) (ds.drop n)
  | _, _, 0, h => h
  | _, [], n + 1, h => by
    cases h
    exact .nil
  | _, d :: ds, n + 1, h => by
    cases h with
    | cons h1 h2 => exact RpAll.drop n h2
theorem RpAll.set : ∀ {vs : List V} {ds : List PyData} (n : Nat) {v : V} {d : PyData}, RpAll K H vs ds → Rp K H v d → RpAll K H (vs.set n v) (ds.set n d)
  | _, [], n, _, _, h, _ => by
    cases h
    exact .nil
  | _, d :: ds, 0, _, _, h, h' => by
    cases h with
    | cons h1 h2 => exact .cons h' h2
  | _, d :: ds, n + 1, _, _, h, h' => by
    cases h with
    | cons h1 h2 => exact .cons h1 (RpAll.set n h2 h')
theorem RpAll.ints : ∀ {vs : List V} {ns : List Int}, RpAll K H vs (ns.map PyData.int) → vs = ns.map V.int
  | _, [], h => by cases h; rfl
  | _, n :: ns, h => by
    cases h with
    | cons h1 h2 =>
      cases h1
      rw [RpAll.ints h2]
      rfl
theorem RpAll.of_ints : ∀ (ns : List Int), RpAll K H (ns.map V.int) (ns.map PyData.int)
  | [] => .nil
  | n :: ns => .cons (.int n) (RpAll.of_ints ns)
theorem RpAll.bls : ∀ {vs : List V} {ns : List Bool}, RpAll K H vs (ns.map PyData.bool) → vs = ns.map V.bl
  | _, [], h => by cases h; rfl
  | _, n :: ns, h => by
    cases h with
    | cons h1 h2 =>
      cases h1
      rw [RpAll.bls h2]
      rfl
theorem RpAll.strs : ∀ {vs : List V} {ns : List Str}, RpAll K H vs (ns.map PyData.str) → vs = ns.map V.str
  | _, [], h => by cases h; rfl
  | _, n :: ns, h => by
    cases h with
    | cons h1 h2 =>
      cases h1
      rw [RpAll.strs h2]
      rfl
theorem RpAll.of_strs : ∀ (ns : List Str), RpAll K H (ns.map V.str) (ns.map PyData.str)
  | [] => .nil
  | n :: ns => .cons (.str n) (RpAll.of_strs ns)
end

/-! ### hidden addresses -/
def Msk (S : List Addr) (H : Hp) : Hp := fun a => if a ∈ S then none else H a
section
variable {S T : List Addr} {H H' : Hp}
theorem msk_in {a : Addr} (h : a ∈ S) : Msk S H a = none := by unfold Msk; rw [if_pos h]
theorem msk_out {a : Addr} (h : ¬ a ∈ S) : Msk S H a = H a := by unfold Msk; rw [if_neg h]
theorem msk_some {a : Addr} {o : HO} (h : Msk S H a = some o) : ¬ a ∈ S ∧ H a = some o := by
  by_cases hs : a ∈ S
  · rw [msk_in hs] at h; cases h
  · rw [msk_out hs] at h; exact ⟨hs, h⟩
theorem msk_le : Ex (Msk S H) H := fun _ _ h => (msk_some h).2
theorem msk_sub (h : ∀ a, a ∈ S → a ∈ T) : Ex (Msk T H) (Msk S H) := fun a o e => by
  obtain ⟨h1, h2⟩ := msk_some e
  rw [msk_out (fun q => h1 (h a q))]
  exact h2
theorem msk_ex (h : Ex (Msk S H) (Msk S H')) (hs : ∀ a, a ∈ S → a ∈ T) : Ex (Msk T H) (Msk T H') := fun a o e => by
  obtain ⟨h1, h2⟩ := msk_some e
  have q : Msk S H a = some o := by rw [msk_out (fun z => h1 (hs a z))]; exact h2
  rw [msk_out h1]
  exact (msk_some (h a o q)).2
theorem ex_msk (h : Ex H H') : Ex (Msk S H) (Msk S H') := fun a o e => by
  obtain ⟨h1, h2⟩ := msk_some e
  rw [msk_out h1]
  exact h a o h2
theorem msk_upd {l : Addr} {o : HO} (h : l ∈ S) : Msk S (upd H l o) = Msk S H := by
  funext a
  by_cases ha : a ∈ S
  · rw [msk_in ha, msk_in ha]
  · rw [msk_out ha, msk_out ha, upd_ne (fun e => ha (by rw [e]; exact h))]
end

/-! ### what a def's names stand for -/
inductive EV
  | un
  | dat (d : PyData)
  | own (ds : List PyData)
  | bag (ds : List PyData)
  | odc (ds : List (PyData × PyData))
abbrev En := List EV
structure Fm where
  B : List Addr
  M : List Addr
def SlotR (K : PySem.W.Frag) (F : Fm) (L : List Addr) (H : Hp) (o : Option (Option V)) : EV → Prop
  | .un => True
  | .dat d => ∃ v, o = some (some v) ∧ Rp K (Msk (F.B ++ L) H) v d
  | .own ds => ∃ l vs, o = some (some (.ref l)) ∧ l ∈ L ∧ H l = some (.lst vs) ∧ RpAll K (Msk (F.B ++ L) H) vs ds
  | .bag ds => ∃ l vs, o = some (some (.ref l)) ∧ l ∈ F.M ∧ H l = some (.lst vs) ∧ RpAll K (Msk (F.B ++ L) H) vs ds
  | .odc ds => ∃ l ks, o = some (some (.ref l)) ∧ l ∈ L ∧ H l = some (.dK ks) ∧ RpKV K (Msk (F.B ++ L) H) ks ds
def EV.mine : EV → Bool
  | .own _ => true
  | .bag _ => true
  | .odc _ => true
  | _ => false
structure EnvR (K : PySem.W.Frag) (F : Fm) (L : List Addr) (σ : St) (H : Hp) (δ : En) : Prop where
  len : σ.length = δ.length
  at_ : ∀ (i : Nat) (e : EV), δ[i]? = some e → SlotR K F L H σ[i]? e
  dis : ∀ (i j : Nat) (l : Addr) (e e' : EV), i ≠ j → δ[i]? = some e → δ[j]? = some e' → e.mine = true → e'.mine = true → σ[i]? = some (some (.ref l)) → σ[j]? = some (some (.ref l)) → False
  al : ∀ a, a ∈ F.B ++ L → H a ≠ none
  mb : ∀ a, a ∈ F.M → a ∈ F.B
  lb : ∀ a, a ∈ L → ¬ a ∈ F.B
/-- only what is this def's own has changed -/
def Stp (F : Fm) (L : List Addr) (H H' : Hp) : Prop := Ex (Msk (F.M ++ L) H) (Msk (F.M ++ L) H')
section
variable {K : PySem.W.Frag} {F : Fm} {L L' : List Addr} {σ : St} {H H' H2 : Hp} {δ δ' : En}
theorem Stp.refl : Stp F L H H := Ex.refl _
theorem Stp.trans (a : Stp F L H H') (b : Stp F L H' H2) : Stp F L H H2 := Ex.trans a b
theorem Stp.of_ex (h : Ex H H') : Stp F L H H' := ex_msk h
theorem EnvR.sub (R : EnvR K F L σ H δ) : ∀ a, a ∈ F.M ++ L → a ∈ F.B ++ L := fun a h => by
  rcases List.mem_append.mp h with h | h
  · exact List.mem_append.mpr (.inl (R.mb a h))
  · exact List.mem_append.mpr (.inr h)
/-- data goes on standing -/
theorem Stp.dat (s : Stp F L H H') (hs : ∀ a, a ∈ F.M ++ L → a ∈ F.B ++ L) {v : V} {d : PyData} (h : Rp K (Msk (F.B ++ L) H) v d) : Rp K (Msk (F.B ++ L) H') v d := Rp.mono (msk_ex s hs) d v h
theorem Stp.kvs (s : Stp F L H H') (hs : ∀ a, a ∈ F.M ++ L → a ∈ F.B ++ L) {v : List (Key × V)} {d : List (PyData × PyData)} (h : RpKV K (Msk (F.B ++ L) H) v d) : RpKV K (Msk (F.B ++ L) H') v d := RpKV.mono (msk_ex s hs) d v h
theorem Stp.all (s : Stp F L H H') (hs : ∀ a, a ∈ F.M ++ L → a ∈ F.B ++ L) {v : List V} {d : List PyData} (h : RpAll K (Msk (F.B ++ L) H) v d) : RpAll K (Msk (F.B ++ L) H') v d := RpAll.mono (msk_ex s hs) d v h
/-- all stands, more is there -/
theorem SlotR.mono {o : Option (Option V)} {e : EV} (x : Ex H H') (h : SlotR K F L H o e) : SlotR K F L H' o e := by
  cases e with
  | un => trivial
  | dat d =>
    obtain ⟨v, h1, h2⟩ := h
    exact ⟨v, h1, Rp.mono (ex_msk x) d v h2⟩
  | own ds =>
    obtain ⟨l, vs, h1, h2, h3, h4⟩ := h
    exact ⟨l, vs, h1, h2, x _ _ h3, RpAll.mono (ex_msk x) ds vs h4⟩
  | bag ds =>
    obtain ⟨l, vs, h1, h2, h3, h4⟩ := h
    exact ⟨l, vs, h1, h2, x _ _ h3, RpAll.mono (ex_msk x) ds vs h4⟩
  | odc ds =>
    obtain ⟨l, vs, h1, h2, h3, h4⟩ := h
    exact ⟨l, vs, h1, h2, x _ _ h3, RpKV.mono (ex_msk x) ds vs h4⟩
theorem ex_live (x : Ex H H') {a : Addr} (h : H a ≠ none) : H' a ≠ none := fun q => by
  cases e : H a with
  | none => exact h e
  | some o =>
    rw [x a o e] at q
    cases q
theorem EnvR.ex (x : Ex H H') (R : EnvR K F L σ H δ) : EnvR K F L σ H' δ := ⟨R.len, fun i e h => (R.at_ i e h).mono x, R.dis, fun a h => ex_live x (R.al a h), R.mb, R.lb⟩
theorem EnvR.fresh (R : EnvR K F L σ H δ) {p : Addr} (h : H p = none) : ¬ p ∈ F.B ++ L := fun q => R.al p q h
/-- a new object is data -/
theorem new_tup (hp : ¬ p ∈ S) {vs : List V} {ds : List PyData} (h : RpAll K (Msk S H) vs ds) (hn : H p = none) : Rp K (Msk S (upd H p (.tup vs))) (.ref p) (.tuple ds) := by
  refine .tup (st_of ?_) (RpAll.mono (ex_msk (Ex.new hn)) ds vs h)
  rw [msk_out hp]
  exact upd_same
theorem new_lst (hp : ¬ p ∈ S) {vs : List V} {ds : List PyData} (h : RpAll K (Msk S H) vs ds) (hn : H p = none) : Rp K (Msk S (upd H p (.lst vs))) (.ref p) (.list ds) := by
  refine .lst ?_ (RpAll.mono (ex_msk (Ex.new hn)) ds vs h)
  rw [msk_out hp]
  exact upd_same
end

section
variable {K : PySem.W.Frag}
theorem msk_congr {S T : List Addr} {H : Hp} (h : ∀ a, a ∈ S ↔ a ∈ T) : Msk S H = Msk T H := by
  funext a
  unfold Msk
  by_cases ha : a ∈ S
  · rw [if_pos ha, if_pos ((h a).mp ha)]
  · rw [if_neg ha, if_neg (fun z => ha ((h a).mpr z))]
/-- one more hidden object -/
abbrev Fm.hide (F : Fm) (D : Addr) : Fm := ⟨D :: F.B, F.M⟩
theorem hide_ex {S : List Addr} {H H' : Hp} (xH : Ex H H') {D : Addr} (hD : H D = none) : Ex (Msk S H) (Msk (D :: S) H') := fun a u e => by
  obtain ⟨h1, h2⟩ := msk_some e
  have ne : a ≠ D := ne_of_none h2 hD
  rw [msk_out (fun z => by
    rcases List.mem_cons.mp z with z | z
    · exact ne z
    · exact h1 z)]
  exact xH a u h2
theorem EnvR.hideX {F : Fm} {L : List Addr} {σ : St} {H H' : Hp} {δ : En} (R : EnvR K F L σ H δ) (xH : Ex H H') {D : Addr} (hD : H D = none) (hD' : H' D ≠ none) : EnvR K (F.hide D) L σ H' δ := by
  have x : Ex (Msk (F.B ++ L) H) (Msk ((F.hide D).B ++ L) H') := hide_ex xH hD
  refine ⟨R.len, fun i e h => ?_, R.dis, fun a ha => ?_, fun a ha => List.mem_cons_of_mem _ (R.mb a ha), fun a ha => ?_⟩
  · have := R.at_ i e h
    cases e with
    | un => trivial
    | dat d =>
      obtain ⟨v, h1, h2⟩ := this
      exact ⟨v, h1, Rp.mono x d v h2⟩
    | own ds =>
      obtain ⟨l, vs, h1, h2, h3, h4⟩ := this
      exact ⟨l, vs, h1, h2, xH _ _ h3, RpAll.mono x ds vs h4⟩
    | bag ds =>
      obtain ⟨l, vs, h1, h2, h3, h4⟩ := this
      exact ⟨l, vs, h1, h2, xH _ _ h3, RpAll.mono x ds vs h4⟩
    | odc ds =>
      obtain ⟨l, vs, h1, h2, h3, h4⟩ := this
      exact ⟨l, vs, h1, h2, xH _ _ h3, RpKV.mono x ds vs h4⟩
  · rcases List.mem_cons.mp ha with z | z
    · subst z
      exact hD'
    · exact ex_live xH (R.al a z)
  · intro z
    rcases List.mem_cons.mp z with z | z
    · subst z
      exact R.fresh hD (List.mem_append.mpr (.inr ha))
    · exact R.lb a ha z
theorem EnvR.hide {F : Fm} {L : List Addr} {σ : St} {H : Hp} {δ : En} (R : EnvR K F L σ H δ) {D : Addr} (hD : H D = none) (o : HO) : EnvR K (F.hide D) L σ (upd H D o) δ := R.hideX (Ex.new hD) hD (by rw [upd_same]; exact fun q => nomatch q)
theorem EnvR.show {F : Fm} {L : List Addr} {σ : St} {H : Hp} {δ : En} {D : Addr} (R : EnvR K (F.hide D) L σ H δ) (mb : ∀ a, a ∈ F.M → a ∈ F.B) : EnvR K F L σ H δ := by
  have x : Ex (Msk ((F.hide D).B ++ L) H) (Msk (F.B ++ L) H) := msk_sub fun a h => List.mem_cons_of_mem _ h
  refine ⟨R.len, fun i e h => ?_, R.dis, fun a ha => R.al a (List.mem_cons_of_mem _ ha), mb, fun a ha z => R.lb a ha (List.mem_cons_of_mem _ z)⟩
  have := R.at_ i e h
  cases e with
  | un => trivial
  | dat d =>
    obtain ⟨v, h1, h2⟩ := this
    exact ⟨v, h1, Rp.mono x d v h2⟩
  | own ds =>
    obtain ⟨l, vs, h1, h2, h3, h4⟩ := this
    exact ⟨l, vs, h1, h2, h3, RpAll.mono x ds vs h4⟩
  | bag ds =>
    obtain ⟨l, vs, h1, h2, h3, h4⟩ := this
    exact ⟨l, vs, h1, h2, h3, RpAll.mono x ds vs h4⟩
  | odc ds =>
    obtain ⟨l, vs, h1, h2, h3, h4⟩ := this
    exact ⟨l, vs, h1, h2, h3, RpKV.mono x ds vs h4⟩
end
/-! ### judgements -/
abbrev FE := En → Option (PyData × En)
abbrev FL := En → Option (List PyData × En)
abbrev FT := En → Option (Bool × En)
abbrev FO := En → Option (Option Int × En)
inductive Out
  | nx (δ : En) | rt (d : PyData) (δ : En) | rl (ds : List PyData) (δ : En) | bk (δ : En) | ct (δ : En)
abbrev FS := En → Option Out

def WE (K : PySem.W.Frag) (te : TE) (φ : FE) : Prop := ∀ (F : Fm) (L : List Addr) (σ : St) (H : Hp) (δ : En) (d : PyData) (δ' : En), φ δ = some (d, δ') → EnvR K F L σ H δ → ∀ Q : VK,
  (∀ v H2, Stp F L H H2 → EnvR K F L σ H2 δ' → Rp K (Msk (F.B ++ L) H2) v d → Q v H2) → te σ H Q
/-- data, or a list of one's own that is read on the spot -/
def Bo (K : PySem.W.Frag) (S : List Addr) (H : Hp) (v : V) (d : PyData) : Prop := Rp K (Msk S H) v d ∨ ∃ a vs ds, v = .ref a ∧ d = .list ds ∧ H a = some (.lst vs) ∧ RpAll K (Msk S H) vs ds
def WB (K : PySem.W.Frag) (te : TE) (φ : FE) : Prop := ∀ (F : Fm) (L : List Addr) (σ : St) (H : Hp) (δ : En) (d : PyData) (δ' : En), φ δ = some (d, δ') → EnvR K F L σ H δ → ∀ Q : VK,
  (∀ v H2, Stp F L H H2 → EnvR K F L σ H2 δ' → Bo K (F.B ++ L) H2 v d → Q v H2) → te σ H Q
/-- a new list -/
def WL (K : PySem.W.Frag) (te : TE) (φ : FL) : Prop := ∀ (F : Fm) (L : List Addr) (σ : St) (H : Hp) (δ : En) (ds : List PyData) (δ' : En), φ δ = some (ds, δ') → EnvR K F L σ H δ → ∀ Q : VK,
  (∀ p vs H2, H p = none → Stp F L H H2 → EnvR K (F.hide p) L σ H2 δ' → H2 p = some (.lst vs) → RpAll K (Msk ((F.hide p).B ++ L) H2) vs ds → Q (.ref p) H2) → te σ H Q
def WT (K : PySem.W.Frag) (tt : TT) (φ : FT) : Prop := ∀ (F : Fm) (L : List Addr) (σ : St) (H : Hp) (δ : En) (b : Bool) (δ' : En), φ δ = some (b, δ') → EnvR K F L σ H δ → ∀ Q : Bool → Hp → Prop,
  (∀ H2, Stp F L H H2 → EnvR K F L σ H2 δ' → Q b H2) → tt σ H Q
def WA (K : PySem.W.Frag) (ta : TA) (φ : FL) : Prop := ∀ (F : Fm) (L : List Addr) (σ : St) (H : Hp) (δ : En) (ds : List PyData) (δ' : En), φ δ = some (ds, δ') → EnvR K F L σ H δ → ∀ Q : List V → Hp → Prop,
  (∀ vs H2, Stp F L H H2 → EnvR K F L σ H2 δ' → RpAll K (Msk (F.B ++ L) H2) vs ds → Q vs H2) → ta σ H Q
def WO (K : PySem.W.Frag) (to : TO) (φ : FO) : Prop := ∀ (F : Fm) (L : List Addr) (σ : St) (H : Hp) (δ : En) (o : Option Int) (δ' : En), φ δ = some (o, δ') → EnvR K F L σ H δ → ∀ Q : Option Int → Hp → Prop,
  (∀ H2, Stp F L H H2 → EnvR K F L σ H2 δ' → Q o H2) → to σ H Q
structure StpS (F : Fm) (L : List Addr) (H : Hp) (L' : List Addr) (H' : Hp) : Prop where
  ex : Ex (Msk (F.M ++ L) H) (Msk (F.M ++ L) H')
  nw : ∀ a, a ∈ L' → a ∈ L ∨ H a = none
  kp : ∀ a, H a ≠ none → H' a ≠ none
/-- ws: the slots that may be stored -/
def Ok (K : PySem.W.Frag) (F : Fm) (L : List Addr) (σ : St) (ws : List Nat) (H : Hp) (D : Ends) : Out → Prop
  | .nx δ' => ∀ L' σ' H', StpS F L H L' H' → EnvR K F L' σ' H' δ' → (∀ j, ¬ j ∈ ws → σ'[j]? = σ[j]?) → D.nx σ' H'
  | .bk δ' => ∀ L' σ' H', StpS F L H L' H' → EnvR K F L' σ' H' δ' → (∀ j, ¬ j ∈ ws → σ'[j]? = σ[j]?) → D.bk σ' H'
  | .ct δ' => ∀ L' σ' H', StpS F L H L' H' → EnvR K F L' σ' H' δ' → (∀ j, ¬ j ∈ ws → σ'[j]? = σ[j]?) → D.ct σ' H'
  | .rt d δ' => ∀ L' σ' H' v, StpS F L H L' H' → EnvR K F L' σ' H' δ' → Rp K (Msk (F.B ++ L') H') v d → D.rt v H'
  | .rl ds δ' => ∀ L' σ' H' p vs, StpS F L H L' H' → EnvR K F L' σ' H' δ' → (p ∈ L ∨ H p = none) → ¬ p ∈ F.B ++ L' → H' p = some (.lst vs) → RpAll K (Msk (p :: (F.B ++ L')) H') vs ds → D.rt (.ref p) H'
def WS (K : PySem.W.Frag) (ts : TS) (ws : List Nat) (φ : FS) : Prop := ∀ (F : Fm) (L : List Addr) (σ : St) (H : Hp) (δ : En) (o : Out), φ δ = some o → EnvR K F L σ H δ → ∀ D : Ends, Ok K F L σ ws H D o → ts D σ H
end Sm
namespace Sm
open PySem L2 Evl

/-! ### expressions -/
section
variable {K : PySem.W.Frag}
def Fresh (S : List Addr) (H : Hp) : Prop := ∀ p, H p = none → ¬ p ∈ S
theorem EnvR.fr {F : Fm} {L : List Addr} {σ : St} {H : Hp} {δ : En} (R : EnvR K F L σ H δ) : Fresh (F.B ++ L) H := fun _ h => R.fresh h

def fVar (i : Nat) : FE := fun δ => match δ[i]? with
  | some (.dat d) => some (d, δ)
  | _ => none
theorem we_var {i : Nat} : WE K (tVar i) (fVar i) := fun F L σ H δ d δ' e R Q q => by
  unfold fVar at e
  split at e
  · next d0 h =>
    cases e
    obtain ⟨v, h1, h2⟩ := R.at_ i _ h
    exact ⟨v, h1, q v H Stp.refl R h2⟩
  · cases e
def fC (d : PyData) : FE := fun δ => some (d, δ)
theorem we_c {v : V} {d : PyData} (h : ∀ H, Rp K H v d) : WE K (tC v) (fC d) := fun F L σ H δ d δ' e R Q q => by
  cases e
  exact q _ H Stp.refl R (h _)
theorem we_int {i : Int} : WE K (tC (.int i)) (fC (.int i)) := we_c fun _ => .int i
theorem we_str {i : Str} : WE K (tC (.str i)) (fC (.str i)) := we_c fun _ => .str i
theorem we_bl {i : Bool} : WE K (tC (.bl i)) (fC (.bool i)) := we_c fun _ => .bl i
theorem we_non : WE K (tC .non) (fC .none) := we_c fun _ => .non
/-- a module's tuple of ints -/
def KTup (K : PySem.W.Frag) (a : Addr) (vs : List V) : Prop := ∃ (o : Obj) (its : Array Value) (n : Nat), K.lookup a = some o ∧ o.cls = .type "tuple" ∧ o.data = .seq its n ∧ its.size ≤ sizeLine ∧ Vals vs its.toList
theorem we_ktup {a : Addr} {vs : List V} {ds : List PyData} (h : KTup K a vs) (hd : ∀ H, RpAll K H vs ds) : WE K (tC (.ref a)) (fC (.tuple ds)) := we_c fun H => .tup (.inr h) (hd H)

/-- two values -/
def RD (K : PySem.W.Frag) (r : R2) (f : PyData → PyData → Option PyData) : Prop := ∀ (S : List Addr) (H : Hp) (x y : V) (a b d : PyData), f a b = some d → Rp K (Msk S H) x a → Rp K (Msk S H) y b → Fresh S H → ∀ Q : VK,
  (∀ v H2, Ex H H2 → Rp K (Msk S H2) v d → Q v H2) → r x y H Q
def fOp (f : PyData → PyData → Option PyData) (φ ψ : FE) : FE := fun δ => match φ δ with
  | some (x, δ1) => match ψ δ1 with
    | some (y, δ2) => match f x y with
      | some z => some (z, δ2)
      | none => none
    | none => none
  | none => none
theorem fOp_some {f : PyData → PyData → Option PyData} {φ ψ : FE} {δ δ' : En} {d : PyData} (e : fOp f φ ψ δ = some (d, δ')) : ∃ x δ1 y, φ δ = some (x, δ1) ∧ ψ δ1 = some (y, δ') ∧ f x y = some d := by
  unfold fOp at e
  split at e
  · next x δ1 h1 =>
    split at e
    · next y δ2 h2 =>
      split at e
      · next z h3 =>
        cases e
        exact ⟨x, δ1, y, h1, h2, h3⟩
      · cases e
    · cases e
  · cases e
theorem we_op {r : R2} {f : PyData → PyData → Option PyData} {ta tb : TE} {φ ψ : FE} (hr : RD K r f) (ha : WE K ta φ) (hb : WE K tb ψ) : WE K (tOp r ta tb) (fOp f φ ψ) := fun F L σ H δ d δ' e R Q q => by
  obtain ⟨x, δ1, y, e1, e2, e3⟩ := fOp_some e
  refine ha F L σ H δ x δ1 e1 R _ fun v H1 s1 R1 d1 => ?_
  refine hb F L σ H1 δ1 y δ' e2 R1 _ fun w H2 s2 R2 d2 => ?_
  refine hr _ H2 v w x y d e3 (s2.dat R1.sub d1) d2 R2.fr Q fun z H3 x3 d3 => ?_
  exact q z H3 ((s1.trans s2).trans (Stp.of_ex x3)) (R2.ex x3) d3
def orF (f g : PyData → PyData → Option PyData) : PyData → PyData → Option PyData := fun a b => match f a b with
  | some d => some d
  | none => g a b
theorem RD.or {r r' : R2} {f g : PyData → PyData → Option PyData} (h : RD K r f) (h' : RD K r' g) : RD K (fun x y H Q => r x y H Q ∨ r' x y H Q) (orF f g) := fun S H x y a b d e ra rb fr Q q => by
  unfold orF at e
  split at e
  · next z hz =>
    cases e
    exact .inl (h S H x y a b _ hz ra rb fr Q q)
  · exact .inr (h' S H x y a b d e ra rb fr Q q)
def fI0 (h : Int → Int → PyData) : PyData → PyData → Option PyData
  | .int i, .int j => some (h i j)
  | _, _ => none
theorem rd_I0 {g : Int → Int → V} {h : Int → Int → PyData} (hg : ∀ H i j, Rp K H (g i j) (h i j)) : RD K (rI0 g) (fI0 h) := fun S H x y a b d e ra rb fr Q q => by
  cases ra <;> cases rb <;> cases e
  exact ⟨_, _, rfl, rfl, q _ H (Ex.refl H) (hg _ _ _)⟩
def fI (c : Int → Int → Bool) (h : Int → Int → PyData) : PyData → PyData → Option PyData
  | .int i, .int j => if c i j = true then some (h i j) else none
  | _, _ => none
theorem rd_I {C : Int → Int → Prop} {c : Int → Int → Bool} {g : Int → Int → V} {h : Int → Int → PyData} (hc : ∀ i j, c i j = true → C i j) (hg : ∀ H i j, Rp K H (g i j) (h i j)) : RD K (rI C g) (fI c h) := fun S H x y a b d e ra rb fr Q q => by
  cases ra <;> cases rb <;> first | cases e | skip
  next i j =>
    have e' : (if c i j = true then some (h i j) else none) = some d := e
    by_cases z : c i j = true
    · rw [if_pos z] at e'
      cases e'
      exact ⟨_, _, rfl, rfl, hc _ _ z, q _ H (Ex.refl H) (hg _ _ _)⟩
    · rw [if_neg z] at e'
      cases e'
abbrev dAddI := fI0 fun i j => .int (i + j)
abbrev dSub := fI0 fun i j => .int (i - j)
theorem rd_add : RD K (rI0 fun i j => .int (i + j)) dAddI := rd_I0 fun _ _ _ => .int _
theorem rd_sub : RD K (rI0 fun i j => .int (i - j)) dSub := rd_I0 fun _ _ _ => .int _
abbrev dLtI := fI0 fun i j => .bool (decide (i < j))
abbrev dLeI := fI0 fun i j => .bool (decide (i ≤ j))
abbrev dGtI := fI0 fun i j => .bool (decide (j < i))
abbrev dGeI := fI0 fun i j => .bool (decide (j ≤ i))
theorem rd_lt : RD K (rI0 fun i j => .bl (decide (i < j))) dLtI := rd_I0 fun _ _ _ => .bl _
theorem rd_le : RD K (rI0 fun i j => .bl (decide (i ≤ j))) dLeI := rd_I0 fun _ _ _ => .bl _
theorem rd_gt : RD K (rI0 fun i j => .bl (decide (j < i))) dGtI := rd_I0 fun _ _ _ => .bl _
theorem rd_ge : RD K (rI0 fun i j => .bl (decide (j ≤ i))) dGeI := rd_I0 fun _ _ _ => .bl _
def cMulB (i j : Int) : Bool := decide (i.natAbs.log2 + j.natAbs.log2 < 1000000)
def cDivB (_ j : Int) : Bool := decide (0 < j) && decide (j.natAbs.log2 < 9000)
def cModB (_ j : Int) : Bool := decide (0 < j)
def cPowB (i j : Int) : Bool := decide (0 ≤ j ∧ j ≤ 1000 ∧ i.natAbs < 2 ^ 64)
abbrev dMul := fI cMulB fun i j => .int (i * j)
abbrev dDiv := fI cDivB fun i j => .int (i / j)
abbrev dMod := fI cModB fun i j => .int (i % j)
abbrev dPow := fI cPowB fun i j => .int (i ^ j.toNat)
theorem rd_mul : RD K (rI CMulW fun i j => .int (i * j)) dMul := rd_I (fun i j h => of_decide_eq_true (p := i.natAbs.log2 + j.natAbs.log2 < 1000000) h) fun _ _ _ => .int _
theorem rd_div : RD K (rI CDivW fun i j => .int (i / j)) dDiv := rd_I (fun _ _ h => by
  unfold cDivB at h
  rw [Bool.and_eq_true] at h
  exact ⟨of_decide_eq_true h.1, of_decide_eq_true h.2⟩) fun _ _ _ => .int _
theorem rd_mod : RD K (rI (fun _ j => 0 < j) fun i j => .int (i % j)) dMod := rd_I (fun _ _ h => of_decide_eq_true h) fun _ _ _ => .int _
theorem rd_pow : RD K (rI CPow fun i j => .int (i ^ j.toNat)) dPow := rd_I (fun _ j h => by
  have h' := of_decide_eq_true h
  exact ⟨h'.1, by omega, h'.2.2⟩) fun _ _ _ => .int _
/-- texts -/
def fS0 (h : Str → Str → PyData) : PyData → PyData → Option PyData
  | .str i, .str j => some (h i j)
  | _, _ => none
theorem rd_ltS : RD K (fun x y H Q => ∃ i j, x = .str i ∧ y = .str j ∧ Q (.bl (decide (i.cps.toList < j.cps.toList))) H) (fS0 fun i j => .bool (decide (i.cps.toList < j.cps.toList))) := fun S H x y a b d e ra rb fr Q q => by
  cases ra <;> cases rb <;> cases e
  exact ⟨_, _, rfl, rfl, q _ H (Ex.refl H) (.bl _)⟩
theorem rd_leS : RD K (fun x y H Q => ∃ i j, x = .str i ∧ y = .str j ∧ Q (.bl (!decide (j.cps.toList < i.cps.toList))) H) (fS0 fun i j => .bool (!decide (j.cps.toList < i.cps.toList))) := fun S H x y a b d e ra rb fr Q q => by
  cases ra <;> cases rb <;> cases e
  exact ⟨_, _, rfl, rfl, q _ H (Ex.refl H) (.bl _)⟩
def dCatS : PyData → PyData → Option PyData
  | .str i, .str j => if i.length + j.length ≤ 100000 then some (.str (i ++ j)) else none
  | _, _ => none
theorem rd_catS : RD K (fun x y H Q => ∃ i j, x = .str i ∧ y = .str j ∧ i.length + j.length ≤ sizeLine ∧ Q (.str (i ++ j)) H) dCatS := fun S H x y a b d e ra rb fr Q q => by
  cases ra <;> cases rb <;> first | cases e | skip
  next i j =>
    unfold dCatS at e
    by_cases z : i.length + j.length ≤ 100000
    · simp only [z, if_true] at e
      cases e
      exact ⟨_, _, rfl, rfl, sz_of z, q _ H (Ex.refl H) (.str _)⟩
    · simp only [z, if_false] at e
      cases e
def dCatL : PyData → PyData → Option PyData
  | .list xs, .list ys => if xs.length + ys.length ≤ 100000 then some (.list (xs ++ ys)) else none
  | _, _ => none
theorem rd_catL : RD K rCat dCatL := fun S H x y a b d e ra rb fr Q q => by
  cases ra <;> cases rb <;> first | cases e | skip
  next l vs ds h1 r1 l' vs' ds' h2 r2 =>
    unfold dCatL at e
    by_cases z : ds.length + ds'.length ≤ 100000
    · simp only [z, if_true] at e
      cases e
      refine ⟨l, l', vs, vs', rfl, rfl, (msk_some h1).2, (msk_some h2).2, sz_of (by rw [r1.len, r2.len]; exact z), fun p hp => ?_⟩
      exact q _ _ (Ex.new hp) (new_lst (fr p hp) (r1.app r2) hp)
    · simp only [z, if_false] at e
      cases e
def dCatT : PyData → PyData → Option PyData
  | .tuple xs, .tuple ys => if xs.length + ys.length ≤ 100000 then some (.tuple (xs ++ ys)) else none
  | _, _ => none
theorem rd_catT : RD K (rCatA K) dCatT := fun S H x y a b d e ra rb fr Q q => by
  cases ra <;> cases rb <;> first | cases e | skip
  next l vs ds h1 r1 l' vs' ds' h2 r2 =>
    unfold dCatT at e
    by_cases z : ds.length + ds'.length ≤ 100000
    · simp only [z, if_true] at e
      cases e
      refine ⟨l, l', vs, vs', rfl, rfl, ex_t msk_le h1, ex_t msk_le h2, sz_of (by rw [r1.len, r2.len]; exact z), ?_, ?_, ?_⟩
      · intro e0
        subst e0
        cases r1
        exact q _ H (Ex.refl H) (.tup h2 r2)
      · intro _ e0
        subst e0
        cases r2
        rw [List.append_nil] at q
        exact q _ H (Ex.refl H) (.tup h1 r1)
      · intro _ _ p hp
        exact q _ _ (Ex.new hp) (new_tup (fr p hp) (r1.app r2) hp)
    · simp only [z, if_false] at e
      cases e
/-- + of all kinds -/
abbrev rAddA (K : PySem.W.Frag) : R2 := fun x y H Q => rI0 (fun i j => .int (i + j)) x y H Q ∨ ((∃ i j, x = .str i ∧ y = .str j ∧ i.length + j.length ≤ sizeLine ∧ Q (.str (i ++ j)) H) ∨ (rCat x y H Q ∨ rCatA K x y H Q))
abbrev dAdd := orF dAddI (orF dCatS (orF dCatL dCatT))
theorem op_addA {X : Cx} : OpR X (binaryOp .Add) (rAddA X.K) := op_add.or (op_add_str.or (op_cat.or op_catA))
theorem rd_addA : RD K (rAddA K) dAdd := rd_add.or (rd_catS.or (rd_catL.or rd_catT))
abbrev rLtA : R2 := fun x y H Q => rI0 (fun i j => .bl (decide (i < j))) x y H Q ∨ (∃ i j, x = .str i ∧ y = .str j ∧ Q (.bl (decide (i.cps.toList < j.cps.toList))) H)
abbrev dLt := orF dLtI (fS0 fun i j => .bool (decide (i.cps.toList < j.cps.toList)))
theorem op_ltA {X : Cx} : OpR X (compareOp .Lt) rLtA := op_lt.or op_lt_str
theorem rd_ltA : RD K rLtA dLt := rd_lt.or rd_ltS
abbrev rLeA : R2 := fun x y H Q => rI0 (fun i j => .bl (decide (i ≤ j))) x y H Q ∨ (∃ i j, x = .str i ∧ y = .str j ∧ Q (.bl (!decide (j.cps.toList < i.cps.toList))) H)
abbrev dLe := orF dLeI (fS0 fun i j => .bool (!decide (j.cps.toList < i.cps.toList)))
theorem op_leA {X : Cx} : OpR X (compareOp .LtE) rLeA := op_le.or op_le_str
theorem rd_leA : RD K rLeA dLe := rd_le.or rd_leS
/-- == -/
def scD : PyData → PyData → Option Bool
  | .int i, .int j => some (decide (i = j))
  | .bool i, .bool j => some (decide (i = j))
  | .str i, .str j => some (decide (i = j))
  | .none, .none => some true
  | _, _ => none
def dEqS (a b : PyData) : Option PyData := (scD a b).map .bool
def dNeS (a b : PyData) : Option PyData := (scD a b).map fun x => .bool (!x)
theorem rd_eqS : RD K rEq dEqS := fun S H x y a b d e ra rb fr Q q => by
  cases ra <;> cases rb <;> first | (cases e; done) | skip
  all_goals (cases e; refine ⟨rfl, ?_⟩)
  · exact q _ H (Ex.refl H) (.bl _)
  · rw [show ∀ i j : Bool, decide (V.bl i = V.bl j) = decide (i = j) from fun i j => by rw [Bool.eq_iff_iff]; simp]
    exact q _ H (Ex.refl H) (.bl _)
  · rw [show ∀ i j : Int, decide (V.int i = V.int j) = decide (i = j) from fun i j => by rw [Bool.eq_iff_iff]; simp]
    exact q _ H (Ex.refl H) (.bl _)
  · rw [show ∀ i j : Str, decide (V.str i = V.str j) = decide (i = j) from fun i j => by rw [Bool.eq_iff_iff]; simp]
    exact q _ H (Ex.refl H) (.bl _)
theorem rd_neS : RD K rNe dNeS := fun S H x y a b d e ra rb fr Q q => by
  cases ra <;> cases rb <;> first | (cases e; done) | skip
  all_goals (cases e; refine ⟨rfl, ?_⟩)
  · exact q _ H (Ex.refl H) (.bl _)
  · rw [show ∀ i j : Bool, decide (V.bl i = V.bl j) = decide (i = j) from fun i j => by rw [Bool.eq_iff_iff]; simp]
    exact q _ H (Ex.refl H) (.bl _)
  · rw [show ∀ i j : Int, decide (V.int i = V.int j) = decide (i = j) from fun i j => by rw [Bool.eq_iff_iff]; simp]
    exact q _ H (Ex.refl H) (.bl _)
  · rw [show ∀ i j : Str, decide (V.str i = V.str j) = decide (i = j) from fun i j => by rw [Bool.eq_iff_iff]; simp]
    exact q _ H (Ex.refl H) (.bl _)
def dEqD (a b : PyData) : Option PyData := if SeqAt.shaped a = true ∧ SeqAt.shaped b = true then some (.bool (PyData.eqv a b)) else none
def dNeD (a b : PyData) : Option PyData := if SeqAt.shaped a = true ∧ SeqAt.shaped b = true then some (.bool (!PyData.eqv a b)) else none
theorem rd_eqD : RD K (rEqD K) dEqD := fun S H x y a b d e ra rb fr Q q => by
  unfold dEqD at e
  by_cases z : SeqAt.shaped a = true ∧ SeqAt.shaped b = true
  · rw [if_pos z] at e
    cases e
    exact ⟨a, b, Rp.dp a x (SeqAt.canLay_of_shaped z.1) (Rp.mono msk_le a x ra), Rp.dp b y (SeqAt.canLay_of_shaped z.2) (Rp.mono msk_le b y rb), z.1, z.2, q _ H (Ex.refl H) (.bl _)⟩
  · rw [if_neg z] at e
    cases e
theorem rd_neD : RD K (rNeD K) dNeD := fun S H x y a b d e ra rb fr Q q => by
  unfold dNeD at e
  by_cases z : SeqAt.shaped a = true ∧ SeqAt.shaped b = true
  · rw [if_pos z] at e
    cases e
    exact ⟨a, b, Rp.dp a x (SeqAt.canLay_of_shaped z.1) (Rp.mono msk_le a x ra), Rp.dp b y (SeqAt.canLay_of_shaped z.2) (Rp.mono msk_le b y rb), z.1, z.2, q _ H (Ex.refl H) (.bl _)⟩
  · rw [if_neg z] at e
    cases e
abbrev rEqA (K : PySem.W.Frag) : R2 := fun x y H Q => rEq x y H Q ∨ rEqD K x y H Q
abbrev rNeA (K : PySem.W.Frag) : R2 := fun x y H Q => rNe x y H Q ∨ rNeD K x y H Q
abbrev dEq := orF dEqS dEqD
abbrev dNe := orF dNeS dNeD
theorem op_eqA {X : Cx} (hu : X.A.units + 64 < cLine) : OpR X (compareOp .Eq) (rEqA X.K) := op_eq.or (op_eqD hu)
theorem op_neA {X : Cx} (hu : X.A.units + 64 < cLine) : OpR X (compareOp .NotEq) (rNeA X.K) := op_ne.or (op_neD hu)
theorem rd_eqA : RD K (rEqA K) dEq := rd_eqS.or rd_eqD
theorem rd_neA : RD K (rNeA K) dNe := rd_neS.or rd_neD
/-- in, flat -/
def flatD : PyData → Bool
  | .none => true
  | .bool _ => true
  | .int _ => true
  | .str _ => true
  | _ => false
theorem flat_of {S : List Addr} {H : Hp} {v : V} {d : PyData} (h : Rp K (Msk S H) v d) (f : flatD d = true) : flatV v = true := by
  cases h <;> first | rfl | cases f
theorem flat_all {H : Hp} : ∀ {vs : List V} {ds : List PyData}, RpAll K H vs ds → ds.all flatD = true → vs.all flatV = true
  | _, [], h, _ => by cases h; rfl
  | _, d :: ds, h, f => by
    cases h with
    | cons h1 h2 =>
      rw [List.all_cons, Bool.and_eq_true] at f
      rw [List.all_cons, Bool.and_eq_true]
      refine ⟨?_, flat_all h2 f.2⟩
      cases h1 <;> first | rfl | exact absurd f.1 Bool.false_ne_true
theorem eqV_of {H : Hp} {v w : V} {d e : PyData} (h : Rp K H v d) (h' : Rp K H w e) (f : flatD d = true) (f' : flatD e = true) : eqV v w = PyData.eqv d e := by
  cases h <;> cases h' <;> first | rfl | cases f | cases f'
theorem inV_of {H : Hp} {x : V} {c : PyData} (hx : Rp K H x c) (fx : flatD c = true) : ∀ {vs : List V} {ds : List PyData}, RpAll K H vs ds → ds.all flatD = true → inV x vs = ds.any fun d => PyData.eqv d c
  | _, [], h, _ => by cases h; rfl
  | _, d :: ds, h, f => by
    cases h with
    | cons h1 h2 =>
      rw [List.all_cons, Bool.and_eq_true] at f
      show (eqV _ x || inV x _) = (PyData.eqv d c || ds.any fun d => PyData.eqv d c)
      rw [eqV_of h1 hx f.1 fx, inV_of hx fx h2 f.2]
def seqOf : PyData → Option (List PyData)
  | .list ds => some ds
  | .tuple ds => some ds
  | _ => none
def dIn (neg : Bool) (a b : PyData) : Option PyData := match seqOf b with
  | some ds => if flatD a = true ∧ ds.all flatD = true then some (.bool (if neg then !(ds.any fun d => PyData.eqv d a) else ds.any fun d => PyData.eqv d a)) else none
  | none => none
theorem seq_rd {S : List Addr} {H : Hp} {v : V} {d : PyData} {ds : List PyData} (h : Rp K (Msk S H) v d) (e : seqOf d = some ds) : ∃ p vs, v = .ref p ∧ (SqL K H p vs ∨ SqT K H p vs) ∧ RpAll K (Msk S H) vs ds := by
  cases h <;> cases e
  · next l vs h1 r => exact ⟨l, vs, rfl, .inl (sq_of (msk_some h1).2), r⟩
  · next l vs h1 r => exact ⟨l, vs, rfl, .inr (ex_t msk_le h1), r⟩
theorem rd_in {neg : Bool} : RD K (rIn K neg) (dIn neg) := fun S H x y a b d e ra rb fr Q q => by
  unfold dIn at e
  split at e
  · next ds hs =>
    by_cases z : flatD a = true ∧ ds.all flatD = true
    · rw [if_pos z] at e
      cases e
      obtain ⟨p, vs, rfl, h1, h2⟩ := seq_rd rb hs
      refine ⟨p, vs, rfl, h1, flat_of ra z.1, flat_all h2 z.2, ?_⟩
      rw [inV_of ra z.1 h2 z.2]
      exact q _ H (Ex.refl H) (.bl _)
    · rw [if_neg z] at e
      cases e
  · cases e
/-- x[i] -/
def dIx : PyData → PyData → Option PyData
  | .list ds, .int i => atI ds i
  | .tuple ds, .int i => atI ds i
  | .dict ((.none, _) :: kvs), .int i => atI (kvs.map (·.1)) i
  | .str z, .int i => if z.length ≤ 100000 then (atI z.cps.toList i).map fun c => .str ⟨#[c]⟩ else none
  | _, _ => none
theorem atI_of {H : Hp} {vs : List V} {ds : List PyData} (r : RpAll K H vs ds) {i : Int} {d : PyData} (e : atI ds i = some d) : ∃ v, atI vs i = some v ∧ Rp K H v d := by
  unfold atI at e ⊢
  rw [r.len]
  cases h : ixN ds.length i with
  | none =>
    rw [h] at e
    cases e
  | some j =>
    rw [h] at e
    exact r.get j d e
theorem dIx_dic {H : Hp} {ks : List (Key × V)} {ds : List (PyData × PyData)} (h : RpKV K H ks ds) (b : PyData) : dIx (.dict ds) b = none := by
  cases h with
  | nil => cases b <;> rfl
  | @cons k _ _ _ _ _ _ => cases k <;> cases b <;> rfl
theorem rd_ix : RD K (rIx K) dIx := fun S H x y a b d e ra rb fr Q q => by
  cases ra <;> cases rb <;> first | (cases e; done) | skip
  · next z i =>
    unfold dIx at e
    by_cases hz : z.length ≤ 100000
    · simp only [hz, if_true] at e
      cases hc : atI z.cps.toList i with
      | none =>
        rw [hc] at e
        cases e
      | some c =>
        rw [hc] at e
        cases e
        exact .inr (.inr ⟨z, i, c, rfl, rfl, sz_of hz, hc, q _ H (Ex.refl H) (.str _)⟩)
    · simp only [hz, if_false] at e
      cases e
  · next l vs ds h1 r i =>
    obtain ⟨v, hv, rv⟩ := atI_of r e
    exact .inl ⟨l, vs, i, v, rfl, rfl, sq_of (msk_some h1).2, hv, q v H (Ex.refl H) rv⟩
  · next l vs ds h1 r i =>
    obtain ⟨v, hv, rv⟩ := atI_of r e
    exact .inr (.inl ⟨l, vs, i, v, rfl, rfl, ex_t msk_le h1, hv, q v H (Ex.refl H) rv⟩)
  · next l ns h1 i =>
    have e' : atI ((ns.map fun n => (PyData.int n, PyData.none)).map (·.1)) i = some d := e
    rw [List.map_map] at e'
    obtain ⟨v, hv, rv⟩ := atI_of (K := K) (H := Msk S H) (RpAll.of_ints ns) e'
    exact .inl ⟨l, _, i, v, rfl, rfl, ex_l msk_le h1, hv, q v H (Ex.refl H) rv⟩
  all_goals (rw [dIx_dic (by assumption)] at e; cases e)
/-- -x -/
def fUn (f : PyData → Option PyData) (φ : FE) : FE := fun δ => match φ δ with
  | some (x, δ1) => match f x with
    | some z => some (z, δ1)
    | none => none
  | none => none
theorem fUn_some {f : PyData → Option PyData} {φ : FE} {δ δ' : En} {d : PyData} (e : fUn f φ δ = some (d, δ')) : ∃ x, φ δ = some (x, δ') ∧ f x = some d := by
  unfold fUn at e
  split at e
  · next x δ1 h1 =>
    split at e
    · next z h2 =>
      cases e
      exact ⟨x, h1, h2⟩
    · cases e
  · cases e
def dNeg : PyData → Option PyData
  | .int i => some (.int (-i))
  | _ => none
theorem we_neg {ta : TE} {φ : FE} (ha : WE K ta φ) : WE K (tUn (rU fun i => .int (-i)) ta) (fUn dNeg φ) := fun F L σ H δ d δ' e R Q q => by
  obtain ⟨x, e1, e2⟩ := fUn_some e
  refine ha F L σ H δ x δ' e1 R _ fun v H1 s1 R1 d1 => ?_
  cases d1 <;> cases e2
  exact ⟨_, rfl, q _ H1 s1 R1 (.int _)⟩
/-- displays, arguments -/
def fNil : FL := fun δ => some ([], δ)
def fCons (φ : FE) (ψ : FL) : FL := fun δ => match φ δ with
  | some (x, δ1) => match ψ δ1 with
    | some (xs, δ2) => some (x :: xs, δ2)
    | none => none
  | none => none
theorem fCons_some {φ : FE} {ψ : FL} {δ δ' : En} {ds : List PyData} (e : fCons φ ψ δ = some (ds, δ')) : ∃ x δ1 xs, φ δ = some (x, δ1) ∧ ψ δ1 = some (xs, δ') ∧ ds = x :: xs := by
  unfold fCons at e
  split at e
  · next x δ1 h1 =>
    split at e
    · next xs δ2 h2 =>
      cases e
      exact ⟨x, δ1, xs, h1, h2, rfl⟩
    · cases e
  · cases e
theorem wa_nil : WA K tNil fNil := fun F L σ H δ d δ' e R Q q => by
  cases e
  exact q [] H Stp.refl R .nil
theorem wa_cons {ta : TE} {tr : TA} {φ : FE} {ψ : FL} (ha : WE K ta φ) (hr : WA K tr ψ) : WA K (tCons ta tr) (fCons φ ψ) := fun F L σ H δ d δ' e R Q q => by
  obtain ⟨x, δ1, xs, e1, e2, rfl⟩ := fCons_some e
  refine ha F L σ H δ x δ1 e1 R _ fun v H1 s1 R1 d1 => ?_
  refine hr F L σ H1 δ1 xs δ' e2 R1 _ fun vs H2 s2 R2 d2 => ?_
  exact q _ H2 (s1.trans s2) R2 (.cons (s2.dat R1.sub d1) d2)
def fTup (φ : FL) : FE := fun δ => match φ δ with
  | some (xs, δ1) => if xs.length ≤ 100000 then some (.tuple xs, δ1) else none
  | none => none
theorem we_tup {ta : TA} {φ : FL} (ha : WA K ta φ) : WE K (tTup ta) (fTup φ) := fun F L σ H δ d δ' e R Q q => by
  unfold fTup at e
  split at e
  · next xs δ1 h1 =>
    by_cases z : xs.length ≤ 100000
    · rw [if_pos z] at e
      cases e
      refine ha F L σ H δ xs _ h1 R _ fun vs H1 s1 R1 d1 => ⟨sz_of (by rw [d1.len]; exact z), fun p hp => ?_⟩
      exact q _ _ (s1.trans (Stp.of_ex (Ex.new hp))) (R1.ex (Ex.new hp)) (new_tup (R1.fresh hp) d1 hp)
    · rw [if_neg z] at e
      cases e
  · cases e
def fLst (φ : FL) : FL := fun δ => match φ δ with
  | some (xs, δ1) => if xs.length ≤ 100000 then some (xs, δ1) else none
  | none => none
theorem new_live {F : Fm} {L : List Addr} {σ : St} {H H1 : Hp} {δ δ1 : En} (R : EnvR K F L σ H δ) (R1 : EnvR K F L σ H1 δ1) (s : Stp F L H H1) {p : Addr} (hp : H1 p = none) : H p = none := by
  cases h : H p with
  | none => rfl
  | some o =>
    exfalso
    by_cases hm : p ∈ F.M ++ L
    · exact R1.fresh hp (R.sub p hm)
    · have := s p o (by rw [msk_out hm]; exact h)
      rw [msk_out hm, hp] at this
      cases this
theorem wl_lst {ta : TA} {φ : FL} (ha : WA K ta φ) : WL K (tLst ta) (fLst φ) := fun F L σ H δ d δ' e R Q q => by
  unfold fLst at e
  split at e
  · next xs δ1 h1 =>
    by_cases z : xs.length ≤ 100000
    · rw [if_pos z] at e
      cases e
      refine ha F L σ H δ d _ h1 R _ fun vs H1 s1 R1 d1 => ⟨sz_of (by rw [d1.len]; exact z), fun p hp => ?_⟩
      exact q p vs _ (new_live R R1 s1 hp) (s1.trans (Stp.of_ex (Ex.new hp))) (R1.hide hp _) upd_same (RpAll.mono (hide_ex (Ex.new hp) hp) _ _ d1)
    · rw [if_neg z] at e
      cases e
  · cases e
/-- a new list as data -/
def fOfL (φ : FL) : FE := fun δ => match φ δ with
  | some (xs, δ1) => some (.list xs, δ1)
  | none => none
theorem WL.we {te : TE} {φ : FL} (h : WL K te φ) : WE K te (fOfL φ) := fun F L σ H δ d δ' e R Q q => by
  unfold fOfL at e
  split at e
  · next xs δ1 h1 =>
    cases e
    refine h F L σ H δ xs _ h1 R _ fun p vs H2 hp s R2 h2 d2 => ?_
    refine q _ H2 s (R2.show R.mb) (.lst ?_ (RpAll.mono (msk_sub fun a h => List.mem_cons_of_mem _ h) _ _ d2))
    rw [msk_out (R.fresh hp)]
    exact h2
  · cases e
/-- tests, and, or, not, if -/
def fTest (φ : FE) : FT := fun δ => match φ δ with
  | some (.bool b, δ1) => some (b, δ1)
  | _ => none
theorem wt_test {te : TE} {φ : FE} (h : WE K te φ) : WT K (tTest te) (fTest φ) := fun F L σ H δ d δ' e R Q q => by
  unfold fTest at e
  split at e
  · next b δ1 h1 =>
    cases e
    refine h F L σ H δ _ _ h1 R _ fun v H1 s1 R1 d1 => ?_
    cases d1
    exact ⟨_, rfl, q H1 s1 R1⟩
  · cases e
theorem wt_B {te : TE} {φ : FE} (h : WE K te φ) : WT K (tB te) (fTest φ) := wt_test h
def fAnd (φ ψ : FT) : FT := fun δ => match φ δ with
  | some (true, δ1) => ψ δ1
  | some (false, δ1) => some (false, δ1)
  | none => none
def fOr (φ ψ : FT) : FT := fun δ => match φ δ with
  | some (true, δ1) => some (true, δ1)
  | some (false, δ1) => ψ δ1
  | none => none
def fNot (φ : FT) : FT := fun δ => match φ δ with
  | some (b, δ1) => some (!b, δ1)
  | none => none
theorem wt_and {t u : TT} {φ ψ : FT} (h : WT K t φ) (h' : WT K u ψ) : WT K (tAnd t u) (fAnd φ ψ) := fun F L σ H δ d δ' e R Q q => by
  unfold fAnd at e
  split at e
  · next δ1 h1 =>
    refine h F L σ H δ true δ1 h1 R _ fun H1 s1 R1 => ?_
    rw [if_pos rfl]
    exact h' F L σ H1 δ1 d δ' e R1 _ fun H2 s2 R2 => q H2 (s1.trans s2) R2
  · next δ1 h1 =>
    cases e
    refine h F L σ H δ false _ h1 R _ fun H1 s1 R1 => ?_
    rw [if_neg Bool.false_ne_true]
    exact q H1 s1 R1
  · cases e
theorem wt_or {t u : TT} {φ ψ : FT} (h : WT K t φ) (h' : WT K u ψ) : WT K (tOr t u) (fOr φ ψ) := fun F L σ H δ d δ' e R Q q => by
  unfold fOr at e
  split at e
  · next δ1 h1 =>
    cases e
    refine h F L σ H δ true _ h1 R _ fun H1 s1 R1 => ?_
    rw [if_pos rfl]
    exact q H1 s1 R1
  · next δ1 h1 =>
    refine h F L σ H δ false δ1 h1 R _ fun H1 s1 R1 => ?_
    rw [if_neg Bool.false_ne_true]
    exact h' F L σ H1 δ1 d δ' e R1 _ fun H2 s2 R2 => q H2 (s1.trans s2) R2
  · cases e
theorem wt_not {t : TT} {φ : FT} (h : WT K t φ) : WT K (tNot t) (fNot φ) := fun F L σ H δ d δ' e R Q q => by
  unfold fNot at e
  split at e
  · next b δ1 h1 =>
    cases e
    exact h F L σ H δ _ _ h1 R _ fun H1 s1 R1 => q H1 s1 R1
  · cases e
def fBool (φ : FT) : FE := fun δ => match φ δ with
  | some (b, δ1) => some (.bool b, δ1)
  | none => none
theorem we_andV {ta tb : TE} {φ ψ : FE} (h : WE K ta φ) (h' : WE K tb ψ) : WE K (tAndV ta tb) (fBool (fAnd (fTest φ) (fTest ψ))) := fun F L σ H δ d δ' e R Q q => by
  unfold fBool at e
  split at e
  · next b δ1 h1 =>
    cases e
    unfold fAnd at h1
    split at h1
    · next δ2 h2 =>
      unfold fTest at h2
      split at h2
      · next b2 δ3 h3 =>
        cases h2
        refine h F L σ H δ _ _ h3 R _ fun v H1 s1 R1 d1 => ?_
        cases d1
        refine ⟨true, rfl, ?_⟩
        rw [if_pos rfl]
        unfold fTest at h1
        split at h1
        · next b4 δ4 h4 =>
          cases h1
          exact h' F L σ H1 _ _ _ h4 R1 _ fun w H2 s2 R2 d2 => q w H2 (s1.trans s2) R2 d2
        · cases h1
      · cases h2
    · next δ2 h2 =>
      cases h1
      unfold fTest at h2
      split at h2
      · next b2 δ3 h3 =>
        cases h2
        refine h F L σ H δ _ _ h3 R _ fun v H1 s1 R1 d1 => ?_
        cases d1
        refine ⟨false, rfl, ?_⟩
        rw [if_neg Bool.false_ne_true]
        exact q _ H1 s1 R1 (.bl _)
      · cases h2
    · cases h1
  · cases e
theorem we_notV {ta : TE} {φ : FE} (h : WE K ta φ) : WE K (tNotV ta) (fBool (fNot (fTest φ))) := fun F L σ H δ d δ' e R Q q => by
  unfold fBool at e
  split at e
  · next b δ1 h1 =>
    cases e
    unfold fNot at h1
    split at h1
    · next b2 δ2 h2 =>
      cases h1
      unfold fTest at h2
      split at h2
      · next b3 δ3 h3 =>
        cases h2
        refine h F L σ H δ _ _ h3 R _ fun v H1 s1 R1 d1 => ?_
        cases d1
        exact ⟨_, rfl, q _ H1 s1 R1 (.bl _)⟩
      · cases h2
    · cases h1
  · cases e
def fIf (φ : FT) (ψ χ : FE) : FE := fun δ => match φ δ with
  | some (true, δ1) => ψ δ1
  | some (false, δ1) => χ δ1
  | none => none
theorem we_if {t : TT} {ta tb : TE} {φ : FT} {ψ χ : FE} (h : WT K t φ) (h1 : WE K ta ψ) (h2 : WE K tb χ) : WE K (tIf t ta tb) (fIf φ ψ χ) := fun F L σ H δ d δ' e R Q q => by
  unfold fIf at e
  split at e
  · next δ1 e1 =>
    refine h F L σ H δ true δ1 e1 R _ fun H1 s1 R1 => ?_
    rw [if_pos rfl]
    exact h1 F L σ H1 δ1 d δ' e R1 _ fun v H2 s2 R2 d2 => q v H2 (s1.trans s2) R2 d2
  · next δ1 e1 =>
    refine h F L σ H δ false δ1 e1 R _ fun H1 s1 R1 => ?_
    rw [if_neg Bool.false_ne_true]
    exact h2 F L σ H1 δ1 d δ' e R1 _ fun v H2 s2 R2 d2 => q v H2 (s1.trans s2) R2 d2
  · cases e
/-- a < b < c -/
def fChain (f g : PyData → PyData → Option PyData) (φ ψ χ : FE) : FE := fun δ => match φ δ with
  | some (x, δ1) => match ψ δ1 with
    | some (y, δ2) => match f x y with
      | some (.bool true) => match χ δ2 with
        | some (z, δ3) => match g y z with
          | some (.bool b) => some (.bool b, δ3)
          | _ => none
        | none => none
      | some (.bool false) => some (.bool false, δ2)
      | _ => none
    | none => none
  | none => none
theorem we_chain {r r' : R2} {f g : PyData → PyData → Option PyData} {ta tb tc : TE} {φ ψ χ : FE} (hr : RD K r f) (hr' : RD K r' g) (ha : WE K ta φ) (hb : WE K tb ψ) (hc : WE K tc χ) : WE K (tChain r r' ta tb tc) (fChain f g φ ψ χ) := fun F L σ H δ d δ' e R Q q => by
  unfold fChain at e
  split at e
  · next x δ1 e1 =>
    split at e
    · next y δ2 e2 =>
      refine ha F L σ H δ x δ1 e1 R _ fun v H1 s1 R1 d1 => ?_
      refine hb F L σ H1 δ1 y δ2 e2 R1 _ fun w H2 s2 R2 d2 => ?_
      split at e
      · next e3 =>
        refine hr _ H2 v w x y _ e3 (s2.dat R1.sub d1) d2 R2.fr _ fun z H3 x3 d3 => ?_
        cases d3
        refine ⟨true, rfl, ?_⟩
        rw [if_pos rfl]
        split at e
        · next z δ3 e4 =>
          refine hc F L σ H3 δ2 z δ3 e4 (R2.ex x3) _ fun u H4 s4 R4 d4 => ?_
          split at e
          · next b e5 =>
            cases e
            refine hr' _ H4 w u y z _ e5 (s4.dat R1.sub (Rp.mono (ex_msk x3) _ _ d2)) d4 R4.fr _ fun t H5 x5 d5 => ?_
            exact q t H5 ((((s1.trans s2).trans (Stp.of_ex x3)).trans s4).trans (Stp.of_ex x5)) (R4.ex x5) d5
          · cases e
        · cases e
      · next e3 =>
        cases e
        refine hr _ H2 v w x y _ e3 (s2.dat R1.sub d1) d2 R2.fr _ fun z H3 x3 d3 => ?_
        cases d3
        refine ⟨false, rfl, ?_⟩
        rw [if_neg Bool.false_ne_true]
        exact q _ H3 ((s1.trans s2).trans (Stp.of_ex x3)) (R2.ex x3) (.bl _)
      · cases e
    · cases e
  · cases e
end
end Sm
namespace Sm
open PySem L2 Evl

section
variable {K : PySem.W.Frag}
/-! ### built-in calls -/
/-- one argument, that may be a list of one's own -/
def R1 (K : PySem.W.Frag) (r : List V → Hp → VK → Prop) (f : PyData → Option PyData) : Prop := ∀ (S : List Addr) (H : Hp) (x : V) (a d : PyData), f a = some d → Bo K S H x a → Fresh S H → ∀ Q : VK,
  (∀ v H2, Ex H H2 → Rp K (Msk S H2) v d → Q v H2) → r [x] H Q
def R1L (K : PySem.W.Frag) (r : List V → Hp → VK → Prop) (f : PyData → Option (List PyData)) : Prop := ∀ (S : List Addr) (H : Hp) (x : V) (a : PyData) (ds : List PyData), f a = some ds → Bo K S H x a → Fresh S H → ∀ Q : VK,
  (∀ p vs H2, H p = none → Ex H H2 → H2 p = some (.lst vs) → RpAll K (Msk (p :: S) H2) vs ds → Q (.ref p) H2) → r [x] H Q
def R1.or {r r' : List V → Hp → VK → Prop} {f g : PyData → Option PyData} (h : R1 K r f) (h' : R1 K r' g) : R1 K (fun xs H Q => r xs H Q ∨ r' xs H Q) (fun a => match f a with
    | some d => some d
    | none => g a) := fun S H x a d e b fr Q q => by
  dsimp only at e
  split at e
  · next z hz =>
    cases e
    exact .inl (h S H x a _ hz b fr Q q)
  · exact .inr (h' S H x a d e b fr Q q)
theorem WE.wb {te : TE} {φ : FE} (h : WE K te φ) : WB K te φ := fun F L σ H δ d δ' e R Q q => h F L σ H δ d δ' e R Q fun v H2 s R2 d2 => q v H2 s R2 (.inl d2)
def fVarB (i : Nat) : FE := fun δ => match δ[i]? with
  | some (.dat d) => some (d, δ)
  | some (.own ds) => some (.list ds, δ)
  | some (.bag ds) => some (.list ds, δ)
  | _ => none
theorem wb_var {i : Nat} : WB K (tVar i) (fVarB i) := fun F L σ H δ d δ' e R Q q => by
  unfold fVarB at e
  split at e
  · next d0 h =>
    cases e
    obtain ⟨v, h1, h2⟩ := R.at_ i _ h
    exact ⟨v, h1, q v H Stp.refl R (.inl h2)⟩
  · next ds h =>
    cases e
    obtain ⟨l, vs, h1, h2, h3, h4⟩ := R.at_ i _ h
    exact ⟨_, h1, q _ H Stp.refl R (.inr ⟨l, vs, ds, rfl, rfl, h3, h4⟩)⟩
  · next ds h =>
    cases e
    obtain ⟨l, vs, h1, h2, h3, h4⟩ := R.at_ i _ h
    exact ⟨_, h1, q _ H Stp.refl R (.inr ⟨l, vs, ds, rfl, rfl, h3, h4⟩)⟩
  · cases e
theorem we_c1 {r : List V → Hp → VK → Prop} {f : PyData → Option PyData} {te : TE} {φ : FE} (hr : R1 K r f) (h : WB K te φ) : WE K (tCB r (tCons te tNil)) (fUn f φ) := fun F L σ H δ d δ' e R Q q => by
  obtain ⟨x, e1, e2⟩ := fUn_some e
  refine h F L σ H δ x δ' e1 R _ fun v H1 s1 R1 b1 => ?_
  exact hr _ H1 v x d e2 b1 R1.fr Q fun w H2 x2 d2 => q w H2 (s1.trans (Stp.of_ex x2)) (R1.ex x2) d2
def fUnL (f : PyData → Option (List PyData)) (φ : FE) : FL := fun δ => match φ δ with
  | some (x, δ1) => match f x with
    | some z => some (z, δ1)
    | none => none
  | none => none
theorem wl_c1 {r : List V → Hp → VK → Prop} {f : PyData → Option (List PyData)} {te : TE} {φ : FE} (hr : R1L K r f) (h : WB K te φ) : WL K (tCB r (tCons te tNil)) (fUnL f φ) := fun F L σ H δ d δ' e R Q q => by
  unfold fUnL at e
  split at e
  · next x δ1 e1 =>
    split at e
    · next z e2 =>
      cases e
      refine h F L σ H δ x _ e1 R _ fun v H1 s1 R1 b1 => ?_
      exact hr _ H1 v x _ e2 b1 R1.fr Q fun p vs H2 hp x2 h2 d2 => q p vs H2 (new_live R R1 s1 hp) (s1.trans (Stp.of_ex x2)) (R1.hideX x2 hp (by rw [h2]; exact fun z => nomatch z)) h2 d2
    · cases e
  · cases e
/-- what a borrowed sequence is -/
theorem Bo.seq {S : List Addr} {H : Hp} {v : V} {d : PyData} {ds : List PyData} (h : Bo K S H v d) (e : seqOf d = some ds) : ∃ p vs, v = .ref p ∧ (SqL K H p vs ∨ SqT K H p vs) ∧ RpAll K (Msk S H) vs ds := by
  rcases h with h | ⟨a, vs, ds', rfl, rfl, h1, h2⟩
  · exact seq_rd h e
  · cases e
    exact ⟨a, vs, rfl, .inl (sq_of h1), h2⟩
theorem Bo.lst {S : List Addr} {H : Hp} {v : V} {ds : List PyData} (h : Bo K S H v (.list ds)) : ∃ p vs, v = .ref p ∧ H p = some (.lst vs) ∧ RpAll K (Msk S H) vs ds := by
  rcases h with h | ⟨a, vs, ds', rfl, e, h1, h2⟩
  · cases h with
    | lst h1 h2 => exact ⟨_, _, rfl, (msk_some h1).2, h2⟩
  · cases e
    exact ⟨a, vs, rfl, h1, h2⟩
def dLen : PyData → Option PyData
  | .str z => if z.length ≤ 100000 then some (.int z.length) else none
  | .list ds => some (.int ds.length)
  | .tuple ds => some (.int ds.length)
  | .dict ((.none, _) :: kvs) => some (.int kvs.length)
  | _ => none
abbrev rLen (K : PySem.W.Frag) : List V → Hp → VK → Prop := fun xs H Q => ∃ x n, xs = [x] ∧ LenV K x H n ∧ Q (.int n) H
theorem r1_len : R1 K (rLen K) dLen := fun S H x a d e b fr Q q => by
  cases a with
  | str z =>
    have e' : (if z.length ≤ 100000 then some (PyData.int z.length) else none) = some d := e
    by_cases hz : z.length ≤ 100000
    · rw [if_pos hz] at e'
      cases e'
      rcases b with b | ⟨_, _, _, _, q0, _⟩
      · cases b
        exact ⟨_, z.length, rfl, ⟨sz_of hz, rfl⟩, q _ H (Ex.refl H) (.int _)⟩
      · cases q0
    · rw [if_neg hz] at e'
      cases e'
  | list ds =>
    cases e
    obtain ⟨p, vs, rfl, h1, h2⟩ := b.lst
    refine ⟨_, ds.length, rfl, .inl ⟨vs, sq_of h1, h2.len.symm⟩, q _ H (Ex.refl H) (.int _)⟩
  | tuple ds =>
    cases e
    rcases b with b | ⟨_, _, _, _, q0, _⟩
    · cases b with
      | tup h1 h2 => exact ⟨_, ds.length, rfl, .inr ⟨_, ex_t msk_le h1, h2.len.symm⟩, q _ H (Ex.refl H) (.int _)⟩
    · cases q0
  | dict kvs =>
    rcases b with b | ⟨_, _, _, _, q0, _⟩
    · cases b with
      | @dic l ks ds h1 h2 =>
        exfalso
        cases h2 with
        | nil => cases e
        | @cons k _ _ _ _ _ _ => cases k <;> cases e
      | @scr l ns h1 =>
        cases e
        refine ⟨_, ns.length, rfl, .inl ⟨_, ex_l msk_le h1, (List.length_map _).symm⟩, q _ H (Ex.refl H) ?_⟩
        rw [List.length_map]
        exact .int _
    · cases q0
  | _ => cases e
def dAbs : PyData → Option PyData
  | .int i => some (.int (if i < 0 then -i else i))
  | _ => none
theorem Bo.int {S : List Addr} {H : Hp} {v : V} {i : Int} (h : Bo K S H v (.int i)) : v = .int i := by
  rcases h with h | ⟨_, _, _, _, q0, _⟩
  · cases h
    rfl
  · cases q0
theorem r1_abs : R1 K (fun xs H Q => ∃ i, xs = [.int i] ∧ Q (.int (if i < 0 then -i else i)) H) dAbs := fun S H x a d e b fr Q q => by
  cases a with
  | int i =>
    cases e
    cases b.int
    exact ⟨i, rfl, q _ H (Ex.refl H) (.int _)⟩
  | _ => cases e
def intsOf : List PyData → Option (List Int)
  | [] => some []
  | .int i :: ds => (intsOf ds).map (i :: ·)
  | _ :: _ => none
theorem intsOf_some : ∀ {ds : List PyData} {ns : List Int}, intsOf ds = some ns → ds = ns.map PyData.int
  | [], _, e => by cases e; rfl
  | d :: ds, ns, e => by
    cases d with
    | int i =>
      have e' : (intsOf ds).map (i :: ·) = some ns := e
      cases h : intsOf ds with
      | none =>
        rw [h] at e'
        cases e'
      | some ms =>
        rw [h] at e'
        cases e'
        rw [intsOf_some h]
        rfl
    | _ => cases e
theorem intsOf_map (ns : List Int) : intsOf (ns.map PyData.int) = some ns := by
  induction ns with
  | nil => rfl
  | cons n ns ih =>
    show (intsOf (ns.map PyData.int)).map (n :: ·) = _
    rw [ih]
    rfl
def dSum : PyData → Option PyData
  | .list ds => (intsOf ds).map fun ns => .int ns.sum
  | _ => none
theorem r1_sum : R1 K (rSum K) dSum := fun S H x a d e b fr Q q => by
  cases a with
  | list ds =>
    have e' : (intsOf ds).map (fun ns => PyData.int ns.sum) = some d := e
    cases h : intsOf ds with
    | none =>
      rw [h] at e'
      cases e'
    | some ns =>
      rw [h] at e'
      cases e'
      have hd := intsOf_some h
      subst hd
      obtain ⟨p, vs, rfl, h1, h2⟩ := b.lst
      have := h2.ints
      subst this
      exact ⟨p, ns, rfl, sq_of h1, q _ H (Ex.refl H) (.int _)⟩
  | _ => cases e
def boolsOf : List PyData → Option (List Bool)
  | [] => some []
  | .bool i :: ds => (boolsOf ds).map (i :: ·)
  | _ :: _ => none
theorem boolsOf_some : ∀ {ds : List PyData} {ns : List Bool}, boolsOf ds = some ns → ds = ns.map PyData.bool
  | [], _, e => by cases e; rfl
  | d :: ds, ns, e => by
    cases d with
    | bool i =>
      have e' : (boolsOf ds).map (i :: ·) = some ns := e
      cases h : boolsOf ds with
      | none =>
        rw [h] at e'
        cases e'
      | some ms =>
        rw [h] at e'
        cases e'
        rw [boolsOf_some h]
        rfl
    | _ => cases e
theorem boolsOf_map (ns : List Bool) : boolsOf (ns.map PyData.bool) = some ns := by
  induction ns with
  | nil => rfl
  | cons n ns ih =>
    show (boolsOf (ns.map PyData.bool)).map (n :: ·) = _
    rw [ih]
    rfl
def dAll : PyData → Option PyData
  | .list ds => (boolsOf ds).map fun ns => .bool (ns.all id)
  | _ => none
theorem r1_all : R1 K (rAll K) dAll := fun S H x a d e b fr Q q => by
  cases a with
  | list ds =>
    have e' : (boolsOf ds).map (fun ns => PyData.bool (ns.all id)) = some d := e
    cases h : boolsOf ds with
    | none =>
      rw [h] at e'
      cases e'
    | some ns =>
      rw [h] at e'
      cases e'
      have hd := boolsOf_some h
      subst hd
      obtain ⟨p, vs, rfl, h1, h2⟩ := b.lst
      have := h2.bls
      subst this
      exact ⟨p, ns, rfl, sq_of h1, q _ H (Ex.refl H) (.bl _)⟩
  | _ => cases e
def dTuple : PyData → Option PyData
  | .list ds => some (.tuple ds)
  | .tuple ds => some (.tuple ds)
  | _ => none
abbrev rTuple (K : PySem.W.Frag) : List V → Hp → VK → Prop := fun xs H Q => ∃ p ys, xs = [.ref p] ∧ ((SqL K H p ys ∧ ∀ l, H l = none → Q (.ref l) (upd H l (.tup ys))) ∨ (SqT K H p ys ∧ Q (.ref p) H))
theorem r1_tuple : R1 K (rTuple K) dTuple := fun S H x a d e b fr Q q => by
  cases a with
  | list ds =>
    cases e
    obtain ⟨p, vs, rfl, h1, h2⟩ := b.lst
    exact ⟨p, vs, rfl, .inl ⟨sq_of h1, fun l hl => q _ _ (Ex.new hl) (new_tup (fr l hl) h2 hl)⟩⟩
  | tuple ds =>
    cases e
    rcases b with b | ⟨_, _, _, _, q0, _⟩
    · cases b with
      | tup h1 h2 => exact ⟨_, _, rfl, .inr ⟨ex_t msk_le h1, q _ H (Ex.refl H) (.tup h1 h2)⟩⟩
    · cases q0
  | _ => cases e
abbrev rList (K : PySem.W.Frag) : List V → Hp → VK → Prop := fun xs H Q => ∃ p ys, xs = [.ref p] ∧ (SqL K H p ys ∨ SqT K H p ys) ∧ ∀ l, H l = none → Q (.ref l) (upd H l (.lst ys))
theorem r1_list : R1L K (rList K) seqOf := fun S H x a d e b fr Q q => by
  obtain ⟨p, vs, rfl, h1, h2⟩ := b.seq e
  exact ⟨p, vs, rfl, h1, fun l hl => q l vs _ hl (Ex.new hl) upd_same (RpAll.mono (hide_ex (Ex.new hl) hl) _ _ h2)⟩
/-- min(a, b) -/
def fMin (φ ψ : FE) : FE := fOp (fI0 fun i j => .int (if j < i then j else i)) φ ψ
theorem we_min {ta tb : TE} {φ ψ : FE} (ha : WE K ta φ) (hb : WE K tb ψ) : WE K (tCB (fun xs H Q => ∃ i j, xs = [.int i, .int j] ∧ Q (.int (if j < i then j else i)) H) (tCons ta (tCons tb tNil))) (fMin φ ψ) := fun F L σ H δ d δ' e R Q q => by
  obtain ⟨x, δ1, y, e1, e2, e3⟩ := fOp_some e
  refine ha F L σ H δ x δ1 e1 R _ fun v H1 s1 R1 d1 => ?_
  refine hb F L σ H1 δ1 y δ' e2 R1 _ fun w H2 s2 R2 d2 => ?_
  cases d1 <;> cases d2 <;> cases e3
  exact ⟨_, _, rfl, q _ H2 (s1.trans s2) R2 (.int _)⟩
/-- isinstance -/
def tyN : PyData → String
  | .none => "NoneType"
  | .bool _ => "bool"
  | .int _ => "int"
  | .str _ => "str"
  | .list _ => "list"
  | .tuple _ => "tuple"
  | .dict _ => "dict"
def isiD (T : String) (d : PyData) : Option PyData := match d with
  | .dict _ => none
  | d => (kitB (tyN d) T).map .bool
theorem ty_of {S : List Addr} {H : Hp} {v : V} {d : PyData} (h : Rp K (Msk S H) v d) (hd : ∀ k, d ≠ .dict k) : TyX K H v (.type (tyN d)) := by
  cases h with
  | non => exact .base .non
  | bl b => exact .base (.bl b)
  | int i => exact .base (.int i)
  | str i => exact .base (.str i)
  | lst h1 h2 => exact .base (.lst (msk_some h1).2)
  | tup h1 h2 =>
    rcases h1 with (h | ⟨o, h⟩) | ⟨o, its, n, h, hc, _⟩
    · exact .base (.tup (msk_some h).2)
    · exact .fTuple (msk_some h).2
    · exact .kTuple h hc
  | scr h1 => exact absurd rfl (hd _)
  | dic h1 h2 => exact absurd rfl (hd _)
theorem we_isi {T : String} {te : TE} {φ : FE} (h : WE K te φ) : WE K (tCB (rIsi K) (tCons te (tCons (tC (.ty T)) tNil))) (fUn (isiD T) φ) := fun F L σ H δ d δ' e R Q q => by
  obtain ⟨x, e1, e2⟩ := fUn_some e
  refine h F L σ H δ x δ' e1 R _ fun v H1 s1 R1 d1 => ?_
  have hx : ∀ k, x ≠ .dict k := fun k z => by
    subst z
    cases e2
  have e3 : (kitB (tyN x) T).map PyData.bool = some d := by
    cases x <;> first | exact e2 | exact absurd rfl (hx _)
  cases hb : kitB (tyN x) T with
  | none =>
    rw [hb] at e3
    cases e3
  | some b =>
    rw [hb] at e3
    cases e3
    exact ⟨v, .ty T, _, .type T, b, rfl, .ty T, ty_of d1 hx, kit_ty hb, q _ H1 s1 R1 (.bl _)⟩
/-- isinstance(x, (T, U)) -/
def isiD2 (T U : String) (d : PyData) : Option PyData := match d with
  | .dict _ => none
  | d => match kitB (tyN d) T with
    | some true => some (.bool true)
    | some false => (kitB (tyN d) U).map .bool
    | none => none
theorem we_isi2 {T U : String} {te : TE} {φ : FE} (h : WE K te φ) : WE K (tCB (rIsiT K) (tCons te (tCons (tTup (tCons (tC (.ty T)) (tCons (tC (.ty U)) tNil))) tNil))) (fUn (isiD2 T U) φ) := fun F L σ H δ d δ' e R Q q => by
  obtain ⟨x, e1, e2⟩ := fUn_some e
  refine h F L σ H δ x δ' e1 R _ fun v H1 s1 R1 d1 => ?_
  have hx : ∀ k, x ≠ .dict k := fun k z => by
    subst z
    cases e2
  refine ⟨by show 2 ≤ sizeLine; decide, fun p hp => ?_⟩
  have x2 : Ex H1 (upd H1 p (.tup [.ty T, .ty U])) := Ex.new hp
  have tx : TyX K (upd H1 p (.tup [.ty T, .ty U])) v (.type (tyN x)) := ty_of (Rp.mono (ex_msk x2) _ _ d1) hx
  have e3 : (match kitB (tyN x) T with
    | some true => some (PyData.bool true)
    | some false => (kitB (tyN x) U).map PyData.bool
    | none => none) = some d := by
    cases x <;> first | exact e2 | exact absurd rfl (hx _)
  split at e3
  · next hb =>
    cases e3
    exact ⟨v, p, _, _, [.type T, .type U], true, rfl, upd_same, .cons (.ty T) (.cons (.ty U) .nil), tx, kitAny_cons (kit_ty hb) (fun z => nomatch z) fun _ => rfl, q _ _ (s1.trans (Stp.of_ex x2)) (R1.ex x2) (.bl _)⟩
  · next hb =>
    cases hc : kitB (tyN x) U with
    | none =>
      rw [hc] at e3
      cases e3
    | some b =>
      rw [hc] at e3
      cases e3
      exact ⟨v, p, _, _, [.type T, .type U], b, rfl, upd_same, .cons (.ty T) (.cons (.ty U) .nil), tx, kitAny_cons (kit_ty hb) (fun _ => kitAny_cons (kit_ty hc) (fun z => z ▸ kitAny_nil) fun z => z) (fun z => nomatch z), q _ _ (s1.trans (Stp.of_ex x2)) (R1.ex x2) (.bl _)⟩
  · cases e3
/-! ### slices -/
def fNoPart : FO := fun δ => some (none, δ)
def fPart (φ : FE) : FO := fun δ => match φ δ with
  | some (.int i, δ1) => some (some i, δ1)
  | _ => none
theorem wo_none : WO K tNoPart fNoPart := fun F L σ H δ d δ' e R Q q => by
  cases e
  exact q H Stp.refl R
theorem wo_some {te : TE} {φ : FE} (h : WE K te φ) : WO K (tPart te) (fPart φ) := fun F L σ H δ d δ' e R Q q => by
  unfold fPart at e
  split at e
  · next i δ1 h1 =>
    cases e
    refine h F L σ H δ _ _ h1 R _ fun v H1 s1 R1 d1 => ?_
    cases d1
    exact ⟨i, rfl, q H1 s1 R1⟩
  · cases e
def cutD (xs : List PyData) (lo hi : Option Int) : List PyData := (xs.drop (HT.sIx xs.length 0 lo)).take (HT.sIx xs.length xs.length hi - HT.sIx xs.length 0 lo)
theorem cut_of {H : Hp} {vs : List V} {ds : List PyData} (r : RpAll K H vs ds) (lo hi : Option Int) : RpAll K H (cutV vs lo hi) (cutD ds lo hi) := by
  unfold cutV cutD
  rw [r.len]
  exact (r.drop _).take _
def dSl (a : PyData) (lo hi : Option Int) : Option PyData := match a with
  | .list ds => some (.list (cutD ds lo hi))
  | .tuple ds => some (.tuple (cutD ds lo hi))
  | .str z => if z.length ≤ 100000 then some (.str (cutS z lo hi)) else none
  | _ => none
def fSl (φ : FE) (lo hi : FO) : FE := fun δ => match φ δ with
  | some (x, δ1) => match lo δ1 with
    | some (l, δ2) => match hi δ2 with
      | some (h, δ3) => match dSl x l h with
        | some d => some (d, δ3)
        | none => none
      | none => none
    | none => none
  | none => none
abbrev rSlA3 (K : PySem.W.Frag) : V → Option Int → Option Int → Hp → VK → Prop := fun x lo hi H Q => rSlL K x lo hi H Q ∨ (rSlA K x lo hi H Q ∨ rSlS x lo hi H Q)
theorem sl_any {X : Cx} : SlR X (rSlA3 X.K) := sl_list.or (sl_tupA.or sl_str)
theorem we_sl {te : TE} {tl th : TO} {φ : FE} {lo hi : FO} (h : WE K te φ) (hl : WO K tl lo) (hh : WO K th hi) : WE K (tSl (rSlA3 K) te tl th) (fSl φ lo hi) := fun F L σ H δ d δ' e R Q q => by
  unfold fSl at e
  split at e
  · next x δ1 e1 =>
    split at e
    · next l δ2 e2 =>
      split at e
      · next u δ3 e3 =>
        split at e
        · next z e4 =>
          cases e
          refine h F L σ H δ x δ1 e1 R _ fun v H1 s1 R1 d1 => ?_
          refine hl F L σ H1 δ1 l δ2 e2 R1 _ fun H2 s2 R2 => ?_
          refine hh F L σ H2 δ2 u _ e3 R2 _ fun H3 s3 R3 => ?_
          have d3 := s3.dat R1.sub (s2.dat R1.sub d1)
          cases d3 with
          | @lst a vs ds h1 h2 =>
            cases e4
            refine .inl ⟨a, vs, rfl, sq_of (msk_some h1).2, fun p hp => ?_⟩
            exact q _ _ (((s1.trans s2).trans s3).trans (Stp.of_ex (Ex.new hp))) (R3.ex (Ex.new hp)) (new_lst (R3.fresh hp) (cut_of h2 _ _) hp)
          | @tup a vs ds h1 h2 =>
            cases e4
            refine .inr (.inl ⟨a, vs, rfl, ex_t msk_le h1, fun hw => ?_, fun _ p hp => ?_⟩)
            · have ew : cutD ds l u = ds := by
                unfold cutD
                rw [h2.len] at hw
                rw [hw.1, hw.2, List.drop_zero, Nat.sub_zero, List.take_length]
              refine q _ H3 ((s1.trans s2).trans s3) R3 ?_
              rw [ew]
              exact .tup h1 h2
            · exact q _ _ (((s1.trans s2).trans s3).trans (Stp.of_ex (Ex.new hp))) (R3.ex (Ex.new hp)) (new_tup (R3.fresh hp) (cut_of h2 _ _) hp)
          | @str z =>
            have e5 : (if z.length ≤ 100000 then some (PyData.str (cutS z l u)) else none) = some d := e4
            by_cases hz : z.length ≤ 100000
            · rw [if_pos hz] at e5
              cases e5
              exact .inr (.inr ⟨z, rfl, sz_of hz, q _ H3 ((s1.trans s2).trans s3) R3 (.str _)⟩)
            · rw [if_neg hz] at e5
              cases e5
          | _ => cases e4
        · cases e
      · cases e
    · cases e
  · cases e
end
end Sm
namespace Sm
open PySem L2 Evl RZ

section
variable {K : PySem.W.Frag}
/-! ### names stored -/
theorem get_set {α : Type} (l : List α) (i j : Nat) (a : α) : (l.set i a)[j]? = if i = j then (if j < l.length then some a else none) else l[j]? := by
  rw [List.getElem?_set]
  by_cases h : i = j
  · subst h
    simp
  · rw [if_neg h, if_neg h]
theorem SlotR.un (F : Fm) (L : List Addr) (H : Hp) (o : Option (Option V)) : SlotR K F L H o .un := trivial
/-- a slot stored that is not one's own -/
theorem EnvR.set {F : Fm} {L : List Addr} {σ : St} {H : Hp} {δ : En} (R : EnvR K F L σ H δ) (i : Nat) {v : Option V} {e : EV} (he : SlotR K F L H (some v) e) (hm : e.mine = false) : EnvR K F L (σ.set i v) H (δ.set i e) where
  len := by rw [List.length_set, List.length_set, R.len]
  at_ := fun j e' h => by
    rw [get_set] at h ⊢
    by_cases hij : i = j
    · rw [if_pos hij] at h ⊢
      by_cases hl : j < δ.length
      · rw [if_pos hl] at h
        rw [if_pos (by rw [R.len]; exact hl)]
        cases h
        exact he
      · rw [if_neg hl] at h
        cases h
    · rw [if_neg hij] at h ⊢
      exact R.at_ j e' h
  dis := fun a b l e1 e2 hab h1 h2 m1 m2 s1 s2 => by
    rw [get_set] at h1 h2 s1 s2
    by_cases ha : i = a
    · rw [if_pos ha] at h1
      split at h1
      · cases h1
        rw [hm] at m1
        cases m1
      · cases h1
    · by_cases hb : i = b
      · rw [if_pos hb] at h2
        split at h2
        · cases h2
          rw [hm] at m2
          cases m2
        · cases h2
      · rw [if_neg ha] at h1 s1
        rw [if_neg hb] at h2 s2
        exact R.dis a b l e1 e2 hab h1 h2 m1 m2 s1 s2
  al := R.al
  mb := R.mb
  lb := R.lb
theorem EnvR.put {F : Fm} {L : List Addr} {σ : St} {H : Hp} {δ : En} (R : EnvR K F L σ H δ) (i : Nat) {v : V} {d : PyData} (h : Rp K (Msk (F.B ++ L) H) v d) : EnvR K F L (σ.set i (some v)) H (δ.set i (.dat d)) := R.set i ⟨v, rfl, h⟩ rfl

/-! ### targets -/
abbrev FG := PyData → En → Option En
abbrev FGs := List PyData → En → Option En
/-- js: the slots that it stores -/
def WG (K : PySem.W.Frag) (g : TG) (js : List Nat) (γ : FG) : Prop := ∀ (F : Fm) (L : List Addr) (σ : St) (H : Hp) (δ : En) (v : V) (d : PyData) (δ' : En), γ d δ = some δ' → EnvR K F L σ H δ → Rp K (Msk (F.B ++ L) H) v d → ∀ Q : St → Hp → Prop,
  (∀ σ', σ'.length = σ.length → (∀ i, ¬ i ∈ js → σ'[i]? = σ[i]?) → EnvR K F L σ' H δ' → Q σ' H) → g v σ H Q
def WGs (K : PySem.W.Frag) (g : TGs) (js : List Nat) (γ : FGs) : Prop := ∀ (F : Fm) (L : List Addr) (σ : St) (H : Hp) (δ : En) (vs : List V) (ds : List PyData) (δ' : En), γ ds δ = some δ' → EnvR K F L σ H δ → RpAll K (Msk (F.B ++ L) H) vs ds → ∀ Q : St → Hp → Prop,
  (∀ σ', σ'.length = σ.length → (∀ i, ¬ i ∈ js → σ'[i]? = σ[i]?) → EnvR K F L σ' H δ' → Q σ' H) → g vs σ H Q
def gN (i : Nat) : FG := fun d δ => some (δ.set i (.dat d))
theorem wg_name {i : Nat} : WG K (gName i) [i] (gN i) := fun F L σ H δ v d δ' e R r Q q => by
  cases e
  refine q _ (List.length_set) (fun j hj => ?_) (R.put i r)
  rw [get_set, if_neg (fun z => hj (by rw [z]; exact List.mem_singleton.mpr rfl))]
def gNl : FGs := fun ds δ => match ds with
  | [] => some δ
  | _ => none
def gCs (γ : FG) (η : FGs) : FGs := fun ds δ => match ds with
  | d :: ds => match γ d δ with
    | some δ1 => η ds δ1
    | none => none
  | [] => none
theorem wgs_nil : WGs K gNil [] gNl := fun F L σ H δ vs ds δ' e R r Q q => by
  cases r with
  | nil =>
    cases e
    exact ⟨rfl, q σ rfl (fun _ _ => rfl) R⟩
  | cons _ _ => cases e
theorem wgs_cons {g : TG} {gs : TGs} {js ks : List Nat} {γ : FG} {η : FGs} (h : WG K g js γ) (hs : WGs K gs ks η) : WGs K (gCons g gs) (js ++ ks) (gCs γ η) := fun F L σ H δ vs ds δ' e R r Q q => by
  cases r with
  | nil => cases e
  | @cons v vs' d ds' r1 r2 =>
    have e' : (match γ d δ with
      | some δ1 => η ds' δ1
      | none => none) = some δ' := e
    split at e'
    · next δ1 e1 =>
      refine ⟨v, vs', rfl, h F L σ H δ v d δ1 e1 R r1 _ fun σ1 l1 k1 R1 => ?_⟩
      refine hs F L σ1 H δ1 vs' ds' δ' e' R1 r2 _ fun σ2 l2 k2 R2 => ?_
      refine q σ2 (l2.trans l1) (fun i hi => ?_) R2
      rw [List.mem_append] at hi
      rw [k2 i (fun z => hi (.inr z)), k1 i (fun z => hi (.inl z))]
    · cases e'
def gTp (n : Nat) (η : FGs) : FG := fun d δ => match d with
  | .tuple ds => if ds.length = n then η ds δ else none
  | _ => none
theorem wg_tup {n : Nat} {gs : TGs} {js : List Nat} {η : FGs} (h : WGs K gs js η) : WG K (gTup K n gs) js (gTp n η) := fun F L σ H δ v d δ' e R r Q q => by
  cases r with
  | @tup a vs ds h1 h2 =>
    have e' : (if ds.length = n then η ds δ else none) = some δ' := e
    by_cases hn : ds.length = n
    · rw [if_pos hn] at e'
      exact ⟨a, vs, rfl, ex_t msk_le h1, by rw [h2.len]; exact hn, h F L σ H δ vs ds δ' e' R h2 Q q⟩
    · rw [if_neg hn] at e'
      cases e'
  | _ => cases e

/-! ### what is walked -/
structure Iter (K : PySem.W.Frag) (F : Fm) (L : List Addr) (H0 : Hp) (J : It) (ds : List PyData) : Prop where
  go : ∀ (L' : List Addr) (H : Hp), Ex (Msk (F.B ++ L) H0) (Msk (F.B ++ L') H) → Fresh (F.B ++ L') H → ∀ (i : Nat) (d : PyData), ds[i]? = some d → J.go i H ∧ ∀ x H', J.yld i H x H' → Ex H H' ∧ Rp K (Msk (F.B ++ L') H') x d
  stop : ∀ (L' : List Addr) (H : Hp), Ex (Msk (F.B ++ L) H0) (Msk (F.B ++ L') H) → ∀ i : Nat, ds.length ≤ i → J.stop i H
def WI (K : PySem.W.Frag) (wi : TI) (φ : FL) : Prop := ∀ (F : Fm) (L : List Addr) (σ : St) (H : Hp) (δ : En) (ds : List PyData) (δ' : En), φ δ = some (ds, δ') → EnvR K F L σ H δ → ∀ R : It → Hp → Prop,
  (∀ J H2, Stp F L H H2 → EnvR K F L σ H2 δ' → Iter K F L H2 J ds → R J H2) → wi σ H R
theorem pi_or {X : Cx} {tg it : Expr} {w w' : TI} (h : PI X tg it w) (h' : PI X tg it w') : PI X tg it (fun σ H R => w σ H R ∨ w' σ H R) := ⟨fun pins s σ H R I q => by
  rcases q with q | q
  · exact h.run pins s σ H R I q
  · exact h'.run pins s σ H R I q⟩
abbrev iAny (K : PySem.W.Frag) (t : TE) : TI := fun σ H R => iList K t σ H R ∨ (iTup K t σ H R ∨ iStr t σ H R)
theorem pi_any {X : Cx} {tg l : Expr} {t : TE} (h : PE X l t) : PI X tg l (iAny X.K t) := pi_or (pi_list h) (pi_or (pi_tup h) (pi_str h))
def signs (z : Str) : List PyData := z.cps.toList.map fun c => .str ⟨#[c]⟩
def itemsOf : PyData → Option (List PyData)
  | .list ds => some ds
  | .tuple ds => some ds
  | .str z => some (signs z)
  | _ => none
def fItems (φ : FE) : FL := fUnL itemsOf φ
theorem fUnL_some {f : PyData → Option (List PyData)} {φ : FE} {δ δ' : En} {d : List PyData} (e : fUnL f φ δ = some (d, δ')) : ∃ x, φ δ = some (x, δ') ∧ f x = some d := by
  unfold fUnL at e
  split at e
  · next x δ1 h1 =>
    split at e
    · next z h2 =>
      cases e
      exact ⟨x, h1, h2⟩
    · cases e
  · cases e
theorem iter_list {F : Fm} {L : List Addr} {H0 : Hp} {a : Addr} {vs : List V} {ds : List PyData} (h1 : Msk (F.B ++ L) H0 a = some (.lst vs)) (h2 : RpAll K (Msk (F.B ++ L) H0) vs ds) : Iter K F L H0 (Itl K a) ds where
  go := fun L' H x fr i d hd => by
    obtain ⟨v, hv, rv⟩ := h2.get i d hd
    have hs : SqL K H a vs := sq_of (msk_some (x a _ h1)).2
    refine ⟨⟨vs, v, hs, hv⟩, fun y H' hy => ?_⟩
    obtain ⟨rfl, hy⟩ := hy
    have e := hy vs hs
    rw [hv] at e
    cases e
    exact ⟨Ex.refl _, Rp.mono x _ _ rv⟩
  stop := fun L' H x i hi => ⟨vs, sq_of (msk_some (x a _ h1)).2, by rw [h2.len]; exact hi⟩
theorem iter_tup {F : Fm} {L : List Addr} {H0 : Hp} {a : Addr} {vs : List V} {ds : List PyData} (h1 : SqT K (Msk (F.B ++ L) H0) a vs) (h2 : RpAll K (Msk (F.B ++ L) H0) vs ds) : Iter K F L H0 (Itt K a) ds where
  go := fun L' H x fr i d hd => by
    obtain ⟨v, hv, rv⟩ := h2.get i d hd
    have hs : SqT K H a vs := ex_t msk_le (ex_t x h1)
    refine ⟨⟨vs, v, hs, hv⟩, fun y H' hy => ?_⟩
    obtain ⟨rfl, hy⟩ := hy
    have e := hy vs hs
    rw [hv] at e
    cases e
    exact ⟨Ex.refl _, Rp.mono x _ _ rv⟩
  stop := fun L' H x i hi => ⟨vs, ex_t msk_le (ex_t x h1), by rw [h2.len]; exact hi⟩
theorem signs_get {z : Str} {i : Nat} {d : PyData} (h : (signs z)[i]? = some d) : ∃ c, z.cps[i]? = some c ∧ d = .str ⟨#[c]⟩ := by
  unfold signs at h
  rw [List.getElem?_map] at h
  cases e : z.cps.toList[i]? with
  | none =>
    rw [e] at h
    cases h
  | some c =>
    rw [e] at h
    cases h
    exact ⟨c, by simpa using e, rfl⟩
theorem iter_str {F : Fm} {L : List Addr} {H0 : Hp} {z : Str} : Iter K F L H0 (Its z) (signs z) where
  go := fun L' H x fr i d hd => by
    obtain ⟨c, hc, rfl⟩ := signs_get hd
    refine ⟨?_, fun y H' hy => ?_⟩
    · show i < z.cps.size
      exact (Array.getElem?_eq_some_iff.mp hc).1
    · obtain ⟨rfl, c', hc', rfl⟩ := hy
      rw [hc] at hc'
      cases hc'
      exact ⟨Ex.refl _, .str _⟩
  stop := fun L' H x i hi => by
    show z.cps.size ≤ i
    unfold signs at hi
    rw [List.length_map, Array.length_toList] at hi
    exact hi
theorem wi_any {te : TE} {φ : FE} (h : WE K te φ) : WI K (iAny K te) (fItems φ) := fun F L σ H δ ds δ' e R Q q => by
  obtain ⟨x, e1, e2⟩ := fUnL_some e
  cases x with
  | list xs =>
    cases e2
    refine .inl (h F L σ H δ _ δ' e1 R _ fun v H1 s1 R1 d1 => ?_)
    cases d1 with
    | lst h1 h2 => exact ⟨_, rfl, ⟨_, sq_of (msk_some h1).2⟩, q _ H1 s1 R1 (iter_list h1 h2)⟩
  | tuple xs =>
    cases e2
    refine .inr (.inl (h F L σ H δ _ δ' e1 R _ fun v H1 s1 R1 d1 => ?_))
    cases d1 with
    | tup h1 h2 => exact ⟨_, rfl, ⟨_, ex_t msk_le h1⟩, q _ H1 s1 R1 (iter_tup h1 h2)⟩
  | str z =>
    cases e2
    refine .inr (.inr (h F L σ H δ _ δ' e1 R _ fun v H1 s1 R1 d1 => ?_))
    cases d1
    exact ⟨z, rfl, q _ H1 s1 R1 iter_str⟩
  | _ => cases e2
def upto (n : Int) : List PyData := (List.range n.toNat).map fun i => .int (i : Nat)
def fRange (φ : FE) : FL := fUnL (fun d => match d with
  | .int n => if n ≤ 100000 ∧ -100000 ≤ n then some (upto n) else none
  | _ => none) φ
theorem iter_rng {F : Fm} {L : List Addr} {H0 : Hp} {n : Int} : Iter K F L H0 (Itr 0 n.toNat) (upto n) where
  go := fun L' H x fr i d hd => by
    unfold upto at hd
    rw [List.getElem?_map] at hd
    cases e : (List.range n.toNat)[i]? with
    | none =>
      rw [e] at hd
      cases hd
    | some c =>
      rw [e] at hd
      cases hd
      have hi := (List.getElem?_eq_some_iff.mp e)
      obtain ⟨h1, h2⟩ := hi
      rw [List.getElem_range] at h2
      subst h2
      rw [List.length_range] at h1
      refine ⟨h1, fun y H' hy => ?_⟩
      obtain ⟨rfl, rfl⟩ := hy
      refine ⟨Ex.refl _, ?_⟩
      rw [Int.zero_add]
      exact .int _
  stop := fun L' H x i hi => by
    unfold upto at hi
    rw [List.length_map, List.length_range] at hi
    exact hi
theorem wi_range {te : TE} {φ : FE} (h : WE K te φ) : WI K (iRng1 (tCons te tNil)) (fRange φ) := fun F L σ H δ ds δ' e R Q q => by
  obtain ⟨x, e1, e2⟩ := fUnL_some e
  cases x with
  | int n =>
    have e3 : (if n ≤ 100000 ∧ -100000 ≤ n then some (upto n) else none) = some ds := e2
    by_cases hn : n ≤ 100000 ∧ -100000 ≤ n
    · rw [if_pos hn] at e3
      cases e3
      refine h F L σ H δ _ δ' e1 R _ fun v H1 s1 R1 d1 => ?_
      cases d1
      exact ⟨n, rfl, by omega, by omega, q _ H1 s1 R1 iter_rng⟩
    · rw [if_neg hn] at e3
      cases e3
  | _ => cases e2
/-- zip of two lists, of two tuples -/
def zipD (a b : PyData) : Option (List PyData) := match a, b with
  | .list xs, .list ys => some (List.zipWith (fun x y => .tuple [x, y]) xs ys)
  | .tuple xs, .tuple ys => some (List.zipWith (fun x y => .tuple [x, y]) xs ys)
  | _, _ => none
def fZip (φ ψ : FE) : FL := fun δ => match φ δ with
  | some (x, δ1) => match ψ δ1 with
    | some (y, δ2) => match zipD x y with
      | some z => some (z, δ2)
      | none => none
    | none => none
  | none => none
theorem zw_get {xs ys : List PyData} {i : Nat} {d : PyData} (h : (List.zipWith (fun x y => PyData.tuple [x, y]) xs ys)[i]? = some d) : ∃ x y, xs[i]? = some x ∧ ys[i]? = some y ∧ d = .tuple [x, y] := by
  rw [List.getElem?_zipWith] at h
  split at h
  · next x y h1 h2 =>
    cases h
    exact ⟨x, y, h1, h2, rfl⟩
  · cases h
theorem iter_zipL {F : Fm} {L : List Addr} {H0 : Hp} {a b : Addr} {vs ws : List V} {xs ys : List PyData} (h1 : Msk (F.B ++ L) H0 a = some (.lst vs)) (h2 : RpAll K (Msk (F.B ++ L) H0) vs xs) (k1 : Msk (F.B ++ L) H0 b = some (.lst ws)) (k2 : RpAll K (Msk (F.B ++ L) H0) ws ys) :
    Iter K F L H0 (Itz K a b) (List.zipWith (fun x y => PyData.tuple [x, y]) xs ys) where
  go := fun L' H e fr i d hd => by
    obtain ⟨x, y, hx, hy, rfl⟩ := zw_get hd
    obtain ⟨v, hv, rv⟩ := h2.get i x hx
    obtain ⟨w, hw, rw'⟩ := k2.get i y hy
    have sa : SqL K H a vs := sq_of (msk_some (e a _ h1)).2
    have sb : SqL K H b ws := sq_of (msk_some (e b _ k1)).2
    refine ⟨⟨vs, ws, v, w, sa, sb, hv, hw⟩, fun z H' hz => ?_⟩
    obtain ⟨T, x1, y1, rfl, hT, rfl, f1, f2⟩ := hz
    have e1 := f1 vs sa
    have e2 := f2 ws sb
    rw [hv] at e1
    rw [hw] at e2
    cases e1
    cases e2
    exact ⟨Ex.new hT, new_tup (fr T hT) (.cons (Rp.mono e _ _ rv) (.cons (Rp.mono e _ _ rw') .nil)) hT⟩
  stop := fun L' H e i hi => by
    refine ⟨vs, ws, sq_of (msk_some (e a _ h1)).2, sq_of (msk_some (e b _ k1)).2, ?_⟩
    rw [List.length_zipWith] at hi
    rw [h2.len, k2.len]
    omega
theorem iter_zipT {F : Fm} {L : List Addr} {H0 : Hp} {a b : Addr} {vs ws : List V} {xs ys : List PyData} (h1 : SqT K (Msk (F.B ++ L) H0) a vs) (h2 : RpAll K (Msk (F.B ++ L) H0) vs xs) (k1 : SqT K (Msk (F.B ++ L) H0) b ws) (k2 : RpAll K (Msk (F.B ++ L) H0) ws ys) :
    Iter K F L H0 (ItzT K a b) (List.zipWith (fun x y => PyData.tuple [x, y]) xs ys) where
  go := fun L' H e fr i d hd => by
    obtain ⟨x, y, hx, hy, rfl⟩ := zw_get hd
    obtain ⟨v, hv, rv⟩ := h2.get i x hx
    obtain ⟨w, hw, rw'⟩ := k2.get i y hy
    have sa : SqT K H a vs := ex_t msk_le (ex_t e h1)
    have sb : SqT K H b ws := ex_t msk_le (ex_t e k1)
    refine ⟨⟨vs, ws, v, w, sa, sb, hv, hw⟩, fun z H' hz => ?_⟩
    obtain ⟨T, x1, y1, rfl, hT, rfl, f1, f2⟩ := hz
    have e1 := f1 vs sa
    have e2 := f2 ws sb
    rw [hv] at e1
    rw [hw] at e2
    cases e1
    cases e2
    exact ⟨Ex.new hT, new_tup (fr T hT) (.cons (Rp.mono e _ _ rv) (.cons (Rp.mono e _ _ rw') .nil)) hT⟩
  stop := fun L' H e i hi => by
    refine ⟨vs, ws, ex_t msk_le (ex_t e h1), ex_t msk_le (ex_t e k1), ?_⟩
    rw [List.length_zipWith] at hi
    rw [h2.len, k2.len]
    omega
theorem wi_zip {ta tb : TE} {φ ψ : FE} (ha : WE K ta φ) (hb : WE K tb ψ) : WI K (iZipA K (tCons ta (tCons tb tNil))) (fZip φ ψ) := fun F L σ H δ ds δ' e R Q q => by
  unfold fZip at e
  split at e
  · next x δ1 e1 =>
    split at e
    · next y δ2 e2 =>
      split at e
      · next z e3 =>
        cases e
        refine ha F L σ H δ x δ1 e1 R _ fun v H1 s1 R1 d1 => ?_
        refine hb F L σ H1 δ1 y _ e2 R1 _ fun w H2 s2 R2 d2 => ?_
        have d1' := s2.dat R1.sub d1
        cases d1' <;> cases d2 <;> first | (cases e3; done) | skip
        · next h1 h2 _ _ _ k1 k2 =>
          cases e3
          exact ⟨_, _, _, _, rfl, .inl ⟨sq_of (msk_some h1).2, sq_of (msk_some k1).2, q _ H2 (s1.trans s2) R2 (iter_zipL h1 h2 k1 k2)⟩⟩
        · next h1 h2 _ _ _ k1 k2 =>
          cases e3
          exact ⟨_, _, _, _, rfl, .inr ⟨ex_t msk_le h1, ex_t msk_le k1, q _ H2 (s1.trans s2) R2 (iter_zipT h1 h2 k1 k2)⟩⟩
      · cases e
    · cases e
  · cases e
end
end Sm
namespace Sm
open PySem L2 Evl RZ

section
variable {K : PySem.W.Frag}
/-! ### comprehensions -/
theorem wipe_get (σ : St) : ∀ (vs : List Nat) (i : Nat), (wipe σ vs)[i]? = if i ∈ vs then σ[i]?.map (fun _ => none) else σ[i]?
  | [], i => by simp [wipe]
  | v :: vs, i => by
    unfold wipe
    rw [get_set, wipe_length, wipe_get σ vs i]
    by_cases h : v = i
    · subst h
      rw [if_pos rfl, if_pos (List.mem_cons_self)]
      by_cases hl : v < σ.length
      · rw [if_pos hl, List.getElem?_eq_getElem hl]
        rfl
      · rw [if_neg hl, List.getElem?_eq_none (by omega)]
        rfl
    · rw [if_neg h]
      by_cases h2 : i ∈ vs
      · rw [if_pos h2, if_pos (List.mem_cons_of_mem _ h2)]
      · rw [if_neg h2, if_neg (fun z => by
          rcases List.mem_cons.mp z with z | z
          · exact h z.symm
          · exact h2 z)]
theorem wipe_eq {σ σ2 : St} {vs js : List Nat} (hl : σ2.length = (wipe σ vs).length) (hk : ∀ i, ¬ i ∈ js → σ2[i]? = (wipe σ vs)[i]?) (hj : ∀ j, j ∈ js → j ∈ vs) : wipe σ2 vs = wipe σ vs := by
  rw [wipe_length] at hl
  apply List.ext_getElem?
  intro i
  rw [wipe_get, wipe_get]
  by_cases h : i ∈ vs
  · rw [if_pos h, if_pos h]
    by_cases hi : i < σ.length
    · rw [List.getElem?_eq_getElem hi, List.getElem?_eq_getElem (by omega)]
      rfl
    · rw [List.getElem?_eq_none (by omega), List.getElem?_eq_none (by omega)]
  · rw [if_neg h, if_neg h, hk i (fun z => h (hj i z)), wipe_get, if_neg h]
def wipeE (δ : En) : List Nat → En
  | [] => δ
  | v :: vs => (wipeE δ vs).set v .un
theorem EnvR.wipe {F : Fm} {L : List Addr} {σ : St} {H : Hp} {δ : En} (R : EnvR K F L σ H δ) : ∀ vs : List Nat, EnvR K F L (L2.wipe σ vs) H (wipeE δ vs)
  | [] => R
  | v :: vs => (EnvR.wipe R vs).set v trivial rfl
def backE (vs : List Nat) : Nat → En → En → En
  | _, [], _ => []
  | k, e :: δ, [] => (if e.mine = true then .un else e) :: backE vs (k + 1) δ []
  | k, e :: δ, e4 :: δ4 => (if e.mine = true then (if vs.contains k = true then .un else e4) else e) :: backE vs (k + 1) δ δ4
theorem backE_len (vs : List Nat) : ∀ (k : Nat) (δ δ4 : En), (backE vs k δ δ4).length = δ.length
  | _, [], _ => rfl
  | k, e :: δ, [] => by
    unfold backE
    rw [List.length_cons, List.length_cons, backE_len]
  | k, e :: δ, e4 :: δ4 => by
    unfold backE
    rw [List.length_cons, List.length_cons, backE_len]
theorem backE_get (vs : List Nat) : ∀ (k : Nat) (δ δ4 : En) (i : Nat) (x : EV), (backE vs k δ δ4)[i]? = some x → x = .un ∨ (x.mine = false ∧ δ[i]? = some x) ∨ (¬ (k + i) ∈ vs ∧ δ4[i]? = some x ∧ ∃ y, δ[i]? = some y ∧ y.mine = true)
  | _, [], _, i, x, h => by simp [backE] at h
  | k, e :: δ, [], i, x, h => by
    unfold backE at h
    cases i with
    | zero =>
      rw [List.getElem?_cons_zero] at h
      by_cases hm : e.mine = true
      · rw [if_pos hm] at h
        cases h
        exact .inl rfl
      · rw [if_neg hm] at h
        cases h
        exact .inr (.inl ⟨by simpa using hm, rfl⟩)
    | succ n =>
      rw [List.getElem?_cons_succ] at h
      rcases backE_get vs (k + 1) δ [] n x h with z | z | ⟨z1, z2, z3⟩
      · exact .inl z
      · exact .inr (.inl (by simpa using z))
      · simp at z2
  | k, e :: δ, e4 :: δ4, i, x, h => by
    unfold backE at h
    cases i with
    | zero =>
      rw [List.getElem?_cons_zero] at h
      by_cases hm : e.mine = true
      · rw [if_pos hm] at h
        by_cases hv : vs.contains k = true
        · rw [if_pos hv] at h
          cases h
          exact .inl rfl
        · rw [if_neg hv] at h
          cases h
          exact .inr (.inr ⟨by simpa using hv, rfl, e, rfl, hm⟩)
      · rw [if_neg hm] at h
        cases h
        exact .inr (.inl ⟨by simpa using hm, rfl⟩)
    | succ n =>
      rw [List.getElem?_cons_succ] at h
      rcases backE_get vs (k + 1) δ δ4 n x h with z | z | ⟨z1, z2, z3⟩
      · exact .inl z
      · exact .inr (.inl (by simpa using z))
      · exact .inr (.inr ⟨by rw [show k + (n + 1) = k + 1 + n by omega]; exact z1, by simpa using z2, by simpa using z3⟩)
/-- what was not one's own stands on -/
theorem SlotR.stp {F : Fm} {L : List Addr} {H H' : Hp} {o : Option (Option V)} {e : EV} (hs : ∀ a, a ∈ F.M ++ L → a ∈ F.B ++ L) (s : Stp F L H H') (hm : e.mine = false) (h : SlotR K F L H o e) : SlotR K F L H' o e := by
  cases e with
  | un => trivial
  | dat d =>
    obtain ⟨v, h1, h2⟩ := h
    exact ⟨v, h1, s.dat hs h2⟩
  | own ds => cases hm
  | bag ds => cases hm
  | odc ds => cases hm
theorem EnvR.back {F : Fm} {L : List Addr} {σ σ2 : St} {H H4 : Hp} {δ δ4 : En} {vs : List Nat} (R : EnvR K F L σ H δ) (s : Stp F L H H4) (R4 : EnvR K F L σ2 H4 δ4) (hk : ∀ i, ¬ i ∈ vs → σ2[i]? = σ[i]?) : EnvR K F L σ H4 (backE vs 0 δ δ4) where
  len := by rw [backE_len, R.len]
  at_ := fun i e h => by
    rcases backE_get vs 0 δ δ4 i e h with rfl | ⟨hm, h1⟩ | ⟨h1, h2, _⟩
    · trivial
    · exact (R.at_ i e h1).stp R.sub s hm
    · rw [Nat.zero_add] at h1
      have := R4.at_ i e h2
      rw [hk i h1] at this
      exact this
  dis := fun i j l e e' hij h h' m m' s1 s2 => by
    rcases backE_get vs 0 δ δ4 i e h with rfl | ⟨hm, _⟩ | ⟨h1, h2, _⟩
    · cases m
    · rw [hm] at m
      cases m
    · rcases backE_get vs 0 δ δ4 j e' h' with rfl | ⟨hm, _⟩ | ⟨k1, k2, _⟩
      · cases m'
      · rw [hm] at m'
        cases m'
      · rw [Nat.zero_add] at h1 k1
        exact R4.dis i j l e e' hij h2 k2 m m' (by rw [hk i h1]; exact s1) (by rw [hk j k1]; exact s2)
  al := R4.al
  mb := R.mb
  lb := R.lb
/-- a hidden object that is no name's own is stored -/
theorem EnvR.updD {F : Fm} {L : List Addr} {σ : St} {H : Hp} {δ : En} {D : Addr} (R : EnvR K F L σ H δ) (hD : D ∈ F.B) (hm : ¬ D ∈ F.M) (o : HO) : EnvR K F L σ (upd H D o) δ := by
  have e0 : Msk (F.B ++ L) (upd H D o) = Msk (F.B ++ L) H := msk_upd (List.mem_append.mpr (.inl hD))
  refine ⟨R.len, fun i e h => ?_, R.dis, fun a ha => ?_, R.mb, R.lb⟩
  · have := R.at_ i e h
    cases e with
    | un => trivial
    | dat d =>
      obtain ⟨v, h1, h2⟩ := this
      exact ⟨v, h1, by rw [e0]; exact h2⟩
    | own ds =>
      obtain ⟨l, vs, h1, h2, h3, h4⟩ := this
      exact ⟨l, vs, h1, h2, by rw [upd_ne (fun z => R.lb l h2 (by rw [z]; exact hD))]; exact h3, by rw [e0]; exact h4⟩
    | odc ds =>
      obtain ⟨l, vs, h1, h2, h3, h4⟩ := this
      exact ⟨l, vs, h1, h2, by rw [upd_ne (fun z => R.lb l h2 (by rw [z]; exact hD))]; exact h3, by rw [e0]; exact h4⟩
    | bag ds =>
      obtain ⟨l, vs, h1, h2, h3, h4⟩ := this
      exact ⟨l, vs, h1, h2, by rw [upd_ne (fun z => hm (by rw [← z]; exact h2))]; exact h3, by rw [e0]; exact h4⟩
  · by_cases z : a = D
    · rw [z, upd_same]
      exact fun q => nomatch q
    · rw [upd_ne z]
      exact R.al a ha
def compL (vs : List Nat) (γ : FG) (τ : FT) (ε : FE) : List PyData → En → Option (List PyData × En)
  | [], δ => some ([], δ)
  | d :: ds, δ => match γ d (wipeE δ vs) with
    | some δ2 => match τ δ2 with
      | some (true, δ3) => match ε δ3 with
        | some (y, δ4) => match compL vs γ τ ε ds (backE vs 0 δ δ4) with
          | some (ys, δ5) => some (y :: ys, δ5)
          | none => none
        | none => none
      | some (false, δ3) => compL vs γ τ ε ds (backE vs 0 δ δ3)
      | none => none
    | none => none
def fLc (φ : FL) (vs : List Nat) (γ : FG) (τ : FT) (ε : FE) : FL := fun δ => match φ δ with
  | some (ds, δ1) => if ds.length ≤ 40000 then compL vs γ τ ε ds δ1 else none
  | none => none
def fYes : FT := fun δ => some (true, δ)
theorem wt_yes : WT K tYes fYes := fun F L σ H δ d δ' e R Q q => by
  cases e
  exact q H Stp.refl R
theorem wl_lc {wi : TI} {g : TG} {tt : TT} {te : TE} {vs js : List Nat} {φ : FL} {γ : FG} {τ : FT} {ε : FE} (hi : WI K wi φ) (hg : WG K g js γ) (hj : ∀ j, j ∈ js → j ∈ vs) (ht : WT K tt τ) (he : WE K te ε) : WL K (tLc wi g tt te vs) (fLc φ vs γ τ ε) := fun F L σ H δ res δ' e R Q q => by
  unfold fLc at e
  split at e
  · next ds δ1 e1 =>
    by_cases hz : ds.length ≤ 40000
    · rw [if_pos hz] at e
      refine hi F L σ H δ ds δ1 e1 R _ fun J H1 s1 R1 it => fun D hD => ?_
      have hDm : ¬ D ∈ F.M := fun z => R1.fresh hD (List.mem_append.mpr (.inl (R.mb D z)))
      have hDl : ¬ D ∈ L := fun z => R1.fresh hD (List.mem_append.mpr (.inr z))
      have hDml : ¬ D ∈ F.M ++ L := fun z => by
        rcases List.mem_append.mp z with z | z
        · exact hDm z
        · exact hDl z
      refine ⟨fun i m H' => m = ds.length - i ∧ ∃ accV accD rest δi, Ex (Msk (F.M ++ L) H1) (Msk (F.M ++ L) H') ∧ EnvR K (F.hide D) L σ H' δi ∧ H' D = some (.lst accV) ∧ RpAll K (Msk ((F.hide D).B ++ L) H') accV accD ∧ compL vs γ τ ε (ds.drop i) δi = some (rest, δ') ∧ res = accD ++ rest ∧ accD.length ≤ i,
        ⟨ds.length, by omega, [], [], res, δ1, ex_msk (Ex.new hD), R1.hide hD _, upd_same, .nil, by rw [List.drop_zero]; exact e, rfl, Nat.zero_le _⟩, ?_⟩
      rintro i m H' ⟨rfl, accV, accD, rest, δi, x, Ri, hD', ra, ec, er, hl⟩
      have xx : Ex (Msk (F.B ++ L) H1) (Msk (F.B ++ (D :: L)) H') := fun a o ea => by
        obtain ⟨h1, h2⟩ := msk_some ea
        have ne : a ≠ D := ne_of_none h2 hD
        rw [msk_out (fun z => by
          rcases List.mem_append.mp z with z | z
          · exact h1 (List.mem_append.mpr (.inl z))
          · rcases List.mem_cons.mp z with z | z
            · exact ne z
            · exact h1 (List.mem_append.mpr (.inr z)))]
        have nm : ¬ a ∈ F.M ++ L := fun z => h1 (R1.sub a z)
        have := x a o (by rw [msk_out nm]; exact h2)
        rw [msk_out nm] at this
        exact this
      have cg : ∀ a, a ∈ F.B ++ (D :: L) ↔ a ∈ (F.hide D).B ++ L := fun a => by
        show _ ↔ a ∈ D :: (F.B ++ L)
        simp only [List.mem_append, List.mem_cons]
        constructor
        · rintro (h | h | h)
          · exact .inr (.inl h)
          · exact .inl h
          · exact .inr (.inr h)
        · rintro (h | h | h)
          · exact .inr (.inl h)
          · exact .inl h
          · exact .inr (.inr h)
      by_cases hi : i < ds.length
      · have hd : ds[i]? = some ds[i] := List.getElem?_eq_getElem hi
        have frD : Fresh (F.B ++ (D :: L)) H' := fun p hp z => Ri.fresh hp ((cg p).mp z)
        obtain ⟨go, yl⟩ := it.go (D :: L) H' xx frD i _ hd
        rw [List.drop_eq_getElem_cons hi] at ec
        refine .inr ⟨go, fun H5 => ∃ accV accD rest δi, Ex (Msk (F.M ++ L) H1) (Msk (F.M ++ L) H5) ∧ EnvR K (F.hide D) L σ H5 δi ∧ H5 D = some (.lst accV) ∧ RpAll K (Msk ((F.hide D).B ++ L) H5) accV accD ∧ compL vs γ τ ε (ds.drop (i + 1)) δi = some (rest, δ') ∧ res = accD ++ rest ∧ accD.length ≤ i + 1, fun H5 hN => ⟨ds.length - (i + 1), by omega, rfl, hN⟩, fun y H2 hy => ?_⟩
        obtain ⟨x2, ry⟩ := yl y H2 hy
        rw [msk_congr cg] at ry
        unfold compL at ec
        split at ec
        · next δ2 eg =>
          refine hg (F.hide D) L (wipe σ vs) H2 (wipeE δi vs) y _ δ2 eg ((Ri.ex x2).wipe vs) ry _ fun σ2 hl2 hk2 Rg => ⟨wipe_eq hl2 hk2 hj, ?_⟩
          have hk : ∀ j, ¬ j ∈ vs → σ2[j]? = σ[j]? := fun j hjv => by rw [hk2 j (fun z => hjv (hj j z)), wipe_get, if_neg hjv]
          split at ec
          · next δ3 et =>
            refine ht (F.hide D) L σ2 H2 δ2 true δ3 et Rg _ fun H3 s3 R3 => ?_
            rw [if_pos rfl]
            split at ec
            · next w δ4 ee =>
              refine he (F.hide D) L σ2 H3 δ3 w δ4 ee R3 _ fun u H4 s4 R4 rw4 => ?_
              have hD4 : H4 D = some (.lst accV) := by
                have := s4 D _ (by rw [msk_out hDml]; exact (msk_some (s3 D _ (by rw [msk_out hDml]; exact x2 D _ hD'))).2)
                exact (msk_some this).2
              refine ⟨accV, hD4, sz_lt (by rw [ra.len]; omega), ?_⟩
              split at ec
              · next ys δ5 ecc =>
                cases ec
                have s24 : Stp (F.hide D) L H' H4 := (Stp.of_ex x2).trans (s3.trans s4)
                have e0 : Msk ((F.hide D).B ++ L) (upd H4 D (.lst (accV ++ [u]))) = Msk ((F.hide D).B ++ L) H4 := msk_upd (List.mem_cons_self)
                refine ⟨accV ++ [u], accD ++ [w], ys, backE vs 0 δi δ4, ?_, ((Ri.back s24 R4 hk).updD (List.mem_cons_self) hDm _), upd_same, ?_, ecc, by rw [er, List.append_assoc]; rfl, by rw [List.length_append]; show _ + 1 ≤ _; omega⟩
                · intro a o ea
                  have h5 := msk_some (x a o ea)
                  have h6 := s24 a o (by rw [msk_out h5.1]; exact h5.2)
                  have ne : a ≠ D := ne_of_none (msk_some ea).2 hD
                  rw [msk_out h5.1, upd_ne ne]
                  exact (msk_some h6).2
                · rw [e0]
                  exact (s24.all Ri.sub ra).app (.cons rw4 .nil)
              · cases ec
            · cases ec
          · next δ3 et =>
            refine ht (F.hide D) L σ2 H2 δ2 false δ3 et Rg _ fun H3 s3 R3 => ?_
            rw [if_neg Bool.false_ne_true]
            have s24 : Stp (F.hide D) L H' H3 := (Stp.of_ex x2).trans s3
            refine ⟨accV, accD, rest, backE vs 0 δi δ3, ?_, Ri.back s24 R3 hk, ?_, s24.all Ri.sub ra, ec, er, by omega⟩
            · intro a o ea
              have h5 := msk_some (x a o ea)
              have h6 := s24 a o (by rw [msk_out h5.1]; exact h5.2)
              rw [msk_out h5.1]
              exact (msk_some h6).2
            · exact (msk_some (s24 D _ (by rw [msk_out hDml]; exact hD'))).2
          · cases ec
        · cases ec
      · rw [List.drop_eq_nil_of_le (by omega)] at ec
        cases ec
        rw [List.append_nil] at er
        subst er
        refine .inl ⟨it.stop (D :: L) H' xx i (by omega), ?_⟩
        exact q D accV H' (new_live R R1 s1 hD) (s1.trans x) Ri hD' ra
    · rw [if_neg hz] at e
      cases e
  · cases e
end
end Sm
namespace Sm
open PySem L2 Evl RZ

section
variable {K : PySem.W.Frag}
/-! ### statements -/
section
variable {F : Fm} {L L1 L2' : List Addr} {H H1 H2 : Hp}
theorem StpS.refl : StpS F L H L H := ⟨Ex.refl _, fun _ h => .inl h, fun _ h => h⟩
theorem StpS.trans (a : StpS F L H L1 H1) (b : StpS F L1 H1 L2' H2) (hm : ∀ a, a ∈ F.M ++ L → H a ≠ none) : StpS F L H L2' H2 where
  ex := fun x o e => by
    obtain ⟨h1, h2⟩ := msk_some e
    have e1 := (msk_some (a.ex x o e)).2
    have n1 : ¬ x ∈ F.M ++ L1 := fun z => by
      rcases List.mem_append.mp z with z | z
      · exact h1 (List.mem_append.mpr (.inl z))
      · rcases a.nw x z with q | q
        · exact h1 (List.mem_append.mpr (.inr q))
        · rw [h2] at q
          cases q
    have e2 := b.ex x o (by rw [msk_out n1]; exact e1)
    rw [msk_out h1]
    exact (msk_some e2).2
  nw := fun x hx => by
    rcases b.nw x hx with h | h
    · exact a.nw x h
    · cases e : H x with
      | none => exact .inr rfl
      | some o => exact absurd h (a.kp x (by rw [e]; exact fun z => nomatch z))
  kp := fun x hx => b.kp x (a.kp x hx)
theorem EnvR.live {σ : St} {δ : En} (R : EnvR K F L σ H δ) : ∀ a, a ∈ F.M ++ L → H a ≠ none := fun a h => R.al a (R.sub a h)
theorem Stp.s {σ σ1 : St} {δ δ1 : En} (s : Stp F L H H1) (R : EnvR K F L σ H δ) (R1 : EnvR K F L σ1 H1 δ1) : StpS F L H L H1 := ⟨s, fun _ h => .inl h, fun a ha q => by
  by_cases hm : a ∈ F.M ++ L
  · exact R1.live a hm q
  · cases e : H a with
    | none => exact ha e
    | some o =>
      have := s a o (by rw [msk_out hm]; exact e)
      rw [msk_out hm, q] at this
      cases this⟩
/-- what is wanted behind goes back over a first step -/
theorem Ok.back {σ σ1 : St} {δ : En} {D : Ends} {o : Out} {ws ws1 ws2 : List Nat} (R : EnvR K F L σ H δ) (s : StpS F L H L1 H1) (hk : ∀ j, ¬ j ∈ ws1 → σ1[j]? = σ[j]?) (h1 : ∀ j, j ∈ ws1 → j ∈ ws) (h2 : ∀ j, j ∈ ws2 → j ∈ ws) (h : Ok K F L σ ws H D o) : Ok K F L1 σ1 ws2 H1 D o := by
  have kk : ∀ {σ' : St}, (∀ j, ¬ j ∈ ws2 → σ'[j]? = σ1[j]?) → ∀ j, ¬ j ∈ ws → σ'[j]? = σ[j]? := fun z j hj => (z j fun q => hj (h2 j q)).trans (hk j fun q => hj (h1 j q))
  cases o with
  | nx δ' => exact fun L' σ' H' s' R' z => h L' σ' H' (s.trans s' R.live) R' (kk z)
  | bk δ' => exact fun L' σ' H' s' R' z => h L' σ' H' (s.trans s' R.live) R' (kk z)
  | ct δ' => exact fun L' σ' H' s' R' z => h L' σ' H' (s.trans s' R.live) R' (kk z)
  | rt d δ' => exact fun L' σ' H' v s' R' r => h L' σ' H' v (s.trans s' R.live) R' r
  | rl ds δ' => exact fun L' σ' H' p vs s' R' hp hn h' r => h L' σ' H' p vs (s.trans s' R.live) R' (by
      rcases hp with hp | hp
      · exact s.nw p hp
      · cases e : H p with
        | none => exact .inr rfl
        | some o => exact absurd hp (s.kp p (by rw [e]; exact fun z => nomatch z))) hn h' r
/-- .. over a step that stores no slot -/
theorem Ok.bk0 {σ : St} {δ : En} {D : Ends} {o : Out} {ws ws2 : List Nat} (R : EnvR K F L σ H δ) (s : StpS F L H L1 H1) (h2 : ∀ j, j ∈ ws2 → j ∈ ws) (h : Ok K F L σ ws H D o) : Ok K F L1 σ ws2 H1 D o := Ok.back (ws1 := []) R s (fun _ _ => rfl) (fun _ z => by simp at z) h2 h
end
def sNx : FS := fun δ => some (.nx δ)
theorem ws_next : WS K tNext [] sNx := fun F L σ H δ o e R D k => by
  cases e
  exact k L σ H StpS.refl R fun _ _ => rfl
theorem in_l {ws vs : List Nat} : ∀ j, j ∈ ws → j ∈ ws ++ vs := fun _ h => List.mem_append.mpr (.inl h)
theorem in_r {ws vs : List Nat} : ∀ j, j ∈ vs → j ∈ ws ++ vs := fun _ h => List.mem_append.mpr (.inr h)
def sSeq (φ ψ : FS) : FS := fun δ => match φ δ with
  | some (.nx δ1) => ψ δ1
  | some (.rt d δ1) => some (.rt d δ1)
  | some (.rl d δ1) => some (.rl d δ1)
  | some (.bk δ1) => some (.bk δ1)
  | some (.ct δ1) => some (.ct δ1)
  | none => none
theorem ws_seq {t u : TS} {ws vs : List Nat} {φ ψ : FS} (h : WS K t ws φ) (h' : WS K u vs ψ) : WS K (tSeq t u) (ws ++ vs) (sSeq φ ψ) := fun F L σ H δ o e R D k => by
  unfold sSeq at e
  split at e
  · next δ1 e1 =>
    refine h F L σ H δ _ e1 R _ fun L1 σ1 H1 s1 R1 k1 => ?_
    exact h' F L1 σ1 H1 δ1 o e R1 D (Ok.back R s1 k1 in_l in_r k)
  · next e1 =>
    cases e
    exact h F L σ H δ _ e1 R _ k
  · next e1 =>
    cases e
    exact h F L σ H δ _ e1 R _ k
  · next δ1 e1 =>
    cases e
    have k' := Ok.bk0 (ws2 := ws) R StpS.refl in_l k
    exact h F L σ H δ (.bk δ1) e1 R { D with nx := u D } k'
  · next δ1 e1 =>
    cases e
    have k' := Ok.bk0 (ws2 := ws) R StpS.refl in_l k
    exact h F L σ H δ (.ct δ1) e1 R { D with nx := u D } k'
  · cases e
def sAsg (φ : FE) (γ : FG) : FS := fun δ => match φ δ with
  | some (d, δ1) => match γ d δ1 with
    | some δ2 => some (.nx δ2)
    | none => none
  | none => none
theorem ws_asg {te : TE} {g : TG} {js : List Nat} {φ : FE} {γ : FG} (h : WE K te φ) (hg : WG K g js γ) : WS K (tAsg te g) js (sAsg φ γ) := fun F L σ H δ o e R D k => by
  unfold sAsg at e
  split at e
  · next d δ1 e1 =>
    split at e
    · next δ2 e2 =>
      cases e
      refine h F L σ H δ d δ1 e1 R _ fun v H1 s1 R1 d1 => ?_
      exact hg F L σ H1 δ1 v d δ2 e2 R1 d1 _ fun σ2 _ kk R2 => k L σ2 H1 (s1.s R R1) R2 kk
    · cases e
  · cases e
/-- x = a new list, x's own -/
def sOwn (i : Nat) (φ : FL) : FS := fun δ => match φ δ with
  | some (ds, δ1) => if i < δ1.length then some (.nx (δ1.set i (.own ds))) else none
  | none => none
theorem hide_cg {F : Fm} {L : List Addr} {p : Addr} : ∀ a, a ∈ (F.hide p).B ++ L ↔ a ∈ F.B ++ (p :: L) := fun a => by
  show a ∈ p :: (F.B ++ L) ↔ _
  simp only [List.mem_append, List.mem_cons]
  constructor
  · rintro (h | h | h)
    · exact .inr (.inl h)
    · exact .inl h
    · exact .inr (.inr h)
  · rintro (h | h | h)
    · exact .inr (.inl h)
    · exact .inl h
    · exact .inr (.inr h)
theorem EnvR.putOwn {F : Fm} {L : List Addr} {σ : St} {H : Hp} {δ : En} {p : Addr} {vs : List V} {ds : List PyData} {i : Nat} (R : EnvR K (F.hide p) L σ H δ) (mb : ∀ a, a ∈ F.M → a ∈ F.B) (hpB : ¬ p ∈ F.B) (hp : H p = some (.lst vs)) (hr : RpAll K (Msk ((F.hide p).B ++ L) H) vs ds) (hi : i < δ.length) :
    EnvR K F (p :: L) (σ.set i (some (.ref p))) H (δ.set i (.own ds)) := by
  have npl : ∀ a, a ∈ L → a ≠ p := fun a ha z => R.lb a ha (by rw [z]; exact List.mem_cons_self)
  have npm : ∀ a, a ∈ F.M → a ≠ p := fun a ha z => hpB (by rw [← z]; exact mb a ha)
  have old : ∀ (j : Nat) (e : EV), δ[j]? = some e → SlotR K F (p :: L) H σ[j]? e ∧ (e.mine = true → σ[j]? ≠ some (some (.ref p))) := fun j e h => by
    have := R.at_ j e h
    cases e with
    | un => exact ⟨trivial, fun z => nomatch z⟩
    | dat d =>
      obtain ⟨v, h1, h2⟩ := this
      rw [msk_congr hide_cg] at h2
      exact ⟨⟨v, h1, h2⟩, fun z => nomatch z⟩
    | own ds =>
      obtain ⟨l, vs, h1, h2, h3, h4⟩ := this
      rw [msk_congr hide_cg] at h4
      refine ⟨⟨l, vs, h1, List.mem_cons_of_mem _ h2, h3, h4⟩, fun _ z => ?_⟩
      rw [h1] at z
      cases z
      exact npl _ h2 rfl
    | odc ds =>
      obtain ⟨l, vs, h1, h2, h3, h4⟩ := this
      rw [msk_congr hide_cg] at h4
      refine ⟨⟨l, vs, h1, List.mem_cons_of_mem _ h2, h3, h4⟩, fun _ z => ?_⟩
      rw [h1] at z
      cases z
      exact npl _ h2 rfl
    | bag ds =>
      obtain ⟨l, vs, h1, h2, h3, h4⟩ := this
      rw [msk_congr hide_cg] at h4
      refine ⟨⟨l, vs, h1, h2, h3, h4⟩, fun _ z => ?_⟩
      rw [h1] at z
      cases z
      exact npm _ h2 rfl
  refine ⟨by rw [List.length_set, List.length_set, R.len], fun j e h => ?_, fun a b l e1 e2 hab h1 h2 m1 m2 s1 s2 => ?_, fun a ha => R.al a ((hide_cg a).mpr ha), mb, fun a ha => ?_⟩
  · rw [get_set] at h ⊢
    by_cases hij : i = j
    · rw [if_pos hij] at h ⊢
      subst hij
      rw [if_pos hi] at h
      rw [if_pos (by rw [R.len]; exact hi)]
      cases h
      rw [msk_congr hide_cg] at hr
      exact ⟨p, vs, rfl, List.mem_cons_self, hp, hr⟩
    · rw [if_neg hij] at h ⊢
      exact (old j e h).1
  · rw [get_set] at h1 h2 s1 s2
    by_cases ha : i = a
    · have hb : ¬ i = b := fun z => hab (ha.symm.trans z)
      rw [if_neg hb] at h2 s2
      rw [if_pos ha] at s1
      split at s1
      · cases s1
        exact (old b e2 h2).2 m2 s2
      · cases s1
    · rw [if_neg ha] at h1 s1
      by_cases hb : i = b
      · rw [if_pos hb] at s2
        split at s2
        · cases s2
          exact (old a e1 h1).2 m1 s1
        · cases s2
      · rw [if_neg hb] at h2 s2
        exact R.dis a b l e1 e2 hab h1 h2 m1 m2 s1 s2
  · rcases List.mem_cons.mp ha with z | z
    · rw [z]
      exact hpB
    · exact fun q => R.lb a z (List.mem_cons_of_mem _ q)
theorem ws_own {te : TE} {i : Nat} {φ : FL} (h : WL K te φ) : WS K (tAsg te (gName i)) [i] (sOwn i φ) := fun F L σ H δ o e R D k => by
  unfold sOwn at e
  split at e
  · next ds δ1 e1 =>
    by_cases hi : i < δ1.length
    · rw [if_pos hi] at e
      cases e
      refine h F L σ H δ ds δ1 e1 R _ fun p vs H2 hp s R2 h2 d2 => ?_
      have hn := R.fresh hp
      have hpB : ¬ p ∈ F.B := fun z => hn (List.mem_append.mpr (.inl z))
      refine k (p :: L) _ H2 ⟨s, fun a ha => ?_, (s.s R (R2.show R.mb)).kp⟩ (R2.putOwn R.mb hpB h2 d2 hi) (fun j hj => by rw [get_set, if_neg (fun z => hj (by rw [z]; exact List.mem_singleton.mpr rfl))])
      rcases List.mem_cons.mp ha with z | z
      · rw [z]
        exact .inr hp
      · exact .inl z
    · rw [if_neg hi] at e
      cases e
  · cases e
def EV.cont : EV → Option (List PyData)
  | .own ds => some ds
  | .bag ds => some ds
  | _ => none
def EV.lm : EV → Bool
  | .own _ => true
  | .bag _ => true
  | _ => false
theorem EV.lm_mine : ∀ {e : EV}, e.lm = true → e.mine = true
  | .own _, _ => rfl
  | .bag _, _ => rfl
  | .un, h => nomatch h
  | .dat _, h => nomatch h
  | .odc _, h => nomatch h
def EV.with : EV → List PyData → EV
  | .own _, ds => .own ds
  | .bag _, ds => .bag ds
  | e, _ => e
def ownAt (δ : En) (i : Nat) : Option (List PyData) := match δ[i]? with
  | some e => e.cont
  | none => none
def setOwn (δ : En) (i : Nat) (ds : List PyData) : En := match δ[i]? with
  | some e => δ.set i (e.with ds)
  | none => δ
theorem own_at {F : Fm} {L : List Addr} {σ : St} {H : Hp} {δ : En} (R : EnvR K F L σ H δ) {i : Nat} {ds : List PyData} (h : ownAt δ i = some ds) : ∃ e l vs, δ[i]? = some e ∧ e.lm = true ∧ σ[i]? = some (some (.ref l)) ∧ l ∈ F.M ++ L ∧ H l = some (.lst vs) ∧ RpAll K (Msk (F.B ++ L) H) vs ds := by
  unfold ownAt at h
  split at h
  · next e he =>
    have := R.at_ i e he
    cases e with
    | own ds' =>
      cases h
      obtain ⟨l, vs, h1, h2, h3, h4⟩ := this
      exact ⟨_, l, vs, he, rfl, h1, List.mem_append.mpr (.inr h2), h3, h4⟩
    | bag ds' =>
      cases h
      obtain ⟨l, vs, h1, h2, h3, h4⟩ := this
      exact ⟨_, l, vs, he, rfl, h1, List.mem_append.mpr (.inl h2), h3, h4⟩
    | _ => cases h
  · cases h
/-- an own list has changed, and perhaps more is there -/
theorem EnvR.updOwn {F : Fm} {L : List Addr} {σ : St} {H H' : Hp} {δ : En} {i : Nat} {l : Addr} {e : EV} {vs : List V} {ds : List PyData} (R : EnvR K F L σ H δ) (he : δ[i]? = some e) (hm0 : e.lm = true) (hs : σ[i]? = some (some (.ref l))) (hl : l ∈ F.M ++ L)
    (x : Ex (Msk [l] H) (Msk [l] H')) (h' : H' l = some (.lst vs)) (hr : RpAll K (Msk (F.B ++ L) H') vs ds) : EnvR K F L σ H' (setOwn δ i ds) ∧ Stp F L H H' := by
  have hm : e.mine = true := EV.lm_mine hm0
  have st : Stp F L H H' := msk_ex x (fun a ha => by rw [List.mem_singleton.mp ha]; exact hl)
  have eo : setOwn δ i ds = δ.set i (e.with ds) := by
    unfold setOwn
    rw [he]
  have hil : i < δ.length := (List.getElem?_eq_some_iff.mp he).1
  have xa : ∀ a o, a ≠ l → H a = some o → H' a = some o := fun a o ne ho => by
    have nm : ¬ a ∈ [l] := fun z => ne (List.mem_singleton.mp z)
    have := x a o (by rw [msk_out nm]; exact ho)
    exact (msk_some this).2
  refine ⟨?_, st⟩
  rw [eo]
  refine ⟨by rw [List.length_set]; exact R.len, fun j e' h => ?_, fun a b l' e1 e2 hab h1 h2 m1 m2 s1 s2 => ?_, fun a ha => ?_, R.mb, R.lb⟩
  · rw [get_set] at h
    by_cases hij : i = j
    · subst hij
      rw [if_pos rfl, if_pos hil] at h
      have ha := R.at_ i e he
      cases e with
      | own ds' =>
        cases h
        obtain ⟨l2, vs2, k1, k2, k3, k4⟩ := ha
        rw [hs] at k1
        cases k1
        exact ⟨l, vs, hs, k2, h', hr⟩
      | bag ds' =>
        cases h
        obtain ⟨l2, vs2, k1, k2, k3, k4⟩ := ha
        rw [hs] at k1
        cases k1
        exact ⟨l, vs, hs, k2, h', hr⟩
      | _ => cases hm0
    · rw [if_neg hij] at h
      have ha := R.at_ j e' h
      cases e' with
      | un => trivial
      | dat d =>
        obtain ⟨v, k1, k2⟩ := ha
        exact ⟨v, k1, st.dat R.sub k2⟩
      | own ds' =>
        obtain ⟨l2, vs2, k1, k2, k3, k4⟩ := ha
        have ne : l2 ≠ l := fun z => by
          subst z
          exact R.dis i j l2 e _ hij he h hm rfl hs k1
        exact ⟨l2, vs2, k1, k2, xa _ _ ne k3, st.all R.sub k4⟩
      | odc ds' =>
        obtain ⟨l2, vs2, k1, k2, k3, k4⟩ := ha
        have ne : l2 ≠ l := fun z => by
          subst z
          exact R.dis i j l2 e _ hij he h hm rfl hs k1
        exact ⟨l2, vs2, k1, k2, xa _ _ ne k3, st.kvs R.sub k4⟩
      | bag ds' =>
        obtain ⟨l2, vs2, k1, k2, k3, k4⟩ := ha
        have ne : l2 ≠ l := fun z => by
          subst z
          exact R.dis i j l2 e _ hij he h hm rfl hs k1
        exact ⟨l2, vs2, k1, k2, xa _ _ ne k3, st.all R.sub k4⟩
  · rw [get_set] at h1 h2
    have back : ∀ (c : Nat) (ec : EV), (if i = c then if c < δ.length then some (e.with ds) else none else δ[c]?) = some ec → ec.mine = true → ∃ ec', δ[c]? = some ec' ∧ ec'.mine = true := fun c ec hc mc => by
      by_cases z : i = c
      · subst z
        exact ⟨e, he, hm⟩
      · rw [if_neg z] at hc
        exact ⟨ec, hc, mc⟩
    obtain ⟨f1, g1, n1⟩ := back a e1 h1 m1
    obtain ⟨f2, g2, n2⟩ := back b e2 h2 m2
    exact R.dis a b l' f1 f2 hab g1 g2 n1 n2 s1 s2
  · by_cases z : a = l
    · rw [z, h']
      exact fun q => nomatch q
    · cases q : H a with
      | none => exact absurd q (R.al a ha)
      | some o =>
        rw [xa a o z q]
        exact fun q => nomatch q
theorem upd_ex1 {H : Hp} {l : Addr} {o : HO} : Ex (Msk [l] H) (Msk [l] (upd H l o)) := by
  rw [msk_upd (List.mem_singleton.mpr rfl)]
  exact Ex.refl _
theorem EnvR.upd1 {F : Fm} {L : List Addr} {σ : St} {H : Hp} {δ : En} {i : Nat} {l : Addr} {e : EV} {vs : List V} {ds : List PyData} (R : EnvR K F L σ H δ) (he : δ[i]? = some e) (hm0 : e.lm = true) (hs : σ[i]? = some (some (.ref l))) (hl : l ∈ F.M ++ L)
    (hr : RpAll K (Msk (F.B ++ L) H) vs ds) : EnvR K F L σ (upd H l (.lst vs)) (setOwn δ i ds) ∧ Stp F L H (upd H l (.lst vs)) :=
  R.updOwn he hm0 hs hl upd_ex1 upd_same (by rw [msk_upd (R.sub l hl)]; exact hr)
/-- xs.append(e) -/
def sApp (i : Nat) (φ : FE) : FS := fun δ => match ownAt δ i with
  | some _ => match φ δ with
    | some (d, δ1) => match ownAt δ1 i with
      | some ds => if ds.length < 50000 then some (.nx (setOwn δ1 i (ds ++ [d]))) else none
      | none => none
    | none => none
  | none => none
theorem ws_app {te : TE} {i : Nat} {φ : FE} (h : WE K te φ) : WS K (tDrop (tBM K "list" rAppend (tVar i) (tCons te tNil))) [] (sApp i φ) := fun F L σ H δ o e R D k => by
  unfold sApp at e
  split at e
  · next ds0 e0 =>
    split at e
    · next d δ1 e1 =>
      split at e
      · next ds e2 =>
        by_cases hz : ds.length < 50000
        · rw [if_pos hz] at e
          cases e
          obtain ⟨ev, l, vs, he, hm, hs, hl, h1, hr⟩ := own_at R e0
          refine ⟨_, hs, .inl ⟨rfl, vs, sq_of h1⟩, h F L σ H δ d δ1 e1 R _ fun v H1 s1 R1 d1 => ?_⟩
          obtain ⟨ev', l', vs', he', hm', hs', hl', h1', hr'⟩ := own_at R1 e2
          rw [hs] at hs'
          cases hs'
          obtain ⟨R2, s2⟩ := R1.upd1 he' hm' hs hl' (hr'.app (.cons d1 .nil))
          refine ⟨l, vs', v, rfl, rfl, h1', sz_lt (by rw [hr'.len]; omega), k L σ _ ((s1.trans s2).s R R2) R2 fun _ _ => rfl⟩
        · rw [if_neg hz] at e
          cases e
      · cases e
    · cases e
  · cases e
/-- xs.extend(e) -/
def sExt (i : Nat) (φ : FE) : FS := fun δ => match ownAt δ i with
  | some _ => match φ δ with
    | some (.list zs, δ1) => match ownAt δ1 i with
      | some ds => if ds.length + zs.length < 50000 then some (.nx (setOwn δ1 i (ds ++ zs))) else none
      | none => none
    | _ => none
  | none => none
theorem ws_ext {te : TE} {i : Nat} {φ : FE} (h : WE K te φ) : WS K (tDrop (tBM K "list" rExtend (tVar i) (tCons te tNil))) [] (sExt i φ) := fun F L σ H δ o e R D k => by
  unfold sExt at e
  split at e
  · next ds0 e0 =>
    split at e
    · next zs δ1 e1 =>
      split at e
      · next ds e2 =>
        by_cases hz : ds.length + zs.length < 50000
        · rw [if_pos hz] at e
          cases e
          obtain ⟨ev, l, vs, he, hm, hs, hl, h1, hr⟩ := own_at R e0
          refine ⟨_, hs, .inl ⟨rfl, vs, sq_of h1⟩, h F L σ H δ _ δ1 e1 R _ fun v H1 s1 R1 d1 => ?_⟩
          obtain ⟨ev', l', vs', he', hm', hs', hl', h1', hr'⟩ := own_at R1 e2
          rw [hs] at hs'
          cases hs'
          cases d1 with
          | @lst b ws _ k1 k2 =>
            obtain ⟨R2, s2⟩ := R1.upd1 he' hm' hs hl' (hr'.app k2)
            refine ⟨l, b, vs', ws, rfl, rfl, h1', (msk_some k1).2, sz_of (by rw [hr'.len, k2.len]; omega), k L σ _ ((s1.trans s2).s R R2) R2 fun _ _ => rfl⟩
        · rw [if_neg hz] at e
          cases e
      · cases e
    · cases e
  · cases e
/-- xs.insert(i, e) -/
abbrev rIns : V → List V → Hp → VK → Prop := fun x vs H Q => ∃ (l : Addr) (xs : List V) (i : Int) (y : V), x = .ref l ∧ vs = [.int i, y] ∧ H l = some (.lst xs) ∧ xs.length < sizeLine ∧ 0 ≤ i ∧ i < 2 ^ 63 ∧
    Q .non (upd H l (.lst (xs.take i.toNat ++ [y] ++ xs.drop i.toNat)))
def sIns (i : Nat) (φ ψ : FE) : FS := fun δ => match ownAt δ i with
  | some _ => match φ δ with
    | some (.int j, δ1) => match ψ δ1 with
      | some (d, δ2) => match ownAt δ2 i with
        | some ds => if ds.length < 50000 ∧ 0 ≤ j ∧ j < 50000 then some (.nx (setOwn δ2 i (ds.take j.toNat ++ [d] ++ ds.drop j.toNat))) else none
        | none => none
      | none => none
    | _ => none
  | none => none
theorem ws_ins {ta tb : TE} {i : Nat} {φ ψ : FE} (h : WE K ta φ) (h' : WE K tb ψ) : WS K (tDrop (tBM K "list" rIns (tVar i) (tCons ta (tCons tb tNil)))) [] (sIns i φ ψ) := fun F L σ H δ o e R D k => by
  unfold sIns at e
  split at e
  · next ds0 e0 =>
    split at e
    · next j δ1 e1 =>
      split at e
      · next d δ2 e2 =>
        split at e
        · next ds e3 =>
          by_cases hz : ds.length < 50000 ∧ 0 ≤ j ∧ j < 50000
          · rw [if_pos hz] at e
            cases e
            obtain ⟨ev, l, vs, he, hm, hs, hl, h1, hr⟩ := own_at R e0
            refine ⟨_, hs, .inl ⟨rfl, vs, sq_of h1⟩, h F L σ H δ _ δ1 e1 R _ fun v H1 s1 R1 d1 => ?_⟩
            refine h' F L σ H1 δ1 d δ2 e2 R1 _ fun w H2 s2 R2 d2 => ?_
            obtain ⟨ev', l', vs', he', hm', hs', hl', h1', hr'⟩ := own_at R2 e3
            rw [hs] at hs'
            cases hs'
            cases d1
            obtain ⟨R3, s3⟩ := R2.upd1 he' hm' hs hl' (((hr'.take j.toNat).app (.cons d2 .nil)).app (hr'.drop j.toNat))
            exact ⟨l, vs', j, w, rfl, rfl, h1', sz_lt (by rw [hr'.len]; omega), hz.2.1, by omega, k L σ _ (((s1.trans s2).trans s3).s R R3) R3 fun _ _ => rfl⟩
          · rw [if_neg hz] at e
            cases e
        · cases e
      · cases e
    · cases e
  · cases e
/-- xs[i] = e -/
def sSetIx (i : Nat) (φ ψ : FE) : FS := fun δ => match φ δ with
  | some (d, δ1) => match ownAt δ1 i with
    | some _ => match ψ δ1 with
      | some (.int j, δ2) => match ownAt δ2 i with
        | some ds => match ixN ds.length j with
          | some n => some (.nx (setOwn δ2 i (ds.set n d)))
          | none => none
        | none => none
      | _ => none
    | none => none
  | none => none
theorem ws_setIx {te ti : TE} {i : Nat} {φ ψ : FE} (h : WE K te φ) (h' : WE K ti ψ) : WS K (tAsg te (gSub (tVar i) ti rSetL)) [] (sSetIx i φ ψ) := fun F L σ H δ o e R D k => by
  unfold sSetIx at e
  split at e
  · next d δ1 e1 =>
    split at e
    · next ds0 e0 =>
      split at e
      · next j δ2 e2 =>
        split at e
        · next ds e3 =>
          split at e
          · next n e4 =>
            cases e
            refine h F L σ H δ d δ1 e1 R _ fun v H1 s1 R1 d1 => ?_
            obtain ⟨ev, l, vs, he, hm, hs, hl, h1, hr⟩ := own_at R1 e0
            refine ⟨_, hs, h' F L σ H1 δ1 _ δ2 e2 R1 _ fun w H2 s2 R2 d2 => ?_⟩
            obtain ⟨ev', l', vs', he', hm', hs', hl', h1', hr'⟩ := own_at R2 e3
            rw [hs] at hs'
            cases hs'
            cases d2
            obtain ⟨R3, s3⟩ := R2.upd1 he' hm' hs hl' (hr'.set n (s2.dat R1.sub d1))
            exact ⟨l, vs', j, n, rfl, rfl, h1', by rw [hr'.len]; exact e4, k L σ _ (((s1.trans s2).trans s3).s R R3) R3 fun _ _ => rfl⟩
          · cases e
        · cases e
      · cases e
    · cases e
  · cases e
/-- xs[e] of an own list, xs[a:b] -/
def fIxO (i : Nat) (φ : FE) : FE := fun δ => match ownAt δ i with
  | some _ => match φ δ with
    | some (.int j, δ1) => match ownAt δ1 i with
      | some ds => match atI ds j with
        | some d => some (d, δ1)
        | none => none
      | none => none
    | _ => none
  | none => none
theorem we_ixO {ti : TE} {i : Nat} {φ : FE} (h : WE K ti φ) : WE K (tOp (rIx K) (tVar i) ti) (fIxO i φ) := fun F L σ H δ d δ' e R Q q => by
  unfold fIxO at e
  split at e
  · next ds0 e0 =>
    split at e
    · next j δ1 e1 =>
      split at e
      · next ds e2 =>
        split at e
        · next d' e3 =>
          cases e
          obtain ⟨ev, l, vs, he, hm, hs, hl, h1, hr⟩ := own_at R e0
          refine ⟨_, hs, h F L σ H δ _ _ e1 R _ fun v H1 s1 R1 d1 => ?_⟩
          obtain ⟨ev', l', vs', he', hm', hs', hl', h1', hr'⟩ := own_at R1 e2
          rw [hs] at hs'
          cases hs'
          cases d1
          obtain ⟨v, hv, rv⟩ := atI_of hr' e3
          exact .inl ⟨l, vs', j, v, rfl, rfl, sq_of h1', hv, q v H1 s1 R1 rv⟩
        · cases e
      · cases e
    · cases e
  · cases e
def fSlO (i : Nat) (lo hi : FO) : FE := fun δ => match ownAt δ i with
  | some _ => match lo δ with
    | some (l, δ1) => match hi δ1 with
      | some (u, δ2) => match ownAt δ2 i with
        | some ds => some (.list (cutD ds l u), δ2)
        | none => none
      | none => none
    | none => none
  | none => none
theorem we_slO {tl th : TO} {i : Nat} {lo hi : FO} (hl : WO K tl lo) (hh : WO K th hi) : WE K (tSl (rSlA3 K) (tVar i) tl th) (fSlO i lo hi) := fun F L σ H δ d δ' e R Q q => by
  unfold fSlO at e
  split at e
  · next ds0 e0 =>
    split at e
    · next a δ1 e1 =>
      split at e
      · next b δ2 e2 =>
        split at e
        · next ds e3 =>
          cases e
          obtain ⟨ev, l, vs, he, hm, hs, hl', h1, hr⟩ := own_at R e0
          refine ⟨_, hs, hl F L σ H δ _ _ e1 R _ fun H1 s1 R1 => ?_⟩
          refine hh F L σ H1 δ1 _ _ e2 R1 _ fun H2 s2 R2 => ?_
          obtain ⟨ev', l', vs', he', hm', hs', hl'', h1', hr'⟩ := own_at R2 e3
          rw [hs] at hs'
          cases hs'
          refine .inl ⟨l, vs', rfl, sq_of h1', fun p hp => ?_⟩
          exact q _ _ ((s1.trans s2).trans (Stp.of_ex (Ex.new hp))) (R2.ex (Ex.new hp)) (new_lst (R2.fresh hp) (cut_of hr' _ _) hp)
        · cases e
      · cases e
    · cases e
  · cases e
end
end Sm
namespace Sm
open PySem L2 Evl RZ

section
variable {K : PySem.W.Frag}
def sRet (φ : FE) : FS := fun δ => match φ δ with
  | some (d, δ1) => some (.rt d δ1)
  | none => none
theorem ws_ret {te : TE} {φ : FE} (h : WE K te φ) : WS K (tRet te) [] (sRet φ) := fun F L σ H δ o e R D k => by
  unfold sRet at e
  split at e
  · next d δ1 e1 =>
    cases e
    exact h F L σ H δ d δ1 e1 R _ fun v H1 s1 R1 d1 => k L σ H1 v (s1.s R R1) R1 d1
  · cases e
/-- a new list is handed back -/
def sRetL (φ : FL) : FS := fun δ => match φ δ with
  | some (d, δ1) => some (.rl d δ1)
  | none => none
theorem ws_retL {te : TE} {φ : FL} (h : WL K te φ) : WS K (tRet te) [] (sRetL φ) := fun F L σ H δ o e R D k => by
  unfold sRetL at e
  split at e
  · next d δ1 e1 =>
    cases e
    refine h F L σ H δ d δ1 e1 R _ fun p vs H1 hp s1 R1 h1 d1 => ?_
    have R1' := R1.show R.mb
    exact k L σ H1 p vs (s1.s R R1') R1' (.inr hp) (R.fresh hp) h1 d1
  · cases e
/-- an own list is handed back -/
def sRetO (i : Nat) : FS := fun δ => match δ[i]? with
  | some (.own ds) => some (.rl ds (δ.set i .un))
  | _ => none
theorem filt_sub {L : List Addr} {l a : Addr} (h : a ∈ L.filter (· != l)) : a ∈ L ∧ a ≠ l := by
  rw [List.mem_filter] at h
  exact ⟨h.1, by simpa using h.2⟩
theorem filt_in {L : List Addr} {l a : Addr} (h : a ∈ L) (hn : a ≠ l) : a ∈ L.filter (· != l) := by
  rw [List.mem_filter]
  exact ⟨h, by simpa using hn⟩
/-- an own list becomes data -/
theorem EnvR.freeze {F : Fm} {L : List Addr} {σ : St} {H : Hp} {δ : En} (R : EnvR K F L σ H δ) {i : Nat} {ds : List PyData} (h : δ[i]? = some (.own ds)) : ∃ l vs, σ[i]? = some (some (.ref l)) ∧ l ∈ L ∧ H l = some (.lst vs) ∧ RpAll K (Msk (l :: (F.B ++ L.filter (· != l))) H) vs ds ∧ ¬ l ∈ F.B ++ L.filter (· != l) ∧
    ∀ e : EV, e.mine = false → SlotR K F (L.filter (· != l)) H (some (some (.ref l))) e → EnvR K F (L.filter (· != l)) σ H (δ.set i e) := by
  obtain ⟨l, vs, h1, h2, h3, h4⟩ := R.at_ i _ h
  have hil : i < δ.length := (List.getElem?_eq_some_iff.mp h).1
  have cg : ∀ a, a ∈ F.B ++ L ↔ a ∈ l :: (F.B ++ L.filter (· != l)) := fun a => by
    simp only [List.mem_append, List.mem_cons]
    constructor
    · rintro (z | z)
      · exact .inr (.inl z)
      · by_cases q : a = l
        · exact .inl q
        · exact .inr (.inr (filt_in z q))
    · rintro (z | z | z)
      · rw [z]
        exact .inr h2
      · exact .inl z
      · exact .inr (filt_sub z).1
  have nl : ¬ l ∈ F.B ++ L.filter (· != l) := fun z => by
    rcases List.mem_append.mp z with z | z
    · exact R.lb l h2 z
    · exact (filt_sub z).2 rfl
  have xm : Ex (Msk (F.B ++ L) H) (Msk (F.B ++ L.filter (· != l)) H) := msk_sub fun a ha => by
    rcases List.mem_append.mp ha with z | z
    · exact List.mem_append.mpr (.inl z)
    · exact List.mem_append.mpr (.inr (filt_sub z).1)
  refine ⟨l, vs, h1, h2, h3, by rw [← msk_congr cg]; exact h4, nl, fun e hm he => ⟨by rw [List.length_set]; exact R.len, fun j e' hj => ?_, fun a b l' e1 e2 hab k1 k2 m1 m2 s1 s2 => ?_, fun a ha => ?_, R.mb, fun a ha => R.lb a (filt_sub ha).1⟩⟩
  · rw [get_set] at hj
    by_cases hij : i = j
    · subst hij
      rw [if_pos rfl, if_pos hil] at hj
      cases hj
      rw [h1]
      exact he
    · rw [if_neg hij] at hj
      have ha := R.at_ j e' hj
      cases e' with
      | un => trivial
      | dat d =>
        obtain ⟨v, k1, k2⟩ := ha
        exact ⟨v, k1, Rp.mono xm _ _ k2⟩
      | own ds' =>
        obtain ⟨l2, vs2, k1, k2, k3, k4⟩ := ha
        have ne : l2 ≠ l := fun z => by
          subst z
          exact R.dis i j l2 _ _ hij h hj rfl rfl h1 k1
        exact ⟨l2, vs2, k1, filt_in k2 ne, k3, RpAll.mono xm _ _ k4⟩
      | odc ds' =>
        obtain ⟨l2, vs2, k1, k2, k3, k4⟩ := ha
        have ne : l2 ≠ l := fun z => by
          subst z
          exact R.dis i j l2 _ _ hij h hj rfl rfl h1 k1
        exact ⟨l2, vs2, k1, filt_in k2 ne, k3, RpKV.mono xm _ _ k4⟩
      | bag ds' =>
        obtain ⟨l2, vs2, k1, k2, k3, k4⟩ := ha
        exact ⟨l2, vs2, k1, k2, k3, RpAll.mono xm _ _ k4⟩
  · rw [get_set] at k1 k2
    by_cases ha : i = a
    · rw [if_pos ha] at k1
      split at k1
      · cases k1
        rw [hm] at m1
        cases m1
      · cases k1
    · by_cases hb : i = b
      · rw [if_pos hb] at k2
        split at k2
        · cases k2
          rw [hm] at m2
          cases m2
        · cases k2
      · rw [if_neg ha] at k1
        rw [if_neg hb] at k2
        exact R.dis a b l' e1 e2 hab k1 k2 m1 m2 s1 s2
  · exact R.al a (by
      rcases List.mem_append.mp ha with z | z
      · exact List.mem_append.mpr (.inl z)
      · exact List.mem_append.mpr (.inr (filt_sub z).1))
theorem ws_retO {i : Nat} : WS K (tRet (tVar i)) [] (sRetO i) := fun F L σ H δ o e R D k => by
  unfold sRetO at e
  split at e
  · next ds h =>
    cases e
    obtain ⟨l, vs, h1, h2, h3, h4, h5, h6⟩ := R.freeze h
    exact ⟨_, h1, k (L.filter (· != l)) σ H l vs ⟨Ex.refl _, fun a ha => .inl (filt_sub ha).1, fun _ z => z⟩ (h6 .un rfl trivial) (.inl h2) h5 h3 h4⟩
  · cases e
/-- from here on an own list is data -/
def sFrz (i : Nat) (φ : FS) : FS := fun δ => match δ[i]? with
  | some (.own ds) => φ (δ.set i (.dat (.list ds)))
  | _ => none
theorem ws_frz {t : TS} {ws : List Nat} {i : Nat} {φ : FS} (h : WS K t ws φ) : WS K t ws (sFrz i φ) := fun F L σ H δ o e R D k => by
  unfold sFrz at e
  split at e
  · next ds hd =>
    obtain ⟨l, vs, h1, h2, h3, h4, h5, h6⟩ := R.freeze hd
    have s : StpS F L H (L.filter (· != l)) H := ⟨Ex.refl _, fun a ha => .inl (filt_sub ha).1, fun _ z => z⟩
    refine h F _ σ H _ o e (h6 (.dat (.list ds)) rfl ⟨_, rfl, .lst (by rw [msk_out h5]; exact h3) (RpAll.mono (msk_sub fun a ha => List.mem_cons_of_mem _ ha) _ _ h4)⟩) D (Ok.bk0 R s (fun _ z => z) k)
  · cases e
def sDrop (φ : FE) : FS := fun δ => match φ δ with
  | some (_, δ1) => some (.nx δ1)
  | none => none
theorem ws_drop {te : TE} {φ : FE} (h : WE K te φ) : WS K (tDrop te) [] (sDrop φ) := fun F L σ H δ o e R D k => by
  unfold sDrop at e
  split at e
  · next d δ1 e1 =>
    cases e
    exact h F L σ H δ d δ1 e1 R _ fun v H1 s1 R1 d1 => k L σ H1 (s1.s R R1) R1 fun _ _ => rfl
  · cases e
def sIf (τ : FT) (φ ψ : FS) : FS := fun δ => match τ δ with
  | some (true, δ1) => φ δ1
  | some (false, δ1) => ψ δ1
  | none => none
theorem ws_if {tt : TT} {t u : TS} {ws vs : List Nat} {τ : FT} {φ ψ : FS} (h : WT K tt τ) (h1 : WS K t ws φ) (h2 : WS K u vs ψ) : WS K (tIfS tt t u) (ws ++ vs) (sIf τ φ ψ) := fun F L σ H δ o e R D k => by
  unfold sIf at e
  split at e
  · next δ1 e1 =>
    refine h F L σ H δ true δ1 e1 R _ fun H1 s1 R1 => ?_
    rw [if_pos rfl]
    exact h1 F L σ H1 δ1 o e R1 D (Ok.bk0 R (s1.s R R1) in_l k)
  · next δ1 e1 =>
    refine h F L σ H δ false δ1 e1 R _ fun H1 s1 R1 => ?_
    rw [if_neg Bool.false_ne_true]
    exact h2 F L σ H1 δ1 o e R1 D (Ok.bk0 R (s1.s R R1) in_r k)
  · cases e
/-- a, b = e, f -/
def sPar (i j : Nat) (φ : FL) : FS := fun δ => match φ δ with
  | some ([x, y], δ1) => some (.nx ((δ1.set i (.dat x)).set j (.dat y)))
  | _ => none
theorem ws_par {ta : TA} {i j : Nat} {φ : FL} (h : WA K ta φ) : WS K (tPar i j ta) [i, j] (sPar i j φ) := fun F L σ H δ o e R D k => by
  unfold sPar at e
  split at e
  · next x y δ1 e1 =>
    cases e
    refine h F L σ H δ _ δ1 e1 R _ fun vs H1 s1 R1 d1 => ?_
    cases d1 with
    | cons r1 r2 =>
      cases r2 with
      | cons r3 r4 =>
        cases r4
        exact ⟨_, _, rfl, k L _ H1 (s1.s R R1) ((R1.put i r1).put j r3) fun m hm => by rw [get_set, if_neg (fun z => hm (by rw [z]; simp)), get_set, if_neg (fun z => hm (by rw [z]; simp))]⟩
  · cases e
/-! ### loops -/
def loopF (γ : FG) (β : FS) : List PyData → En → Option Out
  | [], δ => some (.nx δ)
  | d :: ds, δ => match γ d δ with
    | some δ2 => match β δ2 with
      | some (.nx δ3) => loopF γ β ds δ3
      | some (.ct δ3) => loopF γ β ds δ3
      | some (.bk δ3) => some (.nx δ3)
      | some (.rt v δ3) => some (.rt v δ3)
      | some (.rl v δ3) => some (.rl v δ3)
      | none => none
    | none => none
def sFor (φ : FL) (γ : FG) (β : FS) : FS := fun δ => match φ δ with
  | some (ds, δ1) => loopF γ β ds δ1
  | none => none
theorem ws_for {wi : TI} {g : TG} {tb : TS} {js ws : List Nat} {φ : FL} {γ : FG} {β : FS} (hi : WI K wi φ) (hg : WG K g js γ) (hb : WS K tb ws β) : WS K (tFor wi g tb) (js ++ ws) (sFor φ γ β) := fun F L σ H δ o e R D k => by
  unfold sFor at e
  split at e
  · next ds δ1 e1 =>
    refine hi F L σ H δ ds δ1 e1 R _ fun J H1 s1 R1 it => ?_
    have k1 := Ok.bk0 (ws2 := js ++ ws) R (s1.s R R1) (fun _ z => z) k
    refine ⟨fun i m σ' H' => m = ds.length - i ∧ ∃ L' δ', StpS F L H1 L' H' ∧ EnvR K F L' σ' H' δ' ∧ loopF γ β (ds.drop i) δ' = some o ∧ ∀ j, ¬ j ∈ js ++ ws → σ'[j]? = σ[j]?, ⟨ds.length, by omega, L, δ1, StpS.refl, R1, by rw [List.drop_zero]; exact e, fun _ _ => rfl⟩, ?_⟩
    rintro i m σ' H' ⟨rfl, L', δ', s, R', el, kk⟩
    have xx : Ex (Msk (F.B ++ L) H1) (Msk (F.B ++ L') H') := fun a u ea => by
      obtain ⟨h1, h2⟩ := msk_some ea
      have nm : ¬ a ∈ F.M ++ L := fun z => h1 (R1.sub a z)
      have h3 := (msk_some (s.ex a u (by rw [msk_out nm]; exact h2))).2
      rw [msk_out (fun z => by
        rcases List.mem_append.mp z with z | z
        · exact h1 (List.mem_append.mpr (.inl z))
        · rcases s.nw a z with q | q
          · exact h1 (List.mem_append.mpr (.inr q))
          · rw [h2] at q
            cases q)]
      exact h3
    by_cases hlt : i < ds.length
    · have hd : ds[i]? = some ds[i] := List.getElem?_eq_getElem hlt
      obtain ⟨go, yl⟩ := it.go L' H' xx R'.fr i _ hd
      rw [List.drop_eq_getElem_cons hlt] at el
      refine .inr ⟨go, fun σ5 H5 => ∃ L' δ', StpS F L H1 L' H5 ∧ EnvR K F L' σ5 H5 δ' ∧ loopF γ β (ds.drop (i + 1)) δ' = some o ∧ ∀ j, ¬ j ∈ js ++ ws → σ5[j]? = σ[j]?, fun σ5 H5 hN => ⟨ds.length - (i + 1), by omega, rfl, hN⟩, fun y H2 hy => ?_⟩
      obtain ⟨x2, ry⟩ := yl y H2 hy
      have s2 : StpS F L H1 L' H2 := s.trans ((Stp.of_ex x2).s R' (R'.ex x2)) R1.live
      unfold loopF at el
      split at el
      · next δ2 eg =>
        refine hg F L' σ' H2 δ' y _ δ2 eg (R'.ex x2) ry _ fun σ2 _ kg Rg => ?_
        have kk2 : ∀ j, ¬ j ∈ js ++ ws → σ2[j]? = σ[j]? := fun j hj => (kg j fun z => hj (in_l j z)).trans (kk j hj)
        have kk3 : ∀ {σ3 : St}, (∀ j, ¬ j ∈ ws → σ3[j]? = σ2[j]?) → ∀ j, ¬ j ∈ js ++ ws → σ3[j]? = σ[j]? := fun z j hj => (z j fun q => hj (in_r j q)).trans (kk2 j hj)
        split at el
        · next δ3 eb =>
          exact hb F L' σ2 H2 δ2 _ eb Rg _ fun L3 σ3 H3 s3 R3 z3 => ⟨L3, δ3, s2.trans s3 R1.live, R3, el, kk3 z3⟩
        · next δ3 eb =>
          exact hb F L' σ2 H2 δ2 _ eb Rg _ fun L3 σ3 H3 s3 R3 z3 => ⟨L3, δ3, s2.trans s3 R1.live, R3, el, kk3 z3⟩
        · next δ3 eb =>
          cases el
          exact hb F L' σ2 H2 δ2 _ eb Rg _ fun L3 σ3 H3 s3 R3 z3 => k1 L3 σ3 H3 (s2.trans s3 R1.live) R3 (kk3 z3)
        · next v δ3 eb =>
          cases el
          exact hb F L' σ2 H2 δ2 _ eb Rg _ (Ok.back (o := .rt v δ3) R1 s2 kk2 (fun _ z => z) in_r k1)
        · next v δ3 eb =>
          cases el
          exact hb F L' σ2 H2 δ2 _ eb Rg _ (Ok.back (o := .rl v δ3) R1 s2 kk2 (fun _ z => z) in_r k1)
        · cases el
      · cases el
    · rw [List.drop_eq_nil_of_le (by omega)] at el
      cases el
      exact .inl ⟨it.stop L' H' xx i (by omega), k1 L' σ' H' s R' kk⟩
  · cases e
def whl (τ : FT) (β : FS) : Nat → En → Option Out
  | 0, _ => none
  | n + 1, δ => match τ δ with
    | some (false, δ1) => some (.nx δ1)
    | some (true, δ1) => match β δ1 with
      | some (.nx δ2) => whl τ β n δ2
      | some (.ct δ2) => whl τ β n δ2
      | some (.bk δ2) => some (.nx δ2)
      | some (.rt v δ2) => some (.rt v δ2)
      | some (.rl v δ2) => some (.rl v δ2)
      | none => none
    | none => none
theorem whl_mono {τ : FT} {β : FS} : ∀ (n m : Nat) (δ : En) (o : Out), whl τ β n δ = some o → n ≤ m → whl τ β m δ = some o
  | 0, _, _, _, h, _ => by cases h
  | n + 1, 0, _, _, h, hm => by omega
  | n + 1, m + 1, δ, o, h, hm => by
    unfold whl at h ⊢
    split at h
    · next δ1 e => exact h
    · next δ1 e =>
      split at h
      · next δ2 e2 => exact whl_mono n m δ2 o h (by omega)
      · next δ2 e2 => exact whl_mono n m δ2 o h (by omega)
      · next δ2 e2 => exact h
      · next v δ2 e2 => exact h
      · next v δ2 e2 => exact h
      · cases h
    · cases h
open Classical in
noncomputable def sWhile (τ : FT) (β : FS) : FS := fun δ => if h : ∃ o n, whl τ β n δ = some o then some h.choose else none
theorem sWhile_of {τ : FT} {β : FS} {n : Nat} {δ : En} {o : Out} (h : whl τ β n δ = some o) : sWhile τ β δ = some o := by
  unfold sWhile
  have hx : ∃ o n, whl τ β n δ = some o := ⟨o, n, h⟩
  rw [dif_pos hx]
  obtain ⟨m, hm⟩ := hx.choose_spec
  have h1 := whl_mono n (max n m) δ o h (by omega)
  have h2 := whl_mono m (max n m) δ _ hm (by omega)
  rw [h1] at h2
  exact congrArg some (Option.some.inj h2).symm
theorem sWhile_some {τ : FT} {β : FS} {δ : En} {o : Out} (h : sWhile τ β δ = some o) : ∃ n, whl τ β n δ = some o := by
  unfold sWhile at h
  split at h
  · next hx =>
    cases h
    exact hx.choose_spec
  · cases h
theorem ws_while {tt : TT} {tb : TS} {ws : List Nat} {τ : FT} {β : FS} (ht : WT K tt τ) (hb : WS K tb ws β) : WS K (tWhile tt tb) ws (sWhile τ β) := fun F L σ H δ o e R D k => by
  obtain ⟨n, en⟩ := sWhile_some e
  refine ⟨fun m σ' H' => ∃ L' δ', StpS F L H L' H' ∧ EnvR K F L' σ' H' δ' ∧ whl τ β m δ' = some o ∧ ∀ j, ¬ j ∈ ws → σ'[j]? = σ[j]?, ⟨n, L, δ, StpS.refl, R, en, fun _ _ => rfl⟩, ?_⟩
  rintro m σ' H' ⟨L', δ', s, R', ew, kk⟩
  cases m with
  | zero => cases ew
  | succ m =>
    unfold whl at ew
    split at ew
    · next δ1 et =>
      cases ew
      refine ht F L' σ' H' δ' false δ1 et R' _ fun H1 s1 R1 => ?_
      rw [if_neg Bool.false_ne_true]
      exact k L' σ' H1 (s.trans (s1.s R' R1) R.live) R1 kk
    · next δ1 et =>
      refine ht F L' σ' H' δ' true δ1 et R' _ fun H1 s1 R1 => ?_
      rw [if_pos rfl]
      have s2 := s.trans (s1.s R' R1) R.live
      refine ⟨fun σ5 H5 => ∃ L' δ', StpS F L H L' H5 ∧ EnvR K F L' σ5 H5 δ' ∧ whl τ β m δ' = some o ∧ ∀ j, ¬ j ∈ ws → σ5[j]? = σ[j]?, fun σ5 H5 hN => ⟨m, by omega, hN⟩, ?_⟩
      split at ew
      · next δ2 eb => exact hb F L' σ' H1 δ1 _ eb R1 _ fun L3 σ3 H3 s3 R3 z3 => ⟨L3, δ2, s2.trans s3 R.live, R3, ew, fun j hj => (z3 j hj).trans (kk j hj)⟩
      · next δ2 eb => exact hb F L' σ' H1 δ1 _ eb R1 _ fun L3 σ3 H3 s3 R3 z3 => ⟨L3, δ2, s2.trans s3 R.live, R3, ew, fun j hj => (z3 j hj).trans (kk j hj)⟩
      · next δ2 eb =>
        cases ew
        exact hb F L' σ' H1 δ1 _ eb R1 _ fun L3 σ3 H3 s3 R3 z3 => k L3 σ3 H3 (s2.trans s3 R.live) R3 fun j hj => (z3 j hj).trans (kk j hj)
      · next v δ2 eb =>
        cases ew
        exact hb F L' σ' H1 δ1 _ eb R1 _ (Ok.back (o := .rt v δ2) R s2 kk (fun _ z => z) (fun _ z => z) k)
      · next v δ2 eb =>
        cases ew
        exact hb F L' σ' H1 δ1 _ eb R1 _ (Ok.back (o := .rl v δ2) R s2 kk (fun _ z => z) (fun _ z => z) k)
      · cases ew
    · cases ew

/-! ### defs and calls -/
/-- a def of data that hands back data -/
def spD (K : PySem.W.Frag) (n : Nat) (f : List PyData → Option PyData) : Sp := fun vs H Q _ => ∃ (S : List Addr) (ds : List PyData) (d : PyData), vs.length = n ∧ RpAll K (Msk S H) vs ds ∧ (∀ a, a ∈ S → H a ≠ none) ∧ f ds = some d ∧ ∀ v H', Ex H H' → Rp K (Msk S H') v d → Q v H'
/-- .. a new list -/
def spL (K : PySem.W.Frag) (n : Nat) (f : List PyData → Option (List PyData)) : Sp := fun vs H Q _ => ∃ (S : List Addr) (ds : List PyData) (rs : List PyData), vs.length = n ∧ RpAll K (Msk S H) vs ds ∧ (∀ a, a ∈ S → H a ≠ none) ∧ f ds = some rs ∧
  ∀ p us H', H p = none → Ex H H' → H' p = some (.lst us) → RpAll K (Msk (p :: S) H') us rs → Q (.ref p) H'
/-- a def whose first parameter is a list that it changes -/
def spB (K : PySem.W.Frag) (n : Nat) (f : List PyData → List PyData → Option (PyData × List PyData)) : Sp := fun vs H Q _ => ∃ (S : List Addr) (b : Addr) (us : List V) (bg : List PyData) (ws : List V) (ds : List PyData) (d : PyData) (bg' : List PyData), vs = .ref b :: ws ∧ vs.length = n ∧ b ∈ S ∧ H b = some (.lst us) ∧ RpAll K (Msk S H) us bg ∧
  RpAll K (Msk S H) ws ds ∧ (∀ a, a ∈ S → H a ≠ none) ∧ f bg ds = some (d, bg') ∧ ∀ v H' us', Ex (Msk [b] H) (Msk [b] H') → H' b = some (.lst us') → RpAll K (Msk S H') us' bg' → Rp K (Msk S H') v d → Q v H'
def runD (n : Nat) (φ : FS) : List PyData → Option PyData := fun ds => match φ (ds.map EV.dat ++ List.replicate n .un) with
  | some (.rt d _) => some d
  | some (.rl rs _) => some (.list rs)
  | some (.nx _) => some .none
  | _ => none
def runL (n : Nat) (φ : FS) : List PyData → Option (List PyData) := fun ds => match φ (ds.map EV.dat ++ List.replicate n .un) with
  | some (.rl rs _) => some rs
  | _ => none
def runB (n : Nat) (φ : FS) : List PyData → List PyData → Option (PyData × List PyData) := fun bg ds => match φ (.bag bg :: (ds.map EV.dat ++ List.replicate n .un)) with
  | some (.rt d (.bag bg' :: _)) => some (d, bg')
  | some (.rl rs (.bag bg' :: _)) => some (.list rs, bg')
  | some (.nx (.bag bg' :: _)) => some (.none, bg')
  | _ => none
theorem start_env {S M : List Addr} {H : Hp} {N : List Str} {vs : List V} {ds : List PyData} {n : Nat} (hN : N.length = vs.length + n) (r : RpAll K (Msk S H) vs ds) (al : ∀ a, a ∈ S → H a ≠ none) (hM : ∀ a, a ∈ M → a ∈ S) : EnvR K ⟨S, M⟩ [] (start N vs) H (ds.map EV.dat ++ List.replicate n .un) := by
  have e0 : N.length - vs.length = n := by omega
  unfold L2.start
  rw [e0]
  have rl := r.len
  refine ⟨by simp [rl], fun i e h => ?_, fun i j l e e' _ h _ m _ _ _ => ?_, fun a ha => al a (by simpa using ha), hM, fun a ha => by simp at ha⟩
  · by_cases hi : i < ds.length
    · rw [List.getElem?_append_left (by rw [List.length_map]; exact hi), List.getElem?_map] at h
      rw [List.getElem?_append_left (by rw [List.length_map, rl]; exact hi), List.getElem?_map]
      cases hd : ds[i]? with
      | none =>
        rw [hd] at h
        cases h
      | some d =>
        rw [hd] at h
        cases h
        obtain ⟨v, hv, rv⟩ := r.get i d hd
        rw [hv]
        refine ⟨v, rfl, ?_⟩
        rw [List.append_nil]
        exact rv
    · rw [List.getElem?_append_right (by rw [List.length_map]; omega), List.getElem?_replicate] at h
      split at h
      · cases h
        trivial
      · cases h
  · by_cases hi : i < ds.length
    · rw [List.getElem?_append_left (by rw [List.length_map]; exact hi), List.getElem?_map] at h
      cases hd : ds[i]? with
      | none =>
        rw [hd] at h
        cases h
      | some d =>
        rw [hd] at h
        cases h
        cases m
    · rw [List.getElem?_append_right (by rw [List.length_map]; omega), List.getElem?_replicate] at h
      split at h
      · cases h
        cases m
      · cases h
theorem msk_nil {H : Hp} : Msk [] H = H := by
  funext a
  exact msk_out (by simp)
theorem body_D {t : TS} {sl : List Nat} {φ : FS} {N : List Str} {n k : Nat} {vs : List V} {H : Hp} {Q : VK} {E : XK} (h : WS K t sl φ) (hN : N.length = k + n) (q : spD K k (runD n φ) vs H Q E) : t { nx := fun _ H' => Q .non H', rt := Q } (start N vs) H := by
  obtain ⟨S, ds, d, hl, r, al, e, q⟩ := q
  have R := start_env (M := []) (n := n) (hN.trans (by rw [hl])) r al (fun a ha => by simp at ha)
  have xH : ∀ {L' H'}, StpS ⟨S, []⟩ [] H L' H' → Ex H H' := fun s => by
    have := s.ex
    rw [List.append_nil, msk_nil, msk_nil] at this
    exact this
  have sub : ∀ {L' : List Addr} {H' : Hp}, Ex (Msk (S ++ L') H') (Msk S H') := msk_sub fun a ha => List.mem_append.mpr (.inl ha)
  unfold runD at e
  split at e
  · next d0 δ1 e1 =>
    cases e
    exact h _ _ _ _ _ _ e1 R _ fun L' σ' H' v s R' rv => q v H' (xH s) (Rp.mono sub _ _ rv)
  · next rs δ1 e1 =>
    cases e
    refine h _ _ _ _ _ _ e1 R _ fun L' σ' H' p us s R' hp hn h' ru => q _ H' (xH s) (.lst (xs := us) ?_ (RpAll.mono (msk_sub fun a ha => List.mem_cons_of_mem _ (List.mem_append.mpr (.inl ha))) _ _ ru))
    rw [msk_out (fun z => hn (List.mem_append.mpr (.inl z)))]
    exact h'
  · next δ1 e1 =>
    cases e
    exact h _ _ _ _ _ _ e1 R _ fun L' σ' H' s R' _ => q _ H' (xH s) .non
  · cases e
theorem body_L {t : TS} {sl : List Nat} {φ : FS} {N : List Str} {n k : Nat} {vs : List V} {H : Hp} {Q : VK} {E : XK} (h : WS K t sl φ) (hN : N.length = k + n) (q : spL K k (runL n φ) vs H Q E) : t { nx := fun _ H' => Q .non H', rt := Q } (start N vs) H := by
  obtain ⟨S, ds, d, hl, r, al, e, q⟩ := q
  have R := start_env (M := []) (n := n) (hN.trans (by rw [hl])) r al (fun a ha => by simp at ha)
  have xH : ∀ {L' H'}, StpS ⟨S, []⟩ [] H L' H' → Ex H H' := fun s => by
    have := s.ex
    rw [List.append_nil, msk_nil, msk_nil] at this
    exact this
  unfold runL at e
  split at e
  · next rs δ1 e1 =>
    cases e
    refine h _ _ _ _ _ _ e1 R _ fun L' σ' H' p us s R' hp hn h' ru => q p us H' ?_ (xH s) h' (RpAll.mono (msk_sub fun a ha => ?_) _ _ ru)
    · rcases hp with hp | hp
      · simp at hp
      · exact hp
    · rcases List.mem_cons.mp ha with z | z
      · rw [z]
        exact List.mem_cons_self
      · exact List.mem_cons_of_mem _ (List.mem_append.mpr (.inl z))
  · cases e
theorem body_B {t : TS} {sl : List Nat} {φ : FS} {N : List Str} {n k : Nat} {vs : List V} {H : Hp} {Q : VK} {E : XK} (h : WS K t sl φ) (hN : N.length = k + n) (q : spB K k (runB n φ) vs H Q E) : t { nx := fun _ H' => Q .non H', rt := Q } (start N vs) H := by
  obtain ⟨S, b, us, bg, ws, ds, d, bg', rfl, hl, hb, hH, ru, rw', al, e, q⟩ := q
  have hN' : N.length = ws.length + 1 + n := by rw [hN, ← hl]; rfl
  -- the rest of the slots as if the first name were not there
  have R0 : EnvR K ⟨S, [b]⟩ [] (ws.map some ++ List.replicate n none) H (ds.map EV.dat ++ List.replicate n .un) := by
    have := start_env (K := K) (S := S) (M := [b]) (H := H) (N := N.tail) (vs := ws) (ds := ds) (n := n) (by rw [List.length_tail, hN']; omega) rw' al (fun a ha => by rw [List.mem_singleton.mp ha]; exact hb)
    unfold L2.start at this
    rw [show N.tail.length - ws.length = n by rw [List.length_tail, hN']; omega] at this
    exact this
  have nomine : ∀ (j : Nat) (e : EV), (ds.map EV.dat ++ List.replicate n EV.un)[j]? = some e → e.mine = false := fun j e h => by
    have := List.mem_of_getElem? h
    rcases List.mem_append.mp this with z | z
    · rw [List.mem_map] at z
      obtain ⟨d, _, rfl⟩ := z
      rfl
    · rw [List.mem_replicate] at z
      rw [z.2]
      rfl
  have es : start N (.ref b :: ws) = some (.ref b) :: (ws.map some ++ List.replicate n none) := by
    unfold L2.start
    rw [show N.length - (V.ref b :: ws).length = n by rw [List.length_cons, hN']; omega]
    rfl
  have R : EnvR K ⟨S, [b]⟩ [] (start N (.ref b :: ws)) H (.bag bg :: (ds.map EV.dat ++ List.replicate n .un)) := by
    rw [es]
    refine ⟨by rw [List.length_cons, List.length_cons, R0.len], fun i e h => ?_, fun i j l e e' hij h h' m m' s1 s2 => ?_, R0.al, R0.mb, R0.lb⟩
    · cases i with
      | zero =>
        cases h
        exact ⟨b, us, rfl, List.mem_singleton.mpr rfl, hH, by rw [List.append_nil]; exact ru⟩
      | succ i =>
        rw [List.getElem?_cons_succ] at h ⊢
        exact R0.at_ i e h
    · cases i with
      | zero =>
        cases j with
        | zero => exact hij rfl
        | succ j =>
          rw [List.getElem?_cons_succ] at h'
          rw [nomine j e' h'] at m'
          cases m'
      | succ i =>
        rw [List.getElem?_cons_succ] at h
        rw [nomine i e h] at m
        cases m
  have xH : ∀ {L' H'}, StpS ⟨S, [b]⟩ [] H L' H' → Ex (Msk [b] H) (Msk [b] H') := fun s => by
    have := s.ex
    rw [List.append_nil] at this
    exact this
  have sub : ∀ {L' : List Addr} {H' : Hp}, Ex (Msk (S ++ L') H') (Msk S H') := msk_sub fun a ha => List.mem_append.mpr (.inl ha)
  have bag : ∀ {L' : List Addr} {H' : Hp} {σ' : St} {δ1 : En}, EnvR K ⟨S, [b]⟩ L' σ' H' (.bag bg' :: δ1) → ∃ us', H' b = some (.lst us') ∧ RpAll K (Msk S H') us' bg' := fun R' => by
    obtain ⟨l, us', h1, h2, h3, h4⟩ := R'.at_ 0 _ rfl
    cases List.mem_singleton.mp h2
    exact ⟨us', h3, RpAll.mono sub _ _ h4⟩
  unfold runB at e
  split at e
  · next d0 bg0 δ1 e1 =>
    cases e
    refine h _ _ _ _ _ _ e1 R _ fun L' σ' H' v s R' rv => ?_
    obtain ⟨us', h1, h2⟩ := bag R'
    exact q v H' us' (xH s) h1 h2 (Rp.mono sub _ _ rv)
  · next rs bg0 δ1 e1 =>
    cases e
    refine h _ _ _ _ _ _ e1 R _ fun L' σ' H' p us2 s R' hp hn h' ru => ?_
    obtain ⟨us', h1, h2⟩ := bag R'
    refine q _ H' us' (xH s) h1 h2 (.lst (xs := us2) ?_ (RpAll.mono (msk_sub fun a ha => List.mem_cons_of_mem _ (List.mem_append.mpr (.inl ha))) _ _ ru))
    rw [msk_out (fun z => hn (List.mem_append.mpr (.inl z)))]
    exact h'
  · next bg0 δ1 e1 =>
    cases e
    refine h _ _ _ _ _ _ e1 R _ fun L' σ' H' s R' _ => ?_
    obtain ⟨us', h1, h2⟩ := bag R'
    exact q _ H' us' (xH s) h1 h2 .non
  · cases e
/-- calls -/
def ArN (φ : FL) (n : Nat) : Prop := ∀ δ ds δ', φ δ = some (ds, δ') → ds.length = n
theorem arn_nil : ArN fNil 0 := fun δ ds δ' e => by cases e; rfl
theorem arn_cons {φ : FE} {ψ : FL} {n : Nat} (h : ArN ψ n) : ArN (fCons φ ψ) (n + 1) := fun δ ds δ' e => by
  obtain ⟨x, δ1, xs, e1, e2, rfl⟩ := fCons_some e
  rw [List.length_cons, h _ _ _ e2]
def fCall (f : List PyData → Option PyData) (φ : FL) : FE := fun δ => match φ δ with
  | some (ds, δ1) => match f ds with
    | some d => some (d, δ1)
    | none => none
  | none => none
theorem we_call {n : Nat} {f : List PyData → Option PyData} {ta : TA} {φ : FL} {E : XK} (h : WA K ta φ) (hn : ArN φ n) : WE K (tCall (spD K n f) [] E ta) (fCall f φ) := fun F L σ H δ d δ' e R Q q => by
  unfold fCall at e
  split at e
  · next ds δ1 e1 =>
    split at e
    · next d0 e2 =>
      cases e
      refine h F L σ H δ ds _ e1 R _ fun vs H1 s1 R1 d1 => ?_
      rw [List.append_nil]
      exact ⟨F.B ++ L, ds, _, by rw [d1.len]; exact hn _ _ _ e1, d1, R1.al, e2, fun v H2 x2 rv => q v H2 (s1.trans (Stp.of_ex x2)) (R1.ex x2) rv⟩
    · cases e
  · cases e
def fCallL (f : List PyData → Option (List PyData)) (φ : FL) : FL := fun δ => match φ δ with
  | some (ds, δ1) => match f ds with
    | some d => some (d, δ1)
    | none => none
  | none => none
theorem wl_call {n : Nat} {f : List PyData → Option (List PyData)} {ta : TA} {φ : FL} {E : XK} (h : WA K ta φ) (hn : ArN φ n) : WL K (tCall (spL K n f) [] E ta) (fCallL f φ) := fun F L σ H δ d δ' e R Q q => by
  unfold fCallL at e
  split at e
  · next ds δ1 e1 =>
    split at e
    · next d0 e2 =>
      cases e
      refine h F L σ H δ ds _ e1 R _ fun vs H1 s1 R1 d1 => ?_
      rw [List.append_nil]
      exact ⟨F.B ++ L, ds, _, by rw [d1.len]; exact hn _ _ _ e1, d1, R1.al, e2, fun p us H2 hp x2 h2 ru => q p us H2 (new_live R R1 s1 hp) (s1.trans (Stp.of_ex x2)) (R1.hideX x2 hp (by rw [h2]; exact fun z => nomatch z)) h2 ru⟩
    · cases e
  · cases e
def fCallB (f : List PyData → List PyData → Option (PyData × List PyData)) (i : Nat) (φ : FL) : FE := fun δ => match ownAt δ i with
  | some _ => match φ δ with
    | some (ds, δ1) => match ownAt δ1 i with
      | some bg => match f bg ds with
        | some (d, bg') => some (d, setOwn δ1 i bg')
        | none => none
      | none => none
    | none => none
  | none => none
theorem we_callB {n : Nat} {f : List PyData → List PyData → Option (PyData × List PyData)} {i : Nat} {ta : TA} {φ : FL} {E : XK} (h : WA K ta φ) (hn : ArN φ n) : WE K (tCall (spB K (n + 1) f) [] E (tCons (tVar i) ta)) (fCallB f i φ) := fun F L σ H δ d δ' e R Q q => by
  unfold fCallB at e
  split at e
  · next bg0 e0 =>
    split at e
    · next ds δ1 e1 =>
      split at e
      · next bg e2 =>
        split at e
        · next d0 bg' e3 =>
          cases e
          obtain ⟨ev, l, vs, he, hm, hs, hl, h1, hr⟩ := own_at R e0
          refine ⟨_, hs, h F L σ H δ ds δ1 e1 R _ fun ws H1 s1 R1 d1 => ?_⟩
          obtain ⟨ev', l', vs', he', hm', hs', hl', h1', hr'⟩ := own_at R1 e2
          rw [hs] at hs'
          cases hs'
          rw [List.append_nil]
          refine ⟨F.B ++ L, l, vs', bg, ws, ds, _, bg', rfl, by rw [List.length_cons, d1.len, hn _ _ _ e1], R1.sub l hl', h1', hr', d1, R1.al, e3, fun v H2 us2 x2 h2 ru rv => ?_⟩
          obtain ⟨R2, s2⟩ := R1.updOwn he' hm' hs hl' x2 h2 ru
          exact q v H2 (s1.trans s2) R2 rv
        · cases e
      · cases e
    · cases e
  · cases e
end
end Sm
namespace Sm
open PySem L2 Evl RZ
abbrev rAbs : List V → Hp → VK → Prop := fun xs H Q => ∃ i, xs = [.int i] ∧ Q (.int (if i < 0 then -i else i)) H
abbrev rMin2 : List V → Hp → VK → Prop := fun xs H Q => ∃ i j, xs = [.int i, .int j] ∧ Q (.int (if j < i then j else i)) H
abbrev rInA (K : PySem.W.Frag) (neg : Bool) : R2 := rIn K neg
abbrev dInA (neg : Bool) := dIn neg
theorem op_inA {X : Cx} : OpR X (compareOp .In) (rInA X.K false) := op_in_seq
theorem op_notInA {X : Cx} : OpR X (compareOp .NotIn) (rInA X.K true) := op_notIn_seq
theorem rd_inA {K : PySem.W.Frag} : RD K (rInA K false) (dInA false) := rd_in
theorem rd_notInA {K : PySem.W.Frag} : RD K (rInA K true) (dInA true) := rd_in
end Sm
set_option maxHeartbeats 1000000
namespace Sm
open PySem L2 Evl RZ PyProof.Rows
/-! ### sorted of alike data -/
def leD (x y : PyData) : Bool := PySem.W.sortLe (listOrd PyProof.Rows.itemOrd) false PySem.W.keyToks x y
def leP (p q : V × PyData) : Bool := PySem.W.sortLe (listOrd PyProof.Rows.itemOrd) false (fun p : V × PyData => PySem.W.keyToks p.2) p q
def sortP (xs : List V) (ds : List PyData) : List (V × PyData) := (xs.zip ds).mergeSort leP
theorem sortP_snd (xs : List V) (ds : List PyData) (h : xs.length = ds.length) : (sortP xs ds).map Prod.snd = ds.mergeSort leD := by
  unfold sortP
  rw [PySem.W.sort_maps (r := leP) (s := leD) Prod.snd (fun a _ b _ => rfl), List.map_snd_zip (by omega)]
theorem sortP_mem {xs : List V} {ds : List PyData} {p : V × PyData} (h : p ∈ sortP xs ds) : p ∈ xs.zip ds := (List.mergeSort_perm _ _).mem_iff.mp h
theorem sortP_len (xs : List V) (ds : List PyData) (h : xs.length = ds.length) : (sortP xs ds).length = xs.length := by
  unfold sortP
  rw [(List.mergeSort_perm _ _).length_eq, List.length_zip, h, Nat.min_self]
def rSortedD (K : PySem.W.Frag) : List V → Hp → VK → Prop := fun vs H Q => ∃ (a : Addr) (xs : List V) (ds : List PyData), vs = [V.ref a] ∧ SqL K H a xs ∧ DpAll K H xs ds ∧ PySem.W.AllAlike ds ∧ PySem.W.Sortable ds ∧ (∀ d, d ∈ ds → d.depth ≤ 60) ∧
  ∀ p, H p = none → Q (.ref p) (upd H p (.lst ((sortP xs ds).map Prod.fst)))
theorem each_of {h : Heap} : ∀ {us : List Value} {ds : List PyData} {as : List Addr}, ReadsAll h us ds as → PySem.W.EachIs (fun v d => ∃ as, Reads h v d as) us ds
  | _, _, _, .nil => .nil
  | _, _, _, .cons h1 h2 => .cons ⟨_, h1⟩ (each_of h2)
theorem each_zip {h : Heap} : ∀ {xs : List V} {us : List Value} {ds : List PyData}, Vals xs us → PySem.W.EachIs (fun v d => ∃ as, Reads h v d as) us ds → PySem.W.EachIs (fun (u : Value) (p : V × PyData) => RelV p.1 u ∧ ∃ as, Reads h u p.2 as) us (xs.zip ds)
  | _, _, _, .nil, .nil => .nil
  | _, _, _, .cons r1 r2, .cons e1 e2 => .cons ⟨r1, e1⟩ (each_zip r2 e2)
theorem vals_each {h : Heap} : ∀ {us : List Value} {ps : List (V × PyData)}, PySem.W.EachIs (fun (u : Value) (p : V × PyData) => RelV p.1 u ∧ ∃ as, Reads h u p.2 as) us ps → Vals (ps.map Prod.fst) us
  | _, _, .nil => .nil
  | _, _, .cons e1 e2 => .cons e1.1 (vals_each e2)
section
variable {X : Cx}
/-- the one argument is a list: its items as values, and where they lie -/
theorem list_arg {pins : List (Addr × Obj)} {s : Shared} {σ : L2.St} {H : Hp} {a : Addr} {xs : List V} {us : List Value} (I : Inv X pins σ H s) (hs : SqL X.K H a xs) (r : Vals [V.ref a] us) :
    us = [Value.ref a] ∧ ∃ its : List Value, Vals xs its ∧ s.heap.IsList a its.toArray ∧ its.length = xs.length ∧ xs.length ≤ sizeLine := by
  refine ⟨?_, ?_⟩
  · cases r with
    | cons r1 r2 =>
      cases r2
      cases r1
      rfl
  · exact (I.list hs).elim fun its h => ⟨its, h.1, h.2.1.isList, h.1.length.symm, h.2.2⟩
theorem cr_sortedD (hu : X.A.units + 64 < cLine) : CallR X (.builtin "sorted") (rSortedD X.K) := fun pins s σ H vs us Q I r ⟨a, xs, ds, ev, hs, hd, hal, hso, hdp, q⟩ => by
  subst ev
  obtain ⟨eu, its, rv, hI, hlen, hz⟩ := list_arg I hs r
  subst eu
  obtain ⟨as, hr⟩ := Dp.readsAll I ds xs its hd rv
  have hlen2 : xs.length = ds.length := by
    have := SeqAt.ReadsAll.length ds its as hr
    omega
  have kh : ∀ b o, s.heap.get? b = some o → (PySem.W.sortingHeap (PySem.W.copyHeap s.heap its) (s.heap.objs.size + 1) its).get? b = some o := fun b o e => by
    refine PySem.W.sortingHeap_old ?_ (PySem.W.copyHeap_old e)
    have := Heap.lt_size e
    exact Nat.ne_of_lt (Nat.lt_succ_of_lt this)
  have e0 : PySem.W.EachIs (fun v d => ∃ as, Reads (PySem.W.sortingHeap (PySem.W.copyHeap s.heap its) (s.heap.objs.size + 1) its) v d as) its ds := (each_of hr).mono fun v d ⟨as, z⟩ => ⟨as, Reads.keeps kh z⟩
  refine PySem.W.sorted_vals (κ := PySem.W.dataKind _ ds) hI (PySem.W.SortsAt.data e0 hal hso fun d hm => ?_) (by rw [hlen]; exact hz) ?_
  · have := hdp d hm
    show X.A.units + 1 + 1 + d.depth < cLine
    omega
  · generalize hH : PySem.W.sortingHeap (PySem.W.copyHeap s.heap its) (s.heap.objs.size + 1) its = Hh at e0 ⊢
    have e1 := each_zip rv e0
    have ek : PySem.W.EachIs (fun v (p : V × PyData) => (PySem.W.dataKind Hh ds).keyOf v = some (PySem.W.keyToks p.2)) its (xs.zip ds) := by
      refine PySem.W.EachIs.of_zip (by rw [List.length_zip, hlen, hlen2, Nat.min_self]) fun p hp => ?_
      obtain ⟨_, as', hr'⟩ := e1.zip p hp
      have hm := (List.of_mem_zip (List.of_mem_zip hp).2).2
      exact PySem.W.dataKind_some hal hm hr'
    have es := PySem.W.sortVals_each (κ := PySem.W.dataKind Hh ds) (rev := false) (fun p : V × PyData => PySem.W.keyToks p.2) e1 ek
    have hv : Vals ((sortP xs ds).map Prod.fst) (PySem.W.sortVals (PySem.W.dataKind Hh ds) false its its) := vals_each es
    obtain ⟨n, hn⟩ := sortedAll_at s.heap its (PySem.W.sortVals (PySem.W.dataKind Hh ds) false its its).toArray
    have hd' : s.heap.objs.size ≤ s.heap.objs.size + 1 := Nat.le_succ _
    refine ⟨.ref (s.heap.objs.size + 1), upd H (s.heap.objs.size + 1) (.lst ((sortP xs ds).map Prod.fst)), I.laid (t' := s.toks) (fun b o e => sortedAll_old e) hd' ⟨?_, _, n, hv, hn⟩, rfl, q _ (I.hok.fresh hd')⟩
    rw [List.length_map, sortP_len xs ds hlen2]
    exact hz
end
section
variable {K : PySem.W.Frag}
def alikeB (ds : List PyData) : Bool := ds.all fun d => ds.all fun e => PySem.W.alike d e
def tupNe : PyData → Bool
  | .tuple (_ :: _) => true
  | _ => false
def notTup : PyData → Bool
  | .tuple _ => false
  | .none => false
  | _ => true
def sortOk (ds : List PyData) : Bool := alikeB ds && (ds.all tupNe || ds.all notTup) && ds.all fun d => decide (d.depth ≤ 60) && PyData.canLay0 d
theorem canAll : ∀ {ds : List PyData}, (∀ d, d ∈ ds → PyData.canLay0 d = true) → PyData.canLayAll0 ds = true
  | [], _ => by simp [PyData.canLayAll0]
  | d :: ds, h => by
    rw [PyData.canLayAll0, Bool.and_eq_true]
    exact ⟨h d List.mem_cons_self, canAll fun e he => h e (List.mem_cons_of_mem _ he)⟩
def dSorted : PyData → Option (List PyData)
  | .list ds => if sortOk ds = true then some (ds.mergeSort leD) else none
  | _ => none
theorem RpAll.zip {H : Hp} : ∀ {vs : List V} {ds : List PyData}, RpAll K H vs ds → ∀ p, p ∈ vs.zip ds → Rp K H p.1 p.2
  | _, [], h, p, hp => by cases h; simp at hp
  | _, d :: ds, h, p, hp => by
    cases h with
    | cons h1 h2 =>
      rw [List.zip_cons_cons] at hp
      rcases List.mem_cons.mp hp with rfl | hp
      · exact h1
      · exact RpAll.zip h2 p hp
theorem RpAll.of_pairs {H : Hp} : ∀ {ps : List (V × PyData)}, (∀ p, p ∈ ps → Rp K H p.1 p.2) → RpAll K H (ps.map Prod.fst) (ps.map Prod.snd)
  | [], _ => .nil
  | p :: ps, h => .cons (h p List.mem_cons_self) (RpAll.of_pairs fun q hq => h q (List.mem_cons_of_mem _ hq))
theorem r1_sorted : R1L K (rSortedD K) dSorted := fun S H x a ds e b fr Q q => by
  cases a with
  | list es =>
    have e' : (if sortOk es = true then some (es.mergeSort leD) else none) = some ds := e
    by_cases hk : sortOk es = true
    · rw [if_pos hk] at e'
      cases e'
      obtain ⟨p, vs, rfl, h1, h2⟩ := b.lst
      unfold sortOk at hk
      rw [Bool.and_eq_true, Bool.and_eq_true] at hk
      obtain ⟨⟨k1, k2⟩, k3⟩ := hk
      unfold alikeB at k1
      simp only [List.all_eq_true] at k1 k3
      have k3' : ∀ d, d ∈ es → d.depth ≤ 60 ∧ PyData.canLay0 d = true := fun d hd => by
        have := k3 d hd
        rw [Bool.and_eq_true] at this
        exact ⟨of_decide_eq_true this.1, this.2⟩
      refine ⟨p, vs, es, rfl, sq_of h1, RpAll.dp es vs (canAll fun d hd => (k3' d hd).2) (RpAll.mono msk_le es vs h2), fun d hd d' hd' => k1 d hd d' hd', ?_, fun d hd => (k3' d hd).1, fun l hl => ?_⟩
      · rw [Bool.or_eq_true] at k2
        simp only [List.all_eq_true] at k2
        rcases k2 with k2 | k2
        · refine .inl fun d hd => ?_
          have := k2 d hd
          unfold tupNe at this
          split at this
          · exact ⟨_, _, rfl⟩
          · cases this
        · refine .inr fun d hd => ?_
          have := k2 d hd
          refine ⟨fun z => ?_, fun xs z => ?_⟩
          · rw [z] at this
            cases this
          · rw [z] at this
            cases this
      · have hz := RpAll.zip (RpAll.mono (hide_ex (Ex.new (o := .lst ((sortP vs es).map Prod.fst)) hl) hl) es vs h2)
        have := RpAll.of_pairs (ps := sortP vs es) fun q hq => hz q (sortP_mem hq)
        rw [sortP_snd vs es h2.len] at this
        exact q l _ _ hl (Ex.new hl) upd_same this
    · rw [if_neg hk] at e'
      cases e'
  | _ => cases e
end
end Sm
namespace Sm
open PySem L2 Evl RZ
section
variable {K : PySem.W.Frag}
/-! ### dicts as data -/
def keyOf : PyData → Option Key
  | .int i => some (.inl i)
  | .str x => some (.inr x)
  | _ => none
theorem keyOf_keyD (k : Key) : keyOf (keyD k) = some k := by cases k <;> rfl
theorem keyOf_some {d : PyData} {k : Key} (h : keyOf d = some k) : d = keyD k := by
  cases d <;> cases h <;> rfl
theorem kV_of {H : Hp} {v : V} {k : Key} (h : Rp K H v (keyD k)) : v = kV k := by
  cases k <;> cases h <;> rfl
def lookD (kvs : List (PyData × PyData)) (k : Key) : Option PyData := (kvs.find? fun kv => decide (keyOf kv.1 = some k)).map (·.2)
def putD (kvs : List (PyData × PyData)) (k : Key) (d : PyData) : List (PyData × PyData) :=
  if (kvs.any fun kv => decide (keyOf kv.1 = some k)) = true then kvs.map (fun kv => if keyOf kv.1 = some k then (kv.1, d) else kv) else kvs ++ [(keyD k, d)]
theorem RpKV.look {H : Hp} (k : Key) : ∀ {ks : List (Key × V)} {ds : List (PyData × PyData)}, RpKV K H ks ds → (valV ks k = none ∧ lookD ds k = none) ∨ ∃ v d, valV ks k = some v ∧ lookD ds k = some d ∧ Rp K H v d
  | [], _, h => by cases h; exact .inl ⟨rfl, rfl⟩
  | (k', v) :: ks, _, h => by
    cases h with
    | @cons _ _ _ d ds h1 h2 =>
      unfold valV lookD
      by_cases e : k' = k
      · subst e
        right
        refine ⟨v, d, ?_, ?_, h1⟩
        · rw [List.find?_cons_of_pos (by simp)]
          rfl
        · rw [List.find?_cons_of_pos (by simp [keyOf_keyD])]
          rfl
      · rw [List.find?_cons_of_neg (by simpa using e), List.find?_cons_of_neg (by simp [keyOf_keyD]; exact e)]
        exact RpKV.look k h2
theorem RpKV.any {H : Hp} (k : Key) : ∀ {ks : List (Key × V)} {ds : List (PyData × PyData)}, RpKV K H ks ds → (ks.any fun kv => decide (kv.1 = k)) = (ds.any fun kv => decide (keyOf kv.1 = some k))
  | [], _, h => by cases h; rfl
  | (k', v) :: ks, _, h => by
    cases h with
    | @cons _ _ _ d ds h1 h2 =>
      rw [List.any_cons, List.any_cons, RpKV.any k h2]
      congr 1
      simp [keyOf_keyD]
theorem RpKV.map {H : Hp} (k : Key) {w : V} {e : PyData} (hw : Rp K H w e) : ∀ {ks : List (Key × V)} {ds : List (PyData × PyData)}, RpKV K H ks ds → RpKV K H (ks.map fun kv => if kv.1 = k then (kv.1, w) else kv) (ds.map fun kv => if keyOf kv.1 = some k then (kv.1, e) else kv)
  | [], _, h => by cases h; exact .nil
  | (k', v) :: ks, _, h => by
    cases h with
    | @cons _ _ _ d ds h1 h2 =>
      rw [List.map_cons, List.map_cons]
      by_cases q : k' = k
      · rw [if_pos q, if_pos (by rw [keyOf_keyD, q])]
        exact .cons hw (RpKV.map k hw h2)
      · rw [if_neg q, if_neg (by rw [keyOf_keyD]; exact fun z => q (Option.some.inj z))]
        exact .cons h1 (RpKV.map k hw h2)
theorem RpKV.app {H : Hp} : ∀ {ks ls : List (Key × V)} {ds es : List (PyData × PyData)}, RpKV K H ks ds → RpKV K H ls es → RpKV K H (ks ++ ls) (ds ++ es)
  | [], _, _, _, h, h' => by cases h; exact h'
  | (k', v) :: ks, _, _, _, h, h' => by
    cases h with
    | cons h1 h2 => exact .cons h1 (RpKV.app h2 h')
theorem RpKV.put {H : Hp} (k : Key) {w : V} {e : PyData} (hw : Rp K H w e) {ks : List (Key × V)} {ds : List (PyData × PyData)} (h : RpKV K H ks ds) : RpKV K H (putK ks k w) (putD ds k e) := by
  unfold putK putD
  rw [h.any k]
  split
  · exact h.map k hw
  · exact h.app (.cons hw .nil)
theorem RpKV.len {H : Hp} : ∀ {ks : List (Key × V)} {ds : List (PyData × PyData)}, RpKV K H ks ds → ks.length = ds.length
  | [], _, h => by cases h; rfl
  | (k', v) :: ks, _, h => by
    cases h with
    | cons h1 h2 => rw [List.length_cons, List.length_cons, h2.len]
theorem putD_len (kvs : List (PyData × PyData)) (k : Key) (d : PyData) : (putD kvs k d).length ≤ kvs.length + 1 := by
  unfold putD
  split
  · rw [List.length_map]
    omega
  · rw [List.length_append]
    exact Nat.le_refl _
def dictOf : PyData → Option (List (PyData × PyData))
  | .dict ((.none, _) :: _) => none
  | .dict kvs => some kvs
  | _ => none
theorem dict_of {S : List Addr} {H : Hp} {v : V} {d : PyData} {kvs : List (PyData × PyData)} (h : Rp K (Msk S H) v d) (e : dictOf d = some kvs) : ∃ a ks, v = .ref a ∧ H a = some (.dK ks) ∧ RpKV K (Msk S H) ks kvs := by
  cases h with
  | scr h => cases e
  | @dic a ks ds h1 h2 =>
    have : ds = kvs := by
      unfold dictOf at e
      split at e
      · cases e
      · next z =>
        cases z
        exact Option.some.inj e
      · cases e
    subst this
    exact ⟨a, ks, rfl, (msk_some h1).2, h2⟩
  | _ => cases e
/-- d[k] -/
def dGet (a b : PyData) : Option PyData := match dictOf a, keyOf b with
  | some kvs, some k => lookD kvs k
  | _, _ => none
theorem we_dget {td ty : TE} {φ ψ : FE} (h : WE K td φ) (h' : WE K ty ψ) : WE K (tDGet td ty) (fOp dGet φ ψ) := fun F L σ H δ d δ' e R Q q => by
  obtain ⟨x, δ1, y, e1, e2, e3⟩ := fOp_some e
  refine h F L σ H δ x δ1 e1 R _ fun v H1 s1 R1 d1 => ?_
  refine h' F L σ H1 δ1 y δ' e2 R1 _ fun w H2 s2 R2 d2 => ?_
  unfold dGet at e3
  split at e3
  · next kvs k hx hy =>
    obtain ⟨a, ks, rfl, h1, h2⟩ := dict_of (s2.dat R1.sub d1) hx
    have hyk := keyOf_some hy
    subst hyk
    cases kV_of d2
    rcases h2.look k with ⟨_, z⟩ | ⟨u, d0, z1, z2, z3⟩
    · rw [z] at e3
      cases e3
    · rw [z2] at e3
      cases e3
      refine ⟨a, u, rfl, ?_, q u H2 (s1.trans s2) R2 z3⟩
      rw [← z1]
      exact DGet.k h1
  · cases e3
/-- k in d -/
def dHas (b a : PyData) : Option PyData := match dictOf a, keyOf b with
  | some kvs, some k => some (.bool (lookD kvs k).isSome)
  | _, _ => none
theorem we_din {td ty : TE} {φ ψ : FE} (h' : WE K ty ψ) (h : WE K td φ) : WE K (tDIn ty td) (fOp dHas ψ φ) := fun F L σ H δ d δ' e R Q q => by
  obtain ⟨y, δ1, x, e1, e2, e3⟩ := fOp_some e
  refine h' F L σ H δ y δ1 e1 R _ fun w H1 s1 R1 d1 => ?_
  refine h F L σ H1 δ1 x δ' e2 R1 _ fun v H2 s2 R2 d2 => ?_
  unfold dHas at e3
  split at e3
  · next kvs k hx hy =>
    cases e3
    obtain ⟨a, ks, rfl, h1, h2⟩ := dict_of d2 hx
    have hyk := keyOf_some hy
    subst hyk
    cases kV_of d1
    rcases h2.look k with ⟨z0, z⟩ | ⟨u, d0, z1, z2, z3⟩
    · refine ⟨a, none, rfl, ?_, q _ H2 (s1.trans s2) R2 (by rw [z]; exact .bl _)⟩
      rw [← z0]
      exact DGet.k h1
    · refine ⟨a, some u, rfl, ?_, q _ H2 (s1.trans s2) R2 (by rw [z2]; exact .bl _)⟩
      rw [← z1]
      exact DGet.k h1
  · cases e3
/-- {k: v for ..} -/
def compD (vs : List Nat) (γ : FG) (τ : FT) (κ ε : FE) : List PyData → En → List (PyData × PyData) → Option (List (PyData × PyData) × En)
  | [], δ, acc => some (acc, δ)
  | d :: ds, δ, acc => match γ d (wipeE δ vs) with
    | some δ2 => match τ δ2 with
      | some (true, δ3) => match κ δ3 with
        | some (y, δ4) => match keyOf y with
          | some k => match ε δ4 with
            | some (z, δ5) => compD vs γ τ κ ε ds (backE vs 0 δ δ5) (putD acc k z)
            | none => none
          | none => none
        | none => none
      | some (false, δ3) => compD vs γ τ κ ε ds (backE vs 0 δ δ3) acc
      | none => none
    | none => none
def fDc (φ : FL) (vs : List Nat) (γ : FG) (τ : FT) (κ ε : FE) : FE := fun δ => match φ δ with
  | some (ds, δ1) => if ds.length ≤ 40000 then (match compD vs γ τ κ ε ds δ1 [] with
    | some (kvs, δ2) => some (.dict kvs, δ2)
    | none => none) else none
  | none => none
theorem we_dc {wi : TI} {g : TG} {tt : TT} {tk te : TE} {vs js : List Nat} {φ : FL} {γ : FG} {τ : FT} {κ ε : FE} (hi : WI K wi φ) (hg : WG K g js γ) (hj : ∀ j, j ∈ js → j ∈ vs) (ht : WT K tt τ) (hk : WE K tk κ) (he : WE K te ε) : WE K (tDc wi g tt tk te vs) (fDc φ vs γ τ κ ε) := fun F L σ H δ res δ' e R Q q => by
  unfold fDc at e
  split at e
  · next ds δ1 e1 =>
    by_cases hz : ds.length ≤ 40000
    · rw [if_pos hz] at e
      split at e
      · next kvs δe ee =>
        cases e
        refine hi F L σ H δ ds δ1 e1 R _ fun J H1 s1 R1 it => fun D hD => ?_
        have hDm : ¬ D ∈ F.M := fun z => R1.fresh hD (List.mem_append.mpr (.inl (R.mb D z)))
        have hDl : ¬ D ∈ L := fun z => R1.fresh hD (List.mem_append.mpr (.inr z))
        have hDml : ¬ D ∈ F.M ++ L := fun z => by
          rcases List.mem_append.mp z with z | z
          · exact hDm z
          · exact hDl z
        refine ⟨fun i m H' => m = ds.length - i ∧ ∃ accV accD δi, Ex (Msk (F.M ++ L) H1) (Msk (F.M ++ L) H') ∧ EnvR K (F.hide D) L σ H' δi ∧ H' D = some (.dK accV) ∧ RpKV K (Msk ((F.hide D).B ++ L) H') accV accD ∧ compD vs γ τ κ ε (ds.drop i) δi accD = some (kvs, δ') ∧ accD.length ≤ i,
          ⟨ds.length, by omega, [], [], δ1, ex_msk (Ex.new hD), R1.hide hD _, upd_same, .nil, by rw [List.drop_zero]; exact ee, Nat.zero_le _⟩, ?_⟩
        rintro i m H' ⟨rfl, accV, accD, δi, x, Ri, hD', ra, ec, hl⟩
        have xx : Ex (Msk (F.B ++ L) H1) (Msk (F.B ++ (D :: L)) H') := fun a o ea => by
          obtain ⟨h1, h2⟩ := msk_some ea
          have ne : a ≠ D := ne_of_none h2 hD
          rw [msk_out (fun z => by
            rcases List.mem_append.mp z with z | z
            · exact h1 (List.mem_append.mpr (.inl z))
            · rcases List.mem_cons.mp z with z | z
              · exact ne z
              · exact h1 (List.mem_append.mpr (.inr z)))]
          have nm : ¬ a ∈ F.M ++ L := fun z => h1 (R1.sub a z)
          have := x a o (by rw [msk_out nm]; exact h2)
          rw [msk_out nm] at this
          exact this
        have cg : ∀ a, a ∈ F.B ++ (D :: L) ↔ a ∈ (F.hide D).B ++ L := fun a => (hide_cg a).symm
        by_cases hi : i < ds.length
        · have hd : ds[i]? = some ds[i] := List.getElem?_eq_getElem hi
          have frD : Fresh (F.B ++ (D :: L)) H' := fun p hp z => Ri.fresh hp ((cg p).mp z)
          obtain ⟨go, yl⟩ := it.go (D :: L) H' xx frD i _ hd
          rw [List.drop_eq_getElem_cons hi] at ec
          refine .inr ⟨go, fun H5 => ∃ accV accD δi, Ex (Msk (F.M ++ L) H1) (Msk (F.M ++ L) H5) ∧ EnvR K (F.hide D) L σ H5 δi ∧ H5 D = some (.dK accV) ∧ RpKV K (Msk ((F.hide D).B ++ L) H5) accV accD ∧ compD vs γ τ κ ε (ds.drop (i + 1)) δi accD = some (kvs, δ') ∧ accD.length ≤ i + 1, fun H5 hN => ⟨ds.length - (i + 1), by omega, rfl, hN⟩, fun y H2 hy => ?_⟩
          obtain ⟨x2, ry⟩ := yl y H2 hy
          rw [msk_congr cg] at ry
          unfold compD at ec
          split at ec
          · next δ2 eg =>
            refine hg (F.hide D) L (wipe σ vs) H2 (wipeE δi vs) y _ δ2 eg ((Ri.ex x2).wipe vs) ry _ fun σ2 hl2 hk2 Rg => ⟨wipe_eq hl2 hk2 hj, ?_⟩
            have hkk : ∀ j, ¬ j ∈ vs → σ2[j]? = σ[j]? := fun j hjv => by rw [hk2 j (fun z => hjv (hj j z)), wipe_get, if_neg hjv]
            split at ec
            · next δ3 et =>
              refine ht (F.hide D) L σ2 H2 δ2 true δ3 et Rg _ fun H3 s3 R3 => ?_
              rw [if_pos rfl]
              split at ec
              · next w δ4 ek =>
                refine hk (F.hide D) L σ2 H3 δ3 w δ4 ek R3 _ fun u H4 s4 R4 rw4 => ?_
                split at ec
                · next k hk' =>
                  split at ec
                  · next z δ5 ez =>
                    refine he (F.hide D) L σ2 H4 δ4 z δ5 ez R4 _ fun t H6 s6 R6 rt6 => ?_
                    have hw := keyOf_some hk'
                    subst hw
                    cases kV_of rw4
                    have s26 : Stp (F.hide D) L H' H6 := (Stp.of_ex x2).trans (s3.trans (s4.trans s6))
                    have hD6 : H6 D = some (.dK accV) := (msk_some (s26 D _ (by rw [msk_out hDml]; exact hD'))).2
                    refine ⟨accV, k, rfl, hD6, sz_lt (by rw [ra.len]; omega), ?_⟩
                    have e0 : Msk ((F.hide D).B ++ L) (upd H6 D (.dK (putK accV k t))) = Msk ((F.hide D).B ++ L) H6 := msk_upd (List.mem_cons_self)
                    refine ⟨putK accV k t, putD accD k z, backE vs 0 δi δ5, ?_, ((Ri.back s26 R6 hkk).updD (List.mem_cons_self) hDm _), upd_same, ?_, ec, ?_⟩
                    · intro a o ea
                      have h5 := msk_some (x a o ea)
                      have h6 := s26 a o (by rw [msk_out h5.1]; exact h5.2)
                      have ne : a ≠ D := ne_of_none (msk_some ea).2 hD
                      rw [msk_out h5.1, upd_ne ne]
                      exact (msk_some h6).2
                    · rw [e0]
                      exact RpKV.put k rt6 (RpKV.mono (msk_ex s26 Ri.sub) _ _ ra)
                    · have := putD_len accD k z
                      omega
                  · cases ec
                · cases ec
              · cases ec
            · next δ3 et =>
              refine ht (F.hide D) L σ2 H2 δ2 false δ3 et Rg _ fun H3 s3 R3 => ?_
              rw [if_neg Bool.false_ne_true]
              have s24 : Stp (F.hide D) L H' H3 := (Stp.of_ex x2).trans s3
              refine ⟨accV, accD, backE vs 0 δi δ3, ?_, Ri.back s24 R3 hkk, ?_, RpKV.mono (msk_ex s24 Ri.sub) _ _ ra, ec, by omega⟩
              · intro a o ea
                have h5 := msk_some (x a o ea)
                have h6 := s24 a o (by rw [msk_out h5.1]; exact h5.2)
                rw [msk_out h5.1]
                exact (msk_some h6).2
              · exact (msk_some (s24 D _ (by rw [msk_out hDml]; exact hD'))).2
            · cases ec
          · cases ec
        · rw [List.drop_eq_nil_of_le (by omega)] at ec
          cases ec
          refine .inl ⟨it.stop (D :: L) H' xx i (by omega), ?_⟩
          refine q _ H' (s1.trans x) (Ri.show R.mb) (.dic (ks := accV) ?_ (RpKV.mono (msk_sub fun a h => List.mem_cons_of_mem _ h) _ _ ra))
          rw [msk_out (R1.fresh hD)]
          exact hD'
      · cases e
    · rw [if_neg hz] at e
      cases e
  · cases e
/-- dict(ps), ps a list of pairs -/
def pairsD : List PyData → Option (List (Key × PyData))
  | [] => some []
  | .tuple [k, d] :: r => match keyOf k, pairsD r with
    | some k, some kvs => some ((k, d) :: kvs)
    | _, _ => none
  | _ :: _ => none
def mergeD (acc : List (PyData × PyData)) (kvs : List (Key × PyData)) : List (PyData × PyData) := kvs.foldl (fun acc kv => putD acc kv.1 kv.2) acc
def dDict : PyData → Option PyData
  | .list ds => match pairsD ds with
    | some kvs => some (.dict (mergeD [] kvs))
    | none => none
  | _ => none
theorem pairs_of {H : Hp} : ∀ {vs : List V} {ds : List PyData} {kvs : List (Key × PyData)}, RpAll K H vs ds → pairsD ds = some kvs → ∃ (ps : List Addr) (ks : List (Key × V)), vs = ps.map V.ref ∧ Paired (fun p kv => SqT K H p [kV kv.1, kv.2]) ps ks ∧ ks.map (·.1) = kvs.map (·.1) ∧ RpAll K H (ks.map (·.2)) (kvs.map (·.2))
  | _, [], kvs, h, e => by
    cases h
    cases e
    exact ⟨[], [], rfl, .nil, rfl, .nil⟩
  | _, d :: ds, kvs, h, e => by
    cases h with
    | @cons v vs _ _ h1 h2 =>
      unfold pairsD at e
      split at e
      · next heq =>
        cases heq
      · next k d' r heq =>
        cases heq
        split at e
        · next kk kvs' hk hr =>
          cases e
          obtain ⟨ps, ks, rfl, hp, e1, e2⟩ := pairs_of h2 hr
          cases h1 with
          | @tup a xs _ ha hx =>
            cases hx with
            | cons x1 x2 =>
              cases x2 with
              | @cons w _ _ _ x3 x4 =>
                cases x4
                have hk' := keyOf_some hk
                subst hk'
                cases kV_of x1
                exact ⟨a :: ps, (kk, w) :: ks, rfl, .cons ha hp, by rw [List.map_cons, List.map_cons, e1], .cons x3 e2⟩
        · cases e
      · cases e
theorem merge_of {H : Hp} : ∀ {ks : List (Key × V)} {kvs : List (Key × PyData)} {acc : List (Key × V)} {accD : List (PyData × PyData)}, ks.map (·.1) = kvs.map (·.1) → RpAll K H (ks.map (·.2)) (kvs.map (·.2)) → RpKV K H acc accD → RpKV K H (mergeK acc ks) (mergeD accD kvs)
  | [], [], _, _, _, _, h => h
  | [], _ :: _, _, _, e, _, _ => by cases e
  | _ :: _, [], _, _, e, _, _ => by cases e
  | (k, v) :: ks, (k', d) :: kvs, acc, accD, e, r, h => by
    rw [List.map_cons, List.map_cons] at e r
    have e1 := (List.cons.inj e).1
    have e2 := (List.cons.inj e).2
    dsimp only at e1
    subst e1
    cases r with
    | cons r1 r2 =>
      show RpKV K H (mergeK (putK acc k v) ks) (mergeD (putD accD k d) kvs)
      exact merge_of e2 r2 (h.put k r1)
abbrev rDictP (K : PySem.W.Frag) : List V → Hp → VK → Prop := fun xs H Q => ∃ (a : Addr) (ps : List Addr) (kvs : List (Key × V)), xs = [.ref a] ∧ SqL K H a (ps.map V.ref) ∧ Paired (fun p kv => SqT K H p [kV kv.1, kv.2]) ps kvs ∧
    ∀ p, H p = none → Q (.ref p) (upd H p (.dK (mergeK [] kvs)))
theorem paired_mono {α β : Type} {R R' : α → β → Prop} (h : ∀ a b, R a b → R' a b) : ∀ {as : List α} {bs : List β}, Paired R as bs → Paired R' as bs
  | _, _, .nil => .nil
  | _, _, .cons a b => .cons (h _ _ a) (paired_mono h b)
theorem r1_dict : R1 K (rDictP K) dDict := fun S H x a d e b fr Q q => by
  cases a with
  | list ds =>
    have e' : (match pairsD ds with
      | some kvs => some (PyData.dict (mergeD [] kvs))
      | none => none) = some d := e
    split at e'
    · next kvs hk =>
      cases e'
      obtain ⟨p, vs, rfl, h1, h2⟩ := b.lst
      obtain ⟨ps, ks, rfl, hp, e1, e2⟩ := pairs_of h2 hk
      refine ⟨p, ps, ks, rfl, sq_of h1, paired_mono (fun _ _ z => ex_t msk_le z) hp, fun l hl => ?_⟩
      refine q _ _ (Ex.new hl) (.dic (ks := mergeK [] ks) ?_ (RpKV.mono (ex_msk (Ex.new hl)) _ _ (merge_of e1 e2 .nil)))
      rw [msk_out (fr l hl)]
      exact upd_same
    · cases e'
  | _ => cases e
end
end Sm
namespace Sm
open PySem L2 Evl RZ
section
variable {K : PySem.W.Frag}
/-! ### walks over a list of one's own that stands meanwhile -/
open Classical in
noncomputable def compLO (i0 : Nat) (all : List PyData) (vs : List Nat) (γ : FG) (τ : FT) (ε : FE) : List PyData → En → Option (List PyData × En)
  | [], δ => if ownAt δ i0 = some all then some ([], δ) else none
  | d :: ds, δ => if ownAt δ i0 = some all then (match γ d (wipeE δ vs) with
    | some δ2 => match τ δ2 with
      | some (true, δ3) => match ε δ3 with
        | some (y, δ4) => match compLO i0 all vs γ τ ε ds (backE vs 0 δ δ4) with
          | some (ys, δ5) => some (y :: ys, δ5)
          | none => none
        | none => none
      | some (false, δ3) => compLO i0 all vs γ τ ε ds (backE vs 0 δ δ3)
      | none => none
    | none => none) else none
noncomputable def fLcO (i0 : Nat) (vs : List Nat) (γ : FG) (τ : FT) (ε : FE) : FL := fun δ => match ownAt δ i0 with
  | some ds => if ds.length ≤ 40000 then compLO i0 ds vs γ τ ε ds δ else none
  | none => none
theorem wl_lcO {i0 : Nat} {g : TG} {tt : TT} {te : TE} {vs js : List Nat} {γ : FG} {τ : FT} {ε : FE} (hg : WG K g js γ) (hj : ∀ j, j ∈ js → j ∈ vs) (ht : WT K tt τ) (he : WE K te ε) : WL K (tLc (iAny K (tVar i0)) g tt te vs) (fLcO i0 vs γ τ ε) := fun F L σ H δ res δ' e R Q q => by
  unfold fLcO at e
  split at e
  · next ds e1 =>
    by_cases hz : ds.length ≤ 40000
    · rw [if_pos hz] at e
      obtain ⟨ev0, l0, vs0, he0, hm0, hs0, hl0, h10, hr0⟩ := own_at R e1
      refine .inl ⟨_, hs0, l0, rfl, ⟨_, sq_of h10⟩, fun D hD => ?_⟩
      have R1 := R
      have hDm : ¬ D ∈ F.M := fun z => R1.fresh hD (List.mem_append.mpr (.inl (R.mb D z)))
      have hDl : ¬ D ∈ L := fun z => R1.fresh hD (List.mem_append.mpr (.inr z))
      have hDml : ¬ D ∈ F.M ++ L := fun z => by
        rcases List.mem_append.mp z with z | z
        · exact hDm z
        · exact hDl z
      refine ⟨fun i m H' => m = ds.length - i ∧ ∃ accV accD rest δi, Ex (Msk (F.M ++ L) H) (Msk (F.M ++ L) H') ∧ EnvR K (F.hide D) L σ H' δi ∧ H' D = some (.lst accV) ∧ RpAll K (Msk ((F.hide D).B ++ L) H') accV accD ∧ compLO i0 ds vs γ τ ε (ds.drop i) δi = some (rest, δ') ∧ res = accD ++ rest ∧ accD.length ≤ i,
        ⟨ds.length, by omega, [], [], res, δ, ex_msk (Ex.new hD), R1.hide hD _, upd_same, .nil, by rw [List.drop_zero]; exact e, rfl, Nat.zero_le _⟩, ?_⟩
      rintro i m H' ⟨rfl, accV, accD, rest, δi, x, Ri, hD', ra, ec, er, hl⟩
      have own0 : ∀ δ2 : En, EnvR K (F.hide D) L σ H' δ2 → ownAt δ2 i0 = some ds → ∃ vs2, H' l0 = some (.lst vs2) ∧ RpAll K (Msk ((F.hide D).B ++ L) H') vs2 ds := fun δ2 R2 e2 => by
        obtain ⟨_, l2, vs2, _, _, hs2, _, h12, hr2⟩ := own_at R2 e2
        rw [hs0] at hs2
        cases hs2
        exact ⟨vs2, h12, hr2⟩
      by_cases hi : i < ds.length
      · have hd : ds[i]? = some ds[i] := List.getElem?_eq_getElem hi
        rw [List.drop_eq_getElem_cons hi] at ec
        unfold compLO at ec
        by_cases hown : ownAt δi i0 = some ds
        case neg =>
          rw [if_neg hown] at ec
          cases ec
        rw [if_pos hown] at ec
        obtain ⟨vs2, h12, hr2⟩ := own0 δi Ri hown
        obtain ⟨v2, hv2, rv2⟩ := hr2.get i _ hd
        refine .inr ⟨⟨vs2, v2, sq_of h12, hv2⟩, fun H5 => ∃ accV accD rest δi, Ex (Msk (F.M ++ L) H) (Msk (F.M ++ L) H5) ∧ EnvR K (F.hide D) L σ H5 δi ∧ H5 D = some (.lst accV) ∧ RpAll K (Msk ((F.hide D).B ++ L) H5) accV accD ∧ compLO i0 ds vs γ τ ε (ds.drop (i + 1)) δi = some (rest, δ') ∧ res = accD ++ rest ∧ accD.length ≤ i + 1, fun H5 hN => ⟨ds.length - (i + 1), by omega, rfl, hN⟩, fun y H2 hy => ?_⟩
        obtain ⟨rfl, hy⟩ := hy
        have hy2 := hy vs2 (sq_of h12)
        rw [hv2] at hy2
        cases hy2
        have x2 : Ex H2 H2 := Ex.refl _
        have ry := rv2
        split at ec
        · next δ2 eg =>
          refine hg (F.hide D) L (wipe σ vs) H2 (wipeE δi vs) v2 _ δ2 eg ((Ri.ex x2).wipe vs) ry _ fun σ2 hl2 hk2 Rg => ⟨wipe_eq hl2 hk2 hj, ?_⟩
          have hk : ∀ j, ¬ j ∈ vs → σ2[j]? = σ[j]? := fun j hjv => by rw [hk2 j (fun z => hjv (hj j z)), wipe_get, if_neg hjv]
          split at ec
          · next δ3 et =>
            refine ht (F.hide D) L σ2 H2 δ2 true δ3 et Rg _ fun H3 s3 R3 => ?_
            rw [if_pos rfl]
            split at ec
            · next w δ4 ee =>
              refine he (F.hide D) L σ2 H3 δ3 w δ4 ee R3 _ fun u H4 s4 R4 rw4 => ?_
              have hD4 : H4 D = some (.lst accV) := by
                have := s4 D _ (by rw [msk_out hDml]; exact (msk_some (s3 D _ (by rw [msk_out hDml]; exact x2 D _ hD'))).2)
                exact (msk_some this).2
              refine ⟨accV, hD4, sz_lt (by rw [ra.len]; omega), ?_⟩
              split at ec
              · next ys δ5 ecc =>
                cases ec
                have s24 : Stp (F.hide D) L H2 H4 := (Stp.of_ex x2).trans (s3.trans s4)
                have e0 : Msk ((F.hide D).B ++ L) (upd H4 D (.lst (accV ++ [u]))) = Msk ((F.hide D).B ++ L) H4 := msk_upd (List.mem_cons_self)
                refine ⟨accV ++ [u], accD ++ [w], ys, backE vs 0 δi δ4, ?_, ((Ri.back s24 R4 hk).updD (List.mem_cons_self) hDm _), upd_same, ?_, ecc, by rw [er, List.append_assoc]; rfl, by rw [List.length_append]; show _ + 1 ≤ _; omega⟩
                · intro a o ea
                  have h5 := msk_some (x a o ea)
                  have h6 := s24 a o (by rw [msk_out h5.1]; exact h5.2)
                  have ne : a ≠ D := ne_of_none (msk_some ea).2 hD
                  rw [msk_out h5.1, upd_ne ne]
                  exact (msk_some h6).2
                · rw [e0]
                  exact (s24.all Ri.sub ra).app (.cons rw4 .nil)
              · cases ec
            · cases ec
          · next δ3 et =>
            refine ht (F.hide D) L σ2 H2 δ2 false δ3 et Rg _ fun H3 s3 R3 => ?_
            rw [if_neg Bool.false_ne_true]
            have s24 : Stp (F.hide D) L H2 H3 := (Stp.of_ex x2).trans s3
            refine ⟨accV, accD, rest, backE vs 0 δi δ3, ?_, Ri.back s24 R3 hk, ?_, s24.all Ri.sub ra, ec, er, by omega⟩
            · intro a o ea
              have h5 := msk_some (x a o ea)
              have h6 := s24 a o (by rw [msk_out h5.1]; exact h5.2)
              rw [msk_out h5.1]
              exact (msk_some h6).2
            · exact (msk_some (s24 D _ (by rw [msk_out hDml]; exact hD'))).2
          · cases ec
        · cases ec
      · rw [List.drop_eq_nil_of_le (by omega)] at ec
        unfold compLO at ec
        by_cases hown : ownAt δi i0 = some ds
        case neg =>
          rw [if_neg hown] at ec
          cases ec
        rw [if_pos hown] at ec
        cases ec
        rw [List.append_nil] at er
        subst er
        obtain ⟨vs2, h12, hr2⟩ := own0 _ Ri hown
        refine .inl ⟨⟨vs2, sq_of h12, by rw [hr2.len]; omega⟩, ?_⟩
        exact q D accV H' (hD) (x) Ri hD' ra
    · rw [if_neg hz] at e
      cases e
  · cases e
open Classical in
noncomputable def loopO (i0 : Nat) (all : List PyData) (γ : FG) (β : FS) : List PyData → En → Option Out
  | [], δ => if ownAt δ i0 = some all then some (.nx δ) else none
  | d :: ds, δ => if ownAt δ i0 = some all then (match γ d δ with
    | some δ2 => match β δ2 with
      | some (.nx δ3) => loopO i0 all γ β ds δ3
      | some (.ct δ3) => loopO i0 all γ β ds δ3
      | some (.bk δ3) => some (.nx δ3)
      | some (.rt v δ3) => some (.rt v δ3)
      | some (.rl v δ3) => some (.rl v δ3)
      | none => none
    | none => none) else none
noncomputable def sForO (i0 : Nat) (γ : FG) (β : FS) : FS := fun δ => match ownAt δ i0 with
  | some ds => loopO i0 ds γ β ds δ
  | none => none
theorem ws_forO {i0 : Nat} {g : TG} {tb : TS} {js ws : List Nat} {γ : FG} {β : FS} (hg : WG K g js γ) (hb : WS K tb ws β) (hi0 : ¬ i0 ∈ js ++ ws) : WS K (tFor (iAny K (tVar i0)) g tb) (js ++ ws) (sForO i0 γ β) := fun F L σ H δ o e R D k => by
  unfold sForO at e
  split at e
  · next ds e1 =>
    obtain ⟨ev0, l0, vs0, he0, hm0, hs0, hl0, h10, hr0⟩ := own_at R e1
    refine .inl ⟨_, hs0, l0, rfl, ⟨_, sq_of h10⟩, ?_⟩
    have k1 := k
    have R1 := R
    refine ⟨fun i m σ' H' => m = ds.length - i ∧ ∃ L' δ', StpS F L H L' H' ∧ EnvR K F L' σ' H' δ' ∧ loopO i0 ds γ β (ds.drop i) δ' = some o ∧ ∀ j, ¬ j ∈ js ++ ws → σ'[j]? = σ[j]?, ⟨ds.length, by omega, L, δ, StpS.refl, R1, by rw [List.drop_zero]; exact e, fun _ _ => rfl⟩, ?_⟩
    rintro i m σ' H' ⟨rfl, L', δ', s, R', el, kk⟩
    have own0 : ownAt δ' i0 = some ds → ∃ vs2, H' l0 = some (.lst vs2) ∧ RpAll K (Msk (F.B ++ L') H') vs2 ds := fun e2 => by
      obtain ⟨_, l2, vs2, _, _, hs2, _, h12, hr2⟩ := own_at R' e2
      rw [kk i0 hi0, hs0] at hs2
      cases hs2
      exact ⟨vs2, h12, hr2⟩
    by_cases hlt : i < ds.length
    · have hd : ds[i]? = some ds[i] := List.getElem?_eq_getElem hlt
      rw [List.drop_eq_getElem_cons hlt] at el
      unfold loopO at el
      by_cases hown : ownAt δ' i0 = some ds
      case neg =>
        rw [if_neg hown] at el
        cases el
      rw [if_pos hown] at el
      obtain ⟨vs2, h12, hr2⟩ := own0 hown
      obtain ⟨v2, hv2, rv2⟩ := hr2.get i _ hd
      refine .inr ⟨⟨vs2, v2, sq_of h12, hv2⟩, fun σ5 H5 => ∃ L' δ', StpS F L H L' H5 ∧ EnvR K F L' σ5 H5 δ' ∧ loopO i0 ds γ β (ds.drop (i + 1)) δ' = some o ∧ ∀ j, ¬ j ∈ js ++ ws → σ5[j]? = σ[j]?, fun σ5 H5 hN => ⟨ds.length - (i + 1), by omega, rfl, hN⟩, fun y H2 hy => ?_⟩
      obtain ⟨rfl, hy⟩ := hy
      have hy2 := hy vs2 (sq_of h12)
      rw [hv2] at hy2
      cases hy2
      have x2 : Ex H2 H2 := Ex.refl _
      have ry := rv2
      have s2 : StpS F L H L' H2 := s.trans ((Stp.of_ex x2).s R' (R'.ex x2)) R1.live
      split at el
      · next δ2 eg =>
        refine hg F L' σ' H2 δ' v2 _ δ2 eg (R'.ex x2) ry _ fun σ2 _ kg Rg => ?_
        have kk2 : ∀ j, ¬ j ∈ js ++ ws → σ2[j]? = σ[j]? := fun j hj => (kg j fun z => hj (in_l j z)).trans (kk j hj)
        have kk3 : ∀ {σ3 : St}, (∀ j, ¬ j ∈ ws → σ3[j]? = σ2[j]?) → ∀ j, ¬ j ∈ js ++ ws → σ3[j]? = σ[j]? := fun z j hj => (z j fun q => hj (in_r j q)).trans (kk2 j hj)
        split at el
        · next δ3 eb =>
          exact hb F L' σ2 H2 δ2 _ eb Rg _ fun L3 σ3 H3 s3 R3 z3 => ⟨L3, δ3, s2.trans s3 R1.live, R3, el, kk3 z3⟩
        · next δ3 eb =>
          exact hb F L' σ2 H2 δ2 _ eb Rg _ fun L3 σ3 H3 s3 R3 z3 => ⟨L3, δ3, s2.trans s3 R1.live, R3, el, kk3 z3⟩
        · next δ3 eb =>
          cases el
          exact hb F L' σ2 H2 δ2 _ eb Rg _ fun L3 σ3 H3 s3 R3 z3 => k1 L3 σ3 H3 (s2.trans s3 R1.live) R3 (kk3 z3)
        · next v δ3 eb =>
          cases el
          exact hb F L' σ2 H2 δ2 _ eb Rg _ (Ok.back (o := .rt v δ3) R1 s2 kk2 (fun _ z => z) in_r k1)
        · next v δ3 eb =>
          cases el
          exact hb F L' σ2 H2 δ2 _ eb Rg _ (Ok.back (o := .rl v δ3) R1 s2 kk2 (fun _ z => z) in_r k1)
        · cases el
      · cases el
    · rw [List.drop_eq_nil_of_le (by omega)] at el
      unfold loopO at el
      by_cases hown : ownAt δ' i0 = some ds
      case neg =>
        rw [if_neg hown] at el
        cases el
      rw [if_pos hown] at el
      cases el
      obtain ⟨vs2, h12, hr2⟩ := own0 hown
      exact .inl ⟨⟨vs2, sq_of h12, by rw [hr2.len]; omega⟩, k1 L' σ' H' s R' kk⟩
  · cases e
/-! ### a, b = two new lists, own -/
def sParO (i j : Nat) (φ ψ : FL) : FS := fun δ => match φ δ with
  | some (xs, δ1) => match ψ δ1 with
    | some (ys, δ2) => if i < δ2.length ∧ j < δ2.length then some (.nx ((δ2.set j (.own ys)).set i (.own xs))) else none
    | none => none
  | none => none
theorem ws_parO {ta tb : TE} {i j : Nat} {φ ψ : FL} (hij : i ≠ j) (h : WL K ta φ) (h' : WL K tb ψ) : WS K (tPar i j (tCons ta (tCons tb tNil))) [i, j] (sParO i j φ ψ) := fun F L σ H δ o e R D k => by
  unfold sParO at e
  split at e
  · next xs δ1 e1 =>
    split at e
    · next ys δ2 e2 =>
      by_cases hl : i < δ2.length ∧ j < δ2.length
      · rw [if_pos hl] at e
        cases e
        refine h F L σ H δ xs δ1 e1 R _ fun p us H1 hp s1 R1 h1 d1 => ?_
        refine h' (F.hide p) L σ H1 δ1 ys δ2 e2 R1 _ fun q ws H2 hq s2 R2 h2 d2 => ?_
        have hn := R.fresh hp
        have hpB : ¬ p ∈ F.B := fun z => hn (List.mem_append.mpr (.inl z))
        have hpm : ¬ p ∈ (F.hide p).M ++ L := fun z => hn (R.sub p z)
        have h12 : H2 p = some (.lst us) := (msk_some (s2 p _ (by rw [msk_out hpm]; exact h1))).2
        have hnq := R1.fresh hq
        have hqB : ¬ q ∈ (F.hide p).B := fun z => hnq (List.mem_append.mpr (.inl z))
        have hqp : q ≠ p := fun z => hqB (by rw [z]; exact List.mem_cons_self)
        have d1' : RpAll K (Msk ((F.hide p).B ++ L) H2) us xs := s2.all R1.sub d1
        have R3 := R2.putOwn R1.mb hqB h2 d2 hl.2
        have e0 : Ex (Msk ((F.hide p).B ++ L) H1) (Msk ((F.hide p).B ++ (q :: L)) H2) := fun a o ea => by
          obtain ⟨z1, z2⟩ := msk_some ea
          have nm : ¬ a ∈ (F.hide p).M ++ L := fun z => z1 (R1.sub a z)
          have z3 := (msk_some (s2 a o (by rw [msk_out nm]; exact z2))).2
          have ne : a ≠ q := ne_of_none z2 hq
          rw [msk_out (fun z => by
            rcases List.mem_append.mp z with z | z
            · exact z1 (List.mem_append.mpr (.inl z))
            · rcases List.mem_cons.mp z with z | z
              · exact ne z
              · exact z1 (List.mem_append.mpr (.inr z)))]
          exact z3
        have R4 := R3.putOwn (i := i) R.mb hpB h12 (RpAll.mono e0 _ _ d1) (by rw [List.length_set]; exact hl.1)
        have hc : (σ.set j (some (.ref q))).set i (some (.ref p)) = (σ.set i (some (.ref p))).set j (some (.ref q)) := List.set_comm _ _ hij.symm
        rw [hc] at R4
        refine ⟨_, _, rfl, k (p :: q :: L) _ H2 ⟨fun a o ea => ?_, fun a ha => ?_, fun a ha => ?_⟩ R4 fun m hm => ?_⟩
        · have z := msk_some (s1 a o ea)
          have z2 := s2 a o (by rw [msk_out z.1]; exact z.2)
          exact z2
        · rcases List.mem_cons.mp ha with z | z
          · rw [z]
            exact .inr hp
          · rcases List.mem_cons.mp z with z | z
            · right
              rw [z]
              cases eq0 : H q with
              | none => rfl
              | some o =>
                exfalso
                by_cases hm : q ∈ F.M ++ L
                · exact hnq (List.mem_cons_of_mem _ (R.sub q hm))
                · have := (msk_some (s1 q o (by rw [msk_out hm]; exact eq0))).2
                  rw [hq] at this
                  cases this
            · exact .inl z
        · have z1 := (s1.s R (R1.show R.mb)).kp a ha
          exact (s2.s R1 (R2.show R1.mb)).kp a z1
        · rw [get_set, if_neg (fun z => hm (by rw [z]; simp)), get_set, if_neg (fun z => hm (by rw [z]; simp))]
      · rw [if_neg hl] at e
        cases e
    · cases e
  · cases e
/-! ### a comparison whose left side is a list of one's own -/
def fOpO (f : PyData → PyData → Option PyData) (i : Nat) (ψ : FE) : FE := fun δ => match ownAt δ i with
  | some _ => match ψ δ with
    | some (y, δ2) => match ownAt δ2 i with
      | some ds => match f (.list ds) y with
        | some (.bool b) => some (.bool b, δ2)
        | _ => none
      | none => none
    | none => none
  | none => none
theorem we_opO {r : R2} {f : PyData → PyData → Option PyData} {tb : TE} {i : Nat} {ψ : FE} (hr : RD K r f) (hb : WE K tb ψ) : WE K (tOp r (tVar i) tb) (fOpO f i ψ) := fun F L σ H δ d δ' e R Q q => by
  unfold fOpO at e
  split at e
  · next ds0 e0 =>
    split at e
    · next y δ2 e1 =>
      split at e
      · next ds e2 =>
        split at e
        · next b e3 =>
          cases e
          obtain ⟨_, l, vs, _, _, hs, _, h1, _⟩ := own_at R e0
          refine ⟨_, hs, hb F L σ H δ y _ e1 R _ fun w H2 s2 R2 d2 => ?_⟩
          obtain ⟨_, l', vs', _, _, hs', _, h1', hr'⟩ := own_at R2 e2
          rw [hs] at hs'
          cases hs'
          refine hr [] H2 (.ref l) w _ y _ e3 ?_ ?_ (fun _ _ z => by simp at z) Q fun v H3 x3 d3 => ?_
          · rw [msk_nil]
            exact .lst h1' (RpAll.mono msk_le _ _ hr')
          · rw [msk_nil]
            exact Rp.mono msk_le _ _ d2
          · cases d3
            exact q _ H3 (s2.trans (Stp.of_ex x3)) (R2.ex x3) (.bl _)
        · cases e
      · cases e
    · cases e
  · cases e
end
end Sm
namespace Sm
open PySem L2 Evl RZ
section
variable {K : PySem.W.Frag}
/-! ### own dicts -/
abbrev FD := En → Option (List (PyData × PyData) × En)
/-- a new dict, nobody's yet -/
def WD (K : PySem.W.Frag) (te : TE) (φ : FD) : Prop := ∀ (F : Fm) (L : List Addr) (σ : St) (H : Hp) (δ : En) (ds : List (PyData × PyData)) (δ' : En), φ δ = some (ds, δ') → EnvR K F L σ H δ → ∀ Q : VK,
  (∀ p ks H2, H p = none → Stp F L H H2 → EnvR K (F.hide p) L σ H2 δ' → H2 p = some (.dK ks) → RpKV K (Msk ((F.hide p).B ++ L) H2) ks ds → Q (.ref p) H2) → te σ H Q
theorem EnvR.putMine {F : Fm} {L : List Addr} {σ : St} {H : Hp} {δ : En} {p : Addr} {en : EV} {i : Nat} (R : EnvR K (F.hide p) L σ H δ) (mb : ∀ a, a ∈ F.M → a ∈ F.B) (hpB : ¬ p ∈ F.B) (hn : SlotR K F (p :: L) H (some (some (.ref p))) en) (hi : i < δ.length) :
    EnvR K F (p :: L) (σ.set i (some (.ref p))) H (δ.set i en) := by
  have npl : ∀ a, a ∈ L → a ≠ p := fun a ha z => R.lb a ha (by rw [z]; exact List.mem_cons_self)
  have npm : ∀ a, a ∈ F.M → a ≠ p := fun a ha z => hpB (by rw [← z]; exact mb a ha)
  have old : ∀ (j : Nat) (e : EV), δ[j]? = some e → SlotR K F (p :: L) H σ[j]? e ∧ (e.mine = true → σ[j]? ≠ some (some (.ref p))) := fun j e h => by
    have := R.at_ j e h
    cases e with
    | un => exact ⟨trivial, fun z => nomatch z⟩
    | dat d =>
      obtain ⟨v, h1, h2⟩ := this
      rw [msk_congr hide_cg] at h2
      exact ⟨⟨v, h1, h2⟩, fun z => nomatch z⟩
    | own ds =>
      obtain ⟨l, vs, h1, h2, h3, h4⟩ := this
      rw [msk_congr hide_cg] at h4
      refine ⟨⟨l, vs, h1, List.mem_cons_of_mem _ h2, h3, h4⟩, fun _ z => ?_⟩
      rw [h1] at z
      cases z
      exact npl _ h2 rfl
    | odc ds =>
      obtain ⟨l, vs, h1, h2, h3, h4⟩ := this
      rw [msk_congr hide_cg] at h4
      refine ⟨⟨l, vs, h1, List.mem_cons_of_mem _ h2, h3, h4⟩, fun _ z => ?_⟩
      rw [h1] at z
      cases z
      exact npl _ h2 rfl
    | bag ds =>
      obtain ⟨l, vs, h1, h2, h3, h4⟩ := this
      rw [msk_congr hide_cg] at h4
      refine ⟨⟨l, vs, h1, h2, h3, h4⟩, fun _ z => ?_⟩
      rw [h1] at z
      cases z
      exact npm _ h2 rfl
  refine ⟨by rw [List.length_set, List.length_set, R.len], fun j e h => ?_, fun a b l e1 e2 hab h1 h2 m1 m2 s1 s2 => ?_, fun a ha => R.al a ((hide_cg a).mpr ha), mb, fun a ha => ?_⟩
  · rw [get_set] at h ⊢
    by_cases hij : i = j
    · rw [if_pos hij] at h ⊢
      subst hij
      rw [if_pos hi] at h
      rw [if_pos (by rw [R.len]; exact hi)]
      cases h
      exact hn
    · rw [if_neg hij] at h ⊢
      exact (old j e h).1
  · rw [get_set] at h1 h2 s1 s2
    by_cases ha : i = a
    · have hb : ¬ i = b := fun z => hab (ha.symm.trans z)
      rw [if_neg hb] at h2 s2
      rw [if_pos ha] at s1
      split at s1
      · cases s1
        exact (old b e2 h2).2 m2 s2
      · cases s1
    · rw [if_neg ha] at h1 s1
      by_cases hb : i = b
      · rw [if_pos hb] at s2
        split at s2
        · cases s2
          exact (old a e1 h1).2 m1 s1
        · cases s2
      · rw [if_neg hb] at h2 s2
        exact R.dis a b l e1 e2 hab h1 h2 m1 m2 s1 s2
  · rcases List.mem_cons.mp ha with z | z
    · rw [z]
      exact hpB
    · exact fun q => R.lb a z (List.mem_cons_of_mem _ q)
/-- x = a new dict, x's own -/
def sOwnD (i : Nat) (φ : FD) : FS := fun δ => match φ δ with
  | some (ds, δ1) => if i < δ1.length then some (.nx (δ1.set i (.odc ds))) else none
  | none => none
theorem ws_ownD {te : TE} {i : Nat} {φ : FD} (h : WD K te φ) : WS K (tAsg te (gName i)) [i] (sOwnD i φ) := fun F L σ H δ o e R D k => by
  unfold sOwnD at e
  split at e
  · next ds δ1 e1 =>
    by_cases hi : i < δ1.length
    · rw [if_pos hi] at e
      cases e
      refine h F L σ H δ ds δ1 e1 R _ fun p vs H2 hp s R2 h2 d2 => ?_
      have hn := R.fresh hp
      have hpB : ¬ p ∈ F.B := fun z => hn (List.mem_append.mpr (.inl z))
      refine k (p :: L) _ H2 ⟨s, fun a ha => ?_, (s.s R (R2.show R.mb)).kp⟩ (R2.putMine R.mb hpB ⟨p, vs, rfl, List.mem_cons_self, h2, by rw [← msk_congr hide_cg]; exact d2⟩ hi) (fun j hj => by rw [get_set, if_neg (fun z => hj (by rw [z]; exact List.mem_singleton.mpr rfl))])
      rcases List.mem_cons.mp ha with z | z
      · rw [z]
        exact .inr hp
      · exact .inl z
    · rw [if_neg hi] at e
      cases e
  · cases e
/-- {} -/
def fNewD : FD := fun δ => some ([], δ)
theorem wd_new : WD K tDNewK fNewD := fun F L σ H δ d δ' e R Q q => by
  cases e
  intro p hp
  exact q p [] _ hp (Stp.of_ex (Ex.new hp)) (R.hide hp _) upd_same .nil
/-- dict(..) of a list of pairs -/
def fDictD (φ : FE) : FD := fun δ => match φ δ with
  | some (.list ds, δ1) => match pairsD ds with
    | some kvs => some (mergeD [] kvs, δ1)
    | none => none
  | _ => none
theorem wd_dict {te : TE} {φ : FE} (h : WB K te φ) : WD K (tCB (rDictP K) (tCons te tNil)) (fDictD φ) := fun F L σ H δ d δ' e R Q q => by
  unfold fDictD at e
  split at e
  · next ds δ1 e1 =>
    split at e
    · next kvs hk =>
      cases e
      refine h F L σ H δ _ _ e1 R _ fun v H1 s1 R1 b1 => ?_
      obtain ⟨p, vs, rfl, h1, h2⟩ := b1.lst
      obtain ⟨ps, ks, rfl, hp, k1, k2⟩ := pairs_of h2 hk
      refine ⟨p, ps, ks, rfl, sq_of h1, paired_mono (fun _ _ z => ex_t msk_le z) hp, fun l hl => ?_⟩
      refine q l (mergeK [] ks) _ ?_ (s1.trans (Stp.of_ex (Ex.new hl))) (R1.hide hl _) upd_same (RpKV.mono (hide_ex (Ex.new hl) hl) _ _ (merge_of k1 k2 .nil))
      cases z : H l with
      | none => rfl
      | some o => exact absurd hl ((s1.s R R1).kp l (by rw [z]; exact fun q => nomatch q))
    · cases e
  · cases e
def dicAt (δ : En) (i : Nat) : Option (List (PyData × PyData)) := match δ[i]? with
  | some (.odc ds) => some ds
  | _ => none
theorem dic_at {F : Fm} {L : List Addr} {σ : St} {H : Hp} {δ : En} (R : EnvR K F L σ H δ) {i : Nat} {ds : List (PyData × PyData)} (h : dicAt δ i = some ds) : δ[i]? = some (.odc ds) ∧ ∃ l ks, σ[i]? = some (some (.ref l)) ∧ l ∈ L ∧ H l = some (.dK ks) ∧ RpKV K (Msk (F.B ++ L) H) ks ds := by
  unfold dicAt at h
  split at h
  · next ds' he =>
    cases h
    exact ⟨he, R.at_ i _ he⟩
  · cases h
/-- an own dict has changed -/
theorem EnvR.updDic {F : Fm} {L : List Addr} {σ : St} {H : Hp} {δ : En} {i : Nat} {l : Addr} {ds0 ds : List (PyData × PyData)} {ks : List (Key × V)} (R : EnvR K F L σ H δ) (he : δ[i]? = some (.odc ds0)) (hs : σ[i]? = some (some (.ref l))) (hl : l ∈ L)
    (hr : RpKV K (Msk (F.B ++ L) H) ks ds) : EnvR K F L σ (upd H l (.dK ks)) (δ.set i (.odc ds)) ∧ Stp F L H (upd H l (.dK ks)) := by
  have hlm : l ∈ F.M ++ L := List.mem_append.mpr (.inr hl)
  have st : Stp F L H (upd H l (.dK ks)) := msk_ex upd_ex1 (fun a ha => by rw [List.mem_singleton.mp ha]; exact hlm)
  have hil : i < δ.length := (List.getElem?_eq_some_iff.mp he).1
  have e0 : Msk (F.B ++ L) (upd H l (.dK ks)) = Msk (F.B ++ L) H := msk_upd (R.sub l hlm)
  refine ⟨?_, st⟩
  refine ⟨by rw [List.length_set]; exact R.len, fun j e' h => ?_, fun a b l' e1 e2 hab h1 h2 m1 m2 s1 s2 => ?_, fun a ha => ?_, R.mb, R.lb⟩
  · rw [get_set] at h
    by_cases hij : i = j
    · subst hij
      rw [if_pos rfl, if_pos hil] at h
      cases h
      exact ⟨l, ks, hs, hl, upd_same, by rw [e0]; exact hr⟩
    · rw [if_neg hij] at h
      have ha := R.at_ j e' h
      cases e' with
      | un => trivial
      | dat d =>
        obtain ⟨v, k1, k2⟩ := ha
        exact ⟨v, k1, st.dat R.sub k2⟩
      | own ds' =>
        obtain ⟨l2, vs2, k1, k2, k3, k4⟩ := ha
        have ne : l2 ≠ l := fun z => by
          subst z
          exact R.dis i j l2 _ _ hij he h rfl rfl hs k1
        exact ⟨l2, vs2, k1, k2, by rw [upd_ne ne]; exact k3, st.all R.sub k4⟩
      | odc ds' =>
        obtain ⟨l2, vs2, k1, k2, k3, k4⟩ := ha
        have ne : l2 ≠ l := fun z => by
          subst z
          exact R.dis i j l2 _ _ hij he h rfl rfl hs k1
        exact ⟨l2, vs2, k1, k2, by rw [upd_ne ne]; exact k3, st.kvs R.sub k4⟩
      | bag ds' =>
        obtain ⟨l2, vs2, k1, k2, k3, k4⟩ := ha
        have ne : l2 ≠ l := fun z => by
          subst z
          exact R.dis i j l2 _ _ hij he h rfl rfl hs k1
        exact ⟨l2, vs2, k1, k2, by rw [upd_ne ne]; exact k3, st.all R.sub k4⟩
  · rw [get_set] at h1 h2
    have back : ∀ (c : Nat) (ec : EV), (if i = c then if c < δ.length then some (EV.odc ds) else none else δ[c]?) = some ec → ec.mine = true → ∃ ec', δ[c]? = some ec' ∧ ec'.mine = true := fun c ec hc mc => by
      by_cases z : i = c
      · subst z
        exact ⟨_, he, rfl⟩
      · rw [if_neg z] at hc
        exact ⟨ec, hc, mc⟩
    obtain ⟨f1, g1, n1⟩ := back a e1 h1 m1
    obtain ⟨f2, g2, n2⟩ := back b e2 h2 m2
    exact R.dis a b l' f1 f2 hab g1 g2 n1 n2 s1 s2
  · by_cases z : a = l
    · rw [z, upd_same]
      exact fun q => nomatch q
    · rw [upd_ne z]
      exact R.al a ha
/-- d[k] = v -/
def sDPutO (i : Nat) (ψ φ : FE) : FS := fun δ => match φ δ with
  | some (d, δ1) => match dicAt δ1 i with
    | some _ => match ψ δ1 with
      | some (y, δ2) => match keyOf y, dicAt δ2 i with
        | some k, some ds => if ds.length < 40000 then some (.nx (δ2.set i (.odc (putD ds k d)))) else none
        | _, _ => none
      | none => none
    | none => none
  | none => none
theorem ws_dput {ty tv : TE} {i : Nat} {ψ φ : FE} (h' : WE K ty ψ) (h : WE K tv φ) : WS K (sDPut (tVar i) ty tv) [] (sDPutO i ψ φ) := fun F L σ H δ o e R D k => by
  unfold sDPutO at e
  split at e
  · next d δ1 e1 =>
    split at e
    · next ds0 e0 =>
      split at e
      · next y δ2 e2 =>
        split at e
        · next kk ds hk e3 =>
          by_cases hl : ds.length < 40000
          · rw [if_pos hl] at e
            cases e
            refine h F L σ H δ d δ1 e1 R _ fun v H1 s1 R1 d1 => ?_
            obtain ⟨he0, l, ks0, g1, g2, g3, g4⟩ := dic_at R1 e0
            refine ⟨_, g1, ?_⟩
            refine h' F L σ H1 δ1 y δ2 e2 R1 _ fun w H2 s2 R2 d2 => ?_
            obtain ⟨he, l', ks, k1, k2, k3, k4⟩ := dic_at R2 e3
            rw [g1] at k1
            cases k1
            have hyk := keyOf_some hk
            subst hyk
            cases kV_of d2
            obtain ⟨R3, s3⟩ := R2.updDic (ds := putD ds kk d) (ks := putK ks kk v) he g1 k2 (k4.put kk (s2.dat R1.sub d1))
            refine ⟨l, _, rfl, DPut.k k3 (by rw [k4.len, sizeLine_eq]; omega), ?_⟩
            exact k L σ _ (((s1.trans s2).trans s3).s R R3) R3 fun _ _ => rfl
          · rw [if_neg hl] at e
            cases e
        · cases e
      · cases e
    · cases e
  · cases e
/-- d[k], d one's own -/
def fDGetO (i : Nat) (ψ : FE) : FE := fun δ => match dicAt δ i with
  | some _ => match ψ δ with
    | some (y, δ1) => match keyOf y, dicAt δ1 i with
      | some k, some ds => match lookD ds k with
        | some d => some (d, δ1)
        | none => none
      | _, _ => none
    | none => none
  | none => none
theorem we_dgetO {ty : TE} {i : Nat} {ψ : FE} (h' : WE K ty ψ) : WE K (tDGet (tVar i) ty) (fDGetO i ψ) := fun F L σ H δ d δ' e R Q q => by
  unfold fDGetO at e
  split at e
  · next ds0 e0 =>
    obtain ⟨he0, l, ks0, g1, g2, g3, g4⟩ := dic_at R e0
    split at e
    · next y δ1 e1 =>
      split at e
      · next kk ds hk e3 =>
        split at e
        · next d' hd =>
          cases e
          refine ⟨_, g1, ?_⟩
          refine h' F L σ H δ y _ e1 R _ fun w H2 s2 R2 d2 => ?_
          obtain ⟨he, l', ks, k1, k2, k3, k4⟩ := dic_at R2 e3
          rw [g1] at k1
          cases k1
          have hyk := keyOf_some hk
          subst hyk
          cases kV_of d2
          rcases k4.look kk with ⟨_, z⟩ | ⟨u, d0, z1, z2, z3⟩
          · rw [z] at hd
            cases hd
          · rw [z2] at hd
            cases hd
            refine ⟨l, u, rfl, ?_, q u H2 s2 R2 z3⟩
            rw [← z1]
            exact DGet.k k3
        · cases e
      · cases e
    · cases e
  · cases e
/-- d.get(k, x), d data -/
def fDGet2 (φ ψ χ : FE) : FE := fun δ => match φ δ with
  | some (x, δ1) => match ψ δ1 with
    | some (y, δ2) => match χ δ2 with
      | some (z, δ3) => match dictOf x, keyOf y with
        | some kvs, some k => some ((lookD kvs k).getD z, δ3)
        | _, _ => none
      | none => none
    | none => none
  | none => none
theorem we_dget2 {td ty tx : TE} {φ ψ χ : FE} (h : WE K td φ) (h' : WE K ty ψ) (h'' : WE K tx χ) : WE K (tDGet2 td ty tx) (fDGet2 φ ψ χ) := fun F L σ H δ d δ' e R Q q => by
  unfold fDGet2 at e
  split at e
  · next x δ1 e1 =>
    split at e
    · next y δ2 e2 =>
      split at e
      · next z δ3 e3 =>
        split at e
        · next kvs k hx hy =>
          cases e
          refine h F L σ H δ x δ1 e1 R _ fun v H1 s1 R1 d1 => ?_
          obtain ⟨a, ks, rfl, g1, g2⟩ := dict_of d1 hx
          refine ⟨a, rfl, .inl ⟨ks, .inl g1⟩, ?_⟩
          refine h' F L σ H1 δ1 y δ2 e2 R1 _ fun w H2 s2 R2 d2 => ?_
          refine h'' F L σ H2 δ2 z δ' e3 R2 _ fun u H3 s3 R3 d3 => ?_
          obtain ⟨a', ks', ea, h1, h2⟩ := dict_of (s3.dat R2.sub (s2.dat R1.sub d1)) hx
          cases ea
          have hyk := keyOf_some hy
          subst hyk
          cases kV_of d2
          rcases h2.look k with ⟨z0, z⟩ | ⟨u', d0, z1, z2, z3⟩
          · refine ⟨none, ?_, q _ H3 ((s1.trans s2).trans s3) R3 (by rw [z]; exact d3)⟩
            rw [← z0]
            exact DGet.k h1
          · refine ⟨some u', ?_, q _ H3 ((s1.trans s2).trans s3) R3 (by rw [z2]; exact z3)⟩
            rw [← z1]
            exact DGet.k h1
        · cases e
      · cases e
    · cases e
  · cases e
end
end Sm
namespace Sm
open PySem L2 Evl RZ
section
variable {K : PySem.W.Frag}
/-- an own dict becomes data -/
theorem EnvR.freezeD {F : Fm} {L : List Addr} {σ : St} {H : Hp} {δ : En} (R : EnvR K F L σ H δ) {i : Nat} {ds : List (PyData × PyData)} (h : δ[i]? = some (.odc ds)) : ∃ l vs, σ[i]? = some (some (.ref l)) ∧ l ∈ L ∧ H l = some (.dK vs) ∧ RpKV K (Msk (l :: (F.B ++ L.filter (· != l))) H) vs ds ∧ ¬ l ∈ F.B ++ L.filter (· != l) ∧
    ∀ e : EV, e.mine = false → SlotR K F (L.filter (· != l)) H (some (some (.ref l))) e → EnvR K F (L.filter (· != l)) σ H (δ.set i e) := by
  obtain ⟨l, vs, h1, h2, h3, h4⟩ := R.at_ i _ h
  have hil : i < δ.length := (List.getElem?_eq_some_iff.mp h).1
  have cg : ∀ a, a ∈ F.B ++ L ↔ a ∈ l :: (F.B ++ L.filter (· != l)) := fun a => by
    simp only [List.mem_append, List.mem_cons]
    constructor
    · rintro (z | z)
      · exact .inr (.inl z)
      · by_cases q : a = l
        · exact .inl q
        · exact .inr (.inr (filt_in z q))
    · rintro (z | z | z)
      · rw [z]
        exact .inr h2
      · exact .inl z
      · exact .inr (filt_sub z).1
  have nl : ¬ l ∈ F.B ++ L.filter (· != l) := fun z => by
    rcases List.mem_append.mp z with z | z
    · exact R.lb l h2 z
    · exact (filt_sub z).2 rfl
  have xm : Ex (Msk (F.B ++ L) H) (Msk (F.B ++ L.filter (· != l)) H) := msk_sub fun a ha => by
    rcases List.mem_append.mp ha with z | z
    · exact List.mem_append.mpr (.inl z)
    · exact List.mem_append.mpr (.inr (filt_sub z).1)
  refine ⟨l, vs, h1, h2, h3, by rw [← msk_congr cg]; exact h4, nl, fun e hm he => ⟨by rw [List.length_set]; exact R.len, fun j e' hj => ?_, fun a b l' e1 e2 hab k1 k2 m1 m2 s1 s2 => ?_, fun a ha => ?_, R.mb, fun a ha => R.lb a (filt_sub ha).1⟩⟩
  · rw [get_set] at hj
    by_cases hij : i = j
    · subst hij
      rw [if_pos rfl, if_pos hil] at hj
      cases hj
      rw [h1]
      exact he
    · rw [if_neg hij] at hj
      have ha := R.at_ j e' hj
      cases e' with
      | un => trivial
      | dat d =>
        obtain ⟨v, k1, k2⟩ := ha
        exact ⟨v, k1, Rp.mono xm _ _ k2⟩
      | own ds' =>
        obtain ⟨l2, vs2, k1, k2, k3, k4⟩ := ha
        have ne : l2 ≠ l := fun z => by
          subst z
          exact R.dis i j l2 _ _ hij h hj rfl rfl h1 k1
        exact ⟨l2, vs2, k1, filt_in k2 ne, k3, RpAll.mono xm _ _ k4⟩
      | odc ds' =>
        obtain ⟨l2, vs2, k1, k2, k3, k4⟩ := ha
        have ne : l2 ≠ l := fun z => by
          subst z
          exact R.dis i j l2 _ _ hij h hj rfl rfl h1 k1
        exact ⟨l2, vs2, k1, filt_in k2 ne, k3, RpKV.mono xm _ _ k4⟩
      | bag ds' =>
        obtain ⟨l2, vs2, k1, k2, k3, k4⟩ := ha
        exact ⟨l2, vs2, k1, k2, k3, RpAll.mono xm _ _ k4⟩
  · rw [get_set] at k1 k2
    by_cases ha : i = a
    · rw [if_pos ha] at k1
      split at k1
      · cases k1
        rw [hm] at m1
        cases m1
      · cases k1
    · by_cases hb : i = b
      · rw [if_pos hb] at k2
        split at k2
        · cases k2
          rw [hm] at m2
          cases m2
        · cases k2
      · rw [if_neg ha] at k1
        rw [if_neg hb] at k2
        exact R.dis a b l' e1 e2 hab k1 k2 m1 m2 s1 s2
  · exact R.al a (by
      rcases List.mem_append.mp ha with z | z
      · exact List.mem_append.mpr (.inl z)
      · exact List.mem_append.mpr (.inr (filt_sub z).1))
/-- from here on an own dict is data -/
def sFrzD (i : Nat) (φ : FS) : FS := fun δ => match δ[i]? with
  | some (.odc ds) => φ (δ.set i (.dat (.dict ds)))
  | _ => none
theorem ws_frzD {t : TS} {ws : List Nat} {i : Nat} {φ : FS} (h : WS K t ws φ) : WS K t ws (sFrzD i φ) := fun F L σ H δ o e R D k => by
  unfold sFrzD at e
  split at e
  · next ds hd =>
    obtain ⟨l, vs, h1, h2, h3, h4, h5, h6⟩ := R.freezeD hd
    have s : StpS F L H (L.filter (· != l)) H := ⟨Ex.refl _, fun a ha => .inl (filt_sub ha).1, fun _ z => z⟩
    refine h F _ σ H _ o e (h6 (.dat (.dict ds)) rfl ⟨_, rfl, .dic (by rw [msk_out h5]; exact h3) (RpKV.mono (msk_sub fun a ha => List.mem_cons_of_mem _ ha) _ _ h4)⟩) D (Ok.bk0 R s (fun _ z => z) k)
  · cases e
/-! ### sorted(d), d's keys whole numbers -/
def keyInts : List (PyData × PyData) → Option (List Int)
  | [] => some []
  | (.int i, _) :: r => match keyInts r with
    | some ns => some (i :: ns)
    | none => none
  | _ :: _ => none
theorem RpKV.ints {H : Hp} : ∀ {ks : List (Key × V)} {ds : List (PyData × PyData)} {ns : List Int}, RpKV K H ks ds → keyInts ds = some ns → ks.map (·.1) = ns.map Sum.inl
  | _, [], ns, h, e => by
    cases h
    cases e
    rfl
  | _, d :: ds, ns, h, e => by
    cases h with
    | @cons k v vs d' _ h1 h2 =>
      cases k with
      | inr x => cases e
      | inl i =>
        have e' : (match keyInts ds with
          | some ns => some (i :: ns)
          | none => none) = some ns := e
        split at e'
        · next ns' hn =>
          cases e'
          rw [List.map_cons, List.map_cons, RpKV.ints h2 hn]
        · cases e'
def leI (a b : Int) : Bool := decide (a ≤ b)
theorem sort_eq {ys ks : List Int} (p : ys.Perm ks) (h : ys.Pairwise (· ≤ ·)) : ys = ks.mergeSort leI := by
  refine List.Perm.eq_of_pairwise (le := fun a b => a ≤ b) (fun a b _ _ h1 h2 => Int.le_antisymm h1 h2) h ?_ (p.trans (List.mergeSort_perm _ _).symm)
  have := List.pairwise_mergeSort (le := leI) (fun a b c h1 h2 => by simp [leI] at *; omega) (fun a b => by simp [leI]; omega) ks
  exact this.imp fun h => by simpa [leI] using h
def dSortDI (d : PyData) : Option (List PyData) := match dictOf d with
  | some kvs => match keyInts kvs with
    | some ns => if ns.length < 64 then some ((ns.mergeSort leI).map PyData.int) else none
    | none => none
  | none => none
abbrev rSortDI : List V → Hp → VK → Prop := fun xs H Q => ∃ (a : Addr) (kvs : List (Key × V)) (ks : List Int), xs = [.ref a] ∧ Rd H a (.dK kvs) ∧ kvs.map (·.1) = ks.map Sum.inl ∧ ks.length < 64 ∧
    ∀ (ys : List Int) (p : Addr), ys.Perm ks → ys.Pairwise (· ≤ ·) → H p = none → Q (.ref p) (upd H p (.lst (ys.map V.int)))
theorem bo_dict {S : List Addr} {H : Hp} {v : V} {d : PyData} {kvs : List (PyData × PyData)} (b : Bo K S H v d) (e : dictOf d = some kvs) : Rp K (Msk S H) v d := by
  rcases b with b | ⟨a, vs, ds, rfl, rfl, _, _⟩
  · exact b
  · cases e
theorem r1_sortDI : R1L K rSortDI dSortDI := fun S H x a ds e b fr Q q => by
  unfold dSortDI at e
  split at e
  · next kvs hd =>
    split at e
    · next ns hn =>
      by_cases hl : ns.length < 64
      · rw [if_pos hl] at e
        cases e
        obtain ⟨p, ks, rfl, h1, h2⟩ := dict_of (bo_dict b hd) hd
        refine ⟨p, ks, ns, rfl, .inl h1, h2.ints hn, hl, fun ys l hp hw hln => ?_⟩
        cases sort_eq hp hw
        exact q l _ _ hln (Ex.new hln) upd_same (RpAll.of_ints _)
      · rw [if_neg hl] at e
        cases e
    · cases e
  · cases e
/-! ### enumerate -/
def numD : Nat → List PyData → List PyData
  | _, [] => []
  | n, d :: ds => .tuple [.int n, d] :: numD (n + 1) ds
theorem numD_len : ∀ (n : Nat) (ds : List PyData), (numD n ds).length = ds.length
  | _, [] => rfl
  | n, d :: ds => by
    show (numD (n + 1) ds).length + 1 = ds.length + 1
    rw [numD_len]
theorem numD_get : ∀ (n : Nat) (ds : List PyData) (i : Nat) (d : PyData), (numD n ds)[i]? = some d → ∃ x, ds[i]? = some x ∧ d = .tuple [.int ((n + i : Nat) : Int), x]
  | n, [], i, d, h => by
    rw [show numD n [] = [] from rfl, List.getElem?_nil] at h
    cases h
  | n, x :: xs, 0, d, h => by
    cases h
    exact ⟨x, rfl, rfl⟩
  | n, x :: xs, i + 1, d, h => by
    obtain ⟨y, hy, e⟩ := numD_get (n + 1) xs i d (by simpa [numD] using h)
    exact ⟨y, by simpa using hy, by rw [e, show n + 1 + i = n + (i + 1) by omega]⟩
theorem iter_enum {F : Fm} {L : List Addr} {H0 : Hp} {a : Addr} {vs : List V} {xs : List PyData} (h1 : Msk (F.B ++ L) H0 a = some (.lst vs)) (h2 : RpAll K (Msk (F.B ++ L) H0) vs xs) :
    Iter K F L H0 (Ite K a) (numD 0 xs) where
  go := fun L' H e fr i d hd => by
    obtain ⟨x, hx, rfl⟩ := numD_get 0 xs i d hd
    obtain ⟨v, hv, rv⟩ := h2.get i x hx
    have sa : SqL K H a vs := sq_of (msk_some (e a _ h1)).2
    refine ⟨⟨vs, v, sa, hv⟩, fun z H' hz => ?_⟩
    obtain ⟨T, x1, rfl, hT, rfl, f1⟩ := hz
    have e1 := f1 vs sa
    rw [hv] at e1
    cases e1
    rw [Nat.zero_add]
    exact ⟨Ex.new hT, new_tup (fr T hT) (.cons (.int _) (.cons (Rp.mono e _ _ rv) .nil)) hT⟩
  stop := fun L' H e i hi => by
    rw [numD_len] at hi
    exact ⟨vs, sq_of (msk_some (e a _ h1)).2, by rw [h2.len]; exact hi⟩
def numOf : PyData → Option (List PyData)
  | .list ds => some (numD 0 ds)
  | _ => none
theorem wi_enum {te : TE} {φ : FE} (h : WE K te φ) : WI K (iEnum K (tCons te tNil)) (fUnL numOf φ) := fun F L σ H δ ds δ' e R Q q => by
  obtain ⟨x, e1, e2⟩ := fUnL_some e
  refine h F L σ H δ x δ' e1 R _ fun v H1 s1 R1 d1 => ?_
  cases x with
  | list es =>
    cases e2
    cases d1 with
    | lst h1 h2 => exact ⟨_, _, rfl, sq_of (msk_some h1).2, q _ H1 s1 R1 (iter_enum h1 h2)⟩
  | _ => cases e2
end
end Sm
namespace Sm
open PySem L2 Evl RZ
section
variable {K : PySem.W.Frag}
/-- a, b, c = e, f, g -/
def sPar3 (i j l : Nat) (φ : FL) : FS := fun δ => match φ δ with
  | some ([x, y, z], δ1) => some (.nx (((δ1.set i (.dat x)).set j (.dat y)).set l (.dat z)))
  | _ => none
theorem ws_par3 {ta : TA} {i j l : Nat} {φ : FL} (h : WA K ta φ) : WS K (tPar3 i j l ta) [i, j, l] (sPar3 i j l φ) := fun F L σ H δ o e R D k => by
  unfold sPar3 at e
  split at e
  · next x y z δ1 e1 =>
    cases e
    refine h F L σ H δ _ δ1 e1 R _ fun vs H1 s1 R1 d1 => ?_
    cases d1 with
    | cons r1 r2 =>
      cases r2 with
      | cons r3 r4 =>
        cases r4 with
        | cons r5 r6 =>
          cases r6
          exact ⟨_, _, _, rfl, k L _ H1 (s1.s R R1) (((R1.put i r1).put j r3).put l r5) fun m hm => by rw [get_set, if_neg (fun z => hm (by rw [z]; simp)), get_set, if_neg (fun z => hm (by rw [z]; simp)), get_set, if_neg (fun z => hm (by rw [z]; simp))]⟩
  · cases e
end
end Sm
namespace Sm
open PySem L2 Evl RZ
section
variable {K : PySem.W.Frag}
/-! ### is None, is not None -/
def nonB : PyData → Bool
  | .none => true
  | _ => false
def dIsNone (a b : PyData) : Option PyData := match b with
  | .none => some (.bool (nonB a))
  | _ => none
def dNotNone (a b : PyData) : Option PyData := match b with
  | .none => some (.bool (!nonB a))
  | _ => none
abbrev rIsNone : R2 := fun x y H Q => y = .non ∧ Q (.bl (decide (x = .non))) H
abbrev rNotNone : R2 := fun x y H Q => y = .non ∧ Q (.bl (!decide (x = .non))) H
theorem non_iff {H : Hp} {v : V} {d : PyData} (h : Rp K H v d) : decide (v = .non) = nonB d := by
  cases h <;> first | rfl | exact decide_eq_false (fun z => nomatch z)
theorem rd_isN : RD K rIsNone dIsNone := fun S H x y a b d e ra rb fr Q q => by
  unfold dIsNone at e
  split at e
  · cases e
    cases rb
    exact ⟨rfl, by rw [non_iff ra]; exact q _ H (Ex.refl H) (.bl _)⟩
  · cases e
theorem rd_notN : RD K rNotNone dNotNone := fun S H x y a b d e ra rb fr Q q => by
  unfold dNotNone at e
  split at e
  · cases e
    cases rb
    exact ⟨rfl, by rw [non_iff ra]; exact q _ H (Ex.refl H) (.bl _)⟩
  · cases e
end
end Sm
/-! zip of two sequences, each a list or a tuple -/
namespace Sm
open PySem PySem.Spec PyProof.Rows L2 Evl RZ
/-- a list (true) or a tuple (false), as the heap of trees has it -/
def SqB (K : PySem.W.Frag) (k : Bool) (H : Hp) (a : Addr) (xs : List V) : Prop := if k = true then SqL K H a xs else SqT K H a xs
/-- the same, as the machine's heap has it; and an iterator over it -/
def IsB (k : Bool) (h : Heap) (a : Addr) (its : Array Value) : Prop := if k = true then h.IsList a its else h.IsTuple a its
def IterB (k : Bool) (h : Heap) (it a : Addr) (i : Nat) : Prop := if k = true then h.IsListIter it a i else h.IsTupleIter it a i
def iterO (k : Bool) (a : Addr) : Obj := { cls := .type (if k = true then "list_iterator" else "tuple_iterator"), data := .fields #[.ref a, .int 0 0] }
theorem IterB.live {k : Bool} {h : Heap} {it a : Addr} {i : Nat} (st : IterB k h it a i) : ∃ o, h.get? it = some o ∧ ∀ v, o.data ≠ .cell v := by
  cases k <;> exact Exists.elim st fun o q => ⟨o, q.1, fun v z => by have := q.2.2; rw [z] at this; cases this⟩
theorem IterB.keep {k : Bool} {h h' : Heap} {it a : Addr} {i : Nat} (st : IterB k h it a i) (q : ∀ o, h.get? it = some o → h'.get? it = some o) : IterB k h' it a i := by
  cases k
  · exact Heap.IsTupleIter.at st q
  · exact Heap.IsListIter.at st q
theorem IsB.keep {k : Bool} {h h' : Heap} {a : Addr} {its : Array Value} (st : IsB k h a its) (q : ∀ o, h.get? a = some o → h'.get? a = some o) : IsB k h' a its := by
  cases k
  · exact Heap.IsTuple.at st q
  · exact Heap.IsList.at st q
theorem IsB.lt {k : Bool} {h : Heap} {a : Addr} {its : Array Value} (st : IsB k h a its) : a < h.objs.size := by
  cases k <;> exact Exists.elim st fun o q => Heap.lt_size q.1
/-- what it draws while items are left -/
theorem draws_b {prog : Program} {w : World} {A : Around} (hh : A.handled = none) (k : Bool) (it a : Addr) (ne : a ≠ it) (its : Array Value) : Draws prog w A it [it, a] its.size (fun i v => its[i]? = some v) (fun i h => IterB k h it a i ∧ IsB k h a its) := by
  cases k
  · exact Draws.tuple hh it a ne its
  · exact Draws.list hh it a ne its
/-- at a place i where none is left it draws nothing -/
theorem draws_end {prog : Program} {w : World} {A : Around} (hh : A.handled = none) (k : Bool) (it a : Addr) (its : Array Value) (i : Nat) (hi : its[i]? = none) : Draws prog w A it [it, a] i (fun _ _ => False) (fun j h => j = i ∧ IterB k h it a i ∧ IsB k h a its) where
  live := fun j h st => st.2.1.live.elim fun o q => ⟨o, q.1⟩
  frame := fun j h h' st kp => ⟨st.1, st.2.1.keep fun o e => kp it (by simp) o e, st.2.2.keep fun o e => kp a (by simp) o e⟩
  item := fun j s Q E hj st _ => absurd st.1 (Nat.ne_of_lt hj)
  done := fun s Q E st hE => by
    cases k
    · exact wpAny_nextOf_tuple_end hh st.2.1 st.2.2 hi hE
    · exact wpAny_nextOf_list_end hh st.2.1 st.2.2 hi hE
theorem begins_b (k : Bool) (a : Addr) (its : Array Value) : Begins (.ref a) (iterO k a) fun h => IsB k h a its := by
  cases k
  · exact begins_tuple a its
  · exact begins_list a its
theorem iterO_at {k : Bool} {h : Heap} {it a : Addr} (e : h.get? it = some (iterO k a)) : IterB k h it a 0 := by
  cases k <;> exact ⟨_, e, rfl, rfl⟩
section
variable {X : Cx} {pins : List (Addr × Obj)} {σ : L2.St} {H : Hp} {s : Shared}
theorem sq_b (I : Inv X pins σ H s) {k : Bool} {a : Addr} {xs : List V} (h : SqB X.K k H a xs) : ∃ its : List Value, Vals xs its ∧ IsB k s.heap a its.toArray := by
  cases k
  · exact (I.tuple h).elim fun its q => ⟨its, q.1, q.2.1⟩
  · exact (I.list h).elim fun its q => ⟨its, q.1, q.2.1.isList⟩
theorem sq_inj (I : Inv X pins σ H s) {k : Bool} {a : Addr} {xs ys : List V} (h : SqB X.K k H a xs) (h' : SqB X.K k H a ys) : xs = ys := by
  cases k
  · exact I.tuple_inj h h'
  · exact I.list_inj h h'
end
/-- both as they stand at each turn, the items in new pairs -/
def ItzB (K : PySem.W.Frag) (k l : Bool) (a b : Addr) : It where
  go := fun i H => ∃ (xs ys : List V) (x y : V), SqB K k H a xs ∧ SqB K l H b ys ∧ xs[i]? = some x ∧ ys[i]? = some y
  yld := fun i H v H' => ∃ (T : Addr) (x y : V), v = .ref T ∧ H T = none ∧ H' = upd H T (.tup [x, y]) ∧ (∀ xs, SqB K k H a xs → xs[i]? = some x) ∧ ∀ ys, SqB K l H b ys → ys[i]? = some y
  stop := fun i H => ∃ xs ys : List V, SqB K k H a xs ∧ SqB K l H b ys ∧ (xs.length ≤ i ∨ ys.length ≤ i)
/-- the five cells of a zip -/
structure ZCells (k l : Bool) (z TI TO i1 i2 a b : Addr) (i : Nat) (h : Heap) : Prop where
  z : IsZip h z TI TO .none
  ti : IsTupOf2 h TI (.ref i1) (.ref i2)
  to : ∃ x y, IsTupOf2 h TO x y
  l1 : IterB k h i1 a i
  l2 : IterB l h i2 b i
theorem in5 {z TI TO i1 i2 c : Addr} (h : c ∈ [z, TI, TO, i1, i2]) : c = z ∨ c = TI ∨ c = TO ∨ c = i1 ∨ c = i2 := by simpa using h
theorem turn_zipB {P : Program} {w : World} {K : PySem.W.Frag} {elts : List Expr} {kk : Nat} {tpos : Pos} {k l : Bool} {a b z TI TO i1 i2 : Addr} (S : ZipSep2 z TI TO i1 i2 [i1, a] [i2, b]) (n1 : a ≠ i1) (n2 : b ≠ i2) :
    Turn P w K (.Tuple elts kk tpos) (ItzB K k l a b) [z, TI, TO, i1, i2] z (ZCells k l z TI TO i1 i2 a b) where
  mem := List.mem_cons_self
  obj := fun i h st c hc => by
    obtain ⟨x, y, ho⟩ := st.to
    rcases in5 hc with e | e | e | e | e <;> subst e
    · exact ⟨_, st.z, fun v q => by cases q⟩
    · exact ⟨_, st.ti, fun v q => by cases q⟩
    · exact ⟨_, ho, fun v q => by cases q⟩
    · exact st.l1.live
    · exact st.l2.live
  keep := fun i h h' st kp => ⟨kp z (by simp) _ st.z, kp TI (by simp) _ st.ti, st.to.elim fun x q => q.elim fun y q => ⟨x, y, kp TO (by simp) _ q⟩, st.l1.keep (kp i1 (by simp)), st.l2.keep (kp i2 (by simp))⟩
  item := fun X hP hw hK hc i pins s σ H E I hf st hg => by
    subst hP hw hK
    obtain ⟨xs, ys, x, y, sx, sy, ex, ey⟩ := hg
    obtain ⟨x0, y0, ho⟩ := st.to
    obtain ⟨ps, vp, pa⟩ := sq_b I sx
    obtain ⟨qs, vq, pb⟩ := sq_b I sy
    obtain ⟨u, eu, ru⟩ := vp.get ex
    obtain ⟨v, ev, rv⟩ := vq.get ey
    have lu : i < ps.toArray.size := by simpa using (List.getElem?_eq_some_iff.mp eu).1
    have lv : i < qs.toArray.size := by simpa using (List.getElem?_eq_some_iff.mp ev).1
    have hh : X.A.in1.handled = none := I.ok.hd hc
    refine wpAny_pyNext_zipD2_item S (draws_b hh k i1 a n1 ps.toArray) (draws_b hh l i2 b n2 qs.toArray) st.z st.ti ho ⟨st.l1, pa⟩ ⟨st.l2, pb⟩ lu lv fun x1 x2 h1 tk e1 e2 z1 o1 s1 s2 t1 sz kp => ?_
    have q1 : x1 = u := Option.some.inj (e1.symm.trans (by simpa using eu))
    have q2 : x2 = v := Option.some.inj (e2.symm.trans (by simpa using ev))
    subst q1 q2
    refine ⟨_, rfl, wpAny_letOwnedTupleGo_zip (s := { s with heap := h1, toks := tk }) z1 fun h2 z2 sb => ?_⟩
    have new : ∀ c, c ∈ [z, TI, TO, i1, i2] → c < s.heap.objs.size := fun c hcm => by
      rcases in5 hcm with e | e | e | e | e <;> subst e
      · exact Heap.lt_size st.z
      · exact Heap.lt_size st.ti
      · exact Heap.lt_size ho
      · exact st.l1.live.elim fun o q => Heap.lt_size q.1
      · exact st.l2.live.elim fun o q => Heap.lt_size q.1
    have t2 : IsTupOf2 h2 s.heap.objs.size x1 x2 := (sb.2 _ (Nat.ne_of_gt (new z (by simp)))).trans t1
    have J : Inv X pins σ (upd H s.heap.objs.size (.tup [x, y])) { s with heap := h2, toks := tk } := I.turnedNew (ch := [z, TI, TO, i1, i2]) (fun c o nc e => by
      have ne : ∀ d, d ∈ [z, TI, TO, i1, i2] → c ≠ d := fun d hd q => nc (q ▸ hd)
      exact (sb.2 c (ne z (by simp))).trans (kp c o (ne z (by simp)) (ne TO (by simp)) (ne i1 (by simp)) (ne i2 (by simp)) e)) hf (Nat.le_refl _) ⟨(by decide : 2 ≤ sizeLine), [x1, x2], .cons ru (.cons rv .nil), _, t2, rfl, _, rfl⟩
    refine ⟨.ref s.heap.objs.size, _, J, rfl, ⟨_, x, y, rfl, I.hok.fresh (Nat.le_refl _), rfl, fun zs hz => sq_inj I hz sx ▸ ex, fun zs hz => sq_inj I hz sy ▸ ey⟩, ⟨z2, ?_, ⟨x1, x2, ?_⟩, ?_, ?_⟩, fun c hcm => ?_⟩
    · exact (sb.2 _ S.TIz).trans (kp _ _ S.TIz S.TITO S.TIi1 S.TIi2 st.ti)
    · exact (sb.2 _ S.TOz).trans o1
    · exact s1.1.keep fun o e => (sb.2 _ S.zi1.symm).trans e
    · exact s2.1.keep fun o e => (sb.2 _ S.zi2.symm).trans e
    · rw [upd_ne (Nat.ne_of_lt (new c hcm))]
      exact (hf c hcm).1
  done := fun X hP hw hK hc i pins s σ H E I hf st hg => by
    subst hP hw hK
    obtain ⟨xs, ys, sx, sy, he⟩ := hg
    obtain ⟨x0, y0, ho⟩ := st.to
    obtain ⟨ps, vp, pa⟩ := sq_b I sx
    obtain ⟨qs, vq, pb⟩ := sq_b I sy
    have l1 := vp.length
    have l2 := vq.length
    have hh : X.A.in1.handled = none := I.ok.hd hc
    have fin : ∀ h' tk, (∀ c o, c ≠ z → c ≠ TO → c ≠ i1 → c ≠ i2 → s.heap.get? c = some o → h'.get? c = some o) → (none : Option Value) = none ∧ Inv X pins σ H { s with heap := h', toks := tk } := fun h' tk kp => ⟨rfl, I.turnedL (ch := [z, TI, TO, i1, i2]) (fun c o nc e => by
      have ne : ∀ d, d ∈ [z, TI, TO, i1, i2] → c ≠ d := fun d hd q => nc (q ▸ hd)
      exact kp c o (ne z (by simp)) (ne TO (by simp)) (ne i1 (by simp)) (ne i2 (by simp)) e) hf⟩
    by_cases g1 : xs.length ≤ i
    · have d1 := draws_end (prog := X.prog) (w := X.w) hh k i1 a ps.toArray i (by simp; omega)
      by_cases g2 : ys.length ≤ i
      · exact wpAny_pyNext_zipD2_end S d1 (draws_end (prog := X.prog) (w := X.w) hh l i2 b qs.toArray i (by simp; omega)) st.z st.ti ho ⟨rfl, st.l1, pa⟩ ⟨rfl, st.l2, pb⟩ (Nat.le_refl _) (Nat.le_refl _) (.inl rfl) fin
      · exact wpAny_pyNext_zipD2_end S d1 (draws_b hh l i2 b n2 qs.toArray) st.z st.ti ho ⟨rfl, st.l1, pa⟩ ⟨st.l2, pb⟩ (Nat.le_refl _) (by simp; omega) (.inl rfl) fin
    · exact wpAny_pyNext_zipD2_end S (draws_b hh k i1 a n1 ps.toArray) (draws_end (prog := X.prog) (w := X.w) hh l i2 b qs.toArray i (by simp; omega)) st.z st.ti ho ⟨st.l1, pa⟩ ⟨rfl, st.l2, pb⟩ (by simp; omega) (Nat.le_refl _) (.inr rfl) fin
  self := fun A i s Q E st h => wpAny_pyIter_zip st.z h
/-- five cells beyond all that is there lie apart -/
theorem sep5 {n a b : Nat} (ha : a < n) (hb : b < n) : ZipSep2 (n + 4) (n + 2) (n + 3) n (n + 1) [n, a] [n + 1, b] := by
  have nin : ∀ {x y z : Nat}, x ≠ y → x ≠ z → ¬ x ∈ [y, z] := fun h1 h2 h => by
    rcases List.mem_cons.mp h with e | e
    · exact h1 e
    · exact h2 (List.mem_singleton.mp e)
  exact {
    TIz := show (n + 2 : Nat) ≠ n + 4 by omega
    TOz := show (n + 3 : Nat) ≠ n + 4 by omega
    TITO := show (n + 2 : Nat) ≠ n + 3 by omega
    TIi1 := show (n + 2 : Nat) ≠ n by omega
    mem1 := List.mem_cons_self
    zf1 := nin (by omega) (by omega)
    Tf1 := nin (by omega) (by omega)
    TIi2 := show (n + 2 : Nat) ≠ n + 1 by omega
    mem2 := List.mem_cons_self
    zf2 := nin (by omega) (by omega)
    Tf2 := nin (by omega) (by omega)
    sep1_2 := nin (by omega) (by omega)
    sep2_1 := nin (by omega) (by omega) }
def iZipB (K : PySem.W.Frag) (ta : TA) : TI := fun σ H R => ta σ H fun vs H1 => ∃ (k l : Bool) (a b : Addr) (xs ys : List V), vs = [.ref a, .ref b] ∧ SqB K k H1 a xs ∧ SqB K l H1 b ys ∧ R (ItzB K k l a b) H1
theorem pi_zipB {X : Cx} {e e2 : Expr} {ta : TA} {p pos tpos : Pos} {elts : List Expr} {kk : Nat} (hg : Gl X "zip") (hm : X.mg "zip" = none) (ha : PA X [e, e2] ta)
    (hs : starEach [e, e2] X.env = (false, eval e X.env) :: starEach [e2] X.env := by rfl) (hpl : (backTo pos (starEach [e2] X.env)).any (·.1) = false := by rfl) :
    PI X (.Tuple elts kk tpos) (.Call (.Name "zip" p) [e, e2] [] pos) (iZipB X.K ta) where
  run := fun pins s σ H R I h => Call_ <| ld_blt I hg hm PyProof.Rows.boot_zip <| PyProof.Rows.callWith_type1 (he := hs) (hplain := hpl) <| thn (ha.run pos pins s σ H _ I h) fun us s1 ⟨vs, H1, J, r, k, l, a, b, xs, ys, ev, sa, sb, q⟩ => by
    subst ev
    obtain ⟨ps, _, pa⟩ := sq_b J sa
    obtain ⟨qs, _, pb⟩ := sq_b J sb
    cases r with
    | cons ra r =>
      cases r with
      | cons rb r =>
        cases r
        cases ra
        cases rb
        refine zip_begins2 (begins_b k a ps.toArray) (begins_b l b qs.toArray) pa pb fun h' hz hTI hTO g1 g2 sz kp => wpAny_pyIter_zip hz ?_
        refine ⟨_, _, _, _, H1, rfl, J.kept kp, turn_zipB (sep5 pa.lt pb.lt) (Nat.ne_of_lt pa.lt) (Nat.ne_of_lt (Nat.lt_succ_of_lt pb.lt)), ⟨hz, hTI, ⟨_, _, hTO⟩, iterO_at g1, iterO_at g2⟩, fun c hc => ?_, q⟩
        have le : s1.heap.objs.size ≤ c := by
          rcases in5 hc with e | e | e | e | e <;> rw [e] <;> first | exact Nat.le_refl _ | exact Nat.le_add_right _ _
        exact J.fpOk le (J.hok.fresh le)
section
variable {K : PySem.W.Frag}
/-- the pairs of two sequences -/
def zipAny (a b : PyData) : Option (List PyData) := match seqOf a, seqOf b with
  | some xs, some ys => some (List.zipWith (fun x y => .tuple [x, y]) xs ys)
  | _, _ => none
def fZipB (φ ψ : FE) : FL := fun δ => match φ δ with
  | some (x, δ1) => match ψ δ1 with
    | some (y, δ2) => match zipAny x y with
      | some z => some (z, δ2)
      | none => none
    | none => none
  | none => none
theorem fZipB_some {φ ψ : FE} {δ δ' : En} {ds : List PyData} (e : fZipB φ ψ δ = some (ds, δ')) : ∃ x δ1 y xs ys, φ δ = some (x, δ1) ∧ ψ δ1 = some (y, δ') ∧ seqOf x = some xs ∧ seqOf y = some ys ∧ ds = List.zipWith (fun x y => .tuple [x, y]) xs ys := by
  unfold fZipB at e
  split at e
  · next x δ1 h1 =>
    split at e
    · next y δ2 h2 =>
      unfold zipAny at e
      split at e
      · next z hz =>
        cases e
        split at hz
        · next xs ys h3 h4 =>
          cases hz
          exact ⟨x, δ1, y, xs, ys, h1, h2, h3, h4, rfl⟩
        · cases hz
      · cases e
    · cases e
  · cases e
/-- a sequence among data is one of the two kinds, and stays so while the heap grows -/
theorem seq_b {S : List Addr} {H : Hp} {v : V} {d : PyData} {ds : List PyData} (h : Rp K (Msk S H) v d) (e : seqOf d = some ds) : ∃ (k : Bool) (a : Addr) (vs : List V), v = .ref a ∧ SqB K k (Msk S H) a vs ∧ RpAll K (Msk S H) vs ds := by
  cases h with
  | lst h1 h2 =>
    cases e
    exact ⟨true, _, _, rfl, sq_of h1, h2⟩
  | tup h1 h2 =>
    cases e
    exact ⟨false, _, _, rfl, h1, h2⟩
  | scr h1 => cases e
  | dic h1 h2 => cases e
  | _ => cases e
theorem SqB.ex {k : Bool} {H H' : Hp} {a : Addr} {vs : List V} (x : Ex H H') (h : SqB K k H a vs) : SqB K k H' a vs := by
  cases k
  · exact ex_t x h
  · exact ex_l x h
theorem iter_zipB {F : Fm} {L : List Addr} {H0 : Hp} {k l : Bool} {a b : Addr} {vs ws : List V} {xs ys : List PyData} (h1 : SqB K k (Msk (F.B ++ L) H0) a vs) (h2 : RpAll K (Msk (F.B ++ L) H0) vs xs) (k1 : SqB K l (Msk (F.B ++ L) H0) b ws) (k2 : RpAll K (Msk (F.B ++ L) H0) ws ys) :
    Iter K F L H0 (ItzB K k l a b) (List.zipWith (fun x y => PyData.tuple [x, y]) xs ys) where
  go := fun L' H e fr i d hd => by
    obtain ⟨x, y, hx, hy, rfl⟩ := zw_get hd
    obtain ⟨v, hv, rv⟩ := h2.get i x hx
    obtain ⟨u, hu, ru⟩ := k2.get i y hy
    have sa : SqB K k H a vs := (h1.ex e).ex msk_le
    have sb : SqB K l H b ws := (k1.ex e).ex msk_le
    refine ⟨⟨vs, ws, v, u, sa, sb, hv, hu⟩, fun z H' hz => ?_⟩
    obtain ⟨T, p, q, rfl, hT, rfl, f1, f2⟩ := hz
    have e1 := (f1 vs sa).symm.trans hv
    have e2 := (f2 ws sb).symm.trans hu
    cases e1
    cases e2
    exact ⟨Ex.new hT, new_tup (fr T hT) (.cons (Rp.mono e _ _ rv) (.cons (Rp.mono e _ _ ru) .nil)) hT⟩
  stop := fun L' H e i hi => by
    refine ⟨vs, ws, (h1.ex e).ex msk_le, (k1.ex e).ex msk_le, ?_⟩
    rw [List.length_zipWith, ← h2.len, ← k2.len] at hi
    omega
theorem wi_zipB {ta tb : TE} {φ ψ : FE} (ha : WE K ta φ) (hb : WE K tb ψ) : WI K (iZipB K (tCons ta (tCons tb tNil))) (fZipB φ ψ) := fun F L σ H δ ds δ' e R Q q => by
  obtain ⟨x, δ1, y, xs, ys, e1, e2, e3, e4, rfl⟩ := fZipB_some e
  refine ha F L σ H δ x δ1 e1 R _ fun v H1 s1 R1 d1 => hb F L σ H1 δ1 y δ' e2 R1 _ fun w H2 s2 R2 d2 => ?_
  obtain ⟨k, a, vs, rfl, h1, h2⟩ := seq_b (s2.dat R1.sub d1) e3
  obtain ⟨l, b, ws, rfl, k1, k2⟩ := seq_b d2 e4
  exact ⟨k, l, a, b, vs, ws, rfl, h1.ex msk_le, k1.ex msk_le, q _ H2 (s1.trans s2) R2 (iter_zipB h1 h2 k1 k2)⟩
end
end Sm
/-! list(zip(xs, ys)) of two lists -/
namespace Sm
open PySem PySem.Spec PyProof.Rows L2 Evl RZ
abbrev lstO (acc : Array Value) (c : Nat) : Obj := { cls := .type "list", dict := none, data := .seq acc c, slots := #[] }
section
variable {prog : Program} {w : World} {A : Around} {E : Value → Shared → Prop} {s : Shared}
/-- list(i), i an iterator with no length and no hint of one: the loop that draws it is left -/
theorem list_iter {z : Addr} {o : Obj} {T : String} {Q : Value → Shared → Prop} (hz : s.heap.get? z = some o) (hc : o.cls = .type T) (nl : (Value.type T == Value.type "list") = false) (nt : (Value.type T == Value.type "tuple") = false)
    (len : typeLookup (.type T) "__len__" = pure none) (hint : typeLookup (.type T) "__length_hint__" = pure none)
    (self : ∀ (B : Around) (s' : Shared) (Q' : Value → Shared → Prop) (E' : Value → Shared → Prop), s'.heap.get? z = some o → Q' (.ref z) s' → wpAny (model prog w) B (pyIter (.ref z)) Q' E' s')
    (loop : ∀ (h : Heap) (c : Nat), h.get? s.heap.objs.size = some (lstO #[] c) → (∀ b u, s.heap.get? b = some u → h.get? b = some u) →
      codeAny (model prog w) A.in1 (.builtin "list.extend.loop" ⟨[.ref s.heap.objs.size, .ref z, .none], []⟩) (wants (fun r s₂ => r = .none ∧ Q (.ref s.heap.objs.size) s₂) E) { s with heap := h }) :
    wpAny (model prog w) A (call (.type "list") [.ref z]) Q E s := by
  have ne : s.heap.objs.size ≠ z := Nat.ne_of_gt (Heap.lt_size hz)
  refine callType_codes (Q₁ := fun v s1 => v = .ref s.heap.objs.size ∧ s1 = { s with heap := s.heap.push (lstO #[] 0) }) F.called_list (F.typeCall_list_1 _) F.entry_list_init (code_list_new _ ⟨rfl, rfl⟩) ?_
  intro v s1 ⟨e1, e2⟩
  subst e1 e2
  have g0 : (s.heap.push (lstO #[] 0)).get? s.heap.objs.size = some (lstO #[] 0) := Heap.get?_push_size _ rfl
  have k0 : ∀ b u, s.heap.get? b = some u → (s.heap.push (lstO #[] 0)).get? b = some u := fun b u e => Heap.get?_push_of_some _ e
  refine ⟨⟨_, g0, rfl⟩, F.args_list_init_2 _ _, ?_⟩
  unfold Builtin.«list.__init__»
  wp_walk
  have same : Builtin.List.listSameRef (.ref s.heap.objs.size) (.ref z) = false := beq_eq_false_iff_ne.mpr ne
  rw [same, hc, nl, nt, if_neg (fun x => nomatch x)]
  have g1 := Heap.get?_update_self (Obj.mapSeq fun _ => (#[] : Array Value)) g0 rfl
  have k1 : ∀ b u, s.heap.get? b = some u → ((s.heap.push (lstO #[] 0)).update s.heap.objs.size (Obj.mapSeq fun _ => (#[] : Array Value))).get? b = some u := fun b u e => (Heap.get?_update_other _ _ (Nat.ne_of_gt (Heap.lt_size e))).trans (k0 b u e)
  generalize (s.heap.push (lstO #[] 0)).update s.heap.objs.size (Obj.mapSeq fun _ => (#[] : Array Value)) = h1 at g1 k1
  have ty : Shared.TypeIs { s with heap := h1 } (.ref z) T := ⟨o, k1 z o hz, hc⟩
  refine wpAny_bind (self _ _ _ _ (k1 z o hz) (wpAny_bind (wpAny_holding ?_)))
  unfold Builtin.List.listLengthHint
  refine wpAny_bind (wpAny_specialOf ty len ?_)
  dsimp only
  refine wpAny_bind (wpAny_specialOf ty hint ?_)
  dsimp only
  refine wpAny_pure ?_
  rw [Bool.true_or, if_pos rfl]
  refine wpAny_bind (wpAny_rule ?_)
  unfold Builtin.List.listTouch
  refine wpAny_bind (wpAny_bind ?_)
  refine wpAny_updateSeq g1 rfl ?_
  have g2 := Heap.get?_update_self (Obj.mapSeq (·.push Value.none)) g1 rfl
  refine wpAny_updateSeq (hz := by seq_fits) g2 rfl ?_
  have g3 := Heap.get?_update_self (Obj.mapSeq (·.pop)) g2 rfl
  refine wpAny_pure ⟨plainId_quiet F.plain_extend_loop _, loop _ _ g3 fun b u e => ?_⟩
  have nb : s.heap.objs.size ≠ b := Nat.ne_of_gt (Heap.lt_size e)
  exact (Heap.get?_update_other _ _ nb).trans ((Heap.get?_update_other _ _ nb).trans (k1 b u e))
/-- the state when i pairs are drawn into the list at S; z, TI, TO, i1, i2: the zip's cells -/
structure Drawn (z TI TO i1 i2 l1 l2 S : Addr) (xs ys : Array Value) (h0 : Heap) (i : Nat) (acc : Array Value) (h : Heap) : Prop where
  lst : ∃ c, h.get? S = some (lstO acc c)
  sz : acc.size = i
  zip : IsZip h z TI TO .none ∨ ∃ T f o, IsZipHeld h z TI TO T f ∧ h.get? T = some o ∧ S < T
  ti : IsPair h TI (.ref i1) (.ref i2)
  to : ∃ x y, IsPair h TO x y
  a1 : h.IsListIter i1 l1 i
  a2 : h.IsListIter i2 l2 i
  b1 : h.IsList l1 xs
  b2 : h.IsList l2 ys
  its : ∀ j x y, j < i → xs[j]? = some x → ys[j]? = some y → ∃ T, acc[j]? = some (Value.ref T) ∧ IsPair h T x y ∧ S < T
  bnd : ∀ (j : Nat) (T : Addr), acc[j]? = some (Value.ref T) → T < h.objs.size
  ord : ∀ (j k : Nat) (T U : Addr), j < k → acc[j]? = some (Value.ref T) → acc[k]? = some (Value.ref U) → T < U
  old : ∀ c o, c ≠ z → c ≠ TO → c ≠ i1 → c ≠ i2 → c ≠ S → h0.get? c = some o → h.get? c = some o
/-- what is left of it when all are drawn -/
structure DrawnAll (z TO i1 i2 S : Addr) (xs ys : Array Value) (h0 : Heap) (n : Nat) (acc : Array Value) (h : Heap) : Prop where
  lst : ∃ c, h.get? S = some (lstO acc c)
  sz : acc.size = n
  its : ∀ (j : Nat) (x y : Value), xs[j]? = some x → ys[j]? = some y → ∃ T, acc[j]? = some (Value.ref T) ∧ IsPair h T x y ∧ S < T
  ord : ∀ (j k : Nat) (T U : Addr), j < k → acc[j]? = some (Value.ref T) → acc[k]? = some (Value.ref U) → T < U
  old : ∀ c o, c ≠ z → c ≠ TO → c ≠ i1 → c ≠ i2 → c ≠ S → h0.get? c = some o → h.get? c = some o
variable {z TI TO i1 i2 l1 l2 S : Addr} {xs ys : Array Value} {h0 : Heap} {res : Value} {R : Result → Shared → Prop}
theorem ne_up {a b : Addr} (h : a < b) : b ≠ a := Nat.ne_of_gt h
/-- one pair more: T is the new one -/
theorem Drawn.next {i : Nat} {acc : Array Value} {h h1 : Heap} {x y : Value} {T : Addr} (D : Drawn z TI TO i1 i2 l1 l2 S xs ys h0 i acc h) (P : ZipApart z TI TO i1 i2 l1 l2) (lo : ∀ c, c = z ∨ c = TI ∨ c = TO ∨ c = i1 ∨ c = i2 ∨ c = l1 ∨ c = l2 → c < S)
    (hT : S < T) (eT : T = h.objs.size) (sz1 : h1.objs.size = h.objs.size + 1) (ex : xs[i]? = some x) (ey : ys[i]? = some y) (zp : ∃ T f o, IsZipHeld h1 z TI TO T f ∧ h1.get? T = some o ∧ S < T) (to : ∃ x y, IsPair h1 TO x y) (a1 : h1.IsListIter i1 l1 (i + 1)) (a2 : h1.IsListIter i2 l2 (i + 1)) (nw : IsPair h1 T x y)
    (kp : ∀ c o, c ≠ z → c ≠ TO → c ≠ i1 → c ≠ i2 → h.get? c = some o → h1.get? c = some o) : Drawn z TI TO i1 i2 l1 l2 S xs ys h0 (i + 1) (acc.push (.ref T)) (h1.update S (Obj.mapSeq (·.push (.ref T)))) := by
  have low : ∀ {c : Addr}, c < S → (h1.update S (Obj.mapSeq (·.push (.ref T)))).get? c = h1.get? c := fun hc => Heap.get?_update_other _ _ (ne_up hc)
  have up : ∀ {c : Addr}, S < c → (h1.update S (Obj.mapSeq (·.push (.ref T)))).get? c = h1.get? c := fun hc => Heap.get?_update_other _ _ (Nat.ne_of_lt hc)
  have far : ∀ {c : Addr}, S ≤ c → c ≠ z ∧ c ≠ TO ∧ c ≠ i1 ∧ c ≠ i2 := fun hc => ⟨ne_up (Nat.lt_of_lt_of_le (lo z (by simp)) hc), ne_up (Nat.lt_of_lt_of_le (lo TO (by simp)) hc), ne_up (Nat.lt_of_lt_of_le (lo i1 (by simp)) hc), ne_up (Nat.lt_of_lt_of_le (lo i2 (by simp)) hc)⟩
  have kf : ∀ {c : Addr} {o : Obj}, S ≤ c → h.get? c = some o → h1.get? c = some o := fun hc e => kp _ _ (far hc).1 (far hc).2.1 (far hc).2.2.1 (far hc).2.2.2 e
  obtain ⟨c, hS⟩ := D.lst
  refine ⟨⟨_, Heap.get?_update_self _ (kf (Nat.le_refl _) hS) rfl⟩, by rw [Array.size_push, D.sz], .inr ?_, ?_, ?_, ?_, ?_, ?_, ?_, fun j x' y' hj hx hy => ?_, fun j U e => ?_, fun j k U W hjk e1 e2 => ?_, fun c o n1 n2 n3 n4 n5 e => ?_⟩
  · obtain ⟨T', f, o, q1, q2, q3⟩ := zp
    exact ⟨T', f, o, (low (lo z (by simp))).trans q1, (up q3).trans q2, q3⟩
  · exact (low (lo TI (by simp))).trans (kp _ _ P.TIz P.TITO P.TIi1 P.TIi2 D.ti)
  · obtain ⟨p, q, e⟩ := to
    exact ⟨p, q, (low (lo TO (by simp))).trans e⟩
  · exact a1.at fun o e => (low (lo i1 (by simp))).trans e
  · exact a2.at fun o e => (low (lo i2 (by simp))).trans e
  · exact D.b1.at fun o e => (low (lo l1 (by simp))).trans (kp _ _ P.l1z P.l1TO P.l1i1 P.l1i2 e)
  · exact D.b2.at fun o e => (low (lo l2 (by simp))).trans (kp _ _ P.l2z P.l2TO P.l2i1 P.l2i2 e)
  · by_cases hji : j < i
    · obtain ⟨T', e1, e2, e3⟩ := D.its j x' y' hji hx hy
      refine ⟨T', ?_, (up e3).trans (kf (Nat.le_of_lt e3) e2), e3⟩
      rw [Array.getElem?_push, if_neg (by rw [D.sz]; omega)]
      exact e1
    · have hj2 : j = i := by omega
      subst hj2
      rw [ex] at hx
      rw [ey] at hy
      cases hx
      cases hy
      refine ⟨T, ?_, (up hT).trans nw, hT⟩
      rw [Array.getElem?_push, if_pos D.sz.symm]
  · rw [Heap.size_update, sz1]
    rw [Array.getElem?_push] at e
    split at e
    · cases e
      rw [eT]
      exact Nat.lt_succ_self _
    · exact Nat.lt_succ_of_lt (D.bnd j U e)
  · rw [Array.getElem?_push] at e1 e2
    have hk2 := D.sz
    split at e2
    · next hk =>
      rw [if_neg (by omega)] at e1
      cases e2
      rw [eT]
      exact D.bnd j U e1
    · next hk =>
      have hkl := (Array.getElem?_eq_some_iff.mp e2).1
      rw [if_neg (by omega)] at e1
      exact D.ord j k U W hjk e1 e2
  · exact (Heap.get?_update_other _ _ (Ne.symm n5)).trans (kp c o n1 n2 n3 n4 (D.old c o n1 n2 n3 n4 n5 e))
theorem draw_zip (P : ZipApart z TI TO i1 i2 l1 l2) (lo : ∀ c, c = z ∨ c = TI ∨ c = TO ∨ c = i1 ∨ c = i2 ∨ c = l1 ∨ c = l2 → c < S) (hh : A.handled = none) (hn : min xs.size ys.size ≤ sizeLine)
    (hR : ∀ acc h, DrawnAll z TO i1 i2 S xs ys h0 (min xs.size ys.size) acc h → R (.ok (.ret res)) { s with heap := h }) :
    ∀ (k i : Nat) (acc : Array Value) (h : Heap), min xs.size ys.size - i = k → i ≤ min xs.size ys.size → Drawn z TI TO i1 i2 l1 l2 S xs ys h0 i acc h →
      codeAny (model prog w) A (.builtin "list.extend.loop" ⟨[.ref S, .ref z, res], []⟩) R { s with heap := h } := by
  intro k
  induction k with
  | zero =>
    intro i acc h hk hi D
    refine codeAny_builtin F.entry_extend_loop ?_
    rw [Around.under_plainId F.plain_extend_loop]
    have he : xs[i]? = none ∨ ys[i]? = none := by
      by_cases hx : xs.size ≤ i
      · exact .inl (Array.getElem?_eq_none hx)
      · exact .inr (Array.getElem?_eq_none (by omega))
    have fin : ∀ h', (∀ c o, c ≠ z → c ≠ TO → c ≠ i1 → c ≠ i2 → h.get? c = some o → h'.get? c = some o) → R (.ok (.ret res)) { s with heap := h' } := fun h' kp => by
      have kf : ∀ {c : Addr} {o : Obj}, S ≤ c → h.get? c = some o → h'.get? c = some o := fun hc e => kp _ _ (ne_up (Nat.lt_of_lt_of_le (lo z (by simp)) hc)) (ne_up (Nat.lt_of_lt_of_le (lo TO (by simp)) hc)) (ne_up (Nat.lt_of_lt_of_le (lo i1 (by simp)) hc)) (ne_up (Nat.lt_of_lt_of_le (lo i2 (by simp)) hc)) e
      refine hR acc h' ⟨D.lst.elim fun c e => ⟨c, kf (Nat.le_refl _) e⟩, by have := D.sz; omega, fun j x y hx hy => ?_, D.ord, fun c o n1 n2 n3 n4 n5 e => kp c o n1 n2 n3 n4 (D.old c o n1 n2 n3 n4 n5 e)⟩
      have l1' := (Array.getElem?_eq_some_iff.mp hx).1
      have l2' := (Array.getElem?_eq_some_iff.mp hy).1
      obtain ⟨T, e1, e2, e3⟩ := D.its j x y (by omega) hx hy
      exact ⟨T, e1, kf (Nat.le_of_lt e3) e2, e3⟩
    obtain ⟨x0, y0, ho⟩ := D.to
    refine wpAny_bind ?_
    rcases D.zip with q | ⟨T, f, o, q1, q2, q3⟩
    · exact wpAny_pyNext_zip_end (s := { s with heap := h }) hh P q D.ti ho D.a1 D.a2 D.b1 D.b2 he fun h' kp => wpAny_pure (fin h' kp)
    · exact wpAny_pyNext_zip_end_held (s := { s with heap := h }) hh P q1 q2 D.ti D.a1 D.a2 D.b1 D.b2 he fun h' kp => wpAny_pure (fin h' fun c o n1 _ n3 n4 e => kp c o n1 n3 n4 e)
  | succ k ih =>
    intro i acc h hk hi D
    refine codeAny_builtin F.entry_extend_loop ?_
    rw [Around.under_plainId F.plain_extend_loop]
    have hx : i < xs.size := by omega
    have hy : i < ys.size := by omega
    have ex : xs[i]? = some xs[i] := Array.getElem?_eq_getElem hx
    have ey : ys[i]? = some ys[i] := Array.getElem?_eq_getElem hy
    obtain ⟨x0, y0, ho⟩ := D.to
    obtain ⟨c, hS⟩ := D.lst
    have hST : S < h.objs.size := Heap.lt_size hS
    have go : ∀ h1, (∃ T f o, IsZipHeld h1 z TI TO T f ∧ h1.get? T = some o ∧ S < T) → (∃ x y, IsPair h1 TO x y) → h1.IsListIter i1 l1 (i + 1) → h1.IsListIter i2 l2 (i + 1) → IsPair h1 h.objs.size xs[i] ys[i] → h1.objs.size = h.objs.size + 1 →
        (∀ c o, c ≠ z → c ≠ TO → c ≠ i1 → c ≠ i2 → h.get? c = some o → h1.get? c = some o) → wpAny (model prog w) A.in1 (updateSeq S (·.push (.ref h.objs.size)) >>= fun _ => again (.builtin "list.extend.loop" ⟨[.ref S, .ref z, res], []⟩))
          (fun fin s' => match fin with
            | .done f => R (.ok f) s'
            | .again c' => c'.quiet = true ∧ codeAny (model prog w) A c' R s') (fun e s' => R (.error e) s') { s with heap := h1 } := fun h1 zp to a1 a2 nw sz kp => by
      have hS1 : h1.get? S = some (lstO acc c) := kp S _ (ne_up (lo z (by simp))) (ne_up (lo TO (by simp))) (ne_up (lo i1 (by simp))) (ne_up (lo i2 (by simp))) hS
      have as := D.sz
      refine wpAny_bind (wpAny_updateSeq hS1 rfl (wpAny_pure ⟨plainId_quiet F.plain_extend_loop _, ih (i + 1) _ _ (by omega) (by omega) (D.next P lo hST rfl sz ex ey zp to a1 a2 nw kp)⟩) (by omega) (by rw [Array.size_push]; omega))
    refine wpAny_bind ?_
    rcases D.zip with q | ⟨T, f, o, q1, q2, q3⟩
    · exact wpAny_pyNext_zip_item (s := { s with heap := h }) P q D.ti ho D.a1 D.a2 D.b1 D.b2 ex ey fun h1 z1 o1 a1 a2 nw sz kp => go h1 ⟨_, false, _, z1, nw, hST⟩ ⟨_, _, o1⟩ a1 a2 nw sz kp
    · exact wpAny_pyNext_zip_item_held (s := { s with heap := h }) P q1 q2 D.ti D.a1 D.a2 D.b1 D.b2 ex ey fun h1 z1 a1 a2 nw sz kp => go h1 ⟨T, true, o, z1, kp T o (ne_up (Nat.lt_trans (lo z (by simp)) q3)) (ne_up (Nat.lt_trans (lo i1 (by simp)) q3)) (ne_up (Nat.lt_trans (lo i2 (by simp)) q3)) q2, q3⟩
        ⟨x0, y0, kp TO _ P.TOz P.TOi1 P.TOi2 ho⟩ a1 a2 nw sz fun c o n1 _ n3 n4 e => kp c o n1 n3 n4 e
end
end Sm
namespace Sm
open PySem PySem.Spec PyProof.Rows L2 Evl RZ
section
variable {X : Cx} {pins : List (Addr × Obj)} {σ : L2.St} {H H2 : Hp} {s : Shared} {h' : Heap}
/-- many objects laid at once, all beyond what was there -/
theorem laid_many {t' : Nat} (I : Inv X pins σ H s) (k : ∀ b u, s.heap.get? b = some u → h'.get? b = some u) (lo : ∀ c, c < s.heap.objs.size → H2 c = H c) (hi : ∀ c o, s.heap.objs.size ≤ c → H2 c = some o → ObjOk X.prog X.w H2 h' c o) : Inv X pins σ H2 { s with heap := h', toks := t' } := by
  have same : ∀ b o, H b = some o → H2 b = some o := fun b o e => by rw [lo b (I.hok b o e).lt]; exact e
  refine I.un ⟨fun b o e _ _ _ => k b o e, fun b o e _ _ _ => ⟨o.slots, k b o e⟩, fun b o e n _ => by rw [lo b (Heap.lt_size e)]; exact n, fun b o e _ => ⟨o, k b o e⟩, fun b xs e => same b _ e, fun b o u e => same b _ e, fun b ps e => ⟨#[], by rw [same b _ e]; simp⟩⟩ fun b o e => ?_
  by_cases hb : b < s.heap.objs.size
  · rw [lo b hb] at e
    exact (I.hok b o e).stay (fun c u _ q => k c u q) (fun c q => same c _ q) fun c xs q => same c _ q
  · exact hi b o (Nat.le_of_not_lt hb) e
end
/-- the heap of trees behind list(zip(..)): the list at S, its pairs at ts -/
def zipH (H : Hp) (S : Addr) (ts : List Addr) (ps : List (V × V)) : Hp := fun c => if c = S then some (.lst (ts.map V.ref)) else match (ts.zip ps).find? (fun p => p.1 == c) with
  | some p => some (.tup [p.2.1, p.2.2])
  | none => H c
theorem zipH_S {H : Hp} {S : Addr} {ts : List Addr} {ps : List (V × V)} : zipH H S ts ps S = some (.lst (ts.map V.ref)) := if_pos rfl
theorem zipH_out {H : Hp} {S : Addr} {ts : List Addr} {ps : List (V × V)} {c : Addr} (h1 : c ≠ S) (h2 : ¬ c ∈ ts) : zipH H S ts ps c = H c := by
  unfold zipH
  rw [if_neg h1]
  have : (ts.zip ps).find? (fun p => p.1 == c) = none := List.find?_eq_none.mpr fun p hp z => h2 (by
    have := (List.of_mem_zip hp).1
    rw [← (beq_iff_eq.mp z)]
    exact this)
  rw [this]
theorem zipH_at {H : Hp} {S : Addr} {c : Addr} (hc : c ≠ S) : ∀ {ts : List Addr} {ps : List (V × V)} {j : Nat} {p : V × V}, ts.Nodup → ts[j]? = some c → ps[j]? = some p → zipH H S ts ps c = some (.tup [p.1, p.2])
  | [], _, _, _, _, e, _ => by simp at e
  | _ :: _, [], _, _, _, _, e => by simp at e
  | t :: ts, q :: ps, 0, p, nd, e1, e2 => by
    cases e1
    cases e2
    unfold zipH
    rw [if_neg hc, List.zip_cons_cons, List.find?_cons_of_pos (by simp)]
  | t :: ts, q :: ps, j + 1, p, nd, e1, e2 => by
    have ih := zipH_at (H := H) hc (ts := ts) (ps := ps) (j := j) (p := p) (List.nodup_cons.mp nd).2 (by simpa using e1) (by simpa using e2)
    have ne : t ≠ c := fun z => (List.nodup_cons.mp nd).1 (by rw [z]; exact List.mem_of_getElem? (by simpa using e1))
    unfold zipH at ih ⊢
    rw [if_neg hc] at ih ⊢
    rw [List.zip_cons_cons, List.find?_cons_of_neg (by simpa using ne)]
    exact ih
def tListZip (K : PySem.W.Frag) (ta : TA) : TE := fun σ H Q => ta σ H fun vs H1 => ∃ (a b : Addr) (xs ys : List V), vs = [.ref a, .ref b] ∧ SqL K H1 a xs ∧ SqL K H1 b ys ∧
  ∀ (S : Addr) (ts : List Addr), H1 S = none → (∀ t, t ∈ ts → H1 t = none ∧ t ≠ S) → ts.Nodup → ts.length = min xs.length ys.length → Q (.ref S) (zipH H1 S ts (xs.zip ys))
theorem zip_no_len : typeLookup (.type "zip") "__len__" = pure none := am_miss_of_fast (by decide +kernel)
theorem zip_no_hint : typeLookup (.type "zip") "__length_hint__" = pure none := am_miss_of_fast (by decide +kernel)
def adr : Value → Addr
  | .ref a => a
  | _ => 0
theorem vals_refs : ∀ ts : List Addr, Vals (ts.map V.ref) (ts.map Value.ref)
  | [] => .nil
  | t :: ts => .cons rfl (vals_refs ts)
theorem vals_at {xs : List V} {us : List Value} (h : Vals xs us) {j : Nat} {x : V} (e : xs[j]? = some x) : ∃ u, us[j]? = some u ∧ RelV x u := h.get e
theorem pe_listZip {X : Cx} {e e2 : Expr} {ta : TA} {p p2 pos pos2 : Pos} (hc : X.calm = true) (hl : Gl X "list") (ml : X.mg "list" = none) (hg : Gl X "zip") (hm : X.mg "zip" = none) (ha : PA X [e, e2] ta)
    (hs : starEach [e, e2] X.env = (false, eval e X.env) :: starEach [e2] X.env := by rfl) (hpl : (backTo pos2 (starEach [e2] X.env)).any (·.1) = false := by rfl)
    (na : starEach [Expr.Call (.Name "zip" p2) [e, e2] [] pos2] X.env = (false, eval (.Call (.Name "zip" p2) [e, e2] [] pos2) X.env) :: starEach [] X.env := by rfl) :
    PE X (.Call (.Name "list" p) [.Call (.Name "zip" p2) [e, e2] [] pos2] [] pos) (tListZip X.K ta) where
  run := fun pins s σ H Q I h => by
    refine Call_ (ld_blt I hl ml boot_list (callWith_type1 (args_cons ?_ na) na))
    refine Call_ (ld_blt I hg hm boot_zip (callWith_type1 (he := hs) (hplain := hpl) (thn (ha.run pos2 pins s σ H _ I h) fun us s1 ⟨vs, H1, J, r, a, b, xs, ys, ev, sa, sb, q⟩ => ?_)))
    subst ev
    obtain ⟨ps, vp, pa, zx⟩ := J.list sa
    obtain ⟨qs, vq, pb, zy⟩ := J.list sb
    have l1 := vp.length
    have l2 := vq.length
    cases r with
    | cons ra r =>
      cases r with
      | cons rb r =>
        cases r
        cases ra
        cases rb
        refine call_zip_2 pa.isList pb.isList fun h' hz hTI hTO a1 a2 sz kp => args_nil ?_
        have la : a < s1.heap.objs.size := pa.lt
        have lb : b < s1.heap.objs.size := pb.lt
        refine list_iter (s := { s1 with heap := h' }) hz rfl (by decide) (by decide) zip_no_len zip_no_hint (fun B s' Q' E' e q => wpAny_pyIter_zip e q) fun h c g k => ?_
        have hS : (Shared.heap { s1 with heap := h' }).objs.size = s1.heap.objs.size + 5 := sz
        rw [hS] at g ⊢
        have lo : ∀ c : Addr, c = s1.heap.objs.size + 4 ∨ c = s1.heap.objs.size + 2 ∨ c = s1.heap.objs.size + 3 ∨ c = s1.heap.objs.size ∨ c = s1.heap.objs.size + 1 ∨ c = a ∨ c = b → c < s1.heap.objs.size + 5 := fun c hc => by
          have hc' : @Eq Nat c (s1.heap.objs.size + 4) ∨ @Eq Nat c (s1.heap.objs.size + 2) ∨ @Eq Nat c (s1.heap.objs.size + 3) ∨ @Eq Nat c s1.heap.objs.size ∨ @Eq Nat c (s1.heap.objs.size + 1) ∨ @Eq Nat c a ∨ @Eq Nat c b := hc
          have la' : @LT.lt Nat _ a s1.heap.objs.size := la
          have lb' : @LT.lt Nat _ b s1.heap.objs.size := lb
          show @LT.lt Nat _ c (s1.heap.objs.size + 5)
          omega
        refine draw_zip (s := { s1 with heap := h' }) (h0 := h') (xs := ps.toArray) (ys := qs.toArray) (PySem.W.ktu_apart _ a b la lb) lo (show X.A.in1.handled = none from J.ok.hd hc) (by simp; omega) (fun acc h3 D => ⟨rfl, ?_⟩) _ 0 #[] h rfl (Nat.zero_le _)
          ⟨⟨c, g⟩, rfl, .inl (k _ _ hz), k _ _ hTI, ⟨_, _, k _ _ hTO⟩, a1.at fun o e => k _ o e, a2.at fun o e => k _ o e, pa.isList.at fun o e => k _ o (kp _ o e), pb.isList.at fun o e => k _ o (kp _ o e), fun j x y hj => absurd hj (Nat.not_lt_zero j), fun j T e => by simp at e, fun j k T U _ e => by simp at e, fun c o _ _ _ _ _ e => k c o e⟩
        obtain ⟨c3, hL⟩ := D.lst
        have hn : acc.size = min xs.length ys.length := by
          have := D.sz
          simp at this
          omega
        -- the addresses
        have each : ∀ j, j < acc.size → ∃ (T : Addr) (x y : V) (u v : Value), acc[j]? = some (.ref T) ∧ xs[j]? = some x ∧ ys[j]? = some y ∧ RelV x u ∧ RelV y v ∧ IsPair h3 T u v ∧ s1.heap.objs.size + 5 < T := fun j hj => by
          have hx : xs[j]? = some xs[j] := List.getElem?_eq_getElem (by omega)
          have hy : ys[j]? = some ys[j] := List.getElem?_eq_getElem (by omega)
          obtain ⟨u, eu, ru⟩ := vals_at vp hx
          obtain ⟨v, ev, rv⟩ := vals_at vq hy
          obtain ⟨T, e1, e2, e3⟩ := D.its j u v (by simpa using eu) (by simpa using ev)
          exact ⟨T, _, _, u, v, e1, hx, hy, ru, rv, e2, e3⟩
        have accE : acc.toList = (acc.toList.map adr).map Value.ref := by
          rw [List.map_map]
          apply List.ext_getElem?
          intro j
          rw [List.getElem?_map]
          by_cases hj : j < acc.size
          · obtain ⟨T, _, _, _, _, e1, _⟩ := each j hj
            rw [Array.getElem?_toList, e1]
            rfl
          · rw [Array.getElem?_toList, Array.getElem?_eq_none (by omega)]
            rfl
        generalize hts : acc.toList.map adr = ts at accE
        have tsl : ts.length = acc.size := by rw [← hts, List.length_map, Array.length_toList]
        have tsj : ∀ {j : Nat} {T : Addr}, ts[j]? = some T ↔ acc[j]? = some (Value.ref T) := fun {j T} => by
          rw [← Array.getElem?_toList, accE, List.getElem?_map]
          cases ts[j]? with
          | none => simp
          | some U => simp
        have tsb : ∀ t, t ∈ ts → s1.heap.objs.size + 5 < t := fun t ht => by
          obtain ⟨j, hj⟩ := List.getElem?_of_mem ht
          have hja := tsj.mp hj
          obtain ⟨T, _, _, _, _, e1, _, _, _, _, _, e3⟩ := each j (Array.getElem?_eq_some_iff.mp hja).1
          rw [e1] at hja
          cases hja
          exact e3
        have nd : ts.Nodup := by
          rw [List.nodup_iff_pairwise_ne, List.pairwise_iff_getElem]
          intro i j hi hj hij
          exact Nat.ne_of_lt (D.ord i j _ _ hij (tsj.mp (List.getElem?_eq_getElem hi)) (tsj.mp (List.getElem?_eq_getElem hj)))
        have far : ∀ {c : Addr}, c < s1.heap.objs.size → ∀ m : Nat, c ≠ s1.heap.objs.size + m := fun hc m => Nat.ne_of_lt (Nat.lt_of_lt_of_le hc (Nat.le_add_right _ _))
        refine ⟨.ref (s1.heap.objs.size + 5), zipH H1 (s1.heap.objs.size + 5) ts (xs.zip ys), laid_many (s := s1) (t' := s1.toks) J (fun b u e => D.old b u (far (Heap.lt_size e) 4) (far (Heap.lt_size e) 3) (far (Heap.lt_size e) 0) (far (Heap.lt_size e) 1) (far (Heap.lt_size e) 5) (kp b u e)) (fun c hc => zipH_out (far hc 5) fun hm => Nat.lt_irrefl _ (Nat.lt_trans (Nat.lt_of_lt_of_le hc (Nat.le_add_right _ 5)) (tsb c hm))) (fun c o hle e => ?_), rfl,
          q _ ts (J.hok.fresh (Nat.le_add_right _ _)) (fun t ht => ⟨J.hok.fresh (Nat.le_trans (Nat.le_add_right _ 5) (Nat.le_of_lt (tsb t ht))), Nat.ne_of_gt (tsb t ht)⟩) nd (by rw [tsl, hn])⟩
        by_cases hcS : c = s1.heap.objs.size + 5
        · subst hcS
          rw [zipH_S] at e
          cases e
          refine ⟨by rw [List.length_map, tsl, hn]; omega, ts.map Value.ref, c3, vals_refs ts, ?_⟩
          rw [hL, ← accE]
        · by_cases hct : c ∈ ts
          · obtain ⟨j, hj⟩ := List.getElem?_of_mem hct
            have hja := tsj.mp hj
            obtain ⟨T, x, y, u, v, e1, ex, ey, ru, rv, e2, e3⟩ := each j (Array.getElem?_eq_some_iff.mp hja).1
            rw [e1] at hja
            cases hja
            rw [zipH_at (p := (x, y)) hcS nd hj (by rw [List.getElem?_zip_eq_some]; exact ⟨ex, ey⟩)] at e
            cases e
            exact ⟨(by decide : 2 ≤ sizeLine), [u, v], .cons ru (.cons rv .nil), _, e2, rfl, _, rfl⟩
          · rw [zipH_out hcS hct, J.hok.fresh hle] at e
            cases e
section
variable {K : PySem.W.Frag}
def pairsOf (xs ys : List PyData) : List PyData := List.zipWith (fun x y => .tuple [x, y]) xs ys
def fListZip (φ ψ : FE) : FL := fun δ => match φ δ with
  | some (.list xs, δ1) => match ψ δ1 with
    | some (.list ys, δ2) => some (pairsOf xs ys, δ2)
    | _ => none
  | _ => none
theorem RpAll.of_get {H : Hp} : ∀ {vs : List V} {ds : List PyData}, vs.length = ds.length → (∀ (j : Nat) (v : V) (d : PyData), vs[j]? = some v → ds[j]? = some d → Rp K H v d) → RpAll K H vs ds
  | [], [], _, _ => .nil
  | [], _ :: _, h, _ => by cases h
  | _ :: _, [], h, _ => by cases h
  | v :: vs, d :: ds, h, g => .cons (g 0 v d rfl rfl) (RpAll.of_get (Nat.succ.inj h) fun j v d e1 e2 => g (j + 1) v d (by simpa using e1) (by simpa using e2))
theorem wl_listZip {ta tb : TE} {φ ψ : FE} (ha : WE K ta φ) (hb : WE K tb ψ) : WL K (tListZip K (tCons ta (tCons tb tNil))) (fListZip φ ψ) := fun F L σ H δ ds δ' e R Q q => by
  unfold fListZip at e
  split at e
  · next xs δ1 e1 =>
    split at e
    · next ys δ2 e2 =>
      cases e
      refine ha F L σ H δ _ δ1 e1 R _ fun v H1 s1 R1 d1 => hb F L σ H1 δ1 _ δ' e2 R1 _ fun w H2 s2 R2 d2 => ?_
      have d1' := s2.dat R1.sub d1
      cases d1' with
      | @lst a vs _ h1 h2 =>
        cases d2 with
        | @lst b ws _ k1 k2 =>
          refine ⟨a, b, vs, ws, rfl, sq_of (msk_some h1).2, sq_of (msk_some k1).2, fun S ts hS hts nd hl => ?_⟩
          have x3 : Ex H2 (zipH H2 S ts (vs.zip ws)) := fun c o ec => by
            rw [zipH_out (fun z => by rw [z, hS] at ec; cases ec) (fun z => by rw [(hts c z).1] at ec; cases ec)]
            exact ec
          have hd : RpAll K (Msk (S :: (F.B ++ L)) (zipH H2 S ts (vs.zip ws))) (ts.map V.ref) (pairsOf xs ys) := by
            have lx := h2.len
            have ly := k2.len
            refine RpAll.of_get (by unfold pairsOf; rw [List.length_map, hl, List.length_zipWith, lx, ly]) fun j v d ev ed => ?_
            rw [List.getElem?_map] at ev
            cases ht : ts[j]? with
            | none =>
              rw [ht] at ev
              cases ev
            | some T =>
              rw [ht] at ev
              cases ev
              obtain ⟨x, y, ex, ey, rfl⟩ := zw_get ed
              obtain ⟨u1, g1, r1⟩ := h2.get j x ex
              obtain ⟨u2, g2, r2⟩ := k2.get j y ey
              have hT := hts T (List.mem_of_getElem? ht)
              have nm : ¬ T ∈ S :: (F.B ++ L) := fun z => by
                rcases List.mem_cons.mp z with z | z
                · exact hT.2 z
                · exact R2.fr T hT.1 z
              have at_ : Msk (S :: (F.B ++ L)) (zipH H2 S ts (vs.zip ws)) T = some (.tup [u1, u2]) := by
                rw [msk_out nm]
                exact zipH_at (p := (u1, u2)) hT.2 nd ht (by rw [List.getElem?_zip_eq_some]; exact ⟨g1, g2⟩)
              have mv : Ex (Msk (F.B ++ L) H2) (Msk (S :: (F.B ++ L)) (zipH H2 S ts (vs.zip ws))) := hide_ex x3 hS
              exact .tup (.inl (.inl at_)) (.cons (Rp.mono mv _ _ r1) (.cons (Rp.mono mv _ _ r2) .nil))
          have ne : zipH H2 S ts (vs.zip ws) S ≠ none := by rw [zipH_S]; exact fun z => nomatch z
          exact q S _ _ (new_live R R2 (s1.trans s2) hS) ((s1.trans s2).trans (Stp.of_ex x3)) (R2.hideX x3 hS ne) zipH_S hd
    · cases e
  · cases e
end
end Sm
namespace Sm
open PySem L2 Evl RZ
section
variable {K : PySem.W.Frag}
/-- xs + ys, both lists: a new list -/
def fAddL (φ ψ : FE) : FL := fun δ => match φ δ with
  | some (.list xs, δ1) => match ψ δ1 with
    | some (.list ys, δ2) => if xs.length + ys.length ≤ 100000 then some (xs ++ ys, δ2) else none
    | _ => none
  | _ => none
theorem wl_addL {ta tb : TE} {φ ψ : FE} (ha : WE K ta φ) (hb : WE K tb ψ) : WL K (tOp (rAddA K) ta tb) (fAddL φ ψ) := fun F L σ H δ ds δ' e R Q q => by
  unfold fAddL at e
  split at e
  · next xs δ1 e1 =>
    split at e
    · next ys δ2 e2 =>
      by_cases hn : xs.length + ys.length ≤ 100000
      · rw [if_pos hn] at e
        cases e
        refine ha F L σ H δ _ δ1 e1 R _ fun v H1 s1 R1 d1 => hb F L σ H1 δ1 _ δ' e2 R1 _ fun w H2 s2 R2 d2 => ?_
        have d1' := s2.dat R1.sub d1
        cases d1' with
        | @lst a vs _ h1 h2 =>
          cases d2 with
          | @lst b ws _ k1 k2 =>
            refine .inr (.inr (.inl ⟨a, b, vs, ws, rfl, rfl, (msk_some h1).2, (msk_some k1).2, sz_of (by rw [h2.len, k2.len]; exact hn), fun p hp => ?_⟩))
            exact q p _ _ (new_live R R2 (s1.trans s2) hp) ((s1.trans s2).trans (Stp.of_ex (Ex.new hp))) (R2.hideX (Ex.new hp) hp (by rw [upd_same]; exact fun z => nomatch z)) upd_same (RpAll.mono (hide_ex (Ex.new hp) hp) _ _ (h2.app k2))
      · rw [if_neg hn] at e
        cases e
    · cases e
  · cases e
end
end Sm
namespace Sm
open PySem PyProof.Rows L2 Evl RZ RT
section
variable {K : PySem.W.Frag}
/-! ### a << b -/
abbrev dShl := fI cPowB fun i j => .int (i * 2 ^ j.toNat)
theorem rd_shl : RD K (rI CPow fun i j => .int (i * 2 ^ j.toNat)) dShl := rd_I (fun i j h => by
  have h' := of_decide_eq_true h
  exact ⟨h'.1, by omega, h'.2.2⟩) fun _ _ _ => .int _
/-! ### reversed(..) walked -/
def revOf : PyData → Option (List PyData)
  | .list ds => some ds.reverse
  | .tuple ds => some ds.reverse
  | _ => none
theorem rev_get {α : Type} {xs : List α} {i : Nat} {d : α} (h : xs.reverse[i]? = some d) : i < xs.length ∧ xs[xs.length - 1 - i]? = some d := by
  have hi : i < xs.reverse.length := (List.getElem?_eq_some_iff.mp h).1
  rw [List.length_reverse] at hi
  rw [List.getElem?_reverse hi] at h
  exact ⟨hi, h⟩
theorem iter_revL {F : Fm} {L : List Addr} {H0 : Hp} {a : Addr} {vs : List V} {ds : List PyData} (h1 : Msk (F.B ++ L) H0 a = some (.lst vs)) (h2 : RpAll K (Msk (F.B ++ L) H0) vs ds) : Iter K F L H0 (Itv K a vs.length) ds.reverse where
  go := fun L' H x fr i d hd => by
    obtain ⟨hi, hg⟩ := rev_get hd
    obtain ⟨v, hv, rv⟩ := h2.get _ d hg
    have hs : SqL K H a vs := sq_of (msk_some (x a _ h1)).2
    rw [← h2.len] at hv hi
    refine ⟨⟨hi, vs, v, hs, hv⟩, fun y H' hy => ?_⟩
    obtain ⟨rfl, hy⟩ := hy
    have := hy vs hs
    rw [hv] at this
    cases this
    exact ⟨Ex.refl _, Rp.mono x _ _ rv⟩
  stop := fun L' H x i hi => by
    rw [List.length_reverse, ← h2.len] at hi
    exact hi
theorem iter_revT {F : Fm} {L : List Addr} {H0 : Hp} {a : Addr} {vs : List V} {ds : List PyData} (h1 : SqT K (Msk (F.B ++ L) H0) a vs) (h2 : RpAll K (Msk (F.B ++ L) H0) vs ds) : Iter K F L H0 (ItvT K a vs.length) ds.reverse where
  go := fun L' H x fr i d hd => by
    obtain ⟨hi, hg⟩ := rev_get hd
    obtain ⟨v, hv, rv⟩ := h2.get _ d hg
    have hs : SqT K H a vs := ex_t msk_le (ex_t x h1)
    rw [← h2.len] at hv hi
    refine ⟨⟨hi, vs, v, hs, hv⟩, fun y H' hy => ?_⟩
    obtain ⟨rfl, hy⟩ := hy
    have := hy vs hs
    rw [hv] at this
    cases this
    exact ⟨Ex.refl _, Rp.mono x _ _ rv⟩
  stop := fun L' H x i hi => by
    rw [List.length_reverse, ← h2.len] at hi
    exact hi
theorem wi_revA {te : TE} {φ : FE} (h : WE K te φ) : WI K (iRevA K te) (fUnL revOf φ) := fun F L σ H δ ds δ' e R Q q => by
  obtain ⟨x, e1, e2⟩ := fUnL_some e
  refine h F L σ H δ x δ' e1 R _ fun v H1 s1 R1 d1 => ?_
  cases x with
  | list es =>
    cases e2
    cases d1 with
    | lst h1 h2 => exact ⟨_, _, rfl, .inl ⟨sq_of (msk_some h1).2, q _ H1 s1 R1 (iter_revL h1 h2)⟩⟩
  | tuple es =>
    cases e2
    cases d1 with
    | tup h1 h2 => exact ⟨_, _, rfl, .inr ⟨ex_t msk_le h1, q _ H1 s1 R1 (iter_revT h1 h2)⟩⟩
  | _ => cases e2
/-! ### xs[::-1] -/
def dRevL : PyData → Option PyData
  | .list ds => some (.list ds.reverse)
  | _ => none
theorem RpAll.rev {H : Hp} : ∀ {vs : List V} {ds : List PyData}, RpAll K H vs ds → RpAll K H vs.reverse ds.reverse
  | _, [], h => by
    cases h
    exact .nil
  | _, d :: ds, h => by
    cases h with
    | cons h1 h2 =>
      rw [List.reverse_cons, List.reverse_cons]
      exact (RpAll.rev h2).app (.cons h1 .nil)
theorem we_revL {te : TE} {φ : FE} (h : WE K te φ) : WE K (tRevL K te) (fUn dRevL φ) := fun F L σ H δ d δ' e R Q q => by
  obtain ⟨x, e1, e2⟩ := fUn_some e
  refine h F L σ H δ x δ' e1 R _ fun v H1 s1 R1 d1 => ?_
  cases x with
  | list es =>
    cases e2
    cases d1 with
    | lst h1 h2 => exact ⟨_, _, rfl, sq_of (msk_some h1).2, fun p hp => q _ _ (s1.trans (Stp.of_ex (Ex.new hp))) (R1.ex (Ex.new hp)) (new_lst (R1.fr p hp) h2.rev hp)⟩
  | _ => cases e2
/-! ### defs with defaults -/
theorem fund_ok {P : Program} {w : World} {mg : Str → Option Value} {base : Heap} {x qual : Str} {st : Stmt} {dvs : List V} {kws : List (Str × V)} {f : Addr} {fd : FuncData} {N ps : List Str} {k : Nat} {sp : Sp} (F : FunD K x qual (defArgs st) (defBody st) (defScope st) dvs kws f fd) (S : FnScope N ps (defScope st)) (len : ∀ vs H Q E, sp vs H Q E → vs.length = ps.length)
    (hbody : ∀ (cdv : Value) (A : Around) (outer : List Env) (s : Shared) (H : Hp) (vs : List V) (Q : VK) (E : XK), Room k (A.deeper (envOfC qual (defScope st) s.heap.objs.size f cdv)) → sp vs H Q E →
      ∃ t, PSs (cxOf CX0 P w K mg base N qual (defScope st) f cdv A outer s H E).nox (defBody st) t ∧ t { nx := fun _ H' => Q .non H', rt := Q } (start N vs) H) : FnOk P w K mg base CX0 (k + 1) f fd ps sp :=
  F.ok S len fun cdv A outer s H vs Q E hr hsp => (hbody cdv A outer s H vs Q E hr hsp).elim fun t h => ⟨t, h.1.nox, h.2⟩
/-- a call that leaves the last arguments, whole numbers, to the defaults -/
def fCallD (f : List PyData → Option PyData) (is : List Int) (φ : FL) : FE := fun δ => match φ δ with
  | some (ds, δ1) => match f (ds ++ is.map PyData.int) with
    | some d => some (d, δ1)
    | none => none
  | none => none
theorem we_callD {n : Nat} {f : List PyData → Option PyData} {is : List Int} {ta : TA} {φ : FL} {E : XK} (h : WA K ta φ) (hn : ArN φ n) : WE K (tCall (spD K (n + is.length) f) (is.map V.int) E ta) (fCallD f is φ) := fun F L σ H δ d δ' e R Q q => by
  unfold fCallD at e
  split at e
  · next ds δ1 e1 =>
    split at e
    · next d0 e2 =>
      cases e
      refine h F L σ H δ ds _ e1 R _ fun vs H1 s1 R1 d1 => ?_
      exact ⟨F.B ++ L, ds ++ is.map PyData.int, _, by rw [List.length_append, List.length_map, d1.len, hn _ _ _ e1], d1.app (RpAll.of_ints is), R1.al, e2, fun v H2 x2 rv => q v H2 (s1.trans (Stp.of_ex x2)) (R1.ex x2) rv⟩
    · cases e
  · cases e
def fCallLD (f : List PyData → Option (List PyData)) (is : List Int) (φ : FL) : FL := fun δ => match φ δ with
  | some (ds, δ1) => match f (ds ++ is.map PyData.int) with
    | some d => some (d, δ1)
    | none => none
  | none => none
/-! ### data without lists -/
mutual
def hardD : PyData → Bool
  | .list _ => false
  | .dict _ => false
  | .tuple ds => hardAll ds
  | _ => true
def hardAll : List PyData → Bool
  | [] => true
  | d :: ds => hardD d && hardAll ds
end
theorem wl_callD {n : Nat} {f : List PyData → Option (List PyData)} {is : List Int} {ta : TA} {φ : FL} {E : XK} (h : WA K ta φ) (hn : ArN φ n) : WL K (tCall (spL K (n + is.length) f) (is.map V.int) E ta) (fCallLD f is φ) := fun F L σ H δ d δ' e R Q q => by
  unfold fCallLD at e
  split at e
  · next ds δ1 e1 =>
    split at e
    · next d0 e2 =>
      cases e
      refine h F L σ H δ ds _ e1 R _ fun vs H1 s1 R1 d1 => ?_
      exact ⟨F.B ++ L, ds ++ is.map PyData.int, _, by rw [List.length_append, List.length_map, d1.len, hn _ _ _ e1], d1.app (RpAll.of_ints is), R1.al, e2, fun p us H2 hp x2 h2 ru => q p us H2 (new_live R R1 s1 hp) (s1.trans (Stp.of_ex x2)) (R1.hideX x2 hp (by rw [h2]; exact fun z => nomatch z)) h2 ru⟩
    · cases e
  · cases e
/-- where only lists are hidden more, data without lists are seen as before -/
theorem sqt_hide {S S' : List Addr} {H : Hp} {a : Addr} {vs : List V} (hs : ∀ a, a ∈ S → ¬ a ∈ S' → ∃ xs, H a = some (.lst xs)) (h : SqT K (Msk S' H) a vs) : SqT K (Msk S H) a vs := by
  rcases h with h | h
  · have out : ∀ {o : HO}, (∀ xs, o ≠ .lst xs) → Msk S' H a = some o → Msk S H a = some o := fun {o} hno e => by
      obtain ⟨h1, h2⟩ := msk_some e
      rw [msk_out (fun z => by
        obtain ⟨xs, hx⟩ := hs a z h1
        rw [h2] at hx
        cases hx
        exact hno xs rfl)]
      exact h2
    refine .inl ?_
    rcases h with h | ⟨o, h⟩
    · exact .inl (out (fun xs z => nomatch z) h)
    · exact .inr ⟨o, out (fun xs z => nomatch z) h⟩
  · exact .inr h
theorem Rp.hide {S S' : List Addr} {H : Hp} (hs : ∀ a, a ∈ S → ¬ a ∈ S' → ∃ xs, H a = some (.lst xs)) {v : V} {d : PyData} (h : Rp K (Msk S' H) v d) (hd : hardD d = true) : Rp K (Msk S H) v d :=
  Rp.rec (motive_1 := fun v d _ => hardD d = true → Rp K (Msk S H) v d) (motive_2 := fun vs ds _ => hardAll ds = true → RpAll K (Msk S H) vs ds) (motive_3 := fun _ _ _ => True)
    (fun _ => .non) (fun b _ => .bl b) (fun i _ => .int i) (fun x _ => .str x) (fun _ _ _ c => by simp [hardD] at c) (fun h1 _ ih c => .tup (sqt_hide hs h1) (ih (by simpa [hardD] using c))) (fun _ c => by simp [scrD, hardD] at c) (fun _ _ _ c => by simp [hardD] at c)
    (fun _ => .nil) (fun _ _ a b c => by
      simp only [hardAll, Bool.and_eq_true] at c
      exact .cons (a c.1) (b c.2)) trivial (fun _ _ _ _ => trivial) h hd
/-! ### a call that is lent a list of one's own; what comes back holds no list -/
def fCallO (f : List PyData → Option PyData) (i : Nat) (φ : FL) : FE := fun δ => match δ[i]? with
  | some (.own _) => match φ δ with
    | some (ds, δ1) => match δ1[i]? with
      | some (.own xs) => match f (.list xs :: ds) with
        | some d => if hardD d = true then some (d, δ1) else none
        | none => none
      | _ => none
    | none => none
  | _ => none
theorem we_callO {n i : Nat} {f : List PyData → Option PyData} {ta : TA} {φ : FL} {E : XK} (h : WA K ta φ) (hn : ArN φ n) : WE K (tCall (spD K (n + 1) f) [] E (tCons (tVar i) ta)) (fCallO f i φ) := fun F L σ H δ d δ' e R Q q => by
  unfold fCallO at e
  split at e
  · next x0 g0 =>
    split at e
    · next ds δ1 e1 =>
      split at e
      · next xs g1 =>
        split at e
        · next d0 e2 =>
          by_cases hd : hardD d0 = true
          · rw [if_pos hd] at e
            cases e
            obtain ⟨l, vs0, hσ, _, _, _⟩ := R.at_ i _ g0
            refine ⟨.ref l, hσ, h F L σ H δ ds _ e1 R _ fun us H1 s1 R1 d1 => ?_⟩
            obtain ⟨l', vs, hσ', hl, hH, rp⟩ := R1.at_ i _ g1
            rw [hσ] at hσ'
            cases hσ'
            have sub : ∀ a, a ∈ F.B ++ L.filter (· != l) → a ∈ F.B ++ L := fun a ha => by
              rcases List.mem_append.mp ha with z | z
              · exact List.mem_append.mpr (.inl z)
              · exact List.mem_append.mpr (.inr (filt_sub z).1)
            have nl : ¬ l ∈ F.B ++ L.filter (· != l) := fun z => by
              rcases List.mem_append.mp z with z | z
              · exact R1.lb l hl z
              · exact (filt_sub z).2 rfl
            have mv : Ex (Msk (F.B ++ L) H1) (Msk (F.B ++ L.filter (· != l)) H1) := msk_sub sub
            rw [List.append_nil]
            refine ⟨F.B ++ L.filter (· != l), .list xs :: ds, _, by rw [List.length_cons, d1.len, hn _ _ _ e1], .cons (.lst (by rw [msk_out nl]; exact hH) (RpAll.mono mv _ _ rp)) (RpAll.mono mv _ _ d1), fun a ha => R1.al a (sub a ha), e2, fun v H2 x2 rv => ?_⟩
            refine q v H2 (s1.trans (Stp.of_ex x2)) (R1.ex x2) (Rp.hide (fun a ha hna => ?_) rv hd)
            have : a = l := Classical.byContradiction fun z => hna (by
              rcases List.mem_append.mp ha with y | y
              · exact List.mem_append.mpr (.inl y)
              · exact List.mem_append.mpr (.inr (filt_in y z)))
            subst this
            exact ⟨vs, x2 _ _ hH⟩
          · rw [if_neg hd] at e
            cases e
        · cases e
      · cases e
    · cases e
  · cases e
end
end Sm
/-! enumerate of a list or a tuple -/
namespace Sm
open PySem PySem.Spec PyProof.Rows L2 Evl RZ
abbrev enumO (it : Addr) : Obj := { cls := .type "enumerate", data := .fields #[.none, .bool false, .ref it, rawInt 0, .none, .none] }
theorem meets_enum1 {v : Value} {o : Obj} {P : Heap → Prop} (B : Begins v o P) : Meets (Builtin.«enumerate.__new__» ⟨[.type "enumerate", v], []⟩) (fun _ R s => P s.heap ∧ R (.ok (.ret (.ref (s.heap.push o).objs.size))) { s with heap := (s.heap.push o).push (enumO s.heap.objs.size) }) :=
  .of_wp fun prog w A R s h => by
    obtain ⟨hp, gs, dr, tk, os⟩ := s
    obtain ⟨h1, h2⟩ := h
    have hsub := sub_enumerate
    have qi : ∀ {A' : Around} {E : Value → Shared → Prop} {Q : Value → Shared → Prop}, Q (.ref hp.objs.size) ⟨hp.push o, gs, dr, tk, os⟩ → wpAny (model prog w) A' (pyIter v) Q E ⟨hp, gs, dr, tk, os⟩ := fun q => B.iter prog w _ _ ⟨hp, gs, dr, tk, os⟩ _ h1 q
    wp_walk
    refine wpAny_stack_any fun st => wpAny_pure ?_
    split
    · rename_i c _ _ _ _ _
      cases (c == Value.type "enumerate") <;> (wp_walk using qi; exact ⟨_, rfl, h2⟩)
    · wp_walk using qi
      exact ⟨_, rfl, h2⟩
section
variable {prog : Program} {w : World} {A : Around} {E : Value → Shared → Prop} {s : Shared}
theorem enum_begins1 {v : Value} {o : Obj} {P : Heap → Prop} {Q : Value → Shared → Prop} (B : Begins v o P) (h1 : P s.heap)
    (h : ∀ h', IsEnum h' (s.heap.objs.size + 1) s.heap.objs.size 0 .none → h'.get? s.heap.objs.size = some o → (∀ b u, s.heap.get? b = some u → h'.get? b = some u) → Q (.ref (s.heap.objs.size + 1)) { s with heap := h' }) :
    wpAny (model prog w) A (call (.type "enumerate") [v]) Q E s := by
  refine callType_new F.called_enumerate (by decide) (F.typeCall_enumerate_1 _) (F.newCall_enumerate_1 _) (fun obj => F.args_object_init_2 obj _) F.entry_enumerate_new (meets_enum1 B) ⟨h1, ?_⟩
  have z1 : (s.heap.push o).objs.size = s.heap.objs.size + 1 := Heap.size_push _ _
  have ge : ((s.heap.push o).push (enumO s.heap.objs.size)).get? (s.heap.push o).objs.size = some (enumO s.heap.objs.size) := Heap.get?_push_size _ rfl
  rw [z1] at ge
  have go : ((s.heap.push o).push (enumO s.heap.objs.size)).get? s.heap.objs.size = some o := Heap.get?_push_of_some _ (Heap.get?_push_size _ B.free)
  show _ ∧ _
  rw [z1]
  exact ⟨⟨_, ge, rfl⟩, h _ ge go fun b u e => Heap.get?_push_of_some _ (Heap.get?_push_of_some _ e)⟩
end
/-- its items as they stand at each turn, each behind its number, in new pairs -/
def IteB (K : PySem.W.Frag) (k : Bool) (a : Addr) : It where
  go := fun i H => ∃ (xs : List V) (x : V), SqB K k H a xs ∧ xs[i]? = some x
  yld := fun i H v H' => ∃ (T : Addr) (x : V), v = .ref T ∧ H T = none ∧ H' = upd H T (.tup [.int (i : Nat), x]) ∧ ∀ xs, SqB K k H a xs → xs[i]? = some x
  stop := fun i H => ∃ xs : List V, SqB K k H a xs ∧ xs.length ≤ i
structure ECells (k : Bool) (e it a : Addr) (i : Nat) (h : Heap) : Prop where
  e : ∃ old, IsEnum h e it ((i : Nat) : Int) old
  l : IterB k h it a i
theorem in2 {a b c : Addr} (h : c ∈ [a, b]) : c = a ∨ c = b := by simpa using h
theorem turn_enumB {P : Program} {w : World} {K : PySem.W.Frag} {elts : List Expr} {kk : Nat} {tpos : Pos} {k : Bool} {a e it : Addr} (n1 : e ≠ it) (n2 : e ≠ a) (n3 : a ≠ it) : Turn P w K (.Tuple elts kk tpos) (IteB K k a) [e, it] e (ECells k e it a) where
  mem := List.mem_cons_self
  obj := fun i h st c hc => by
    obtain ⟨old, he⟩ := st.e
    rcases in2 hc with q | q <;> subst q
    · exact ⟨_, he, fun v z => by cases z⟩
    · exact st.l.live
  keep := fun i h h' st kp => ⟨st.e.elim fun old q => ⟨old, kp e (by simp) _ q⟩, st.l.keep (kp it (by simp))⟩
  item := fun X hP hw hK hc i pins s σ H E I hf st hg => by
    subst hP hw hK
    obtain ⟨xs, x, sx, ex⟩ := hg
    obtain ⟨old, he⟩ := st.e
    obtain ⟨ps, vp, pa⟩ := sq_b I sx
    obtain ⟨u, eu, ru⟩ := vp.get ex
    have lu : i < ps.toArray.size := by simpa using (List.getElem?_eq_some_iff.mp eu).1
    have hh : X.A.in1.handled = none := I.ok.hd hc
    have nf : ¬ e ∈ [it, a] := fun z => by
      rcases in2 z with q | q
      · exact n1 q
      · exact n2 q
    refine wpAny_pyNext_enum_itemD (draws_b hh k it a n3 ps.toArray) he ⟨st.l, pa⟩ lu n1 nf fun x1 h1 tk e1 o1 s1 t1 sz kp => ?_
    have q1 : x1 = u := Option.some.inj (e1.symm.trans (by simpa using eu))
    subst q1
    refine ⟨_, rfl, wpAny_letOwnedTupleGo_enum (s := { s with heap := h1, toks := tk + 1 }) o1 fun h2 z2 sb => ?_⟩
    have le : e < s.heap.objs.size := Heap.lt_size he
    have lit : it < s.heap.objs.size := st.l.live.elim fun o q => Heap.lt_size q.1
    have t2 : h2.get? s.heap.objs.size = some { cls := .type "tuple", data := .seq #[.int i tk, x1] } := (sb.2 _ (Nat.ne_of_gt le)).trans t1
    have J : Inv X pins σ (upd H s.heap.objs.size (.tup [.int (i : Nat), x])) { s with heap := h2, toks := tk + 1 } := I.turnedNew (ch := [e, it]) (fun c o nc q => by
      have ne : ∀ d, d ∈ [e, it] → c ≠ d := fun d hd z => nc (z ▸ hd)
      exact (sb.2 c (ne e (by simp))).trans (kp c o (ne e (by simp)) (ne it (by simp)) q)) hf (Nat.le_refl _) ⟨(by decide : 2 ≤ sizeLine), [.int i tk, x1], .cons ⟨tk, rfl⟩ (.cons ru .nil), _, t2, rfl, _, rfl⟩
    refine ⟨.ref s.heap.objs.size, _, J, rfl, ⟨_, x, rfl, I.hok.fresh (Nat.le_refl _), rfl, fun zs hz => sq_inj I hz sx ▸ ex⟩, ⟨⟨x1, z2⟩, s1.1.keep fun o q => (sb.2 _ (Ne.symm n1)).trans q⟩, fun c hcm => ?_⟩
    have lc : c < s.heap.objs.size := by
      rcases in2 hcm with q | q <;> rw [q]
      · exact le
      · exact lit
    rw [upd_ne (Nat.ne_of_lt lc)]
    exact (hf c hcm).1
  done := fun X hP hw hK hc i pins s σ H E I hf st hg => by
    subst hP hw hK
    obtain ⟨xs, sx, hl⟩ := hg
    obtain ⟨old, he⟩ := st.e
    obtain ⟨ps, vp, pa⟩ := sq_b I sx
    have l1 := vp.length
    have hh : X.A.in1.handled = none := I.ok.hd hc
    exact wpAny_pyNext_enum_endD (draws_end hh k it a ps.toArray i (by simp; omega)) he ⟨rfl, st.l, pa⟩ fun h' xb => ⟨rfl, I.turnedL (ch := [e, it]) (t' := s.toks) (fun c o nc q => xb c o (fun z => nc (by rw [z]; simp)) q) hf⟩
  self := fun A i s Q E st h => st.e.elim fun old q => wpAny_pyIter_enum q h
def iEnumB (K : PySem.W.Frag) (ta : TA) : TI := fun σ H R => ta σ H fun vs H1 => ∃ (k : Bool) (a : Addr) (xs : List V), vs = [.ref a] ∧ SqB K k H1 a xs ∧ R (IteB K k a) H1
theorem pi_enumB {X : Cx} {e : Expr} {ta : TA} {p pos tpos : Pos} {elts : List Expr} {kk : Nat} (hg : Gl X "enumerate") (hm : X.mg "enumerate" = none) (ha : PA X [e] ta) (hs : starEach [e] X.env = [(false, eval e X.env)] := by rfl) :
    PI X (.Tuple elts kk tpos) (.Call (.Name "enumerate" p) [e] [] pos) (iEnumB X.K ta) where
  run := fun pins s σ H R I h => Call_ <| ld_blt I hg hm boot_enumerate <| callWith_type1 (he := hs) (hplain := rfl) <| thn (ha.run pos pins s σ H _ I h) fun us s1 ⟨vs, H1, J, r, k, a, xs, ev, sa, q⟩ => by
    subst ev
    obtain ⟨ps, _, pa⟩ := sq_b J sa
    cases r with
    | cons ra r =>
      cases r
      cases ra
      refine enum_begins1 (begins_b k a ps.toArray) pa fun h' he ho kp => wpAny_pyIter_enum he ?_
      have la := pa.lt
      refine ⟨_, _, _, _, H1, rfl, J.kept kp, turn_enumB (Nat.succ_ne_self _) (Nat.ne_of_gt (Nat.lt_succ_of_lt la)) (Nat.ne_of_lt la), ⟨⟨_, he⟩, iterO_at ho⟩, fun c hc => ?_, q⟩
      have le : s1.heap.objs.size ≤ c := by
        rcases in2 hc with z | z <;> rw [z]
        · exact Nat.le_succ _
        · exact Nat.le_refl _
      exact J.fpOk le (J.hok.fresh le)
section
variable {K : PySem.W.Frag}
def numAny (d : PyData) : Option (List PyData) := match seqOf d with
  | some ds => some (numD 0 ds)
  | none => none
theorem iter_enumB {F : Fm} {L : List Addr} {H0 : Hp} {k : Bool} {a : Addr} {vs : List V} {xs : List PyData} (h1 : SqB K k (Msk (F.B ++ L) H0) a vs) (h2 : RpAll K (Msk (F.B ++ L) H0) vs xs) : Iter K F L H0 (IteB K k a) (numD 0 xs) where
  go := fun L' H e fr i d hd => by
    obtain ⟨x, hx, rfl⟩ := numD_get 0 xs i d hd
    obtain ⟨v, hv, rv⟩ := h2.get i x hx
    have sa : SqB K k H a vs := (h1.ex e).ex msk_le
    refine ⟨⟨vs, v, sa, hv⟩, fun z H' hz => ?_⟩
    obtain ⟨T, y, rfl, hT, rfl, f1⟩ := hz
    have e1 := (f1 vs sa).symm.trans hv
    cases e1
    rw [Nat.zero_add]
    exact ⟨Ex.new hT, new_tup (fr T hT) (.cons (.int _) (.cons (Rp.mono e _ _ rv) .nil)) hT⟩
  stop := fun L' H e i hi => by
    rw [numD_len] at hi
    exact ⟨vs, (h1.ex e).ex msk_le, by rw [h2.len]; exact hi⟩
theorem wi_enumB {te : TE} {φ : FE} (h : WE K te φ) : WI K (iEnumB K (tCons te tNil)) (fUnL numAny φ) := fun F L σ H δ ds δ' e R Q q => by
  obtain ⟨x, e1, e2⟩ := fUnL_some e
  refine h F L σ H δ x δ' e1 R _ fun v H1 s1 R1 d1 => ?_
  unfold numAny at e2
  split at e2
  · next xs hx =>
    cases e2
    obtain ⟨k, a, vs, rfl, h1, h2⟩ := seq_b d1 hx
    exact ⟨k, a, vs, rfl, h1.ex msk_le, q _ H1 s1 R1 (iter_enumB h1 h2)⟩
  · cases e2
end
end Sm
/-! sorted(x), x a tuple of alike data -/
namespace Sm
open PySem PySem.Spec PyProof.Rows L2 Evl RZ
section
variable {prog : Program} {w : World} {A : Around} {E : Value → Shared → Prop} {s : Shared}
/-- sorted(x): what x holds is collected, laid as a new list, and that is sorted -/
theorem sorted_col {x : Value} {vs : List Value} {Q : Value → Shared → Prop} (hL : vs.length ≤ sizeLine)
    (col : ∀ (B : Around) (Q' : List Value → Shared → Prop) (E' : Value → Shared → Prop), (∀ h' : Heap, (∀ b o, s.heap.get? b = some o → h'.get? b = some o) → Q' vs { s with heap := h' }) → wpAny (model prog w) B (collect x) Q' E' s)
    (fin : ∀ h' : Heap, (∀ b o, s.heap.get? b = some o → h'.get? b = some o) → ∃ κ : KeyKind, PySem.W.SortsAt prog w A.in1.in1 { s with heap := PySem.W.sortingHeap (h'.push (seqObj "list" vs.toArray 0)) h'.objs.size vs } κ vs ∧
      Q (.ref h'.objs.size) { s with heap := sortedHeap (h'.push (seqObj "list" vs.toArray 0)) h'.objs.size vs (PySem.W.sortVals κ false vs vs).toArray }) :
    wpAny (model prog w) A (call (.builtin "sorted") [x]) Q E s := by
  refine Calls.call_function_entry kind_sorted plain_sorted entry_sorted (args_sorted1 _) ?_
  unfold Builtin.«sorted»
  refine wpAny_bind (m := checkCount "sorted" 1 1 _) (wpAny_pure (wpAny_bind (col _ _ _ fun h' kp => wpAny_bind (wpAny_newList ?_ hL))))
  obtain ⟨κ, srt, q⟩ := fin h' kp
  have at_ : (h'.push (seqObj "list" vs.toArray 0)).get? h'.objs.size = some (seqObj "list" vs.toArray 0) := Heap.get?_push_size _ rfl
  refine wpAny_bind (wpAny_holding (wpAny_call_entry slot_list_sort ⟨_, at_, rfl⟩ entry_list_sort ?_ (args_list_sort _)))
  exact PySem.W.list_sort_vals (s := { s with heap := h'.push (seqObj "list" vs.toArray 0) }) at_ srt hL ⟨_, rfl, wpAny_pure ⟨_, rfl, q⟩⟩
end
section
variable {X : Cx}
def rSortedDT (K : PySem.W.Frag) : List V → Hp → VK → Prop := fun vs H Q => ∃ (a : Addr) (xs : List V) (ds : List PyData), vs = [V.ref a] ∧ SqT K H a xs ∧ DpAll K H xs ds ∧ PySem.W.AllAlike ds ∧ PySem.W.Sortable ds ∧ (∀ d, d ∈ ds → d.depth ≤ 60) ∧
  ∀ p, H p = none → Q (.ref p) (upd H p (.lst ((sortP xs ds).map Prod.fst)))
theorem cr_sortedDT (hu : X.A.units + 64 < cLine) : CallR X (.builtin "sorted") (rSortedDT X.K) := fun pins s σ H vs us Q I r ⟨a, xs, ds, ev, hs, hd, hal, hso, hdp, q⟩ => by
  subst ev
  obtain ⟨its, rv, hI, hz⟩ := I.tuple hs
  cases r with
  | cons r1 r2 =>
    cases r2
    cases r1
    have hlen : its.length = xs.length := rv.length.symm
    obtain ⟨as, hr⟩ := Dp.readsAll I ds xs its hd rv
    have hlen2 : xs.length = ds.length := by
      have := SeqAt.ReadsAll.length ds its as hr
      omega
    obtain ⟨o, ho, hc, n, hdt⟩ := id hI
    refine sorted_col (by rw [hlen]; exact hz) (fun B Q' E' k => wpAny_collect_seq a (.inr rfl) ho hc hdt k (by simp; omega)) fun h' kp => ?_
    have at_ : (h'.push (seqObj "list" its.toArray 0)).get? h'.objs.size = some (seqObj "list" its.toArray 0) := Heap.get?_push_size _ rfl
    have kq : ∀ b o, s.heap.get? b = some o → (h'.push (seqObj "list" its.toArray 0)).get? b = some o ∧ b ≠ h'.objs.size := fun b o e => ⟨Heap.get?_push_of_some _ (kp b o e), Nat.ne_of_lt (Heap.lt_size (kp b o e))⟩
    have hno : s.heap.get? h'.objs.size = none := by
      cases e : s.heap.get? h'.objs.size with
      | none => rfl
      | some o => exact absurd rfl (kq _ o e).2
    have hnH : H h'.objs.size = none := by
      cases e : H h'.objs.size with
      | none => rfl
      | some o => exact absurd ((I.hok _ o e).stay (fun b u _ z => kp b u z) (fun _ z => z) (fun _ _ z => z)).lt (Nat.lt_irrefl _)
    have e0 : PySem.W.EachIs (fun v d => ∃ as, Reads (PySem.W.sortingHeap (h'.push (seqObj "list" its.toArray 0)) h'.objs.size its) v d as) its ds := (each_of hr).mono fun v d ⟨as, z⟩ => ⟨as, Reads.keeps (fun b o e => PySem.W.sortingHeap_old (kq b o e).2 (kq b o e).1) z⟩
    refine ⟨PySem.W.dataKind _ ds, PySem.W.SortsAt.data e0 hal hso fun d hm => ?_, ?_⟩
    · have := hdp d hm
      show X.A.units + 1 + 1 + d.depth < cLine
      omega
    · generalize hH : PySem.W.sortingHeap (h'.push (seqObj "list" its.toArray 0)) h'.objs.size its = Hh at e0 ⊢
      have e1 := each_zip rv e0
      have ek : PySem.W.EachIs (fun v (p : V × PyData) => (PySem.W.dataKind Hh ds).keyOf v = some (PySem.W.keyToks p.2)) its (xs.zip ds) := PySem.W.EachIs.of_zip (by rw [List.length_zip, hlen, hlen2, Nat.min_self]) fun p hp => by
        obtain ⟨_, as', hr'⟩ := e1.zip p hp
        exact PySem.W.dataKind_some hal (List.of_mem_zip (List.of_mem_zip hp).2).2 hr'
      have es := PySem.W.sortVals_each (κ := PySem.W.dataKind Hh ds) (rev := false) (fun p : V × PyData => PySem.W.keyToks p.2) e1 ek
      have hv : Vals ((sortP xs ds).map Prod.fst) (PySem.W.sortVals (PySem.W.dataKind Hh ds) false its its) := vals_each es
      obtain ⟨m, hm⟩ := sortedHeap_at (out := (PySem.W.sortVals (PySem.W.dataKind Hh ds) false its its).toArray) at_
      refine ⟨.ref h'.objs.size, upd H h'.objs.size (.lst ((sortP xs ds).map Prod.fst)), I.laidN (t' := s.toks) (fun b o e => (sortedHeap_old (kq b o e).2 (Heap.lt_size (kq b o e).1)).trans (kq b o e).1) hno hnH ⟨by rw [List.length_map, sortP_len xs ds hlen2]; exact hz, _, m, hv, hm⟩, rfl, q _ hnH⟩
end
section
variable {K : PySem.W.Frag}
def dSortedT : PyData → Option (List PyData)
  | .tuple ds => dSorted (.list ds)
  | _ => none
theorem sort_facts {es : List PyData} (hk : sortOk es = true) : PySem.W.AllAlike es ∧ PySem.W.Sortable es ∧ ∀ d, d ∈ es → d.depth ≤ 60 ∧ PyData.canLay0 d = true := by
  unfold sortOk at hk
  rw [Bool.and_eq_true, Bool.and_eq_true] at hk
  obtain ⟨⟨k1, k2⟩, k3⟩ := hk
  unfold alikeB at k1
  simp only [List.all_eq_true] at k1 k3
  refine ⟨fun d hd d' hd' => k1 d hd d' hd', ?_, fun d hd => ?_⟩
  · rw [Bool.or_eq_true] at k2
    simp only [List.all_eq_true] at k2
    rcases k2 with k2 | k2
    · refine .inl fun d hd => ?_
      have := k2 d hd
      unfold tupNe at this
      split at this
      · exact ⟨_, _, rfl⟩
      · cases this
    · refine .inr fun d hd => ⟨fun z => ?_, fun xs z => ?_⟩
      · have := k2 d hd
        rw [z] at this
        cases this
      · have := k2 d hd
        rw [z] at this
        cases this
  · have := k3 d hd
    rw [Bool.and_eq_true] at this
    exact ⟨of_decide_eq_true this.1, this.2⟩
theorem r1_sortedT : R1L K (rSortedDT K) dSortedT := fun S H x a ds e b fr Q q => by
  cases a with
  | tuple es =>
    have e' : (if sortOk es = true then some (es.mergeSort leD) else none) = some ds := e
    by_cases hk : sortOk es = true
    · rw [if_pos hk] at e'
      cases e'
      rcases b with b | ⟨_, _, _, _, q0, _⟩
      · cases b with
        | @tup p vs _ h1 h2 =>
          obtain ⟨f1, f2, f3⟩ := sort_facts hk
          refine ⟨p, vs, es, rfl, ex_t msk_le h1, RpAll.dp es vs (canAll fun d hd => (f3 d hd).2) (RpAll.mono msk_le es vs h2), f1, f2, fun d hd => (f3 d hd).1, fun l hl => ?_⟩
          have hz := RpAll.zip (RpAll.mono (hide_ex (Ex.new (o := .lst ((sortP vs es).map Prod.fst)) hl) hl) es vs h2)
          have := RpAll.of_pairs (ps := sortP vs es) fun q hq => hz q (sortP_mem hq)
          rw [sortP_snd vs es h2.len] at this
          exact q l _ _ hl (Ex.new hl) upd_same this
      · cases q0
    · rw [if_neg hk] at e'
      cases e'
  | _ => cases e
end
end Sm
/-! name = {k: v for ..} on one row, the name a local one -/
namespace Sm
open PySem PySem.Spec PyProof.Rows L2 Evl RZ
theorem sw_dict {kx vx : Expr} {gs : List Comprehension} {scope : Scope} {pos py : Pos} {y : Str} {l : Nat} {env : Env} (hk : env.scope.kind = .function) (hy : env.scope.names.lookup y = some .local) (hl : (py.line == pos.line) = true)
    (ha : (scope.names.any fun (n, k) => n == y && (k == .local || k == .cell)) = false) : swapsWith (.DictComp kx vx gs scope pos) (some (.Name y py)) l env = pure true := by
  have hb : (env.blockKind == .function) = true := by
    have : env.blockKind = .function := by
      unfold Env.blockKind
      rw [hk]
      rfl
    rw [this]
    rfl
  have hq : (env.kindOf y == some .local) = true := by
    rw [show env.kindOf y = some .local from hy]
    rfl
  show (pure ((env.blockKind == .function && env.kindOf y == some .local && py.line == pos.line) && !(scope.names.any fun (n, k) => n == y && (k == .local || k == .cell))) : Sem Bool) = pure true
  rw [hb, hq, hl, ha]
  rfl
theorem ps_setDc {X : Cx} {i : Nat} {y : Str} {py : Pos} {kx vx tg iter : Expr} {ifs : List Expr} {scope : Scope} {own : List (Str × Nat)} {pos spos : Pos} {wi : TI} {g : TG} {tt : TT} {tk tv : TE} (hc : X.calm = true) (hN : X.N.Nodup) (hy : X.N[i]? = some y) (hyl : X.env.scope.names.lookup y = some .local)
    (hsw : swapsWith (.DictComp kx vx [⟨tg, iter, ifs, 0⟩] scope pos) (some (.Name y py)) spos.line X.env = pure true) (hi : PI X tg iter wi) (ok : BlkOk X.N X.env.scope scope own)
    (hg : ∀ (s : Shared) (H : Hp) (C : Addr) (cl : List (Str × Addr)) (fp : List Addr), PG (X.blk s H scope (compEnvC scope cl C X.env) fp) tg g)
    (ht : ∀ (s : Shared) (H : Hp) (C : Addr) (cl : List (Str × Addr)) (fp : List Addr), PTs (X.blk s H scope (compEnvC scope cl C X.env) fp) ifs tt)
    (hk : ∀ (s : Shared) (H : Hp) (C : Addr) (cl : List (Str × Addr)) (fp : List Addr), PE (X.blk s H scope (compEnvC scope cl C X.env) fp) kx tk)
    (he : ∀ (s : Shared) (H : Hp) (C : Addr) (cl : List (Str × Addr)) (fp : List Addr), PE (X.blk s H scope (compEnvC scope cl C X.env) fp) vx tv) (hs : ∀ x, foldedSetIterable iter X.env x = pure x := by intro _; rfl) :
    PS X (.Assign [.Name y py] (.DictComp kx vx [⟨tg, iter, ifs, 0⟩] scope pos) spos) (tAsg (tDc wi g tt tk tv (own.map (·.2))) (gName i)) where
  run := fun pins s σ H D I h => by
    rw [exec_Assign_Name_used _ _ _ _ hsw]
    refine wpAny_bind (wpAny_standAt (wpAny_bind (wpAny_bind (thn (dc_core (pos' := firstIterPos [⟨tg, iter, ifs, 0⟩] pos) (use := some (assign (.Name y py) X.env)) (Qf := fun _ s' => SP X pins D .next s') hc hN I hi ok hg ht hk he hs h ?_) fun _ s' q => wpAny_pure (wpAny_pure q)))))
    intro L C s' m H' J q hn f
    refine wpAny_assign_Name (store_ok2 (v := V.ref L) J hN hy (.inl hyl) rfl (fun s2 J2 hx => ?_) (.inr hyl))
    obtain ⟨a, sb, ha⟩ := hx
    have nC : C ≠ a := ha.elim (fun z => z ▸ f.2.1) fun z w => f.2.2.2.2.1 y a z w.symm
    exact ⟨m, hn.sameBut sb nC, fun h3 sb3 => ⟨_, H', J2.turned (t' := s2.toks) (fun b o nb e => (sb3.2 b nb).trans e) f.1 f.2.1 f.2.2.2.1 f.2.2.2.2.1 f.2.2.2.2.2, q⟩⟩
end Sm
namespace Sm
open PySem L2 PySem.Spec PyProof.Rows
/-! ### a set of texts: its payload by Froz.addTx, over Froz.TxOk; its table rises and can be walked -/
def addT (l : List Str) (y : Str) : List Str := if y ∈ l then l else y :: l
def metT : List Str → List Str → List Str
  | [], l => l
  | y :: ys, l => metT ys (addT l y)
theorem addT_len (l : List Str) (y : Str) : (addT l y).length ≤ l.length + 1 := by
  unfold addT
  split <;> simp
abbrev WalkOk (w : World) (t : SetTable) : Prop := Ris t.place.toList ∧ (w.params.followText "set-order" = true ∨ t.led = true)
theorem walk_tail {w : World} {t : SetTable} (h : WalkOk w t) (ep : Nat) (es : Array (Int × Value)) (b : Bool) : WalkOk w (Froz.tailTx ep es t b).2.2 := by
  unfold Froz.tailTx
  by_cases c : (!b && t.tooFull) = true
  · rw [if_pos c]
    exact ⟨relayAll_ris _ _ _, h.2.imp id fun z => (relayAll_led t es (SetTable.grown es.size)).trans z⟩
  · rw [if_neg c]
    exact h
theorem walk_add {w : World} {D : Froz.SD} (h : WalkOk w D.2.2) (k : Int) (v : Value) : WalkOk w (Froz.addTx k v D).2.2 := by
  have r := layNew_ris D.2.2 D.1 k v h.1
  have l := h.2.imp id fun z => (layNew_led D.2.2 D.1 k v).trans z
  unfold Froz.addTx
  refine walk_tail ?_ _ _ _
  split
  · exact ⟨r, l⟩
  · exact ⟨r, l⟩
def TSet (P : Program) (w : World) (h : Heap) (a : Addr) (l : List Str) : Prop := ∃ D : Froz.SD, h.get? a = some (Froz.sObj "set" D) ∧ Froz.TxOk P w D l ∧ l.Nodup ∧ WalkOk w D.2.2
section
variable {P : Program} {w : World} {A : Around} {E : Value → Shared → Prop} {s : Shared} {a : Addr} {l : List Str}
theorem TSet.at {h h' : Heap} (R : TSet P w h a l) (k : ∀ o, h.get? a = some o → h'.get? a = some o) : TSet P w h' a l := R.imp fun _ z => ⟨k _ z.1, z.2⟩
theorem tset_new {h : Heap} (e : h.get? a = some (Froz.sObj "set" (#[], 0, .fresh 0 0 (!w.params.followText "set-order")))) : TSet P w h a [] :=
  ⟨_, e, Froz.TxOk.nil rfl, List.nodup_nil, List.Pairwise.nil, by
    show w.params.followText "set-order" = true ∨ (!w.params.followText "set-order") = true
    rw [Bool.not_eq_true']
    exact (Bool.eq_false_or_eq_true _).imp id id⟩
/-- a text that is there already: the scan finds it, nothing is stored -/
theorem add_there {D : Froz.SD} {y : Str} {u : Tok} {Q : Bool → Shared → Prop} (at_ : s.heap.get? a = some (Froz.sObj "set" D)) (ok : Froz.TxOk P w D l) (small : l.length < scanBound) (hy : y ∈ l) (h : Q false s) :
    wpAny (model P w) A (setAddHashed a (.str y u) (hashStr w y)) Q E s := by
  have sz : D.1.size < scanBound := ok.sz ▸ small
  obtain ⟨e, he, ie⟩ := (ok.mem y).mp hy
  have found : ∃ j, List.findIdx? (fun e => (PySem.strKind P w).is y e.2) D.1.toList = some j := by
    cases z : List.findIdx? (fun e => (PySem.strKind P w).is y e.2) D.1.toList with
    | some j => exact ⟨j, rfl⟩
    | none => exact absurd ie (by rw [List.findIdx?_eq_none_iff.mp z e he]; exact Bool.false_ne_true)
  obtain ⟨j, ej⟩ := found
  unfold setAddHashed
  refine wpAny_holding ?_
  unfold setAddHashedIn
  refine wpAny_bind (wpAny_setState_of at_ rfl ok.fit ?_)
  simp only [byScan_of (x := Value.str y u) rfl sz ok.el, ↓reduceIte, setAddByScan]
  refine wpAny_bind (wpAny_bind (wpAny_rule (wpAny_bind (wpAny_setScan_of (knd := PySem.strKind P w) (k := y) (Froz.is_str y u) at_ rfl ok.fit ok.el ?_))))
  simp only [ej]
  exact wpAny_pure (wpAny_pure h)
theorem add_text {y : Str} {u : Tok} {Q : Bool → Shared → Prop} (R : TSet P w s.heap a l) (small : l.length + 1 < scanBound)
    (h : ∀ b h', Heap.SameBut a s.heap h' → TSet P w h' a (addT l y) → Q b { s with heap := h' }) : wpAny (model P w) A (setAddHashed a (.str y u) (hashStr w y)) Q E s := by
  obtain ⟨D, at_, ok, nd, wk⟩ := R
  by_cases hy : y ∈ l
  · refine add_there at_ ok (by omega) hy (h false s.heap (Heap.SameBut.refl a _) ?_)
    rw [show addT l y = l from if_pos hy]
    exact ⟨D, at_, ok, nd, wk⟩
  · refine Froz.add_x at_ ok hy small (h true _ (Heap.SameBut.update _ a _) ?_)
    rw [show addT l y = y :: l from if_neg hy]
    exact ⟨_, Froz.get_upd _ at_ rfl, Froz.add_ok u ok, List.nodup_cons.mpr ⟨hy, nd⟩, walk_add wk _ _⟩
end
section
variable {P : Program} {w : World} {A : Around} {R : Result → Shared → Prop} {it : Addr} {fp wr : List Addr} {G : Array GenState → Array GenState → Prop} {n : Nat} {Pv : Nat → Value → Prop} {St : Nat → Shared → Prop}
/-- the texts ys that are still to come go into the set, one by one -/
theorem fill (W : WalksS P w A.in1 it fp wr G n Pv St) (S : Addr) (far : S ∉ fp) (xs : List Str) (len : xs.length = n) (tx : ∀ i v, Pv i v → ∃ y t, xs[i]? = some y ∧ v = .str y t) :
    ∀ (ys l : List Str) (i : Nat) (s : Shared), xs.drop i = ys → i ≤ n → l.length + ys.length + 1 < scanBound → St i s → TSet P w s.heap S l →
      (∀ s', Moved (S :: wr) G s s' → TSet P w s'.heap S (metT ys l) → R (.ok (.ret .none)) s') → codeAny (model P w) A (.builtin "set.update.loop" ⟨[.ref S, .ref it], []⟩) R s := by
  have out : S ∉ wr := fun z => far (W.sub S z)
  intro ys
  induction ys with
  | nil =>
    intro l i s e hi _ hst hS hR
    have hn : i = n := by
      have := congrArg List.length e
      rw [List.length_drop, List.length_nil] at this
      omega
    subst hn
    refine codeAny_builtin PyProof.Rows.F.entry_set_update_loop ?_
    rw [Around.under_plainId PyProof.Rows.F.plain_set_update_loop]
    exact wpAny_bind (m := pyNext (.ref it)) (W.done s _ _ hst fun s' hm => wpAny_pure (hR s' (hm.mono fun _ => List.mem_cons_of_mem _) (hS.at fun o => hm.heap S o out)))
  | cons y ys ih =>
    intro l i s e hi small hst hS hR
    have lt : i < n := by
      have := congrArg List.length e
      rw [List.length_drop, List.length_cons] at this
      omega
    have ey : xs[i]? = some y := by
      have := congrArg (·[0]?) e
      simpa using this
    have e2 : xs.drop (i + 1) = ys := by
      have := congrArg (List.drop 1) e
      simpa [Nat.add_comm] using this
    have al := addT_len l y
    rw [List.length_cons] at small
    refine codeAny_builtin PyProof.Rows.F.entry_set_update_loop ?_
    rw [Around.under_plainId PyProof.Rows.F.plain_set_update_loop]
    refine wpAny_bind (m := pyNext (.ref it)) (W.item i s _ _ lt hst fun v s' hP hst' hm => ?_)
    obtain ⟨y', t, ey', rfl⟩ := tx i v hP
    obtain rfl : y' = y := Option.some.inj (ey'.symm.trans ey)
    refine wpAny_bind (m := holding [Value.str y' t] (setAdd S (.str y' t))) (wpAny_holding ?_)
    unfold setAdd
    refine wpAny_holding (wpAny_bind (wpAny_pyHash_str ?_))
    refine add_text (s := { s' with toks := s'.toks + 1 }) (hS.at fun o => hm.heap S o out) (by omega) fun b h' sb hS2 => ?_
    have keep : ∀ c o, c ≠ S → s'.heap.get? c = some o → h'.get? c = some o := fun c o hc e => (sb.2 c hc).trans e
    refine wpAny_pure ⟨plainId_quiet PyProof.Rows.F.plain_set_update_loop _, ih _ (i + 1) _ e2 lt (by omega) (W.frame _ s' _ _ hst' (Nat.le_succ _) fun c hc o => keep c o fun z => far (z ▸ hc)) hS2 fun s2 hm2 hS3 => ?_⟩
    exact hR s2 (Moved.trans W.gtrans ((hm.mono fun _ => List.mem_cons_of_mem _).then_heap (Nat.le_succ _) fun c o hc => keep c o fun z => hc (z ▸ List.mem_cons_self)) hm2) hS3
end
end Sm
namespace Sm
open PySem L2 PySem.Spec PyProof.Rows
abbrev noTexts (w : World) : Obj := Froz.sObj "set" (#[], 0, .fresh 0 0 (!w.params.followText "set-order"))
section
variable {P : Program} {w : World} {A : Around} {E : Value → Shared → Prop} {s : Shared}
theorem strs_get : ∀ {us : List Value} {xs : List Str}, StrsAre us xs → ∀ (i : Nat) (v : Value), us[i]? = some v → ∃ y t, xs[i]? = some y ∧ v = .str y t
  | _, _, .nil, i, v, h => by simp at h
  | _, _, .cons y t r, 0, v, h => ⟨y, t, rfl, by simpa using h.symm⟩
  | _, _, .cons _ _ r, i + 1, v, h => by simpa using strs_get r i v (by simpa using h)
/-- a call of the class set is its type's __call__ -/
theorem m1 {x : Value} {R : Result → Shared → Prop} (h : wpAny (model P w) (A.under (.builtin "type.__call__" ⟨[.type "set", x], []⟩)) (Builtin.«type.__call__» ⟨[.type "set", x], []⟩) (fun fin t => match fin with | .done f => R (.ok f) t | .again c => c.quiet = true ∧ codeAny (model P w) A c R t) (fun e t => R (.error e) t) s) :
    wpAny (model P w) (A.under (.call (.type "set") ⟨[x], []⟩)) ((model P w).den (.call (.type "set") ⟨[x], []⟩)) (fun fin t => match fin with | .done f => R (.ok f) t | .again c => c.quiet = true ∧ codeAny (model P w) A c R t) (fun e t => R (.error e) t) s :=
  wpAny_pure ⟨Code.quiet_builtin _ (by decide +kernel), codeAny_builtin PySem.F.entry_type_call h⟩
set_option maxHeartbeats 2000000 in
/-- set(x): what its __init__ does to the new set is what the call does -/
theorem set_by {x : Value} {Q : Value → Shared → Prop} (init : codeAny (model P w) A.in1 (.call (.builtin "set.__init__") ⟨[.ref s.heap.objs.size, x], []⟩) (wants (fun r t => r = .none ∧ Q (.ref s.heap.objs.size) t) E) { s with heap := s.heap.push (noTexts w) }) :
    wpAny (model P w) A (call (.type "set") [x]) Q E s := by
  have ⟨_, _, c1⟩ := PySem.F.called_set.mro
  have ⟨c2, c3, c4, c5, c6, c7⟩ : _ ∧ _ ∧ _ ∧ _ ∧ _ ∧ _ := ⟨PySem.F.called_set.made, PySem.F.called_set.sub, PySem.F.called_set.notType, PySem.F.called_set.canCreate, PySem.F.called_set.init.lookup, PySem.F.called_set.init.bind (.ref s.heap.objs.size)⟩
  have c8 := PySem.F.typeCall_set_1 x
  have c9 : Shared.TypeIs { s with heap := s.heap.push (noTexts w) } (.ref s.heap.objs.size) "set" := ⟨_, Heap.get?_push_size _ rfl, rfl⟩
  refine wpAny_call (codeAny_of_tree (m1 ?_))
  rw [Around.under_plain (weight_type_call_type "set" [x] []) rfl]
  repeat any_goals (first | assumption | (wp_step))
  refine codeAny_mono (code_set_led1 x (E := E) (Q₁ := fun v t => v = .ref s.heap.objs.size ∧ t = { s with heap := s.heap.push (noTexts w) }) ⟨rfl, rfl⟩) fun r t hr => ?_
  match r, hr with
  | .error e, hr => exact hr
  | .ok (.ret v), ⟨e1, e2⟩ =>
    subst e1
    subst e2
    repeat any_goals (first | assumption | (wp_step))
    refine codeAny_mono init fun r2 t2 hr2 => ?_
    match r2, hr2 with
    | .error e, hr => exact hr
    | .ok (.ret v), ⟨e3, q⟩ =>
      subst e3
      repeat any_goals (first | assumption | (wp_step))
end
end Sm
namespace Sm
open PySem L2 PySem.Spec PyProof.Rows
section
variable {P : Program} {w : World} {A : Around} {E : Value → Shared → Prop} {s : Shared}
set_option maxHeartbeats 2000000 in
/-- set(xs), xs a list of texts -/
theorem call_setT {l : Addr} {its : Array Value} {xs : List Str} {Q : Value → Shared → Prop} (calm : A.handled = none) (hl : s.heap.IsList l its) (hi : StrsAre its.toList xs) (small : xs.length + 1 < scanBound)
    (h : ∀ (h' : Heap) (tk : Nat), TSet P w h' s.heap.objs.size (metT xs []) → (∀ b o, s.heap.get? b = some o → h'.get? b = some o) → Q (.ref s.heap.objs.size) { s with heap := h', toks := tk }) :
    wpAny (model P w) A (call (Value.type "set") [Value.ref l]) Q E s := by
  have at0 : (s.heap.push (noTexts w)).get? s.heap.objs.size = some (noTexts w) := Heap.get?_push_size _ rfl
  have hl1 : (s.heap.push (noTexts w)).IsList l its := hl.push _
  have lt : l < s.heap.objs.size := by
    obtain ⟨o, ho, _⟩ := hl
    exact Heap.lt_size ho
  have sz1 : (s.heap.push (noTexts w)).objs.size = s.heap.objs.size + 1 := Heap.size_push ..
  have len : xs.length = its.size := by
    rw [← Array.length_toList]
    exact (StrsAre.length hi).symm
  refine set_by (codeAny_call_builtin PySem.F.called_set.init.plain PySem.F.entry_set_init (check_set_init_1 ⟨_, at0, rfl⟩ ?_))
  have t1 : Shared.TypeIs { s with heap := s.heap.push (noTexts w) } (.ref l) "list" := hl1.typeIs
  have t2 : Shared.TypeIs { s with heap := s.heap.push (noTexts w) } (.ref s.heap.objs.size) "set" := ⟨_, at0, rfl⟩
  have t3 := F.sub_list_set
  have t4 := F.sub_list_frozenset
  have t5 : (Value.type "list" == Value.type "dict") = false := by decide
  unfold Builtin.«set.__init__» Builtin.Frozenset.updateFrom noKeywords
  generalize keep : pyIter = walk
  wp_walk
  subst keep
  refine wpAny_pyIter_list hl1 (wpAny_bind (wpAny_runValue ?_))
  have apart : l ≠ (s.heap.push (noTexts w)).objs.size := sz1 ▸ Nat.ne_of_lt (Nat.lt_succ_of_lt lt)
  have far : s.heap.objs.size ∉ [(s.heap.push (noTexts w)).objs.size, l] := fun z => by
    rcases List.mem_cons.mp z with z | z
    · exact Nat.ne_of_lt (Nat.lt_succ_self _) (z.trans sz1)
    · exact Nat.ne_of_gt lt (List.mem_singleton.mp z)
  refine fill ((Walks.list (by simp [calm]) _ l apart its).toS) s.heap.objs.size far xs len (fun i v hv => strs_get hi i v (by rw [Array.getElem?_toList]; exact hv)) xs [] 0 _ rfl (Nat.zero_le _) (by simpa using small) ⟨⟨_, Heap.get?_push_size _ rfl, rfl, rfl⟩, hl1.push _⟩ (tset_new (Heap.get?_push_of_some _ at0)) fun s2 hm hS => ?_
  obtain ⟨h2, g2, d2, k2, o2⟩ := s2
  obtain ⟨e1, e2, e3⟩ : g2 = s.gens ∧ d2 = s.drawn ∧ o2 = s.os := ⟨hm.gens, hm.drawn, hm.os⟩
  subst e1 e2 e3
  refine wpAny_pure (wpAny_pure ⟨rfl, h h2 k2 hS fun b o e => ?_⟩)
  have hb := Heap.lt_size e
  refine hm.heap b o (fun z => ?_) (Heap.get?_push_of_some _ (Heap.get?_push_of_some _ e))
  rcases List.mem_cons.mp z with z | z
  · exact Nat.ne_of_lt hb z
  · exact Nat.ne_of_lt (Nat.lt_succ_of_lt hb) ((List.mem_singleton.mp z).trans sz1)
end
end Sm
set_option maxHeartbeats 1000000
namespace Sm
open PySem L2 Evl RZ PyProof.Rows
/-! ### sets of texts over the layer: len(set(xs)), sorted(set(xs)) -/
def leT (a b : Str) : Bool := PySem.W.sortLe (listOrd PyProof.Rows.itemOrd) false (fun y : Str => PySem.W.keyToks (.str y)) a b
theorem leT_eq (a b : Str) : leT a b = !decide (b.cps.toList < a.cps.toList) := by
  show (!PySem.W.dataLt (.str b) (.str a)) = _
  rw [PySem.W.dataLt_str]
theorem leT_anti {a b : Str} (h1 : leT a b = true) (h2 : leT b a = true) : a = b := by
  have := PyProof.Rows.KeyOrd.kle_antisymm (O := listOrd PyProof.Rows.itemOrd) (a := PySem.W.keyToks (.str a)) (b := PySem.W.keyToks (.str b)) (by
    have q : (!PySem.W.dataLt (.str b) (.str a)) = true := h1
    rw [Bool.not_eq_true'] at q
    exact q) (by
    have q : (!PySem.W.dataLt (.str a) (.str b)) = true := h2
    rw [Bool.not_eq_true'] at q
    exact q)
  rw [PySem.W.keyToks.eq_4, PySem.W.keyToks.eq_4] at this
  obtain ⟨a⟩ := a
  obtain ⟨b⟩ := b
  have e : a.toList = b.toList := by simpa using this
  rw [show a = b from by cases a; cases b; simpa using e]
def TSetO (P : Program) (w : World) (a : Addr) (l : List Str) : HO := .ext fun h => TSet P w h a l
section
variable {X : Cx}
theorem tset_laid {w : World} {P : Program} {H : Hp} {h : Heap} {a : Addr} {l : List Str} (R : TSet P w h a l) : ObjOk P w H h a (TSetO P w a l) := ⟨R, R.elim fun D z => ⟨_, z.1⟩, fun h1 h2 p k => TSet.at p k⟩
theorem tset_of {pins : List (Addr × Obj)} {σ : L2.St} {H : Hp} {s : Shared} {a : Addr} {l : List Str} (I : Inv X pins σ H s) (ha : H a = some (TSetO X.prog X.w a l)) : TSet X.prog X.w s.heap a l := (I.hok a _ ha).1
def rSetT (K : PySem.W.Frag) (P : Program) (w : World) : List V → Hp → VK → Prop := fun vs H Q => ∃ (l : Addr) (xs : List Str), vs = [V.ref l] ∧ SqL K H l (xs.map V.str) ∧ xs.length ≤ 4000 ∧ ∀ p, H p = none → Q (.ref p) (upd H p (TSetO P w p (metT xs [])))
theorem cr_setT (hc : X.calm = true) : CallR X (.type "set") (rSetT X.K X.prog X.w) := fun pins s σ H vs us Q I r ⟨l, xs, ev, hs, hn, q⟩ => by
  subst ev
  obtain ⟨eu, its, rv, hI, hlen, hz⟩ := list_arg I hs r
  subst eu
  refine call_setT (I.ok.hd hc) hI (by simpa using strsAre_of rv) (by unfold scanBound; omega) fun h' tk new keep => ?_
  exact ⟨.ref _, upd H s.heap.objs.size (TSetO X.prog X.w s.heap.objs.size (metT xs [])), I.laid (t' := tk) keep (Nat.le_refl _) (tset_laid new), rfl, q _ (I.hok.fresh (Nat.le_refl _))⟩
def rLenT (P : Program) (w : World) : List V → Hp → VK → Prop := fun vs H Q => ∃ (a : Addr) (l : List Str), vs = [V.ref a] ∧ H a = some (TSetO P w a l) ∧ l.length < scanBound ∧ Q (.int l.length) H
theorem cr_lenT : CallR X (.builtin "len") (rLenT X.prog X.w) := fun pins s σ H vs us Q I r ⟨a, l, ev, ha, small, q⟩ => by
  subst ev
  obtain ⟨D, at_, ok, nd, wk⟩ := tset_of I ha
  rw [Vals.ref1 r]
  have sz := ok.sz
  refine call_len_set at_ ⟨rfl, rfl, rfl⟩ rfl ok.fit (by unfold scanBound at small; omega) ⟨.int l.length, H, I.tok _, ⟨_, by rw [sz]⟩, q⟩
def rSortT (P : Program) (w : World) : List V → Hp → VK → Prop := fun vs H Q => ∃ (a : Addr) (xs : List Str), vs = [V.ref a] ∧ H a = some (TSetO P w a xs) ∧ xs.length < scanBound ∧ ∀ p, H p = none → Q (.ref p) (upd H p (.lst ((xs.mergeSort leT).map V.str)))
theorem perm_of_sub : ∀ {l k : List Str}, l.Nodup → (∀ x, x ∈ l → x ∈ k) → k.length ≤ l.length → k.Perm l
  | [], k, _, _, h => by
    obtain rfl : k = [] := List.eq_nil_of_length_eq_zero (by simpa using h)
    exact .refl _
  | x :: l, k, nd, sub, h => by
    obtain ⟨n1, n2⟩ := List.nodup_cons.mp nd
    have hx := sub x List.mem_cons_self
    refine (List.perm_cons_erase hx).trans ((perm_of_sub n2 (fun y hy => ?_) ?_).cons x)
    · have ne : y ≠ x := fun z => n1 (by rw [← z]; exact hy)
      exact (List.mem_erase_of_ne ne).mpr (sub y (List.mem_cons_of_mem _ hy))
    · rw [List.length_erase_of_mem hx]
      rw [List.length_cons] at h
      omega
theorem txt_each {h : Heap} : ∀ {us : List Value}, (∀ v ∈ us, ∃ y u, v = Value.str y u) → ∃ ys : List Str, PySem.W.EachIs (fun v y => ∃ u, v = Value.str y u) us ys
  | [], _ => ⟨[], .nil⟩
  | v :: us, g => by
    obtain ⟨y, u, e⟩ := g v List.mem_cons_self
    obtain ⟨ys, q⟩ := txt_each (h := h) fun v hv => g v (List.mem_cons_of_mem _ hv)
    exact ⟨y :: ys, .cons ⟨u, e⟩ q⟩
theorem each_reads {h : Heap} : ∀ {us : List Value} {ys : List Str}, PySem.W.EachIs (fun v y => ∃ u, v = Value.str y u) us ys → PySem.W.EachIs (fun v d => ∃ as, Reads h v d as) us (ys.map PyData.str)
  | _, _, .nil => .nil
  | _, _, .cons ⟨u, e⟩ q => .cons ⟨[], e ▸ .str _ _⟩ (each_reads q)
theorem each_key {h : Heap} {ds : List PyData} (hal : PySem.W.AllAlike ds) : ∀ {us : List Value} {ys : List Str}, PySem.W.EachIs (fun v y => ∃ u, v = Value.str y u) us ys → (∀ y, y ∈ ys → PyData.str y ∈ ds) → PySem.W.EachIs (fun v y => (PySem.W.dataKind h ds).keyOf v = some (PySem.W.keyToks (.str y))) us ys
  | _, _, .nil, _ => .nil
  | _, _, .cons ⟨u, e⟩ q, m => .cons (PySem.W.dataKind_some hal (m _ List.mem_cons_self) (e ▸ Reads.str _ _)) (each_key hal q fun y hy => m y (List.mem_cons_of_mem _ hy))
theorem each_vals : ∀ {us : List Value} {ys : List Str}, PySem.W.EachIs (fun v y => ∃ u, v = Value.str y u) us ys → Vals (ys.map V.str) us
  | _, _, .nil => .nil
  | _, _, .cons e q => .cons e (each_vals q)
theorem each_in : ∀ {us : List Value} {ys : List Str}, PySem.W.EachIs (fun v y => ∃ u, v = Value.str y u) us ys → ∀ {y : Str} {u : Tok}, Value.str y u ∈ us → y ∈ ys
  | _, _, .cons ⟨u', e⟩ q, y, u, h => by
    rcases List.mem_cons.mp h with z | z
    · rw [e] at z
      cases z
      exact List.mem_cons_self
    · exact List.mem_cons_of_mem _ (each_in q z)
theorem cr_sortT (hc : X.calm = true) (hu : X.A.units + 64 < cLine) : CallR X (.builtin "sorted") (rSortT X.prog X.w) := fun pins s σ H vs us Q I r ⟨a, xs, ev, ha, small, q⟩ => by
  subst ev
  obtain ⟨D, at_, ok, nd, wk⟩ := tset_of I ha
  rw [Vals.ref1 r]
  have sz : D.1.size < scanBound := ok.sz ▸ small
  refine Calls.call_function_entry kind_sorted plain_sorted entry_sorted (args_sorted1 _) ?_
  unfold Builtin.«sorted»
  refine wpAny_bind (m := checkCount "sorted" 1 1 _) (wpAny_pure (wpAny_bind (collect_set (A := X.A.in1) (I.ok.hd hc) ⟨_, at_, rfl, rfl⟩ ok.fit sz wk.1 wk.2 fun s1 ws k1 hz g1 o1 pm => ?_)))
  have hwl : ws.length = D.1.size := by rw [pm.length_eq, List.length_map, Array.length_toList]
  have hL : ws.length ≤ sizeLine := hwl ▸ fits_of_scanBound sz
  obtain ⟨ys, ey⟩ := txt_each (h := s1.heap) (us := ws) fun v hv => by
    obtain ⟨e, he, rfl⟩ := List.mem_map.mp (pm.mem_iff.mp hv)
    obtain ⟨⟨y, h1, _⟩, _⟩ := ok.el e he
    obtain ⟨u, h2⟩ := Value.isStrOf_shape h1
    exact ⟨y, u, h2⟩
  have py : ys.Perm xs := by
    refine perm_of_sub nd (fun y hy => ?_) (by rw [← ey.length, hwl, ok.sz]; exact Nat.le_refl _)
    obtain ⟨e, he, h1⟩ := (ok.mem y).mp hy
    obtain ⟨u, h2⟩ := Value.isStrOf_shape h1
    exact each_in ey (h2 ▸ pm.mem_iff.mpr (List.mem_map.mpr ⟨e, he, rfl⟩))
  have srt : ys.mergeSort leT = xs.mergeSort leT := by
    have tr : ∀ a b c : Str, leT a b = true → leT b c = true → leT a c = true := fun a b c h1 h2 => (PySem.W.sortLe_total (listOrd PyProof.Rows.itemOrd) false (fun y : Str => PySem.W.keyToks (.str y))).trans a b c h1 h2
    have to : ∀ a b : Str, (leT a b || leT b a) = true := fun a b => Bool.or_eq_true_iff.mpr ((PySem.W.sortLe_total (listOrd PyProof.Rows.itemOrd) false (fun y : Str => PySem.W.keyToks (.str y))).total a b)
    exact List.Perm.eq_of_pairwise (le := fun a b => leT a b = true) (fun a b _ _ h1 h2 => leT_anti h1 h2) (List.pairwise_mergeSort tr to _) (List.pairwise_mergeSort tr to _) (((List.mergeSort_perm _ _).trans py).trans (List.mergeSort_perm _ _).symm)
  refine wpAny_bind (wpAny_newList ?_ hL)
  have at1 : (s1.heap.push (seqObj "list" ws.toArray 0)).get? s1.heap.objs.size = some (seqObj "list" ws.toArray 0) := Heap.get?_push_size _ rfl
  have al : PySem.W.AllAlike (ys.map PyData.str) := fun d hd d' hd' => by
    obtain ⟨y, _, rfl⟩ := List.mem_map.mp hd
    obtain ⟨y', _, rfl⟩ := List.mem_map.mp hd'
    rfl
  have so : PySem.W.Sortable (ys.map PyData.str) := .inr fun d hd => by
    obtain ⟨y, _, rfl⟩ := List.mem_map.mp hd
    exact ⟨(nomatch ·), fun _ => (nomatch ·)⟩
  have S : PySem.W.SortsAt X.prog X.w X.A.in1.in1 { s1 with heap := PySem.W.sortingHeap (s1.heap.push (seqObj "list" ws.toArray 0)) s1.heap.objs.size ws } (PySem.W.dataKind (PySem.W.sortingHeap (s1.heap.push (seqObj "list" ws.toArray 0)) s1.heap.objs.size ws) (ys.map PyData.str)) ws :=
    PySem.W.SortsAt.data (each_reads ey) al so fun d hd => by
      obtain ⟨y, _, rfl⟩ := List.mem_map.mp hd
      have : (PyData.str y).depth ≤ 1 := by simp [PyData.depth]
      show X.A.units + 1 + 1 + _ < cLine
      omega
  have es2 := PySem.W.sortVals_each (κ := PySem.W.dataKind (PySem.W.sortingHeap (s1.heap.push (seqObj "list" ws.toArray 0)) s1.heap.objs.size ws) (ys.map PyData.str)) (rev := false) (fun y : Str => PySem.W.keyToks (.str y)) ey (each_key al ey fun y hy => List.mem_map.mpr ⟨y, hy, rfl⟩)
  have hv := each_vals es2
  have es3 : ys.mergeSort (PySem.W.sortLe (listOrd PyProof.Rows.itemOrd) false (fun y : Str => PySem.W.keyToks (.str y))) = xs.mergeSort leT := srt
  have hv2 : Vals ((xs.mergeSort leT).map V.str) (PySem.W.sortVals (PySem.W.dataKind (PySem.W.sortingHeap (s1.heap.push (seqObj "list" ws.toArray 0)) s1.heap.objs.size ws) (ys.map PyData.str)) false ws ws) := by
    rw [← es3]
    exact hv
  refine wpAny_bind (wpAny_holding (wpAny_call_entry slot_list_sort ⟨_, at1, rfl⟩ entry_list_sort (PySem.W.list_sort_vals at1 S hL ⟨_, rfl, ?_⟩) (args_list_sort _)))
  generalize PySem.W.sortVals (PySem.W.dataKind (PySem.W.sortingHeap (s1.heap.push (seqObj "list" ws.toArray 0)) s1.heap.objs.size ws) (ys.map PyData.str)) false ws ws = out at hv2 ⊢
  obtain ⟨c, hc2⟩ := sortedHeap_at (vs := ws) (out := out.toArray) at1
  have hn : H s1.heap.objs.size = none := I.hok.fresh hz
  have keep : ∀ b u, s.heap.get? b = some u → (sortedHeap (s1.heap.push (seqObj "list" ws.toArray 0)) s1.heap.objs.size ws out.toArray).get? b = some u := fun b u e => by
    have z := k1 b u e
    have lt := Heap.lt_size z
    rw [sortedHeap_old (Nat.ne_of_lt lt) (by rw [size_push']; exact Nat.lt_succ_of_lt lt)]
    exact Heap.get?_push_of_some _ z
  have len2 : ((xs.mergeSort leT).map V.str).length ≤ sizeLine := by
    rw [hv2.length, ← hv2.length, List.length_map, (List.mergeSort_perm _ _).length_eq, ← py.length_eq, ← ey.length]
    exact hL
  have J : Inv X pins σ (upd H s1.heap.objs.size (.lst ((xs.mergeSort leT).map V.str))) { s with heap := sortedHeap (s1.heap.push (seqObj "list" ws.toArray 0)) s1.heap.objs.size ws out.toArray, gens := s1.gens, drawn := s1.drawn, toks := s1.toks } :=
    I.call (ch := []) (Un.laid keep hz hn) (I.hok.laid keep hz ⟨len2, out, c, hv2, hc2⟩) (by rw [g1]; exact I.bare) (fun _ z => nomatch z)
  obtain ⟨hp1, gn1, dr1, tk1, os1⟩ := s1
  obtain rfl : os1 = s.os := o1
  exact wpAny_pure ⟨_, rfl, .ref hp1.objs.size, _, J, rfl, q _ hn⟩
end
end Sm
set_option maxHeartbeats 1000000
namespace Sm
open PySem L2 Evl RZ PyProof.Rows
/-! ### len(set(xs)), sorted(set(xs)) -/
def txts : List PyData → Option (List Str)
  | [] => some []
  | .str x :: ds => match txts ds with
    | some xs => some (x :: xs)
    | none => none
  | _ => none
theorem txts_map : ∀ {ds : List PyData} {xs : List Str}, txts ds = some xs → ds = xs.map PyData.str
  | [], xs, e => by
    cases e
    rfl
  | d :: ds, xs, e => by
    cases d with
    | str x =>
      unfold txts at e
      cases h : txts ds with
      | none =>
        rw [h] at e
        cases e
      | some ys =>
        rw [h] at e
        cases e
        rw [txts_map h]
        rfl
    | _ => cases e
theorem txts_of : ∀ xs : List Str, txts (xs.map PyData.str) = some xs
  | [] => rfl
  | x :: xs => by
    rw [List.map_cons]
    unfold txts
    rw [txts_of xs]
def dLenSet : PyData → Option PyData
  | .list ds => match txts ds with
    | some xs => if xs.length ≤ 4000 then some (.int (metT xs []).length) else none
    | none => none
  | _ => none
def dSortedSet : PyData → Option (List PyData)
  | .list ds => match txts ds with
    | some xs => if xs.length ≤ 4000 then some (((metT xs []).mergeSort leT).map PyData.str) else none
    | none => none
  | _ => none
def rLenSet (K : PySem.W.Frag) (P : Program) (w : World) : List V → Hp → VK → Prop := fun vs H Q => rSetT K P w vs H fun x H1 => rLenT P w [x] H1 Q
def rSoSet (K : PySem.W.Frag) (P : Program) (w : World) : List V → Hp → VK → Prop := fun vs H Q => rSetT K P w vs H fun x H1 => rSortT P w [x] H1 Q
section
variable {X : Cx}
theorem pe_lenSetT {a : Expr} {ta : TE} {p p2 q pos : Pos} (hc : X.calm = true) (hg : Gl X "len") (hm : X.mg "len" = none) (hv : bootBuiltins "len" = some (.builtin "len")) (hg2 : Gl X "set") (hm2 : X.mg "set" = none) (hv2 : bootBuiltins "set" = some (.type "set")) (ha : PE X a ta)
    (n1 : starEach [a] X.env = (false, eval a X.env) :: starEach [] X.env := by rfl) (n2 : starEach [Expr.Call (.Name "set" p2) [a] [] q] X.env = (false, eval (Expr.Call (.Name "set" p2) [a] [] q) X.env) :: starEach [] X.env := by rfl) :
    PE X (.Call (.Name "len" p) [.Call (.Name "set" p2) [a] [] q] [] pos) (tCB (rLenSet X.K X.prog X.w) (tCons ta tNil)) :=
  show PE X _ (tCB (rLenT X.prog X.w) (tCons (tCB (rSetT X.K X.prog X.w) (tCons ta tNil)) tNil)) from
    pe_callB cr_lenT hg hm hv (pa_cons (pe_callTy (cr_setT hc) hg2 hm2 hv2 (pa_cons ha pa_nil n1) (by decide) (by decide) n1) pa_nil n2) (by decide) (by decide) n2
theorem pe_sortedSet {a : Expr} {ta : TE} {p p2 q pos : Pos} (hc : X.calm = true) (hu : X.A.units + 64 < cLine) (hg : Gl X "sorted") (hm : X.mg "sorted" = none) (hv : bootBuiltins "sorted" = some (.builtin "sorted")) (hg2 : Gl X "set") (hm2 : X.mg "set" = none) (hv2 : bootBuiltins "set" = some (.type "set")) (ha : PE X a ta)
    (n1 : starEach [a] X.env = (false, eval a X.env) :: starEach [] X.env := by rfl) (n2 : starEach [Expr.Call (.Name "set" p2) [a] [] q] X.env = (false, eval (Expr.Call (.Name "set" p2) [a] [] q) X.env) :: starEach [] X.env := by rfl) :
    PE X (.Call (.Name "sorted" p) [.Call (.Name "set" p2) [a] [] q] [] pos) (tCB (rSoSet X.K X.prog X.w) (tCons ta tNil)) :=
  show PE X _ (tCB (rSortT X.prog X.w) (tCons (tCB (rSetT X.K X.prog X.w) (tCons ta tNil)) tNil)) from
    pe_callB (cr_sortT hc hu) hg hm hv (pa_cons (pe_callTy (cr_setT hc) hg2 hm2 hv2 (pa_cons ha pa_nil n1) (by decide) (by decide) n1) pa_nil n2) (by decide) (by decide) n2
end
theorem metT_len : ∀ (xs l : List Str), (metT xs l).length ≤ xs.length + l.length
  | [], l => by
    show l.length ≤ _
    simp
  | x :: xs, l => by
    have h1 := metT_len xs (addT l x)
    have h2 := addT_len l x
    show (metT xs (addT l x)).length ≤ _
    rw [List.length_cons]
    omega
theorem metT_small {xs : List Str} (h : xs.length ≤ 4000) : (metT xs []).length < scanBound := by
  have := metT_len xs []
  rw [List.length_nil] at this
  unfold scanBound
  omega
section
variable {K : PySem.W.Frag} {P : Program} {w : World}
theorem r1_lenSet : R1 K (rLenSet K P w) dLenSet := fun S H x a d e b fr Q q => by
  cases a with
  | list ds =>
    unfold dLenSet at e
    cases h : txts ds with
    | none =>
      simp only [h] at e
      cases e
    | some xs =>
      simp only [h] at e
      by_cases hn : xs.length ≤ 4000
      · rw [if_pos hn] at e
        cases e
        obtain ⟨p, vs, rfl, h1, h2⟩ := b.lst
        rw [txts_map h] at h2
        rw [RpAll.strs h2] at h1
        exact ⟨p, xs, rfl, sq_of h1, hn, fun l hl => ⟨l, _, rfl, upd_same, metT_small hn, q _ _ (Ex.new hl) (.int _)⟩⟩
      · rw [if_neg hn] at e
        cases e
  | _ => cases e
theorem r1_sortedSet : R1L K (rSoSet K P w) dSortedSet := fun S H x a ds e b fr Q q => by
  cases a with
  | list es =>
    unfold dSortedSet at e
    cases h : txts es with
    | none =>
      simp only [h] at e
      cases e
    | some xs =>
      simp only [h] at e
      by_cases hn : xs.length ≤ 4000
      · rw [if_pos hn] at e
        cases e
        obtain ⟨p, vs, rfl, h1, h2⟩ := b.lst
        rw [txts_map h] at h2
        rw [RpAll.strs h2] at h1
        refine ⟨p, xs, rfl, sq_of h1, hn, fun l hl => ⟨l, _, rfl, upd_same, metT_small hn, fun m hm => ?_⟩⟩
        have hm0 : H m = none := by
          by_cases e : m = l
          · subst e
            rw [upd_same] at hm
            cases hm
          · rwa [upd_ne e] at hm
        exact q m _ _ hm0 ((Ex.new hl).trans (Ex.new hm)) upd_same (RpAll.of_strs _)
      · rw [if_neg hn] at e
        cases e
  | _ => cases e
/-! ### upper, str -/
def dUpper : PyData → Option PyData
  | .str a => if a.length ≤ 100000 then some (.str (Txt.upper a)) else none
  | _ => none
theorem we_upper {te : TE} {φ : FE} (h : WE K te φ) : WE K (tM0 (fun x xs H Q => ∃ a, x = .str a ∧ xs = [] ∧ a.length ≤ 5592405 ∧ Q (.str (Txt.upper a)) H) te) (fUn dUpper φ) := fun F L σ H δ d δ' e R Q q => by
  obtain ⟨x, e1, e2⟩ := fUn_some e
  refine h F L σ H δ x δ' e1 R _ fun v H1 s1 R1 d1 => ?_
  cases d1 with
  | str a =>
    have e3 : (if a.length ≤ 100000 then some (PyData.str (Txt.upper a)) else none) = some d := e2
    by_cases hn : a.length ≤ 100000
    · rw [if_pos hn] at e3
      cases e3
      exact ⟨⟨a, rfl⟩, a, rfl, rfl, by omega, q _ H1 s1 R1 (.str _)⟩
    · rw [if_neg hn] at e3
      cases e3
  | _ => cases e2
def dStr : PyData → Option PyData
  | .int i => if i.natAbs.log2 < 1920 then some (.str (toString i)) else none
  | .bool b => some (.str (if b then "True" else "False"))
  | _ => none
def rStrA : List V → Hp → VK → Prop := fun xs H Q => (∃ i, xs = [.int i] ∧ i.natAbs.log2 < 1920 ∧ Q (.str (toString i)) H) ∨ ∃ b : Bool, xs = [.bl b] ∧ Q (.str (if b then "True" else "False")) H
theorem call_strA {X : Cx} : CallR X (.type "str") rStrA := fun pins s σ H xs us Q I r h => by
  rcases h with h | ⟨b, rfl, q⟩
  · exact call_str_int pins s σ H xs us Q I r h
  · obtain ⟨u, rfl, r1⟩ := vals1 r
    cases r1
    exact PySem.P.str_of_bool ⟨.str _, H, I.tok _, ⟨_, rfl⟩, q⟩
theorem r1_str : R1 K rStrA dStr := fun S H x a d e b fr Q q => by
  cases a with
  | int i =>
    have e3 : (if i.natAbs.log2 < 1920 then some (PyData.str (toString i)) else none) = some d := e
    by_cases hn : i.natAbs.log2 < 1920
    · rw [if_pos hn] at e3
      cases e3
      rcases b with b | ⟨_, _, _, _, z, _⟩
      · cases b
        exact .inl ⟨i, rfl, hn, q _ H (Ex.refl H) (.str _)⟩
      · cases z
    · rw [if_neg hn] at e3
      cases e3
  | bool k =>
    cases e
    rcases b with b | ⟨_, _, _, _, z, _⟩
    · cases b
      exact .inr ⟨k, rfl, q _ H (Ex.refl H) (.str _)⟩
    · cases z
  | _ => cases e
/-! ### bools among ints -/
def i01 (b : Bool) : Int := if b = true then 1 else 0
def dAddBI : PyData → PyData → Option PyData
  | .bool b, .int j => some (.int (i01 b + j))
  | _, _ => none
def dSubBI : PyData → PyData → Option PyData
  | .bool b, .int j => some (.int (i01 b - j))
  | _, _ => none
def rBI (g : Bool → Int → Int) : R2 := fun x y H Q => ∃ b j, x = .bl b ∧ y = .int j ∧ Q (.int (g b j)) H
theorem op_addBI {X : Cx} : OpR X (binaryOp .Add) (rBI fun b j => i01 b + j) := fun pins s σ H x y v u Q I rx ry h => by
  obtain ⟨b, j, rfl, rfl, q⟩ := h
  obtain ⟨t, rfl⟩ := ry
  cases rx
  exact PySem.IntBool.add_bool_int ⟨.int (i01 b + j), H, I.tok _, ⟨_, rfl⟩, q⟩
theorem op_subBI {X : Cx} : OpR X (binaryOp .Sub) (rBI fun b j => i01 b - j) := fun pins s σ H x y v u Q I rx ry h => by
  obtain ⟨b, j, rfl, rfl, q⟩ := h
  obtain ⟨t, rfl⟩ := ry
  cases rx
  exact PySem.IntBool.sub_bool_int ⟨.int (i01 b - j), H, I.tok _, ⟨_, rfl⟩, q⟩
theorem rd_addBI : RD K (rBI fun b j => i01 b + j) dAddBI := fun S H x y a b d e ra rb fr Q q => by
  cases ra <;> cases rb <;> first | (cases e; done) | skip
  cases e
  exact ⟨_, _, rfl, rfl, q _ H (Ex.refl H) (.int _)⟩
theorem rd_subBI : RD K (rBI fun b j => i01 b - j) dSubBI := fun S H x y a b d e ra rb fr Q q => by
  cases ra <;> cases rb <;> first | (cases e; done) | skip
  cases e
  exact ⟨_, _, rfl, rfl, q _ H (Ex.refl H) (.int _)⟩
abbrev rAddB (K : PySem.W.Frag) : R2 := fun x y H Q => rAddA K x y H Q ∨ rBI (fun b j => i01 b + j) x y H Q
abbrev dAddB := orF dAdd dAddBI
theorem op_addB {X : Cx} : OpR X (binaryOp .Add) (rAddB X.K) := op_addA.or op_addBI
theorem rd_addB : RD K (rAddB K) dAddB := rd_addA.or rd_addBI
abbrev rSubB : R2 := fun x y H Q => rI0 (fun i j => .int (i - j)) x y H Q ∨ rBI (fun b j => i01 b - j) x y H Q
abbrev dSubB := orF dSub dSubBI
theorem op_subB {X : Cx} : OpR X (binaryOp .Sub) rSubB := op_sub.or op_subBI
theorem rd_subB : RD K rSubB dSubB := rd_sub.or rd_subBI
def dNegB : PyData → Option PyData
  | .int i => some (.int (-i))
  | .bool b => some (.int (-i01 b))
  | _ => none
def rNegB : V → Hp → VK → Prop := fun x H Q => (∃ i, x = .int i ∧ Q (.int (-i)) H) ∨ ∃ b, x = .bl b ∧ Q (.int (-i01 b)) H
theorem gives_negB (b : Bool) : Gives (Builtin.«int.__neg__» ⟨[.bool b], []⟩) (.int (-i01 b)) := .of_wp fun M A E s Q h => by
  obtain ⟨hp, g, d, tk, os⟩ := s
  wp_walk
  exact ⟨_, rfl, h⟩
theorem un_negB {X : Cx} : UnR X (unaryOp .USub) rNegB := fun pins s σ H x v Q I rx h => by
  rcases h with h | ⟨b, rfl, q⟩
  · exact un_neg pins s σ H x v Q I rx h
  · cases rx
    exact unaryOp_gives (op := .USub) (PySem.typeIs_bool s b) rfl PySem.F.slot_bool_neg PySem.F.entry_int_neg (PySem.F.args_int_neg_1 _) (gives_negB b) ⟨.int (-i01 b), H, I.tok _, ⟨_, rfl⟩, q⟩
theorem we_negB {ta : TE} {φ : FE} (ha : WE K ta φ) : WE K (tUn rNegB ta) (fUn dNegB φ) := fun F L σ H δ d δ' e R Q q => by
  obtain ⟨x, e1, e2⟩ := fUn_some e
  refine ha F L σ H δ x δ' e1 R _ fun v H1 s1 R1 d1 => ?_
  cases d1 <;> cases e2
  · exact .inr ⟨_, rfl, q _ H1 s1 R1 (.int _)⟩
  · exact .inl ⟨_, rfl, q _ H1 s1 R1 (.int _)⟩
end
end Sm
set_option maxHeartbeats 1000000
namespace Sm
open PySem L2 Evl RZ PyProof.Rows
/-! ### x in t, x data of any depth, t a tuple of shallow data -/
def rInT (K : PySem.W.Frag) : R2 := fun x y H Q => ∃ d ds, Dp K H x d ∧ Dp K H y (.tuple ds) ∧ d.canLay0 = true ∧ PyData.canLayAll0 ds = true ∧ PyData.depthAll ds ≤ 3 ∧ Q (.bl (ds.any fun z => PyData.eqv z d)) H
theorem op_inT {X : Cx} (hu : X.A.units + 64 < cLine) : OpR X (compareOp .In) (rInT X.K) := fun pins s σ H x y v u Q I rx ry ⟨d, ds, hd, he, cd, ce, dp, q⟩ => by
  obtain ⟨as, r1⟩ := Dp.reads I d x v hd rx
  obtain ⟨bs, r2⟩ := Dp.reads I (.tuple ds) y u he ry
  exact SeqAt.in_tuple_reads r2 r1 ce cd (by omega) ⟨.bl _, H, I, rfl, q⟩
def dInT : PyData → PyData → Option PyData
  | a, .tuple ds => if a.canLay0 = true ∧ PyData.canLayAll0 ds = true ∧ PyData.depthAll ds ≤ 3 then some (.bool (ds.any fun z => PyData.eqv z a)) else none
  | _, _ => none
section
variable {K : PySem.W.Frag}
theorem rd_inT : RD K (rInT K) dInT := fun S H x y a b d e ra rb fr Q q => by
  cases b with
  | tuple ds =>
    have e' : (if a.canLay0 = true ∧ PyData.canLayAll0 ds = true ∧ PyData.depthAll ds ≤ 3 then some (PyData.bool (ds.any fun z => PyData.eqv z a)) else none) = some d := e
    by_cases h : a.canLay0 = true ∧ PyData.canLayAll0 ds = true ∧ PyData.depthAll ds ≤ 3
    · rw [if_pos h] at e'
      cases e'
      exact ⟨a, ds, Rp.dp a x h.1 (Rp.mono msk_le a x ra), Rp.dp _ y (by simpa [PyData.canLay0] using h.2.1) (Rp.mono msk_le _ y rb), h.1, h.2.1, h.2.2, q _ H (Ex.refl H) (.bl _)⟩
    · rw [if_neg h] at e'
      cases e'
  | _ => cases a <;> cases e
end
/-! ### t[::-1] of a tuple that is not empty -/
theorem back_places (n : Nat) (h : 0 < n) : Builtin.Slice.slicePlaces ((n : Int) - 1) (-1) (-1) = n := by
  unfold Builtin.Slice.slicePlaces
  rw [if_neg (by decide), if_pos (by omega)]
  simp
theorem filt_some {α β : Type} {f : α → Option β} {g : α → β} : ∀ {l : List α}, (∀ k, k ∈ l → f k = some (g k)) → l.filterMap f = l.map g
  | [], _ => rfl
  | k :: l, h => by
    rw [List.filterMap_cons, h k List.mem_cons_self, List.map_cons, filt_some fun j hj => h j (List.mem_cons_of_mem _ hj)]
theorem back_pick (vs : Array Value) : ((List.range vs.size).filterMap fun (k : Nat) => vs[((vs.size : Int) - 1 + (k : Int) * -1).toNat]?).toArray = vs.toList.reverse.toArray := by
  have all : (List.range vs.size).filterMap (fun (k : Nat) => vs[((vs.size : Int) - 1 + (k : Int) * -1).toNat]?) = (List.range vs.size).map fun k => (vs.toList.reverse)[k]?.getD Value.none := by
    refine filt_some fun k hk => ?_
    rw [List.mem_range] at hk
    have e : ((vs.size : Int) - 1 + (k : Int) * -1).toNat = vs.size - 1 - k := by omega
    have lt : vs.size - 1 - k < vs.size := by omega
    rw [e, List.getElem?_reverse (by simpa using hk), Array.length_toList, Array.getElem?_toList, Array.getElem?_eq_getElem lt]
    rfl
  rw [all]
  congr 1
  refine List.ext_getElem? fun i => ?_
  rw [List.getElem?_map]
  by_cases hi : i < vs.size
  · have lt : i < vs.toList.reverse.length := by simpa using hi
    rw [List.getElem?_range hi, List.getElem?_eq_getElem lt]
    simp [List.getElem?_eq_getElem lt]
  · rw [List.getElem?_eq_none (by simpa using hi), List.getElem?_eq_none (by simpa using hi)]
    rfl
section
variable {P : Program} {w : World} {A : Around} {E : Value → Shared → Prop} {s : Shared}
theorem applied_back {sl : Addr} {t : Tok} {n : Nat} {Q : Int × Int × Nat → Shared → Prop} (hs : s.heap.IsSliceOf sl .none .none (.int (-1) t)) (hn : 0 < n) (h : Q ((n : Int) - 1, -1, n) s) : wpAny (model P w) A (Builtin.Slice.sliceApplied (.ref sl) (pure (n : Int))) Q E s := by
  have ⟨o, at_, _, da⟩ := hs
  unfold Builtin.Slice.sliceApplied Builtin.Slice.sliceFields
  refine wpAny_bind (wpAny_bind (wpAny_field at_ da (x := .none) rfl (wpAny_bind (wpAny_field at_ da (x := .none) rfl (wpAny_bind (wpAny_field at_ da (x := .int (-1) t) rfl (wpAny_pure ?_)))))))
  refine wpAny_bind (slicePart_int ?_)
  show wpAny _ _ (if ((-1 : Int) == 0) = true then _ else _) _ _ s
  rw [if_neg (by decide)]
  refine wpAny_bind (slicePart_none (wpAny_bind (slicePart_none (wpAny_bind (wpAny_pure (wpAny_pure ?_))))))
  show Q ((n : Int) - 1, -1, Builtin.Slice.slicePlaces ((n : Int) - 1) (-1) (-1)) s
  rw [back_places n hn]
  exact h
theorem item_back {a sl : Addr} {vs : Array Value} {t : Tok} {Q : Value → Shared → Prop} (ht : IsTup s.heap a vs) (hs : s.heap.IsSliceOf sl .none .none (.int (-1) t)) (hn : 0 < vs.size) (hz : vs.size ≤ sizeLine)
    (h : Q (.ref s.heap.objs.size) { s with heap := s.heap.push { cls := .type "tuple", data := .seq vs.toList.reverse.toArray } }) : wpAny (model P w) A (getItem (.ref a) (.ref sl)) Q E s := by
  have ts : s.TypeIs (.ref sl) "slice" := hs.elim fun o z => ⟨o, z.1, z.2.1⟩
  unfold getItem
  try with_reducible refine wpAny_holding ?_
  try refine wpAny_bind (wpAny_pure ?_)
  refine wpAny_bind (wpAny_sequenceKey ht.typeIs (by decide) (wpAny_bind (wpAny_callSpecial?_slot (name := Str.ofString "__getitem__") ht.typeIs PyProof.Rows.slot_tuple_getitem (wpAny_call_entry PyProof.Rows.slot_tuple_getitem ht.typeIs entry_tuple_getitem ?_ (args_tuple_getitem _ _)))))
  refine wpAny_bind (m := Builtin.Tuple.tupleItemsOf (.ref a)) (tupleItemsOf_ ht (wpAny_bind (wpAny_typeOf ts ?_)))
  rw [if_pos (by decide)]
  refine wpAny_bind (applied_back hs hn ?_)
  have no : ¬ ((((vs.size : Int) - 1 == 0) && ((-1 : Int) == 1) && (vs.size == vs.size)) = true) := by simp
  show wpAny _ _ (if ((((vs.size : Int) - 1 == 0) && ((-1 : Int) == 1) && (vs.size == vs.size)) = true) then _ else _) _ _ s
  rw [if_neg no, back_pick]
  have ok : sizeOk (.seq vs.toList.reverse.toArray) := by
    show vs.toList.reverse.toArray.size ≤ sizeLine
    simpa using hz
  first
    | exact wpAny_bind (m := Builtin.Tuple.tupleExact _) (wpAny_newObj_type (wpAny_pure ⟨_, rfl, wpAny_pure h⟩) ok)
    | exact wpAny_bind (wpAny_bind (m := Builtin.Tuple.tupleExact _) (wpAny_newObj_type (wpAny_pure (wpAny_pure ⟨_, rfl, wpAny_pure h⟩)) ok))
    | exact wpAny_bind (wpAny_bind (m := Builtin.Tuple.tupleExact _) (wpAny_newObj_type (wpAny_pure ⟨_, rfl, wpAny_pure h⟩) ok))
end
def tRevT (K : PySem.W.Frag) (te : TE) : TE := fun σ H Q => te σ H fun x H1 => ∃ a xs, x = .ref a ∧ SqT K H1 a xs ∧ xs ≠ [] ∧ ∀ p, H1 p = none → Q (.ref p) (upd H1 p (.tup xs.reverse))
theorem pe_revT {X : Cx} {e : Expr} {te : TE} {k : Nat} {p1 p2 p3 pos : Pos} (he : PE X e te) : PE X (.Subscript e (.Slice none none (some (.UnaryOp .USub (.Constant (.int 1) k p1) p2)) p3) pos) (tRevT X.K te) := ⟨fun pins s σ H Q I h => by
  have st : PO X (some (.UnaryOp .USub (.Constant (.int 1) k p1) p2)) (tPart (tUn (rU fun i => .int (-i)) (tC (.int 1)))) := po_some (pe_un un_neg pe_int)
  refine Subscript_ (thn (he.run pins s σ H _ I h) fun v s1 ⟨x, H1, I1, r1, a, xs, ex, hx, ne, q⟩ => ?_)
  subst ex
  cases r1
  refine wpAny_Slice (evalPart_none_step (evalPart_none_step (thn (st.run pins s1 σ H1 (fun o H2 => o = some (-1) ∧ H2 = H1) I1 ⟨1, rfl, -1, rfl, rfl, rfl⟩) fun vs s2 ⟨o, H2, I2, pt, eo, e2⟩ => ?_)))
  subst eo e2
  cases pt with
  | int i t =>
    have I3 : Inv X pins σ H2 { s2 with heap := s2.heap.push { cls := .type "slice", data := .fields #[.none, .none, .int (-1) t] } } := I2.kept (t' := s2.toks) fun _ _ => Heap.get?_push_of_some _
    obtain ⟨its, r, tup, hz⟩ := I3.tuple hx
    have len := r.length
    have pos : 0 < its.toArray.size := by
      rw [List.size_toArray, ← len]
      exact List.length_pos_iff.mpr ne
    show wpAny _ _ (subscriptTail _ _ (.ref a) (.ref s2.heap.objs.size)) _ _ _
    refine tail_any (ops := [.ref a, .ref s2.heap.objs.size]) tup.typeIs PyProof.Rows.slot_tuple_getitem.lookup (item_back tup (Heap.IsSliceOf.new _ _ _ _) pos (by rw [List.size_toArray, ← len]; exact hz) ?_) (by with_unfolding_all rfl)
    refine ⟨.ref _, _, I3.laid (t' := s2.toks) (o := .tup xs.reverse) (fun _ _ => Heap.get?_push_of_some _) (Nat.le_refl _) ?_, rfl, q _ (I3.hok.fresh (Nat.le_refl _))⟩
    exact ⟨by rw [List.length_reverse]; exact hz, its.reverse, r.reverse, IsTup.new _ _⟩⟩
section
variable {K : PySem.W.Frag}
def dRevT : PyData → Option PyData
  | .tuple [] => none
  | .tuple (d :: ds) => some (.tuple (d :: ds).reverse)
  | _ => none
theorem we_revT {te : TE} {φ : FE} (h : WE K te φ) : WE K (tRevT K te) (fUn dRevT φ) := fun F L σ H δ d δ' e R Q q => by
  obtain ⟨x, e1, e2⟩ := fUn_some e
  refine h F L σ H δ x δ' e1 R _ fun v H1 s1 R1 d1 => ?_
  cases d1 with
  | @tup a vs ds h1 h2 =>
    cases ds with
    | nil => cases e2
    | cons d0 ds =>
      cases e2
      refine ⟨a, vs, rfl, ex_t msk_le h1, fun z => ?_, fun p hp => ?_⟩
      · have := h2.len
        rw [z] at this
        cases this
      · exact q _ _ (s1.trans (Stp.of_ex (Ex.new hp))) (R1.ex (Ex.new hp)) (new_tup (R1.fresh hp) h2.rev hp)
  | _ => cases e2
/-! ### a, b, c = xs, xs a list -/
def gTl (n : Nat) (η : FGs) : FG := fun d δ => match d with
  | .list ds => if ds.length = n then η ds δ else none
  | _ => none
theorem wg_unl {n : Nat} {gs : TGs} {js : List Nat} {η : FGs} (h : WGs K gs js η) : WG K (gUnl K n gs) js (gTl n η) := fun F L σ H δ v d δ' e R r Q q => by
  cases r with
  | @lst a vs ds h1 h2 =>
    have e' : (if ds.length = n then η ds δ else none) = some δ' := e
    by_cases hn : ds.length = n
    · rw [if_pos hn] at e'
      exact ⟨a, vs, rfl, sq_of (msk_some h1).2, by rw [h2.len]; exact hn, h F L σ H δ vs ds δ' e' R h2 Q q⟩
    · rw [if_neg hn] at e'
      cases e'
  | _ => cases e
/-! ### return a if t else b -/
theorem ws_retIf {tt : TT} {ta tb : TE} {ws vs : List Nat} {τ : FT} {φ ψ : FS} (h : WT K tt τ) (h1 : WS K (tRet ta) ws φ) (h2 : WS K (tRet tb) vs ψ) : WS K (tRet (tIf tt ta tb)) (ws ++ vs) (sIf τ φ ψ) := ws_if h h1 h2
/-! ### xs[a], xs[b] = (xs[b], xs[a]) -/
def sSwap (i ja jb : Nat) : FS := fun δ => match ownAt δ i with
  | some ds => match δ[ja]? with
    | some (.dat (.int a)) => match δ[jb]? with
      | some (.dat (.int b)) => match ixN ds.length a with
        | some na => match ixN ds.length b with
          | some nb => match ds[na]? with
            | some x => match ds[nb]? with
              | some y => some (.nx (setOwn δ i ((ds.set na y).set nb x)))
              | none => none
            | none => none
          | none => none
        | none => none
      | _ => none
    | _ => none
  | none => none
theorem ws_swap {i ja jb : Nat} : WS K (tAsg (tTup (tCons (tOp (rIx K) (tVar i) (tVar jb)) (tCons (tOp (rIx K) (tVar i) (tVar ja)) tNil))) (gTup K 2 (gCons (gSub (tVar i) (tVar ja) rSetL) (gCons (gSub (tVar i) (tVar jb) rSetL) gNil)))) [] (sSwap i ja jb) := fun F L σ H δ o e R D k => by
  unfold sSwap at e
  split at e
  case h_2 => cases e
  next ds e0 =>
  split at e
  case h_2 => cases e
  next a e1 =>
  split at e
  case h_2 => cases e
  next b e2 =>
  split at e
  case h_2 => cases e
  next na e3 =>
  split at e
  case h_2 => cases e
  next nb e4 =>
  split at e
  case h_2 => cases e
  next x e5 =>
  split at e
  case h_2 => cases e
  next y e6 =>
  cases e
  obtain ⟨ev, l, vs, he, hm, hs, hl, h1, hr⟩ := own_at R e0
  obtain ⟨va, sa, ra⟩ := R.at_ ja _ e1
  obtain ⟨vb, sb, rb⟩ := R.at_ jb _ e2
  cases ra
  cases rb
  obtain ⟨vx, ex, rx⟩ := hr.get na _ e5
  obtain ⟨vy, ey, ry⟩ := hr.get nb _ e6
  have ia : ixN vs.length a = some na := by rw [hr.len]; exact e3
  have ib : ixN vs.length b = some nb := by rw [hr.len]; exact e4
  have aa : atI vs a = some vx := by
    unfold atI
    rw [ia]
    exact ex
  have ab : atI vs b = some vy := by
    unfold atI
    rw [ib]
    exact ey
  refine ⟨_, hs, _, sb, .inl ⟨l, vs, b, vy, rfl, rfl, sq_of h1, ab, _, hs, _, sa, .inl ⟨l, vs, a, vx, rfl, rfl, sq_of h1, aa, sz_of (show 2 ≤ 100000 by omega), fun p hp => ?_⟩⟩⟩
  have lp : l ≠ p := fun z => by
    rw [z, hp] at h1
    cases h1
  have R1 := R.ex (Ex.new (o := .tup [vy, vx]) hp)
  have h1p : (upd H p (.tup [vy, vx])) l = some (.lst vs) := by rw [upd_ne lp]; exact h1
  refine ⟨p, [vy, vx], rfl, st_of upd_same, rfl, vy, [vx], rfl, _, hs, _, sa, l, vs, a, na, rfl, rfl, h1p, ia, vx, [], rfl, _, hs, _, sb, l, vs.set na vy, b, nb, rfl, rfl, upd_same, by rw [List.length_set]; exact ib, rfl, ?_⟩
  have x1 : Ex H (upd H p (.tup [vy, vx])) := Ex.new hp
  have hr1 := RpAll.mono (ex_msk x1) ds vs hr
  have rx1 := Rp.mono (ex_msk x1) _ vx rx
  have ry1 := Rp.mono (ex_msk x1) _ vy ry
  obtain ⟨R2, s2⟩ := R1.upd1 he hm hs hl ((hr1.set na ry1).set nb rx1)
  rw [show upd (upd (upd H p (.tup [vy, vx])) l (.lst (vs.set na vy))) l (.lst ((vs.set na vy).set nb vx)) = upd (upd H p (.tup [vy, vx])) l (.lst ((vs.set na vy).set nb vx)) from by
    funext c
    by_cases z : c = l
    · rw [z, upd_same, upd_same]
    · rw [upd_ne z, upd_ne z, upd_ne z]]
  exact k L σ _ (((Stp.of_ex x1).trans s2).s R R2) R2 fun _ _ => rfl
end
end Sm
set_option maxHeartbeats 2000000
namespace Sm
open PySem L2 Evl RZ
section
variable {K : PySem.W.Frag}
/-! ### [e for g in xs if t for g1 in ys if t1] -/
theorem EnvR.backM {F : Fm} {L : List Addr} {σ σ2 : St} {H H4 : Hp} {δ δ4 : En} {vs : List Nat} (R : EnvR K F L σ H δ) (x : Ex (Msk (F.B ++ L) H) (Msk (F.B ++ L) H4)) (R4 : EnvR K F L σ2 H4 δ4) (hk : ∀ i, ¬ i ∈ vs → σ2[i]? = σ[i]?) : EnvR K F L σ H4 (backE vs 0 δ δ4) where
  len := by rw [backE_len, R.len]
  at_ := fun i e h => by
    rcases backE_get vs 0 δ δ4 i e h with rfl | ⟨hm, h1⟩ | ⟨h1, h2, _⟩
    · trivial
    · have := R.at_ i e h1
      cases e with
      | un => trivial
      | dat d => exact this.imp fun v z => ⟨z.1, Rp.mono x d v z.2⟩
      | _ => cases hm
    · rw [Nat.zero_add] at h1
      have := R4.at_ i e h2
      rw [hk i h1] at this
      exact this
  dis := fun i j l e e' hij h h' m m' s1 s2 => by
    rcases backE_get vs 0 δ δ4 i e h with rfl | ⟨hm, _⟩ | ⟨h1, h2, _⟩
    · cases m
    · rw [hm] at m
      cases m
    · rcases backE_get vs 0 δ δ4 j e' h' with rfl | ⟨hm, _⟩ | ⟨k1, k2, _⟩
      · cases m'
      · rw [hm] at m'
        cases m'
      · rw [Nat.zero_add] at h1 k1
        exact R4.dis i j l e e' hij h2 k2 m m' (by rw [hk i h1]; exact s1) (by rw [hk j k1]; exact s2)
  al := R4.al
  mb := R.mb
  lb := R.lb
def compL2 (vs : List Nat) (γ : FG) (τ : FT) (φ1 : FL) (vs1 : List Nat) (γ1 : FG) (τ1 : FT) (ε : FE) : List PyData → En → Option (List PyData × En)
  | [], δ => some ([], δ)
  | d :: ds, δ => match γ d (wipeE δ vs) with
    | some δ2 => match τ δ2 with
      | some (true, δ3) => match φ1 δ3 with
        | some (es, δ4) => if es.length ≤ 100 then (match compL vs1 γ1 τ1 ε es δ4 with
          | some (ys, δ5) => match compL2 vs γ τ φ1 vs1 γ1 τ1 ε ds (backE vs 0 δ δ5) with
            | some (zs, δ6) => some (ys ++ zs, δ6)
            | none => none
          | none => none) else none
        | none => none
      | some (false, δ3) => compL2 vs γ τ φ1 vs1 γ1 τ1 ε ds (backE vs 0 δ δ3)
      | none => none
    | none => none
def fLc2 (φ : FL) (vs : List Nat) (γ : FG) (τ : FT) (φ1 : FL) (vs1 : List Nat) (γ1 : FG) (τ1 : FT) (ε : FE) : FL := fun δ => match φ δ with
  | some (ds, δ1) => if ds.length ≤ 300 then compL2 vs γ τ φ1 vs1 γ1 τ1 ε ds δ1 else none
  | none => none
theorem wl_lc2 {wi wi1 : TI} {g g1 : TG} {tt tt1 : TT} {te : TE} {vs js vs1 js1 : List Nat} {φ φ1 : FL} {γ γ1 : FG} {τ τ1 : FT} {ε : FE} (hi : WI K wi φ) (hg : WG K g js γ) (hj : ∀ j, j ∈ js → j ∈ vs) (ht : WT K tt τ) (hi1 : WI K wi1 φ1) (hg1 : WG K g1 js1 γ1) (hj1 : ∀ j, j ∈ js1 → j ∈ vs1) (ht1 : WT K tt1 τ1) (he : WE K te ε) :
    WL K (tLc2 wi g tt wi1 g1 tt1 te vs vs1) (fLc2 φ vs γ τ φ1 vs1 γ1 τ1 ε) := fun F L σ H δ res δ' e R Q q => by
  unfold fLc2 at e
  split at e
  case h_2 => cases e
  next ds δ1 e1 =>
  by_cases hz : ds.length ≤ 300
  case neg =>
    rw [if_neg hz] at e
    cases e
  rw [if_pos hz] at e
  refine hi F L σ H δ ds δ1 e1 R _ fun J H1 s1 R1 it => fun D hD => ?_
  have hDm : ¬ D ∈ F.M := fun z => R1.fresh hD (List.mem_append.mpr (.inl (R.mb D z)))
  have hDl : ¬ D ∈ L := fun z => R1.fresh hD (List.mem_append.mpr (.inr z))
  have hDml : ¬ D ∈ F.M ++ L := fun z => (List.mem_append.mp z).elim hDm hDl
  have inD : D ∈ (F.hide D).B ++ L := List.mem_cons_self
  refine ⟨fun i m H' => m = ds.length - i ∧ ∃ accV accD rest δi, Ex (Msk (F.M ++ L) H1) (Msk (F.M ++ L) H') ∧ EnvR K (F.hide D) L σ H' δi ∧ H' D = some (.lst accV) ∧ RpAll K (Msk ((F.hide D).B ++ L) H') accV accD ∧ compL2 vs γ τ φ1 vs1 γ1 τ1 ε (ds.drop i) δi = some (rest, δ') ∧ res = accD ++ rest ∧ accD.length ≤ 100 * i,
    ⟨ds.length, by omega, [], [], res, δ1, ex_msk (Ex.new hD), R1.hide hD _, upd_same, .nil, by rw [List.drop_zero]; exact e, rfl, Nat.zero_le _⟩, ?_⟩
  rintro i m H' ⟨rfl, accV, accD, rest, δi, x, Ri, hD', ra, ec, er, hl⟩
  have xx : Ex (Msk (F.B ++ L) H1) (Msk (F.B ++ (D :: L)) H') := fun a o ea => by
    obtain ⟨h1, h2⟩ := msk_some ea
    have ne : a ≠ D := ne_of_none h2 hD
    rw [msk_out (fun z => by
      rcases List.mem_append.mp z with z | z
      · exact h1 (List.mem_append.mpr (.inl z))
      · exact (List.mem_cons.mp z).elim ne fun z => h1 (List.mem_append.mpr (.inr z)))]
    have nm : ¬ a ∈ F.M ++ L := fun z => h1 (R1.sub a z)
    have := x a o (by rw [msk_out nm]; exact h2)
    rw [msk_out nm] at this
    exact this
  have cg : ∀ a, a ∈ F.B ++ (D :: L) ↔ a ∈ (F.hide D).B ++ L := fun a => by
    show _ ↔ a ∈ D :: (F.B ++ L)
    simp only [List.mem_append, List.mem_cons]
    constructor
    · rintro (h | h | h)
      · exact .inr (.inl h)
      · exact .inl h
      · exact .inr (.inr h)
    · rintro (h | h | h)
      · exact .inr (.inl h)
      · exact .inl h
      · exact .inr (.inr h)
  by_cases hi : i < ds.length
  case neg =>
    rw [List.drop_eq_nil_of_le (by omega)] at ec
    cases ec
    rw [List.append_nil] at er
    subst er
    refine .inl ⟨it.stop (D :: L) H' xx i (by omega), ?_⟩
    exact q D accV H' (new_live R R1 s1 hD) (s1.trans x) Ri hD' ra
  have hd : ds[i]? = some ds[i] := List.getElem?_eq_getElem hi
  have frD : Fresh (F.B ++ (D :: L)) H' := fun p hp z => Ri.fresh hp ((cg p).mp z)
  obtain ⟨go, yl⟩ := it.go (D :: L) H' xx frD i _ hd
  rw [List.drop_eq_getElem_cons hi] at ec
  refine .inr ⟨go, fun H5 => ∃ accV accD rest δi, Ex (Msk (F.M ++ L) H1) (Msk (F.M ++ L) H5) ∧ EnvR K (F.hide D) L σ H5 δi ∧ H5 D = some (.lst accV) ∧ RpAll K (Msk ((F.hide D).B ++ L) H5) accV accD ∧ compL2 vs γ τ φ1 vs1 γ1 τ1 ε (ds.drop (i + 1)) δi = some (rest, δ') ∧ res = accD ++ rest ∧ accD.length ≤ 100 * (i + 1), fun H5 hN => ⟨ds.length - (i + 1), by omega, rfl, hN⟩, fun y H2 hy => ?_⟩
  obtain ⟨x2, ry⟩ := yl y H2 hy
  rw [msk_congr cg] at ry
  unfold compL2 at ec
  split at ec
  case h_2 => cases ec
  next δ2 eg =>
  refine hg (F.hide D) L (wipe σ vs) H2 (wipeE δi vs) y _ δ2 eg ((Ri.ex x2).wipe vs) ry _ fun σ2 hl2 hk2 Rg => ⟨wipe_eq hl2 hk2 hj, ?_⟩
  have hk : ∀ j, ¬ j ∈ vs → σ2[j]? = σ[j]? := fun j hjv => by rw [hk2 j (fun z => hjv (hj j z)), wipe_get, if_neg hjv]
  -- what a step of one's own does to the walk
  have out : ∀ {Ha Hb : Hp}, Stp (F.hide D) L Ha Hb → Ex (Msk (F.M ++ L) H1) (Msk (F.M ++ L) Ha) → Ex (Msk (F.M ++ L) H1) (Msk (F.M ++ L) Hb) := fun s z => Ex.trans z s
  split at ec
  case h_3 => cases ec
  case h_2 δ3 et =>
    refine ht (F.hide D) L σ2 H2 δ2 false δ3 et Rg _ fun H3 s3 R3 => ?_
    rw [if_neg Bool.false_ne_true]
    have s24 : Stp (F.hide D) L H' H3 := (Stp.of_ex x2).trans s3
    exact ⟨accV, accD, rest, backE vs 0 δi δ3, out s24 x, Ri.back s24 R3 hk, (msk_some (s24 D _ (by rw [msk_out hDml]; exact hD'))).2, s24.all Ri.sub ra, ec, er, by omega⟩
  case h_1 δ3 et =>
    refine ht (F.hide D) L σ2 H2 δ2 true δ3 et Rg _ fun H3 s3 R3 => ?_
    rw [if_pos rfl]
    split at ec
    case h_2 => cases ec
    next es δ4 e4 =>
    by_cases hz1 : es.length ≤ 100
    case neg =>
      rw [if_neg hz1] at ec
      cases ec
    rw [if_pos hz1] at ec
    split at ec
    case h_2 => cases ec
    next ys δ5 e5 =>
    split at ec
    case h_2 => cases ec
    next zs δ6 e6 =>
    cases ec
    refine hi1 (F.hide D) L σ2 H3 δ3 es δ4 e4 R3 _ fun J1 H4 s4 R4 it1 => ?_
    have s04 : Stp (F.hide D) L H' H4 := (Stp.of_ex x2).trans (s3.trans s4)
    have x04 : Ex (Msk ((F.hide D).B ++ L) H') (Msk ((F.hide D).B ++ L) H4) := msk_ex s04 Ri.sub
    have hD4 : H4 D = some (.lst accV) := (msk_some (s04 D _ (by rw [msk_out hDml]; exact hD'))).2
    refine ⟨fun j k H'' => k = es.length - j ∧ ∃ aV aD r δj, Ex (Msk (F.M ++ L) H1) (Msk (F.M ++ L) H'') ∧ Ex (Msk ((F.hide D).B ++ L) H4) (Msk ((F.hide D).B ++ L) H'') ∧ EnvR K (F.hide D) L σ2 H'' δj ∧ H'' D = some (.lst aV) ∧ RpAll K (Msk ((F.hide D).B ++ L) H'') aV aD ∧ compL vs1 γ1 τ1 ε (es.drop j) δj = some (r, δ5) ∧ accD ++ ys = aD ++ r ∧ aD.length ≤ accD.length + j ∧ j ≤ es.length,
      ⟨es.length, by omega, accV, accD, ys, δ4, out s04 x, Ex.refl _, R4, hD4, s04.all Ri.sub ra, by rw [List.drop_zero]; exact e5, rfl, Nat.le_refl _, Nat.zero_le _⟩, ?_⟩
    rintro j k H'' ⟨rfl, aV, aD, r, δj, y1, y2, Rj, hDj, raj, ecj, erj, hlj, hje⟩
    by_cases hj2 : j < es.length
    case neg =>
      rw [List.drop_eq_nil_of_le (by omega)] at ecj
      cases ecj
      rw [List.append_nil] at erj
      subst erj
      refine .inl ⟨it1.stop L H'' y2 j (by omega), aV, accD ++ ys, zs, backE vs 0 δi δ5, y1, Ri.backM (Ex.trans x04 y2) Rj hk, hDj, raj, e6, by rw [er, List.append_assoc], ?_⟩
      rw [List.length_append] at hlj ⊢
      omega
    have hd1 : es[j]? = some es[j] := List.getElem?_eq_getElem hj2
    obtain ⟨go1, yl1⟩ := it1.go L H'' y2 Rj.fr j _ hd1
    rw [List.drop_eq_getElem_cons hj2] at ecj
    refine .inr ⟨go1, fun H5 => ∃ aV aD r δj, Ex (Msk (F.M ++ L) H1) (Msk (F.M ++ L) H5) ∧ Ex (Msk ((F.hide D).B ++ L) H4) (Msk ((F.hide D).B ++ L) H5) ∧ EnvR K (F.hide D) L σ2 H5 δj ∧ H5 D = some (.lst aV) ∧ RpAll K (Msk ((F.hide D).B ++ L) H5) aV aD ∧ compL vs1 γ1 τ1 ε (es.drop (j + 1)) δj = some (r, δ5) ∧ accD ++ ys = aD ++ r ∧ aD.length ≤ accD.length + (j + 1) ∧ j + 1 ≤ es.length, fun H5 hN => ⟨es.length - (j + 1), by omega, rfl, hN⟩, fun u1 H5 hy1 => ?_⟩
    obtain ⟨x5, ru⟩ := yl1 u1 H5 hy1
    unfold compL at ecj
    split at ecj
    case h_2 => cases ecj
    next δ7 eg1 =>
    refine hg1 (F.hide D) L (wipe σ2 vs1) H5 (wipeE δj vs1) u1 _ δ7 eg1 ((Rj.ex x5).wipe vs1) ru _ fun σ3 hl3 hk3 Rg1 => ⟨wipe_eq hl3 hk3 hj1, ?_⟩
    have hk1 : ∀ j, ¬ j ∈ vs1 → σ3[j]? = σ2[j]? := fun j hjv => by rw [hk3 j (fun z => hjv (hj1 j z)), wipe_get, if_neg hjv]
    split at ecj
    case h_3 => cases ecj
    case h_2 δ8 et1 =>
      refine ht1 (F.hide D) L σ3 H5 δ7 false δ8 et1 Rg1 _ fun H6 s6 R6 => ?_
      rw [if_neg Bool.false_ne_true]
      have s56 : Stp (F.hide D) L H'' H6 := (Stp.of_ex x5).trans s6
      exact ⟨aV, aD, r, backE vs1 0 δj δ8, out s56 y1, Ex.trans y2 (msk_ex s56 Rj.sub), Rj.back s56 R6 hk1, (msk_some (s56 D _ (by rw [msk_out hDml]; exact hDj))).2, s56.all Rj.sub raj, ecj, erj, by omega, hj2⟩
    case h_1 δ8 et1 =>
      refine ht1 (F.hide D) L σ3 H5 δ7 true δ8 et1 Rg1 _ fun H6 s6 R6 => ?_
      rw [if_pos rfl]
      split at ecj
      case h_2 => cases ecj
      next w δ9 ew =>
      split at ecj
      case h_2 => cases ecj
      next ws δ10 ecc =>
      cases ecj
      refine he (F.hide D) L σ3 H6 δ8 w δ9 ew R6 _ fun u H7 s7 R7 ru7 => ?_
      have s57 : Stp (F.hide D) L H'' H7 := (Stp.of_ex x5).trans (s6.trans s7)
      have hD7 : H7 D = some (.lst aV) := (msk_some (s57 D _ (by rw [msk_out hDml]; exact hDj))).2
      have e0 : Msk ((F.hide D).B ++ L) (upd H7 D (.lst (aV ++ [u]))) = Msk ((F.hide D).B ++ L) H7 := msk_upd inD
      refine ⟨aV, hD7, sz_lt (by rw [raj.len]; omega), aV ++ [u], aD ++ [w], ws, backE vs1 0 δj δ9, ?_, ?_, ((Rj.back s57 R7 hk1).updD (List.mem_cons_self) hDm _), upd_same, ?_, ecc, by rw [erj, List.append_assoc]; rfl, by rw [List.length_append]; show _ + 1 ≤ _; omega, hj2⟩
      · intro a o ea
        have ne : a ≠ D := ne_of_none (msk_some ea).2 hD
        have h5 := msk_some (out s57 y1 a o ea)
        rw [msk_out h5.1, upd_ne ne]
        exact h5.2
      · rw [e0]
        exact Ex.trans y2 (msk_ex s57 Rj.sub)
      · rw [e0]
        exact (s57.all Rj.sub raj).app (.cons ru7 .nil)
end
end Sm
namespace Sm
open PySem L2 Evl RZ
/-! ### a sign not in a text -/
abbrev rNotInS : R2 := fun x y H Q => ∃ (c : Nat) (z : Str), x = .str ⟨#[c]⟩ ∧ y = .str z ∧ Q (.bl (!decide (c ∈ z.cps.toList))) H
def dNotInS : PyData → PyData → Option PyData
  | .str x, .str z => match x.cps.toList with
    | [c] => some (.bool (!decide (c ∈ z.cps.toList)))
    | _ => none
  | _, _ => none
theorem rd_notInS {K : PySem.W.Frag} : RD K rNotInS dNotInS := fun S H x y a b d e ra rb fr Q q => by
  cases ra with
  | str i =>
    cases rb with
    | str z =>
      obtain ⟨⟨l⟩⟩ := i
      match l, e with
      | [c], e =>
        cases e
        exact ⟨c, z, rfl, rfl, q _ H (Ex.refl H) (.bl _)⟩
      | [], e => cases e
      | _ :: _ :: _, e => cases e
    | _ => cases e
  | _ => cases e
end Sm
namespace Sm
open PySem L2 Evl RZ
theorem e_fVar (i : Nat) (δ : En) : fVar i δ = (match δ[i]? with
  | some (.dat d) => some (d, δ)
  | _ => none) := rfl
theorem e_fC (d : PyData) (δ : En) : fC d δ = (some (d, δ)) := rfl
theorem e_fOp (f : PyData → PyData → Option PyData) (φ ψ : FE) (δ : En) : fOp f φ ψ δ = (match φ δ with
  | some (x, δ1) => match ψ δ1 with
    | some (y, δ2) => match f x y with
      | some z => some (z, δ2)
      | none => none
    | none => none
  | none => none) := rfl
theorem e_fUn (f : PyData → Option PyData) (φ : FE) (δ : En) : fUn f φ δ = (match φ δ with
  | some (x, δ1) => match f x with
    | some z => some (z, δ1)
    | none => none
  | none => none) := rfl
theorem e_fNil (δ : En) : fNil  δ = (some ([], δ)) := rfl
theorem e_fCons (φ : FE) (ψ : FL) (δ : En) : fCons φ ψ δ = (match φ δ with
  | some (x, δ1) => match ψ δ1 with
    | some (xs, δ2) => some (x :: xs, δ2)
    | none => none
  | none => none) := rfl
theorem e_fTup (φ : FL) (δ : En) : fTup φ δ = (match φ δ with
  | some (xs, δ1) => if xs.length ≤ 100000 then some (.tuple xs, δ1) else none
  | none => none) := rfl
theorem e_fLst (φ : FL) (δ : En) : fLst φ δ = (match φ δ with
  | some (xs, δ1) => if xs.length ≤ 100000 then some (xs, δ1) else none
  | none => none) := rfl
theorem e_fOfL (φ : FL) (δ : En) : fOfL φ δ = (match φ δ with
  | some (xs, δ1) => some (.list xs, δ1)
  | none => none) := rfl
theorem e_fTest (φ : FE) (δ : En) : fTest φ δ = (match φ δ with
  | some (.bool b, δ1) => some (b, δ1)
  | _ => none) := rfl
theorem e_fAnd (φ ψ : FT) (δ : En) : fAnd φ ψ δ = (match φ δ with
  | some (true, δ1) => ψ δ1
  | some (false, δ1) => some (false, δ1)
  | none => none) := rfl
theorem e_fOr (φ ψ : FT) (δ : En) : fOr φ ψ δ = (match φ δ with
  | some (true, δ1) => some (true, δ1)
  | some (false, δ1) => ψ δ1
  | none => none) := rfl
theorem e_fNot (φ : FT) (δ : En) : fNot φ δ = (match φ δ with
  | some (b, δ1) => some (!b, δ1)
  | none => none) := rfl
theorem e_fBool (φ : FT) (δ : En) : fBool φ δ = (match φ δ with
  | some (b, δ1) => some (.bool b, δ1)
  | none => none) := rfl
theorem e_fIf (φ : FT) (ψ χ : FE) (δ : En) : fIf φ ψ χ δ = (match φ δ with
  | some (true, δ1) => ψ δ1
  | some (false, δ1) => χ δ1
  | none => none) := rfl
theorem e_fChain (f g : PyData → PyData → Option PyData) (φ ψ χ : FE) (δ : En) : fChain f g φ ψ χ δ = (match φ δ with
  | some (x, δ1) => match ψ δ1 with
    | some (y, δ2) => match f x y with
      | some (.bool true) => match χ δ2 with
        | some (z, δ3) => match g y z with
          | some (.bool b) => some (.bool b, δ3)
          | _ => none
        | none => none
      | some (.bool false) => some (.bool false, δ2)
      | _ => none
    | none => none
  | none => none) := rfl
theorem e_fVarB (i : Nat) (δ : En) : fVarB i δ = (match δ[i]? with
  | some (.dat d) => some (d, δ)
  | some (.own ds) => some (.list ds, δ)
  | some (.bag ds) => some (.list ds, δ)
  | _ => none) := rfl
theorem e_fUnL (f : PyData → Option (List PyData)) (φ : FE) (δ : En) : fUnL f φ δ = (match φ δ with
  | some (x, δ1) => match f x with
    | some z => some (z, δ1)
    | none => none
  | none => none) := rfl
theorem e_fNoPart (δ : En) : fNoPart  δ = (some (none, δ)) := rfl
theorem e_fPart (φ : FE) (δ : En) : fPart φ δ = (match φ δ with
  | some (.int i, δ1) => some (some i, δ1)
  | _ => none) := rfl
theorem e_fSl (φ : FE) (lo hi : FO) (δ : En) : fSl φ lo hi δ = (match φ δ with
  | some (x, δ1) => match lo δ1 with
    | some (l, δ2) => match hi δ2 with
      | some (h, δ3) => match dSl x l h with
        | some d => some (d, δ3)
        | none => none
      | none => none
    | none => none
  | none => none) := rfl
theorem e_gN (i : Nat) (d : PyData) (δ : En) : gN i d δ = (some (δ.set i (.dat d))) := rfl
theorem e_gNl (ds : List PyData) (δ : En) : gNl  ds δ = (match ds with
  | [] => some δ
  | _ => none) := rfl
theorem e_gCs (γ : FG) (η : FGs) (ds : List PyData) (δ : En) : gCs γ η ds δ = (match ds with
  | d :: ds => match γ d δ with
    | some δ1 => η ds δ1
    | none => none
  | [] => none) := rfl
theorem e_gTp (n : Nat) (η : FGs) (d : PyData) (δ : En) : gTp n η d δ = (match d with
  | .tuple ds => if ds.length = n then η ds δ else none
  | _ => none) := rfl
theorem e_fZip (φ ψ : FE) (δ : En) : fZip φ ψ δ = (match φ δ with
  | some (x, δ1) => match ψ δ1 with
    | some (y, δ2) => match zipD x y with
      | some z => some (z, δ2)
      | none => none
    | none => none
  | none => none) := rfl
theorem e_fLc (φ : FL) (vs : List Nat) (γ : FG) (τ : FT) (ε : FE) (δ : En) : fLc φ vs γ τ ε δ = (match φ δ with
  | some (ds, δ1) => if ds.length ≤ 40000 then compL vs γ τ ε ds δ1 else none
  | none => none) := rfl
theorem e_fYes (δ : En) : fYes  δ = (some (true, δ)) := rfl
theorem e_sNx (δ : En) : sNx  δ = (some (.nx δ)) := rfl
theorem e_sSeq (φ ψ : FS) (δ : En) : sSeq φ ψ δ = (match φ δ with
  | some (.nx δ1) => ψ δ1
  | some (.rt d δ1) => some (.rt d δ1)
  | some (.rl d δ1) => some (.rl d δ1)
  | some (.bk δ1) => some (.bk δ1)
  | some (.ct δ1) => some (.ct δ1)
  | none => none) := rfl
theorem e_sAsg (φ : FE) (γ : FG) (δ : En) : sAsg φ γ δ = (match φ δ with
  | some (d, δ1) => match γ d δ1 with
    | some δ2 => some (.nx δ2)
    | none => none
  | none => none) := rfl
theorem e_sOwn (i : Nat) (φ : FL) (δ : En) : sOwn i φ δ = (match φ δ with
  | some (ds, δ1) => if i < δ1.length then some (.nx (δ1.set i (.own ds))) else none
  | none => none) := rfl
theorem e_sApp (i : Nat) (φ : FE) (δ : En) : sApp i φ δ = (match ownAt δ i with
  | some _ => match φ δ with
    | some (d, δ1) => match ownAt δ1 i with
      | some ds => if ds.length < 50000 then some (.nx (setOwn δ1 i (ds ++ [d]))) else none
      | none => none
    | none => none
  | none => none) := rfl
theorem e_sExt (i : Nat) (φ : FE) (δ : En) : sExt i φ δ = (match ownAt δ i with
  | some _ => match φ δ with
    | some (.list zs, δ1) => match ownAt δ1 i with
      | some ds => if ds.length + zs.length < 50000 then some (.nx (setOwn δ1 i (ds ++ zs))) else none
      | none => none
    | _ => none
  | none => none) := rfl
theorem e_sIns (i : Nat) (φ ψ : FE) (δ : En) : sIns i φ ψ δ = (match ownAt δ i with
  | some _ => match φ δ with
    | some (.int j, δ1) => match ψ δ1 with
      | some (d, δ2) => match ownAt δ2 i with
        | some ds => if ds.length < 50000 ∧ 0 ≤ j ∧ j < 50000 then some (.nx (setOwn δ2 i (ds.take j.toNat ++ [d] ++ ds.drop j.toNat))) else none
        | none => none
      | none => none
    | _ => none
  | none => none) := rfl
theorem e_sSetIx (i : Nat) (φ ψ : FE) (δ : En) : sSetIx i φ ψ δ = (match φ δ with
  | some (d, δ1) => match ownAt δ1 i with
    | some _ => match ψ δ1 with
      | some (.int j, δ2) => match ownAt δ2 i with
        | some ds => match ixN ds.length j with
          | some n => some (.nx (setOwn δ2 i (ds.set n d)))
          | none => none
        | none => none
      | _ => none
    | none => none
  | none => none) := rfl
theorem e_fIxO (i : Nat) (φ : FE) (δ : En) : fIxO i φ δ = (match ownAt δ i with
  | some _ => match φ δ with
    | some (.int j, δ1) => match ownAt δ1 i with
      | some ds => match atI ds j with
        | some d => some (d, δ1)
        | none => none
      | none => none
    | _ => none
  | none => none) := rfl
theorem e_fSlO (i : Nat) (lo hi : FO) (δ : En) : fSlO i lo hi δ = (match ownAt δ i with
  | some _ => match lo δ with
    | some (l, δ1) => match hi δ1 with
      | some (u, δ2) => match ownAt δ2 i with
        | some ds => some (.list (cutD ds l u), δ2)
        | none => none
      | none => none
    | none => none
  | none => none) := rfl
theorem e_sRet (φ : FE) (δ : En) : sRet φ δ = (match φ δ with
  | some (d, δ1) => some (.rt d δ1)
  | none => none) := rfl
theorem e_sRetL (φ : FL) (δ : En) : sRetL φ δ = (match φ δ with
  | some (d, δ1) => some (.rl d δ1)
  | none => none) := rfl
theorem e_sRetO (i : Nat) (δ : En) : sRetO i δ = (match δ[i]? with
  | some (.own ds) => some (.rl ds (δ.set i .un))
  | _ => none) := rfl
theorem e_sFrz (i : Nat) (φ : FS) (δ : En) : sFrz i φ δ = (match δ[i]? with
  | some (.own ds) => φ (δ.set i (.dat (.list ds)))
  | _ => none) := rfl
theorem e_sDrop (φ : FE) (δ : En) : sDrop φ δ = (match φ δ with
  | some (_, δ1) => some (.nx δ1)
  | none => none) := rfl
theorem e_sIf (τ : FT) (φ ψ : FS) (δ : En) : sIf τ φ ψ δ = (match τ δ with
  | some (true, δ1) => φ δ1
  | some (false, δ1) => ψ δ1
  | none => none) := rfl
theorem e_sPar (i j : Nat) (φ : FL) (δ : En) : sPar i j φ δ = (match φ δ with
  | some ([x, y], δ1) => some (.nx ((δ1.set i (.dat x)).set j (.dat y)))
  | _ => none) := rfl
theorem e_sFor (φ : FL) (γ : FG) (β : FS) (δ : En) : sFor φ γ β δ = (match φ δ with
  | some (ds, δ1) => loopF γ β ds δ1
  | none => none) := rfl
theorem e_fCall (f : List PyData → Option PyData) (φ : FL) (δ : En) : fCall f φ δ = (match φ δ with
  | some (ds, δ1) => match f ds with
    | some d => some (d, δ1)
    | none => none
  | none => none) := rfl
theorem e_fCallL (f : List PyData → Option (List PyData)) (φ : FL) (δ : En) : fCallL f φ δ = (match φ δ with
  | some (ds, δ1) => match f ds with
    | some d => some (d, δ1)
    | none => none
  | none => none) := rfl
theorem e_fCallB (f : List PyData → List PyData → Option (PyData × List PyData)) (i : Nat) (φ : FL) (δ : En) : fCallB f i φ δ = (match ownAt δ i with
  | some _ => match φ δ with
    | some (ds, δ1) => match ownAt δ1 i with
      | some bg => match f bg ds with
        | some (d, bg') => some (d, setOwn δ1 i bg')
        | none => none
      | none => none
    | none => none
  | none => none) := rfl
theorem e_fDc (φ : FL) (vs : List Nat) (γ : FG) (τ : FT) (κ ε : FE) (δ : En) : fDc φ vs γ τ κ ε δ = (match φ δ with
  | some (ds, δ1) => if ds.length ≤ 40000 then (match compD vs γ τ κ ε ds δ1 [] with
    | some (kvs, δ2) => some (.dict kvs, δ2)
    | none => none) else none
  | none => none) := rfl
theorem e_fLcO (i0 : Nat) (vs : List Nat) (γ : FG) (τ : FT) (ε : FE) (δ : En) : fLcO i0 vs γ τ ε δ = (match ownAt δ i0 with
  | some ds => if ds.length ≤ 40000 then compLO i0 ds vs γ τ ε ds δ else none
  | none => none) := rfl
theorem e_sForO (i0 : Nat) (γ : FG) (β : FS) (δ : En) : sForO i0 γ β δ = (match ownAt δ i0 with
  | some ds => loopO i0 ds γ β ds δ
  | none => none) := rfl
theorem e_sParO (i j : Nat) (φ ψ : FL) (δ : En) : sParO i j φ ψ δ = (match φ δ with
  | some (xs, δ1) => match ψ δ1 with
    | some (ys, δ2) => if i < δ2.length ∧ j < δ2.length then some (.nx ((δ2.set j (.own ys)).set i (.own xs))) else none
    | none => none
  | none => none) := rfl
theorem e_fOpO (f : PyData → PyData → Option PyData) (i : Nat) (ψ : FE) (δ : En) : fOpO f i ψ δ = (match ownAt δ i with
  | some _ => match ψ δ with
    | some (y, δ2) => match ownAt δ2 i with
      | some ds => match f (.list ds) y with
        | some (.bool b) => some (.bool b, δ2)
        | _ => none
      | none => none
    | none => none
  | none => none) := rfl
theorem e_sOwnD (i : Nat) (φ : FD) (δ : En) : sOwnD i φ δ = (match φ δ with
  | some (ds, δ1) => if i < δ1.length then some (.nx (δ1.set i (.odc ds))) else none
  | none => none) := rfl
theorem e_fNewD (δ : En) : fNewD  δ = (some ([], δ)) := rfl
theorem e_fDictD (φ : FE) (δ : En) : fDictD φ δ = (match φ δ with
  | some (.list ds, δ1) => match pairsD ds with
    | some kvs => some (mergeD [] kvs, δ1)
    | none => none
  | _ => none) := rfl
theorem e_sDPutO (i : Nat) (ψ φ : FE) (δ : En) : sDPutO i ψ φ δ = (match φ δ with
  | some (d, δ1) => match dicAt δ1 i with
    | some _ => match ψ δ1 with
      | some (y, δ2) => match keyOf y, dicAt δ2 i with
        | some k, some ds => if ds.length < 40000 then some (.nx (δ2.set i (.odc (putD ds k d)))) else none
        | _, _ => none
      | none => none
    | none => none
  | none => none) := rfl
theorem e_fDGetO (i : Nat) (ψ : FE) (δ : En) : fDGetO i ψ δ = (match dicAt δ i with
  | some _ => match ψ δ with
    | some (y, δ1) => match keyOf y, dicAt δ1 i with
      | some k, some ds => match lookD ds k with
        | some d => some (d, δ1)
        | none => none
      | _, _ => none
    | none => none
  | none => none) := rfl
theorem e_fDGet2 (φ ψ χ : FE) (δ : En) : fDGet2 φ ψ χ δ = (match φ δ with
  | some (x, δ1) => match ψ δ1 with
    | some (y, δ2) => match χ δ2 with
      | some (z, δ3) => match dictOf x, keyOf y with
        | some kvs, some k => some ((lookD kvs k).getD z, δ3)
        | _, _ => none
      | none => none
    | none => none
  | none => none) := rfl
theorem e_sFrzD (i : Nat) (φ : FS) (δ : En) : sFrzD i φ δ = (match δ[i]? with
  | some (.odc ds) => φ (δ.set i (.dat (.dict ds)))
  | _ => none) := rfl
theorem e_sPar3 (i j l : Nat) (φ : FL) (δ : En) : sPar3 i j l φ δ = (match φ δ with
  | some ([x, y, z], δ1) => some (.nx (((δ1.set i (.dat x)).set j (.dat y)).set l (.dat z)))
  | _ => none) := rfl
theorem e_fZipB (φ ψ : FE) (δ : En) : fZipB φ ψ δ = (match φ δ with
  | some (x, δ1) => match ψ δ1 with
    | some (y, δ2) => match zipAny x y with
      | some z => some (z, δ2)
      | none => none
    | none => none
  | none => none) := rfl
theorem e_fListZip (φ ψ : FE) (δ : En) : fListZip φ ψ δ = (match φ δ with
  | some (.list xs, δ1) => match ψ δ1 with
    | some (.list ys, δ2) => some (pairsOf xs ys, δ2)
    | _ => none
  | _ => none) := rfl
theorem e_fAddL (φ ψ : FE) (δ : En) : fAddL φ ψ δ = (match φ δ with
  | some (.list xs, δ1) => match ψ δ1 with
    | some (.list ys, δ2) => if xs.length + ys.length ≤ 100000 then some (xs ++ ys, δ2) else none
    | _ => none
  | _ => none) := rfl
theorem e_fCallD (f : List PyData → Option PyData) (is : List Int) (φ : FL) (δ : En) : fCallD f is φ δ = (match φ δ with
  | some (ds, δ1) => match f (ds ++ is.map PyData.int) with
    | some d => some (d, δ1)
    | none => none
  | none => none) := rfl
theorem e_fCallLD (f : List PyData → Option (List PyData)) (is : List Int) (φ : FL) (δ : En) : fCallLD f is φ δ = (match φ δ with
  | some (ds, δ1) => match f (ds ++ is.map PyData.int) with
    | some d => some (d, δ1)
    | none => none
  | none => none) := rfl
theorem e_fCallO (f : List PyData → Option PyData) (i : Nat) (φ : FL) (δ : En) : fCallO f i φ δ = (match δ[i]? with
  | some (.own _) => match φ δ with
    | some (ds, δ1) => match δ1[i]? with
      | some (.own xs) => match f (.list xs :: ds) with
        | some d => if hardD d = true then some (d, δ1) else none
        | none => none
      | _ => none
    | none => none
  | _ => none) := rfl
theorem e_fItems (φ : FE) (δ : En) : fItems φ δ = fUnL itemsOf φ δ := rfl
theorem e_fRange (φ : FE) (δ : En) : fRange φ δ = fUnL (fun d => match d with
  | .int n => if n ≤ 100000 ∧ -100000 ≤ n then some (upto n) else none
  | _ => none) φ δ := rfl
theorem e_fMin (φ ψ : FE) (δ : En) : fMin φ ψ δ = fOp (fI0 fun i j => .int (if j < i then j else i)) φ ψ δ := rfl
theorem e_orF (f g : PyData → PyData → Option PyData) (a b : PyData) : orF f g a b = (match f a b with
  | some d => some d
  | none => g a b) := rfl
theorem fLc_of {φ : FL} {vs : List Nat} {γ : FG} {τ : FT} {ε : FE} {δ δ1 : En} {ds : List PyData} {r : List PyData × En} (h1 : φ δ = some (ds, δ1)) (hl : ds.length ≤ 40000) (hc : compL vs γ τ ε ds δ1 = some r) : fLc φ vs γ τ ε δ = some r := by
  unfold fLc
  rw [h1]
  dsimp only
  rw [if_pos hl, hc]
theorem fDc_of {φ : FL} {vs : List Nat} {γ : FG} {τ : FT} {κ ε : FE} {δ δ1 δ2 : En} {ds : List PyData} {r : List (PyData × PyData)} (h1 : φ δ = some (ds, δ1)) (hl : ds.length ≤ 40000) (hc : compD vs γ τ κ ε ds δ1 [] = some (r, δ2)) : fDc φ vs γ τ κ ε δ = some (.dict r, δ2) := by
  unfold fDc
  rw [h1]
  dsimp only
  rw [if_pos hl, hc]
theorem sFor_of {φ : FL} {γ : FG} {β : FS} {δ δ1 : En} {ds : List PyData} {o : Option Out} (h1 : φ δ = some (ds, δ1)) (hc : loopF γ β ds δ1 = o) : sFor φ γ β δ = o := by
  unfold sFor
  rw [h1]
  exact hc
end Sm
namespace Lc
open PySem L2 Evl RZ Sm
noncomputable def b_common_divisor : FS :=
    (sSeq (sPar 0 1 (fCons (fUn dAbs (fVar 0)) (fCons (fUn dAbs (fVar 1)) fNil)))
    (sSeq (sWhile (fTest (fOp dNe (fVar 1) (fC (.int 0)))) (sPar 0 1 (fCons (fVar 1) (fCons (fOp dMod (fVar 0) (fVar 1)) fNil))))
    (sRet (fVar 0))))
noncomputable def fn_common_divisor : List PyData → Option PyData := runD 0 b_common_divisor
noncomputable def b_fraction : FS :=
    (sSeq (sAsg (fCall fn_common_divisor (fCons (fVar 0) (fCons (fVar 1) fNil))) (gN 2))
    (sRet (fTup (fCons (fOp dDiv (fVar 0) (fVar 2)) (fCons (fOp dDiv (fVar 1) (fVar 2)) fNil)))))
noncomputable def fn_fraction : List PyData → Option PyData := runD 1 b_fraction
noncomputable def b_plus : FS :=
    (sRet (fCall fn_fraction (fCons (fOp dAdd (fOp dMul (fOp dIx (fVar 0) (fC (.int 0))) (fOp dIx (fVar 1) (fC (.int 1)))) (fOp dMul (fOp dIx (fVar 1) (fC (.int 0))) (fOp dIx (fVar 0) (fC (.int 1))))) (fCons (fOp dMul (fOp dIx (fVar 0) (fC (.int 1))) (fOp dIx (fVar 1) (fC (.int 1)))) fNil))))
noncomputable def fn_plus : List PyData → Option PyData := runD 0 b_plus
noncomputable def b_plus_whole : FS :=
    (sRet (fTup (fCons (fOp dAdd (fOp dIx (fVar 0) (fC (.int 0))) (fOp dMul (fVar 1) (fOp dIx (fVar 0) (fC (.int 1))))) (fCons (fOp dIx (fVar 0) (fC (.int 1))) fNil))))
noncomputable def fn_plus_whole : List PyData → Option PyData := runD 0 b_plus_whole
noncomputable def b_names_of : FS :=
    (sRet (fUn dTuple (fOfL (fLc (fItems (fVar 0)) [1] (gN 1) fYes (fOp dIx (fVar 1) (fC (.int 0)))))))
noncomputable def fn_names_of : List PyData → Option PyData := runD 1 b_names_of
noncomputable def b_weigh : FS :=
    (sRet (fOp dAdd (fVar 0) (fUn dSum (fOfL (fLc (fItems (fVar 1)) [2, 3, 4] (gTp 3 (gCs (gN 2) (gCs (gN 3) (gCs (gN 4) gNl)))) fYes (fVar 3))))))
noncomputable def fn_weigh : List PyData → Option PyData := runD 3 b_weigh
noncomputable def b_driven : FS :=
    (sSeq (sAsg (fDc (fItems (fVar 3)) [6, 7] (gTp 2 (gCs (gN 6) (gCs (gN 7) gNl))) fYes (fVar 6) (fVar 7)) (gN 4))
    (sSeq (sAsg (fUn dSum (fOfL (fLc (fItems (fVar 1)) [6, 8, 9] (gTp 3 (gCs (gN 6) (gCs (gN 8) (gCs (gN 9) gNl)))) (fTest (fOp dHas (fVar 6) (fVar 4))) (fOp dMul (fOp dMul (fOp dGet (fVar 4) (fVar 6)) (fVar 8)) (fVar 9))))) (gN 5))
    (sRet (fCall fn_plus (fCons (fVar 2) (fCons (fTup (fCons (fUn dNeg (fVar 5)) (fCons (fCall fn_weigh (fCons (fVar 0) (fCons (fVar 1) fNil))) fNil))) fNil))))))
noncomputable def fn_driven : List PyData → Option PyData := runD 6 b_driven
noncomputable def b_still_on : FS :=
    (sSeq (sAsg (fCall fn_names_of (fCons (fVar 1) fNil)) (gN 2))
    (sRet (fUn dTuple (fOfL (fLc (fItems (fVar 0)) [3] (gN 3) (fTest (fOp (dInA true) (fOp dIx (fVar 3) (fC (.int 0))) (fVar 2))) (fVar 3))))))
noncomputable def fn_still_on : List PyData → Option PyData := runD 2 b_still_on
noncomputable def b_speeds : FS :=
    (sSeq (sAsg (fVar 1) (gN 4))
    (sSeq (sAsg (fVar 2) (gN 5))
    (sSeq (sOwn 6 (fLst fNil))
    (sSeq (sFor (fItems (fVar 3)) (gN 7) (sSeq (sAsg (fCall fn_driven (fCons (fVar 0) (fCons (fVar 4) (fCons (fVar 5) (fCons (fVar 7) fNil))))) (gN 5))
    (sSeq (sAsg (fCall fn_still_on (fCons (fVar 4) (fCons (fVar 7) fNil))) (gN 4))
    (sApp 6 (fVar 5)))))
    (sRetO 6)))))
noncomputable def fn_speeds : List PyData → Option (List PyData) := runL 4 b_speeds
noncomputable def b_leap_by_name : FS :=
    (sRet (fDc (fItems (fVar 0)) [1, 2, 3] (gTp 3 (gCs (gN 1) (gCs (gN 2) (gCs (gN 3) gNl)))) fYes (fVar 1) (fVar 3)))
noncomputable def fn_leap_by_name : List PyData → Option PyData := runD 3 b_leap_by_name
noncomputable def b_leaper_speeds : FS :=
    (sRetL (fLc (fItems (fVar 2)) [3, 4] (gTp 2 (gCs (gN 3) (gCs (gN 4) gNl))) fYes (fTup (fCons (fVar 3) (fCons (fCall fn_plus_whole (fCons (fVar 1) (fCons (fOp dMul (fVar 4) (fOp dGet (fVar 0) (fVar 3))) fNil))) fNil)))))
noncomputable def fn_leaper_speeds : List PyData → Option PyData := runD 2 b_leaper_speeds
noncomputable def b_leapers : FS :=
    (sSeq (sAsg (fCall fn_leap_by_name (fCons (fVar 1) fNil)) (gN 4))
    (sSeq (sOwn 5 (fLst fNil))
    (sSeq (sFor (fZip (fOfL (fCallL fn_speeds (fCons (fVar 0) (fCons (fVar 1) (fCons (fVar 2) (fCons (fVar 3) fNil)))))) (fVar 3)) (gTp 2 (gCs (gN 6) (gCs (gN 7) gNl))) (sExt 5 (fCall fn_leaper_speeds (fCons (fVar 4) (fCons (fVar 6) (fCons (fVar 7) fNil))))))
    (sRetL (fUnL dSorted (fVarB 5))))))
noncomputable def fn_leapers : List PyData → Option (List PyData) := runL 4 b_leapers
noncomputable def b__law_bag : FS :=
    (sSeq (sAsg (fC (.int 0)) (gN 2))
    (sSeq (sIf (fTest (fOp dLt (fVar 1) (fUn dLen (fVar 0)))) (sAsg (fUn dAbs (fOp dIx (fVar 0) (fVar 1))) (gN 2)) sNx)
    (sSeq (sIf (fTest (fOp dLt (fVar 2) (fOp dPow (fC (.int 10)) (fC (.int 18))))) (sRetL (fLst (fCons (fC (.int 0)) (fCons (fOp dAdd (fC (.int 1)) (fOp dMod (fOp dAdd (fOp dMul (fVar 2) (fC (.int 7919))) (fOp dMul (fC (.int 104729)) (fVar 1))) (fC (.int 2147483646)))) fNil)))) sNx)
    (sRetL (fLst (fCons (fVar 2) (fCons (fOp dAdd (fC (.int 1)) (fOp dMod (fOp dAdd (fVar 2) (fVar 1)) (fC (.int 2147483646)))) fNil)))))))
noncomputable def fn__law_bag : List PyData → Option (List PyData) := runL 1 b__law_bag
noncomputable def b__law_take : FS :=
    (sSeq (sIf (fTest (fOp dGtI (fIxO 0 (fC (.int 0))) (fC (.int 0)))) (sSeq (sAsg (fOp dMod (fIxO 0 (fC (.int 0))) (fVar 1)) (gN 2))
    (sSeq (sSetIx 0 (fOp dDiv (fIxO 0 (fC (.int 0))) (fVar 1)) (fC (.int 0)))
    (sRet (fVar 2)))) sNx)
    (sSeq (sSetIx 0 (fOp dMod (fOp dMul (fIxO 0 (fC (.int 1))) (fC (.int 48271))) (fC (.int 2147483647))) (fC (.int 1)))
    (sRet (fOp dMod (fOp dDiv (fOp dMod (fOp dMul (fIxO 0 (fC (.int 1))) (fIxO 0 (fC (.int 1)))) (fC (.int 2147483629))) (fC (.int 64))) (fVar 1)))))
noncomputable def fn__law_take : List PyData → List PyData → Option (PyData × List PyData) := runB 1 b__law_take
noncomputable def b__law_lowest : FS :=
    (sSeq (sPar 2 3 (fCons (fUn dAbs (fVar 0)) (fCons (fVar 1) fNil)))
    (sSeq (sWhile (fTest (fOp dGtI (fVar 3) (fC (.int 0)))) (sPar 2 3 (fCons (fVar 3) (fCons (fOp dMod (fVar 2) (fVar 3)) fNil))))
    (sRet (fTup (fCons (fOp dDiv (fVar 0) (fVar 2)) (fCons (fOp dDiv (fVar 1) (fVar 2)) fNil))))))
noncomputable def fn__law_lowest : List PyData → Option PyData := runD 2 b__law_lowest
noncomputable def b__law_plus : FS :=
    (sRet (fCall fn__law_lowest (fCons (fOp dAdd (fOp dMul (fOp dIx (fVar 0) (fC (.int 0))) (fOp dIx (fVar 1) (fC (.int 1)))) (fOp dMul (fOp dIx (fVar 1) (fC (.int 0))) (fOp dIx (fVar 0) (fC (.int 1))))) (fCons (fOp dMul (fOp dIx (fVar 0) (fC (.int 1))) (fOp dIx (fVar 1) (fC (.int 1)))) fNil))))
noncomputable def fn__law_plus : List PyData → Option PyData := runD 0 b__law_plus
noncomputable def b__law_times : FS :=
    (sRet (fCall fn__law_lowest (fCons (fOp dMul (fOp dIx (fVar 0) (fC (.int 0))) (fVar 1)) (fCons (fOp dIx (fVar 0) (fC (.int 1))) fNil))))
noncomputable def fn__law_times : List PyData → Option PyData := runD 0 b__law_times
noncomputable def b__law_cart : FS :=
    (sRet (fOp dAdd (fC (.int 1)) (fCallB fn__law_take 0 (fCons (fOp dIx (fOfL (fLst (fCons (fC (.int 5)) (fCons (fC (.int 60)) (fCons (fC (.int 1000)) fNil))))) (fCallB fn__law_take 0 (fCons (fC (.int 3)) fNil))) fNil))))
noncomputable def fn__law_cart : List PyData → List PyData → Option (PyData × List PyData) := runB 0 b__law_cart
noncomputable def b__law_folk : FS :=
    (sSeq (sOwn 2 (fLst fNil))
    (sSeq (sAsg (fOp dAdd (fC (.int 1)) (fCallB fn__law_take 0 (fCons (fOp dIx (fOfL (fLst (fCons (fC (.int 4)) (fCons (fC (.int 100)) fNil)))) (fCallB fn__law_take 0 (fCons (fC (.int 2)) fNil))) fNil))) (gN 3))
    (sSeq (sAsg (fOp dEq (fCallB fn__law_take 0 (fCons (fC (.int 3)) fNil)) (fC (.int 0))) (gN 4))
    (sSeq (sFor (fItems (fSl (fOfL (fLst (fCons (fC (.str "ann")) (fCons (fC (.str "bo")) (fCons (fC (.str "cy")) (fCons (fC (.str "dee")) (fCons (fC (.str "eli")) (fCons (fC (.str "fay")) (fCons (fC (.str "gus")) fNil))))))))) fNoPart (fPart (fOp dAdd (fC (.int 1)) (fCallB fn__law_take 0 (fCons (fVar 1) fNil)))))) (gN 5) (sSeq (sAsg (fOp dAdd (fC (.int 1)) (fCallB fn__law_take 0 (fCons (fOp dIx (fOfL (fLst (fCons (fC (.int 5)) (fCons (fC (.int 60)) (fCons (fC (.int 200)) fNil))))) (fCallB fn__law_take 0 (fCons (fC (.int 3)) fNil))) fNil))) (gN 6))
    (sApp 2 (fTup (fCons (fVar 5) (fCons (fVar 6) (fCons (fIf (fTest (fVar 4)) (fVar 3) (fOp dAdd (fC (.int 1)) (fCallB fn__law_take 0 (fCons (fOp dIx (fOfL (fLst (fCons (fC (.int 5)) (fCons (fC (.int 100)) fNil)))) (fCallB fn__law_take 0 (fCons (fC (.int 2)) fNil))) fNil)))) fNil)))))))
    (sRet (fUn dTuple (fVarB 2)))))))
noncomputable def fn__law_folk : List PyData → List PyData → Option (PyData × List PyData) := runB 5 b__law_folk
noncomputable def b__law_mixed : FS :=
    (sSeq (sOwn 2 (fLst fNil))
    (sSeq (sFor (fItems (fVar 1)) (gN 3) (sIns 2 (fCallB fn__law_take 0 (fCons (fOp dAdd (fUn dLen (fVarB 2)) (fC (.int 1))) fNil)) (fVar 3)))
    (sRetO 2)))
noncomputable def fn__law_mixed : List PyData → List PyData → Option (PyData × List PyData) := runB 2 b__law_mixed
noncomputable def b__law_leaps : FS :=
    (sSeq (sOwn 2 (fLst fNil))
    (sSeq (sAsg (fSl (fCallB fn__law_mixed 0 (fCons (fVar 1) fNil)) fNoPart (fPart (fCallB fn__law_take 0 (fCons (fOp dAdd (fUn dLen (fVar 1)) (fC (.int 1))) fNil)))) (gN 3))
    (sSeq (sWhile (fTest (fOp dNe (fVar 3) (fOfL (fLst fNil)))) (sSeq (sAsg (fOp dAdd (fC (.int 1)) (fCallB fn__law_take 0 (fCons (fMin (fC (.int 3)) (fUn dLen (fVar 3))) fNil))) (gN 4))
    (sSeq (sAsg (fOfL (fLc (fItems (fSl (fVar 3) fNoPart (fPart (fVar 4)))) [6] (gN 6) fYes (fTup (fCons (fOp dIx (fVar 6) (fC (.int 0))) (fCons (fOp dSub (fC (.int 1)) (fOp dMul (fC (.int 2)) (fCallB fn__law_take 0 (fCons (fC (.int 2)) fNil)))) fNil))))) (gN 5))
    (sSeq (sApp 2 (fUn dTuple (fOfL (fUnL dSorted (fVar 5)))))
    (sAsg (fSl (fVar 3) (fPart (fVar 4)) fNoPart) (gN 3))))))
    (sRetO 2))))
noncomputable def fn__law_leaps : List PyData → List PyData → Option (PyData × List PyData) := runB 5 b__law_leaps
noncomputable def b__law_left : FS :=
    (sRet (fUn dTuple (fOfL (fLc (fItems (fVar 0)) [2] (gN 2) (fTest (fOp (dInA true) (fOp dIx (fVar 2) (fC (.int 0))) (fVar 1))) (fVar 2)))))
noncomputable def fn__law_left : List PyData → Option PyData := runD 1 b__law_left
noncomputable def b__law_weight : FS :=
    (sRet (fOp dAdd (fVar 0) (fUn dSum (fOfL (fLc (fItems (fVar 1)) [2] (gN 2) fYes (fOp dIx (fVar 2) (fC (.int 1))))))))
noncomputable def fn__law_weight : List PyData → Option PyData := runD 1 b__law_weight
noncomputable def b__law_behind : FS :=
    (sSeq (sAsg (fUn dDict (fOfL (fLc (fItems (fVar 1)) [8] (gN 8) fYes (fTup (fCons (fOp dIx (fVar 8) (fC (.int 0))) (fCons (fVar 8) fNil)))))) (gN 4))
    (sSeq (sAsg (fCall fn__law_times (fCons (fVar 2) (fCons (fCall fn__law_weight (fCons (fVar 0) (fCons (fVar 1) fNil))) fNil))) (gN 5))
    (sSeq (sFor (fItems (fVar 3)) (gTp 2 (gCs (gN 6) (gCs (gN 7) gNl))) (sAsg (fCall fn__law_plus (fCons (fVar 5) (fCons (fTup (fCons (fOp dSub (fC (.int 0)) (fOp dMul (fOp dMul (fOp dIx (fOp dGet (fVar 4) (fVar 6)) (fC (.int 1))) (fOp dIx (fOp dGet (fVar 4) (fVar 6)) (fC (.int 2)))) (fVar 7))) (fCons (fC (.int 1)) fNil))) fNil))) (gN 5)))
    (sRet (fCall fn__law_lowest (fCons (fOp dIx (fVar 5) (fC (.int 0))) (fCons (fOp dMul (fOp dIx (fVar 5) (fC (.int 1))) (fCall fn__law_weight (fCons (fVar 0) (fCons (fVar 1) fNil)))) fNil)))))))
noncomputable def fn__law_behind : List PyData → Option PyData := runD 5 b__law_behind
noncomputable def b__law_run : FS :=
    (sSeq (sOwn 4 (fLst fNil))
    (sSeq (sFor (fItems (fVar 3)) (gN 5) (sSeq (sAsg (fCall fn__law_behind (fCons (fVar 0) (fCons (fVar 1) (fCons (fVar 2) (fCons (fVar 5) fNil))))) (gN 2))
    (sSeq (sOwn 6 (fLst fNil))
    (sSeq (sFor (fItems (fVar 5)) (gTp 2 (gCs (gN 7) (gCs (gN 8) gNl))) (sSeq (sAsg (fOp dIx (fOfL (fLc (fItems (fVar 1)) [10] (gN 10) (fTest (fOp dEq (fOp dIx (fVar 10) (fC (.int 0))) (fVar 7))) (fOp dIx (fVar 10) (fC (.int 2))))) (fC (.int 0))) (gN 9))
    (sApp 6 (fTup (fCons (fVar 7) (fCons (fCall fn__law_plus (fCons (fVar 2) (fCons (fTup (fCons (fOp dMul (fVar 9) (fVar 8)) (fCons (fC (.int 1)) fNil))) fNil))) fNil))))))
    (sSeq (sFrz 6 (sApp 4 (fTup (fCons (fVar 2) (fCons (fVar 6) fNil)))))
    (sAsg (fCall fn__law_left (fCons (fVar 1) (fCons (fOfL (fLc (fItems (fVar 5)) [7, 8] (gTp 2 (gCs (gN 7) (gCs (gN 8) gNl))) fYes (fVar 7))) fNil))) (gN 1)))))))
    (sRetO 4)))
noncomputable def fn__law_run : List PyData → Option PyData := runD 7 b__law_run
noncomputable def b_times : FS :=
    (sRet (fCall fn_fraction (fCons (fOp dMul (fOp dIx (fVar 0) (fC (.int 0))) (fOp dIx (fVar 1) (fC (.int 0)))) (fCons (fOp dMul (fOp dIx (fVar 0) (fC (.int 1))) (fOp dIx (fVar 1) (fC (.int 1)))) fNil))))
noncomputable def fn_times : List PyData → Option PyData := runD 0 b_times
noncomputable def b_run_on : FS :=
    (sRet (fCall fn_plus (fCons (fVar 0) (fCons (fCall fn_times (fCons (fVar 1) (fCons (fCall fn_plus_whole (fCons (fVar 3) (fCons (fUn dNeg (fVar 2)) fNil))) fNil))) fNil))))
noncomputable def fn_run_on : List PyData → Option PyData := runD 0 b_run_on
noncomputable def b_places : FS :=
    (sSeq (sAsg (fOfL (fLc (fItems (fVar 2)) [11, 12] (gTp 2 (gCs (gN 11) (gCs (gN 12) gNl))) (fTest (fOp dLe (fOp dMul (fVar 11) (fOp dIx (fVar 3) (fC (.int 1)))) (fOp dIx (fVar 3) (fC (.int 0))))) (fTup (fCons (fVar 11) (fCons (fVar 12) fNil))))) (gN 4))
    (sSeq (sAsg (fOfL (fCallL fn_speeds (fCons (fVar 0) (fCons (fVar 1) (fCons (fC (.tuple [.int (0), .int (1)])) (fCons (fOfL (fLc (fItems (fVar 4)) [11, 12] (gTp 2 (gCs (gN 11) (gCs (gN 12) gNl))) fYes (fVar 12))) fNil)))))) (gN 5))
    (sSeq (sAsg (fCall fn_leap_by_name (fCons (fVar 1) fNil)) (gN 6))
    (sSeq (sAsg (fC (.tuple [.int (0), .int (1)])) (gN 7))
    (sSeq (sAsg (fC (.tuple [.int (0), .int (1)])) (gN 8))
    (sSeq (sAsg (fC (.int 0)) (gN 9))
    (sSeq (sOwnD 10 fNewD)
    (sSeq (sFor (fZip (fVar 4) (fVar 5)) (gTp 2 (gCs (gTp 2 (gCs (gN 11) (gCs (gN 12) gNl))) (gCs (gN 13) gNl))) (sSeq (sAsg (fCall fn_run_on (fCons (fVar 7) (fCons (fVar 8) (fCons (fVar 9) (fCons (fTup (fCons (fVar 11) (fCons (fC (.int 1)) fNil))) fNil))))) (gN 7))
    (sSeq (sFor (fItems (fCall fn_leaper_speeds (fCons (fVar 6) (fCons (fVar 13) (fCons (fVar 12) fNil))))) (gTp 2 (gCs (gN 14) (gCs (gN 15) gNl))) (sDPutO 10 (fVar 14) (fCall fn_run_on (fCons (fVar 7) (fCons (fVar 15) (fCons (fVar 11) (fCons (fVar 3) fNil)))))))
    (sSeq (sAsg (fVar 13) (gN 8))
    (sAsg (fVar 11) (gN 9))))))
    (sSeq (sAsg (fCall fn_run_on (fCons (fVar 7) (fCons (fVar 8) (fCons (fVar 9) (fCons (fVar 3) fNil))))) (gN 7))
    (sFrzD 10 (sRetL (fAddL (fOfL (fLst (fCons (fTup (fCons (fC (.str "")) (fCons (fVar 7) fNil))) fNil))) (fOfL (fLc (fItems (fCall fn_names_of (fCons (fVar 1) fNil))) [14] (gN 14) fYes (fTup (fCons (fVar 14) (fCons (fDGet2 (fVar 10) (fVar 14) (fVar 7)) fNil)))))))))))))))))
noncomputable def fn_places : List PyData → Option (List PyData) := runL 12 b_places
noncomputable def b__law_less : FS :=
    (sRet (fOp dLt (fOp dMul (fOp dIx (fVar 0) (fC (.int 0))) (fOp dIx (fVar 1) (fC (.int 1)))) (fOp dMul (fOp dIx (fVar 1) (fC (.int 0))) (fOp dIx (fVar 0) (fC (.int 1))))))
noncomputable def fn__law_less : List PyData → Option PyData := runD 0 b__law_less
noncomputable def b__law_timed : FS :=
    (sSeq (sOwnD 2 fNewD)
    (sSeq (sAsg (fCallB fn__law_leaps 0 (fCons (fVar 1) fNil)) (gN 3))
    (sSeq (sFor (fItems (fVar 3)) (gN 4) (sDPutO 2 (fCallB fn__law_take 0 (fCons (fOp dIx (fOfL (fLst (fCons (fC (.int 9)) (fCons (fC (.int 60)) (fCons (fC (.int 1001)) fNil))))) (fCallB fn__law_take 0 (fCons (fC (.int 3)) fNil))) fNil)) (fC (.bool true))))
    (sSeq (sFrzD 2 (sAsg (fOfL (fUnL dSortDI (fVar 2))) (gN 5)))
    (sRetL (fListZip (fVar 5) (fSl (fVar 3) fNoPart (fPart (fUn dLen (fVar 5))))))))))
noncomputable def fn__law_timed : List PyData → List PyData → Option (PyData × List PyData) := runB 4 b__law_timed
noncomputable def b__law_places : FS :=
    (sSeq (sAsg (fOfL (fLc (fItems (fVar 2)) [20] (gN 20) (fNot (fTest (fCall fn__law_less (fCons (fVar 3) (fCons (fTup (fCons (fOp dIx (fVar 20) (fC (.int 0))) (fCons (fC (.int 1)) fNil))) fNil))))) (fVar 20))) (gN 4))
    (sSeq (sAsg (fCall fn__law_run (fCons (fVar 0) (fCons (fVar 1) (fCons (fTup (fCons (fC (.int 0)) (fCons (fC (.int 1)) fNil))) (fCons (fOfL (fLc (fItems (fVar 4)) [20] (gN 20) fYes (fOp dIx (fVar 20) (fC (.int 1))))) fNil))))) (gN 5))
    (sSeq (sAsg (fOp dAdd (fOfL (fLc (fItems (fSl (fVar 4) (fPart (fC (.int 1))) fNoPart)) [20] (gN 20) fYes (fTup (fCons (fOp dIx (fVar 20) (fC (.int 0))) (fCons (fC (.int 1)) fNil))))) (fOfL (fLst (fCons (fVar 3) fNil)))) (gN 6))
    (sSeq (sOwnD 7 (fDictD (fOfL (fLc (fItems (fVar 1)) [18] (gN 18) fYes (fTup (fCons (fOp dIx (fVar 18) (fC (.int 0))) (fCons (fTup (fCons (fC (.int 0)) (fCons (fC (.int 1)) fNil))) fNil)))))))
    (sSeq (sOwnD 8 (fDictD (fOfL (fLc (fItems (fVar 1)) [18] (gN 18) fYes (fTup (fCons (fOp dIx (fVar 18) (fC (.int 0))) (fCons (fTup (fCons (fC (.int 0)) (fCons (fC (.int 1)) fNil))) fNil)))))))
    (sSeq (sPar3 9 10 11 (fCons (fTup (fCons (fC (.int 0)) (fCons (fC (.int 1)) fNil))) (fCons (fTup (fCons (fC (.int 0)) (fCons (fC (.int 1)) fNil))) (fCons (fOfL (fLst fNil)) fNil))))
    (sSeq (sFor (fUnL numOf (fVar 4)) (gTp 2 (gCs (gN 12) (gCs (gTp 2 (gCs (gN 13) (gCs (gN 14) gNl))) gNl))) (sSeq (sAsg (fOp dIx (fOp dIx (fVar 5) (fVar 12)) (fC (.int 0))) (gN 9))
    (sSeq (sAsg (fOp dAdd (fVar 11) (fOfL (fLc (fItems (fVar 14)) [15, 21] (gTp 2 (gCs (gN 15) (gCs (gN 21) gNl))) fYes (fVar 15)))) (gN 11))
    (sSeq (sFor (fItems (fOp dIx (fOp dIx (fVar 5) (fVar 12)) (fC (.int 1)))) (gTp 2 (gCs (gN 15) (gCs (gN 16) gNl))) (sDPutO 7 (fVar 15) (fVar 16)))
    (sSeq (sAsg (fCall fn__law_plus (fCons (fOp dIx (fVar 6) (fVar 12)) (fCons (fTup (fCons (fOp dSub (fC (.int 0)) (fVar 13)) (fCons (fC (.int 1)) fNil))) fNil))) (gN 17))
    (sSeq (sAsg (fCall fn__law_plus (fCons (fVar 10) (fCons (fCall fn__law_lowest (fCons (fOp dMul (fOp dIx (fVar 9) (fC (.int 0))) (fOp dIx (fVar 17) (fC (.int 0)))) (fCons (fOp dMul (fOp dIx (fVar 9) (fC (.int 1))) (fOp dIx (fVar 17) (fC (.int 1)))) fNil))) fNil))) (gN 10))
    (sFor (fItems (fVar 1)) (gN 18) (sSeq (sAsg (fIf (fTest (fOp (dInA false) (fOp dIx (fVar 18) (fC (.int 0))) (fVar 11))) (fDGetO 7 (fOp dIx (fVar 18) (fC (.int 0)))) (fVar 9)) (gN 19))
    (sDPutO 8 (fOp dIx (fVar 18) (fC (.int 0))) (fCall fn__law_plus (fCons (fDGetO 8 (fOp dIx (fVar 18) (fC (.int 0)))) (fCons (fCall fn__law_lowest (fCons (fOp dMul (fOp dIx (fVar 19) (fC (.int 0))) (fOp dIx (fVar 17) (fC (.int 0)))) (fCons (fOp dMul (fOp dIx (fVar 19) (fC (.int 1))) (fOp dIx (fVar 17) (fC (.int 1)))) fNil))) fNil))))))))))))
    (sRetL (fAddL (fOfL (fLst (fCons (fTup (fCons (fC (.str "")) (fCons (fVar 10) fNil))) fNil))) (fOfL (fLc (fItems (fVar 1)) [18] (gN 18) fYes (fTup (fCons (fOp dIx (fVar 18) (fC (.int 0))) (fCons (fDGetO 8 (fOp dIx (fVar 18) (fC (.int 0)))) fNil))))))))))))))
noncomputable def fn__law_places : List PyData → Option (List PyData) := runL 18 b__law_places
noncomputable def b_row_of : FS :=
    (sRet (fOp dIx (fOfL (fLc (fItems (fVar 0)) [2] (gN 2) (fTest (fOp dEq (fOp dIx (fVar 2) (fC (.int 0))) (fVar 1))) (fVar 2))) (fC (.int 0))))
noncomputable def fn_row_of : List PyData → Option PyData := runD 1 b_row_of
noncomputable def b_others : FS :=
    (sRet (fUn dTuple (fOfL (fLc (fItems (fVar 0)) [2] (gN 2) (fTest (fOp dNe (fOp dIx (fVar 2) (fC (.int 0))) (fVar 1))) (fVar 2)))))
noncomputable def fn_others : List PyData → Option PyData := runD 1 b_others
noncomputable def b_heavy_by : FS :=
    (sSeq (sAsg (fOp dIx (fCall fn_row_of (fCons (fVar 1) (fCons (fVar 2) fNil))) (fC (.int 2))) (gN 4))
    (sSeq (sAsg (fCall fn_weigh (fCons (fVar 0) (fCons (fCall fn_others (fCons (fVar 1) (fCons (fVar 2) fNil))) fNil))) (gN 5))
    (sSeq (sAsg (fVar 3) (gTp 2 (gCs (gN 6) (gCs (gN 7) gNl))))
    (sSeq (sIf (fTest (fOp dGeI (fVar 6) (fOp dMul (fVar 4) (fVar 7)))) (sRet (fC .none)) sNx)
    (sRet (fCall fn_fraction (fCons (fOp dMul (fVar 6) (fVar 5)) (fCons (fOp dSub (fOp dMul (fVar 4) (fVar 7)) (fVar 6)) fNil))))))))
noncomputable def fn_heavy_by : List PyData → Option PyData := runD 4 b_heavy_by
noncomputable def b_leap_by : FS :=
    (sSeq (sAsg (fOp dIx (fCall fn_row_of (fCons (fVar 1) (fCons (fVar 2) fNil))) (fC (.int 1))) (gN 4))
    (sSeq (sAsg (fVar 3) (gTp 2 (gCs (gN 5) (gCs (gN 6) gNl))))
    (sRet (fCall fn_fraction (fCons (fOp dMul (fVar 5) (fCall fn_weigh (fCons (fVar 0) (fCons (fVar 1) fNil)))) (fCons (fOp dMul (fVar 4) (fVar 6)) fNil))))))
noncomputable def fn_leap_by : List PyData → Option PyData := runD 3 b_leap_by
noncomputable def b_is_whole : FS :=
    (sRet (fBool (fAnd (fTest (fUn (isiD "int") (fVar 0))) (fTest (fBool (fNot (fTest (fUn (isiD "bool") (fVar 0)))))))))
noncomputable def fn_is_whole : List PyData → Option PyData := runD 0 b_is_whole
noncomputable def b_is_tuple_of : FS :=
    (sRet (fBool (fAnd (fTest (fUn (isiD "tuple") (fVar 0))) (fTest (fOp dEq (fUn dLen (fVar 0)) (fVar 1))))))
noncomputable def fn_is_tuple_of : List PyData → Option PyData := runD 0 b_is_tuple_of
noncomputable def b_is_fraction : FS :=
    (sSeq (sIf (fNot (fTest (fCall fn_is_tuple_of (fCons (fVar 0) (fCons (fC (.int 2)) fNil))))) (sRet (fC (.bool false))) sNx)
    (sSeq (sAsg (fVar 0) (gTp 2 (gCs (gN 1) (gCs (gN 2) gNl))))
    (sSeq (sIf (fOr (fNot (fTest (fCall fn_is_whole (fCons (fVar 1) fNil)))) (fOr (fNot (fTest (fCall fn_is_whole (fCons (fVar 2) fNil)))) (fTest (fOp dLt (fVar 2) (fC (.int 1)))))) (sRet (fC (.bool false))) sNx)
    (sRet (fOp dEq (fCall fn_common_divisor (fCons (fVar 1) (fCons (fVar 2) fNil))) (fC (.int 1)))))))
noncomputable def fn_is_fraction : List PyData → Option PyData := runD 2 b_is_fraction
noncomputable def b_is_at_least : FS :=
    (sRet (fOp dGeI (fOp dMul (fOp dIx (fVar 0) (fC (.int 0))) (fOp dIx (fVar 1) (fC (.int 1)))) (fOp dMul (fOp dIx (fVar 1) (fC (.int 0))) (fOp dIx (fVar 0) (fC (.int 1))))))
noncomputable def fn_is_at_least : List PyData → Option PyData := runD 0 b_is_at_least
noncomputable def b_lot_weights : FS :=
    (sSeq (sAsg (fOfL (fLst (fCons (fVar 0) fNil))) (gN 2))
    (sSeq (sFor (fItems (fVar 1)) (gTp 3 (gCs (gN 3) (gCs (gN 4) (gCs (gN 5) gNl)))) (sAsg (fOp dAdd (fVar 2) (fOfL (fLc (fItems (fVar 2)) [6] (gN 6) fYes (fOp dAdd (fVar 6) (fVar 4))))) (gN 2)))
    (sRet (fVar 2))))
noncomputable def fn_lot_weights : List PyData → Option PyData := runD 5 b_lot_weights
noncomputable def b_lot_pushes : FS :=
    (sSeq (sAsg (fOfL (fLst (fCons (fTup fNil) fNil))) (gN 2))
    (sSeq (sFor (fItems (fVar 0)) (gTp 3 (gCs (gN 3) (gCs (gN 4) (gCs (gN 5) gNl)))) (sSeq (sAsg (fTup (fCons (fUn dLen (fVar 2)) (fCons (fOp dMul (fOp dMul (fVar 1) (fVar 4)) (fVar 5)) fNil))) (gN 6))
    (sAsg (fOp dAdd (fVar 2) (fOfL (fLc (fItems (fVar 2)) [7] (gN 7) fYes (fOp dAdd (fVar 7) (fTup (fCons (fVar 6) fNil)))))) (gN 2))))
    (sRet (fVar 2))))
noncomputable def fn_lot_pushes : List PyData → Option PyData := runD 6 b_lot_pushes
noncomputable def b_rising_lots : FS :=
    (sSeq (sAsg (fOfL (fLst (fCons (fTup (fCons (fTup fNil) (fCons (fC (.int 0)) fNil))) fNil))) (gN 1))
    (sSeq (sAsg (fOp dShl (fC (.int 1)) (fUn dLen (fVar 0))) (gN 2))
    (sSeq (sFor (fUnL revOf (fCall fn_names_of (fCons (fVar 0) fNil))) (gN 3) (sSeq (sAsg (fOp dDiv (fVar 2) (fC (.int 2))) (gN 2))
    (sAsg (fOp dAdd (fOp dAdd (fSl (fVar 1) fNoPart (fPart (fC (.int 1)))) (fOfL (fLc (fItems (fVar 1)) [4, 5] (gTp 2 (gCs (gN 4) (gCs (gN 5) gNl))) fYes (fTup (fCons (fOp dAdd (fTup (fCons (fVar 3) fNil)) (fVar 4)) (fCons (fOp dAdd (fVar 2) (fVar 5)) fNil)))))) (fSl (fVar 1) (fPart (fC (.int 1))) fNoPart)) (gN 1))))
    (sRet (fVar 1)))))
noncomputable def fn_rising_lots : List PyData → Option PyData := runD 5 b_rising_lots
noncomputable def b_most_drive : FS :=
    (sSeq (sAsg (fUn dLen (fVar 0)) (gN 3))
    (sSeq (sAsg (fTup (fCons (fUn dNeg (fC (.int 1))) (fCons (fC (.int 0)) (fCons (fC (.int 0)) fNil)))) (gTp 3 (gCs (gN 4) (gCs (gN 5) (gCs (gN 6) gNl)))))
    (sSeq (sFor (fItems (fVar 1)) (gTp 2 (gCs (gN 7) (gCs (gN 8) gNl))) (sSeq (sAsg (fOp dIx (fVar 0) (fOp dSub (fVar 3) (fVar 7))) (gTp 3 (gCs (gN 9) (gCs (gN 10) (gCs (gN 11) gNl)))))
    (sSeq (sAsg (fOp dAdd (fOp dMul (fVar 9) (fVar 2)) (fOp dMul (fVar 8) (fVar 10))) (gN 9))
    (sIf (fTest (fOp dGtI (fOp dMul (fVar 9) (fVar 5)) (fOp dMul (fVar 4) (fVar 10)))) (sPar3 4 5 6 (fCons (fVar 9) (fCons (fVar 10) (fCons (fVar 7) fNil)))) sNx))))
    (sRet (fTup (fCons (fVar 4) (fCons (fOp dMul (fVar 5) (fVar 2)) (fCons (fVar 6) fNil))))))))
noncomputable def fn_most_drive : List PyData → Option PyData := runD 9 b_most_drive
noncomputable def b_most_drives : FS :=
    (sSeq (sAsg (fCall fn_lot_weights (fCons (fVar 0) (fCons (fVar 1) fNil))) (gN 3))
    (sSeq (sOwn 4 (fLst (fCons (fTup (fCons (fC (.int 0)) (fCons (fC (.int 1)) (fCons (fC (.int 0)) fNil)))) fNil)))
    (sSeq (sFor (fUnL numAny (fCall fn_lot_pushes (fCons (fVar 1) (fCons (fVar 2) fNil)))) (gTp 2 (gCs (gN 5) (gCs (gN 6) gNl))) (sIf (fTest (fOp dGtI (fVar 5) (fC (.int 0)))) (sApp 4 (fCallO fn_most_drive 4 (fCons (fVar 6) (fCons (fOp dIx (fVar 3) (fVar 5)) fNil)))) sNx))
    (sRetO 4))))
noncomputable def fn_most_drives : List PyData → Option (List PyData) := runL 4 b_most_drives
noncomputable def b_greatest : FS :=
    (sSeq (sAsg (fOp dIx (fOfL (fCallLD fn_most_drives [(1)] (fCons (fVar 0) (fCons (fVar 1) fNil)))) (fUn dNeg (fC (.int 1)))) (gTp 3 (gCs (gN 2) (gCs (gN 3) (gCs (gN 4) gNl)))))
    (sRet (fCall fn_fraction (fCons (fVar 2) (fCons (fVar 3) fNil)))))
noncomputable def fn_greatest : List PyData → Option PyData := runD 3 b_greatest
noncomputable def b_slowest : FS :=
    (sSeq (sAsg (fOp dIx (fOfL (fCallL fn_most_drives (fCons (fVar 0) (fCons (fVar 1) (fCons (fUn dNeg (fC (.int 1))) fNil))))) (fUn dNeg (fC (.int 1)))) (gTp 3 (gCs (gN 2) (gCs (gN 3) (gCs (gN 4) gNl)))))
    (sRet (fCall fn_fraction (fCons (fUn dNeg (fVar 2)) (fCons (fVar 3) fNil)))))
noncomputable def fn_slowest : List PyData → Option PyData := runD 3 b_slowest
noncomputable def b_best_order : FS :=
    (sSeq (sAsg (fOfL (fCallLD fn_most_drives [(1)] (fCons (fVar 0) (fCons (fVar 1) fNil)))) (gN 2))
    (sSeq (sAsg (fDc (fUnL numAny (fCall fn_names_of (fCons (fVar 1) fNil))) [7, 8] (gTp 2 (gCs (gN 7) (gCs (gN 8) gNl))) fYes (fOp dShl (fC (.int 1)) (fVar 7)) (fVar 8)) (gN 3))
    (sSeq (sAsg (fOp dSub (fUn dLen (fVar 2)) (fC (.int 1))) (gN 4))
    (sSeq (sOwn 5 (fLst fNil))
    (sSeq (sWhile (fTest (fOp dGtI (fVar 4) (fC (.int 0)))) (sSeq (sAsg (fOp dIx (fOp dIx (fVar 2) (fVar 4)) (fC (.int 2))) (gN 6))
    (sSeq (sApp 5 (fOp dGet (fVar 3) (fVar 6)))
    (sAsg (fOp dSub (fVar 4) (fVar 6)) (gN 4)))))
    (sRet (fUn dTuple (fVarB 5))))))))
noncomputable def fn_best_order : List PyData → Option PyData := runD 7 b_best_order
noncomputable def b_table : FS :=
    (sSeq (sAsg (fOfL (fLc (fItems (fOfL (fCallLD fn_most_drives [(1)] (fCons (fVar 0) (fCons (fVar 1) fNil))))) [3, 4, 5] (gTp 3 (gCs (gN 3) (gCs (gN 4) (gCs (gN 5) gNl)))) fYes (fCall fn_fraction (fCons (fVar 3) (fCons (fVar 4) fNil))))) (gN 2))
    (sRet (fUn dTuple (fOfL (fLc (fItems (fCall fn_rising_lots (fCons (fVar 1) fNil))) [6, 7] (gTp 2 (gCs (gN 6) (gCs (gN 7) gNl))) fYes (fTup (fCons (fVar 6) (fCons (fOp dIx (fVar 2) (fVar 7)) fNil))))))))
noncomputable def fn_table : List PyData → Option PyData := runD 6 b_table
noncomputable def b_is_row : FS :=
    (sRet (fBool (fAnd (fTest (fCall fn_is_tuple_of (fCons (fVar 1) (fCons (fC (.int 2)) fNil)))) (fTest (fBool (fAnd (fTest (fOp dEq (fOp dIx (fVar 1) (fC (.int 0))) (fVar 0))) (fTest (fCall fn_is_fraction (fCons (fOp dIx (fVar 1) (fC (.int 1))) fNil)))))))))
noncomputable def fn_is_row : List PyData → Option PyData := runD 0 b_is_row
noncomputable def b_bounds_lot : FS :=
    (sSeq (sAsg (fOp dGet (fVar 0) (fVar 1)) (gTp 2 (gCs (gN 4) (gCs (gN 5) gNl))))
    (sSeq (sAsg (fOp dMul (fVar 4) (fVar 3)) (gN 6))
    (sSeq (sAsg (fOp dMul (fVar 5) (fVar 3)) (gN 7))
    (sSeq (sFor (fItems (fVar 2)) (gTp 2 (gCs (gN 8) (gCs (gN 9) gNl))) (sSeq (sAsg (fOp dGet (fVar 0) (fOp dSub (fVar 1) (fVar 8))) (gTp 2 (gCs (gN 10) (gCs (gN 11) gNl))))
    (sIf (fTest (fOp dLt (fOp dMul (fOp dSub (fVar 6) (fOp dMul (fVar 9) (fVar 5))) (fVar 11)) (fOp dMul (fVar 10) (fVar 7)))) (sRet (fC (.bool false))) sNx)))
    (sRet (fC (.bool true)))))))
noncomputable def fn_bounds_lot : List PyData → Option PyData := runD 8 b_bounds_lot
noncomputable def b_are_bounds : FS :=
    (sSeq (sIf (fNot (fTest (fCall fn_is_at_least (fCons (fOp dGet (fVar 2) (fC (.int 0))) (fCons (fC (.tuple [.int (0), .int (1)])) fNil))))) (sRet (fC (.bool false))) sNx)
    (sSeq (sAsg (fCall fn_lot_weights (fCons (fVar 0) (fCons (fVar 1) fNil))) (gN 3))
    (sRet (fUn dAll (fOfL (fLc (fUnL numAny (fCallD fn_lot_pushes [(1)] (fCons (fVar 1) fNil))) [4, 5] (gTp 2 (gCs (gN 4) (gCs (gN 5) gNl))) fYes (fCall fn_bounds_lot (fCons (fVar 2) (fCons (fVar 4) (fCons (fVar 5) (fCons (fOp dIx (fVar 3) (fVar 4)) fNil)))))))))))
noncomputable def fn_are_bounds : List PyData → Option PyData := runD 3 b_are_bounds
noncomputable def b_shown : FS :=
    (sSeq (sAsg (fCall fn_rising_lots (fCons (fVar 1) fNil)) (gN 3))
    (sSeq (sIf (fNot (fTest (fCall fn_is_tuple_of (fCons (fVar 2) (fCons (fUn dLen (fVar 3)) fNil))))) (sRet (fC .none)) sNx)
    (sSeq (sOwnD 4 fNewD)
    (sSeq (sFor (fZipB (fVar 3) (fVar 2)) (gTp 2 (gCs (gTp 2 (gCs (gN 5) (gCs (gN 6) gNl))) (gCs (gN 7) gNl))) (sSeq (sIf (fNot (fTest (fCall fn_is_row (fCons (fVar 5) (fCons (fVar 7) fNil))))) (sRet (fC .none)) sNx)
    (sDPutO 4 (fVar 6) (fOp dIx (fVar 7) (fC (.int 1))))))
    (sFrzD 4 (sSeq (sIf (fNot (fTest (fCall fn_are_bounds (fCons (fVar 0) (fCons (fVar 1) (fCons (fVar 4) fNil)))))) (sRet (fC .none)) sNx)
    (sRet (fOp dGet (fVar 4) (fOp dSub (fUn dLen (fVar 3)) (fC (.int 1)))))))))))
noncomputable def fn_shown : List PyData → Option PyData := runD 5 b_shown
noncomputable def b__law_names : FS :=
    (sRet (fUn dTuple (fOfL (fLc (fItems (fVar 0)) [1] (gN 1) fYes (fOp dIx (fVar 1) (fC (.int 0)))))))
noncomputable def fn__law_names : List PyData → Option PyData := runD 1 b__law_names
noncomputable def b__law_parted : FS :=
    (sSeq (sAsg (fOfL (fLst fNil)) (gN 1))
    (sSeq (sFor (fItems (fVar 0)) (gN 2) (sAsg (fOp dAdd (fVar 1) (fOfL (fLc (fItems (fVar 2)) [3] (gN 3) fYes (fTup (fCons (fVar 3) fNil))))) (gN 1)))
    (sRet (fVar 1))))
noncomputable def fn__law_parted : List PyData → Option PyData := runD 3 b__law_parted
noncomputable def b__law_last : FS :=
    (sRet (fOp dIx (fOp dAdd (fOfL (fLst (fCons (fTup (fCons (fC (.int 0)) (fCons (fC (.int 1)) fNil))) fNil))) (fOfL (fCallL fn_speeds (fCons (fVar 0) (fCons (fVar 1) (fCons (fTup (fCons (fC (.int 0)) (fCons (fC (.int 1)) fNil))) (fCons (fVar 2) fNil))))))) (fUn dNeg (fC (.int 1)))))
noncomputable def fn__law_last : List PyData → Option PyData := runD 0 b__law_last
noncomputable def b_is_whole_within : FS :=
    (sRet (fBool (fAnd (fTest (fCall fn_is_whole (fCons (fVar 0) fNil))) (fTest (fChain dLe dLe (fVar 1) (fVar 0) (fVar 2))))))
noncomputable def fn_is_whole_within : List PyData → Option PyData := runD 0 b_is_whole_within
noncomputable def b_is_cart : FS :=
    (sRet (fCall fn_is_whole_within (fCons (fVar 0) (fCons (fC (.int 1)) (fCons (fC (.int 1000)) fNil)))))
noncomputable def fn_is_cart : List PyData → Option PyData := runD 0 b_is_cart
noncomputable def b_is_name : FS :=
    (sSeq (sIf (fOr (fNot (fTest (fUn (isiD "str") (fVar 0)))) (fNot (fTest (fChain dLe dLe (fC (.int 1)) (fUn dLen (fVar 0)) (fC (.int 8)))))) (sRet (fC (.bool false))) sNx)
    (sRet (fUn dAll (fOfL (fLc (fItems (fVar 0)) [1] (gN 1) fYes (fChain dLe dLe (fC (.str "a")) (fVar 1) (fC (.str "z"))))))))
noncomputable def fn_is_name : List PyData → Option PyData := runD 1 b_is_name
noncomputable def b_is_somebody : FS :=
    (sSeq (sIf (fNot (fTest (fCall fn_is_tuple_of (fCons (fVar 0) (fCons (fC (.int 3)) fNil))))) (sRet (fC (.bool false))) sNx)
    (sSeq (sAsg (fVar 0) (gTp 3 (gCs (gN 1) (gCs (gN 2) (gCs (gN 3) gNl)))))
    (sRet (fBool (fAnd (fTest (fCall fn_is_name (fCons (fVar 1) fNil))) (fTest (fBool (fAnd (fTest (fCall fn_is_whole_within (fCons (fVar 2) (fCons (fC (.int 1)) (fCons (fC (.int 200)) fNil))))) (fTest (fCall fn_is_whole_within (fCons (fVar 3) (fCons (fC (.int 1)) (fCons (fC (.int 100)) fNil)))))))))))))
noncomputable def fn_is_somebody : List PyData → Option PyData := runD 3 b_is_somebody
noncomputable def b_names_rise : FS :=
    (sSeq (sAsg (fCall fn_names_of (fCons (fVar 0) fNil)) (gN 1))
    (sRet (fUn dAll (fOfL (fLc (fZip (fVar 1) (fSl (fVar 1) (fPart (fC (.int 1))) fNoPart)) [2, 3] (gTp 2 (gCs (gN 2) (gCs (gN 3) gNl))) fYes (fOp dLt (fVar 2) (fVar 3)))))))
noncomputable def fn_names_rise : List PyData → Option PyData := runD 3 b_names_rise
noncomputable def b_are_folk : FS :=
    (sSeq (sIf (fOr (fNot (fTest (fUn (isiD "tuple") (fVar 0)))) (fNot (fTest (fChain dLe dLe (fC (.int 1)) (fUn dLen (fVar 0)) (fC (.int 7)))))) (sRet (fC (.bool false))) sNx)
    (sRet (fBool (fAnd (fTest (fUn dAll (fOfL (fLc (fItems (fVar 0)) [1] (gN 1) fYes (fCall fn_is_somebody (fCons (fVar 1) fNil)))))) (fTest (fCall fn_names_rise (fCons (fVar 0) fNil)))))))
noncomputable def fn_are_folk : List PyData → Option PyData := runD 1 b_are_folk
noncomputable def b_is_leap : FS :=
    (sSeq (sIf (fNot (fTest (fCall fn_is_tuple_of (fCons (fVar 1) (fCons (fC (.int 2)) fNil))))) (sRet (fC (.bool false))) sNx)
    (sSeq (sAsg (fVar 1) (gTp 2 (gCs (gN 2) (gCs (gN 3) gNl))))
    (sRet (fBool (fAnd (fTest (fOp dInT (fVar 2) (fVar 0))) (fTest (fBool (fAnd (fTest (fCall fn_is_whole (fCons (fVar 3) fNil))) (fTest (fOp dInT (fVar 3) (fC (.tuple [.int (1), .int (-1)]))))))))))))
noncomputable def fn_is_leap : List PyData → Option PyData := runD 2 b_is_leap
noncomputable def b_are_at_once : FS :=
    (sSeq (sIf (fOr (fNot (fTest (fUn (isiD "tuple") (fVar 1)))) (fTest (fOp dEq (fUn dLen (fVar 1)) (fC (.int 0))))) (sRet (fC (.bool false))) sNx)
    (sRet (fBool (fAnd (fTest (fUn dAll (fOfL (fLc (fItems (fVar 1)) [2] (gN 2) fYes (fCall fn_is_leap (fCons (fVar 0) (fCons (fVar 2) fNil))))))) (fTest (fCall fn_names_rise (fCons (fVar 1) fNil)))))))
noncomputable def fn_are_at_once : List PyData → Option PyData := runD 1 b_are_at_once
noncomputable def b_are_leaps : FS :=
    (sSeq (sIf (fOr (fNot (fTest (fUn (isiD "list") (fVar 1)))) (fTest (fOp dGtI (fUn dLen (fVar 1)) (fC (.int 7))))) (sRet (fC (.bool false))) sNx)
    (sSeq (sAsg (fCall fn_names_of (fCons (fVar 0) fNil)) (gN 2))
    (sSeq (sIf (fNot (fTest (fUn dAll (fOfL (fLc (fItems (fVar 1)) [4] (gN 4) fYes (fCall fn_are_at_once (fCons (fVar 2) (fCons (fVar 4) fNil)))))))) (sRet (fC (.bool false))) sNx)
    (sSeq (sAsg (fOfL (fLc2 (fItems (fVar 1)) [4, 5, 6] (gN 4) fYes (fItems (fVar 4)) [5, 6] (gTp 2 (gCs (gN 5) (gCs (gN 6) gNl))) fYes (fVar 5))) (gN 3))
    (sRet (fOp dEq (fUn dLenSet (fVar 3)) (fUn dLen (fVar 3))))))))
noncomputable def fn_are_leaps : List PyData → Option PyData := runD 5 b_are_leaps
noncomputable def b__law_of : FS :=
    (sRet (fOp dIx (fVar 1) (fCallB fn__law_take 0 (fCons (fUn dLen (fVar 1)) fNil))))
noncomputable def fn__law_of : List PyData → List PyData → Option (PyData × List PyData) := runB 0 b__law_of
noncomputable def b__law_whole : FS :=
    (sRet (fBool (fAnd (fTest (fUn (isiD "int") (fVar 0))) (fTest (fBool (fNot (fTest (fUn (isiD "bool") (fVar 0)))))))))
noncomputable def fn__law_whole : List PyData → Option PyData := runD 0 b__law_whole
noncomputable def b__law_within : FS :=
    (sRet (fBool (fAnd (fTest (fUn (isiD "int") (fVar 0))) (fTest (fBool (fAnd (fTest (fBool (fNot (fTest (fUn (isiD "bool") (fVar 0)))))) (fTest (fChain dLe dLe (fVar 1) (fVar 0) (fVar 2)))))))))
noncomputable def fn__law_within : List PyData → Option PyData := runD 0 b__law_within
noncomputable def b__law_is_name : FS :=
    (sSeq (sIf (fOr (fNot (fTest (fUn (isiD "str") (fVar 0)))) (fNot (fTest (fChain dLe dLe (fC (.int 1)) (fUn dLen (fVar 0)) (fC (.int 8)))))) (sRet (fC (.bool false))) sNx)
    (sRet (fOp dEq (fOfL (fLc (fItems (fVar 0)) [1] (gN 1) (fTest (fOp dNotInS (fVar 1) (fC (.str "abcdefghijklmnopqrstuvwxyz")))) (fVar 1))) (fOfL (fLst fNil)))))
noncomputable def fn__law_is_name : List PyData → Option PyData := runD 1 b__law_is_name
noncomputable def b__law_odd : FS :=
    (sSeq (sAsg (fOfL (fLst (fCons (fC .none) (fCons (fC (.bool true)) (fCons (fC (.bool false)) (fCons (fC (.int 0)) (fCons (fC (.int 1)) (fCons (fUn dNeg (fC (.int 1))) (fCons (fC (.int 5)) (fCons (fOp dPow (fC (.int 10)) (fC (.int 30))) (fCons (fC (.str "")) (fCons (fC (.str "ann")) (fCons (fTup fNil) (fCons (fOfL (fLst fNil)) (fCons (fTup (fCons (fC (.int 1)) (fCons (fC (.int 2)) fNil))) (fCons (fTup (fCons (fUn dNeg (fC (.int 1))) (fCons (fC (.int 2)) fNil))) (fCons (fTup (fCons (fC (.int 2)) (fCons (fC (.int 4)) fNil))) (fCons (fTup (fCons (fC (.int 0)) (fCons (fC (.int 2)) fNil))) (fCons (fTup (fCons (fC (.int 0)) (fCons (fC (.int 1)) fNil))) fNil))))))))))))))))))) (gN 1))
    (sSeq (sAsg (fOp dAdd (fVar 1) (fOfL (fLst (fCons (fTup (fCons (fC .none) fNil)) (fCons (fTup (fCons (fC (.str "ann")) (fCons (fC (.int 1)) fNil))) (fCons (fTup (fCons (fTup (fCons (fC (.str "ann")) (fCons (fC (.int 1)) fNil))) fNil)) (fCons (fOfL (fLst (fCons (fTup (fCons (fTup (fCons (fC (.str "ann")) (fCons (fC (.int 1)) fNil))) fNil)) fNil))) (fCons (fTup (fCons (fC (.str "ann")) (fCons (fC (.bool true)) fNil))) (fCons (fTup (fCons (fTup (fCons (fC (.str "ann")) (fCons (fC (.int 1)) (fCons (fC (.int 1)) fNil)))) fNil)) (fCons (fTup (fCons (fTup fNil) (fCons (fTup (fCons (fC (.int 0)) (fCons (fC (.int 1)) fNil))) fNil))) fNil)))))))))) (gN 1))
    (sRet (fOp dIx (fVar 1) (fCallB fn__law_take 0 (fCons (fUn dLen (fVar 1)) fNil))))))
noncomputable def fn__law_odd : List PyData → List PyData → Option (PyData × List PyData) := runB 1 b__law_odd
noncomputable def b__law_spoilt (self : List PyData → List PyData → Option (PyData × List PyData)) : FS :=
    (sSeq (sAsg (fCallB fn__law_take 0 (fCons (fC (.int 9)) fNil)) (gN 2))
    (sSeq (sIf (fAnd (fTest (fUn (isiD2 "tuple" "list") (fVar 1))) (fAnd (fTest (fOp dGtI (fUn dLen (fVar 1)) (fC (.int 0)))) (fTest (fOp dGtI (fVar 2) (fC (.int 0)))))) (sSeq (sOwn 3 (fUnL seqOf (fVar 1)))
    (sSeq (sAsg (fCallB fn__law_take 0 (fCons (fUn dLen (fVarB 3)) fNil)) (gN 4))
    (sSeq (sIf (fTest (fOp dEq (fVar 2) (fC (.int 1)))) (sOwn 3 (fAddL (fSlO 3 fNoPart (fPart (fVar 4))) (fSlO 3 (fPart (fOp dAddB (fVar 4) (fC (.int 1)))) fNoPart))) (sIf (fTest (fOp dEq (fVar 2) (fC (.int 2)))) (sOwn 3 (fAddL (fSlO 3 fNoPart (fPart (fOp dAddB (fVar 4) (fC (.int 1))))) (fSlO 3 (fPart (fVar 4)) fNoPart))) (sIf (fTest (fOp dEq (fVar 2) (fC (.int 3)))) (sSeq (sAsg (fCallB fn__law_take 0 (fCons (fUn dLen (fVarB 3)) fNil)) (gN 5))
    (sSwap 3 4 5)) (sIf (fTest (fOp dEq (fVar 2) (fC (.int 4)))) (sIf (fTest (fUn (isiD "tuple") (fVar 1))) (sRetO 3) (sRet (fUn dTuple (fVarB 3)))) (sSetIx 3 (fCallB self 0 (fCons (fIxO 3 (fVar 4)) fNil)) (fVar 4))))))
    (sIf (fTest (fUn (isiD "tuple") (fVar 1))) (sRet (fUn dTuple (fVarB 3))) (sRetO 3))))) sNx)
    (sSeq (sIf (fAnd (fTest (fUn (isiD "str") (fVar 1))) (fTest (fOp dGtI (fVar 2) (fC (.int 1))))) (sRet (fOp dIx (fOfL (fLst (fCons (fOp dAddB (fVar 1) (fC (.str "a"))) (fCons (fSl (fVar 1) fNoPart (fPart (fUn dNegB (fC (.int 1))))) (fCons (fOp dAddB (fVar 1) (fC (.str " "))) (fCons (fUn dUpper (fVar 1)) (fCons (fOp dAddB (fVar 1) (fVar 1)) (fCons (fOp dAddB (fC (.str "z")) (fVar 1)) (fCons (fC (.str "")) fNil))))))))) (fOp dSubB (fVar 2) (fC (.int 2))))) sNx)
    (sSeq (sIf (fAnd (fTest (fUn (isiD "int") (fVar 1))) (fTest (fOp dGtI (fVar 2) (fC (.int 1))))) (sRet (fOp dIx (fOfL (fLst (fCons (fOp dAddB (fVar 1) (fC (.int 1))) (fCons (fOp dSubB (fVar 1) (fC (.int 1))) (fCons (fUn dNegB (fVar 1)) (fCons (fOp dAddB (fVar 1) (fC (.int 1000))) (fCons (fUn dStr (fVar 1)) (fCons (fOp dAddB (fVar 1) (fC (.int 50))) (fCons (fTup (fCons (fVar 1) fNil)) fNil))))))))) (fOp dSubB (fVar 2) (fC (.int 2))))) sNx)
    (sRet (fCallB fn__law_odd 0 fNil))))))
noncomputable def fnR__law_spoilt : Nat → List PyData → List PyData → Option (PyData × List PyData)
  | 0 => fun _ _ => none
  | n + 1 => runB 4 (b__law_spoilt (fnR__law_spoilt n))
noncomputable def fn__law_spoilt : List PyData → List PyData → Option (PyData × List PyData) := fnR__law_spoilt 32
noncomputable def b__law_are_folk : FS :=
    (sSeq (sIf (fOr (fNot (fTest (fUn (isiD "tuple") (fVar 0)))) (fNot (fTest (fChain dLe dLe (fC (.int 1)) (fUn dLen (fVar 0)) (fC (.int 7)))))) (sRet (fC (.bool false))) sNx)
    (sSeq (sFor (fItems (fVar 0)) (gN 1) (sSeq (sIf (fOr (fNot (fTest (fUn (isiD "tuple") (fVar 1)))) (fOr (fTest (fOp dNe (fUn dLen (fVar 1)) (fC (.int 3)))) (fNot (fTest (fCall fn__law_is_name (fCons (fOp dIx (fVar 1) (fC (.int 0))) fNil)))))) (sRet (fC (.bool false))) sNx)
    (sIf (fOr (fNot (fTest (fCall fn__law_within (fCons (fOp dIx (fVar 1) (fC (.int 1))) (fCons (fC (.int 1)) (fCons (fC (.int 200)) fNil)))))) (fNot (fTest (fCall fn__law_within (fCons (fOp dIx (fVar 1) (fC (.int 2))) (fCons (fC (.int 1)) (fCons (fC (.int 100)) fNil))))))) (sRet (fC (.bool false))) sNx)))
    (sSeq (sAsg (fOfL (fLc (fItems (fVar 0)) [1] (gN 1) fYes (fOp dIx (fVar 1) (fC (.int 0))))) (gN 2))
    (sRet (fOp dEq (fVar 2) (fOfL (fUnL dSortedSet (fVar 2))))))))
noncomputable def fn__law_are_folk : List PyData → Option PyData := runD 2 b__law_are_folk
noncomputable def b__law_are_leaps : FS :=
    (sSeq (sIf (fOr (fNot (fTest (fUn (isiD "list") (fVar 1)))) (fTest (fOp dGtI (fUn dLen (fVar 1)) (fC (.int 7))))) (sRet (fC (.bool false))) sNx)
    (sSeq (sAsg (fOfL (fLst fNil)) (gN 2))
    (sSeq (sFor (fItems (fVar 1)) (gN 3) (sSeq (sIf (fOr (fNot (fTest (fUn (isiD "tuple") (fVar 3)))) (fTest (fOp dEq (fVar 3) (fTup fNil)))) (sRet (fC (.bool false))) sNx)
    (sSeq (sOwn 4 (fLst fNil))
    (sSeq (sFor (fItems (fVar 3)) (gN 5) (sSeq (sIf (fOr (fNot (fTest (fUn (isiD "tuple") (fVar 5)))) (fOr (fTest (fOp dNe (fUn dLen (fVar 5)) (fC (.int 2)))) (fNot (fTest (fUn (isiD "str") (fOp dIx (fVar 5) (fC (.int 0)))))))) (sRet (fC (.bool false))) sNx)
    (sSeq (sIf (fOr (fTest (fOp (dInA true) (fOp dIx (fVar 5) (fC (.int 0))) (fOfL (fLc (fItems (fVar 0)) [6] (gN 6) fYes (fOp dIx (fVar 6) (fC (.int 0))))))) (fOr (fNot (fTest (fCall fn__law_whole (fCons (fOp dIx (fVar 5) (fC (.int 1))) fNil)))) (fTest (fOp (dInA true) (fOp dIx (fVar 5) (fC (.int 1))) (fOfL (fLst (fCons (fC (.int 1)) (fCons (fUn dNeg (fC (.int 1))) fNil)))))))) (sRet (fC (.bool false))) sNx)
    (sApp 4 (fOp dIx (fVar 5) (fC (.int 0)))))))
    (sSeq (sIf (fTest (fOpO dNe 4 (fOfL (fUnL dSortedSet (fVarB 4))))) (sRet (fC (.bool false))) sNx)
    (sFrz 4 (sAsg (fOp dAdd (fVar 2) (fVar 4)) (gN 2))))))))
    (sRet (fOp dEq (fUn dLen (fVar 2)) (fUn dLenSet (fVar 2)))))))
noncomputable def fn__law_are_leaps : List PyData → Option PyData := runD 5 b__law_are_leaps
end Lc
namespace Lc
open PySem L2 Evl RZ Sm
/-! ### items by place -/
theorem ix_t0 {a : PyData} {r : List PyData} : dIx (.tuple (a :: r)) (.int 0) = some a := atI_nat (j := 0) rfl
theorem ix_t1 {a b : PyData} {r : List PyData} : dIx (.tuple (a :: b :: r)) (.int 1) = some b := atI_nat (j := 1) rfl
theorem ix_t2 {a b c : PyData} {r : List PyData} : dIx (.tuple (a :: b :: c :: r)) (.int 2) = some c := atI_nat (j := 2) rfl
theorem ix_l0 {a : PyData} {r : List PyData} : dIx (.list (a :: r)) (.int 0) = some a := atI_nat (j := 0) rfl
theorem ix_l1 {a b : PyData} {r : List PyData} : dIx (.list (a :: b :: r)) (.int 1) = some b := atI_nat (j := 1) rfl
/-! ### sizes -/
theorem mulB {i j : Int} (hi : i.natAbs < 2 ^ 8000) (hj : j.natAbs < 2 ^ 8000) : cMulB i j = true := by
  unfold cMulB
  have h : ∀ x : Int, x.natAbs < 2 ^ 8000 → x.natAbs.log2 < 8000 := fun x hx => by
    by_cases h0 : x.natAbs = 0
    · rw [h0]
      decide
    · exact (Nat.log2_lt h0).mpr hx
  have h1 := h i hi
  have h2 := h j hj
  exact decide_eq_true (by omega)
theorem divB {i j : Int} (h0 : 0 < j) (hj : j.natAbs < 2 ^ 8000) : cDivB i j = true := by
  unfold cDivB
  have h1 : j.natAbs.log2 < 8000 := (Nat.log2_lt (by omega)).mpr hj
  rw [Bool.and_eq_true]
  exact ⟨decide_eq_true h0, decide_eq_true (by omega)⟩
theorem modB {i j : Int} (h0 : 0 < j) : cModB i j = true := decide_eq_true h0
/-! ### the common divisor -/
def tt2 (a b : Int) : En := [.dat (.int a), .dat (.int b)]
theorem gcd_whl : ∀ (n : Nat) (a b : Int), 0 ≤ a → 0 ≤ b → b.toNat < n → whl (fTest (fOp dNe (fVar 1) (fC (.int 0)))) (sPar 0 1 (fCons (fVar 1) (fCons (fOp dMod (fVar 0) (fVar 1)) fNil))) (n + 1) [.dat (.int a), .dat (.int b)] = some (.nx [.dat (.int (Int.gcd a b)), .dat (.int 0)])
  | 0, _, _, _, _, h => by omega
  | n + 1, a, b, ha, hb, h => by
    unfold whl
    by_cases h0 : b = 0
    · subst h0
      simp only [sSeq, sAsg, sRet, sRetL, sRetO, sIf, sPar, sParO, sOwn, sApp, sExt, sIns, sSetIx, sNx, sDrop, sFrz, sFor, fVar, fVarB, fC, fOp, fUn, fUnL, fNil, fCons, fTup, fLst, fOfL, fTest, fAnd, fOr, fNot, fBool, fIf, fChain, fCall, fCallL, fCallB, fItems, fRange, fZip, fSl, fSlO, fIxO, fOpO, fPart, fNoPart, fMin, fLc, fDc, fYes, gN, gTp, gCs, gNl, runD, runL, runB, orF, fI0, fI, fS0, dNeg, dAbs, dLen, dSum, dTuple, ix_t0, ix_t1, ix_t2, ix_l0, ix_l1, dGet, dHas, dictOf, Sm.keyOf, ownAt, setOwn, EV.cont, EV.with, seqOf, itemsOf, List.map_cons, List.map_nil, List.cons_append, List.nil_append, List.replicate_succ, List.replicate_zero, List.getElem?_cons_zero, List.getElem?_cons_succ, List.getElem?_nil, List.set_cons_zero, List.set_cons_succ, List.length_cons, List.length_nil, wipeE, backE, EV.mine, dNeS, scD, Option.map, decide_true, Bool.not_true]
      rw [Int.gcd_zero_right]
      congr 5
      omega
    · have hm := modB (i := a) (j := b) (by omega)
      simp only [sSeq, sAsg, sRet, sRetL, sRetO, sIf, sPar, sParO, sOwn, sApp, sExt, sIns, sSetIx, sNx, sDrop, sFrz, sFor, fVar, fVarB, fC, fOp, fUn, fUnL, fNil, fCons, fTup, fLst, fOfL, fTest, fAnd, fOr, fNot, fBool, fIf, fChain, fCall, fCallL, fCallB, fItems, fRange, fZip, fSl, fSlO, fIxO, fOpO, fPart, fNoPart, fMin, fLc, fDc, fYes, gN, gTp, gCs, gNl, runD, runL, runB, orF, fI0, fI, fS0, dNeg, dAbs, dLen, dSum, dTuple, ix_t0, ix_t1, ix_t2, ix_l0, ix_l1, dGet, dHas, dictOf, Sm.keyOf, ownAt, setOwn, EV.cont, EV.with, seqOf, itemsOf, List.map_cons, List.map_nil, List.cons_append, List.nil_append, List.replicate_succ, List.replicate_zero, List.getElem?_cons_zero, List.getElem?_cons_succ, List.getElem?_nil, List.set_cons_zero, List.set_cons_succ, List.length_cons, List.length_nil, wipeE, backE, EV.mine, dNeS, scD, Option.map, h0, decide_false, Bool.not_false, hm, if_true]
      have hlt : a % b < b := Int.emod_lt_of_pos a (by omega)
      have hge : 0 ≤ a % b := Int.emod_nonneg a h0
      rw [gcd_whl n b (a % b) hb hge (by omega)]
      have : Int.gcd b (a % b) = Int.gcd a b := by
        obtain ⟨m, rfl⟩ := Int.eq_ofNat_of_zero_le ha
        obtain ⟨k, rfl⟩ := Int.eq_ofNat_of_zero_le hb
        show Nat.gcd k ((m : Int) % (k : Int)).natAbs = Nat.gcd m k
        rw [show ((m : Int) % (k : Int)).natAbs = m % k by omega]
        rw [Nat.gcd_comm k, ← Nat.gcd_rec, Nat.gcd_comm]
      rw [this]
theorem fn_gcd (a b : Int) : fn_common_divisor [.int a, .int b] = some (.int (Int.gcd a b)) := by
  have h := sWhile_of (gcd_whl (b.natAbs + 1) (a.natAbs : Int) (b.natAbs : Int) (by omega) (by omega) (by omega))
  have e : ∀ x : Int, (if x < 0 then -x else x) = (x.natAbs : Int) := fun x => by split <;> omega
  unfold fn_common_divisor b_common_divisor
  simp only [sSeq, sAsg, sRet, sRetL, sRetO, sIf, sPar, sParO, sOwn, sApp, sExt, sIns, sSetIx, sNx, sDrop, sFrz, sFor, fVar, fVarB, fC, fOp, fUn, fUnL, fNil, fCons, fTup, fLst, fOfL, fTest, fAnd, fOr, fNot, fBool, fIf, fChain, fCall, fCallL, fCallB, fItems, fRange, fZip, fSl, fSlO, fIxO, fOpO, fPart, fNoPart, fMin, fLc, fDc, fYes, gN, gTp, gCs, gNl, runD, runL, runB, orF, fI0, fI, fS0, dNeg, dAbs, dLen, dSum, dTuple, ix_t0, ix_t1, ix_t2, ix_l0, ix_l1, dGet, dHas, dictOf, Sm.keyOf, ownAt, setOwn, EV.cont, EV.with, seqOf, itemsOf, List.map_cons, List.map_nil, List.cons_append, List.nil_append, List.replicate_succ, List.replicate_zero, List.getElem?_cons_zero, List.getElem?_cons_succ, List.getElem?_nil, List.set_cons_zero, List.set_cons_succ, List.length_cons, List.length_nil, wipeE, backE, EV.mine, e, h]
  rfl
end Lc
namespace Lc
open PySem L2 Evl RZ Sm
/-! ### fractions as rationals -/
def frD (q : Rat) : PyData := .tuple [.int q.num, .int q.den]
def Bd (n : Nat) (q : Rat) : Prop := q.num.natAbs < 2 ^ n ∧ q.den < 2 ^ n
theorem mk_num (t : Int) (b : Nat) (hb : b ≠ 0) : (mkRat t b).num = t / (Int.gcd t b : Int) ∧ ((mkRat t b).den : Int) = (b : Int) / (Int.gcd t b : Int) := by
  rw [Rat.mkRat_def, dif_neg hb, Rat.normalize_eq]
  refine ⟨rfl, ?_⟩
  show ((b / t.natAbs.gcd b : Nat) : Int) = _
  rw [Int.natCast_ediv]
  rfl
theorem mk_frD (t b : Int) (hb : 0 < b) : frD (mkRat t b.toNat) = .tuple [.int (t / (Int.gcd t b : Int)), .int (b / (Int.gcd t b : Int))] := by
  have h := mk_num t b.toNat (by omega)
  have e : ((b.toNat : Nat) : Int) = b := by omega
  rw [e] at h
  unfold frD
  rw [h.1, h.2]
theorem natAbs_div_le (t : Int) (g : Nat) : (t / (g : Int)).natAbs ≤ t.natAbs := by
  rcases Nat.eq_zero_or_pos g with h | h
  · subst h
    simp
  · have h2 := Int.natAbs_ediv_le_natAbs t (g : Int)
    exact h2
theorem bd_mk {n : Nat} {t : Int} {b : Nat} (hb : b ≠ 0) (ht : t.natAbs < 2 ^ n) (hb' : b < 2 ^ n) : Bd n (mkRat t b) := by
  have h := mk_num t b hb
  refine ⟨?_, ?_⟩
  · rw [h.1]
    exact Nat.lt_of_le_of_lt (natAbs_div_le t _) ht
  · have h2 := natAbs_div_le (b : Int) (Int.gcd t b)
    rw [← h.2] at h2
    have h3 : (mkRat t b).den ≤ b := by simpa using h2
    omega
theorem mul_lt2 {a b n m : Nat} (ha : a < 2 ^ n) (hb : b < 2 ^ m) : a * b < 2 ^ (n + m) := by
  rw [Nat.pow_add]
  exact Nat.mul_lt_mul'' ha hb
theorem bd_le {n m : Nat} {q : Rat} (h : Bd n q) (hm : n ≤ m) : Bd m q := by
  have := Nat.pow_le_pow_right (n := 2) (by decide) hm
  exact ⟨Nat.lt_of_lt_of_le h.1 this, Nat.lt_of_lt_of_le h.2 this⟩
theorem bd_sum {n m : Nat} {p q : Rat} (hp : Bd n p) (hq : Bd m q) : (p.num * q.den + q.num * p.den).natAbs < 2 ^ (n + m + 1) ∧ p.den * q.den < 2 ^ (n + m + 1) := by
  have h1 := mul_lt2 hp.1 hq.2
  have h2 := mul_lt2 hq.1 hp.2
  have h3 := mul_lt2 hp.2 hq.2
  rw [Nat.add_comm m n] at h2
  have h4 : 2 ^ (n + m + 1) = 2 ^ (n + m) + 2 ^ (n + m) := by rw [Nat.pow_succ]; omega
  have a1 : (p.num * q.den).natAbs = p.num.natAbs * q.den := by rw [Int.natAbs_mul]; rfl
  have a2 : (q.num * p.den).natAbs = q.num.natAbs * p.den := by rw [Int.natAbs_mul]; rfl
  have a3 := Int.natAbs_add_le (p.num * q.den) (q.num * p.den)
  refine ⟨by omega, by omega⟩
theorem bd_add {n m : Nat} {p q : Rat} (hp : Bd n p) (hq : Bd m q) : Bd (n + m + 1) (p + q) := by
  rw [Rat.add_def']
  have h := bd_sum hp hq
  exact bd_mk (Nat.mul_ne_zero p.den_nz q.den_nz) h.1 h.2
theorem bd_mul {n m : Nat} {p q : Rat} (hp : Bd n p) (hq : Bd m q) : Bd (n + m) (p * q) := by
  rw [Rat.mul_def']
  have h1 := mul_lt2 hp.1 hq.1
  have h3 := mul_lt2 hp.2 hq.2
  have a1 : (p.num * q.num).natAbs = p.num.natAbs * q.num.natAbs := Int.natAbs_mul _ _
  exact bd_mk (Nat.mul_ne_zero p.den_nz q.den_nz) (by omega) h3
theorem bd_int {n : Nat} {i : Int} (h : i.natAbs < 2 ^ n) (h1 : 1 ≤ n) : Bd n (i : Rat) := by
  refine ⟨h, ?_⟩
  show 1 < 2 ^ n
  have := Nat.pow_le_pow_right (n := 2) (by decide) h1
  omega
theorem gcd_pos (t : Int) {b : Int} (hb : 0 < b) : 0 < (Int.gcd t b : Int) := by
  have : 0 < Int.gcd t b := Int.gcd_pos_iff.mpr (.inr (by omega))
  omega
theorem gcd_le (t : Int) {b : Int} (hb : 0 < b) : (Int.gcd t b : Int).natAbs ≤ b.natAbs := by
  have : Int.gcd t b ≤ b.natAbs := Nat.le_of_dvd (by omega) (Int.gcd_dvd_natAbs_right t b)
  simpa using this
theorem fn_fraction_eq (t b : Int) (hb : 0 < b) (hs : b.natAbs < 2 ^ 8000) : fn_fraction [.int t, .int b] = some (frD (mkRat t b.toNat)) := by
  have hg : ∀ x : Int, cDivB x (Int.gcd t b : Int) = true := fun x => divB (gcd_pos t hb) (Nat.lt_of_le_of_lt (gcd_le t hb) hs)
  unfold fn_fraction b_fraction
  simp only [sSeq, sAsg, sRet, sRetL, sRetO, sIf, sPar, sParO, sOwn, sApp, sExt, sIns, sSetIx, sNx, sDrop, sFrz, sFor, fVar, fVarB, fC, fOp, fUn, fUnL, fNil, fCons, fTup, fLst, fOfL, fTest, fAnd, fOr, fNot, fBool, fIf, fChain, fCall, fCallL, fCallB, fItems, fRange, fZip, fSl, fSlO, fIxO, fOpO, fPart, fNoPart, fMin, fLc, fDc, fYes, gN, gTp, gCs, gNl, runD, runL, runB, orF, fI0, fI, fS0, dNeg, dAbs, dLen, dSum, dTuple, ix_t0, ix_t1, ix_t2, ix_l0, ix_l1, dGet, dHas, dictOf, Sm.keyOf, ownAt, setOwn, EV.cont, EV.with, seqOf, itemsOf, List.map_cons, List.map_nil, List.cons_append, List.nil_append, List.replicate_succ, List.replicate_zero, List.getElem?_cons_zero, List.getElem?_cons_succ, List.getElem?_nil, List.set_cons_zero, List.set_cons_succ, List.length_cons, List.length_nil, wipeE, backE, EV.mine, fn_gcd, hg, if_true]
  rw [if_pos (by decide), mk_frD t b hb]
theorem w38 {x : Nat} (h : x < 2 ^ 3000) : x < 2 ^ 8000 := Nat.lt_of_lt_of_le h (Nat.pow_le_pow_right (by decide) (by decide))
/-- pairs that may have a common divisor -/
theorem fn_plus_pair {a c : Int} {b d : Nat} (hb : 0 < b) (hd : 0 < d) (sa : a.natAbs < 2 ^ 3000) (sb : b < 2 ^ 3000) (sc : c.natAbs < 2 ^ 3000) (sd : d < 2 ^ 3000) : fn_plus [.tuple [.int a, .int b], .tuple [.int c, .int d]] = some (frD (mkRat a b + mkRat c d)) := by
  have w2 : 2 ^ (3000 + 3000) ≤ 2 ^ 8000 := Nat.pow_le_pow_right (by decide) (by decide)
  have d0 : 0 < b * d := Nat.mul_pos hb hd
  have m1 : cMulB a (d : Int) = true := mulB (w38 sa) (w38 sd)
  have m2 : cMulB c (b : Int) = true := mulB (w38 sc) (w38 sb)
  have m3 : cMulB (b : Int) (d : Int) = true := mulB (w38 sb) (w38 sd)
  have e1 : ((b : Int) * (d : Int)) = ((b * d : Nat) : Int) := by rw [Int.natCast_mul]
  have hf := fn_fraction_eq (a * d + c * b) ((b : Int) * (d : Int)) (by rw [e1]; omega) (by rw [e1]; exact Nat.lt_of_lt_of_le (mul_lt2 sb sd) w2)
  unfold fn_plus b_plus
  simp only [sSeq, sAsg, sRet, sRetL, sRetO, sIf, sPar, sParO, sOwn, sApp, sExt, sIns, sSetIx, sNx, sDrop, sFrz, sFor, fVar, fVarB, fC, fOp, fUn, fUnL, fNil, fCons, fTup, fLst, fOfL, fTest, fAnd, fOr, fNot, fBool, fIf, fChain, fCall, fCallL, fCallB, fItems, fRange, fZip, fSl, fSlO, fIxO, fOpO, fPart, fNoPart, fMin, fLc, fDc, fYes, gN, gTp, gCs, gNl, runD, runL, runB, orF, fI0, fI, fS0, dNeg, dAbs, dLen, dSum, dTuple, ix_t0, ix_t1, ix_t2, ix_l0, ix_l1, dGet, dHas, dictOf, Sm.keyOf, ownAt, setOwn, EV.cont, EV.with, seqOf, itemsOf, List.map_cons, List.map_nil, List.cons_append, List.nil_append, List.replicate_succ, List.replicate_zero, List.getElem?_cons_zero, List.getElem?_cons_succ, List.getElem?_nil, List.set_cons_zero, List.set_cons_succ, List.length_cons, List.length_nil, wipeE, backE, EV.mine, m1, m2, m3, if_true, hf]
  rw [Rat.mkRat_add_mkRat _ _ (by omega) (by omega), e1]
  rfl
theorem fn_plus_eq {p q : Rat} (hp : Bd 3000 p) (hq : Bd 3000 q) : fn_plus [frD p, frD q] = some (frD (p + q)) := by
  have h := fn_plus_pair p.den_pos q.den_pos hp.1 hp.2 hq.1 hq.2
  rw [Rat.mkRat_self, Rat.mkRat_self] at h
  exact h
theorem add_int (q : Rat) (i : Int) : (q + (i : Rat)).num = q.num + i * q.den ∧ (q + (i : Rat)).den = q.den := by
  have e : q + (i : Rat) = mkRat (q.num + i * q.den) q.den := by
    rw [Rat.add_def', Rat.num_intCast, Rat.den_intCast]
    show mkRat (q.num * (1 : Int) + i * q.den) (q.den * 1) = _
    rw [Int.mul_one, Nat.mul_one]
  have h := mk_num (q.num + i * q.den) q.den q.den_nz
  have g : Int.gcd (q.num + i * q.den) q.den = 1 := by
    rw [Int.gcd_add_mul_right_left]
    exact q.reduced
  rw [g] at h
  rw [e]
  refine ⟨by rw [h.1]; exact Int.ediv_one _, ?_⟩
  have := h.2
  rw [show ((1 : Nat) : Int) = 1 from rfl, Int.ediv_one] at this
  exact Int.ofNat.inj this
theorem plus_whole_eq {q : Rat} {i : Int} (hq : Bd 3000 q) (hi : i.natAbs < 2 ^ 3000) : fn_plus_whole [frD q, .int i] = some (frD (q + (i : Rat))) := by
  have m1 : cMulB i (q.den : Int) = true := mulB (w38 hi) (w38 hq.2)
  have h := add_int q i
  unfold fn_plus_whole b_plus_whole frD
  rw [h.1, h.2]
  simp only [sSeq, sAsg, sRet, sRetL, sRetO, sIf, sPar, sParO, sOwn, sApp, sExt, sIns, sSetIx, sNx, sDrop, sFrz, sFor, fVar, fVarB, fC, fOp, fUn, fUnL, fNil, fCons, fTup, fLst, fOfL, fTest, fAnd, fOr, fNot, fBool, fIf, fChain, fCall, fCallL, fCallB, fItems, fRange, fZip, fSl, fSlO, fIxO, fOpO, fPart, fNoPart, fMin, fLc, fDc, fYes, gN, gTp, gCs, gNl, runD, runL, runB, orF, fI0, fI, fS0, dNeg, dAbs, dLen, dSum, dTuple, ix_t0, ix_t1, ix_t2, ix_l0, ix_l1, dGet, dHas, dictOf, Sm.keyOf, ownAt, setOwn, EV.cont, EV.with, seqOf, itemsOf, List.map_cons, List.map_nil, List.cons_append, List.nil_append, List.replicate_succ, List.replicate_zero, List.getElem?_cons_zero, List.getElem?_cons_succ, List.getElem?_nil, List.set_cons_zero, List.set_cons_succ, List.length_cons, List.length_nil, wipeE, backE, EV.mine, m1, if_true]
  rw [if_pos (by decide)]
theorem times_eq {p q : Rat} (hp : Bd 3000 p) (hq : Bd 3000 q) : fn_times [frD p, frD q] = some (frD (p * q)) := by
  have w2 : 2 ^ (3000 + 3000) ≤ 2 ^ 8000 := Nat.pow_le_pow_right (by decide) (by decide)
  have d0 : 0 < p.den * q.den := Nat.mul_pos p.den_pos q.den_pos
  have m1 : cMulB p.num q.num = true := mulB (w38 hp.1) (w38 hq.1)
  have m3 : cMulB (p.den : Int) (q.den : Int) = true := mulB (w38 hp.2) (w38 hq.2)
  have e1 : ((p.den : Int) * (q.den : Int)) = ((p.den * q.den : Nat) : Int) := by rw [Int.natCast_mul]
  have hf := fn_fraction_eq (p.num * q.num) ((p.den : Int) * (q.den : Int)) (by rw [e1]; omega) (by rw [e1]; exact Nat.lt_of_lt_of_le (mul_lt2 hp.2 hq.2) w2)
  unfold fn_times b_times frD
  simp only [sSeq, sAsg, sRet, sRetL, sRetO, sIf, sPar, sParO, sOwn, sApp, sExt, sIns, sSetIx, sNx, sDrop, sFrz, sFor, fVar, fVarB, fC, fOp, fUn, fUnL, fNil, fCons, fTup, fLst, fOfL, fTest, fAnd, fOr, fNot, fBool, fIf, fChain, fCall, fCallL, fCallB, fItems, fRange, fZip, fSl, fSlO, fIxO, fOpO, fPart, fNoPart, fMin, fLc, fDc, fYes, gN, gTp, gCs, gNl, runD, runL, runB, orF, fI0, fI, fS0, dNeg, dAbs, dLen, dSum, dTuple, ix_t0, ix_t1, ix_t2, ix_l0, ix_l1, dGet, dHas, dictOf, Sm.keyOf, ownAt, setOwn, EV.cont, EV.with, seqOf, itemsOf, List.map_cons, List.map_nil, List.cons_append, List.nil_append, List.replicate_succ, List.replicate_zero, List.getElem?_cons_zero, List.getElem?_cons_succ, List.getElem?_nil, List.set_cons_zero, List.set_cons_succ, List.length_cons, List.length_nil, wipeE, backE, EV.mine, m1, m3, if_true, hf]
  rw [Rat.mul_def', e1]
  rfl
end Lc
set_option exponentiation.threshold 10000
namespace Lc
open PySem L2 Evl RZ Sm
/-! ### the law's own fractions -/
theorem low_whl (x y : PyData) : ∀ (n : Nat) (a b : Int), 0 ≤ a → 0 ≤ b → b.toNat < n → whl (fTest (fOp dGtI (fVar 3) (fC (.int 0)))) (sPar 2 3 (fCons (fVar 3) (fCons (fOp dMod (fVar 2) (fVar 3)) fNil))) (n + 1) [.dat x, .dat y, .dat (.int a), .dat (.int b)] = some (.nx [.dat x, .dat y, .dat (.int (Int.gcd a b)), .dat (.int 0)])
  | 0, _, _, _, _, h => by omega
  | n + 1, a, b, ha, hb, h => by
    unfold whl
    by_cases h0 : b = 0
    · subst h0
      simp only [sSeq, sAsg, sRet, sRetL, sRetO, sIf, sPar, sParO, sOwn, sApp, sExt, sIns, sSetIx, sNx, sDrop, sFrz, sFor, fVar, fVarB, fC, fOp, fUn, fUnL, fNil, fCons, fTup, fLst, fOfL, fTest, fAnd, fOr, fNot, fBool, fIf, fChain, fCall, fCallL, fCallB, fItems, fRange, fZip, fSl, fSlO, fIxO, fOpO, fPart, fNoPart, fMin, fLc, fDc, fYes, gN, gTp, gCs, gNl, runD, runL, runB, orF, fI0, fI, fS0, dNeg, dAbs, dLen, dSum, dTuple, ix_t0, ix_t1, ix_t2, ix_l0, ix_l1, dGet, dHas, dictOf, Sm.keyOf, ownAt, setOwn, EV.cont, EV.with, seqOf, itemsOf, List.map_cons, List.map_nil, List.cons_append, List.nil_append, List.replicate_succ, List.replicate_zero, List.getElem?_cons_zero, List.getElem?_cons_succ, List.getElem?_nil, List.set_cons_zero, List.set_cons_succ, List.length_cons, List.length_nil, wipeE, backE, EV.mine, Int.lt_irrefl, decide_false]
      rw [Int.gcd_zero_right]
      congr 7
      omega
    · have hm := modB (i := a) (j := b) (by omega)
      have hp : (0 < b) = True := eq_true (by omega)
      simp only [sSeq, sAsg, sRet, sRetL, sRetO, sIf, sPar, sParO, sOwn, sApp, sExt, sIns, sSetIx, sNx, sDrop, sFrz, sFor, fVar, fVarB, fC, fOp, fUn, fUnL, fNil, fCons, fTup, fLst, fOfL, fTest, fAnd, fOr, fNot, fBool, fIf, fChain, fCall, fCallL, fCallB, fItems, fRange, fZip, fSl, fSlO, fIxO, fOpO, fPart, fNoPart, fMin, fLc, fDc, fYes, gN, gTp, gCs, gNl, runD, runL, runB, orF, fI0, fI, fS0, dNeg, dAbs, dLen, dSum, dTuple, ix_t0, ix_t1, ix_t2, ix_l0, ix_l1, dGet, dHas, dictOf, Sm.keyOf, ownAt, setOwn, EV.cont, EV.with, seqOf, itemsOf, List.map_cons, List.map_nil, List.cons_append, List.nil_append, List.replicate_succ, List.replicate_zero, List.getElem?_cons_zero, List.getElem?_cons_succ, List.getElem?_nil, List.set_cons_zero, List.set_cons_succ, List.length_cons, List.length_nil, wipeE, backE, EV.mine, hp, decide_true, hm, if_true]
      have hlt : a % b < b := Int.emod_lt_of_pos a (by omega)
      have hge : 0 ≤ a % b := Int.emod_nonneg a h0
      rw [low_whl x y n b (a % b) hb hge (by omega)]
      have : Int.gcd b (a % b) = Int.gcd a b := by
        obtain ⟨m, rfl⟩ := Int.eq_ofNat_of_zero_le ha
        obtain ⟨k, rfl⟩ := Int.eq_ofNat_of_zero_le hb
        show Nat.gcd k ((m : Int) % (k : Int)).natAbs = Nat.gcd m k
        rw [show ((m : Int) % (k : Int)).natAbs = m % k by omega]
        rw [Nat.gcd_comm k, ← Nat.gcd_rec, Nat.gcd_comm]
      rw [this]
theorem low_eq (t b : Int) (hb : 0 < b) (hs : b.natAbs < 2 ^ 8000) : fn__law_lowest [.int t, .int b] = some (frD (mkRat t b.toNat)) := by
  have h := sWhile_of (low_whl (.int t) (.int b) (b.toNat + 1) (t.natAbs : Int) b (by omega) (by omega) (by omega))
  have e : ∀ x : Int, (if x < 0 then -x else x) = (x.natAbs : Int) := fun x => by split <;> omega
  have eg : Int.gcd (t.natAbs : Int) b = Int.gcd t b := by
    show Nat.gcd (t.natAbs : Int).natAbs b.natAbs = Nat.gcd t.natAbs b.natAbs
    rfl
  rw [eg] at h
  have hg : ∀ x : Int, cDivB x (Int.gcd t b : Int) = true := fun x => divB (gcd_pos t hb) (Nat.lt_of_le_of_lt (gcd_le t hb) hs)
  unfold fn__law_lowest b__law_lowest
  simp only [sSeq, sAsg, sRet, sRetL, sRetO, sIf, sPar, sParO, sOwn, sApp, sExt, sIns, sSetIx, sNx, sDrop, sFrz, sFor, fVar, fVarB, fC, fOp, fUn, fUnL, fNil, fCons, fTup, fLst, fOfL, fTest, fAnd, fOr, fNot, fBool, fIf, fChain, fCall, fCallL, fCallB, fItems, fRange, fZip, fSl, fSlO, fIxO, fOpO, fPart, fNoPart, fMin, fLc, fDc, fYes, gN, gTp, gCs, gNl, runD, runL, runB, orF, fI0, fI, fS0, dNeg, dAbs, dLen, dSum, dTuple, ix_t0, ix_t1, ix_t2, ix_l0, ix_l1, dGet, dHas, dictOf, Sm.keyOf, ownAt, setOwn, EV.cont, EV.with, seqOf, itemsOf, List.map_cons, List.map_nil, List.cons_append, List.nil_append, List.replicate_succ, List.replicate_zero, List.getElem?_cons_zero, List.getElem?_cons_succ, List.getElem?_nil, List.set_cons_zero, List.set_cons_succ, List.length_cons, List.length_nil, wipeE, backE, EV.mine, e, h, hg, if_true]
  rw [if_pos (by decide), mk_frD t b hb]
theorem lplus_eq {p q : Rat} (hp : Bd 3000 p) (hq : Bd 3000 q) : fn__law_plus [frD p, frD q] = some (frD (p + q)) := by
  have h := bd_sum hp hq
  have w2 : 2 ^ (3000 + 3000 + 1) ≤ 2 ^ 8000 := Nat.pow_le_pow_right (by decide) (by decide)
  have d0 : 0 < p.den * q.den := Nat.mul_pos p.den_pos q.den_pos
  have m1 : cMulB p.num (q.den : Int) = true := mulB (w38 hp.1) (w38 hq.2)
  have m2 : cMulB q.num (p.den : Int) = true := mulB (w38 hq.1) (w38 hp.2)
  have m3 : cMulB (p.den : Int) (q.den : Int) = true := mulB (w38 hp.2) (w38 hq.2)
  have e1 : ((p.den : Int) * (q.den : Int)) = ((p.den * q.den : Nat) : Int) := by rw [Int.natCast_mul]
  have hf := low_eq (p.num * q.den + q.num * p.den) ((p.den : Int) * (q.den : Int)) (by rw [e1]; omega) (by rw [e1]; exact Nat.lt_of_lt_of_le h.2 w2)
  unfold fn__law_plus b__law_plus frD
  simp only [sSeq, sAsg, sRet, sRetL, sRetO, sIf, sPar, sParO, sOwn, sApp, sExt, sIns, sSetIx, sNx, sDrop, sFrz, sFor, fVar, fVarB, fC, fOp, fUn, fUnL, fNil, fCons, fTup, fLst, fOfL, fTest, fAnd, fOr, fNot, fBool, fIf, fChain, fCall, fCallL, fCallB, fItems, fRange, fZip, fSl, fSlO, fIxO, fOpO, fPart, fNoPart, fMin, fLc, fDc, fYes, gN, gTp, gCs, gNl, runD, runL, runB, orF, fI0, fI, fS0, dNeg, dAbs, dLen, dSum, dTuple, ix_t0, ix_t1, ix_t2, ix_l0, ix_l1, dGet, dHas, dictOf, Sm.keyOf, ownAt, setOwn, EV.cont, EV.with, seqOf, itemsOf, List.map_cons, List.map_nil, List.cons_append, List.nil_append, List.replicate_succ, List.replicate_zero, List.getElem?_cons_zero, List.getElem?_cons_succ, List.getElem?_nil, List.set_cons_zero, List.set_cons_succ, List.length_cons, List.length_nil, wipeE, backE, EV.mine, m1, m2, m3, if_true, hf]
  rw [Rat.add_def', e1]
  rfl
theorem ltimes_eq {q : Rat} {i : Int} (hq : Bd 3000 q) (hi : i.natAbs < 2 ^ 3000) : fn__law_times [frD q, .int i] = some (frD (q * i)) := by
  have m1 : cMulB q.num i = true := mulB (w38 hq.1) (w38 hi)
  have d0 := q.den_pos
  have hf := low_eq (q.num * i) (q.den : Int) (by omega) (w38 hq.2)
  unfold fn__law_times b__law_times frD
  simp only [sSeq, sAsg, sRet, sRetL, sRetO, sIf, sPar, sParO, sOwn, sApp, sExt, sIns, sSetIx, sNx, sDrop, sFrz, sFor, fVar, fVarB, fC, fOp, fUn, fUnL, fNil, fCons, fTup, fLst, fOfL, fTest, fAnd, fOr, fNot, fBool, fIf, fChain, fCall, fCallL, fCallB, fItems, fRange, fZip, fSl, fSlO, fIxO, fOpO, fPart, fNoPart, fMin, fLc, fDc, fYes, gN, gTp, gCs, gNl, runD, runL, runB, orF, fI0, fI, fS0, dNeg, dAbs, dLen, dSum, dTuple, ix_t0, ix_t1, ix_t2, ix_l0, ix_l1, dGet, dHas, dictOf, Sm.keyOf, ownAt, setOwn, EV.cont, EV.with, seqOf, itemsOf, List.map_cons, List.map_nil, List.cons_append, List.nil_append, List.replicate_succ, List.replicate_zero, List.getElem?_cons_zero, List.getElem?_cons_succ, List.getElem?_nil, List.set_cons_zero, List.set_cons_succ, List.length_cons, List.length_nil, wipeE, backE, EV.mine, m1, if_true, hf]
  rw [Rat.mul_def', Rat.num_intCast]
  show some (frD (mkRat (q.num * i) q.den)) = some (frD (mkRat (q.num * i) (q.den * 1)))
  rw [Nat.mul_one]
/-! ### comprehensions and loops over data -/
theorem compL_enc {α : Type} (enc : α → PyData) {vs : List Nat} {γ : FG} {τ : FT} {ε : FE} {δ : En} (η : α → En) (t : α → Bool) (f : α → PyData) : ∀ (xs : List α), (∀ x, x ∈ xs → γ (enc x) (wipeE δ vs) = some (η x) ∧ τ (η x) = some (t x, η x) ∧ (t x = true → ε (η x) = some (f x, η x)) ∧ backE vs 0 δ (η x) = δ) →
    compL vs γ τ ε (xs.map enc) δ = some ((xs.filter t).map f, δ)
  | [], _ => rfl
  | x :: xs, h => by
    obtain ⟨h1, h2, h3, h4⟩ := h x List.mem_cons_self
    have ih := compL_enc enc η t f xs fun y hy => h y (List.mem_cons_of_mem _ hy)
    rw [List.map_cons]
    unfold compL
    rw [h1]
    dsimp only
    rw [h2]
    cases ht : t x with
    | true =>
      dsimp only
      rw [h3 ht]
      dsimp only
      rw [h4, ih, List.filter_cons_of_pos ht]
      rfl
    | false =>
      dsimp only
      rw [h4, ih, List.filter_cons_of_neg (by rw [ht]; decide)]
theorem compD_enc {α : Type} (enc : α → PyData) {vs : List Nat} {γ : FG} {κ ε : FE} {δ : En} (η : α → En) (k : α → Str) (f : α → PyData) : ∀ (xs : List α) (acc : List (PyData × PyData)), (∀ x, x ∈ xs → γ (enc x) (wipeE δ vs) = some (η x) ∧ κ (η x) = some (.str (k x), η x) ∧ ε (η x) = some (f x, η x) ∧ backE vs 0 δ (η x) = δ) →
    compD vs γ fYes κ ε (xs.map enc) δ acc = some (xs.foldl (fun acc x => putD acc (.inr (k x)) (f x)) acc, δ)
  | [], _, _ => rfl
  | x :: xs, acc, h => by
    obtain ⟨h1, h2, h3, h4⟩ := h x List.mem_cons_self
    have ih := compD_enc enc η k f xs (putD acc (.inr (k x)) (f x)) fun y hy => h y (List.mem_cons_of_mem _ hy)
    rw [List.map_cons]
    unfold compD
    rw [h1]
    dsimp only [fYes]
    rw [h2]
    dsimp only [Sm.keyOf]
    rw [h3]
    dsimp only
    rw [h4, ih]
    rfl
/-- R: what the names stand for between two turns -/
theorem loop_rel {α β : Type} (enc : α → PyData) {γ : FG} {b : FS} (R : β → En → Prop) (step : β → α → β) : ∀ (xs : List α) (s : β) (δ : En), (∀ (s : β) (x : α) (δ : En), x ∈ xs → R s δ → ∃ δ2 δ3, γ (enc x) δ = some δ2 ∧ b δ2 = some (.nx δ3) ∧ R (step s x) δ3) → R s δ →
    ∃ δ', loopF γ b (xs.map enc) δ = some (.nx δ') ∧ R (xs.foldl step s) δ'
  | [], s, δ, _, h => ⟨δ, rfl, h⟩
  | x :: xs, s, δ, hs, h => by
    obtain ⟨δ2, δ3, e1, e2, h3⟩ := hs s x δ List.mem_cons_self h
    obtain ⟨δ', e, h'⟩ := loop_rel enc R step xs (step s x) δ3 (fun s y δ hy => hs s y δ (List.mem_cons_of_mem _ hy)) h3
    refine ⟨δ', ?_, h'⟩
    rw [List.map_cons]
    unfold loopF
    rw [e1]
    dsimp only
    rw [e2]
    exact e
/-! ### dicts with text keys -/
def dkv (ps : List (Str × PyData)) : List (PyData × PyData) := ps.map fun p => (.str p.1, p.2)
theorem put_new {ps : List (Str × PyData)} {n : Str} {d : PyData} (h : ¬ n ∈ ps.map (·.1)) : putD (dkv ps) (.inr n) d = dkv (ps ++ [(n, d)]) := by
  unfold putD
  have : ((dkv ps).any fun kv => decide (Sm.keyOf kv.1 = some (Sum.inr n))) = false := by
    rw [List.any_eq_false]
    intro kv hkv
    unfold dkv at hkv
    obtain ⟨p, hp, rfl⟩ := List.mem_map.mp hkv
    intro z
    have z' := of_decide_eq_true z
    have : p.1 = n := Sum.inr.inj (Option.some.inj z')
    exact h (by rw [← this]; exact List.mem_map.mpr ⟨p, hp, rfl⟩)
  rw [this]
  unfold dkv
  rw [List.map_append]
  rfl
theorem put_all {α : Type} (k : α → Str) (f : α → PyData) : ∀ (xs : List α) (ps : List (Str × PyData)), (ps.map (·.1) ++ xs.map k).Nodup → xs.foldl (fun acc x => putD acc (.inr (k x)) (f x)) (dkv ps) = dkv (ps ++ xs.map fun x => (k x, f x))
  | [], ps, _ => by rw [List.map_nil, List.append_nil]; rfl
  | x :: xs, ps, h => by
    rw [List.foldl_cons, put_new, put_all k f xs]
    · rw [List.append_assoc]
      rfl
    · rw [List.map_append, List.append_assoc]
      exact h
    · intro z
      rw [List.nodup_append] at h
      exact h.2.2 _ z _ (by rw [List.map_cons]; exact List.mem_cons_self) rfl
theorem look_dkv (n : Str) : ∀ (ps : List (Str × PyData)), lookD (dkv ps) (.inr n) = (ps.find? fun p => decide (p.1 = n)).map (·.2)
  | [] => rfl
  | p :: ps => by
    have ih := look_dkv n ps
    unfold lookD dkv at ih ⊢
    rw [List.map_cons]
    by_cases h : p.1 = n
    · rw [List.find?_cons_of_pos (by simp [Sm.keyOf, h]), List.find?_cons_of_pos (by simp [h])]
      rfl
    · rw [List.find?_cons_of_neg (by simp [Sm.keyOf, h]), List.find?_cons_of_neg (by simp [h])]
      exact ih
theorem dictOf_dkv (ps : List (Str × PyData)) : dictOf (.dict (dkv ps)) = some (dkv ps) := by
  cases ps <;> rfl
end Lc
set_option exponentiation.threshold 10000
namespace Lc
open PySem L2 Evl RZ Sm
/-! ### folk and leaps as data -/
abbrev Fk := Str × Int × Int
def encF (p : Fk) : PyData := .tuple [.str p.1, .int p.2.1, .int p.2.2]
def folkD (fs : List Fk) : PyData := .tuple (fs.map encF)
abbrev Lp := Str × Int
def encL (p : Lp) : PyData := .tuple [.str p.1, .int p.2]
def onceD (ls : List Lp) : PyData := .tuple (ls.map encL)
def strsD (ns : List Str) : List PyData := ns.map .str
structure OkF (fs : List Fk) : Prop where
  len : fs.length ≤ 7
  hv : ∀ p, p ∈ fs → 1 ≤ p.2.1 ∧ p.2.1 ≤ 200 ∧ 1 ≤ p.2.2 ∧ p.2.2 ≤ 100
  nd : (fs.map (·.1)).Nodup
structure OkL (fs : List Fk) (ls : List Lp) : Prop where
  len : ls.length ≤ 7
  nm : ∀ p, p ∈ ls → p.1 ∈ fs.map (·.1)
  wy : ∀ p, p ∈ ls → p.2 = 1 ∨ p.2 = -1
  nd : (ls.map (·.1)).Nodup
def wgt (c : Int) (fs : List Fk) : Int := c + (fs.map (·.2.1)).sum
theorem filter_true {α : Type} (l : List α) : l.filter (fun _ => true) = l := List.filter_eq_self.mpr fun _ _ => rfl
theorem weigh_eq (c : Int) (fs : List Fk) (hl : fs.length ≤ 7) : fn_weigh [.int c, folkD fs] = some (.int (wgt c fs)) := by
  have hc := compL_enc encF (vs := [2, 3, 4]) (γ := gTp 3 (gCs (gN 2) (gCs (gN 3) (gCs (gN 4) gNl)))) (τ := fYes) (ε := fVar 3) (δ := [.dat (.int c), .dat (folkD fs), .un, .un, .un])
    (fun p => [.dat (.int c), .dat (folkD fs), .dat (.str p.1), .dat (.int p.2.1), .dat (.int p.2.2)]) (fun _ => true) (fun p => .int p.2.1) fs fun p _ => ⟨rfl, rfl, fun _ => rfl, rfl⟩
  rw [filter_true] at hc
  have h1 := fLc_of (φ := fItems (fVar 1)) (δ := [.dat (.int c), .dat (folkD fs), .un, .un, .un]) rfl (by rw [List.length_map]; omega) hc
  have h2 : intsOf (fs.map fun p => PyData.int p.2.1) = some (fs.map (·.2.1)) := by
    rw [show (fs.map fun p => PyData.int p.2.1) = (fs.map (·.2.1)).map PyData.int by rw [List.map_map]; rfl, intsOf_map]
  unfold fn_weigh b_weigh
  simp only [runD, e_fCallD, e_fCallLD, e_fCallO, e_fAddL, e_fZipB, e_fListZip, e_sOwnD, e_fNewD, e_fDictD, e_sDPutO, e_fDGetO, e_fDGet2, e_sFrzD, e_sPar3, e_fVar, e_fC, e_fOp, e_fUn, e_fNil, e_fCons, e_fTup, e_fLst, e_fOfL, e_fTest, e_fAnd, e_fOr, e_fNot, e_fBool, e_fIf, e_fChain, e_fVarB, e_fUnL, e_fNoPart, e_fPart, e_fSl, e_gN, e_gNl, e_gCs, e_gTp, e_fZip, e_fYes, e_sNx, e_sSeq, e_sAsg, e_sOwn, e_sApp, e_sExt, e_sIns, e_sSetIx, e_fIxO, e_fSlO, e_sRet, e_sRetL, e_sRetO, e_sFrz, e_sDrop, e_sIf, e_sPar, e_fCall, e_fCallL, e_fCallB, e_sParO, e_fOpO, e_fItems, e_fRange, e_fMin, e_orF, fI0, fI, fS0, dNeg, dAbs, dLen, dSum, dTuple, ix_t0, ix_t1, ix_t2, ix_l0, ix_l1, ownAt, setOwn, EV.cont, EV.with, seqOf, itemsOf, List.map_cons, List.map_nil, List.cons_append, List.nil_append, List.replicate_succ, List.replicate_zero, List.getElem?_cons_zero, List.getElem?_cons_succ, List.getElem?_nil, List.set_cons_zero, List.set_cons_succ, List.length_cons, List.length_nil, h1, h2, Option.map]
  rfl
theorem lweight_eq (c : Int) (fs : List Fk) (hl : fs.length ≤ 7) : fn__law_weight [.int c, folkD fs] = some (.int (wgt c fs)) := by
  have hc := compL_enc encF (vs := [2]) (γ := gN 2) (τ := fYes) (ε := fOp dIx (fVar 2) (fC (.int 1))) (δ := [.dat (.int c), .dat (folkD fs), .un])
    (fun p => [.dat (.int c), .dat (folkD fs), .dat (encF p)]) (fun _ => true) (fun p => .int p.2.1) fs fun p _ => ⟨rfl, rfl, fun _ => rfl, rfl⟩
  rw [filter_true] at hc
  have h1 := fLc_of (φ := fItems (fVar 1)) (δ := [.dat (.int c), .dat (folkD fs), .un]) rfl (by rw [List.length_map]; omega) hc
  have h2 : intsOf (fs.map fun p => PyData.int p.2.1) = some (fs.map (·.2.1)) := by
    rw [show (fs.map fun p => PyData.int p.2.1) = (fs.map (·.2.1)).map PyData.int by rw [List.map_map]; rfl, intsOf_map]
  unfold fn__law_weight b__law_weight
  simp only [runD, e_fCallD, e_fCallLD, e_fCallO, e_fAddL, e_fZipB, e_fListZip, e_sOwnD, e_fNewD, e_fDictD, e_sDPutO, e_fDGetO, e_fDGet2, e_sFrzD, e_sPar3, e_fVar, e_fC, e_fOp, e_fUn, e_fNil, e_fCons, e_fTup, e_fLst, e_fOfL, e_fTest, e_fAnd, e_fOr, e_fNot, e_fBool, e_fIf, e_fChain, e_fVarB, e_fUnL, e_fNoPart, e_fPart, e_fSl, e_gN, e_gNl, e_gCs, e_gTp, e_fZip, e_fYes, e_sNx, e_sSeq, e_sAsg, e_sOwn, e_sApp, e_sExt, e_sIns, e_sSetIx, e_fIxO, e_fSlO, e_sRet, e_sRetL, e_sRetO, e_sFrz, e_sDrop, e_sIf, e_sPar, e_fCall, e_fCallL, e_fCallB, e_sParO, e_fOpO, e_fItems, e_fRange, e_fMin, e_orF, fI0, fI, fS0, dNeg, dAbs, dLen, dSum, dTuple, ix_t0, ix_t1, ix_t2, ix_l0, ix_l1, ownAt, setOwn, EV.cont, EV.with, seqOf, itemsOf, List.map_cons, List.map_nil, List.cons_append, List.nil_append, List.replicate_succ, List.replicate_zero, List.getElem?_cons_zero, List.getElem?_cons_succ, List.getElem?_nil, List.set_cons_zero, List.set_cons_succ, List.length_cons, List.length_nil, h1, h2, Option.map]
  rfl
theorem names_eq (ls : List Lp) (hl : ls.length ≤ 7) : fn_names_of [onceD ls] = some (.tuple (strsD (ls.map (·.1)))) := by
  have hc := compL_enc encL (vs := [1]) (γ := gN 1) (τ := fYes) (ε := fOp dIx (fVar 1) (fC (.int 0))) (δ := [.dat (onceD ls), .un])
    (fun p => [.dat (onceD ls), .dat (encL p)]) (fun _ => true) (fun p => .str p.1) ls fun p _ => ⟨rfl, rfl, fun _ => rfl, rfl⟩
  rw [filter_true] at hc
  have h1 := fLc_of (φ := fItems (fVar 0)) (δ := [.dat (onceD ls), .un]) rfl (by rw [List.length_map]; omega) hc
  unfold fn_names_of b_names_of
  simp only [runD, e_fCallD, e_fCallLD, e_fCallO, e_fAddL, e_fZipB, e_fListZip, e_sOwnD, e_fNewD, e_fDictD, e_sDPutO, e_fDGetO, e_fDGet2, e_sFrzD, e_sPar3, e_fVar, e_fC, e_fOp, e_fUn, e_fNil, e_fCons, e_fTup, e_fLst, e_fOfL, e_fTest, e_fAnd, e_fOr, e_fNot, e_fBool, e_fIf, e_fChain, e_fVarB, e_fUnL, e_fNoPart, e_fPart, e_fSl, e_gN, e_gNl, e_gCs, e_gTp, e_fZip, e_fYes, e_sNx, e_sSeq, e_sAsg, e_sOwn, e_sApp, e_sExt, e_sIns, e_sSetIx, e_fIxO, e_fSlO, e_sRet, e_sRetL, e_sRetO, e_sFrz, e_sDrop, e_sIf, e_sPar, e_fCall, e_fCallL, e_fCallB, e_sParO, e_fOpO, e_fItems, e_fRange, e_fMin, e_orF, fI0, fI, fS0, dNeg, dAbs, dLen, dSum, dTuple, ix_t0, ix_t1, ix_t2, ix_l0, ix_l1, ownAt, setOwn, EV.cont, EV.with, seqOf, itemsOf, List.map_cons, List.map_nil, List.cons_append, List.nil_append, List.replicate_succ, List.replicate_zero, List.getElem?_cons_zero, List.getElem?_cons_succ, List.getElem?_nil, List.set_cons_zero, List.set_cons_succ, List.length_cons, List.length_nil, h1]
  unfold strsD
  rw [List.map_map]
  rfl
def left (fs : List Fk) (ns : List Str) : List Fk := fs.filter fun p => !ns.contains p.1
theorem in_strs (n : Str) (ns : List Str) : (strsD ns).any (fun d => PyData.eqv d (.str n)) = ns.contains n := by
  unfold strsD
  rw [List.any_map]
  rw [Bool.eq_iff_iff, List.any_eq_true, List.contains_iff_mem]
  constructor
  · rintro ⟨x, hx, e⟩
    have : x = n := by simpa [PyData.eqv] using e
    rw [← this]
    exact hx
  · intro h
    exact ⟨n, h, by simp [PyData.eqv]⟩
theorem flat_strs (ns : List Str) : (strsD ns).all flatD = true := by
  unfold strsD
  rw [List.all_map, List.all_eq_true]
  intro x _
  rfl
theorem notin_eq (n : Str) (ns : List Str) (d : PyData) (h : d = .tuple (strsD ns) ∨ d = .list (strsD ns)) : dIn true (.str n) d = some (.bool (!ns.contains n)) := by
  have e : seqOf d = some (strsD ns) := by
    rcases h with h | h <;> (rw [h]; rfl)
  unfold dIn
  rw [e]
  dsimp only
  rw [if_pos ⟨rfl, flat_strs ns⟩, in_strs]
  rfl
theorem lleft_eq (fs : List Fk) (ns : List Str) (hl : fs.length ≤ 7) : fn__law_left [folkD fs, .list (strsD ns)] = some (folkD (left fs ns)) := by
  have hc := compL_enc encF (vs := [2]) (γ := gN 2) (τ := fTest (fOp (dInA true) (fOp dIx (fVar 2) (fC (.int 0))) (fVar 1))) (ε := fVar 2) (δ := [.dat (folkD fs), .dat (.list (strsD ns)), .un])
    (fun p => [.dat (folkD fs), .dat (.list (strsD ns)), .dat (encF p)]) (fun p => !ns.contains p.1) encF fs fun p _ => ⟨rfl, by
      unfold encF
      simp only [e_fCallD, e_fCallLD, e_fCallO, e_fAddL, e_fZipB, e_fListZip, e_sOwnD, e_fNewD, e_fDictD, e_sDPutO, e_fDGetO, e_fDGet2, e_sFrzD, e_sPar3, e_fVar, e_fC, e_fOp, e_fUn, e_fNil, e_fCons, e_fTup, e_fLst, e_fOfL, e_fTest, e_fAnd, e_fOr, e_fNot, e_fBool, e_fIf, e_fChain, e_fVarB, e_fUnL, e_fNoPart, e_fPart, e_fSl, e_gN, e_gNl, e_gCs, e_gTp, e_fZip, e_fYes, e_sNx, e_sSeq, e_sAsg, e_sOwn, e_sApp, e_sExt, e_sIns, e_sSetIx, e_fIxO, e_fSlO, e_sRet, e_sRetL, e_sRetO, e_sFrz, e_sDrop, e_sIf, e_sPar, e_fCall, e_fCallL, e_fCallB, e_sParO, e_fOpO, e_fItems, e_fRange, e_fMin, e_orF, fI0, fI, fS0, dNeg, dAbs, dLen, dSum, dTuple, ix_t0, ix_t1, ix_t2, ix_l0, ix_l1, ownAt, setOwn, EV.cont, EV.with, seqOf, itemsOf, List.map_cons, List.map_nil, List.cons_append, List.nil_append, List.replicate_succ, List.replicate_zero, List.getElem?_cons_zero, List.getElem?_cons_succ, List.getElem?_nil, List.set_cons_zero, List.set_cons_succ, List.length_cons, List.length_nil, notin_eq p.1 ns _ (.inr rfl)], fun _ => rfl, rfl⟩
  have h1 := fLc_of (φ := fItems (fVar 0)) (δ := [.dat (folkD fs), .dat (.list (strsD ns)), .un]) rfl (by rw [List.length_map]; omega) hc
  unfold fn__law_left b__law_left
  simp only [runD, e_fCallD, e_fCallLD, e_fCallO, e_fAddL, e_fZipB, e_fListZip, e_sOwnD, e_fNewD, e_fDictD, e_sDPutO, e_fDGetO, e_fDGet2, e_sFrzD, e_sPar3, e_fVar, e_fC, e_fOp, e_fUn, e_fNil, e_fCons, e_fTup, e_fLst, e_fOfL, e_fTest, e_fAnd, e_fOr, e_fNot, e_fBool, e_fIf, e_fChain, e_fVarB, e_fUnL, e_fNoPart, e_fPart, e_fSl, e_gN, e_gNl, e_gCs, e_gTp, e_fZip, e_fYes, e_sNx, e_sSeq, e_sAsg, e_sOwn, e_sApp, e_sExt, e_sIns, e_sSetIx, e_fIxO, e_fSlO, e_sRet, e_sRetL, e_sRetO, e_sFrz, e_sDrop, e_sIf, e_sPar, e_fCall, e_fCallL, e_fCallB, e_sParO, e_fOpO, e_fItems, e_fRange, e_fMin, e_orF, fI0, fI, fS0, dNeg, dAbs, dLen, dSum, dTuple, ix_t0, ix_t1, ix_t2, ix_l0, ix_l1, ownAt, setOwn, EV.cont, EV.with, seqOf, itemsOf, List.map_cons, List.map_nil, List.cons_append, List.nil_append, List.replicate_succ, List.replicate_zero, List.getElem?_cons_zero, List.getElem?_cons_succ, List.getElem?_nil, List.set_cons_zero, List.set_cons_succ, List.length_cons, List.length_nil, h1]
  rfl
theorem still_eq (fs : List Fk) (ls : List Lp) (hl : fs.length ≤ 7) (hl2 : ls.length ≤ 7) : fn_still_on [folkD fs, onceD ls] = some (folkD (left fs (ls.map (·.1)))) := by
  have hc := compL_enc encF (vs := [3]) (γ := gN 3) (τ := fTest (fOp (dInA true) (fOp dIx (fVar 3) (fC (.int 0))) (fVar 2))) (ε := fVar 3) (δ := [.dat (folkD fs), .dat (onceD ls), .dat (.tuple (strsD (ls.map (·.1)))), .un])
    (fun p => [.dat (folkD fs), .dat (onceD ls), .dat (.tuple (strsD (ls.map (·.1)))), .dat (encF p)]) (fun p => !(ls.map (·.1)).contains p.1) encF fs fun p _ => ⟨rfl, by
      unfold encF
      simp only [e_fCallD, e_fCallLD, e_fCallO, e_fAddL, e_fZipB, e_fListZip, e_sOwnD, e_fNewD, e_fDictD, e_sDPutO, e_fDGetO, e_fDGet2, e_sFrzD, e_sPar3, e_fVar, e_fC, e_fOp, e_fUn, e_fNil, e_fCons, e_fTup, e_fLst, e_fOfL, e_fTest, e_fAnd, e_fOr, e_fNot, e_fBool, e_fIf, e_fChain, e_fVarB, e_fUnL, e_fNoPart, e_fPart, e_fSl, e_gN, e_gNl, e_gCs, e_gTp, e_fZip, e_fYes, e_sNx, e_sSeq, e_sAsg, e_sOwn, e_sApp, e_sExt, e_sIns, e_sSetIx, e_fIxO, e_fSlO, e_sRet, e_sRetL, e_sRetO, e_sFrz, e_sDrop, e_sIf, e_sPar, e_fCall, e_fCallL, e_fCallB, e_sParO, e_fOpO, e_fItems, e_fRange, e_fMin, e_orF, fI0, fI, fS0, dNeg, dAbs, dLen, dSum, dTuple, ix_t0, ix_t1, ix_t2, ix_l0, ix_l1, ownAt, setOwn, EV.cont, EV.with, seqOf, itemsOf, List.map_cons, List.map_nil, List.cons_append, List.nil_append, List.replicate_succ, List.replicate_zero, List.getElem?_cons_zero, List.getElem?_cons_succ, List.getElem?_nil, List.set_cons_zero, List.set_cons_succ, List.length_cons, List.length_nil, notin_eq p.1 _ _ (.inl rfl)], fun _ => rfl, rfl⟩
  have h1 := fLc_of (φ := fItems (fVar 0)) (δ := [.dat (folkD fs), .dat (onceD ls), .dat (.tuple (strsD (ls.map (·.1)))), .un]) rfl (by rw [List.length_map]; omega) hc
  unfold fn_still_on b_still_on
  simp only [runD, e_fCallD, e_fCallLD, e_fCallO, e_fAddL, e_fZipB, e_fListZip, e_sOwnD, e_fNewD, e_fDictD, e_sDPutO, e_fDGetO, e_fDGet2, e_sFrzD, e_sPar3, e_fVar, e_fC, e_fOp, e_fUn, e_fNil, e_fCons, e_fTup, e_fLst, e_fOfL, e_fTest, e_fAnd, e_fOr, e_fNot, e_fBool, e_fIf, e_fChain, e_fVarB, e_fUnL, e_fNoPart, e_fPart, e_fSl, e_gN, e_gNl, e_gCs, e_gTp, e_fZip, e_fYes, e_sNx, e_sSeq, e_sAsg, e_sOwn, e_sApp, e_sExt, e_sIns, e_sSetIx, e_fIxO, e_fSlO, e_sRet, e_sRetL, e_sRetO, e_sFrz, e_sDrop, e_sIf, e_sPar, e_fCall, e_fCallL, e_fCallB, e_sParO, e_fOpO, e_fItems, e_fRange, e_fMin, e_orF, fI0, fI, fS0, dNeg, dAbs, dLen, dSum, dTuple, ix_t0, ix_t1, ix_t2, ix_l0, ix_l1, ownAt, setOwn, EV.cont, EV.with, seqOf, itemsOf, List.map_cons, List.map_nil, List.cons_append, List.nil_append, List.replicate_succ, List.replicate_zero, List.getElem?_cons_zero, List.getElem?_cons_succ, List.getElem?_nil, List.set_cons_zero, List.set_cons_succ, List.length_cons, List.length_nil, names_eq ls hl2, h1]
  rfl
theorem left_ok {fs : List Fk} (h : OkF fs) (ns : List Str) : OkF (left fs ns) := by
  have hs : (left fs ns).Sublist fs := List.filter_sublist
  exact ⟨Nat.le_trans hs.length_le h.len, fun p hp => h.hv p (hs.subset hp), (hs.map _).nodup h.nd⟩
end Lc
set_option exponentiation.threshold 10000
namespace Lc
open PySem L2 Evl RZ Sm
/-! ### one tuple of leaps -/
theorem loop_idx {α β : Type} (enc : α → PyData) {γ : FG} {b : FS} (R : Nat → β → En → Prop) (step : β → α → β) : ∀ (xs : List α) (k : Nat) (s : β) (δ : En), (∀ (i : Nat) (s : β) (x : α) (δ : En), xs[i]? = some x → R (k + i) s δ → ∃ δ2 δ3, γ (enc x) δ = some δ2 ∧ b δ2 = some (.nx δ3) ∧ R (k + i + 1) (step s x) δ3) → R k s δ →
    ∃ δ', loopF γ b (xs.map enc) δ = some (.nx δ') ∧ R (k + xs.length) (xs.foldl step s) δ'
  | [], k, s, δ, _, h => ⟨δ, rfl, h⟩
  | x :: xs, k, s, δ, hs, h => by
    obtain ⟨δ2, δ3, e1, e2, h3⟩ := hs 0 s x δ rfl h
    obtain ⟨δ', e, h'⟩ := loop_idx enc R step xs (k + 1) (step s x) δ3 (fun i s y δ hy hR => by
      have := hs (i + 1) s y δ (by simpa using hy) (by rw [show k + (i + 1) = k + 1 + i by omega]; exact hR)
      rw [show k + (i + 1) + 1 = k + 1 + i + 1 by omega] at this
      exact this) h3
    refine ⟨δ', ?_, ?_⟩
    · rw [List.map_cons]
      unfold loopF
      rw [e1]
      dsimp only
      rw [e2]
      exact e
    · rw [List.length_cons, show k + (xs.length + 1) = k + 1 + xs.length by omega]
      exact h'
def wayOf (ls : List Lp) (n : Str) : Option Int := (ls.find? fun p => decide (p.1 = n)).map (·.2)
def val (ls : List Lp) (p : Fk) : Int := (wayOf ls p.1).getD 0 * p.2.1 * p.2.2
def push (fs : List Fk) (ls : List Lp) : Int := (fs.map (val ls)).sum
theorem wayOf_mem {ls : List Lp} {n : Str} {w : Int} (h : wayOf ls n = some w) : (n, w) ∈ ls := by
  unfold wayOf at h
  cases e : ls.find? fun p => decide (p.1 = n) with
  | none =>
    rw [e] at h
    cases h
  | some p =>
    rw [e] at h
    cases h
    have h1 := List.mem_of_find?_eq_some e
    have h2 := List.find?_some e
    have h3 : p.1 = n := of_decide_eq_true h2
    rw [← h3]
    exact h1
theorem push_filter (ls : List Lp) : ∀ fs : List Fk, ((fs.filter fun p => (wayOf ls p.1).isSome).map (val ls)).sum = push fs ls
  | [] => rfl
  | p :: fs => by
    have ih := push_filter ls fs
    unfold push at ih ⊢
    rw [List.map_cons, List.sum_cons]
    cases h : wayOf ls p.1 with
    | none =>
      rw [List.filter_cons_of_neg (by rw [h]; decide), ih]
      unfold val
      rw [h]
      simp
    | some w =>
      rw [List.filter_cons_of_pos (by rw [h]; rfl), List.map_cons, List.sum_cons, ih]
theorem val_le {ls : List Lp} {p : Fk} (hw : ∀ q, q ∈ ls → q.2 = 1 ∨ q.2 = -1) (hp : 1 ≤ p.2.1 ∧ p.2.1 ≤ 200 ∧ 1 ≤ p.2.2 ∧ p.2.2 ≤ 100) : (val ls p).natAbs ≤ 20000 := by
  unfold val
  have h1 : p.2.1 * p.2.2 ≤ 200 * 100 := Int.mul_le_mul hp.2.1 hp.2.2.2 (by omega) (by omega)
  have h2 : 0 ≤ p.2.1 * p.2.2 := Int.mul_nonneg (by omega) (by omega)
  cases h : wayOf ls p.1 with
  | none => simp
  | some w =>
    have := hw _ (wayOf_mem h)
    dsimp only at this
    rw [Option.getD_some, Int.mul_assoc]
    rcases this with e | e
    · rw [e]
      omega
    · rw [e]
      omega
theorem push_le {ls : List Lp} (hw : ∀ q, q ∈ ls → q.2 = 1 ∨ q.2 = -1) : ∀ (fs : List Fk), (∀ p, p ∈ fs → 1 ≤ p.2.1 ∧ p.2.1 ≤ 200 ∧ 1 ≤ p.2.2 ∧ p.2.2 ≤ 100) → (push fs ls).natAbs ≤ 20000 * fs.length
  | [], _ => by simp [push]
  | p :: fs, h => by
    have ih := push_le hw fs fun q hq => h q (List.mem_cons_of_mem _ hq)
    have hv := val_le hw (h p List.mem_cons_self)
    unfold push at ih ⊢
    rw [List.map_cons, List.sum_cons, List.length_cons]
    omega
theorem wgt_le (c : Int) (hc : 1 ≤ c ∧ c ≤ 1000) : ∀ (fs : List Fk), (∀ p, p ∈ fs → 1 ≤ p.2.1 ∧ p.2.1 ≤ 200 ∧ 1 ≤ p.2.2 ∧ p.2.2 ≤ 100) → 1 ≤ wgt c fs ∧ wgt c fs ≤ 1000 + 200 * fs.length
  | [], _ => by simp [wgt]; omega
  | p :: fs, h => by
    have ih := wgt_le c hc fs fun q hq => h q (List.mem_cons_of_mem _ hq)
    have hv := h p List.mem_cons_self
    unfold wgt at ih ⊢
    rw [List.map_cons, List.sum_cons, List.length_cons]
    omega
/-- the cart's speed behind a tuple of leaps -/
def dr (c : Int) (fs : List Fk) (q : Rat) (ls : List Lp) : Rat := q + mkRat (-push fs ls) (wgt c fs).toNat
theorem pow20 {x : Nat} (h : x ≤ 140000) (n : Nat) (hn : 20 ≤ n) : x < 2 ^ n := Nat.lt_of_lt_of_le (show x < 2 ^ 20 by omega) (Nat.pow_le_pow_right (by decide) hn)
section
variable {c : Int} {fs : List Fk} {ls : List Lp} {q : Rat}
theorem dr_part (hc : 1 ≤ c ∧ c ≤ 1000) (hf : OkF fs) (hw : ∀ p, p ∈ ls → p.2 = 1 ∨ p.2 = -1) : Bd 20 (mkRat (-push fs ls) (wgt c fs).toNat) := by
  have h1 := push_le hw fs hf.hv
  have h2 := wgt_le c hc fs hf.hv
  have h3 := hf.len
  exact bd_mk (by omega) (pow20 (by omega) 20 (by omega)) (pow20 (by omega) 20 (by omega))
theorem dr_bd {n : Nat} (hc : 1 ≤ c ∧ c ≤ 1000) (hf : OkF fs) (hw : ∀ p, p ∈ ls → p.2 = 1 ∨ p.2 = -1) (hq : Bd n q) : Bd (n + 21) (dr c fs q ls) := bd_add hq (dr_part hc hf hw)
theorem find_int (n : Str) : ∀ ls : List Lp, ((ls.map fun p => (p.1, PyData.int p.2)).find? fun p => decide (p.1 = n)).map (·.2) = (wayOf ls n).map PyData.int
  | [] => rfl
  | p :: ls => by
    have ih := find_int n ls
    unfold wayOf at ih ⊢
    rw [List.map_cons]
    by_cases h : p.1 = n
    · rw [List.find?_cons_of_pos (by simpa using h), List.find?_cons_of_pos (by simpa using h)]
      rfl
    · rw [List.find?_cons_of_neg (by simpa using h), List.find?_cons_of_neg (by simpa using h)]
      exact ih
theorem driven_eq (hc : 1 ≤ c ∧ c ≤ 1000) (hf : OkF fs) (hl : OkL fs ls) (hq : Bd 2900 q) : fn_driven [.int c, folkD fs, frD q, onceD ls] = some (frD (dr c fs q ls)) := by
  have hd := compD_enc encL (vs := [6, 7]) (γ := gTp 2 (gCs (gN 6) (gCs (gN 7) gNl))) (κ := fVar 6) (ε := fVar 7) (δ := [.dat (.int c), .dat (folkD fs), .dat (frD q), .dat (onceD ls), .un, .un, .un, .un, .un, .un])
    (fun p => [.dat (.int c), .dat (folkD fs), .dat (frD q), .dat (onceD ls), .un, .un, .dat (.str p.1), .dat (.int p.2), .un, .un]) (fun p => p.1) (fun p => .int p.2) ls [] fun p _ => ⟨rfl, rfl, rfl, rfl⟩
  rw [show ([] : List (PyData × PyData)) = dkv [] from rfl, put_all _ _ ls [] (by simpa using hl.nd), List.nil_append] at hd
  have h0 := fDc_of (φ := fItems (fVar 3)) (δ := [.dat (.int c), .dat (folkD fs), .dat (frD q), .dat (onceD ls), .un, .un, .un, .un, .un, .un]) rfl (by rw [List.length_map]; have := hl.len; omega) hd
  generalize hD : PyData.dict (dkv (ls.map fun p => (p.1, PyData.int p.2))) = Dc at h0
  have hHas : ∀ n : Str, dHas (.str n) Dc = some (.bool (wayOf ls n).isSome) := fun n => by
    rw [← hD]
    unfold dHas
    rw [dictOf_dkv]
    dsimp only [Sm.keyOf]
    rw [look_dkv, find_int, Option.isSome_map]
  have hGet : ∀ (n : Str) (w : Int), wayOf ls n = some w → dGet Dc (.str n) = some (.int w) := fun n w h => by
    rw [← hD]
    unfold dGet
    rw [dictOf_dkv]
    dsimp only [Sm.keyOf]
    rw [look_dkv, find_int, h]
    rfl
  have hcc := compL_enc encF (vs := [6, 8, 9]) (γ := gTp 3 (gCs (gN 6) (gCs (gN 8) (gCs (gN 9) gNl)))) (τ := fTest (fOp dHas (fVar 6) (fVar 4))) (ε := fOp dMul (fOp dMul (fOp dGet (fVar 4) (fVar 6)) (fVar 8)) (fVar 9)) (δ := [.dat (.int c), .dat (folkD fs), .dat (frD q), .dat (onceD ls), .dat Dc, .un, .un, .un, .un, .un])
    (fun p => [.dat (.int c), .dat (folkD fs), .dat (frD q), .dat (onceD ls), .dat Dc, .un, .dat (.str p.1), .un, .dat (.int p.2.1), .dat (.int p.2.2)]) (fun p => (wayOf ls p.1).isSome) (fun p => .int (val ls p)) fs fun p hp => ⟨rfl, by simp only [e_fCallD, e_fCallLD, e_fCallO, e_fAddL, e_fZipB, e_fListZip, e_sOwnD, e_fNewD, e_fDictD, e_sDPutO, e_fDGetO, e_fDGet2, e_sFrzD, e_sPar3, e_fVar, e_fC, e_fOp, e_fUn, e_fNil, e_fCons, e_fTup, e_fLst, e_fOfL, e_fTest, e_fAnd, e_fOr, e_fNot, e_fBool, e_fIf, e_fChain, e_fVarB, e_fUnL, e_fNoPart, e_fPart, e_fSl, e_gN, e_gNl, e_gCs, e_gTp, e_fZip, e_fYes, e_sNx, e_sSeq, e_sAsg, e_sOwn, e_sApp, e_sExt, e_sIns, e_sSetIx, e_fIxO, e_fSlO, e_sRet, e_sRetL, e_sRetO, e_sFrz, e_sDrop, e_sIf, e_sPar, e_fCall, e_fCallL, e_fCallB, e_sParO, e_fOpO, e_fItems, e_fRange, e_fMin, e_orF, fI0, fI, fS0, dNeg, dAbs, dLen, dSum, dTuple, ix_t0, ix_t1, ix_t2, ix_l0, ix_l1, ownAt, setOwn, EV.cont, EV.with, seqOf, itemsOf, List.map_cons, List.map_nil, List.cons_append, List.nil_append, List.replicate_succ, List.replicate_zero, List.getElem?_cons_zero, List.getElem?_cons_succ, List.getElem?_nil, List.set_cons_zero, List.set_cons_succ, List.length_cons, List.length_nil, hHas], fun ht => by
      obtain ⟨w, hw⟩ := Option.isSome_iff_exists.mp ht
      have hb := hf.hv p hp
      have hww := hl.wy _ (wayOf_mem hw)
      dsimp only at hww
      have m1 : cMulB w p.2.1 = true := mulB (pow20 (by omega) 8000 (by omega)) (pow20 (by omega) 8000 (by omega))
      have m2 : cMulB (w * p.2.1) p.2.2 = true := mulB (pow20 (by rcases hww with e | e <;> (rw [e]; omega)) 8000 (by omega)) (pow20 (by omega) 8000 (by omega))
      simp only [e_fCallD, e_fCallLD, e_fCallO, e_fAddL, e_fZipB, e_fListZip, e_sOwnD, e_fNewD, e_fDictD, e_sDPutO, e_fDGetO, e_fDGet2, e_sFrzD, e_sPar3, e_fVar, e_fC, e_fOp, e_fUn, e_fNil, e_fCons, e_fTup, e_fLst, e_fOfL, e_fTest, e_fAnd, e_fOr, e_fNot, e_fBool, e_fIf, e_fChain, e_fVarB, e_fUnL, e_fNoPart, e_fPart, e_fSl, e_gN, e_gNl, e_gCs, e_gTp, e_fZip, e_fYes, e_sNx, e_sSeq, e_sAsg, e_sOwn, e_sApp, e_sExt, e_sIns, e_sSetIx, e_fIxO, e_fSlO, e_sRet, e_sRetL, e_sRetO, e_sFrz, e_sDrop, e_sIf, e_sPar, e_fCall, e_fCallL, e_fCallB, e_sParO, e_fOpO, e_fItems, e_fRange, e_fMin, e_orF, fI0, fI, fS0, dNeg, dAbs, dLen, dSum, dTuple, ix_t0, ix_t1, ix_t2, ix_l0, ix_l1, ownAt, setOwn, EV.cont, EV.with, seqOf, itemsOf, List.map_cons, List.map_nil, List.cons_append, List.nil_append, List.replicate_succ, List.replicate_zero, List.getElem?_cons_zero, List.getElem?_cons_succ, List.getElem?_nil, List.set_cons_zero, List.set_cons_succ, List.length_cons, List.length_nil, hGet _ _ hw, m1, m2, if_true]
      unfold val
      rw [hw]
      rfl, rfl⟩
  have h1 := fLc_of (φ := fItems (fVar 1)) (δ := [.dat (.int c), .dat (folkD fs), .dat (frD q), .dat (onceD ls), .dat Dc, .un, .un, .un, .un, .un]) rfl (by rw [List.length_map]; have := hf.len; omega) hcc
  have h2 : intsOf ((fs.filter fun p => (wayOf ls p.1).isSome).map fun p => PyData.int (val ls p)) = some ((fs.filter fun p => (wayOf ls p.1).isSome).map (val ls)) := by
    rw [show ((fs.filter fun p => (wayOf ls p.1).isSome).map fun p => PyData.int (val ls p)) = ((fs.filter fun p => (wayOf ls p.1).isSome).map (val ls)).map PyData.int by rw [List.map_map]; rfl, intsOf_map]
  have hw := wgt_le c hc fs hf.hv
  have hlen := hf.len
  have w0 := wgt_le c hc fs hf.hv
  have hpu := push_le hl.wy fs hf.hv
  have h4 := fn_plus_pair (a := q.num) (b := q.den) (c := -push fs ls) (d := (wgt c fs).toNat) q.den_pos (by omega) (bd_le hq (show 2900 ≤ 3000 by omega)).1 (bd_le hq (show 2900 ≤ 3000 by omega)).2 (pow20 (by omega) 3000 (by omega)) (pow20 (by omega) 3000 (by omega))
  rw [Rat.mkRat_self, show (((wgt c fs).toNat : Nat) : Int) = wgt c fs by omega] at h4
  have h5 : fn_plus [frD q, .tuple [.int (-push fs ls), .int (wgt c fs)]] = some (frD (dr c fs q ls)) := h4
  unfold fn_driven b_driven
  simp only [runD, e_fCallD, e_fCallLD, e_fCallO, e_fAddL, e_fZipB, e_fListZip, e_sOwnD, e_fNewD, e_fDictD, e_sDPutO, e_fDGetO, e_fDGet2, e_sFrzD, e_sPar3, e_fVar, e_fC, e_fOp, e_fUn, e_fNil, e_fCons, e_fTup, e_fLst, e_fOfL, e_fTest, e_fAnd, e_fOr, e_fNot, e_fBool, e_fIf, e_fChain, e_fVarB, e_fUnL, e_fNoPart, e_fPart, e_fSl, e_gN, e_gNl, e_gCs, e_gTp, e_fZip, e_fYes, e_sNx, e_sSeq, e_sAsg, e_sOwn, e_sApp, e_sExt, e_sIns, e_sSetIx, e_fIxO, e_fSlO, e_sRet, e_sRetL, e_sRetO, e_sFrz, e_sDrop, e_sIf, e_sPar, e_fCall, e_fCallL, e_fCallB, e_sParO, e_fOpO, e_fItems, e_fRange, e_fMin, e_orF, fI0, fI, fS0, dNeg, dAbs, dLen, dSum, dTuple, ix_t0, ix_t1, ix_t2, ix_l0, ix_l1, ownAt, setOwn, EV.cont, EV.with, seqOf, itemsOf, List.map_cons, List.map_nil, List.cons_append, List.nil_append, List.replicate_succ, List.replicate_zero, List.getElem?_cons_zero, List.getElem?_cons_succ, List.getElem?_nil, List.set_cons_zero, List.set_cons_succ, List.length_cons, List.length_nil, h0, h1, h2, Option.map, push_filter, weigh_eq c fs hf.len]
  rw [if_pos (by decide)]
  simp only [e_fCallD, e_fCallLD, e_fCallO, e_fAddL, e_fZipB, e_fListZip, e_sOwnD, e_fNewD, e_fDictD, e_sDPutO, e_fDGetO, e_fDGet2, e_sFrzD, e_sPar3, e_fVar, e_fC, e_fOp, e_fUn, e_fNil, e_fCons, e_fTup, e_fLst, e_fOfL, e_fTest, e_fAnd, e_fOr, e_fNot, e_fBool, e_fIf, e_fChain, e_fVarB, e_fUnL, e_fNoPart, e_fPart, e_fSl, e_gN, e_gNl, e_gCs, e_gTp, e_fZip, e_fYes, e_sNx, e_sSeq, e_sAsg, e_sOwn, e_sApp, e_sExt, e_sIns, e_sSetIx, e_fIxO, e_fSlO, e_sRet, e_sRetL, e_sRetO, e_sFrz, e_sDrop, e_sIf, e_sPar, e_fCall, e_fCallL, e_fCallB, e_sParO, e_fOpO, e_fItems, e_fRange, e_fMin, e_orF, fI0, fI, fS0, dNeg, dAbs, dLen, dSum, dTuple, ix_t0, ix_t1, ix_t2, ix_l0, ix_l1, ownAt, setOwn, EV.cont, EV.with, seqOf, itemsOf, List.map_cons, List.map_nil, List.cons_append, List.nil_append, List.replicate_succ, List.replicate_zero, List.getElem?_cons_zero, List.getElem?_cons_succ, List.getElem?_nil, List.set_cons_zero, List.set_cons_succ, List.length_cons, List.length_nil, h5]
end
end Lc
set_option exponentiation.threshold 10000
namespace Lc
open PySem L2 Evl RZ Sm
/-! ### the law's own way of one tuple of leaps -/
def entry (fs : List Fk) (n : Str) : Option Fk := fs.find? fun p => decide (p.1 = n)
def tm (fs : List Fk) (p : Lp) : Int := match entry fs p.1 with
  | some e => e.2.1 * e.2.2 * p.2
  | none => 0
theorem entry_some {fs : List Fk} {n : Str} (h : n ∈ fs.map (·.1)) : ∃ e, entry fs n = some e ∧ e ∈ fs ∧ e.1 = n := by
  obtain ⟨p, hp, e⟩ := List.mem_map.mp h
  unfold entry
  cases hf : fs.find? fun p => decide (p.1 = n) with
  | none =>
    have := List.find?_eq_none.mp hf p hp
    simp [e] at this
  | some x =>
    have h2 := List.find?_some hf
    exact ⟨x, rfl, List.mem_of_find?_eq_some hf, of_decide_eq_true h2⟩
theorem single_sum (n : Str) (w : Int) : ∀ (fs : List Fk) (e : Fk), (fs.map (·.1)).Nodup → entry fs n = some e → (fs.map fun p => if p.1 = n then w * p.2.1 * p.2.2 else 0).sum = w * e.2.1 * e.2.2
  | [], _, _, h => by cases h
  | p :: fs, e, hn, h => by
    rw [List.map_cons, List.nodup_cons] at hn
    rw [List.map_cons, List.sum_cons]
    unfold entry at h
    by_cases hp : p.1 = n
    · rw [List.find?_cons_of_pos (by simpa using hp)] at h
      cases h
      rw [if_pos hp]
      have : (fs.map fun q => if q.1 = n then w * q.2.1 * q.2.2 else 0) = fs.map fun _ => 0 := List.map_congr_left fun q hq => by
        rw [if_neg (fun z => hn.1 (by rw [hp, ← z]; exact List.mem_map.mpr ⟨q, hq, rfl⟩))]
      rw [this]
      have z : ∀ l : List Fk, (l.map fun _ => (0 : Int)).sum = 0 := fun l => by
        induction l with
        | nil => rfl
        | cons a l ih => rw [List.map_cons, List.sum_cons, ih]; rfl
      rw [z]
      omega
    · rw [List.find?_cons_of_neg (by simpa using hp)] at h
      rw [if_neg hp, single_sum n w fs e hn.2 h]
      omega
theorem sum_add {α : Type} (f g : α → Int) : ∀ l : List α, (l.map fun x => f x + g x).sum = (l.map f).sum + (l.map g).sum
  | [] => rfl
  | x :: l => by
    rw [List.map_cons, List.map_cons, List.map_cons, List.sum_cons, List.sum_cons, List.sum_cons, sum_add f g l]
    omega
theorem push_swap {fs : List Fk} (hf : (fs.map (·.1)).Nodup) : ∀ (ls : List Lp), (ls.map (·.1)).Nodup → (∀ p, p ∈ ls → p.1 ∈ fs.map (·.1)) → push fs ls = (ls.map (tm fs)).sum
  | [], _, _ => by
    unfold push
    have : fs.map (val []) = fs.map fun _ => 0 := List.map_congr_left fun p _ => by
      unfold val wayOf
      simp
    rw [this]
    have z : ∀ l : List Fk, (l.map fun _ => (0 : Int)).sum = 0 := fun l => by
      induction l with
      | nil => rfl
      | cons a l ih => rw [List.map_cons, List.sum_cons, ih]; rfl
    exact z fs
  | (n, w) :: ls, hn, hm => by
    rw [List.map_cons, List.nodup_cons] at hn
    have ih := push_swap hf ls hn.2 fun p hp => hm p (List.mem_cons_of_mem _ hp)
    obtain ⟨e, he, _, _⟩ := entry_some (hm (n, w) List.mem_cons_self)
    rw [List.map_cons, List.sum_cons, ← ih]
    have hv : ∀ p : Fk, val ((n, w) :: ls) p = val ls p + (if p.1 = n then w * p.2.1 * p.2.2 else 0) := fun p => by
      unfold val wayOf
      by_cases hp : p.1 = n
      · rw [List.find?_cons_of_pos (by simpa using hp.symm), if_pos hp]
        have : (ls.find? fun q => decide (q.1 = p.1)) = none := List.find?_eq_none.mpr fun q hq z => hn.1 (by
          have z' := of_decide_eq_true z
          show n ∈ ls.map (·.1)
          rw [← hp, ← z']
          exact List.mem_map.mpr ⟨q, hq, rfl⟩)
        rw [this]
        simp
      · rw [List.find?_cons_of_neg (by simpa using fun z => hp z.symm), if_neg hp]
        omega
    unfold push
    rw [List.map_congr_left (fun p _ => hv p), sum_add, single_sum n w fs e hf he]
    unfold tm
    rw [he]
    dsimp only
    rw [Int.mul_assoc w, Int.mul_comm w]
    omega
theorem tm_le {fs : List Fk} (hf : OkF fs) {p : Lp} (hw : p.2 = 1 ∨ p.2 = -1) (hn : p.1 ∈ fs.map (·.1)) : (tm fs p).natAbs ≤ 20000 := by
  obtain ⟨e, he, hm, _⟩ := entry_some hn
  have hp := hf.hv e hm
  have h1 : e.2.1 * e.2.2 ≤ 200 * 100 := Int.mul_le_mul hp.2.1 hp.2.2.2 (by omega) (by omega)
  have h2 : 0 ≤ e.2.1 * e.2.2 := Int.mul_nonneg (by omega) (by omega)
  unfold tm
  rw [he]
  dsimp only
  rcases hw with z | z <;> (rw [z]; omega)
/-- a dict of the folk by their names -/
theorem dict_folk (fs : List Fk) (f : Fk → PyData) (hn : (fs.map (·.1)).Nodup) : dDict (.list (fs.map fun p => .tuple [.str p.1, f p])) = some (.dict (dkv (fs.map fun p => (p.1, f p)))) := by
  have h1 : ∀ fs : List Fk, pairsD (fs.map fun p => .tuple [.str p.1, f p]) = some (fs.map fun p => (Sum.inr p.1, f p)) := fun fs => by
    induction fs with
    | nil => rfl
    | cons p fs ih =>
      rw [List.map_cons]
      unfold pairsD
      rw [ih]
      rfl
  unfold dDict
  dsimp only
  rw [h1]
  dsimp only
  congr 2
  unfold mergeD
  rw [List.foldl_map]
  exact (put_all (fun p : Fk => p.1) f fs [] (by simpa using hn)).trans (by rw [List.nil_append])
theorem get_folk (fs : List Fk) (f : Fk → PyData) {n : Str} {e : Fk} (h : entry fs n = some e) : dGet (.dict (dkv (fs.map fun p => (p.1, f p)))) (.str n) = some (f e) := by
  unfold dGet
  rw [dictOf_dkv]
  dsimp only [Sm.keyOf]
  rw [look_dkv]
  have : ∀ fs : List Fk, ((fs.map fun p => (p.1, f p)).find? fun p => decide (p.1 = n)).map (·.2) = (entry fs n).map f := fun fs => by
    unfold entry
    induction fs with
    | nil => rfl
    | cons p fs ih =>
      rw [List.map_cons]
      by_cases h : p.1 = n
      · rw [List.find?_cons_of_pos (by simpa using h), List.find?_cons_of_pos (by simpa using h)]
        rfl
      · rw [List.find?_cons_of_neg (by simpa using h), List.find?_cons_of_neg (by simpa using h)]
        exact ih
  rw [this, h]
  rfl
theorem sum_rat : ∀ (xs : List Int) (s : Rat), xs.foldl (fun s x => s + ((0 - x : Int) : Rat)) s = s + ((-xs.sum : Int) : Rat)
  | [], s => by
    rw [List.foldl_nil, List.sum_nil]
    exact (Rat.add_zero s).symm
  | x :: xs, s => by
    rw [List.foldl_cons, sum_rat xs, List.sum_cons, Rat.add_assoc, ← Rat.intCast_add]
    congr 2
    omega
theorem mk_inv {w : Int} (hw : 0 < w) : (w : Rat) * mkRat 1 w.toNat = 1 := by
  rw [Rat.mul_def', Rat.num_intCast]
  have hn := mk_num 1 w.toNat (by omega)
  have e : ((w.toNat : Nat) : Int) = w := by omega
  have g1 : Int.gcd 1 (w.toNat : Int) = 1 := by simp
  rw [g1] at hn
  have h1 : (mkRat 1 w.toNat).num = 1 := by rw [hn.1]; rfl
  have h2 : (mkRat 1 w.toNat).den = w.toNat := by
    have := hn.2
    omega
  rw [h1, h2]
  show mkRat (w * 1) (1 * w.toNat) = 1
  rw [Int.mul_one, Nat.one_mul]
  have : mkRat ((w.toNat : Int) * 1) (w.toNat * 1) = mkRat 1 1 := Rat.mkRat_mul_left (by omega)
  rw [Int.mul_one, Nat.mul_one, e] at this
  rw [this]
  rfl
theorem mk_split (t : Int) {w : Int} (hw : 0 < w) : mkRat t w.toNat = (t : Rat) * mkRat 1 w.toNat := by
  have : (t : Rat) = mkRat t 1 := (Rat.mkRat_self (t : Rat)).symm
  rw [this, Rat.mkRat_mul_mkRat, Int.mul_one, Nat.one_mul]
section
variable {c : Int} {fs : List Fk} {ls : List Lp} {q : Rat}
theorem behind_alg (hc : 1 ≤ c ∧ c ≤ 1000) (hf : OkF fs) (hl : OkL fs ls) : mkRat ((q * (wgt c fs : Int)) + ((-(ls.map (tm fs)).sum : Int) : Rat)).num (((q * (wgt c fs : Int)) + ((-(ls.map (tm fs)).sum : Int) : Rat)).den * (wgt c fs).toNat) = dr c fs q ls := by
  have hw := (wgt_le c hc fs hf.hv).1
  have h0 : 0 < wgt c fs := by omega
  generalize hS : (q * (wgt c fs : Int)) + ((-(ls.map (tm fs)).sum : Int) : Rat) = S
  have e1 : mkRat S.num (S.den * (wgt c fs).toNat) = S * mkRat 1 (wgt c fs).toNat := by
    conv => rhs; rw [← Rat.mkRat_self S]
    rw [Rat.mkRat_mul_mkRat, Int.mul_one]
  unfold dr
  rw [e1, mk_split (-push fs ls) h0, ← hS, Rat.add_mul, Rat.mul_assoc, mk_inv h0, Rat.mul_one, push_swap hf.nd ls hl.nd hl.nm]
theorem behind_eq (hc : 1 ≤ c ∧ c ≤ 1000) (hf : OkF fs) (hl : OkL fs ls) (hq : Bd 2000 q) : fn__law_behind [.int c, folkD fs, frD q, onceD ls] = some (frD (dr c fs q ls)) := by
  have hw := wgt_le c hc fs hf.hv
  have hlen := hf.len
  have hll := hl.len
  have hk := compL_enc encF (vs := [8]) (γ := gN 8) (τ := fYes) (ε := fTup (fCons (fOp dIx (fVar 8) (fC (.int 0))) (fCons (fVar 8) fNil))) (δ := [.dat (.int c), .dat (folkD fs), .dat (frD q), .dat (onceD ls), .un, .un, .un, .un, .un])
    (fun p => [.dat (.int c), .dat (folkD fs), .dat (frD q), .dat (onceD ls), .un, .un, .un, .un, .dat (encF p)]) (fun _ => true) (fun p => .tuple [.str p.1, encF p]) fs fun p _ => ⟨rfl, rfl, fun _ => by
      have : dIx (encF p) (.int 0) = some (.str p.1) := ix_t0
      simp only [e_fCallD, e_fCallLD, e_fCallO, e_fAddL, e_fZipB, e_fListZip, e_sOwnD, e_fNewD, e_fDictD, e_sDPutO, e_fDGetO, e_fDGet2, e_sFrzD, e_sPar3, e_fVar, e_fC, e_fOp, e_fUn, e_fNil, e_fCons, e_fTup, e_fLst, e_fOfL, e_fTest, e_fAnd, e_fOr, e_fNot, e_fBool, e_fIf, e_fChain, e_fVarB, e_fUnL, e_fNoPart, e_fPart, e_fSl, e_gN, e_gNl, e_gCs, e_gTp, e_fZip, e_fYes, e_sNx, e_sSeq, e_sAsg, e_sOwn, e_sApp, e_sExt, e_sIns, e_sSetIx, e_fIxO, e_fSlO, e_sRet, e_sRetL, e_sRetO, e_sFrz, e_sDrop, e_sIf, e_sPar, e_fCall, e_fCallL, e_fCallB, e_sParO, e_fOpO, e_fItems, e_fRange, e_fMin, e_orF, fI0, fI, fS0, dNeg, dAbs, dLen, dSum, dTuple, ix_t0, ix_t1, ix_t2, ix_l0, ix_l1, ownAt, setOwn, EV.cont, EV.with, seqOf, itemsOf, List.map_cons, List.map_nil, List.cons_append, List.nil_append, List.replicate_succ, List.replicate_zero, List.getElem?_cons_zero, List.getElem?_cons_succ, List.getElem?_nil, List.set_cons_zero, List.set_cons_succ, List.length_cons, List.length_nil, this]
      rw [if_pos (by decide)], rfl⟩
  rw [filter_true] at hk
  have h1 := fLc_of (φ := fItems (fVar 1)) (δ := [.dat (.int c), .dat (folkD fs), .dat (frD q), .dat (onceD ls), .un, .un, .un, .un, .un]) rfl (by rw [List.length_map]; omega) hk
  have h2 := dict_folk fs encF hf.nd
  have hgF : ∀ {n : Str} {e : Fk}, entry fs n = some e → dGet (.dict (dkv (fs.map fun p => (p.1, encF p)))) (.str n) = some (encF e) := fun h => get_folk fs encF h
  generalize hD : PyData.dict (dkv (fs.map fun p => (p.1, encF p))) = Dc at h2 hgF
  have hwb : Bd 12 ((wgt c fs : Int) : Rat) := bd_int (by have : (2 : Nat) ^ 12 = 4096 := by decide
                                                          omega) (by omega)
  have hqW : Bd 2012 (q * (wgt c fs : Int)) := bd_mul hq hwb
  have h3 := ltimes_eq (q := q) (i := wgt c fs) (bd_le hq (by omega)) (pow20 (by omega) 3000 (by omega))
  obtain ⟨δ', hloop, hR1, x6, x7, hR2⟩ := loop_idx encL (γ := gTp 2 (gCs (gN 6) (gCs (gN 7) gNl)))
    (b := sAsg (fCall fn__law_plus (fCons (fVar 5) (fCons (fTup (fCons (fOp dSub (fC (.int 0)) (fOp dMul (fOp dMul (fOp dIx (fOp dGet (fVar 4) (fVar 6)) (fC (.int 1))) (fOp dIx (fOp dGet (fVar 4) (fVar 6)) (fC (.int 2)))) (fVar 7))) (fCons (fC (.int 1)) fNil))) fNil))) (gN 5))
    (fun (i : Nat) (s : Rat) (δ : En) => Bd (2012 + 21 * i) s ∧ ∃ x6 x7, δ = [.dat (.int c), .dat (folkD fs), .dat (frD q), .dat (onceD ls), .dat Dc, .dat (frD s), x6, x7, .un]) (fun s p => s + ((0 - tm fs p : Int) : Rat)) ls 0 (q * (wgt c fs : Int)) [.dat (.int c), .dat (folkD fs), .dat (frD q), .dat (onceD ls), .dat Dc, .dat (frD (q * (wgt c fs : Int))), .un, .un, .un]
    (fun i s p δ hp ⟨hb, x6, x7, hδ⟩ => by
      subst hδ
      have hi : i < ls.length := (List.getElem?_eq_some_iff.mp hp).1
      have hpm : p ∈ ls := List.mem_of_getElem? hp
      obtain ⟨e, he, hem, hen⟩ := entry_some (hl.nm p hpm)
      have hev := hf.hv e hem
      have hpw := hl.wy p hpm
      have ht := tm_le hf hpw (hl.nm p hpm)
      have hbi : Bd 20 ((0 - tm fs p : Int) : Rat) := bd_int (pow20 (by omega) 20 (by omega)) (by omega)
      have hadd := bd_add hb hbi
      have m1 : cMulB e.2.1 e.2.2 = true := mulB (pow20 (by omega) 8000 (by omega)) (pow20 (by omega) 8000 (by omega))
      have h9 : (e.2.1 * e.2.2).natAbs ≤ 20000 := by
        have h1 : e.2.1 * e.2.2 ≤ 200 * 100 := Int.mul_le_mul hev.2.1 hev.2.2.2 (by omega) (by omega)
        have h2 : 0 ≤ e.2.1 * e.2.2 := Int.mul_nonneg (by omega) (by omega)
        omega
      have m2 : cMulB (e.2.1 * e.2.2) p.2 = true := mulB (pow20 (by omega) 8000 (by omega)) (pow20 (by omega) 8000 (by omega))
      have et : tm fs p = e.2.1 * e.2.2 * p.2 := by
        unfold tm
        rw [he]
      have hpl := lplus_eq (bd_le hb (by omega)) (bd_le hbi (show 20 ≤ 3000 by omega))
      have hfi : frD ((0 - tm fs p : Int) : Rat) = .tuple [.int (0 - e.2.1 * e.2.2 * p.2), .int 1] := by
        rw [et]
        rfl
      rw [hfi] at hpl
      have i1 : dIx (encF e) (.int 1) = some (.int e.2.1) := ix_t1
      have i2 : dIx (encF e) (.int 2) = some (.int e.2.2) := ix_t2
      refine ⟨[.dat (.int c), .dat (folkD fs), .dat (frD q), .dat (onceD ls), .dat Dc, .dat (frD s), .dat (.str p.1), .dat (.int p.2), .un], [.dat (.int c), .dat (folkD fs), .dat (frD q), .dat (onceD ls), .dat Dc, .dat (frD (s + ((0 - tm fs p : Int) : Rat))), .dat (.str p.1), .dat (.int p.2), .un], rfl, ?_, ?_, _, _, rfl⟩
      · simp only [e_fCallD, e_fCallLD, e_fCallO, e_fAddL, e_fZipB, e_fListZip, e_sOwnD, e_fNewD, e_fDictD, e_sDPutO, e_fDGetO, e_fDGet2, e_sFrzD, e_sPar3, e_fVar, e_fC, e_fOp, e_fUn, e_fNil, e_fCons, e_fTup, e_fLst, e_fOfL, e_fTest, e_fAnd, e_fOr, e_fNot, e_fBool, e_fIf, e_fChain, e_fVarB, e_fUnL, e_fNoPart, e_fPart, e_fSl, e_gN, e_gNl, e_gCs, e_gTp, e_fZip, e_fYes, e_sNx, e_sSeq, e_sAsg, e_sOwn, e_sApp, e_sExt, e_sIns, e_sSetIx, e_fIxO, e_fSlO, e_sRet, e_sRetL, e_sRetO, e_sFrz, e_sDrop, e_sIf, e_sPar, e_fCall, e_fCallL, e_fCallB, e_sParO, e_fOpO, e_fItems, e_fRange, e_fMin, e_orF, fI0, fI, fS0, dNeg, dAbs, dLen, dSum, dTuple, ix_t0, ix_t1, ix_t2, ix_l0, ix_l1, ownAt, setOwn, EV.cont, EV.with, seqOf, itemsOf, List.map_cons, List.map_nil, List.cons_append, List.nil_append, List.replicate_succ, List.replicate_zero, List.getElem?_cons_zero, List.getElem?_cons_succ, List.getElem?_nil, List.set_cons_zero, List.set_cons_succ, List.length_cons, List.length_nil, hgF he, i1, i2, m1, m2, if_true]
        rw [if_pos (by decide)]
        simp only [e_fCallD, e_fCallLD, e_fCallO, e_fAddL, e_fZipB, e_fListZip, e_sOwnD, e_fNewD, e_fDictD, e_sDPutO, e_fDGetO, e_fDGet2, e_sFrzD, e_sPar3, e_fVar, e_fC, e_fOp, e_fUn, e_fNil, e_fCons, e_fTup, e_fLst, e_fOfL, e_fTest, e_fAnd, e_fOr, e_fNot, e_fBool, e_fIf, e_fChain, e_fVarB, e_fUnL, e_fNoPart, e_fPart, e_fSl, e_gN, e_gNl, e_gCs, e_gTp, e_fZip, e_fYes, e_sNx, e_sSeq, e_sAsg, e_sOwn, e_sApp, e_sExt, e_sIns, e_sSetIx, e_fIxO, e_fSlO, e_sRet, e_sRetL, e_sRetO, e_sFrz, e_sDrop, e_sIf, e_sPar, e_fCall, e_fCallL, e_fCallB, e_sParO, e_fOpO, e_fItems, e_fRange, e_fMin, e_orF, fI0, fI, fS0, dNeg, dAbs, dLen, dSum, dTuple, ix_t0, ix_t1, ix_t2, ix_l0, ix_l1, ownAt, setOwn, EV.cont, EV.with, seqOf, itemsOf, List.map_cons, List.map_nil, List.cons_append, List.nil_append, List.replicate_succ, List.replicate_zero, List.getElem?_cons_zero, List.getElem?_cons_succ, List.getElem?_nil, List.set_cons_zero, List.set_cons_succ, List.length_cons, List.length_nil, hpl]
      · rw [show 2012 + 21 * (0 + i + 1) = 2012 + 21 * (0 + i) + 20 + 1 by omega]
        exact hadd) ⟨hqW, _, _, rfl⟩
  have hfold : ls.foldl (fun s p => s + ((0 - tm fs p : Int) : Rat)) (q * (wgt c fs : Int)) = (q * (wgt c fs : Int)) + ((-(ls.map (tm fs)).sum : Int) : Rat) := by
    rw [← sum_rat, List.foldl_map]
  rw [hfold] at hR1 hR2
  have halg := behind_alg (q := q) hc hf hl
  generalize hS : (q * (wgt c fs : Int)) + ((-(ls.map (tm fs)).sum : Int) : Rat) = S at hR1 hR2 halg
  have hSb : Bd 2500 S := bd_le hR1 (by omega)
  have d0 := S.den_pos
  have m4 : cMulB (S.den : Int) (wgt c fs) = true := mulB (Nat.lt_of_lt_of_le hSb.2 (Nat.pow_le_pow_right (by decide) (by omega))) (pow20 (by omega) 8000 (by omega))
  have e5 : (S.den : Int) * wgt c fs = ((S.den * (wgt c fs).toNat : Nat) : Int) := by
    rw [Int.natCast_mul]
    congr 1
    omega
  have hpos : 0 < S.den * (wgt c fs).toNat := Nat.mul_pos d0 (by omega)
  have h6 := low_eq S.num ((S.den : Int) * wgt c fs) (by rw [e5]; omega) (by
    rw [e5]
    show S.den * (wgt c fs).toNat < _
    have := mul_lt2 hSb.2 (pow20 (x := (wgt c fs).toNat) (by omega) 20 (by omega))
    exact Nat.lt_of_lt_of_le this (Nat.pow_le_pow_right (by decide) (by omega)))
  have e7 : ((S.den : Int) * wgt c fs).toNat = S.den * (wgt c fs).toNat := by
    rw [e5]
    rfl
  rw [e7, halg] at h6
  have h8 := sFor_of (φ := fItems (fVar 3)) (δ := [.dat (.int c), .dat (folkD fs), .dat (frD q), .dat (onceD ls), .dat Dc, .dat (frD (q * (wgt c fs : Int))), .un, .un, .un]) rfl hloop
  have i3 : dIx (frD S) (.int 0) = some (.int S.num) := ix_t0
  have i4 : dIx (frD S) (.int 1) = some (.int S.den) := ix_t1
  unfold fn__law_behind b__law_behind
  simp only [runD, e_fCallD, e_fCallLD, e_fCallO, e_fAddL, e_fZipB, e_fListZip, e_sOwnD, e_fNewD, e_fDictD, e_sDPutO, e_fDGetO, e_fDGet2, e_sFrzD, e_sPar3, e_fVar, e_fC, e_fOp, e_fUn, e_fNil, e_fCons, e_fTup, e_fLst, e_fOfL, e_fTest, e_fAnd, e_fOr, e_fNot, e_fBool, e_fIf, e_fChain, e_fVarB, e_fUnL, e_fNoPart, e_fPart, e_fSl, e_gN, e_gNl, e_gCs, e_gTp, e_fZip, e_fYes, e_sNx, e_sSeq, e_sAsg, e_sOwn, e_sApp, e_sExt, e_sIns, e_sSetIx, e_fIxO, e_fSlO, e_sRet, e_sRetL, e_sRetO, e_sFrz, e_sDrop, e_sIf, e_sPar, e_fCall, e_fCallL, e_fCallB, e_sParO, e_fOpO, e_fItems, e_fRange, e_fMin, e_orF, fI0, fI, fS0, dNeg, dAbs, dLen, dSum, dTuple, ix_t0, ix_t1, ix_t2, ix_l0, ix_l1, ownAt, setOwn, EV.cont, EV.with, seqOf, itemsOf, List.map_cons, List.map_nil, List.cons_append, List.nil_append, List.replicate_succ, List.replicate_zero, List.getElem?_cons_zero, List.getElem?_cons_succ, List.getElem?_nil, List.set_cons_zero, List.set_cons_succ, List.length_cons, List.length_nil, h1, h2, lweight_eq c fs hlen, h3, h8, hR2, i3, i4, m4, if_true, h6]
end
end Lc
set_option exponentiation.threshold 10000
namespace Lc
open PySem L2 Evl RZ Sm
/-! ### whole runs -/
def leapOf (fs : List Fk) (n : Str) : Int := match entry fs n with
  | some e => e.2.2
  | none => 0
/-- the speeds of those of a tuple -/
def own (fs : List Fk) (b : Rat) (ls : List Lp) : List (Str × Rat) := ls.map fun p => (p.1, b + ((p.2 * leapOf fs p.1 : Int) : Rat))
def encO (p : Str × Rat) : PyData := .tuple [.str p.1, frD p.2]
section
variable {c : Int} {fs : List Fk} {ls : List Lp} {q b : Rat}
theorem leap_le (hf : OkF fs) {p : Lp} (hw : p.2 = 1 ∨ p.2 = -1) (hn : p.1 ∈ fs.map (·.1)) : ∃ e, entry fs p.1 = some e ∧ leapOf fs p.1 = e.2.2 ∧ (p.2 * leapOf fs p.1).natAbs ≤ 100 ∧ 1 ≤ e.2.2 ∧ e.2.2 ≤ 100 := by
  obtain ⟨e, he, hm, _⟩ := entry_some hn
  have hv := hf.hv e hm
  have : leapOf fs p.1 = e.2.2 := by
    unfold leapOf
    rw [he]
  refine ⟨e, he, this, ?_, hv.2.2.1, hv.2.2.2⟩
  rw [this]
  rcases hw with z | z <;> (rw [z]; omega)
/-- how fast everybody leaps -/
def leapD (fs : List Fk) : PyData := .dict (dkv (fs.map fun p => (p.1, PyData.int p.2.2)))
theorem byname_eq (hf : OkF fs) : fn_leap_by_name [folkD fs] = some (leapD fs) := by
  have hlen := hf.len
  have hd := compD_enc encF (vs := [1, 2, 3]) (γ := gTp 3 (gCs (gN 1) (gCs (gN 2) (gCs (gN 3) gNl)))) (κ := fVar 1) (ε := fVar 3) (δ := [.dat (folkD fs), .un, .un, .un])
    (fun p => [.dat (folkD fs), .dat (.str p.1), .dat (.int p.2.1), .dat (.int p.2.2)]) (fun p => p.1) (fun p => .int p.2.2) fs [] fun p _ => ⟨rfl, rfl, rfl, rfl⟩
  rw [show ([] : List (PyData × PyData)) = dkv [] from rfl, put_all _ _ fs [] (by simpa using hf.nd), List.nil_append] at hd
  have h0 := fDc_of (φ := fItems (fVar 0)) (δ := [.dat (folkD fs), .un, .un, .un]) rfl (by rw [List.length_map]; omega) hd
  unfold fn_leap_by_name b_leap_by_name
  simp only [runD, e_fCallD, e_fCallLD, e_fCallO, e_fAddL, e_fZipB, e_fListZip, e_sOwnD, e_fNewD, e_fDictD, e_sDPutO, e_fDGetO, e_fDGet2, e_sFrzD, e_sPar3, e_fVar, e_fC, e_fOp, e_fUn, e_fNil, e_fCons, e_fTup, e_fLst, e_fOfL, e_fTest, e_fAnd, e_fOr, e_fNot, e_fBool, e_fIf, e_fChain, e_fVarB, e_fUnL, e_fNoPart, e_fPart, e_fSl, e_gN, e_gNl, e_gCs, e_gTp, e_fZip, e_fYes, e_sNx, e_sSeq, e_sAsg, e_sOwn, e_sApp, e_sExt, e_sIns, e_sSetIx, e_fIxO, e_fSlO, e_sRet, e_sRetL, e_sRetO, e_sFrz, e_sDrop, e_sIf, e_sPar, e_fCall, e_fCallL, e_fCallB, e_sParO, e_fOpO, e_fItems, e_fRange, e_fMin, e_orF, fI0, fI, fS0, dNeg, dAbs, dLen, dSum, dTuple, ix_t0, ix_t1, ix_t2, ix_l0, ix_l1, ownAt, setOwn, EV.cont, EV.with, seqOf, itemsOf, List.map_cons, List.map_nil, List.cons_append, List.nil_append, List.replicate_succ, List.replicate_zero, List.getElem?_cons_zero, List.getElem?_cons_succ, List.getElem?_nil, List.set_cons_zero, List.set_cons_succ, List.length_cons, List.length_nil, h0]
  rfl
theorem leaper_eq (hf : OkF fs) (hl : OkL fs ls) (hb : Bd 2900 b) : fn_leaper_speeds [leapD fs, frD b, onceD ls] = some (.list ((own fs b ls).map encO)) := by
  have hlen := hf.len
  have hll := hl.len
  have hg : ∀ {n : Str} {e : Fk}, entry fs n = some e → dGet (leapD fs) (.str n) = some (.int e.2.2) := fun h => get_folk fs (fun p => PyData.int p.2.2) h
  generalize leapD fs = Dc at hg
  have hcc := compL_enc encL (vs := [3, 4]) (γ := gTp 2 (gCs (gN 3) (gCs (gN 4) gNl))) (τ := fYes) (ε := fTup (fCons (fVar 3) (fCons (fCall fn_plus_whole (fCons (fVar 1) (fCons (fOp dMul (fVar 4) (fOp dGet (fVar 0) (fVar 3))) fNil))) fNil))) (δ := [.dat Dc, .dat (frD b), .dat (onceD ls), .un, .un])
    (fun p => [.dat Dc, .dat (frD b), .dat (onceD ls), .dat (.str p.1), .dat (.int p.2)]) (fun _ => true) (fun p => encO (p.1, b + ((p.2 * leapOf fs p.1 : Int) : Rat))) ls fun p hp => ⟨rfl, rfl, fun _ => by
      obtain ⟨e, he, hle, hn, h1, h2⟩ := leap_le hf (hl.wy p hp) (hl.nm p hp)
      have hw := hl.wy p hp
      have m1 : cMulB p.2 e.2.2 = true := mulB (pow20 (by omega) 8000 (by omega)) (pow20 (by omega) 8000 (by omega))
      have hpl := plus_whole_eq (i := p.2 * leapOf fs p.1) (bd_le hb (show 2900 ≤ 3000 by omega)) (pow20 (by omega) 3000 (by omega))
      rw [show PyData.int (p.2 * leapOf fs p.1) = PyData.int (p.2 * e.2.2) by rw [hle]] at hpl
      simp only [e_fCallD, e_fCallLD, e_fCallO, e_fAddL, e_fZipB, e_fListZip, e_sOwnD, e_fNewD, e_fDictD, e_sDPutO, e_fDGetO, e_fDGet2, e_sFrzD, e_sPar3, e_fVar, e_fC, e_fOp, e_fUn, e_fNil, e_fCons, e_fTup, e_fLst, e_fOfL, e_fTest, e_fAnd, e_fOr, e_fNot, e_fBool, e_fIf, e_fChain, e_fVarB, e_fUnL, e_fNoPart, e_fPart, e_fSl, e_gN, e_gNl, e_gCs, e_gTp, e_fZip, e_fYes, e_sNx, e_sSeq, e_sAsg, e_sOwn, e_sApp, e_sExt, e_sIns, e_sSetIx, e_fIxO, e_fSlO, e_sRet, e_sRetL, e_sRetO, e_sFrz, e_sDrop, e_sIf, e_sPar, e_fCall, e_fCallL, e_fCallB, e_sParO, e_fOpO, e_fItems, e_fRange, e_fMin, e_orF, fI0, fI, fS0, dNeg, dAbs, dLen, dSum, dTuple, ix_t0, ix_t1, ix_t2, ix_l0, ix_l1, ownAt, setOwn, EV.cont, EV.with, seqOf, itemsOf, List.map_cons, List.map_nil, List.cons_append, List.nil_append, List.replicate_succ, List.replicate_zero, List.getElem?_cons_zero, List.getElem?_cons_succ, List.getElem?_nil, List.set_cons_zero, List.set_cons_succ, List.length_cons, List.length_nil, hg he, m1, if_true, hpl]
      rw [if_pos (by decide)]
      rfl, rfl⟩
  rw [filter_true] at hcc
  have h1 := fLc_of (φ := fItems (fVar 2)) (δ := [.dat Dc, .dat (frD b), .dat (onceD ls), .un, .un]) rfl (by rw [List.length_map]; omega) hcc
  unfold fn_leaper_speeds b_leaper_speeds
  simp only [runD, e_fCallD, e_fCallLD, e_fCallO, e_fAddL, e_fZipB, e_fListZip, e_sOwnD, e_fNewD, e_fDictD, e_sDPutO, e_fDGetO, e_fDGet2, e_sFrzD, e_sPar3, e_fVar, e_fC, e_fOp, e_fUn, e_fNil, e_fCons, e_fTup, e_fLst, e_fOfL, e_fTest, e_fAnd, e_fOr, e_fNot, e_fBool, e_fIf, e_fChain, e_fVarB, e_fUnL, e_fNoPart, e_fPart, e_fSl, e_gN, e_gNl, e_gCs, e_gTp, e_fZip, e_fYes, e_sNx, e_sSeq, e_sAsg, e_sOwn, e_sApp, e_sExt, e_sIns, e_sSetIx, e_fIxO, e_fSlO, e_sRet, e_sRetL, e_sRetO, e_sFrz, e_sDrop, e_sIf, e_sPar, e_fCall, e_fCallL, e_fCallB, e_sParO, e_fOpO, e_fItems, e_fRange, e_fMin, e_orF, fI0, fI, fS0, dNeg, dAbs, dLen, dSum, dTuple, ix_t0, ix_t1, ix_t2, ix_l0, ix_l1, ownAt, setOwn, EV.cont, EV.with, seqOf, itemsOf, List.map_cons, List.map_nil, List.cons_append, List.nil_append, List.replicate_succ, List.replicate_zero, List.getElem?_cons_zero, List.getElem?_cons_succ, List.getElem?_nil, List.set_cons_zero, List.set_cons_succ, List.length_cons, List.length_nil, h1]
  unfold own
  rw [List.map_map]
  rfl
end
def OkLs : List Fk → List (List Lp) → Prop
  | _, [] => True
  | fs, ls :: r => OkL fs ls ∧ OkLs (left fs (ls.map (·.1))) r
def go (c : Int) : List Fk → Rat → List (List Lp) → List Rat
  | _, _, [] => []
  | fs, q, ls :: r => dr c fs q ls :: go c (left fs (ls.map (·.1))) (dr c fs q ls) r
/-- the speeds of all who leapt, in the order of the leaps -/
def outs (c : Int) : List Fk → Rat → List (List Lp) → List (Str × Rat)
  | _, _, [] => []
  | fs, q, ls :: r => own fs (dr c fs q ls) ls ++ outs c (left fs (ls.map (·.1))) (dr c fs q ls) r
theorem go_cons (c : Int) (fs : List Fk) (q : Rat) (ls : List Lp) (r : List (List Lp)) : go c fs q (ls :: r) = dr c fs q ls :: go c (left fs (ls.map (·.1))) (dr c fs q ls) r := rfl
theorem outs_cons (c : Int) (fs : List Fk) (q : Rat) (ls : List Lp) (r : List (List Lp)) : outs c fs q (ls :: r) = own fs (dr c fs q ls) ls ++ outs c (left fs (ls.map (·.1))) (dr c fs q ls) r := rfl
theorem go_len (c : Int) : ∀ (lss : List (List Lp)) (fs : List Fk) (q : Rat), (go c fs q lss).length = lss.length
  | [], _, _ => rfl
  | _ :: r, fs, q => by
    unfold go
    rw [List.length_cons, List.length_cons, go_len c r]
theorem speeds_loop {c : Int} (hc : 1 ≤ c ∧ c ≤ 1000) (F0 Q0 L0 : PyData) : ∀ (lss : List (List Lp)) (fs : List Fk) (q : Rat) (n : Nat) (acc : List PyData) (x : EV), OkF fs → OkLs fs lss → Bd n q → n + 21 * lss.length ≤ 2000 → acc.length + lss.length ≤ 1000 →
    ∃ fs' q' x', loopF (gN 7) (sSeq (sAsg (fCall fn_driven (fCons (fVar 0) (fCons (fVar 4) (fCons (fVar 5) (fCons (fVar 7) fNil))))) (gN 5)) (sSeq (sAsg (fCall fn_still_on (fCons (fVar 4) (fCons (fVar 7) fNil))) (gN 4)) (sApp 6 (fVar 5)))) (lss.map onceD) [.dat (.int c), .dat F0, .dat Q0, .dat L0, .dat (folkD fs), .dat (frD q), .own acc, x] =
      some (.nx [.dat (.int c), .dat F0, .dat Q0, .dat L0, .dat (folkD fs'), .dat (frD q'), .own (acc ++ (go c fs q lss).map frD), x'])
  | [], fs, q, n, acc, x, _, _, _, _, _ => ⟨fs, q, x, by simp only [go, List.map_nil, List.append_nil, loopF]⟩
  | ls :: r, fs, q, n, acc, x, hf, hl, hq, hn, ha => by
    rw [List.length_cons] at hn ha
    have h1 := driven_eq hc hf hl.1 (bd_le hq (show n ≤ 2900 by omega))
    have h2 := still_eq fs ls hf.len hl.1.len
    obtain ⟨fs', q', x', ih⟩ := speeds_loop hc F0 Q0 L0 r (left fs (ls.map (·.1))) (dr c fs q ls) (n + 21) (acc ++ [frD (dr c fs q ls)]) (.dat (onceD ls)) (left_ok hf _) hl.2 (dr_bd hc hf hl.1.wy hq) (by omega) (by rw [List.length_append]; show acc.length + 1 + r.length ≤ 1000; omega)
    refine ⟨fs', q', x', ?_⟩
    rw [List.map_cons]
    unfold loopF
    have hz : acc.length < 50000 := by omega
    simp only [e_fCallD, e_fCallLD, e_fCallO, e_fAddL, e_fZipB, e_fListZip, e_sOwnD, e_fNewD, e_fDictD, e_sDPutO, e_fDGetO, e_fDGet2, e_sFrzD, e_sPar3, e_fVar, e_fC, e_fOp, e_fUn, e_fNil, e_fCons, e_fTup, e_fLst, e_fOfL, e_fTest, e_fAnd, e_fOr, e_fNot, e_fBool, e_fIf, e_fChain, e_fVarB, e_fUnL, e_fNoPart, e_fPart, e_fSl, e_gN, e_gNl, e_gCs, e_gTp, e_fZip, e_fYes, e_sNx, e_sSeq, e_sAsg, e_sOwn, e_sApp, e_sExt, e_sIns, e_sSetIx, e_fIxO, e_fSlO, e_sRet, e_sRetL, e_sRetO, e_sFrz, e_sDrop, e_sIf, e_sPar, e_fCall, e_fCallL, e_fCallB, e_sParO, e_fOpO, e_fItems, e_fRange, e_fMin, e_orF, fI0, fI, fS0, dNeg, dAbs, dLen, dSum, dTuple, ix_t0, ix_t1, ix_t2, ix_l0, ix_l1, ownAt, setOwn, EV.cont, EV.with, seqOf, itemsOf, List.map_cons, List.map_nil, List.cons_append, List.nil_append, List.replicate_succ, List.replicate_zero, List.getElem?_cons_zero, List.getElem?_cons_succ, List.getElem?_nil, List.set_cons_zero, List.set_cons_succ, List.length_cons, List.length_nil, h1, h2, hz, if_true]
    rw [ih, go_cons, List.append_assoc, List.map_cons]
    rfl
theorem speeds_eq {c : Int} {fs : List Fk} {q : Rat} {lss : List (List Lp)} (hc : 1 ≤ c ∧ c ≤ 1000) (hf : OkF fs) (hl : OkLs fs lss) (hq : Bd 100 q) (hn : lss.length ≤ 7) : fn_speeds [.int c, folkD fs, frD q, .list (lss.map onceD)] = some ((go c fs q lss).map frD) := by
  obtain ⟨fs', q', x', h⟩ := speeds_loop hc (folkD fs) (frD q) (.list (lss.map onceD)) lss fs q 100 [] .un hf hl hq (by omega) (by rw [List.length_nil]; omega)
  have h8 := sFor_of (φ := fItems (fVar 3)) (δ := [.dat (.int c), .dat (folkD fs), .dat (frD q), .dat (.list (lss.map onceD)), .dat (folkD fs), .dat (frD q), .own [], .un]) rfl h
  unfold fn_speeds b_speeds
  simp only [runL, e_fCallD, e_fCallLD, e_fCallO, e_fAddL, e_fZipB, e_fListZip, e_sOwnD, e_fNewD, e_fDictD, e_sDPutO, e_fDGetO, e_fDGet2, e_sFrzD, e_sPar3, e_fVar, e_fC, e_fOp, e_fUn, e_fNil, e_fCons, e_fTup, e_fLst, e_fOfL, e_fTest, e_fAnd, e_fOr, e_fNot, e_fBool, e_fIf, e_fChain, e_fVarB, e_fUnL, e_fNoPart, e_fPart, e_fSl, e_gN, e_gNl, e_gCs, e_gTp, e_fZip, e_fYes, e_sNx, e_sSeq, e_sAsg, e_sOwn, e_sApp, e_sExt, e_sIns, e_sSetIx, e_fIxO, e_fSlO, e_sRet, e_sRetL, e_sRetO, e_sFrz, e_sDrop, e_sIf, e_sPar, e_fCall, e_fCallL, e_fCallB, e_sParO, e_fOpO, e_fItems, e_fRange, e_fMin, e_orF, fI0, fI, fS0, dNeg, dAbs, dLen, dSum, dTuple, ix_t0, ix_t1, ix_t2, ix_l0, ix_l1, ownAt, setOwn, EV.cont, EV.with, seqOf, itemsOf, List.map_cons, List.map_nil, List.cons_append, List.nil_append, List.replicate_succ, List.replicate_zero, List.getElem?_cons_zero, List.getElem?_cons_succ, List.getElem?_nil, List.set_cons_zero, List.set_cons_succ, List.length_cons, List.length_nil]
  rw [if_pos (by decide)]
  simp only [e_fCallD, e_fCallLD, e_fCallO, e_fAddL, e_fZipB, e_fListZip, e_sOwnD, e_fNewD, e_fDictD, e_sDPutO, e_fDGetO, e_fDGet2, e_sFrzD, e_sPar3, e_fVar, e_fC, e_fOp, e_fUn, e_fNil, e_fCons, e_fTup, e_fLst, e_fOfL, e_fTest, e_fAnd, e_fOr, e_fNot, e_fBool, e_fIf, e_fChain, e_fVarB, e_fUnL, e_fNoPart, e_fPart, e_fSl, e_gN, e_gNl, e_gCs, e_gTp, e_fZip, e_fYes, e_sNx, e_sSeq, e_sAsg, e_sOwn, e_sApp, e_sExt, e_sIns, e_sSetIx, e_fIxO, e_fSlO, e_sRet, e_sRetL, e_sRetO, e_sFrz, e_sDrop, e_sIf, e_sPar, e_fCall, e_fCallL, e_fCallB, e_sParO, e_fOpO, e_fItems, e_fRange, e_fMin, e_orF, fI0, fI, fS0, dNeg, dAbs, dLen, dSum, dTuple, ix_t0, ix_t1, ix_t2, ix_l0, ix_l1, ownAt, setOwn, EV.cont, EV.with, seqOf, itemsOf, List.map_cons, List.map_nil, List.cons_append, List.nil_append, List.replicate_succ, List.replicate_zero, List.getElem?_cons_zero, List.getElem?_cons_succ, List.getElem?_nil, List.set_cons_zero, List.set_cons_succ, List.length_cons, List.length_nil]
  rw [if_pos (by decide)]
  simp only [e_fCallD, e_fCallLD, e_fCallO, e_fAddL, e_fZipB, e_fListZip, e_sOwnD, e_fNewD, e_fDictD, e_sDPutO, e_fDGetO, e_fDGet2, e_sFrzD, e_sPar3, e_fVar, e_fC, e_fOp, e_fUn, e_fNil, e_fCons, e_fTup, e_fLst, e_fOfL, e_fTest, e_fAnd, e_fOr, e_fNot, e_fBool, e_fIf, e_fChain, e_fVarB, e_fUnL, e_fNoPart, e_fPart, e_fSl, e_gN, e_gNl, e_gCs, e_gTp, e_fZip, e_fYes, e_sNx, e_sSeq, e_sAsg, e_sOwn, e_sApp, e_sExt, e_sIns, e_sSetIx, e_fIxO, e_fSlO, e_sRet, e_sRetL, e_sRetO, e_sFrz, e_sDrop, e_sIf, e_sPar, e_fCall, e_fCallL, e_fCallB, e_sParO, e_fOpO, e_fItems, e_fRange, e_fMin, e_orF, fI0, fI, fS0, dNeg, dAbs, dLen, dSum, dTuple, ix_t0, ix_t1, ix_t2, ix_l0, ix_l1, ownAt, setOwn, EV.cont, EV.with, seqOf, itemsOf, List.map_cons, List.map_nil, List.cons_append, List.nil_append, List.replicate_succ, List.replicate_zero, List.getElem?_cons_zero, List.getElem?_cons_succ, List.getElem?_nil, List.set_cons_zero, List.set_cons_succ, List.length_cons, List.length_nil, h8]
/-- who is not among them has the same entry -/
theorem entry_left (fs : List Fk) (ns : List Str) (n : Str) (h : ¬ n ∈ ns) : entry (left fs ns) n = entry fs n := by
  unfold entry left
  induction fs with
  | nil => rfl
  | cons p fs ih =>
    by_cases hp : p.1 = n
    · have hq : (!ns.contains p.1) = true := by
        rw [hp]
        simpa using h
      rw [List.filter_cons_of_pos (p := fun p : Fk => !ns.contains p.1) hq, List.find?_cons_of_pos (by simpa using hp), List.find?_cons_of_pos (by simpa using hp)]
    · rw [List.find?_cons_of_neg (by simpa using hp)]
      by_cases hc : (!ns.contains p.1) = true
      · rw [List.filter_cons_of_pos (p := fun p : Fk => !ns.contains p.1) hc, List.find?_cons_of_neg (by simpa using hp), ih]
      · rw [List.filter_cons_of_neg (p := fun p : Fk => !ns.contains p.1) hc, ih]
theorem left_names {fs : List Fk} {ns : List Str} {n : Str} (h : n ∈ (left fs ns).map (·.1)) : n ∈ fs.map (·.1) ∧ ¬ n ∈ ns := by
  obtain ⟨p, hp, rfl⟩ := List.mem_map.mp h
  unfold left at hp
  rw [List.mem_filter] at hp
  refine ⟨List.mem_map.mpr ⟨p, hp.1, rfl⟩, ?_⟩
  simpa using hp.2
/-- F: the folk at first, of whom fs are left -/
def Rest (F fs : List Fk) : Prop := ∀ n, n ∈ fs.map (·.1) → n ∈ F.map (·.1) ∧ entry fs n = entry F n
theorem Rest.left {F fs : List Fk} (h : Rest F fs) (ns : List Str) : Rest F (left fs ns) := fun n hn => by
  obtain ⟨h1, h2⟩ := left_names hn
  obtain ⟨h3, h4⟩ := h n h1
  exact ⟨h3, (entry_left fs ns n h2).trans h4⟩
theorem Rest.own {F fs : List Fk} (h : Rest F fs) {ls : List Lp} (hl : OkL fs ls) (b : Rat) : own F b ls = own fs b ls := by
  unfold Lc.own
  refine List.map_congr_left fun p hp => ?_
  have := (h p.1 (hl.nm p hp)).2
  unfold leapOf
  rw [this]
theorem OkL.up {F fs : List Fk} (h : Rest F fs) {ls : List Lp} (hl : OkL fs ls) : OkL F ls := ⟨hl.len, fun p hp => (h p.1 (hl.nm p hp)).1, hl.wy, hl.nd⟩
theorem outs_len (c : Int) : ∀ (lss : List (List Lp)) (fs : List Fk) (q : Rat), (outs c fs q lss).length = (lss.map List.length).sum
  | [], _, _ => rfl
  | ls :: r, fs, q => by
    unfold outs
    rw [List.length_append, outs_len c r, List.map_cons, List.sum_cons]
    unfold own
    rw [List.length_map]
theorem zip_map {c : Int} : ∀ (lss : List (List Lp)) (rs : List Rat), List.zipWith (fun x y => PyData.tuple [x, y]) (rs.map frD) (lss.map onceD) = (rs.zip lss).map fun p => .tuple [frD p.1, onceD p.2]
  | [], rs => by cases rs <;> rfl
  | ls :: r, [] => rfl
  | ls :: r, q :: rs => by
    rw [List.map_cons, List.map_cons, List.zipWith_cons_cons, List.zip_cons_cons, List.map_cons, zip_map (c := c) r rs]
theorem leapers_loop {c : Int} (hc : 1 ≤ c ∧ c ≤ 1000) {F : List Fk} (hF : OkF F) (Q0 L0 : PyData) : ∀ (lss : List (List Lp)) (fs : List Fk) (q : Rat) (n : Nat) (acc : List PyData) (x y : EV), OkF fs → Rest F fs → OkLs fs lss → Bd n q → n + 21 * lss.length ≤ 2000 → acc.length + (lss.map List.length).sum ≤ 1000 →
    ∃ x' y', loopF (gTp 2 (gCs (gN 6) (gCs (gN 7) gNl))) (sExt 5 (fCall fn_leaper_speeds (fCons (fVar 4) (fCons (fVar 6) (fCons (fVar 7) fNil))))) (((go c fs q lss).zip lss).map fun p => .tuple [frD p.1, onceD p.2]) [.dat (.int c), .dat (folkD F), .dat Q0, .dat L0, .dat (leapD F), .own acc, x, y] =
      some (.nx [.dat (.int c), .dat (folkD F), .dat Q0, .dat L0, .dat (leapD F), .own (acc ++ (outs c fs q lss).map encO), x', y'])
  | [], fs, q, n, acc, x, y, _, _, _, _, _, _ => ⟨x, y, by simp only [go, outs, List.zip_nil_right, List.map_nil, List.append_nil, loopF]⟩
  | ls :: r, fs, q, n, acc, x, y, hf, hr, hl, hq, hn, ha => by
    rw [List.length_cons] at hn
    rw [List.map_cons, List.sum_cons] at ha
    have hb := dr_bd hc hf hl.1.wy hq
    have h1 := leaper_eq hF (hl.1.up hr) (bd_le hb (show n + 21 ≤ 2900 by omega))
    rw [hr.own hl.1] at h1
    have hlo : ((own fs (dr c fs q ls) ls).map encO).length = ls.length := by
      unfold own
      rw [List.length_map, List.length_map]
    obtain ⟨x', y', ih⟩ := leapers_loop hc hF Q0 L0 r (left fs (ls.map (·.1))) (dr c fs q ls) (n + 21) (acc ++ (own fs (dr c fs q ls) ls).map encO) (.dat (frD (dr c fs q ls))) (.dat (onceD ls)) (left_ok hf _) (hr.left _) hl.2 hb (by omega) (by
      rw [List.length_append, hlo]
      omega)
    refine ⟨x', y', ?_⟩
    rw [go_cons, List.zip_cons_cons, List.map_cons]
    unfold loopF
    have hz : acc.length + ((own fs (dr c fs q ls) ls).map encO).length < 50000 := by
      rw [hlo]
      omega
    simp only [e_fCallD, e_fCallLD, e_fCallO, e_fAddL, e_fZipB, e_fListZip, e_sOwnD, e_fNewD, e_fDictD, e_sDPutO, e_fDGetO, e_fDGet2, e_sFrzD, e_sPar3, e_fVar, e_fC, e_fOp, e_fUn, e_fNil, e_fCons, e_fTup, e_fLst, e_fOfL, e_fTest, e_fAnd, e_fOr, e_fNot, e_fBool, e_fIf, e_fChain, e_fVarB, e_fUnL, e_fNoPart, e_fPart, e_fSl, e_gN, e_gNl, e_gCs, e_gTp, e_fZip, e_fYes, e_sNx, e_sSeq, e_sAsg, e_sOwn, e_sApp, e_sExt, e_sIns, e_sSetIx, e_fIxO, e_fSlO, e_sRet, e_sRetL, e_sRetO, e_sFrz, e_sDrop, e_sIf, e_sPar, e_fCall, e_fCallL, e_fCallB, e_sParO, e_fOpO, e_fItems, e_fRange, e_fMin, e_orF, fI0, fI, fS0, dNeg, dAbs, dLen, dSum, dTuple, ix_t0, ix_t1, ix_t2, ix_l0, ix_l1, ownAt, setOwn, EV.cont, EV.with, seqOf, itemsOf, List.map_cons, List.map_nil, List.cons_append, List.nil_append, List.replicate_succ, List.replicate_zero, List.getElem?_cons_zero, List.getElem?_cons_succ, List.getElem?_nil, List.set_cons_zero, List.set_cons_succ, List.length_cons, List.length_nil, if_true, h1, hz]
    rw [ih, outs_cons, List.append_assoc, List.map_append]
end Lc
set_option exponentiation.threshold 10000
namespace Lc
open PySem L2 Evl RZ Sm
/-! ### the law's own run -/
def rows (c : Int) : List Fk → Rat → List (List Lp) → List (Rat × List (Str × Rat))
  | _, _, [] => []
  | fs, q, ls :: r => (dr c fs q ls, own fs (dr c fs q ls) ls) :: rows c (left fs (ls.map (·.1))) (dr c fs q ls) r
theorem rows_cons (c : Int) (fs : List Fk) (q : Rat) (ls : List Lp) (r : List (List Lp)) : rows c fs q (ls :: r) = (dr c fs q ls, own fs (dr c fs q ls) ls) :: rows c (left fs (ls.map (·.1))) (dr c fs q ls) r := rfl
def encR (p : Rat × List (Str × Rat)) : PyData := .tuple [frD p.1, .list (p.2.map encO)]
theorem dEq_str (a b : Str) : dEq (.str a) (.str b) = some (.bool (decide (a = b))) := rfl
theorem inner_loop {fs : List Fk} (hf : OkF fs) {b : Rat} (hb : Bd 2900 b) (C L0 O : PyData) (acc4 : List PyData) : ∀ (ls : List Lp) (acc : List PyData) (x7 x8 x9 : EV), x7.mine = false → x8.mine = false → (∀ p, p ∈ ls → p.1 ∈ fs.map (·.1) ∧ (p.2 = 1 ∨ p.2 = -1)) → acc.length + ls.length ≤ 1000 →
    ∃ y7 y8 y9, y7.mine = false ∧ y8.mine = false ∧ loopF (gTp 2 (gCs (gN 7) (gCs (gN 8) gNl))) (sSeq (sAsg (fOp dIx (fOfL (fLc (fItems (fVar 1)) [10] (gN 10) (fTest (fOp dEq (fOp dIx (fVar 10) (fC (.int 0))) (fVar 7))) (fOp dIx (fVar 10) (fC (.int 2))))) (fC (.int 0))) (gN 9)) (sApp 6 (fTup (fCons (fVar 7) (fCons (fCall fn__law_plus (fCons (fVar 2) (fCons (fTup (fCons (fOp dMul (fVar 9) (fVar 8)) (fCons (fC (.int 1)) fNil))) fNil))) fNil)))))
      (ls.map encL) [.dat C, .dat (folkD fs), .dat (frD b), .dat L0, .own acc4, .dat O, .own acc, x7, x8, x9, .un] = some (.nx [.dat C, .dat (folkD fs), .dat (frD b), .dat L0, .own acc4, .dat O, .own (acc ++ (own fs b ls).map encO), y7, y8, y9, .un])
  | [], acc, x7, x8, x9, hx7, hx8, _, _ => ⟨x7, x8, x9, hx7, hx8, by simp only [own, List.map_nil, List.append_nil, loopF]⟩
  | p :: ls, acc, x7, x8, x9, hx7, hx8, h, hn => by
    rw [List.length_cons] at hn
    obtain ⟨hpn, hpw⟩ := h p List.mem_cons_self
    obtain ⟨e, he, hle, hna, h1, h2⟩ := leap_le hf hpw hpn
    have hlen := hf.len
    have hcc := compL_enc encF (vs := [10]) (γ := gN 10) (τ := fTest (fOp dEq (fOp dIx (fVar 10) (fC (.int 0))) (fVar 7))) (ε := fOp dIx (fVar 10) (fC (.int 2))) (δ := [.dat C, .dat (folkD fs), .dat (frD b), .dat L0, .own acc4, .dat O, .own acc, .dat (.str p.1), .dat (.int p.2), x9, .un])
      (fun r => [.dat C, .dat (folkD fs), .dat (frD b), .dat L0, .own acc4, .dat O, .own acc, .dat (.str p.1), .dat (.int p.2), x9, .dat (encF r)]) (fun r => decide (r.1 = p.1)) (fun r => .int r.2.2) fs fun r _ => ⟨rfl, by
        have : dIx (encF r) (.int 0) = some (.str r.1) := ix_t0
        simp only [e_fTest, e_fOp, e_fVar, e_fC, List.getElem?_cons_zero, List.getElem?_cons_succ, this, dEq_str], fun _ => by
        have : dIx (encF r) (.int 2) = some (.int r.2.2) := ix_t2
        simp only [e_fCallD, e_fCallLD, e_fCallO, e_fAddL, e_fZipB, e_fListZip, e_sOwnD, e_fNewD, e_fDictD, e_sDPutO, e_fDGetO, e_fDGet2, e_sFrzD, e_sPar3, e_fVar, e_fC, e_fOp, e_fUn, e_fNil, e_fCons, e_fTup, e_fLst, e_fOfL, e_fTest, e_fAnd, e_fOr, e_fNot, e_fBool, e_fIf, e_fChain, e_fVarB, e_fUnL, e_fNoPart, e_fPart, e_fSl, e_gN, e_gNl, e_gCs, e_gTp, e_fZip, e_fYes, e_sNx, e_sSeq, e_sAsg, e_sOwn, e_sApp, e_sExt, e_sIns, e_sSetIx, e_fIxO, e_fSlO, e_sRet, e_sRetL, e_sRetO, e_sFrz, e_sDrop, e_sIf, e_sPar, e_fCall, e_fCallL, e_fCallB, e_sParO, e_fOpO, e_fItems, e_fRange, e_fMin, e_orF, fI0, fI, fS0, dNeg, dAbs, dLen, dSum, dTuple, ix_t0, ix_t1, ix_t2, ix_l0, ix_l1, ownAt, setOwn, EV.cont, EV.with, seqOf, itemsOf, List.map_cons, List.map_nil, List.cons_append, List.nil_append, List.replicate_succ, List.replicate_zero, List.getElem?_cons_zero, List.getElem?_cons_succ, List.getElem?_nil, List.set_cons_zero, List.set_cons_succ, List.length_cons, List.length_nil, this], by cases x9 <;> rfl⟩
    have hh : ∃ tl, (fs.filter fun r => decide (r.1 = p.1)) = e :: tl := by
      have := List.head?_filter (p := fun r : Fk => decide (r.1 = p.1)) (l := fs)
      have he' : fs.find? (fun r => decide (r.1 = p.1)) = some e := he
      rw [he'] at this
      cases hfl : fs.filter fun r => decide (r.1 = p.1) with
      | nil =>
        rw [hfl] at this
        cases this
      | cons a tl =>
        rw [hfl] at this
        cases this
        exact ⟨tl, rfl⟩
    obtain ⟨tl, htl⟩ := hh
    rw [htl, List.map_cons] at hcc
    have hL := fLc_of (φ := fItems (fVar 1)) (δ := [.dat C, .dat (folkD fs), .dat (frD b), .dat L0, .own acc4, .dat O, .own acc, .dat (.str p.1), .dat (.int p.2), x9, .un]) rfl (by rw [List.length_map]; omega) hcc
    have m1 : cMulB e.2.2 p.2 = true := mulB (pow20 (by omega) 8000 (by omega)) (pow20 (by omega) 8000 (by omega))
    have hpl := lplus_eq (bd_le hb (show 2900 ≤ 3000 by omega)) (bd_int (i := p.2 * leapOf fs p.1) (pow20 (by omega) 3000 (by omega)) (by omega))
    have hfi : frD ((p.2 * leapOf fs p.1 : Int) : Rat) = .tuple [.int (e.2.2 * p.2), .int 1] := by
      rw [hle, Int.mul_comm]
      rfl
    rw [hfi] at hpl
    obtain ⟨y7, y8, y9, hy7, hy8, ih⟩ := inner_loop hf hb C L0 O acc4 ls (acc ++ [encO (p.1, b + ((p.2 * leapOf fs p.1 : Int) : Rat))]) (.dat (.str p.1)) (.dat (.int p.2)) (.dat (.int e.2.2)) rfl rfl (fun r hr => h r (List.mem_cons_of_mem _ hr)) (by rw [List.length_append]; show acc.length + 1 + ls.length ≤ 1000; omega)
    refine ⟨y7, y8, y9, hy7, hy8, ?_⟩
    have hz : acc.length < 50000 := by omega
    rw [List.map_cons]
    unfold loopF
    have hg : gTp 2 (gCs (gN 7) (gCs (gN 8) gNl)) (encL p) [.dat C, .dat (folkD fs), .dat (frD b), .dat L0, .own acc4, .dat O, .own acc, x7, x8, x9, .un] = some [.dat C, .dat (folkD fs), .dat (frD b), .dat L0, .own acc4, .dat O, .own acc, .dat (.str p.1), .dat (.int p.2), x9, .un] := rfl
    rw [hg]
    dsimp only
    have hb1 : sSeq (sAsg (fOp dIx (fOfL (fLc (fItems (fVar 1)) [10] (gN 10) (fTest (fOp dEq (fOp dIx (fVar 10) (fC (.int 0))) (fVar 7))) (fOp dIx (fVar 10) (fC (.int 2))))) (fC (.int 0))) (gN 9)) (sApp 6 (fTup (fCons (fVar 7) (fCons (fCall fn__law_plus (fCons (fVar 2) (fCons (fTup (fCons (fOp dMul (fVar 9) (fVar 8)) (fCons (fC (.int 1)) fNil))) fNil))) fNil)))) [.dat C, .dat (folkD fs), .dat (frD b), .dat L0, .own acc4, .dat O, .own acc, .dat (.str p.1), .dat (.int p.2), x9, .un] =
        some (.nx [.dat C, .dat (folkD fs), .dat (frD b), .dat L0, .own acc4, .dat O, .own (acc ++ [encO (p.1, b + ((p.2 * leapOf fs p.1 : Int) : Rat))]), .dat (.str p.1), .dat (.int p.2), .dat (.int e.2.2), .un]) := by
      simp only [e_fCallD, e_fCallLD, e_fCallO, e_fAddL, e_fZipB, e_fListZip, e_sOwnD, e_fNewD, e_fDictD, e_sDPutO, e_fDGetO, e_fDGet2, e_sFrzD, e_sPar3, e_fVar, e_fC, e_fOp, e_fUn, e_fNil, e_fCons, e_fTup, e_fLst, e_fOfL, e_fTest, e_fAnd, e_fOr, e_fNot, e_fBool, e_fIf, e_fChain, e_fVarB, e_fUnL, e_fNoPart, e_fPart, e_fSl, e_gN, e_gNl, e_gCs, e_gTp, e_fZip, e_fYes, e_sNx, e_sSeq, e_sAsg, e_sOwn, e_sApp, e_sExt, e_sIns, e_sSetIx, e_fIxO, e_fSlO, e_sRet, e_sRetL, e_sRetO, e_sFrz, e_sDrop, e_sIf, e_sPar, e_fCall, e_fCallL, e_fCallB, e_sParO, e_fOpO, e_fItems, e_fRange, e_fMin, e_orF, fI0, fI, fS0, dNeg, dAbs, dLen, dSum, dTuple, ix_t0, ix_t1, ix_t2, ix_l0, ix_l1, ownAt, setOwn, EV.cont, EV.with, seqOf, itemsOf, List.map_cons, List.map_nil, List.cons_append, List.nil_append, List.replicate_succ, List.replicate_zero, List.getElem?_cons_zero, List.getElem?_cons_succ, List.getElem?_nil, List.set_cons_zero, List.set_cons_succ, List.length_cons, List.length_nil, hL, m1, if_true]
      rw [if_pos (by decide)]
      simp only [e_fCallD, e_fCallLD, e_fCallO, e_fAddL, e_fZipB, e_fListZip, e_sOwnD, e_fNewD, e_fDictD, e_sDPutO, e_fDGetO, e_fDGet2, e_sFrzD, e_sPar3, e_fVar, e_fC, e_fOp, e_fUn, e_fNil, e_fCons, e_fTup, e_fLst, e_fOfL, e_fTest, e_fAnd, e_fOr, e_fNot, e_fBool, e_fIf, e_fChain, e_fVarB, e_fUnL, e_fNoPart, e_fPart, e_fSl, e_gN, e_gNl, e_gCs, e_gTp, e_fZip, e_fYes, e_sNx, e_sSeq, e_sAsg, e_sOwn, e_sApp, e_sExt, e_sIns, e_sSetIx, e_fIxO, e_fSlO, e_sRet, e_sRetL, e_sRetO, e_sFrz, e_sDrop, e_sIf, e_sPar, e_fCall, e_fCallL, e_fCallB, e_sParO, e_fOpO, e_fItems, e_fRange, e_fMin, e_orF, fI0, fI, fS0, dNeg, dAbs, dLen, dSum, dTuple, ix_t0, ix_t1, ix_t2, ix_l0, ix_l1, ownAt, setOwn, EV.cont, EV.with, seqOf, itemsOf, List.map_cons, List.map_nil, List.cons_append, List.nil_append, List.replicate_succ, List.replicate_zero, List.getElem?_cons_zero, List.getElem?_cons_succ, List.getElem?_nil, List.set_cons_zero, List.set_cons_succ, List.length_cons, List.length_nil, hpl]
      rw [if_pos (by decide)]
      simp only [e_fCallD, e_fCallLD, e_fCallO, e_fAddL, e_fZipB, e_fListZip, e_sOwnD, e_fNewD, e_fDictD, e_sDPutO, e_fDGetO, e_fDGet2, e_sFrzD, e_sPar3, e_fVar, e_fC, e_fOp, e_fUn, e_fNil, e_fCons, e_fTup, e_fLst, e_fOfL, e_fTest, e_fAnd, e_fOr, e_fNot, e_fBool, e_fIf, e_fChain, e_fVarB, e_fUnL, e_fNoPart, e_fPart, e_fSl, e_gN, e_gNl, e_gCs, e_gTp, e_fZip, e_fYes, e_sNx, e_sSeq, e_sAsg, e_sOwn, e_sApp, e_sExt, e_sIns, e_sSetIx, e_fIxO, e_fSlO, e_sRet, e_sRetL, e_sRetO, e_sFrz, e_sDrop, e_sIf, e_sPar, e_fCall, e_fCallL, e_fCallB, e_sParO, e_fOpO, e_fItems, e_fRange, e_fMin, e_orF, fI0, fI, fS0, dNeg, dAbs, dLen, dSum, dTuple, ix_t0, ix_t1, ix_t2, ix_l0, ix_l1, ownAt, setOwn, EV.cont, EV.with, seqOf, itemsOf, List.map_cons, List.map_nil, List.cons_append, List.nil_append, List.replicate_succ, List.replicate_zero, List.getElem?_cons_zero, List.getElem?_cons_succ, List.getElem?_nil, List.set_cons_zero, List.set_cons_succ, List.length_cons, List.length_nil, hz, if_true]
      rfl
    rw [hb1]
    dsimp only
    rw [ih]
    unfold own
    rw [List.map_cons, List.map_cons, List.append_assoc]
    rfl
theorem run_loop {c : Int} (hc : 1 ≤ c ∧ c ≤ 1000) (L0 : PyData) : ∀ (lss : List (List Lp)) (fs : List Fk) (q : Rat) (n : Nat) (acc : List PyData) (x5 x6 x7 x8 x9 : EV), x7.mine = false → x8.mine = false → OkF fs → OkLs fs lss → Bd n q → n + 21 * lss.length ≤ 1900 → acc.length + lss.length ≤ 1000 →
    ∃ f' q' y5 y6 y7 y8 y9, loopF (gN 5) (sSeq (sAsg (fCall fn__law_behind (fCons (fVar 0) (fCons (fVar 1) (fCons (fVar 2) (fCons (fVar 5) fNil))))) (gN 2))
    (sSeq (sOwn 6 (fLst fNil))
    (sSeq (sFor (fItems (fVar 5)) (gTp 2 (gCs (gN 7) (gCs (gN 8) gNl))) (sSeq (sAsg (fOp dIx (fOfL (fLc (fItems (fVar 1)) [10] (gN 10) (fTest (fOp dEq (fOp dIx (fVar 10) (fC (.int 0))) (fVar 7))) (fOp dIx (fVar 10) (fC (.int 2))))) (fC (.int 0))) (gN 9))
    (sApp 6 (fTup (fCons (fVar 7) (fCons (fCall fn__law_plus (fCons (fVar 2) (fCons (fTup (fCons (fOp dMul (fVar 9) (fVar 8)) (fCons (fC (.int 1)) fNil))) fNil))) fNil))))))
    (sSeq (sFrz 6 (sApp 4 (fTup (fCons (fVar 2) (fCons (fVar 6) fNil)))))
    (sAsg (fCall fn__law_left (fCons (fVar 1) (fCons (fOfL (fLc (fItems (fVar 5)) [7, 8] (gTp 2 (gCs (gN 7) (gCs (gN 8) gNl))) fYes (fVar 7))) fNil))) (gN 1)))))) (lss.map onceD) [.dat (.int c), .dat (folkD fs), .dat (frD q), .dat L0, .own acc, x5, x6, x7, x8, x9, .un] =
      some (.nx [.dat (.int c), .dat f', .dat q', .dat L0, .own (acc ++ (rows c fs q lss).map encR), y5, y6, y7, y8, y9, .un])
  | [], fs, q, n, acc, x5, x6, x7, x8, x9, _, _, _, _, _, _, _ => ⟨_, _, x5, x6, x7, x8, x9, by simp only [rows, List.map_nil, List.append_nil, loopF]; rfl⟩
  | ls :: r, fs, q, n, acc, x5, x6, x7, x8, x9, hx7, hx8, hf, hl, hq, hn, ha => by
    rw [List.length_cons] at hn ha
    have hll := hl.1.len
    have h1 := behind_eq hc hf hl.1 (bd_le hq (show n ≤ 2000 by omega))
    have hb := dr_bd hc hf hl.1.wy hq
    obtain ⟨y7, y8, y9, hy7, hy8, h2⟩ := inner_loop hf (bd_le hb (show n + 21 ≤ 2900 by omega)) (.int c) L0 (onceD ls) acc ls [] x7 x8 x9 hx7 hx8 (fun p hp => ⟨hl.1.nm p hp, hl.1.wy p hp⟩) (by rw [List.length_nil]; omega)
    have h3 := sFor_of (φ := fItems (fVar 5)) (δ := [.dat (.int c), .dat (folkD fs), .dat (frD (dr c fs q ls)), .dat L0, .own acc, .dat (onceD ls), .own [], x7, x8, x9, .un]) rfl h2
    rw [List.nil_append] at h3
    have hcc := compL_enc encL (vs := [7, 8]) (γ := gTp 2 (gCs (gN 7) (gCs (gN 8) gNl))) (τ := fYes) (ε := fVar 7) (δ := [.dat (.int c), .dat (folkD fs), .dat (frD (dr c fs q ls)), .dat L0, .own (acc ++ [encR (dr c fs q ls, own fs (dr c fs q ls) ls)]), .dat (onceD ls), .dat (.list ((own fs (dr c fs q ls) ls).map encO)), y7, y8, y9, .un])
      (fun p => [.dat (.int c), .dat (folkD fs), .dat (frD (dr c fs q ls)), .dat L0, .own (acc ++ [encR (dr c fs q ls, own fs (dr c fs q ls) ls)]), .dat (onceD ls), .dat (.list ((own fs (dr c fs q ls) ls).map encO)), .dat (.str p.1), .dat (.int p.2), y9, .un]) (fun _ => true) (fun p => .str p.1) ls fun p _ => ⟨rfl, rfl, fun _ => rfl, by
        cases y7 <;> first | cases hy7 | skip
        all_goals (cases y8 <;> first | cases hy8 | skip)
        all_goals (cases y9 <;> rfl)⟩
    rw [filter_true] at hcc
    have h4 := fLc_of (φ := fItems (fVar 5)) (δ := [.dat (.int c), .dat (folkD fs), .dat (frD (dr c fs q ls)), .dat L0, .own (acc ++ [encR (dr c fs q ls, own fs (dr c fs q ls) ls)]), .dat (onceD ls), .dat (.list ((own fs (dr c fs q ls) ls).map encO)), y7, y8, y9, .un]) rfl (by rw [List.length_map]; omega) hcc
    have h5 := lleft_eq fs (ls.map (·.1)) hf.len
    have e5 : strsD (ls.map (·.1)) = ls.map fun p => .str p.1 := by
      unfold strsD
      rw [List.map_map]
      rfl
    rw [e5] at h5
    obtain ⟨f', q', z5, z6, z7, z8, z9, ih⟩ := run_loop hc L0 r (left fs (ls.map (·.1))) (dr c fs q ls) (n + 21) (acc ++ [encR (dr c fs q ls, own fs (dr c fs q ls) ls)]) (.dat (onceD ls)) (.dat (.list ((own fs (dr c fs q ls) ls).map encO))) y7 y8 y9 hy7 hy8 (left_ok hf _) hl.2 hb (by omega) (by rw [List.length_append]; show acc.length + 1 + r.length ≤ 1000; omega)
    refine ⟨f', q', z5, z6, z7, z8, z9, ?_⟩
    have hz : acc.length < 50000 := by omega
    rw [List.map_cons, rows_cons, List.map_cons]
    unfold loopF
    rw [show gN 5 (onceD ls) [.dat (.int c), .dat (folkD fs), .dat (frD q), .dat L0, .own acc, x5, x6, x7, x8, x9, .un] = some [.dat (.int c), .dat (folkD fs), .dat (frD q), .dat L0, .own acc, .dat (onceD ls), x6, x7, x8, x9, .un] from rfl]
    dsimp only
    rw [e_sSeq]
    rw [show sAsg (fCall fn__law_behind (fCons (fVar 0) (fCons (fVar 1) (fCons (fVar 2) (fCons (fVar 5) fNil))))) (gN 2) [.dat (.int c), .dat (folkD fs), .dat (frD q), .dat L0, .own acc, .dat (onceD ls), x6, x7, x8, x9, .un] = some (.nx [.dat (.int c), .dat (folkD fs), .dat (frD (dr c fs q ls)), .dat L0, .own acc, .dat (onceD ls), x6, x7, x8, x9, .un]) by simp only [e_fCallD, e_fCallLD, e_fCallO, e_fAddL, e_fZipB, e_fListZip, e_sOwnD, e_fNewD, e_fDictD, e_sDPutO, e_fDGetO, e_fDGet2, e_sFrzD, e_sPar3, e_fVar, e_fC, e_fOp, e_fUn, e_fNil, e_fCons, e_fTup, e_fLst, e_fOfL, e_fTest, e_fAnd, e_fOr, e_fNot, e_fBool, e_fIf, e_fChain, e_fVarB, e_fUnL, e_fNoPart, e_fPart, e_fSl, e_gN, e_gNl, e_gCs, e_gTp, e_fZip, e_fYes, e_sNx, e_sSeq, e_sAsg, e_sOwn, e_sApp, e_sExt, e_sIns, e_sSetIx, e_fIxO, e_fSlO, e_sRet, e_sRetL, e_sRetO, e_sFrz, e_sDrop, e_sIf, e_sPar, e_fCall, e_fCallL, e_fCallB, e_sParO, e_fOpO, e_fItems, e_fRange, e_fMin, e_orF, fI0, fI, fS0, dNeg, dAbs, dLen, dSum, dTuple, ix_t0, ix_t1, ix_t2, ix_l0, ix_l1, ownAt, setOwn, EV.cont, EV.with, seqOf, itemsOf, List.map_cons, List.map_nil, List.cons_append, List.nil_append, List.replicate_succ, List.replicate_zero, List.getElem?_cons_zero, List.getElem?_cons_succ, List.getElem?_nil, List.set_cons_zero, List.set_cons_succ, List.length_cons, List.length_nil, h1]]
    dsimp only
    rw [e_sSeq]
    rw [show sOwn 6 (fLst fNil) [.dat (.int c), .dat (folkD fs), .dat (frD (dr c fs q ls)), .dat L0, .own acc, .dat (onceD ls), x6, x7, x8, x9, .un] = some (.nx [.dat (.int c), .dat (folkD fs), .dat (frD (dr c fs q ls)), .dat L0, .own acc, .dat (onceD ls), .own [], x7, x8, x9, .un]) from rfl]
    dsimp only
    rw [e_sSeq, h3]
    dsimp only
    rw [e_sSeq]
    rw [show sFrz 6 (sApp 4 (fTup (fCons (fVar 2) (fCons (fVar 6) fNil)))) [.dat (.int c), .dat (folkD fs), .dat (frD (dr c fs q ls)), .dat L0, .own acc, .dat (onceD ls), .own ((own fs (dr c fs q ls) ls).map encO), y7, y8, y9, .un] = some (.nx [.dat (.int c), .dat (folkD fs), .dat (frD (dr c fs q ls)), .dat L0, .own (acc ++ [encR (dr c fs q ls, own fs (dr c fs q ls) ls)]), .dat (onceD ls), .dat (.list ((own fs (dr c fs q ls) ls).map encO)), y7, y8, y9, .un]) by
      simp only [e_fCallD, e_fCallLD, e_fCallO, e_fAddL, e_fZipB, e_fListZip, e_sOwnD, e_fNewD, e_fDictD, e_sDPutO, e_fDGetO, e_fDGet2, e_sFrzD, e_sPar3, e_fVar, e_fC, e_fOp, e_fUn, e_fNil, e_fCons, e_fTup, e_fLst, e_fOfL, e_fTest, e_fAnd, e_fOr, e_fNot, e_fBool, e_fIf, e_fChain, e_fVarB, e_fUnL, e_fNoPart, e_fPart, e_fSl, e_gN, e_gNl, e_gCs, e_gTp, e_fZip, e_fYes, e_sNx, e_sSeq, e_sAsg, e_sOwn, e_sApp, e_sExt, e_sIns, e_sSetIx, e_fIxO, e_fSlO, e_sRet, e_sRetL, e_sRetO, e_sFrz, e_sDrop, e_sIf, e_sPar, e_fCall, e_fCallL, e_fCallB, e_sParO, e_fOpO, e_fItems, e_fRange, e_fMin, e_orF, fI0, fI, fS0, dNeg, dAbs, dLen, dSum, dTuple, ix_t0, ix_t1, ix_t2, ix_l0, ix_l1, ownAt, setOwn, EV.cont, EV.with, seqOf, itemsOf, List.map_cons, List.map_nil, List.cons_append, List.nil_append, List.replicate_succ, List.replicate_zero, List.getElem?_cons_zero, List.getElem?_cons_succ, List.getElem?_nil, List.set_cons_zero, List.set_cons_succ, List.length_cons, List.length_nil]
      rw [if_pos (by decide)]
      simp only [e_fCallD, e_fCallLD, e_fCallO, e_fAddL, e_fZipB, e_fListZip, e_sOwnD, e_fNewD, e_fDictD, e_sDPutO, e_fDGetO, e_fDGet2, e_sFrzD, e_sPar3, e_fVar, e_fC, e_fOp, e_fUn, e_fNil, e_fCons, e_fTup, e_fLst, e_fOfL, e_fTest, e_fAnd, e_fOr, e_fNot, e_fBool, e_fIf, e_fChain, e_fVarB, e_fUnL, e_fNoPart, e_fPart, e_fSl, e_gN, e_gNl, e_gCs, e_gTp, e_fZip, e_fYes, e_sNx, e_sSeq, e_sAsg, e_sOwn, e_sApp, e_sExt, e_sIns, e_sSetIx, e_fIxO, e_fSlO, e_sRet, e_sRetL, e_sRetO, e_sFrz, e_sDrop, e_sIf, e_sPar, e_fCall, e_fCallL, e_fCallB, e_sParO, e_fOpO, e_fItems, e_fRange, e_fMin, e_orF, fI0, fI, fS0, dNeg, dAbs, dLen, dSum, dTuple, ix_t0, ix_t1, ix_t2, ix_l0, ix_l1, ownAt, setOwn, EV.cont, EV.with, seqOf, itemsOf, List.map_cons, List.map_nil, List.cons_append, List.nil_append, List.replicate_succ, List.replicate_zero, List.getElem?_cons_zero, List.getElem?_cons_succ, List.getElem?_nil, List.set_cons_zero, List.set_cons_succ, List.length_cons, List.length_nil, hz, if_true]
      rfl]
    dsimp only
    rw [show sAsg (fCall fn__law_left (fCons (fVar 1) (fCons (fOfL (fLc (fItems (fVar 5)) [7, 8] (gTp 2 (gCs (gN 7) (gCs (gN 8) gNl))) fYes (fVar 7))) fNil))) (gN 1) [.dat (.int c), .dat (folkD fs), .dat (frD (dr c fs q ls)), .dat L0, .own (acc ++ [encR (dr c fs q ls, own fs (dr c fs q ls) ls)]), .dat (onceD ls), .dat (.list ((own fs (dr c fs q ls) ls).map encO)), y7, y8, y9, .un] = some (.nx [.dat (.int c), .dat (folkD (left fs (ls.map (·.1)))), .dat (frD (dr c fs q ls)), .dat L0, .own (acc ++ [encR (dr c fs q ls, own fs (dr c fs q ls) ls)]), .dat (onceD ls), .dat (.list ((own fs (dr c fs q ls) ls).map encO)), y7, y8, y9, .un]) by simp only [e_fCallD, e_fCallLD, e_fCallO, e_fAddL, e_fZipB, e_fListZip, e_sOwnD, e_fNewD, e_fDictD, e_sDPutO, e_fDGetO, e_fDGet2, e_sFrzD, e_sPar3, e_fVar, e_fC, e_fOp, e_fUn, e_fNil, e_fCons, e_fTup, e_fLst, e_fOfL, e_fTest, e_fAnd, e_fOr, e_fNot, e_fBool, e_fIf, e_fChain, e_fVarB, e_fUnL, e_fNoPart, e_fPart, e_fSl, e_gN, e_gNl, e_gCs, e_gTp, e_fZip, e_fYes, e_sNx, e_sSeq, e_sAsg, e_sOwn, e_sApp, e_sExt, e_sIns, e_sSetIx, e_fIxO, e_fSlO, e_sRet, e_sRetL, e_sRetO, e_sFrz, e_sDrop, e_sIf, e_sPar, e_fCall, e_fCallL, e_fCallB, e_sParO, e_fOpO, e_fItems, e_fRange, e_fMin, e_orF, fI0, fI, fS0, dNeg, dAbs, dLen, dSum, dTuple, ix_t0, ix_t1, ix_t2, ix_l0, ix_l1, ownAt, setOwn, EV.cont, EV.with, seqOf, itemsOf, List.map_cons, List.map_nil, List.cons_append, List.nil_append, List.replicate_succ, List.replicate_zero, List.getElem?_cons_zero, List.getElem?_cons_succ, List.getElem?_nil, List.set_cons_zero, List.set_cons_succ, List.length_cons, List.length_nil, h4, h5]]
    dsimp only
    rw [ih, List.append_assoc]
    rfl
theorem run_eq {c : Int} {fs : List Fk} {q : Rat} {lss : List (List Lp)} (hc : 1 ≤ c ∧ c ≤ 1000) (hf : OkF fs) (hl : OkLs fs lss) (hq : Bd 100 q) (hn : lss.length ≤ 7) : fn__law_run [.int c, folkD fs, frD q, .list (lss.map onceD)] = some (.list ((rows c fs q lss).map encR)) := by
  obtain ⟨f', q', y5, y6, y7, y8, y9, h⟩ := run_loop hc (.list (lss.map onceD)) lss fs q 100 [] .un .un .un .un .un rfl rfl hf hl hq (by omega) (by rw [List.length_nil]; omega)
  have h8 := sFor_of (φ := fItems (fVar 3)) (δ := [.dat (.int c), .dat (folkD fs), .dat (frD q), .dat (.list (lss.map onceD)), .own [], .un, .un, .un, .un, .un, .un]) rfl h
  unfold fn__law_run b__law_run
  simp only [runD, e_fCallD, e_fCallLD, e_fCallO, e_fAddL, e_fZipB, e_fListZip, e_sOwnD, e_fNewD, e_fDictD, e_sDPutO, e_fDGetO, e_fDGet2, e_sFrzD, e_sPar3, e_fVar, e_fC, e_fOp, e_fUn, e_fNil, e_fCons, e_fTup, e_fLst, e_fOfL, e_fTest, e_fAnd, e_fOr, e_fNot, e_fBool, e_fIf, e_fChain, e_fVarB, e_fUnL, e_fNoPart, e_fPart, e_fSl, e_gN, e_gNl, e_gCs, e_gTp, e_fZip, e_fYes, e_sNx, e_sSeq, e_sAsg, e_sOwn, e_sApp, e_sExt, e_sIns, e_sSetIx, e_fIxO, e_fSlO, e_sRet, e_sRetL, e_sRetO, e_sFrz, e_sDrop, e_sIf, e_sPar, e_fCall, e_fCallL, e_fCallB, e_sParO, e_fOpO, e_fItems, e_fRange, e_fMin, e_orF, fI0, fI, fS0, dNeg, dAbs, dLen, dSum, dTuple, ix_t0, ix_t1, ix_t2, ix_l0, ix_l1, ownAt, setOwn, EV.cont, EV.with, seqOf, itemsOf, List.map_cons, List.map_nil, List.cons_append, List.nil_append, List.replicate_succ, List.replicate_zero, List.getElem?_cons_zero, List.getElem?_cons_succ, List.getElem?_nil, List.set_cons_zero, List.set_cons_succ, List.length_cons, List.length_nil]
  rw [if_pos (by decide)]
  simp only [e_fCallD, e_fCallLD, e_fCallO, e_fAddL, e_fZipB, e_fListZip, e_sOwnD, e_fNewD, e_fDictD, e_sDPutO, e_fDGetO, e_fDGet2, e_sFrzD, e_sPar3, e_fVar, e_fC, e_fOp, e_fUn, e_fNil, e_fCons, e_fTup, e_fLst, e_fOfL, e_fTest, e_fAnd, e_fOr, e_fNot, e_fBool, e_fIf, e_fChain, e_fVarB, e_fUnL, e_fNoPart, e_fPart, e_fSl, e_gN, e_gNl, e_gCs, e_gTp, e_fZip, e_fYes, e_sNx, e_sSeq, e_sAsg, e_sOwn, e_sApp, e_sExt, e_sIns, e_sSetIx, e_fIxO, e_fSlO, e_sRet, e_sRetL, e_sRetO, e_sFrz, e_sDrop, e_sIf, e_sPar, e_fCall, e_fCallL, e_fCallB, e_sParO, e_fOpO, e_fItems, e_fRange, e_fMin, e_orF, fI0, fI, fS0, dNeg, dAbs, dLen, dSum, dTuple, ix_t0, ix_t1, ix_t2, ix_l0, ix_l1, ownAt, setOwn, EV.cont, EV.with, seqOf, itemsOf, List.map_cons, List.map_nil, List.cons_append, List.nil_append, List.replicate_succ, List.replicate_zero, List.getElem?_cons_zero, List.getElem?_cons_succ, List.getElem?_nil, List.set_cons_zero, List.set_cons_succ, List.length_cons, List.length_nil]
  rw [if_pos (by decide)]
  simp only [e_fCallD, e_fCallLD, e_fCallO, e_fAddL, e_fZipB, e_fListZip, e_sOwnD, e_fNewD, e_fDictD, e_sDPutO, e_fDGetO, e_fDGet2, e_sFrzD, e_sPar3, e_fVar, e_fC, e_fOp, e_fUn, e_fNil, e_fCons, e_fTup, e_fLst, e_fOfL, e_fTest, e_fAnd, e_fOr, e_fNot, e_fBool, e_fIf, e_fChain, e_fVarB, e_fUnL, e_fNoPart, e_fPart, e_fSl, e_gN, e_gNl, e_gCs, e_gTp, e_fZip, e_fYes, e_sNx, e_sSeq, e_sAsg, e_sOwn, e_sApp, e_sExt, e_sIns, e_sSetIx, e_fIxO, e_fSlO, e_sRet, e_sRetL, e_sRetO, e_sFrz, e_sDrop, e_sIf, e_sPar, e_fCall, e_fCallL, e_fCallB, e_sParO, e_fOpO, e_fItems, e_fRange, e_fMin, e_orF, fI0, fI, fS0, dNeg, dAbs, dLen, dSum, dTuple, ix_t0, ix_t1, ix_t2, ix_l0, ix_l1, ownAt, setOwn, EV.cont, EV.with, seqOf, itemsOf, List.map_cons, List.map_nil, List.cons_append, List.nil_append, List.replicate_succ, List.replicate_zero, List.getElem?_cons_zero, List.getElem?_cons_succ, List.getElem?_nil, List.set_cons_zero, List.set_cons_succ, List.length_cons, List.length_nil, h8]
end Lc
set_option exponentiation.threshold 10000
namespace Lc
open PySem L2 Evl RZ Sm
theorem seq_of {φ ψ : FS} {δ δ1 : En} (h : φ δ = some (.nx δ1)) : sSeq φ ψ δ = ψ δ1 := by
  rw [e_sSeq, h]
/-! ### draws -/
def Bg (b : List PyData) : Prop := ∃ c s : Int, b = [.int c, .int s] ∧ 0 ≤ c ∧ 0 ≤ s ∧ s < 2147483648
theorem at0 {a b : PyData} : atI [a, b] 0 = some a := rfl
theorem at1 {a b : PyData} : atI [a, b] 1 = some b := rfl
theorem ix20 : ixN (0 + 1 + 1) 0 = some 0 := rfl
theorem ix21 : ixN (0 + 1 + 1) 1 = some 1 := rfl
theorem take_ok {b : List PyData} {m : Int} (hb : Bg b) (h1 : 1 ≤ m) (h2 : m ≤ 2000) : ∃ r b', fn__law_take b [.int m] = some (.int r, b') ∧ 0 ≤ r ∧ r < m ∧ Bg b' := by
  obtain ⟨c, s, rfl, hc, hs, hs2⟩ := hb
  by_cases h0 : 0 < c
  · refine ⟨c % m, [.int (c / m), .int s], ?_, Int.emod_nonneg c (by omega), Int.emod_lt_of_pos c (by omega), _, _, rfl, Int.ediv_nonneg hc (by omega), hs, hs2⟩
    have m1 := modB (i := c) (j := m) (by omega)
    have m2 : cDivB c m = true := divB (by omega) (pow20 (by omega) 8000 (by omega))
    unfold fn__law_take b__law_take
    simp only [runB, e_fCallD, e_fCallLD, e_fCallO, e_fAddL, e_fZipB, e_fListZip, e_sOwnD, e_fNewD, e_fDictD, e_sDPutO, e_fDGetO, e_fDGet2, e_sFrzD, e_sPar3, e_fVar, e_fC, e_fOp, e_fUn, e_fNil, e_fCons, e_fTup, e_fLst, e_fOfL, e_fTest, e_fAnd, e_fOr, e_fNot, e_fBool, e_fIf, e_fChain, e_fVarB, e_fUnL, e_fNoPart, e_fPart, e_fSl, e_gN, e_gNl, e_gCs, e_gTp, e_fZip, e_fYes, e_sNx, e_sSeq, e_sAsg, e_sOwn, e_sApp, e_sExt, e_sIns, e_sSetIx, e_fIxO, e_fSlO, e_sRet, e_sRetL, e_sRetO, e_sFrz, e_sDrop, e_sIf, e_sPar, e_fCall, e_fCallL, e_fCallB, e_sParO, e_fOpO, e_fItems, e_fRange, e_fMin, e_orF, fI0, fI, fS0, dNeg, dAbs, dLen, dSum, dTuple, ix_t0, ix_t1, ix_t2, ix_l0, ix_l1, ownAt, setOwn, EV.cont, EV.with, seqOf, itemsOf, List.map_cons, List.map_nil, List.cons_append, List.nil_append, List.replicate_succ, List.replicate_zero, List.getElem?_cons_zero, List.getElem?_cons_succ, List.getElem?_nil, List.set_cons_zero, List.set_cons_succ, List.length_cons, List.length_nil, at0, h0, decide_true, m1, m2, if_true, ix20]
  · have e0 : c = 0 := by omega
    have m1 : cMulB s 48271 = true := mulB (Nat.lt_of_lt_of_le (show s.natAbs < 2 ^ 31 by omega) (Nat.pow_le_pow_right (by decide) (by omega))) (pow20 (by decide) 8000 (by omega))
    have hs3 : 0 ≤ s * 48271 % 2147483647 := Int.emod_nonneg _ (by decide)
    have hs4 : s * 48271 % 2147483647 < 2147483647 := Int.emod_lt_of_pos _ (by decide)
    have m2 := modB (i := s * 48271) (j := 2147483647) (by decide)
    generalize hg : s * 48271 % 2147483647 = t at hs3 hs4
    have m3 : cMulB t t = true := mulB (Nat.lt_of_lt_of_le (show t.natAbs < 2 ^ 31 by omega) (Nat.pow_le_pow_right (by decide) (by omega))) (Nat.lt_of_lt_of_le (show t.natAbs < 2 ^ 31 by omega) (Nat.pow_le_pow_right (by decide) (by omega)))
    have m4 := modB (i := t * t) (j := 2147483629) (by decide)
    have m5 : cDivB (t * t % 2147483629) 64 = true := divB (by decide) (pow20 (by decide) 8000 (by omega))
    have m6 := modB (i := t * t % 2147483629 / 64) (j := m) (by omega)
    refine ⟨t * t % 2147483629 / 64 % m, [.int c, .int t], ?_, Int.emod_nonneg _ (by omega), Int.emod_lt_of_pos _ (by omega), _, _, rfl, hc, hs3, by omega⟩
    unfold fn__law_take b__law_take
    simp only [runB, e_fCallD, e_fCallLD, e_fCallO, e_fAddL, e_fZipB, e_fListZip, e_sOwnD, e_fNewD, e_fDictD, e_sDPutO, e_fDGetO, e_fDGet2, e_sFrzD, e_sPar3, e_fVar, e_fC, e_fOp, e_fUn, e_fNil, e_fCons, e_fTup, e_fLst, e_fOfL, e_fTest, e_fAnd, e_fOr, e_fNot, e_fBool, e_fIf, e_fChain, e_fVarB, e_fUnL, e_fNoPart, e_fPart, e_fSl, e_gN, e_gNl, e_gCs, e_gTp, e_fZip, e_fYes, e_sNx, e_sSeq, e_sAsg, e_sOwn, e_sApp, e_sExt, e_sIns, e_sSetIx, e_fIxO, e_fSlO, e_sRet, e_sRetL, e_sRetO, e_sFrz, e_sDrop, e_sIf, e_sPar, e_fCall, e_fCallL, e_fCallB, e_sParO, e_fOpO, e_fItems, e_fRange, e_fMin, e_orF, fI0, fI, fS0, dNeg, dAbs, dLen, dSum, dTuple, ix_t0, ix_t1, ix_t2, ix_l0, ix_l1, ownAt, setOwn, EV.cont, EV.with, seqOf, itemsOf, List.map_cons, List.map_nil, List.cons_append, List.nil_append, List.replicate_succ, List.replicate_zero, List.getElem?_cons_zero, List.getElem?_cons_succ, List.getElem?_nil, List.set_cons_zero, List.set_cons_succ, List.length_cons, List.length_nil, at0, at1, h0, decide_false, m1, m2, if_true, ix21, hg, m3, m4, m5, m6]
theorem call_take {b : List PyData} {m : Int} {φ : FL} {i : Nat} {δ δ1 : En} (hb : Bg b) (h1 : 1 ≤ m) (h2 : m ≤ 2000) {b0 : List PyData} (e0 : ownAt δ i = some b0) (e1 : φ δ = some ([.int m], δ1)) (e2 : ownAt δ1 i = some b) : ∃ r b', fCallB fn__law_take i φ δ = some (.int r, setOwn δ1 i b') ∧ 0 ≤ r ∧ r < m ∧ Bg b' := by
  obtain ⟨r, b', h, hr1, hr2, hb'⟩ := take_ok hb h1 h2
  refine ⟨r, b', ?_, hr1, hr2, hb'⟩
  rw [e_fCallB, e0]
  dsimp only
  rw [e1]
  dsimp only
  rw [e2]
  dsimp only
  rw [h]
theorem cart_ok {b : List PyData} (hb : Bg b) : ∃ r b', fn__law_cart b [] = some (.int r, b') ∧ 1 ≤ r ∧ r ≤ 1000 ∧ Bg b' := by
  obtain ⟨j, b1, h1, hj0, hj3, hb1⟩ := take_ok (m := 3) hb (by decide) (by decide)
  obtain ⟨m, hm, hm1, hm2⟩ : ∃ m, dIx (.list [.int 5, .int 60, .int 1000]) (.int j) = some (.int m) ∧ 1 ≤ m ∧ m ≤ 1000 := by
    have : j = 0 ∨ j = 1 ∨ j = 2 := by omega
    rcases this with rfl | rfl | rfl
    · exact ⟨5, rfl, by decide, by decide⟩
    · exact ⟨60, rfl, by decide, by decide⟩
    · exact ⟨1000, rfl, by decide, by decide⟩
  obtain ⟨r, b2, h2, hr0, hr1, hb2⟩ := take_ok (m := m) hb1 hm1 (by omega)
  refine ⟨1 + r, b2, ?_, by omega, by omega, hb2⟩
  unfold fn__law_cart b__law_cart
  simp only [runB, e_fCallD, e_fCallLD, e_fCallO, e_fAddL, e_fZipB, e_fListZip, e_sOwnD, e_fNewD, e_fDictD, e_sDPutO, e_fDGetO, e_fDGet2, e_sFrzD, e_sPar3, e_fVar, e_fC, e_fOp, e_fUn, e_fNil, e_fCons, e_fTup, e_fLst, e_fOfL, e_fTest, e_fAnd, e_fOr, e_fNot, e_fBool, e_fIf, e_fChain, e_fVarB, e_fUnL, e_fNoPart, e_fPart, e_fSl, e_gN, e_gNl, e_gCs, e_gTp, e_fZip, e_fYes, e_sNx, e_sSeq, e_sAsg, e_sOwn, e_sApp, e_sExt, e_sIns, e_sSetIx, e_fIxO, e_fSlO, e_sRet, e_sRetL, e_sRetO, e_sFrz, e_sDrop, e_sIf, e_sPar, e_fCall, e_fCallL, e_fCallB, e_sParO, e_fOpO, e_fItems, e_fRange, e_fMin, e_orF, fI0, fI, fS0, dNeg, dAbs, dLen, dSum, dTuple, ix_t0, ix_t1, ix_t2, ix_l0, ix_l1, ownAt, setOwn, EV.cont, EV.with, seqOf, itemsOf, List.map_cons, List.map_nil, List.cons_append, List.nil_append, List.replicate_succ, List.replicate_zero, List.getElem?_cons_zero, List.getElem?_cons_succ, List.getElem?_nil, List.set_cons_zero, List.set_cons_succ, List.length_cons, List.length_nil]
  rw [if_pos (by decide)]
  simp only [e_fCallD, e_fCallLD, e_fCallO, e_fAddL, e_fZipB, e_fListZip, e_sOwnD, e_fNewD, e_fDictD, e_sDPutO, e_fDGetO, e_fDGet2, e_sFrzD, e_sPar3, e_fVar, e_fC, e_fOp, e_fUn, e_fNil, e_fCons, e_fTup, e_fLst, e_fOfL, e_fTest, e_fAnd, e_fOr, e_fNot, e_fBool, e_fIf, e_fChain, e_fVarB, e_fUnL, e_fNoPart, e_fPart, e_fSl, e_gN, e_gNl, e_gCs, e_gTp, e_fZip, e_fYes, e_sNx, e_sSeq, e_sAsg, e_sOwn, e_sApp, e_sExt, e_sIns, e_sSetIx, e_fIxO, e_fSlO, e_sRet, e_sRetL, e_sRetO, e_sFrz, e_sDrop, e_sIf, e_sPar, e_fCall, e_fCallL, e_fCallB, e_sParO, e_fOpO, e_fItems, e_fRange, e_fMin, e_orF, fI0, fI, fS0, dNeg, dAbs, dLen, dSum, dTuple, ix_t0, ix_t1, ix_t2, ix_l0, ix_l1, ownAt, setOwn, EV.cont, EV.with, seqOf, itemsOf, List.map_cons, List.map_nil, List.cons_append, List.nil_append, List.replicate_succ, List.replicate_zero, List.getElem?_cons_zero, List.getElem?_cons_succ, List.getElem?_nil, List.set_cons_zero, List.set_cons_succ, List.length_cons, List.length_nil, h1, hm, h2]
theorem pick3 {j : Int} (x y z : Int) (h0 : 0 ≤ j) (h3 : j < 3) : ∃ m, dIx (.list [.int x, .int y, .int z]) (.int j) = some (.int m) ∧ (m = x ∨ m = y ∨ m = z) := by
  have : j = 0 ∨ j = 1 ∨ j = 2 := by omega
  rcases this with rfl | rfl | rfl
  · exact ⟨x, rfl, .inl rfl⟩
  · exact ⟨y, rfl, .inr (.inl rfl)⟩
  · exact ⟨z, rfl, .inr (.inr rfl)⟩
theorem pick2 {j : Int} (x y : Int) (h0 : 0 ≤ j) (h3 : j < 2) : ∃ m, dIx (.list [.int x, .int y]) (.int j) = some (.int m) ∧ (m = x ∨ m = y) := by
  have : j = 0 ∨ j = 1 := by omega
  rcases this with rfl | rfl
  · exact ⟨x, rfl, .inl rfl⟩
  · exact ⟨y, rfl, .inr rfl⟩
theorem folk_loop {fast : Int} (hfa : 1 ≤ fast ∧ fast ≤ 100) (alike : Bool) : ∀ (ns : List Str) (b : List PyData) (acc : List PyData) (x5 x6 : EV), Bg b → acc.length + ns.length ≤ 1000 →
    ∃ (fs : List Fk) (b' : List PyData) (y5 y6 : EV), loopF (gN 5) (sSeq (sAsg (fOp dAdd (fC (.int 1)) (fCallB fn__law_take 0 (fCons (fOp dIx (fOfL (fLst (fCons (fC (.int 5)) (fCons (fC (.int 60)) (fCons (fC (.int 200)) fNil))))) (fCallB fn__law_take 0 (fCons (fC (.int 3)) fNil))) fNil))) (gN 6))
    (sApp 2 (fTup (fCons (fVar 5) (fCons (fVar 6) (fCons (fIf (fTest (fVar 4)) (fVar 3) (fOp dAdd (fC (.int 1)) (fCallB fn__law_take 0 (fCons (fOp dIx (fOfL (fLst (fCons (fC (.int 5)) (fCons (fC (.int 100)) fNil)))) (fCallB fn__law_take 0 (fCons (fC (.int 2)) fNil))) fNil)))) fNil)))))) (ns.map PyData.str) [.bag b, .dat (.int 7), .own acc, .dat (.int fast), .dat (.bool alike), x5, x6] =
      some (.nx [.bag b', .dat (.int 7), .own (acc ++ fs.map encF), .dat (.int fast), .dat (.bool alike), y5, y6]) ∧ fs.map (·.1) = ns ∧ (∀ p, p ∈ fs → 1 ≤ p.2.1 ∧ p.2.1 ≤ 200 ∧ 1 ≤ p.2.2 ∧ p.2.2 ≤ 100) ∧ Bg b'
  | [], b, acc, x5, x6, hb, _ => ⟨[], b, x5, x6, by simp only [List.map_nil, List.append_nil, loopF], rfl, fun p hp => by simp at hp, hb⟩
  | n :: ns, b, acc, x5, x6, hb, ha => by
    rw [List.length_cons] at ha
    obtain ⟨j, b1, h1, hj0, hj3, hb1⟩ := take_ok (m := 3) hb (by decide) (by decide)
    obtain ⟨m, hm, hm1⟩ := pick3 5 60 200 hj0 hj3
    obtain ⟨r, b2, h2, hr0, hr1, hb2⟩ := take_ok (m := m) hb1 (by omega) (by omega)
    obtain ⟨j', b3, h3, hj0', hj3', hb3⟩ := take_ok (m := 2) hb2 (by decide) (by decide)
    obtain ⟨m', hm', hm1'⟩ := pick2 5 100 hj0' hj3'
    obtain ⟨r', b4, h4, hr0', hr1', hb4⟩ := take_ok (m := m') hb3 (by omega) (by omega)
    have hz : acc.length < 50000 := by omega
    cases alike with
    | true =>
      obtain ⟨fs, b', y5, y6, ih, i1, i2, i3⟩ := folk_loop hfa true ns b2 (acc ++ [encF (n, 1 + r, fast)]) (.dat (.str n)) (.dat (.int (1 + r))) hb2 (by rw [List.length_append]; show acc.length + 1 + ns.length ≤ 1000; omega)
      refine ⟨(n, 1 + r, fast) :: fs, b', y5, y6, ?_, by rw [List.map_cons, i1], fun p hp => ?_, i3⟩
      · rw [List.map_cons]
        unfold loopF
        simp only [e_fCallD, e_fCallLD, e_fCallO, e_fAddL, e_fZipB, e_fListZip, e_sOwnD, e_fNewD, e_fDictD, e_sDPutO, e_fDGetO, e_fDGet2, e_sFrzD, e_sPar3, e_fVar, e_fC, e_fOp, e_fUn, e_fNil, e_fCons, e_fTup, e_fLst, e_fOfL, e_fTest, e_fAnd, e_fOr, e_fNot, e_fBool, e_fIf, e_fChain, e_fVarB, e_fUnL, e_fNoPart, e_fPart, e_fSl, e_gN, e_gNl, e_gCs, e_gTp, e_fZip, e_fYes, e_sNx, e_sSeq, e_sAsg, e_sOwn, e_sApp, e_sExt, e_sIns, e_sSetIx, e_fIxO, e_fSlO, e_sRet, e_sRetL, e_sRetO, e_sFrz, e_sDrop, e_sIf, e_sPar, e_fCall, e_fCallL, e_fCallB, e_sParO, e_fOpO, e_fItems, e_fRange, e_fMin, e_orF, fI0, fI, fS0, dNeg, dAbs, dLen, dSum, dTuple, ix_t0, ix_t1, ix_t2, ix_l0, ix_l1, ownAt, setOwn, EV.cont, EV.with, seqOf, itemsOf, List.map_cons, List.map_nil, List.cons_append, List.nil_append, List.replicate_succ, List.replicate_zero, List.getElem?_cons_zero, List.getElem?_cons_succ, List.getElem?_nil, List.set_cons_zero, List.set_cons_succ, List.length_cons, List.length_nil]
        rw [if_pos (by decide)]
        simp only [e_fCallD, e_fCallLD, e_fCallO, e_fAddL, e_fZipB, e_fListZip, e_sOwnD, e_fNewD, e_fDictD, e_sDPutO, e_fDGetO, e_fDGet2, e_sFrzD, e_sPar3, e_fVar, e_fC, e_fOp, e_fUn, e_fNil, e_fCons, e_fTup, e_fLst, e_fOfL, e_fTest, e_fAnd, e_fOr, e_fNot, e_fBool, e_fIf, e_fChain, e_fVarB, e_fUnL, e_fNoPart, e_fPart, e_fSl, e_gN, e_gNl, e_gCs, e_gTp, e_fZip, e_fYes, e_sNx, e_sSeq, e_sAsg, e_sOwn, e_sApp, e_sExt, e_sIns, e_sSetIx, e_fIxO, e_fSlO, e_sRet, e_sRetL, e_sRetO, e_sFrz, e_sDrop, e_sIf, e_sPar, e_fCall, e_fCallL, e_fCallB, e_sParO, e_fOpO, e_fItems, e_fRange, e_fMin, e_orF, fI0, fI, fS0, dNeg, dAbs, dLen, dSum, dTuple, ix_t0, ix_t1, ix_t2, ix_l0, ix_l1, ownAt, setOwn, EV.cont, EV.with, seqOf, itemsOf, List.map_cons, List.map_nil, List.cons_append, List.nil_append, List.replicate_succ, List.replicate_zero, List.getElem?_cons_zero, List.getElem?_cons_succ, List.getElem?_nil, List.set_cons_zero, List.set_cons_succ, List.length_cons, List.length_nil, h1, hm, h2]
        rw [if_pos (by decide)]
        simp only [e_fCallD, e_fCallLD, e_fCallO, e_fAddL, e_fZipB, e_fListZip, e_sOwnD, e_fNewD, e_fDictD, e_sDPutO, e_fDGetO, e_fDGet2, e_sFrzD, e_sPar3, e_fVar, e_fC, e_fOp, e_fUn, e_fNil, e_fCons, e_fTup, e_fLst, e_fOfL, e_fTest, e_fAnd, e_fOr, e_fNot, e_fBool, e_fIf, e_fChain, e_fVarB, e_fUnL, e_fNoPart, e_fPart, e_fSl, e_gN, e_gNl, e_gCs, e_gTp, e_fZip, e_fYes, e_sNx, e_sSeq, e_sAsg, e_sOwn, e_sApp, e_sExt, e_sIns, e_sSetIx, e_fIxO, e_fSlO, e_sRet, e_sRetL, e_sRetO, e_sFrz, e_sDrop, e_sIf, e_sPar, e_fCall, e_fCallL, e_fCallB, e_sParO, e_fOpO, e_fItems, e_fRange, e_fMin, e_orF, fI0, fI, fS0, dNeg, dAbs, dLen, dSum, dTuple, ix_t0, ix_t1, ix_t2, ix_l0, ix_l1, ownAt, setOwn, EV.cont, EV.with, seqOf, itemsOf, List.map_cons, List.map_nil, List.cons_append, List.nil_append, List.replicate_succ, List.replicate_zero, List.getElem?_cons_zero, List.getElem?_cons_succ, List.getElem?_nil, List.set_cons_zero, List.set_cons_succ, List.length_cons, List.length_nil, hz, if_true]
        rw [show acc ++ [PyData.tuple [PyData.str n, PyData.int (1 + r), PyData.int fast]] = acc ++ [encF (n, 1 + r, fast)] from rfl, ih, List.append_assoc]
        rfl
      · rcases List.mem_cons.mp hp with rfl | hp
        · dsimp only
          omega
        · exact i2 p hp
    | false =>
      obtain ⟨fs, b', y5, y6, ih, i1, i2, i3⟩ := folk_loop hfa false ns b4 (acc ++ [encF (n, 1 + r, 1 + r')]) (.dat (.str n)) (.dat (.int (1 + r))) hb4 (by rw [List.length_append]; show acc.length + 1 + ns.length ≤ 1000; omega)
      refine ⟨(n, 1 + r, 1 + r') :: fs, b', y5, y6, ?_, by rw [List.map_cons, i1], fun p hp => ?_, i3⟩
      · rw [List.map_cons]
        unfold loopF
        simp only [e_fCallD, e_fCallLD, e_fCallO, e_fAddL, e_fZipB, e_fListZip, e_sOwnD, e_fNewD, e_fDictD, e_sDPutO, e_fDGetO, e_fDGet2, e_sFrzD, e_sPar3, e_fVar, e_fC, e_fOp, e_fUn, e_fNil, e_fCons, e_fTup, e_fLst, e_fOfL, e_fTest, e_fAnd, e_fOr, e_fNot, e_fBool, e_fIf, e_fChain, e_fVarB, e_fUnL, e_fNoPart, e_fPart, e_fSl, e_gN, e_gNl, e_gCs, e_gTp, e_fZip, e_fYes, e_sNx, e_sSeq, e_sAsg, e_sOwn, e_sApp, e_sExt, e_sIns, e_sSetIx, e_fIxO, e_fSlO, e_sRet, e_sRetL, e_sRetO, e_sFrz, e_sDrop, e_sIf, e_sPar, e_fCall, e_fCallL, e_fCallB, e_sParO, e_fOpO, e_fItems, e_fRange, e_fMin, e_orF, fI0, fI, fS0, dNeg, dAbs, dLen, dSum, dTuple, ix_t0, ix_t1, ix_t2, ix_l0, ix_l1, ownAt, setOwn, EV.cont, EV.with, seqOf, itemsOf, List.map_cons, List.map_nil, List.cons_append, List.nil_append, List.replicate_succ, List.replicate_zero, List.getElem?_cons_zero, List.getElem?_cons_succ, List.getElem?_nil, List.set_cons_zero, List.set_cons_succ, List.length_cons, List.length_nil]
        rw [if_pos (by decide)]
        simp only [e_fCallD, e_fCallLD, e_fCallO, e_fAddL, e_fZipB, e_fListZip, e_sOwnD, e_fNewD, e_fDictD, e_sDPutO, e_fDGetO, e_fDGet2, e_sFrzD, e_sPar3, e_fVar, e_fC, e_fOp, e_fUn, e_fNil, e_fCons, e_fTup, e_fLst, e_fOfL, e_fTest, e_fAnd, e_fOr, e_fNot, e_fBool, e_fIf, e_fChain, e_fVarB, e_fUnL, e_fNoPart, e_fPart, e_fSl, e_gN, e_gNl, e_gCs, e_gTp, e_fZip, e_fYes, e_sNx, e_sSeq, e_sAsg, e_sOwn, e_sApp, e_sExt, e_sIns, e_sSetIx, e_fIxO, e_fSlO, e_sRet, e_sRetL, e_sRetO, e_sFrz, e_sDrop, e_sIf, e_sPar, e_fCall, e_fCallL, e_fCallB, e_sParO, e_fOpO, e_fItems, e_fRange, e_fMin, e_orF, fI0, fI, fS0, dNeg, dAbs, dLen, dSum, dTuple, ix_t0, ix_t1, ix_t2, ix_l0, ix_l1, ownAt, setOwn, EV.cont, EV.with, seqOf, itemsOf, List.map_cons, List.map_nil, List.cons_append, List.nil_append, List.replicate_succ, List.replicate_zero, List.getElem?_cons_zero, List.getElem?_cons_succ, List.getElem?_nil, List.set_cons_zero, List.set_cons_succ, List.length_cons, List.length_nil, h1, hm, h2]
        rw [if_pos (by decide)]
        simp only [e_fCallD, e_fCallLD, e_fCallO, e_fAddL, e_fZipB, e_fListZip, e_sOwnD, e_fNewD, e_fDictD, e_sDPutO, e_fDGetO, e_fDGet2, e_sFrzD, e_sPar3, e_fVar, e_fC, e_fOp, e_fUn, e_fNil, e_fCons, e_fTup, e_fLst, e_fOfL, e_fTest, e_fAnd, e_fOr, e_fNot, e_fBool, e_fIf, e_fChain, e_fVarB, e_fUnL, e_fNoPart, e_fPart, e_fSl, e_gN, e_gNl, e_gCs, e_gTp, e_fZip, e_fYes, e_sNx, e_sSeq, e_sAsg, e_sOwn, e_sApp, e_sExt, e_sIns, e_sSetIx, e_fIxO, e_fSlO, e_sRet, e_sRetL, e_sRetO, e_sFrz, e_sDrop, e_sIf, e_sPar, e_fCall, e_fCallL, e_fCallB, e_sParO, e_fOpO, e_fItems, e_fRange, e_fMin, e_orF, fI0, fI, fS0, dNeg, dAbs, dLen, dSum, dTuple, ix_t0, ix_t1, ix_t2, ix_l0, ix_l1, ownAt, setOwn, EV.cont, EV.with, seqOf, itemsOf, List.map_cons, List.map_nil, List.cons_append, List.nil_append, List.replicate_succ, List.replicate_zero, List.getElem?_cons_zero, List.getElem?_cons_succ, List.getElem?_nil, List.set_cons_zero, List.set_cons_succ, List.length_cons, List.length_nil, h3, hm', h4]
        rw [if_pos (by decide)]
        simp only [e_fCallD, e_fCallLD, e_fCallO, e_fAddL, e_fZipB, e_fListZip, e_sOwnD, e_fNewD, e_fDictD, e_sDPutO, e_fDGetO, e_fDGet2, e_sFrzD, e_sPar3, e_fVar, e_fC, e_fOp, e_fUn, e_fNil, e_fCons, e_fTup, e_fLst, e_fOfL, e_fTest, e_fAnd, e_fOr, e_fNot, e_fBool, e_fIf, e_fChain, e_fVarB, e_fUnL, e_fNoPart, e_fPart, e_fSl, e_gN, e_gNl, e_gCs, e_gTp, e_fZip, e_fYes, e_sNx, e_sSeq, e_sAsg, e_sOwn, e_sApp, e_sExt, e_sIns, e_sSetIx, e_fIxO, e_fSlO, e_sRet, e_sRetL, e_sRetO, e_sFrz, e_sDrop, e_sIf, e_sPar, e_fCall, e_fCallL, e_fCallB, e_sParO, e_fOpO, e_fItems, e_fRange, e_fMin, e_orF, fI0, fI, fS0, dNeg, dAbs, dLen, dSum, dTuple, ix_t0, ix_t1, ix_t2, ix_l0, ix_l1, ownAt, setOwn, EV.cont, EV.with, seqOf, itemsOf, List.map_cons, List.map_nil, List.cons_append, List.nil_append, List.replicate_succ, List.replicate_zero, List.getElem?_cons_zero, List.getElem?_cons_succ, List.getElem?_nil, List.set_cons_zero, List.set_cons_succ, List.length_cons, List.length_nil, hz, if_true]
        rw [show acc ++ [PyData.tuple [PyData.str n, PyData.int (1 + r), PyData.int (1 + r')]] = acc ++ [encF (n, 1 + r, 1 + r')] from rfl, ih, List.append_assoc]
        rfl
      · rcases List.mem_cons.mp hp with rfl | hp
        · dsimp only
          omega
        · exact i2 p hp
def allNames : List Str := ["ann", "bo", "cy", "dee", "eli", "fay", "gus"]
theorem all_nd : allNames.Nodup := by decide +kernel
theorem folk_ok {b : List PyData} (hb : Bg b) : ∃ fs b', fn__law_folk b [.int 7] = some (folkD fs, b') ∧ OkF fs ∧ (∃ k, fs.map (·.1) = allNames.take k) ∧ Bg b' := by
  obtain ⟨j, b1, h1, hj0, hj3, hb1⟩ := take_ok (m := 2) hb (by decide) (by decide)
  obtain ⟨m, hm, hm1⟩ := pick2 4 100 hj0 hj3
  obtain ⟨r, b2, h2, hr0, hr1, hb2⟩ := take_ok (m := m) hb1 (by omega) (by omega)
  obtain ⟨a, b3, h3, ha0, ha3, hb3⟩ := take_ok (m := 3) hb2 (by decide) (by decide)
  obtain ⟨k, b4, h4, hk0, hk7, hb4⟩ := take_ok (m := 7) hb3 (by decide) (by decide)
  have hcut : cutD [.str "ann", .str "bo", .str "cy", .str "dee", .str "eli", .str "fay", .str "gus"] none (some (1 + k)) = (allNames.take (1 + k).toNat).map PyData.str := by
    have : k = 0 ∨ k = 1 ∨ k = 2 ∨ k = 3 ∨ k = 4 ∨ k = 5 ∨ k = 6 := by omega
    rcases this with rfl | rfl | rfl | rfl | rfl | rfl | rfl <;> rfl
  obtain ⟨fs, b5, y5, y6, hloop, i1, i2, i3⟩ := folk_loop (fast := 1 + r) (by omega) (decide (a = 0)) (allNames.take (1 + k).toNat) b4 [] .un .un hb4 (by
    rw [List.length_nil, List.length_take]
    show 0 + min _ 7 ≤ 1000
    omega)
  have hlen : fs.length ≤ 7 := by
    have : (fs.map (·.1)).length ≤ 7 := by
      rw [i1, List.length_take]
      exact Nat.min_le_right _ _
    rw [List.length_map] at this
    exact this
  refine ⟨fs, b5, ?_, ⟨hlen, i2, by rw [i1]; exact List.Nodup.sublist (List.take_sublist _ _) all_nd⟩, ⟨_, i1⟩, i3⟩
  have hE : dEq (.int a) (.int 0) = some (.bool (decide (a = 0))) := rfl
  have hit : fItems (fSl (fOfL (fLst (fCons (fC (.str "ann")) (fCons (fC (.str "bo")) (fCons (fC (.str "cy")) (fCons (fC (.str "dee")) (fCons (fC (.str "eli")) (fCons (fC (.str "fay")) (fCons (fC (.str "gus")) fNil))))))))) fNoPart (fPart (fOp dAdd (fC (.int 1)) (fCallB fn__law_take 0 (fCons (fVar 1) fNil))))) [.bag b3, .dat (.int 7), .own [], .dat (.int (1 + r)), .dat (.bool (decide (a = 0))), .un, .un] = some ((allNames.take (1 + k).toNat).map PyData.str, [.bag b4, .dat (.int 7), .own [], .dat (.int (1 + r)), .dat (.bool (decide (a = 0))), .un, .un]) := by
    simp only [e_fCallD, e_fCallLD, e_fCallO, e_fAddL, e_fZipB, e_fListZip, e_sOwnD, e_fNewD, e_fDictD, e_sDPutO, e_fDGetO, e_fDGet2, e_sFrzD, e_sPar3, e_fVar, e_fC, e_fOp, e_fUn, e_fNil, e_fCons, e_fTup, e_fLst, e_fOfL, e_fTest, e_fAnd, e_fOr, e_fNot, e_fBool, e_fIf, e_fChain, e_fVarB, e_fUnL, e_fNoPart, e_fPart, e_fSl, e_gN, e_gNl, e_gCs, e_gTp, e_fZip, e_fYes, e_sNx, e_sSeq, e_sAsg, e_sOwn, e_sApp, e_sExt, e_sIns, e_sSetIx, e_fIxO, e_fSlO, e_sRet, e_sRetL, e_sRetO, e_sFrz, e_sDrop, e_sIf, e_sPar, e_fCall, e_fCallL, e_fCallB, e_sParO, e_fOpO, e_fItems, e_fRange, e_fMin, e_orF, fI0, fI, fS0, dNeg, dAbs, dLen, dSum, dTuple, ix_t0, ix_t1, ix_t2, ix_l0, ix_l1, ownAt, setOwn, EV.cont, EV.with, seqOf, itemsOf, List.map_cons, List.map_nil, List.cons_append, List.nil_append, List.replicate_succ, List.replicate_zero, List.getElem?_cons_zero, List.getElem?_cons_succ, List.getElem?_nil, List.set_cons_zero, List.set_cons_succ, List.length_cons, List.length_nil]
    rw [if_pos (by decide)]
    simp only [e_fCallD, e_fCallLD, e_fCallO, e_fAddL, e_fZipB, e_fListZip, e_sOwnD, e_fNewD, e_fDictD, e_sDPutO, e_fDGetO, e_fDGet2, e_sFrzD, e_sPar3, e_fVar, e_fC, e_fOp, e_fUn, e_fNil, e_fCons, e_fTup, e_fLst, e_fOfL, e_fTest, e_fAnd, e_fOr, e_fNot, e_fBool, e_fIf, e_fChain, e_fVarB, e_fUnL, e_fNoPart, e_fPart, e_fSl, e_gN, e_gNl, e_gCs, e_gTp, e_fZip, e_fYes, e_sNx, e_sSeq, e_sAsg, e_sOwn, e_sApp, e_sExt, e_sIns, e_sSetIx, e_fIxO, e_fSlO, e_sRet, e_sRetL, e_sRetO, e_sFrz, e_sDrop, e_sIf, e_sPar, e_fCall, e_fCallL, e_fCallB, e_sParO, e_fOpO, e_fItems, e_fRange, e_fMin, e_orF, fI0, fI, fS0, dNeg, dAbs, dLen, dSum, dTuple, ix_t0, ix_t1, ix_t2, ix_l0, ix_l1, ownAt, setOwn, EV.cont, EV.with, seqOf, itemsOf, List.map_cons, List.map_nil, List.cons_append, List.nil_append, List.replicate_succ, List.replicate_zero, List.getElem?_cons_zero, List.getElem?_cons_succ, List.getElem?_nil, List.set_cons_zero, List.set_cons_succ, List.length_cons, List.length_nil, h4, dSl, hcut]
  have hF := sFor_of hit hloop
  have s2 : sAsg (fOp dAdd (fC (.int 1)) (fCallB fn__law_take 0 (fCons (fOp dIx (fOfL (fLst (fCons (fC (.int 4)) (fCons (fC (.int 100)) fNil)))) (fCallB fn__law_take 0 (fCons (fC (.int 2)) fNil))) fNil))) (gN 3) [.bag b, .dat (.int 7), .own [], .un, .un, .un, .un] = some (.nx [.bag b2, .dat (.int 7), .own [], .dat (.int (1 + r)), .un, .un, .un]) := by
    simp only [e_fCallD, e_fCallLD, e_fCallO, e_fAddL, e_fZipB, e_fListZip, e_sOwnD, e_fNewD, e_fDictD, e_sDPutO, e_fDGetO, e_fDGet2, e_sFrzD, e_sPar3, e_fVar, e_fC, e_fOp, e_fUn, e_fNil, e_fCons, e_fTup, e_fLst, e_fOfL, e_fTest, e_fAnd, e_fOr, e_fNot, e_fBool, e_fIf, e_fChain, e_fVarB, e_fUnL, e_fNoPart, e_fPart, e_fSl, e_gN, e_gNl, e_gCs, e_gTp, e_fZip, e_fYes, e_sNx, e_sSeq, e_sAsg, e_sOwn, e_sApp, e_sExt, e_sIns, e_sSetIx, e_fIxO, e_fSlO, e_sRet, e_sRetL, e_sRetO, e_sFrz, e_sDrop, e_sIf, e_sPar, e_fCall, e_fCallL, e_fCallB, e_sParO, e_fOpO, e_fItems, e_fRange, e_fMin, e_orF, fI0, fI, fS0, dNeg, dAbs, dLen, dSum, dTuple, ix_t0, ix_t1, ix_t2, ix_l0, ix_l1, ownAt, setOwn, EV.cont, EV.with, seqOf, itemsOf, List.map_cons, List.map_nil, List.cons_append, List.nil_append, List.replicate_succ, List.replicate_zero, List.getElem?_cons_zero, List.getElem?_cons_succ, List.getElem?_nil, List.set_cons_zero, List.set_cons_succ, List.length_cons, List.length_nil]
    rw [if_pos (by decide)]
    simp only [e_fCallD, e_fCallLD, e_fCallO, e_fAddL, e_fZipB, e_fListZip, e_sOwnD, e_fNewD, e_fDictD, e_sDPutO, e_fDGetO, e_fDGet2, e_sFrzD, e_sPar3, e_fVar, e_fC, e_fOp, e_fUn, e_fNil, e_fCons, e_fTup, e_fLst, e_fOfL, e_fTest, e_fAnd, e_fOr, e_fNot, e_fBool, e_fIf, e_fChain, e_fVarB, e_fUnL, e_fNoPart, e_fPart, e_fSl, e_gN, e_gNl, e_gCs, e_gTp, e_fZip, e_fYes, e_sNx, e_sSeq, e_sAsg, e_sOwn, e_sApp, e_sExt, e_sIns, e_sSetIx, e_fIxO, e_fSlO, e_sRet, e_sRetL, e_sRetO, e_sFrz, e_sDrop, e_sIf, e_sPar, e_fCall, e_fCallL, e_fCallB, e_sParO, e_fOpO, e_fItems, e_fRange, e_fMin, e_orF, fI0, fI, fS0, dNeg, dAbs, dLen, dSum, dTuple, ix_t0, ix_t1, ix_t2, ix_l0, ix_l1, ownAt, setOwn, EV.cont, EV.with, seqOf, itemsOf, List.map_cons, List.map_nil, List.cons_append, List.nil_append, List.replicate_succ, List.replicate_zero, List.getElem?_cons_zero, List.getElem?_cons_succ, List.getElem?_nil, List.set_cons_zero, List.set_cons_succ, List.length_cons, List.length_nil, h1, hm, h2]
  have s3 : sAsg (fOp dEq (fCallB fn__law_take 0 (fCons (fC (.int 3)) fNil)) (fC (.int 0))) (gN 4) [.bag b2, .dat (.int 7), .own [], .dat (.int (1 + r)), .un, .un, .un] = some (.nx [.bag b3, .dat (.int 7), .own [], .dat (.int (1 + r)), .dat (.bool (decide (a = 0))), .un, .un]) := by
    simp only [e_sAsg, e_fOp, e_fCallB, e_fCons, e_fNil, e_fC, e_gN, ownAt, setOwn, EV.cont, EV.with, List.getElem?_cons_zero, List.set_cons_zero, List.set_cons_succ, h3, hE]
  unfold fn__law_folk b__law_folk
  simp only [runB, List.map_cons, List.map_nil, List.cons_append, List.nil_append, List.replicate_succ, List.replicate_zero]
  rw [seq_of (δ1 := [.bag b, .dat (.int 7), .own [], .un, .un, .un, .un]) rfl, seq_of s2, seq_of s3, seq_of hF]
  rfl
end Lc
set_option exponentiation.threshold 10000
namespace Lc
open PySem L2 Evl RZ Sm
/-! ### data of a shape -/
def Sh (k : Nat) (d : PyData) : Prop := PyData.canLay0 d = true ∧ d.depth ≤ k
def Nm (n : Str) : Prop := PyData.canLay0 (.str n) = true
theorem sh_int (k : Nat) (i : Int) : Sh k (.int i) := ⟨by simp [PyData.canLay0], by simp [PyData.depth]⟩
theorem sh_str (k : Nat) {n : Str} (h : Nm n) : Sh k (.str n) := ⟨h, by simp [PyData.depth]⟩
theorem depth_all {k : Nat} : ∀ {ds : List PyData}, (∀ d, d ∈ ds → d.depth ≤ k) → PyData.depthAll ds ≤ k
  | [], _ => by simp [PyData.depthAll]
  | d :: ds, h => by
    rw [PyData.depthAll]
    exact Nat.max_le.mpr ⟨h d List.mem_cons_self, depth_all fun e he => h e (List.mem_cons_of_mem _ he)⟩
theorem sh_tup {k : Nat} {ds : List PyData} (h : ∀ d, d ∈ ds → Sh k d) : Sh (k + 1) (.tuple ds) := ⟨by
  rw [PyData.canLay0]
  exact canAll fun d hd => (h d hd).1, by
  rw [PyData.depth]
  exact Nat.succ_le_succ (depth_all fun d hd => (h d hd).2)⟩
theorem sh_lst {k : Nat} {ds : List PyData} (h : ∀ d, d ∈ ds → Sh k d) : Sh (k + 1) (.list ds) := ⟨by
  rw [PyData.canLay0]
  exact canAll fun d hd => (h d hd).1, by
  rw [PyData.depth]
  exact Nat.succ_le_succ (depth_all fun d hd => (h d hd).2)⟩
theorem sh_shaped {k : Nat} {d : PyData} (h : Sh k d) (hk : k ≤ 60) : SeqAt.shaped d = true := by
  unfold SeqAt.shaped
  rw [h.1, Bool.true_and]
  exact decide_eq_true (Nat.le_trans h.2 (by omega))
theorem ne_same {k : Nat} {xs : List PyData} (h : Sh k (.list xs)) (hk : k ≤ 60) : dNe (.list xs) (.list xs) = some (.bool false) := by
  have hs := sh_shaped h hk
  show dNeD (.list xs) (.list xs) = _
  unfold dNeD
  rw [if_pos ⟨hs, hs⟩, SeqAt.eqv_refl _ h.1]
  rfl
theorem ne_sameT {k : Nat} {xs : List PyData} (h : Sh k (.tuple xs)) (hk : k ≤ 60) : dNe (.tuple xs) (.tuple xs) = some (.bool false) := by
  have hs := sh_shaped h hk
  show dNeD (.tuple xs) (.tuple xs) = _
  unfold dNeD
  rw [if_pos ⟨hs, hs⟩, SeqAt.eqv_refl _ h.1]
  rfl
theorem ne_nil {k : Nat} {x : PyData} {xs : List PyData} (h : Sh k (.list (x :: xs))) (hk : k ≤ 60) : dNe (.list (x :: xs)) (.list []) = some (.bool true) := by
  have hs := sh_shaped h hk
  have h0 : SeqAt.shaped (.list []) = true := sh_shaped (k := 1) (sh_lst fun d hd => by simp at hd) (by omega)
  show dNeD (.list (x :: xs)) (.list []) = _
  unfold dNeD
  rw [if_pos ⟨hs, h0⟩]
  simp [PyData.eqv, PyData.eqvAll]
theorem ne_nil0 : dNe (.list []) (.list []) = some (.bool false) := ne_same (k := 1) (sh_lst fun d hd => by simp at hd) (by omega)
theorem sh_encF {p : Fk} (h : Nm p.1) : Sh 1 (encF p) := sh_tup fun d hd => by
  simp only [List.mem_cons, List.not_mem_nil, or_false] at hd
  rcases hd with rfl | rfl | rfl
  · exact sh_str 0 h
  · exact sh_int 0 _
  · exact sh_int 0 _
theorem sh_encL {p : Lp} (h : Nm p.1) : Sh 1 (encL p) := sh_tup fun d hd => by
  simp only [List.mem_cons, List.not_mem_nil, or_false] at hd
  rcases hd with rfl | rfl
  · exact sh_str 0 h
  · exact sh_int 0 _
theorem sh_frD (q : Rat) : Sh 1 (frD q) := sh_tup fun d hd => by
  simp only [List.mem_cons, List.not_mem_nil, or_false] at hd
  rcases hd with rfl | rfl
  · exact sh_int 0 _
  · exact sh_int 0 _
theorem Sh.mono {k m : Nat} {d : PyData} (h : Sh k d) (hm : k ≤ m) : Sh m d := ⟨h.1, Nat.le_trans h.2 hm⟩
theorem sh_encO {p : Str × Rat} (h : Nm p.1) : Sh 2 (encO p) := sh_tup fun d hd => by
  simp only [List.mem_cons, List.not_mem_nil, or_false] at hd
  rcases hd with rfl | rfl
  · exact sh_str 1 h
  · exact sh_frD _
theorem sh_map {α : Type} {k : Nat} {enc : α → PyData} {xs : List α} (h : ∀ x, x ∈ xs → Sh k (enc x)) : ∀ d, d ∈ xs.map enc → Sh k d := fun d hd => by
  obtain ⟨x, hx, rfl⟩ := List.mem_map.mp hd
  exact h x hx
theorem all_nm : ∀ n, n ∈ allNames → Nm n := fun n hn => by
  have : allNames.all (fun n => PyData.canLay0 (.str n)) = true := by decide +kernel
  rw [List.all_eq_true] at this
  exact this n hn
/-! ### sorted -/
theorem sorted_enc {α : Type} (enc : α → PyData) (xs : List α) (h1 : ∀ x, x ∈ xs → ∀ y, y ∈ xs → PySem.W.alike (enc x) (enc y) = true) (h2 : ∀ x, x ∈ xs → tupNe (enc x) = true) (h3 : ∀ x, x ∈ xs → Sh 50 (enc x)) : dSorted (.list (xs.map enc)) = some ((xs.mergeSort fun a b => leD (enc a) (enc b)).map enc) := by
  have hk : sortOk (xs.map enc) = true := by
    unfold sortOk alikeB
    rw [Bool.and_eq_true, Bool.and_eq_true]
    refine ⟨⟨?_, ?_⟩, ?_⟩
    · simp only [List.all_eq_true]
      intro d hd e he
      obtain ⟨x, hx, rfl⟩ := List.mem_map.mp hd
      obtain ⟨y, hy, rfl⟩ := List.mem_map.mp he
      exact h1 x hx y hy
    · rw [Bool.or_eq_true]
      left
      simp only [List.all_eq_true]
      intro d hd
      obtain ⟨x, hx, rfl⟩ := List.mem_map.mp hd
      exact h2 x hx
    · simp only [List.all_eq_true]
      intro d hd
      obtain ⟨x, hx, rfl⟩ := List.mem_map.mp hd
      rw [Bool.and_eq_true]
      exact ⟨decide_eq_true (Nat.le_trans (h3 x hx).2 (by omega)), (h3 x hx).1⟩
  show (if sortOk (xs.map enc) = true then some ((xs.map enc).mergeSort leD) else none) = _
  rw [if_pos hk, PySem.W.sort_maps (r := fun a b => leD (enc a) (enc b)) (s := leD) enc fun _ _ _ _ => rfl]
/-! ### slices -/
theorem cut_to (xs : List PyData) {m : Int} (h0 : 0 ≤ m) : cutD xs none (some m) = xs.take m.toNat := by
  unfold cutD
  rw [HT.sIx_none, List.drop_zero, Nat.sub_zero]
  obtain ⟨k, rfl⟩ := Int.eq_ofNat_of_zero_le h0
  rw [show (some ((k : Nat) : Int)) = some ((k : Nat) : Int) from rfl, HT.sIx_nat]
  show xs.take (min k xs.length) = xs.take k
  by_cases h : k ≤ xs.length
  · rw [Nat.min_eq_left h]
  · rw [Nat.min_eq_right (by omega), List.take_length, List.take_of_length_le (by omega)]
theorem cut_from (xs : List PyData) {m : Int} (h0 : 0 ≤ m) : cutD xs (some m) none = xs.drop m.toNat := by
  unfold cutD
  rw [HT.sIx_none]
  obtain ⟨k, rfl⟩ := Int.eq_ofNat_of_zero_le h0
  rw [HT.sIx_nat]
  show (xs.drop (min k xs.length)).take (xs.length - min k xs.length) = xs.drop k
  by_cases h : k ≤ xs.length
  · rw [Nat.min_eq_left h, List.take_of_length_le (by rw [List.length_drop]; omega)]
  · rw [Nat.min_eq_right (by omega), Nat.sub_self, List.take_zero, List.drop_eq_nil_of_le (by omega)]
theorem cut_last (xs : List PyData) (x : PyData) : cutD (xs ++ [x]) none (some (-1)) = xs := by
  unfold cutD
  rw [HT.sIx_none, List.drop_zero, Nat.sub_zero, List.length_append]
  have : HT.sIx (xs.length + [x].length) (xs.length + [x].length) (some (-1)) = xs.length := by
    show (if (-1 : Int) < 0 then ((-1 : Int) + ((xs.length + 1 : Nat) : Int)).toNat else min (-1 : Int).toNat (xs.length + 1)) = xs.length
    rw [if_pos (by decide)]
    omega
  rw [this]
  simp
/-! ### folk in a drawn order -/
theorem mixed_loop (D : PyData) : ∀ (rest gs : List Fk) (b : List PyData) (x : EV), Bg b → gs.length + rest.length ≤ 7 →
    ∃ (hs : List Fk) (b' : List PyData) (y : EV), loopF (gN 3) (sIns 2 (fCallB fn__law_take 0 (fCons (fOp dAdd (fUn dLen (fVarB 2)) (fC (.int 1))) fNil)) (fVar 3)) (rest.map encF) [.bag b, .dat D, .own (gs.map encF), x] = some (.nx [.bag b', .dat D, .own (hs.map encF), y]) ∧ hs.Perm (gs ++ rest) ∧ Bg b'
  | [], gs, b, x, hb, _ => ⟨gs, b, x, by simp only [List.map_nil, loopF], by rw [List.append_nil], hb⟩
  | p :: rest, gs, b, x, hb, hn => by
    rw [List.length_cons] at hn
    obtain ⟨j, b1, h1, hj0, hj1, hb1⟩ := take_ok (m := ((gs.map encF).length : Int) + 1) hb (by omega) (by rw [List.length_map]; omega)
    rw [List.length_map] at hj1
    obtain ⟨hs, b', y, ih, hp, hb'⟩ := mixed_loop D rest (gs.take j.toNat ++ [p] ++ gs.drop j.toNat) b1 (.dat (encF p)) hb1 (by
      rw [List.length_append, List.length_append, List.length_take, List.length_drop]
      show min _ _ + 1 + _ + _ ≤ 7
      omega)
    refine ⟨hs, b', y, ?_, hp.trans ?_, hb'⟩
    · rw [List.map_cons]
      unfold loopF
      have hz : (gs.map encF).length < 50000 ∧ 0 ≤ j ∧ j < 50000 := ⟨by rw [List.length_map]; omega, hj0, by omega⟩
      simp only [e_fCallD, e_fCallLD, e_fCallO, e_fAddL, e_fZipB, e_fListZip, e_sOwnD, e_fNewD, e_fDictD, e_sDPutO, e_fDGetO, e_fDGet2, e_sFrzD, e_sPar3, e_fVar, e_fC, e_fOp, e_fUn, e_fNil, e_fCons, e_fTup, e_fLst, e_fOfL, e_fTest, e_fAnd, e_fOr, e_fNot, e_fBool, e_fIf, e_fChain, e_fVarB, e_fUnL, e_fNoPart, e_fPart, e_fSl, e_gN, e_gNl, e_gCs, e_gTp, e_fZip, e_fYes, e_sNx, e_sSeq, e_sAsg, e_sOwn, e_sApp, e_sExt, e_sIns, e_sSetIx, e_fIxO, e_fSlO, e_sRet, e_sRetL, e_sRetO, e_sFrz, e_sDrop, e_sIf, e_sPar, e_fCall, e_fCallL, e_fCallB, e_sParO, e_fOpO, e_fItems, e_fRange, e_fMin, e_orF, fI0, fI, fS0, dNeg, dAbs, dLen, dSum, dTuple, ix_t0, ix_t1, ix_t2, ix_l0, ix_l1, ownAt, setOwn, EV.cont, EV.with, seqOf, itemsOf, List.map_cons, List.map_nil, List.cons_append, List.nil_append, List.replicate_succ, List.replicate_zero, List.getElem?_cons_zero, List.getElem?_cons_succ, List.getElem?_nil, List.set_cons_zero, List.set_cons_succ, List.length_cons, List.length_nil, h1]
      rw [if_pos hz]
      dsimp only
      rw [← List.map_take, ← List.map_drop, show ([encF p] : List PyData) = [p].map encF from rfl, ← List.map_append, ← List.map_append]
      exact ih
    · have : (gs.take j.toNat ++ [p] ++ gs.drop j.toNat).Perm (gs ++ [p]) := by
        have e1 : (gs.take j.toNat ++ [p] ++ gs.drop j.toNat).Perm (gs.take j.toNat ++ gs.drop j.toNat ++ [p]) := by
          rw [List.append_assoc, List.append_assoc]
          exact List.Perm.append_left _ List.perm_append_comm
        rw [List.take_append_drop] at e1
        exact e1
      have := this.append_right rest
      rw [List.append_assoc gs [p] rest] at this
      exact this
theorem mixed_ok {b : List PyData} (hb : Bg b) {fs : List Fk} (hl : fs.length ≤ 7) : ∃ (hs : List Fk) (b' : List PyData), fn__law_mixed b [folkD fs] = some (.list (hs.map encF), b') ∧ hs.Perm fs ∧ Bg b' := by
  obtain ⟨hs, b', y, h, hp, hb'⟩ := mixed_loop (folkD fs) fs [] b .un hb (by rw [List.length_nil]; omega)
  rw [List.nil_append] at hp
  refine ⟨hs, b', ?_, hp, hb'⟩
  have hF := sFor_of (φ := fItems (fVar 1)) (δ := [.bag b, .dat (folkD fs), .own ([].map encF), .un]) rfl h
  unfold fn__law_mixed b__law_mixed
  simp only [runB, List.map_cons, List.map_nil, List.cons_append, List.nil_append, List.replicate_succ, List.replicate_zero]
  rw [List.map_nil] at hF
  rw [seq_of (δ1 := [.bag b, .dat (folkD fs), .own [], .un]) rfl, seq_of hF]
  rfl
/-! ### leaps -/
theorem ways_comp (F Z M : PyData) (acc : List PyData) : ∀ (hs : List Fk) (b : List PyData) (x5 : EV), x5.mine = false → Bg b → hs.length ≤ 1000 →
    ∃ (ls : List Lp) (b' : List PyData), compL [6] (gN 6) fYes (fTup (fCons (fOp dIx (fVar 6) (fC (.int 0))) (fCons (fOp dSub (fC (.int 1)) (fOp dMul (fC (.int 2)) (fCallB fn__law_take 0 (fCons (fC (.int 2)) fNil)))) fNil))) (hs.map encF) [.bag b, .dat F, .own acc, .dat Z, .dat M, x5, .un] = some (ls.map encL, [.bag b', .dat F, .own acc, .dat Z, .dat M, x5, .un]) ∧ ls.map (·.1) = hs.map (·.1) ∧ (∀ p, p ∈ ls → p.2 = 1 ∨ p.2 = -1) ∧ Bg b'
  | [], b, x5, _, hb, _ => ⟨[], b, rfl, rfl, fun p hp => by simp at hp, hb⟩
  | h :: hs, b, x5, hx, hb, hn => by
    rw [List.length_cons] at hn
    obtain ⟨r, b1, h1, hr0, hr1, hb1⟩ := take_ok (m := 2) hb (by decide) (by decide)
    obtain ⟨ls, b', ih, i1, i2, i3⟩ := ways_comp F Z M acc hs b1 x5 hx hb1 (by omega)
    have hi : dIx (encF h) (.int 0) = some (.str h.1) := ix_t0
    have m1 : cMulB 2 r = true := mulB (pow20 (by decide) 8000 (by omega)) (pow20 (by omega) 8000 (by omega))
    refine ⟨(h.1, 1 - 2 * r) :: ls, b', ?_, by rw [List.map_cons, List.map_cons, i1], fun p hp => ?_, i3⟩
    · rw [List.map_cons]
      unfold compL
      have e1 : gN 6 (encF h) (wipeE [.bag b, .dat F, .own acc, .dat Z, .dat M, x5, .un] [6]) = some [.bag b, .dat F, .own acc, .dat Z, .dat M, x5, .dat (encF h)] := rfl
      have e2 : fTup (fCons (fOp dIx (fVar 6) (fC (.int 0))) (fCons (fOp dSub (fC (.int 1)) (fOp dMul (fC (.int 2)) (fCallB fn__law_take 0 (fCons (fC (.int 2)) fNil)))) fNil)) [.bag b, .dat F, .own acc, .dat Z, .dat M, x5, .dat (encF h)] = some (encL (h.1, 1 - 2 * r), [.bag b1, .dat F, .own acc, .dat Z, .dat M, x5, .dat (encF h)]) := by
        simp only [e_fCallD, e_fCallLD, e_fCallO, e_fAddL, e_fZipB, e_fListZip, e_sOwnD, e_fNewD, e_fDictD, e_sDPutO, e_fDGetO, e_fDGet2, e_sFrzD, e_sPar3, e_fVar, e_fC, e_fOp, e_fUn, e_fNil, e_fCons, e_fTup, e_fLst, e_fOfL, e_fTest, e_fAnd, e_fOr, e_fNot, e_fBool, e_fIf, e_fChain, e_fVarB, e_fUnL, e_fNoPart, e_fPart, e_fSl, e_gN, e_gNl, e_gCs, e_gTp, e_fZip, e_fYes, e_sNx, e_sSeq, e_sAsg, e_sOwn, e_sApp, e_sExt, e_sIns, e_sSetIx, e_fIxO, e_fSlO, e_sRet, e_sRetL, e_sRetO, e_sFrz, e_sDrop, e_sIf, e_sPar, e_fCall, e_fCallL, e_fCallB, e_sParO, e_fOpO, e_fItems, e_fRange, e_fMin, e_orF, fI0, fI, fS0, dNeg, dAbs, dLen, dSum, dTuple, ix_t0, ix_t1, ix_t2, ix_l0, ix_l1, ownAt, setOwn, EV.cont, EV.with, seqOf, itemsOf, List.map_cons, List.map_nil, List.cons_append, List.nil_append, List.replicate_succ, List.replicate_zero, List.getElem?_cons_zero, List.getElem?_cons_succ, List.getElem?_nil, List.set_cons_zero, List.set_cons_succ, List.length_cons, List.length_nil, hi, h1, m1, if_true]
        rw [if_pos (by decide)]
        rfl
      have e3 : backE [6] 0 [.bag b, .dat F, .own acc, .dat Z, .dat M, x5, .un] [.bag b1, .dat F, .own acc, .dat Z, .dat M, x5, .dat (encF h)] = [.bag b1, .dat F, .own acc, .dat Z, .dat M, x5, .un] := by
        cases x5 <;> first | rfl | cases hx
      rw [e1]
      dsimp only [fYes]
      rw [e2]
      dsimp only
      rw [e3, ih]
      rfl
    · rcases List.mem_cons.mp hp with rfl | hp
      · dsimp only
        omega
      · exact i2 p hp
theorem OkLs.of_left {fs : List Fk} {ls : List Lp} {lss : List (List Lp)} (h : OkL fs ls) (h' : OkLs (left fs (ls.map (·.1))) lss) : OkLs fs (ls :: lss) := ⟨h, h'⟩
theorem left_mem {fs : List Fk} {ns : List Str} {n : Str} (h : n ∈ fs.map (·.1)) (hn : ¬ n ∈ ns) : n ∈ (left fs ns).map (·.1) := by
  obtain ⟨p, hp, rfl⟩ := List.mem_map.mp h
  refine List.mem_map.mpr ⟨p, ?_, rfl⟩
  unfold left
  rw [List.mem_filter]
  exact ⟨hp, by simpa using hn⟩
def namesOf (lss : List (List Lp)) : List Str := (lss.map fun ls => ls.map (·.1)).flatten
theorem leaps_whl (F : PyData) : ∀ (n : Nat) (hs : List Fk) (b acc : List PyData) (x4 x5 : EV), x5.mine = false → Bg b → hs.length < n → hs.length ≤ 7 → acc.length + hs.length ≤ 1000 → (hs.map (·.1)).Nodup → (∀ p, p ∈ hs → Nm p.1) →
    ∃ (lss : List (List Lp)) (b' : List PyData) (y4 y5 : EV), whl (fTest (fOp dNe (fVar 3) (fOfL (fLst fNil)))) (sSeq (sAsg (fOp dAdd (fC (.int 1)) (fCallB fn__law_take 0 (fCons (fMin (fC (.int 3)) (fUn dLen (fVar 3))) fNil))) (gN 4))
    (sSeq (sAsg (fOfL (fLc (fItems (fSl (fVar 3) fNoPart (fPart (fVar 4)))) [6] (gN 6) fYes (fTup (fCons (fOp dIx (fVar 6) (fC (.int 0))) (fCons (fOp dSub (fC (.int 1)) (fOp dMul (fC (.int 2)) (fCallB fn__law_take 0 (fCons (fC (.int 2)) fNil)))) fNil))))) (gN 5))
    (sSeq (sApp 2 (fUn dTuple (fOfL (fUnL dSorted (fVar 5)))))
    (sAsg (fSl (fVar 3) (fPart (fVar 4)) fNoPart) (gN 3))))) n [.bag b, .dat F, .own acc, .dat (.list (hs.map encF)), x4, x5, .un] = some (.nx [.bag b', .dat F, .own (acc ++ lss.map onceD), .dat (.list []), y4, y5, .un]) ∧
      (∀ fs : List Fk, (∀ p, p ∈ hs → p.1 ∈ fs.map (·.1)) → OkLs fs lss) ∧ lss.length ≤ hs.length ∧ (namesOf lss).Perm (hs.map (·.1)) ∧ Bg b'
  | 0, hs, _, _, _, _, _, _, h, _, _, _, _ => by omega
  | n + 1, [], b, acc, x4, x5, hx, hb, _, _, _, _, _ => ⟨[], b, x4, x5, by
      unfold whl
      have : fTest (fOp dNe (fVar 3) (fOfL (fLst fNil))) [.bag b, .dat F, .own acc, .dat (.list ([].map encF)), x4, x5, .un] = some (false, [.bag b, .dat F, .own acc, .dat (.list []), x4, x5, .un]) := by
        simp only [e_fTest, e_fOp, e_fVar, e_fOfL, e_fLst, e_fNil, List.map_nil, List.getElem?_cons_zero, List.getElem?_cons_succ, List.length_nil]
        rw [if_pos (by decide)]
        simp only [ne_nil0]
      rw [this, List.map_nil, List.append_nil], fun _ _ => trivial, Nat.le_refl _, List.Perm.refl _, hb⟩
  | n + 1, h :: hs, b, acc, x4, x5, hx, hb, hn, h7, ha, hnd, hnm => by
    have hlen : ((h :: hs).map encF).length = (h :: hs).length := List.length_map _
    obtain ⟨r, b1, h1, hr0, hr1, hb1⟩ := take_ok (m := if (((h :: hs).map encF).length : Int) < 3 then (((h :: hs).map encF).length : Int) else 3) hb (by
      rw [hlen, List.length_cons]
      split <;> omega) (by split <;> omega)
    have hm2 : (1 + r).toNat ≤ (h :: hs).length := by
      rw [hlen, List.length_cons] at hr1
      rw [List.length_cons]
      split at hr1 <;> omega
    generalize hmm : (1 + r).toNat = m at hm2
    have hm1 : 1 ≤ m := by omega
    have hsub : ((h :: hs).take m).Sublist (h :: hs) := List.take_sublist _ _
    obtain ⟨ls, b2, h2, i1, i2, hb2⟩ := ways_comp F (.list ((h :: hs).map encF)) (.int (1 + r)) acc ((h :: hs).take m) b1 x5 hx hb1 (by
      rw [List.length_take]
      omega)
    have hL := fLc_of (φ := fItems (fSl (fVar 3) fNoPart (fPart (fVar 4)))) (δ := [.bag b1, .dat F, .own acc, .dat (.list ((h :: hs).map encF)), .dat (.int (1 + r)), x5, .un]) (ds := ((h :: hs).take m).map encF) (δ1 := [.bag b1, .dat F, .own acc, .dat (.list ((h :: hs).map encF)), .dat (.int (1 + r)), x5, .un]) (by
        simp only [e_fCallD, e_fCallLD, e_fCallO, e_fAddL, e_fZipB, e_fListZip, e_sOwnD, e_fNewD, e_fDictD, e_sDPutO, e_fDGetO, e_fDGet2, e_sFrzD, e_sPar3, e_fVar, e_fC, e_fOp, e_fUn, e_fNil, e_fCons, e_fTup, e_fLst, e_fOfL, e_fTest, e_fAnd, e_fOr, e_fNot, e_fBool, e_fIf, e_fChain, e_fVarB, e_fUnL, e_fNoPart, e_fPart, e_fSl, e_gN, e_gNl, e_gCs, e_gTp, e_fZip, e_fYes, e_sNx, e_sSeq, e_sAsg, e_sOwn, e_sApp, e_sExt, e_sIns, e_sSetIx, e_fIxO, e_fSlO, e_sRet, e_sRetL, e_sRetO, e_sFrz, e_sDrop, e_sIf, e_sPar, e_fCall, e_fCallL, e_fCallB, e_sParO, e_fOpO, e_fItems, e_fRange, e_fMin, e_orF, fI0, fI, fS0, dNeg, dAbs, dLen, dSum, dTuple, ix_t0, ix_t1, ix_t2, ix_l0, ix_l1, ownAt, setOwn, EV.cont, EV.with, seqOf, itemsOf, List.map_cons, List.map_nil, List.cons_append, List.nil_append, List.replicate_succ, List.replicate_zero, List.getElem?_cons_zero, List.getElem?_cons_succ, List.getElem?_nil, List.set_cons_zero, List.set_cons_succ, List.length_cons, List.length_nil, dSl, cut_to _ (show (0 : Int) ≤ 1 + r by omega), hmm]
        rw [← List.map_cons, List.map_take]) (by
        rw [List.length_map, List.length_take]
        omega) h2
    have hnm1 : ∀ p, p ∈ ls → Nm p.1 := fun p hp => by
      have : p.1 ∈ ((h :: hs).take m).map (·.1) := by
        rw [← i1]
        exact List.mem_map.mpr ⟨p, hp, rfl⟩
      obtain ⟨k, hk, e⟩ := List.mem_map.mp this
      rw [← e]
      exact hnm k (hsub.subset hk)
    have hso := sorted_enc encL ls (fun x _ y _ => by
      show PySem.W.alike (.tuple [.str x.1, .int x.2]) (.tuple [.str y.1, .int y.2]) = true
      simp [PySem.W.alike, PySem.W.alikeAll]) (fun x _ => rfl) (fun x hx => (sh_encL (hnm1 x hx)).mono (by omega))
    generalize hls' : (ls.mergeSort fun a b => leD (encL a) (encL b)) = ls' at hso
    have hperm : ls'.Perm ls := by
      rw [← hls']
      exact List.mergeSort_perm _ _
    have hz : acc.length < 50000 := by omega
    have hdrop : ((h :: hs).drop m).length = (h :: hs).length - m := List.length_drop
    obtain ⟨lss, b', y4, y5, ih, j1, j2, j3, j4⟩ := leaps_whl F n ((h :: hs).drop m) b2 (acc ++ [onceD ls']) (.dat (.int (1 + r))) (.dat (.list (ls.map encL))) rfl hb2 (by omega) (by omega) (by
      rw [List.length_append, hdrop]
      show acc.length + 1 + _ ≤ 1000
      omega) (((List.drop_sublist _ _).map _).nodup hnd) (fun p hp => hnm p ((List.drop_sublist _ _).subset hp))
    refine ⟨ls' :: lss, b', y4, y5, ?_, fun fs hfs => ?_, ?_, ?_, j4⟩
    · unfold whl
      have t0 : fTest (fOp dNe (fVar 3) (fOfL (fLst fNil))) [.bag b, .dat F, .own acc, .dat (.list ((h :: hs).map encF)), x4, x5, .un] = some (true, [.bag b, .dat F, .own acc, .dat (.list ((h :: hs).map encF)), x4, x5, .un]) := by
        have := ne_nil (k := 2) (x := encF h) (xs := hs.map encF) (sh_lst (k := 1) (sh_map (xs := h :: hs) fun p hp => sh_encF (hnm p hp))) (by omega)
        simp only [e_fTest, e_fOp, e_fVar, e_fOfL, e_fLst, e_fNil, List.map_cons, List.getElem?_cons_zero, List.getElem?_cons_succ, List.length_nil]
        rw [if_pos (by decide)]
        simp only [this]
      rw [t0]
      dsimp only
      have s1 : sAsg (fOp dAdd (fC (.int 1)) (fCallB fn__law_take 0 (fCons (fMin (fC (.int 3)) (fUn dLen (fVar 3))) fNil))) (gN 4) [.bag b, .dat F, .own acc, .dat (.list ((h :: hs).map encF)), x4, x5, .un] = some (.nx [.bag b1, .dat F, .own acc, .dat (.list ((h :: hs).map encF)), .dat (.int (1 + r)), x5, .un]) := by
        generalize (h :: hs).map encF = Z at h1
        simp only [e_fCallD, e_fCallLD, e_fCallO, e_fAddL, e_fZipB, e_fListZip, e_sOwnD, e_fNewD, e_fDictD, e_sDPutO, e_fDGetO, e_fDGet2, e_sFrzD, e_sPar3, e_fVar, e_fC, e_fOp, e_fUn, e_fNil, e_fCons, e_fTup, e_fLst, e_fOfL, e_fTest, e_fAnd, e_fOr, e_fNot, e_fBool, e_fIf, e_fChain, e_fVarB, e_fUnL, e_fNoPart, e_fPart, e_fSl, e_gN, e_gNl, e_gCs, e_gTp, e_fZip, e_fYes, e_sNx, e_sSeq, e_sAsg, e_sOwn, e_sApp, e_sExt, e_sIns, e_sSetIx, e_fIxO, e_fSlO, e_sRet, e_sRetL, e_sRetO, e_sFrz, e_sDrop, e_sIf, e_sPar, e_fCall, e_fCallL, e_fCallB, e_sParO, e_fOpO, e_fItems, e_fRange, e_fMin, e_orF, fI0, fI, fS0, dNeg, dAbs, dLen, dSum, dTuple, ix_t0, ix_t1, ix_t2, ix_l0, ix_l1, ownAt, setOwn, EV.cont, EV.with, seqOf, itemsOf, List.map_cons, List.map_nil, List.cons_append, List.nil_append, List.replicate_succ, List.replicate_zero, List.getElem?_cons_zero, List.getElem?_cons_succ, List.getElem?_nil, List.set_cons_zero, List.set_cons_succ, List.length_cons, List.length_nil, h1]
      have s2 : sAsg (fOfL (fLc (fItems (fSl (fVar 3) fNoPart (fPart (fVar 4)))) [6] (gN 6) fYes (fTup (fCons (fOp dIx (fVar 6) (fC (.int 0))) (fCons (fOp dSub (fC (.int 1)) (fOp dMul (fC (.int 2)) (fCallB fn__law_take 0 (fCons (fC (.int 2)) fNil)))) fNil))))) (gN 5) [.bag b1, .dat F, .own acc, .dat (.list ((h :: hs).map encF)), .dat (.int (1 + r)), x5, .un] = some (.nx [.bag b2, .dat F, .own acc, .dat (.list ((h :: hs).map encF)), .dat (.int (1 + r)), .dat (.list (ls.map encL)), .un]) := by
        simp only [e_sAsg, e_fOfL, hL, e_gN, List.set_cons_zero, List.set_cons_succ]
      have s3 : sApp 2 (fUn dTuple (fOfL (fUnL dSorted (fVar 5)))) [.bag b2, .dat F, .own acc, .dat (.list ((h :: hs).map encF)), .dat (.int (1 + r)), .dat (.list (ls.map encL)), .un] = some (.nx [.bag b2, .dat F, .own (acc ++ [onceD ls']), .dat (.list ((h :: hs).map encF)), .dat (.int (1 + r)), .dat (.list (ls.map encL)), .un]) := by
        generalize (h :: hs).map encF = Z
        simp only [e_fCallD, e_fCallLD, e_fCallO, e_fAddL, e_fZipB, e_fListZip, e_sOwnD, e_fNewD, e_fDictD, e_sDPutO, e_fDGetO, e_fDGet2, e_sFrzD, e_sPar3, e_fVar, e_fC, e_fOp, e_fUn, e_fNil, e_fCons, e_fTup, e_fLst, e_fOfL, e_fTest, e_fAnd, e_fOr, e_fNot, e_fBool, e_fIf, e_fChain, e_fVarB, e_fUnL, e_fNoPart, e_fPart, e_fSl, e_gN, e_gNl, e_gCs, e_gTp, e_fZip, e_fYes, e_sNx, e_sSeq, e_sAsg, e_sOwn, e_sApp, e_sExt, e_sIns, e_sSetIx, e_fIxO, e_fSlO, e_sRet, e_sRetL, e_sRetO, e_sFrz, e_sDrop, e_sIf, e_sPar, e_fCall, e_fCallL, e_fCallB, e_sParO, e_fOpO, e_fItems, e_fRange, e_fMin, e_orF, fI0, fI, fS0, dNeg, dAbs, dLen, dSum, dTuple, ix_t0, ix_t1, ix_t2, ix_l0, ix_l1, ownAt, setOwn, EV.cont, EV.with, seqOf, itemsOf, List.map_cons, List.map_nil, List.cons_append, List.nil_append, List.replicate_succ, List.replicate_zero, List.getElem?_cons_zero, List.getElem?_cons_succ, List.getElem?_nil, List.set_cons_zero, List.set_cons_succ, List.length_cons, List.length_nil, hso, hz, if_true]
        rfl
      have s4 : sAsg (fSl (fVar 3) (fPart (fVar 4)) fNoPart) (gN 3) [.bag b2, .dat F, .own (acc ++ [onceD ls']), .dat (.list ((h :: hs).map encF)), .dat (.int (1 + r)), .dat (.list (ls.map encL)), .un] = some (.nx [.bag b2, .dat F, .own (acc ++ [onceD ls']), .dat (.list (((h :: hs).drop m).map encF)), .dat (.int (1 + r)), .dat (.list (ls.map encL)), .un]) := by
        rw [List.map_drop]
        generalize (h :: hs).map encF = Z
        simp only [e_fCallD, e_fCallLD, e_fCallO, e_fAddL, e_fZipB, e_fListZip, e_sOwnD, e_fNewD, e_fDictD, e_sDPutO, e_fDGetO, e_fDGet2, e_sFrzD, e_sPar3, e_fVar, e_fC, e_fOp, e_fUn, e_fNil, e_fCons, e_fTup, e_fLst, e_fOfL, e_fTest, e_fAnd, e_fOr, e_fNot, e_fBool, e_fIf, e_fChain, e_fVarB, e_fUnL, e_fNoPart, e_fPart, e_fSl, e_gN, e_gNl, e_gCs, e_gTp, e_fZip, e_fYes, e_sNx, e_sSeq, e_sAsg, e_sOwn, e_sApp, e_sExt, e_sIns, e_sSetIx, e_fIxO, e_fSlO, e_sRet, e_sRetL, e_sRetO, e_sFrz, e_sDrop, e_sIf, e_sPar, e_fCall, e_fCallL, e_fCallB, e_sParO, e_fOpO, e_fItems, e_fRange, e_fMin, e_orF, fI0, fI, fS0, dNeg, dAbs, dLen, dSum, dTuple, ix_t0, ix_t1, ix_t2, ix_l0, ix_l1, ownAt, setOwn, EV.cont, EV.with, seqOf, itemsOf, List.map_cons, List.map_nil, List.cons_append, List.nil_append, List.replicate_succ, List.replicate_zero, List.getElem?_cons_zero, List.getElem?_cons_succ, List.getElem?_nil, List.set_cons_zero, List.set_cons_succ, List.length_cons, List.length_nil, dSl, cut_from _ (show (0 : Int) ≤ 1 + r by omega), hmm]
      rw [seq_of s1, seq_of s2, seq_of s3, s4]
      dsimp only
      rw [ih, List.append_assoc]
      rfl
    · have hn1 : (ls'.map (·.1)).Perm (((h :: hs).take m).map (·.1)) := by
        rw [← i1]
        exact hperm.map _
      refine ⟨⟨?_, fun p hp => ?_, fun p hp => i2 p (hperm.mem_iff.mp hp), ?_⟩, j1 _ fun p hp => ?_⟩
      · have := hn1.length_eq
        rw [List.length_map, List.length_map, List.length_take] at this
        omega
      · have : p.1 ∈ ((h :: hs).take m).map (·.1) := hn1.mem_iff.mp (List.mem_map.mpr ⟨p, hp, rfl⟩)
        obtain ⟨k, hk, e⟩ := List.mem_map.mp this
        rw [← e]
        exact hfs k (hsub.subset hk)
      · exact hn1.nodup_iff.mpr ((hsub.map _).nodup hnd)
      · refine left_mem (hfs p ((List.drop_sublist _ _).subset hp)) fun z => ?_
        have z1 : p.1 ∈ ((h :: hs).take m).map (·.1) := hn1.mem_iff.mp z
        have z2 : p.1 ∈ ((h :: hs).drop m).map (·.1) := List.mem_map.mpr ⟨p, hp, rfl⟩
        rw [← List.take_append_drop m (h :: hs), List.map_append, List.nodup_append] at hnd
        exact hnd.2.2 _ z1 _ z2 rfl
    · rw [List.length_cons]
      omega
    · have hn1 : (ls'.map (·.1)).Perm (((h :: hs).take m).map (·.1)) := by
        rw [← i1]
        exact hperm.map _
      show ((ls'.map (·.1)) ++ namesOf lss).Perm _
      have := hn1.append j3
      rw [← List.map_append, List.take_append_drop] at this
      exact this
theorem leaps_ok {b : List PyData} (hb : Bg b) {fs : List Fk} (hf : OkF fs) (hnm : ∀ p, p ∈ fs → Nm p.1) : ∃ (lss : List (List Lp)) (b' : List PyData), fn__law_leaps b [folkD fs] = some (.list (lss.map onceD), b') ∧ OkLs fs lss ∧ lss.length ≤ 7 ∧ (∃ k, (namesOf lss).length ≤ 7 ∧ k = 0) ∧ (namesOf lss).Nodup ∧ (∀ n, n ∈ namesOf lss → n ∈ fs.map (·.1)) ∧ Bg b' := by
  have hlen := hf.len
  obtain ⟨gs, b1, h1, hp, hb1⟩ := mixed_ok hb hf.len
  obtain ⟨r, b2, h2, hr0, hr1, hb2⟩ := take_ok (m := ((fs.map encF).length : Int) + 1) hb1 (by omega) (by rw [List.length_map]; omega)
  rw [List.length_map] at hr1
  have hgl := hp.length_eq
  have hsub : (gs.take r.toNat).Sublist gs := List.take_sublist _ _
  have hgn : (gs.map (·.1)).Nodup := (hp.map _).nodup_iff.mpr hf.nd
  obtain ⟨lss, b3, y4, y5, h3, j1, j2, j3, j4⟩ := leaps_whl (folkD fs) 9 (gs.take r.toNat) b2 [] .un .un rfl hb2 (by rw [List.length_take]; omega) (by rw [List.length_take]; omega) (by rw [List.length_nil, List.length_take]; omega) ((hsub.map _).nodup hgn) (fun p hp' => hnm p (hp.mem_iff.mp (hsub.subset hp')))
  have hn : ∀ n, n ∈ namesOf lss → n ∈ fs.map (·.1) := fun n hn => by
    have := j3.mem_iff.mp hn
    obtain ⟨k, hk, e⟩ := List.mem_map.mp this
    rw [← e]
    exact List.mem_map.mpr ⟨k, hp.mem_iff.mp (hsub.subset hk), rfl⟩
  refine ⟨lss, b3, ?_, j1 fs (fun p hp' => List.mem_map.mpr ⟨p, hp.mem_iff.mp (hsub.subset hp'), rfl⟩), by rw [List.length_take] at j2; omega, ⟨0, by rw [j3.length_eq, List.length_map, List.length_take]; omega, rfl⟩, j3.nodup_iff.mpr ((hsub.map _).nodup hgn), hn, j4⟩
  have hW := sWhile_of h3
  have s2 : sAsg (fSl (fCallB fn__law_mixed 0 (fCons (fVar 1) fNil)) fNoPart (fPart (fCallB fn__law_take 0 (fCons (fOp dAdd (fUn dLen (fVar 1)) (fC (.int 1))) fNil)))) (gN 3) [.bag b, .dat (folkD fs), .own [], .un, .un, .un, .un] = some (.nx [.bag b2, .dat (folkD fs), .own [], .dat (.list ((gs.take r.toNat).map encF)), .un, .un, .un]) := by
    have hd : dLen (folkD fs) = some (.int (fs.map encF).length) := rfl
    simp only [e_sAsg, e_fSl, e_fCallB, e_fCons, e_fNil, e_fVar, e_fNoPart, e_fPart, e_fOp, e_fUn, e_fC, e_gN, e_orF, fI0, ownAt, setOwn, EV.cont, EV.with, List.getElem?_cons_zero, List.getElem?_cons_succ, List.set_cons_zero, List.set_cons_succ, hd, h1, h2, dSl, cut_to _ hr0, List.map_take]
  unfold fn__law_leaps b__law_leaps
  simp only [runB, List.map_cons, List.map_nil, List.cons_append, List.nil_append, List.replicate_succ, List.replicate_zero]
  rw [seq_of (δ1 := [.bag b, .dat (folkD fs), .own [], .un, .un, .un, .un]) rfl, seq_of s2, seq_of hW]
  rfl
end Lc
set_option exponentiation.threshold 10000
namespace Lc
open PySem L2 Evl RZ Sm
/-! ### the bag -/
theorem bag_ok (ns : List Int) {k : Int} (h0 : 0 ≤ k) (h1 : k ≤ 40) : ∃ b, fn__law_bag [scrD ns, .int k] = some b ∧ Bg b := by
  have hlen : dLen (scrD ns) = some (.int (ns.length : Nat)) := by
    show some (PyData.int ((ns.map fun n => (PyData.int n, PyData.none)).length : Nat)) = _
    rw [List.length_map]
  have hix : ∀ j : Nat, (hj : j < ns.length) → dIx (scrD ns) (.int (j : Int)) = some (.int ns[j]) := fun j hj => by
    show atI ((ns.map fun n => (PyData.int n, PyData.none)).map (·.1)) (j : Int) = _
    rw [List.map_map]
    refine atI_nat ?_
    rw [List.getElem?_map, List.getElem?_eq_getElem hj]
    rfl
  have hp : cPowB 10 18 = true := by decide +kernel
  have e18 : (10 : Int) ^ (18 : Int).toNat = 1000000000000000000 := by decide
  have fin : ∀ cell : Int, 0 ≤ cell → ∃ b, (match sSeq (sIf (fTest (fOp dLt (fVar 2) (fOp dPow (fC (.int 10)) (fC (.int 18))))) (sRetL (fLst (fCons (fC (.int 0)) (fCons (fOp dAdd (fC (.int 1)) (fOp dMod (fOp dAdd (fOp dMul (fVar 2) (fC (.int 7919))) (fOp dMul (fC (.int 104729)) (fVar 1))) (fC (.int 2147483646)))) fNil)))) sNx)
      (sRetL (fLst (fCons (fVar 2) (fCons (fOp dAdd (fC (.int 1)) (fOp dMod (fOp dAdd (fVar 2) (fVar 1)) (fC (.int 2147483646)))) fNil)))) [.dat (scrD ns), .dat (.int k), .dat (.int cell)] with
      | some (.rl rs _) => some rs
      | _ => none) = some b ∧ Bg b := fun cell hc => by
    by_cases hs : cell < 1000000000000000000
    · have m1 : cMulB cell 7919 = true := mulB (Nat.lt_of_lt_of_le (show cell.natAbs < 2 ^ 60 by omega) (Nat.pow_le_pow_right (by decide) (by omega))) (pow20 (by decide) 8000 (by omega))
      have m2 : cMulB 104729 k = true := mulB (pow20 (by decide) 8000 (by omega)) (pow20 (by omega) 8000 (by omega))
      have m3 := modB (i := cell * 7919 + 104729 * k) (j := 2147483646) (by decide)
      have r1 : 0 ≤ (cell * 7919 + 104729 * k) % 2147483646 := Int.emod_nonneg _ (by decide)
      have r2 : (cell * 7919 + 104729 * k) % 2147483646 < 2147483646 := Int.emod_lt_of_pos _ (by decide)
      refine ⟨[.int 0, .int (1 + (cell * 7919 + 104729 * k) % 2147483646)], ?_, _, _, rfl, by decide, by omega, by omega⟩
      simp only [e_fCallD, e_fCallLD, e_fCallO, e_fAddL, e_fZipB, e_fListZip, e_sOwnD, e_fNewD, e_fDictD, e_sDPutO, e_fDGetO, e_fDGet2, e_sFrzD, e_sPar3, e_fVar, e_fC, e_fOp, e_fUn, e_fNil, e_fCons, e_fTup, e_fLst, e_fOfL, e_fTest, e_fAnd, e_fOr, e_fNot, e_fBool, e_fIf, e_fChain, e_fVarB, e_fUnL, e_fNoPart, e_fPart, e_fSl, e_gN, e_gNl, e_gCs, e_gTp, e_fZip, e_fYes, e_sNx, e_sSeq, e_sAsg, e_sOwn, e_sApp, e_sExt, e_sIns, e_sSetIx, e_fIxO, e_fSlO, e_sRet, e_sRetL, e_sRetO, e_sFrz, e_sDrop, e_sIf, e_sPar, e_fCall, e_fCallL, e_fCallB, e_sParO, e_fOpO, e_fItems, e_fRange, e_fMin, e_orF, fI0, fI, fS0, dNeg, dAbs, dLen, dSum, dTuple, ix_t0, ix_t1, ix_t2, ix_l0, ix_l1, ownAt, setOwn, EV.cont, EV.with, seqOf, itemsOf, List.map_cons, List.map_nil, List.cons_append, List.nil_append, List.replicate_succ, List.replicate_zero, List.getElem?_cons_zero, List.getElem?_cons_succ, List.getElem?_nil, List.set_cons_zero, List.set_cons_succ, List.length_cons, List.length_nil, hp, if_true, e18, hs, decide_true, m1, m2, m3]
      rw [if_pos (by decide)]
    · have m3 := modB (i := cell + k) (j := 2147483646) (by decide)
      have r1 : 0 ≤ (cell + k) % 2147483646 := Int.emod_nonneg _ (by decide)
      have r2 : (cell + k) % 2147483646 < 2147483646 := Int.emod_lt_of_pos _ (by decide)
      refine ⟨[.int cell, .int (1 + (cell + k) % 2147483646)], ?_, _, _, rfl, hc, by omega, by omega⟩
      simp only [e_fCallD, e_fCallLD, e_fCallO, e_fAddL, e_fZipB, e_fListZip, e_sOwnD, e_fNewD, e_fDictD, e_sDPutO, e_fDGetO, e_fDGet2, e_sFrzD, e_sPar3, e_fVar, e_fC, e_fOp, e_fUn, e_fNil, e_fCons, e_fTup, e_fLst, e_fOfL, e_fTest, e_fAnd, e_fOr, e_fNot, e_fBool, e_fIf, e_fChain, e_fVarB, e_fUnL, e_fNoPart, e_fPart, e_fSl, e_gN, e_gNl, e_gCs, e_gTp, e_fZip, e_fYes, e_sNx, e_sSeq, e_sAsg, e_sOwn, e_sApp, e_sExt, e_sIns, e_sSetIx, e_fIxO, e_fSlO, e_sRet, e_sRetL, e_sRetO, e_sFrz, e_sDrop, e_sIf, e_sPar, e_fCall, e_fCallL, e_fCallB, e_sParO, e_fOpO, e_fItems, e_fRange, e_fMin, e_orF, fI0, fI, fS0, dNeg, dAbs, dLen, dSum, dTuple, ix_t0, ix_t1, ix_t2, ix_l0, ix_l1, ownAt, setOwn, EV.cont, EV.with, seqOf, itemsOf, List.map_cons, List.map_nil, List.cons_append, List.nil_append, List.replicate_succ, List.replicate_zero, List.getElem?_cons_zero, List.getElem?_cons_succ, List.getElem?_nil, List.set_cons_zero, List.set_cons_succ, List.length_cons, List.length_nil, hp, if_true, e18, hs, decide_false, m3]
      rw [if_pos (by decide)]
  unfold fn__law_bag b__law_bag
  simp only [runL, List.map_cons, List.map_nil, List.cons_append, List.nil_append, List.replicate_succ, List.replicate_zero]
  rw [seq_of (δ1 := [.dat (scrD ns), .dat (.int k), .dat (.int 0)]) rfl]
  by_cases hk : k < (ns.length : Int)
  · obtain ⟨j, rfl⟩ := Int.eq_ofNat_of_zero_le h0
    have hj : j < ns.length := by omega
    have hx := hix j hj
    have s2 : sIf (fTest (fOp dLt (fVar 1) (fUn dLen (fVar 0)))) (sAsg (fUn dAbs (fOp dIx (fVar 0) (fVar 1))) (gN 2)) sNx [.dat (scrD ns), .dat (.int (j : Int)), .dat (.int 0)] = some (.nx [.dat (scrD ns), .dat (.int (j : Int)), .dat (.int (if ns[j] < 0 then -ns[j] else ns[j]))]) := by
      simp only [e_sIf, e_fTest, e_fOp, e_fVar, e_fUn, e_orF, fI0, e_sAsg, e_gN, dAbs, List.getElem?_cons_zero, List.getElem?_cons_succ, List.set_cons_zero, List.set_cons_succ, hlen, hk, decide_true, hx]
    rw [seq_of s2]
    exact fin _ (by split <;> omega)
  · have s2 : sIf (fTest (fOp dLt (fVar 1) (fUn dLen (fVar 0)))) (sAsg (fUn dAbs (fOp dIx (fVar 0) (fVar 1))) (gN 2)) sNx [.dat (scrD ns), .dat (.int k), .dat (.int 0)] = some (.nx [.dat (scrD ns), .dat (.int k), .dat (.int 0)]) := by
      simp only [e_sIf, e_fTest, e_fOp, e_fVar, e_fUn, e_orF, fI0, e_sNx, List.getElem?_cons_zero, List.getElem?_cons_succ, hlen, hk, decide_false]
    rw [seq_of s2]
    exact fin 0 (by decide)
/-! ### leapers -/
def srt (xs : List (Str × Rat)) : List (Str × Rat) := xs.mergeSort fun a b => leD (encO a) (encO b)
theorem srt_perm (xs : List (Str × Rat)) : (srt xs).Perm xs := List.mergeSort_perm _ _
theorem sorted_outs (xs : List (Str × Rat)) (h : ∀ p, p ∈ xs → Nm p.1) : dSorted (.list (xs.map encO)) = some ((srt xs).map encO) := sorted_enc encO xs (fun x _ y _ => by
  show PySem.W.alike (.tuple [.str x.1, .tuple [.int x.2.num, .int x.2.den]]) (.tuple [.str y.1, .tuple [.int y.2.num, .int y.2.den]]) = true
  simp [PySem.W.alike, PySem.W.alikeAll]) (fun x _ => rfl) fun x hx => (sh_encO (h x hx)).mono (by omega)
theorem outs_names (c : Int) : ∀ (lss : List (List Lp)) (fs : List Fk) (q : Rat), (outs c fs q lss).map (·.1) = namesOf lss
  | [], _, _ => rfl
  | ls :: r, fs, q => by
    rw [outs_cons, List.map_append, outs_names c r]
    show _ = (ls.map (·.1)) ++ namesOf r
    congr 1
    unfold own
    rw [List.map_map]
    rfl
theorem sum_len : ∀ lss : List (List Lp), (lss.map List.length).sum = (namesOf lss).length
  | [] => rfl
  | ls :: r => by
    show ls.length + (r.map List.length).sum = ((ls.map (·.1)) ++ namesOf r).length
    rw [List.length_append, List.length_map, sum_len r]
theorem rest_refl (F : List Fk) : Rest F F := fun n hn => ⟨hn, rfl⟩
theorem leapers_eq {c : Int} {fs : List Fk} {q : Rat} {lss : List (List Lp)} (hc : 1 ≤ c ∧ c ≤ 1000) (hf : OkF fs) (hl : OkLs fs lss) (hq : Bd 100 q) (hn : lss.length ≤ 7) (h7 : (namesOf lss).length ≤ 7) (hnm : ∀ n, n ∈ namesOf lss → Nm n) : fn_leapers [.int c, folkD fs, frD q, .list (lss.map onceD)] = some ((srt (outs c fs q lss)).map encO) := by
  obtain ⟨x', y', h⟩ := leapers_loop hc hf (frD q) (.list (lss.map onceD)) lss fs q 100 [] .un .un hf (rest_refl fs) hl hq (by omega) (by rw [List.length_nil, sum_len]; omega)
  have hs := speeds_eq hc hf hl hq hn
  have hz : fZip (fOfL (fCallL fn_speeds (fCons (fVar 0) (fCons (fVar 1) (fCons (fVar 2) (fCons (fVar 3) fNil)))))) (fVar 3) [.dat (.int c), .dat (folkD fs), .dat (frD q), .dat (.list (lss.map onceD)), .dat (leapD fs), .own [], .un, .un] = some (((go c fs q lss).zip lss).map (fun p => .tuple [frD p.1, onceD p.2]), [.dat (.int c), .dat (folkD fs), .dat (frD q), .dat (.list (lss.map onceD)), .dat (leapD fs), .own [], .un, .un]) := by
    simp only [e_fCallD, e_fCallLD, e_fCallO, e_fAddL, e_fZipB, e_fListZip, e_sOwnD, e_fNewD, e_fDictD, e_sDPutO, e_fDGetO, e_fDGet2, e_sFrzD, e_sPar3, e_fVar, e_fC, e_fOp, e_fUn, e_fNil, e_fCons, e_fTup, e_fLst, e_fOfL, e_fTest, e_fAnd, e_fOr, e_fNot, e_fBool, e_fIf, e_fChain, e_fVarB, e_fUnL, e_fNoPart, e_fPart, e_fSl, e_gN, e_gNl, e_gCs, e_gTp, e_fZip, e_fYes, e_sNx, e_sSeq, e_sAsg, e_sOwn, e_sApp, e_sExt, e_sIns, e_sSetIx, e_fIxO, e_fSlO, e_sRet, e_sRetL, e_sRetO, e_sFrz, e_sDrop, e_sIf, e_sPar, e_fCall, e_fCallL, e_fCallB, e_sParO, e_fOpO, e_fItems, e_fRange, e_fMin, e_orF, fI0, fI, fS0, dNeg, dAbs, dLen, dSum, dTuple, ix_t0, ix_t1, ix_t2, ix_l0, ix_l1, ownAt, setOwn, EV.cont, EV.with, seqOf, itemsOf, List.map_cons, List.map_nil, List.cons_append, List.nil_append, List.replicate_succ, List.replicate_zero, List.getElem?_cons_zero, List.getElem?_cons_succ, List.getElem?_nil, List.set_cons_zero, List.set_cons_succ, List.length_cons, List.length_nil, hs, zipD, zip_map (c := c)]
  have hF := sFor_of hz h
  rw [List.nil_append] at hF
  have hso := sorted_outs (outs c fs q lss) fun p hp => hnm p.1 (by rw [← outs_names c lss fs q]; exact List.mem_map.mpr ⟨p, hp, rfl⟩)
  unfold fn_leapers b_leapers
  simp only [runL, List.map_cons, List.map_nil, List.cons_append, List.nil_append, List.replicate_succ, List.replicate_zero]
  have s1 : sAsg (fCall fn_leap_by_name (fCons (fVar 1) fNil)) (gN 4) [.dat (.int c), .dat (folkD fs), .dat (frD q), .dat (.list (lss.map onceD)), .un, .un, .un, .un] = some (.nx [.dat (.int c), .dat (folkD fs), .dat (frD q), .dat (.list (lss.map onceD)), .dat (leapD fs), .un, .un, .un]) := by
    simp only [e_fCallD, e_fCallLD, e_fCallO, e_fAddL, e_fZipB, e_fListZip, e_sOwnD, e_fNewD, e_fDictD, e_sDPutO, e_fDGetO, e_fDGet2, e_sFrzD, e_sPar3, e_fVar, e_fC, e_fOp, e_fUn, e_fNil, e_fCons, e_fTup, e_fLst, e_fOfL, e_fTest, e_fAnd, e_fOr, e_fNot, e_fBool, e_fIf, e_fChain, e_fVarB, e_fUnL, e_fNoPart, e_fPart, e_fSl, e_gN, e_gNl, e_gCs, e_gTp, e_fZip, e_fYes, e_sNx, e_sSeq, e_sAsg, e_sOwn, e_sApp, e_sExt, e_sIns, e_sSetIx, e_fIxO, e_fSlO, e_sRet, e_sRetL, e_sRetO, e_sFrz, e_sDrop, e_sIf, e_sPar, e_fCall, e_fCallL, e_fCallB, e_sParO, e_fOpO, e_fItems, e_fRange, e_fMin, e_orF, fI0, fI, fS0, dNeg, dAbs, dLen, dSum, dTuple, ix_t0, ix_t1, ix_t2, ix_l0, ix_l1, ownAt, setOwn, EV.cont, EV.with, seqOf, itemsOf, List.map_cons, List.map_nil, List.cons_append, List.nil_append, List.replicate_succ, List.replicate_zero, List.getElem?_cons_zero, List.getElem?_cons_succ, List.getElem?_nil, List.set_cons_zero, List.set_cons_succ, List.length_cons, List.length_nil, byname_eq hf]
  rw [seq_of s1, seq_of (δ1 := [.dat (.int c), .dat (folkD fs), .dat (frD q), .dat (.list (lss.map onceD)), .dat (leapD fs), .own [], .un, .un]) rfl, seq_of hF]
  simp only [e_fCallD, e_fCallLD, e_fCallO, e_fAddL, e_fZipB, e_fListZip, e_sOwnD, e_fNewD, e_fDictD, e_sDPutO, e_fDGetO, e_fDGet2, e_sFrzD, e_sPar3, e_fVar, e_fC, e_fOp, e_fUn, e_fNil, e_fCons, e_fTup, e_fLst, e_fOfL, e_fTest, e_fAnd, e_fOr, e_fNot, e_fBool, e_fIf, e_fChain, e_fVarB, e_fUnL, e_fNoPart, e_fPart, e_fSl, e_gN, e_gNl, e_gCs, e_gTp, e_fZip, e_fYes, e_sNx, e_sSeq, e_sAsg, e_sOwn, e_sApp, e_sExt, e_sIns, e_sSetIx, e_fIxO, e_fSlO, e_sRet, e_sRetL, e_sRetO, e_sFrz, e_sDrop, e_sIf, e_sPar, e_fCall, e_fCallL, e_fCallB, e_sParO, e_fOpO, e_fItems, e_fRange, e_fMin, e_orF, fI0, fI, fS0, dNeg, dAbs, dLen, dSum, dTuple, ix_t0, ix_t1, ix_t2, ix_l0, ix_l1, ownAt, setOwn, EV.cont, EV.with, seqOf, itemsOf, List.map_cons, List.map_nil, List.cons_append, List.nil_append, List.replicate_succ, List.replicate_zero, List.getElem?_cons_zero, List.getElem?_cons_succ, List.getElem?_nil, List.set_cons_zero, List.set_cons_succ, List.length_cons, List.length_nil, hso]
/-! ### weights times speeds never change -/
def sumR : List Rat → Rat
  | [] => 0
  | x :: xs => x + sumR xs
theorem sumR_app : ∀ xs ys : List Rat, sumR (xs ++ ys) = sumR xs + sumR ys
  | [], ys => (Rat.zero_add _).symm
  | x :: xs, ys => by
    show x + sumR (xs ++ ys) = x + sumR xs + sumR ys
    rw [sumR_app xs ys, Rat.add_assoc]
theorem sumR_perm {xs ys : List Rat} (h : xs.Perm ys) : sumR xs = sumR ys := by
  induction h with
  | nil => rfl
  | cons x _ ih =>
    show x + _ = x + _
    rw [ih]
  | swap x y l =>
    show y + (x + sumR l) = x + (y + sumR l)
    rw [← Rat.add_assoc, ← Rat.add_assoc, Rat.add_comm y x]
  | trans _ _ h1 h2 => rw [h1, h2]
def hvy (fs : List Fk) (n : Str) : Int := match entry fs n with
  | some e => e.2.1
  | none => 0
theorem left_wgt (c : Int) (ns : List Str) : ∀ fs : List Fk, wgt c fs = wgt c (left fs ns) + (fs.map fun p => if ns.contains p.1 then p.2.1 else 0).sum
  | [] => by simp [wgt, left]
  | p :: fs => by
    have ih := left_wgt c ns fs
    unfold wgt left at ih ⊢
    rw [List.map_cons, List.map_cons, List.sum_cons, List.sum_cons]
    by_cases h : ns.contains p.1 = true
    · rw [List.filter_cons_of_neg (p := fun p : Fk => !ns.contains p.1) (by simpa using h), if_pos h]
      omega
    · rw [List.filter_cons_of_pos (p := fun p : Fk => !ns.contains p.1) (by simpa using h), if_neg h, List.map_cons, List.sum_cons]
      omega
theorem hvy_sum {fs : List Fk} (hf : (fs.map (·.1)).Nodup) : ∀ (ns : List Str), ns.Nodup → (∀ n, n ∈ ns → n ∈ fs.map (·.1)) → (fs.map fun p => if ns.contains p.1 then p.2.1 else 0).sum = (ns.map (hvy fs)).sum
  | [], _, _ => by
    have z : ∀ l : List Fk, (l.map fun p => if ([] : List Str).contains p.1 then p.2.1 else 0).sum = 0 := fun l => by
      induction l with
      | nil => rfl
      | cons a l ih =>
        rw [List.map_cons, List.sum_cons, ih]
        rfl
    exact z fs
  | n :: ns, hn, hm => by
    rw [List.nodup_cons] at hn
    have ih := hvy_sum hf ns hn.2 fun m hm' => hm m (List.mem_cons_of_mem _ hm')
    obtain ⟨e, he, _, _⟩ := entry_some (hm n List.mem_cons_self)
    have hs := single_sum n 1 (fs.map fun p => (p.1, p.2.1, 1)) (e.1, e.2.1, 1) (by rw [List.map_map]; exact hf) (by
      unfold entry at he ⊢
      rw [List.find?_map]
      show (fs.find? fun p => decide (p.1 = n)).map _ = _
      rw [he]
      rfl)
    rw [List.map_map] at hs
    rw [List.map_cons, List.sum_cons, ← ih]
    have hv : ∀ p : Fk, (if (n :: ns).contains p.1 then p.2.1 else 0) = (if p.1 = n then 1 * p.2.1 * 1 else 0) + (if ns.contains p.1 then p.2.1 else 0) := fun p => by
      by_cases hp : p.1 = n
      · have h1 : (n :: ns).contains p.1 = true := by simp [hp]
        have h2 : ¬ ns.contains p.1 = true := by
          rw [hp]
          simpa using hn.1
        rw [if_pos h1, if_pos hp, if_neg h2]
        omega
      · have h1 : (n :: ns).contains p.1 = ns.contains p.1 := by simp [hp]
        rw [h1, if_neg hp]
        omega
    rw [List.map_congr_left (fun p _ => hv p), sum_add]
    have hs' : (fs.map fun p => if p.1 = n then 1 * p.2.1 * 1 else 0).sum = 1 * e.2.1 * 1 := hs
    rw [hs']
    unfold hvy
    rw [he]
    dsimp only
    omega
end Lc
set_option exponentiation.threshold 10000
namespace Lc
open PySem L2 Evl RZ Sm
/-! ### conservation -/
def lastQ : Rat → List Rat → Rat
  | q, [] => q
  | _, x :: xs => lastQ x xs
def term (F : List Fk) (p : Str × Rat) : Rat := p.2 * ((hvy F p.1 : Int) : Rat)
theorem left_left (fs : List Fk) (ns ms : List Str) : left (left fs ns) ms = left fs (ns ++ ms) := by
  unfold left
  rw [List.filter_filter]
  refine List.filter_congr fun p _ => ?_
  rw [Bool.eq_iff_iff]
  simp
  constructor
  · rintro ⟨h1, h2⟩
    exact ⟨h2, h1⟩
  · rintro ⟨h1, h2⟩
    exact ⟨h2, h1⟩
theorem left_nil (fs : List Fk) : left fs [] = fs := by
  unfold left
  exact List.filter_eq_self.mpr fun p _ => rfl
theorem cast_sum (xs : List Int) : ((xs.sum : Int) : Rat) = sumR (xs.map fun x : Int => ((x : Int) : Rat)) := by
  induction xs with
  | nil => rfl
  | cons x xs ih =>
    rw [List.sum_cons, Rat.intCast_add, ih]
    rfl
theorem sumR_mul (a : Rat) (xs : List Rat) : a * sumR xs = sumR (xs.map fun x => a * x) := by
  induction xs with
  | nil => exact Rat.mul_zero a
  | cons x xs ih =>
    show a * (x + sumR xs) = a * x + sumR _
    rw [Rat.mul_add, ih]
theorem sumR_add {α : Type} (f g : α → Rat) (xs : List α) : sumR (xs.map fun x => f x + g x) = sumR (xs.map f) + sumR (xs.map g) := by
  induction xs with
  | nil => exact (Rat.add_zero 0).symm
  | cons x xs ih =>
    show f x + g x + sumR _ = (f x + sumR _) + (g x + sumR _)
    rw [ih]
    grind
theorem step_keeps {c : Int} {F fs : List Fk} {ls : List Lp} {q : Rat} (hc : 1 ≤ c ∧ c ≤ 1000) (hf : OkF fs) (hl : OkL fs ls) (hr : Rest F fs) : dr c fs q ls * ((wgt c (left fs (ls.map (·.1))) : Int) : Rat) + sumR ((own fs (dr c fs q ls) ls).map (term F)) = q * ((wgt c fs : Int) : Rat) := by
  have hw := (wgt_le c hc fs hf.hv).1
  have h0 : 0 < wgt c fs := by omega
  generalize hq' : dr c fs q ls = q'
  have e1 : q' * ((wgt c fs : Int) : Rat) = q * ((wgt c fs : Int) : Rat) + ((-push fs ls : Int) : Rat) := by
    rw [← hq']
    unfold dr
    rw [mk_split _ h0, Rat.add_mul, Rat.mul_assoc, Rat.mul_comm (mkRat 1 _), mk_inv h0, Rat.mul_one]
  have e2 : wgt c fs = wgt c (left fs (ls.map (·.1))) + (ls.map fun p => hvy fs p.1).sum := by
    have := left_wgt c (ls.map (·.1)) fs
    rw [hvy_sum hf.nd (ls.map (·.1)) hl.nd (fun n hn => by
      obtain ⟨p, hp, rfl⟩ := List.mem_map.mp hn
      exact hl.nm p hp), List.map_map] at this
    exact this
  have e3 : sumR ((own fs q' ls).map (term F)) = q' * (((ls.map fun p => hvy fs p.1).sum : Int) : Rat) + ((push fs ls : Int) : Rat) := by
    rw [push_swap hf.nd ls hl.nd hl.nm, cast_sum, cast_sum, sumR_mul, List.map_map, List.map_map, List.map_map, ← sumR_add]
    unfold own
    rw [List.map_map]
    congr 1
    refine List.map_congr_left fun p hp => ?_
    obtain ⟨e, he, _, _⟩ := entry_some (hl.nm p hp)
    have hh : hvy F p.1 = hvy fs p.1 := by
      unfold hvy
      rw [(hr p.1 (hl.nm p hp)).2]
    show (q' + ((p.2 * leapOf fs p.1 : Int) : Rat)) * ((hvy F p.1 : Int) : Rat) = q' * ((hvy fs p.1 : Int) : Rat) + ((tm fs p : Int) : Rat)
    rw [hh, Rat.add_mul, ← Rat.intCast_mul]
    congr 2
    unfold leapOf hvy tm
    rw [he]
    dsimp only
    rw [Int.mul_comm, Int.mul_comm p.2, ← Int.mul_assoc]
  rw [e3]
  have e4 : ((wgt c fs : Int) : Rat) = ((wgt c (left fs (ls.map (·.1))) : Int) : Rat) + (((ls.map fun p => hvy fs p.1).sum : Int) : Rat) := by
    rw [← Rat.intCast_add, ← e2]
  rw [Rat.intCast_neg] at e1
  have e5 : q' * ((wgt c fs : Int) : Rat) = q' * ((wgt c (left fs (ls.map (·.1))) : Int) : Rat) + q' * (((ls.map fun p => hvy fs p.1).sum : Int) : Rat) := by
    rw [e4, Rat.mul_add]
  grind
theorem keeps {c : Int} (hc : 1 ≤ c ∧ c ≤ 1000) (F : List Fk) : ∀ (lss : List (List Lp)) (fs : List Fk) (q : Rat), OkF fs → OkLs fs lss → Rest F fs → lastQ q (go c fs q lss) * ((wgt c (left fs (namesOf lss)) : Int) : Rat) + sumR ((outs c fs q lss).map (term F)) = q * ((wgt c fs : Int) : Rat)
  | [], fs, q, _, _, _ => by
    show q * ((wgt c (left fs []) : Int) : Rat) + 0 = _
    rw [left_nil, Rat.add_zero]
  | ls :: r, fs, q, hf, hl, hr => by
    have ih := keeps hc F r (left fs (ls.map (·.1))) (dr c fs q ls) (left_ok hf _) hl.2 (hr.left _)
    have hs := step_keeps (q := q) hc hf hl.1 hr
    rw [outs_cons, List.map_append, sumR_app, go_cons]
    rw [left_left] at ih
    show lastQ (dr c fs q ls) (go c (left fs (ls.map (·.1))) (dr c fs q ls) r) * ((wgt c (left fs (ls.map (·.1) ++ namesOf r)) : Int) : Rat) + (sumR ((own fs (dr c fs q ls) ls).map (term F)) + sumR ((outs c (left fs (ls.map (·.1))) (dr c fs q ls) r).map (term F))) = _
    rw [← hs, ← ih]
    grind
theorem go_bd {c : Int} (hc : 1 ≤ c ∧ c ≤ 1000) : ∀ (lss : List (List Lp)) (fs : List Fk) (q : Rat) (n : Nat), OkF fs → OkLs fs lss → Bd n q → Bd (n + 21 * lss.length) (lastQ q (go c fs q lss))
  | [], _, _, _, _, _, h => h
  | ls :: r, fs, q, n, hf, hl, hq => by
    have := go_bd hc r (left fs (ls.map (·.1))) (dr c fs q ls) (n + 21) (left_ok hf _) hl.2 (dr_bd hc hf hl.1.wy hq)
    rw [List.length_cons, show n + 21 * (r.length + 1) = n + 21 + 21 * r.length by omega]
    exact this
theorem outs_bd {c : Int} (hc : 1 ≤ c ∧ c ≤ 1000) : ∀ (lss : List (List Lp)) (fs : List Fk) (q : Rat) (n : Nat), OkF fs → OkLs fs lss → Bd n q → ∀ p, p ∈ outs c fs q lss → Bd (n + 21 * lss.length + 8) p.2
  | [], _, _, _, _, _, _, p, hp => by simp [outs] at hp
  | ls :: r, fs, q, n, hf, hl, hq, p, hp => by
    have hb := dr_bd hc hf hl.1.wy hq
    rw [outs_cons] at hp
    rw [List.length_cons]
    rcases List.mem_append.mp hp with h | h
    · unfold own at h
      obtain ⟨x, hx, rfl⟩ := List.mem_map.mp h
      obtain ⟨e, _, _, hn, _, _⟩ := leap_le hf (hl.1.wy x hx) (hl.1.nm x hx)
      have := bd_add hb (bd_int (n := 7) (i := x.2 * leapOf fs x.1) (by
        have : (2 : Nat) ^ 7 = 128 := by decide
        omega) (by omega))
      exact bd_le this (by omega)
    · have := outs_bd hc r (left fs (ls.map (·.1))) (dr c fs q ls) (n + 21) (left_ok hf _) hl.2 hb p h
      exact bd_le this (by omega)
end Lc
set_option exponentiation.threshold 10000
set_option maxHeartbeats 1000000
namespace Lc
open PySem L2 Evl RZ Sm
/-! ### data that a law may make: how deep, how long -/
def asc (s : Str) : Prop := ∀ c, c ∈ s.cps.toList → c < 128
def leafOk (t : Nat) : PyData → Prop
  | .none => True
  | .bool _ => True
  | .int i => i.natAbs ≤ 2 ^ 100 + 1000 * t
  | .str s => s.length ≤ 40 * 3 ^ t ∧ asc s
  | _ => False
def Nc : Nat → Nat → PyData → Prop
  | 0, t, d => leafOk t d
  | k + 1, t, .list ds => ds.length ≤ 20 + t ∧ ∀ x, x ∈ ds → Nc k t x
  | k + 1, t, .tuple ds => ds.length ≤ 20 + t ∧ ∀ x, x ∈ ds → Nc k t x
  | _ + 1, t, d => leafOk t d
theorem nc_leaf {k t : Nat} {d : PyData} (h : leafOk t d) : Nc k t d := by
  cases k with
  | zero => exact h
  | succ k => cases d <;> first | exact h | exact h.elim
theorem nc_str {k t : Nat} {s : Str} (h : Nc k t (.str s)) : s.length ≤ 40 * 3 ^ t ∧ asc s := by
  cases k <;> exact h
theorem nc_int {k t : Nat} {i : Int} (h : Nc k t (.int i)) : i.natAbs ≤ 2 ^ 100 + 1000 * t := by
  cases k <;> exact h
theorem nc_lst {k t : Nat} {ds : List PyData} (h : Nc k t (.list ds)) : ∃ j, k = j + 1 ∧ ds.length ≤ 20 + t ∧ ∀ x, x ∈ ds → Nc j t x := by
  cases k with
  | zero => exact h.elim
  | succ k => exact ⟨k, rfl, h⟩
theorem nc_tup {k t : Nat} {ds : List PyData} (h : Nc k t (.tuple ds)) : ∃ j, k = j + 1 ∧ ds.length ≤ 20 + t ∧ ∀ x, x ∈ ds → Nc j t x := by
  cases k with
  | zero => exact h.elim
  | succ k => exact ⟨k, rfl, h⟩
theorem nc_dic {k t : Nat} {ds : List (PyData × PyData)} (h : Nc k t (.dict ds)) : False := by
  cases k <;> exact h.elim
theorem p3 {t u : Nat} (h : t ≤ u) : 40 * 3 ^ t ≤ 40 * 3 ^ u := Nat.mul_le_mul_left _ (Nat.pow_le_pow_right (by decide) h)
theorem leaf_mono {t u : Nat} (h : t ≤ u) {d : PyData} (hd : leafOk t d) : leafOk u d := by
  cases d with
  | str s => exact ⟨Nat.le_trans hd.1 (p3 h), hd.2⟩
  | int i =>
    show i.natAbs ≤ 2 ^ 100 + 1000 * u
    have : i.natAbs ≤ 2 ^ 100 + 1000 * t := hd
    omega
  | _ => exact hd
theorem nc_mono : ∀ {k j t u : Nat} {d : PyData}, k ≤ j → t ≤ u → Nc k t d → Nc j u d
  | 0, j, t, u, d, _, hu, h => nc_leaf (leaf_mono hu h)
  | k + 1, 0, t, u, d, hk, _, _ => absurd hk (by omega)
  | k + 1, j + 1, t, u, d, hk, hu, h => by
    cases d with
    | list ds => exact ⟨Nat.le_trans h.1 (by omega), fun x hx => nc_mono (by omega) hu (h.2 x hx)⟩
    | tuple ds => exact ⟨Nat.le_trans h.1 (by omega), fun x hx => nc_mono (by omega) hu (h.2 x hx)⟩
    | _ => exact leaf_mono hu h
theorem asc_nm {s : Str} (h : asc s) : Nm s := by
  show (s.cps.all fun c => decide (c < 0x110000)) = true
  rw [← Array.all_toList, List.all_eq_true]
  intro c hc
  have := h c hc
  exact decide_eq_true (by omega)
/-- what is made can be laid out, and is not too deep -/
theorem nc_sh : ∀ {k t : Nat} {d : PyData}, Nc k t d → Sh k d
  | 0, t, d, h => by
    cases d with
    | str s => exact sh_str 0 (asc_nm h.2)
    | none => exact ⟨by simp [PyData.canLay0], by simp [PyData.depth]⟩
    | bool b => exact ⟨by simp [PyData.canLay0], by simp [PyData.depth]⟩
    | int i => exact sh_int 0 i
    | _ => exact h.elim
  | k + 1, t, d, h => by
    cases d with
    | str s => exact sh_str _ (asc_nm h.2)
    | none => exact ⟨by simp [PyData.canLay0], by simp [PyData.depth]⟩
    | bool b => exact ⟨by simp [PyData.canLay0], by simp [PyData.depth]⟩
    | int i => exact sh_int _ i
    | list ds => exact sh_lst fun x hx => nc_sh (h.2 x hx)
    | tuple ds => exact sh_tup fun x hx => nc_sh (h.2 x hx)
    | dict _ => exact h.elim
/-! ### whole numbers within bounds -/
def wholeB : PyData → Bool
  | .int _ => true
  | _ => false
def withB (lo hi : Int) : PyData → Bool
  | .int i => decide (lo ≤ i) && decide (i ≤ hi)
  | _ => false
theorem whole_eq {k t : Nat} {d : PyData} (h : Nc k t d) : fn_is_whole [d] = some (.bool (wholeB d)) := by
  cases d <;> first | rfl | exact (nc_dic h).elim
theorem lwhole_eq {k t : Nat} {d : PyData} (h : Nc k t d) : fn__law_whole [d] = some (.bool (wholeB d)) := by
  cases d <;> first | rfl | exact (nc_dic h).elim
theorem within_eq {k t : Nat} {d : PyData} (h : Nc k t d) (lo hi : Int) : fn_is_whole_within [d, .int lo, .int hi] = some (.bool (withB lo hi d)) := by
  have hw := whole_eq h
  unfold fn_is_whole_within b_is_whole_within
  cases d with
  | int i =>
    simp only [runD, e_fCallD, e_fCallLD, e_fCallO, e_fAddL, e_fZipB, e_fListZip, e_sOwnD, e_fNewD, e_fDictD, e_sDPutO, e_fDGetO, e_fDGet2, e_sFrzD, e_sPar3, e_fVar, e_fC, e_fOp, e_fUn, e_fNil, e_fCons, e_fTup, e_fLst, e_fOfL, e_fTest, e_fAnd, e_fOr, e_fNot, e_fBool, e_fIf, e_fChain, e_fVarB, e_fUnL, e_fNoPart, e_fPart, e_fSl, e_gN, e_gNl, e_gCs, e_gTp, e_fZip, e_fYes, e_sNx, e_sSeq, e_sAsg, e_sOwn, e_sApp, e_sExt, e_sIns, e_sSetIx, e_fIxO, e_fSlO, e_sRet, e_sRetL, e_sRetO, e_sFrz, e_sDrop, e_sIf, e_sPar, e_fCall, e_fCallL, e_fCallB, e_sParO, e_fOpO, e_fItems, e_fRange, e_fMin, e_orF, fI0, fI, fS0, dNeg, dAbs, dLen, dSum, dTuple, ix_t0, ix_t1, ix_t2, ix_l0, ix_l1, ownAt, setOwn, EV.cont, EV.with, seqOf, itemsOf, List.map_cons, List.map_nil, List.cons_append, List.nil_append, List.replicate_succ, List.replicate_zero, List.getElem?_cons_zero, List.getElem?_cons_succ, List.getElem?_nil, List.set_cons_zero, List.set_cons_succ, List.length_cons, List.length_nil, hw, wholeB, withB]
    cases decide (lo ≤ i) <;> rfl
  | dict _ => exact (nc_dic h).elim
  | _ => simp only [runD, e_fCallD, e_fCallLD, e_fCallO, e_fAddL, e_fZipB, e_fListZip, e_sOwnD, e_fNewD, e_fDictD, e_sDPutO, e_fDGetO, e_fDGet2, e_sFrzD, e_sPar3, e_fVar, e_fC, e_fOp, e_fUn, e_fNil, e_fCons, e_fTup, e_fLst, e_fOfL, e_fTest, e_fAnd, e_fOr, e_fNot, e_fBool, e_fIf, e_fChain, e_fVarB, e_fUnL, e_fNoPart, e_fPart, e_fSl, e_gN, e_gNl, e_gCs, e_gTp, e_fZip, e_fYes, e_sNx, e_sSeq, e_sAsg, e_sOwn, e_sApp, e_sExt, e_sIns, e_sSetIx, e_fIxO, e_fSlO, e_sRet, e_sRetL, e_sRetO, e_sFrz, e_sDrop, e_sIf, e_sPar, e_fCall, e_fCallL, e_fCallB, e_sParO, e_fOpO, e_fItems, e_fRange, e_fMin, e_orF, fI0, fI, fS0, dNeg, dAbs, dLen, dSum, dTuple, ix_t0, ix_t1, ix_t2, ix_l0, ix_l1, ownAt, setOwn, EV.cont, EV.with, seqOf, itemsOf, List.map_cons, List.map_nil, List.cons_append, List.nil_append, List.replicate_succ, List.replicate_zero, List.getElem?_cons_zero, List.getElem?_cons_succ, List.getElem?_nil, List.set_cons_zero, List.set_cons_succ, List.length_cons, List.length_nil, hw, wholeB, withB]
theorem lwithin_eq {k t : Nat} {d : PyData} (h : Nc k t d) (lo hi : Int) : fn__law_within [d, .int lo, .int hi] = some (.bool (withB lo hi d)) := by
  unfold fn__law_within b__law_within
  cases d with
  | int i =>
    have i1 : isiD "int" (.int i) = some (.bool true) := rfl
    have i2 : isiD "bool" (.int i) = some (.bool false) := rfl
    simp only [runD, e_fCallD, e_fCallLD, e_fCallO, e_fAddL, e_fZipB, e_fListZip, e_sOwnD, e_fNewD, e_fDictD, e_sDPutO, e_fDGetO, e_fDGet2, e_sFrzD, e_sPar3, e_fVar, e_fC, e_fOp, e_fUn, e_fNil, e_fCons, e_fTup, e_fLst, e_fOfL, e_fTest, e_fAnd, e_fOr, e_fNot, e_fBool, e_fIf, e_fChain, e_fVarB, e_fUnL, e_fNoPart, e_fPart, e_fSl, e_gN, e_gNl, e_gCs, e_gTp, e_fZip, e_fYes, e_sNx, e_sSeq, e_sAsg, e_sOwn, e_sApp, e_sExt, e_sIns, e_sSetIx, e_fIxO, e_fSlO, e_sRet, e_sRetL, e_sRetO, e_sFrz, e_sDrop, e_sIf, e_sPar, e_fCall, e_fCallL, e_fCallB, e_sParO, e_fOpO, e_fItems, e_fRange, e_fMin, e_orF, fI0, fI, fS0, dNeg, dAbs, dLen, dSum, dTuple, ix_t0, ix_t1, ix_t2, ix_l0, ix_l1, ownAt, setOwn, EV.cont, EV.with, seqOf, itemsOf, List.map_cons, List.map_nil, List.cons_append, List.nil_append, List.replicate_succ, List.replicate_zero, List.getElem?_cons_zero, List.getElem?_cons_succ, List.getElem?_nil, List.set_cons_zero, List.set_cons_succ, List.length_cons, List.length_nil, i1, i2, withB, Bool.not_false]
    cases decide (lo ≤ i) <;> rfl
  | dict _ => exact (nc_dic h).elim
  | _ => rfl
theorem cart_eq {k t : Nat} {d : PyData} (h : Nc k t d) : fn_is_cart [d] = some (.bool (withB 1 1000 d)) := by
  have hw := within_eq h 1 1000
  unfold fn_is_cart b_is_cart
  simp only [runD, e_fCallD, e_fCallLD, e_fCallO, e_fAddL, e_fZipB, e_fListZip, e_sOwnD, e_fNewD, e_fDictD, e_sDPutO, e_fDGetO, e_fDGet2, e_sFrzD, e_sPar3, e_fVar, e_fC, e_fOp, e_fUn, e_fNil, e_fCons, e_fTup, e_fLst, e_fOfL, e_fTest, e_fAnd, e_fOr, e_fNot, e_fBool, e_fIf, e_fChain, e_fVarB, e_fUnL, e_fNoPart, e_fPart, e_fSl, e_gN, e_gNl, e_gCs, e_gTp, e_fZip, e_fYes, e_sNx, e_sSeq, e_sAsg, e_sOwn, e_sApp, e_sExt, e_sIns, e_sSetIx, e_fIxO, e_fSlO, e_sRet, e_sRetL, e_sRetO, e_sFrz, e_sDrop, e_sIf, e_sPar, e_fCall, e_fCallL, e_fCallB, e_sParO, e_fOpO, e_fItems, e_fRange, e_fMin, e_orF, fI0, fI, fS0, dNeg, dAbs, dLen, dSum, dTuple, ix_t0, ix_t1, ix_t2, ix_l0, ix_l1, ownAt, setOwn, EV.cont, EV.with, seqOf, itemsOf, List.map_cons, List.map_nil, List.cons_append, List.nil_append, List.replicate_succ, List.replicate_zero, List.getElem?_cons_zero, List.getElem?_cons_succ, List.getElem?_nil, List.set_cons_zero, List.set_cons_succ, List.length_cons, List.length_nil, hw]
def tupB (n : Nat) : PyData → Bool
  | .tuple ds => decide (ds.length = n)
  | _ => false
theorem istup_eq {k t : Nat} {d : PyData} (h : Nc k t d) (n : Nat) : fn_is_tuple_of [d, .int n] = some (.bool (tupB n d)) := by
  cases d with
  | tuple ds =>
    unfold fn_is_tuple_of b_is_tuple_of
    have i1 : isiD "tuple" (.tuple ds) = some (.bool true) := rfl
    simp only [runD, e_fCallD, e_fCallLD, e_fCallO, e_fAddL, e_fZipB, e_fListZip, e_sOwnD, e_fNewD, e_fDictD, e_sDPutO, e_fDGetO, e_fDGet2, e_sFrzD, e_sPar3, e_fVar, e_fC, e_fOp, e_fUn, e_fNil, e_fCons, e_fTup, e_fLst, e_fOfL, e_fTest, e_fAnd, e_fOr, e_fNot, e_fBool, e_fIf, e_fChain, e_fVarB, e_fUnL, e_fNoPart, e_fPart, e_fSl, e_gN, e_gNl, e_gCs, e_gTp, e_fZip, e_fYes, e_sNx, e_sSeq, e_sAsg, e_sOwn, e_sApp, e_sExt, e_sIns, e_sSetIx, e_fIxO, e_fSlO, e_sRet, e_sRetL, e_sRetO, e_sFrz, e_sDrop, e_sIf, e_sPar, e_fCall, e_fCallL, e_fCallB, e_sParO, e_fOpO, e_fItems, e_fRange, e_fMin, e_orF, fI0, fI, fS0, dNeg, dAbs, dLen, dSum, dTuple, ix_t0, ix_t1, ix_t2, ix_l0, ix_l1, ownAt, setOwn, EV.cont, EV.with, seqOf, itemsOf, List.map_cons, List.map_nil, List.cons_append, List.nil_append, List.replicate_succ, List.replicate_zero, List.getElem?_cons_zero, List.getElem?_cons_succ, List.getElem?_nil, List.set_cons_zero, List.set_cons_succ, List.length_cons, List.length_nil, i1]
    show some (PyData.bool (decide ((ds.length : Int) = (n : Int)))) = _
    congr 2
    exact decide_eq_decide.mpr (by omega)
  | dict _ => exact (nc_dic h).elim
  | _ => rfl
end Lc
set_option exponentiation.threshold 10000
set_option maxHeartbeats 1000000
namespace Lc
open PySem L2 Evl RZ Sm
/-! ### names -/
def azB (c : Nat) : Bool := decide (97 ≤ c) && decide (c ≤ 122)
def nameB : PyData → Bool
  | .str s => (decide (1 ≤ s.length) && decide (s.length ≤ 8)) && s.cps.toList.all azB
  | _ => false
def sgn (c : Nat) : PyData := .str ⟨#[c]⟩
theorem lst_lt (a b : Nat) : (([a] : List Nat) < [b]) ↔ a < b := by
  constructor
  · intro h
    rcases List.cons_lt_cons_iff.mp h with z | ⟨_, z⟩
    · exact z
    · exact absurd z (List.not_lt_nil _)
  · intro h
    exact List.cons_lt_cons_iff.mpr (.inl h)
theorem le_a (c : Nat) : dLe (.str "a") (sgn c) = some (.bool (decide (97 ≤ c))) := by
  show some (PyData.bool (!decide (([c] : List Nat) < [97]))) = _
  congr 2
  rw [Bool.eq_iff_iff]
  simp [lst_lt]
theorem le_z (c : Nat) : dLe (sgn c) (.str "z") = some (.bool (decide (c ≤ 122))) := by
  show some (PyData.bool (!decide (([122] : List Nat) < [c]))) = _
  congr 2
  rw [Bool.eq_iff_iff]
  simp [lst_lt]
theorem all_map {α : Type} (f : α → Bool) (xs : List α) : dAll (.list (xs.map fun x => PyData.bool (f x))) = some (.bool (xs.all f)) := by
  show (boolsOf (xs.map fun x => PyData.bool (f x))).map (fun ns => PyData.bool (ns.all id)) = _
  rw [show (xs.map fun x => PyData.bool (f x)) = (xs.map f).map PyData.bool by rw [List.map_map]; rfl, boolsOf_map]
  show some (PyData.bool ((xs.map f).all id)) = _
  rw [List.all_map]
  rfl
theorem name_chain (c : Nat) (d : PyData) : fChain dLe dLe (fC (.str "a")) (fVar 1) (fC (.str "z")) [.dat d, .dat (sgn c)] = some (.bool (azB c), [.dat d, .dat (sgn c)]) := by
  have h1 := le_a c
  have h2 := le_z c
  simp only [e_fChain, e_fC, e_fVar, List.getElem?_cons_zero, List.getElem?_cons_succ, h1, h2]
  unfold azB
  cases decide (97 ≤ c) <;> rfl
theorem name_len {s : Str} (hs : s.length ≤ 100000) : fChain dLe dLe (fC (.int 1)) (fUn dLen (fVar 0)) (fC (.int 8)) [.dat (.str s), .un] = some (.bool (decide (1 ≤ s.length) && decide (s.length ≤ 8)), [.dat (.str s), .un]) := by
  have h1 : dLen (.str s) = some (.int s.length) := if_pos hs
  simp only [e_fChain, e_fC, e_fUn, e_fVar, List.getElem?_cons_zero, h1, e_orF, fI0]
  have a1 : decide ((1 : Int) ≤ (s.length : Int)) = decide (1 ≤ s.length) := decide_eq_decide.mpr (by omega)
  have a2 : decide ((s.length : Int) ≤ 8) = decide (s.length ≤ 8) := decide_eq_decide.mpr (by omega)
  rw [a1, a2]
  cases decide (1 ≤ s.length) <;> rfl
theorem small_str {t : Nat} (ht : t ≤ 6) {n : Nat} (h : n ≤ 40 * 3 ^ t) : n ≤ 100000 := by
  have := Nat.le_trans h (p3 ht)
  have : 40 * 3 ^ 6 = 29160 := by decide
  omega
theorem name_eq {k t : Nat} {d : PyData} (ht : t ≤ 6) (h : Nc k t d) : fn_is_name [d] = some (.bool (nameB d)) := by
  cases d with
  | str s =>
    have hs := small_str ht (nc_str h).1
    have hc := compL_enc sgn (vs := [1]) (γ := gN 1) (τ := fYes) (ε := fChain dLe dLe (fC (.str "a")) (fVar 1) (fC (.str "z"))) (δ := [.dat (.str s), .un])
      (fun c => [.dat (.str s), .dat (sgn c)]) (fun _ => true) (fun c => .bool (azB c)) s.cps.toList fun c _ => ⟨rfl, rfl, fun _ => name_chain c _, rfl⟩
    rw [filter_true] at hc
    have hl := name_len hs
    have i1 : isiD "str" (.str s) = some (.bool true) := rfl
    unfold fn_is_name b_is_name nameB
    simp only [runD, List.map_cons, List.map_nil, List.cons_append, List.nil_append, List.replicate_succ, List.replicate_zero]
    cases hb : decide (1 ≤ s.length) && decide (s.length ≤ 8) with
    | false =>
      rw [hb] at hl
      simp only [e_sSeq, e_sIf, e_fOr, e_fNot, e_fTest, e_fUn, e_fVar, List.getElem?_cons_zero, i1, hl, Bool.not_true, Bool.not_false, e_sRet, e_fC, Bool.false_and]
    | true =>
      rw [hb] at hl
      have len : s.cps.toList.length ≤ 40000 := by
        have := (Bool.and_eq_true_iff.mp hb).2
        have : s.length ≤ 8 := of_decide_eq_true this
        have e : s.cps.toList.length = s.length := Array.length_toList
        omega
      have h1 := fLc_of (φ := fItems (fVar 0)) (δ := [.dat (.str s), .un]) rfl (by rw [show signs s = s.cps.toList.map sgn from rfl, List.length_map]; exact len) hc
      have h2 := all_map azB s.cps.toList
      simp only [e_sSeq, e_sIf, e_fOr, e_fNot, e_fTest, e_fUn, e_fVar, List.getElem?_cons_zero, i1, hl, Bool.not_true, e_sNx, e_sRet, e_fOfL, h1, h2, Bool.true_and]
  | dict _ => exact (nc_dic h).elim
  | _ => rfl
def az : Str := "abcdefghijklmnopqrstuvwxyz"
theorem az_eq : az.cps.toList = (List.range 26).map (· + 97) := by decide +kernel
theorem in_az (c : Nat) : decide (c ∈ az.cps.toList) = azB c := by
  rw [Bool.eq_iff_iff, decide_eq_true_iff, az_eq]
  unfold azB
  rw [Bool.and_eq_true, decide_eq_true_iff, decide_eq_true_iff]
  constructor
  · intro h
    obtain ⟨n, hn, rfl⟩ := List.mem_map.mp h
    have := List.mem_range.mp hn
    omega
  · intro h
    exact List.mem_map.mpr ⟨c - 97, List.mem_range.mpr (by omega), by omega⟩
theorem eq_nil {k : Nat} {xs : List PyData} (h : Sh k (.list xs)) (hk : k ≤ 60) : dEq (.list xs) (.list []) = some (.bool xs.isEmpty) := by
  have s1 := sh_shaped h hk
  have s2 : SeqAt.shaped (.list []) = true := by decide
  show (if SeqAt.shaped (.list xs) = true ∧ SeqAt.shaped (.list []) = true then some (PyData.bool (PyData.eqv (.list xs) (.list []))) else none) = _
  rw [if_pos ⟨s1, s2⟩]
  cases xs with
  | nil => simp [PyData.eqv, PyData.eqvAll]
  | cons x xs => simp [PyData.eqv, PyData.eqvAll]
theorem lname_eq {k t : Nat} {d : PyData} (ht : t ≤ 6) (h : Nc k t d) : fn__law_is_name [d] = some (.bool (nameB d)) := by
  cases d with
  | str s =>
    have hs := small_str ht (nc_str h).1
    have ha := (nc_str h).2
    have hn : ∀ c, dNotInS (sgn c) (.str "abcdefghijklmnopqrstuvwxyz") = some (.bool (!azB c)) := fun c => by
      rw [← in_az]
      rfl
    have hc := compL_enc sgn (vs := [1]) (γ := gN 1) (τ := fTest (fOp dNotInS (fVar 1) (fC (.str "abcdefghijklmnopqrstuvwxyz")))) (ε := fVar 1) (δ := [.dat (.str s), .un])
      (fun c => [.dat (.str s), .dat (sgn c)]) (fun c => !azB c) sgn s.cps.toList fun c _ => ⟨rfl, by
        simp only [e_fTest, e_fOp, e_fVar, e_fC, List.getElem?_cons_zero, List.getElem?_cons_succ, hn], fun _ => rfl, rfl⟩
    have hl := name_len hs
    have i1 : isiD "str" (.str s) = some (.bool true) := rfl
    unfold fn__law_is_name b__law_is_name nameB
    simp only [runD, List.map_cons, List.map_nil, List.cons_append, List.nil_append, List.replicate_succ, List.replicate_zero]
    cases hb : decide (1 ≤ s.length) && decide (s.length ≤ 8) with
    | false =>
      rw [hb] at hl
      simp only [e_sSeq, e_sIf, e_fOr, e_fNot, e_fTest, e_fUn, e_fVar, List.getElem?_cons_zero, i1, hl, Bool.not_true, Bool.not_false, e_sRet, e_fC, Bool.false_and]
    | true =>
      rw [hb] at hl
      have len : s.cps.toList.length ≤ 40000 := by
        have := (Bool.and_eq_true_iff.mp hb).2
        have : s.length ≤ 8 := of_decide_eq_true this
        have e : s.cps.toList.length = s.length := Array.length_toList
        omega
      have h1 := fLc_of (φ := fItems (fVar 0)) (δ := [.dat (.str s), .un]) rfl (by rw [show signs s = s.cps.toList.map sgn from rfl, List.length_map]; exact len) hc
      have h2 : dEq (.list ((s.cps.toList.filter fun c => !azB c).map sgn)) (.list []) = some (.bool (s.cps.toList.all azB)) := by
        refine (eq_nil (k := 1) (sh_lst (sh_map (enc := sgn) fun c hc => sh_str 0 (asc_nm fun x hx => ?_))) (by omega)).trans ?_
        case refine_2 =>
          congr 2
          rw [Bool.eq_iff_iff, List.isEmpty_iff, List.map_eq_nil_iff, List.filter_eq_nil_iff, List.all_eq_true]
          exact ⟨fun z c hc => by simpa using z c hc, fun z c hc => by simpa using z c hc⟩
        case refine_1 =>
          have hc' := (List.mem_filter.mp hc).1
          obtain rfl : x = c := by simpa using hx
          exact ha x hc'
      have h3 : (if 0 ≤ 100000 then some (([] : List PyData), [EV.dat (PyData.str s), EV.un]) else none) = some ([], [EV.dat (PyData.str s), EV.un]) := if_pos (by omega)
      simp only [e_sSeq, e_sIf, e_fOr, e_fNot, e_fTest, e_fUn, e_fVar, List.getElem?_cons_zero, i1, hl, Bool.not_true, e_sNx, e_sRet, e_fOp, e_fOfL, h1, e_fLst, e_fNil, List.length_nil, h3, h2, Bool.true_and]
  | dict _ => exact (nc_dic h).elim
  | _ => rfl
end Lc
set_option exponentiation.threshold 10000
set_option maxHeartbeats 1000000
namespace Lc
open PySem L2 Evl RZ Sm
/-! ### folk -/
def smbB : PyData → Bool
  | .tuple [n, h, l] => nameB n && (withB 1 200 h && withB 1 100 l)
  | _ => false
theorem somebody_eq {k t : Nat} {d : PyData} (ht : t ≤ 6) (h : Nc k t d) : fn_is_somebody [d] = some (.bool (smbB d)) := by
  have h1 : fn_is_tuple_of [d, .int 3] = some (.bool (tupB 3 d)) := istup_eq h 3
  unfold fn_is_somebody b_is_somebody
  cases d with
  | tuple ds =>
    obtain ⟨j, rfl, hl, hx⟩ := nc_tup h
    clear h
    match ds, hx, h1 with
    | [n, a, b], hx, h1 =>
      have e1 := name_eq ht (hx n (by simp))
      have e2 := within_eq (hx a (by simp)) 1 200
      have e3 := within_eq (hx b (by simp)) 1 100
      have h1 : fn_is_tuple_of [.tuple [n, a, b], .int 3] = some (.bool true) := h1
      cases hn : nameB n <;> rw [hn] at e1 <;> cases hw : withB 1 200 a <;> rw [hw] at e2
      all_goals simp only [runD, e_fCallD, e_fCallLD, e_fCallO, e_fAddL, e_fZipB, e_fListZip, e_sOwnD, e_fNewD, e_fDictD, e_sDPutO, e_fDGetO, e_fDGet2, e_sFrzD, e_sPar3, e_fVar, e_fC, e_fOp, e_fUn, e_fNil, e_fCons, e_fTup, e_fLst, e_fOfL, e_fTest, e_fAnd, e_fOr, e_fNot, e_fBool, e_fIf, e_fChain, e_fVarB, e_fUnL, e_fNoPart, e_fPart, e_fSl, e_gN, e_gNl, e_gCs, e_gTp, e_fZip, e_fYes, e_sNx, e_sSeq, e_sAsg, e_sOwn, e_sApp, e_sExt, e_sIns, e_sSetIx, e_fIxO, e_fSlO, e_sRet, e_sRetL, e_sRetO, e_sFrz, e_sDrop, e_sIf, e_sPar, e_fCall, e_fCallL, e_fCallB, e_sParO, e_fOpO, e_fItems, e_fRange, e_fMin, e_orF, fI0, fI, fS0, dNeg, dAbs, dLen, dSum, dTuple, ix_t0, ix_t1, ix_t2, ix_l0, ix_l1, ownAt, setOwn, EV.cont, EV.with, seqOf, itemsOf, List.map_cons, List.map_nil, List.cons_append, List.nil_append, List.replicate_succ, List.replicate_zero, List.getElem?_cons_zero, List.getElem?_cons_succ, List.getElem?_nil, List.set_cons_zero, List.set_cons_succ, List.length_cons, List.length_nil, h1, e1, e2, e3, Bool.not_true, smbB, if_true, hn, hw, Bool.true_and, Bool.false_and]
    | [], hx, h1 => rfl
    | [_], hx, h1 => rfl
    | [_, _], hx, h1 => rfl
    | a :: b :: c :: e :: r, hx, h1 =>
      have h1 : fn_is_tuple_of [.tuple (a :: b :: c :: e :: r), .int 3] = some (.bool (decide ((a :: b :: c :: e :: r).length = 3))) := h1
      rw [decide_eq_false (by simp)] at h1
      simp only [runD, e_fCallD, e_fCallLD, e_fCallO, e_fAddL, e_fZipB, e_fListZip, e_sOwnD, e_fNewD, e_fDictD, e_sDPutO, e_fDGetO, e_fDGet2, e_sFrzD, e_sPar3, e_fVar, e_fC, e_fOp, e_fUn, e_fNil, e_fCons, e_fTup, e_fLst, e_fOfL, e_fTest, e_fAnd, e_fOr, e_fNot, e_fBool, e_fIf, e_fChain, e_fVarB, e_fUnL, e_fNoPart, e_fPart, e_fSl, e_gN, e_gNl, e_gCs, e_gTp, e_fZip, e_fYes, e_sNx, e_sSeq, e_sAsg, e_sOwn, e_sApp, e_sExt, e_sIns, e_sSetIx, e_fIxO, e_fSlO, e_sRet, e_sRetL, e_sRetO, e_sFrz, e_sDrop, e_sIf, e_sPar, e_fCall, e_fCallL, e_fCallB, e_sParO, e_fOpO, e_fItems, e_fRange, e_fMin, e_orF, fI0, fI, fS0, dNeg, dAbs, dLen, dSum, dTuple, ix_t0, ix_t1, ix_t2, ix_l0, ix_l1, ownAt, setOwn, EV.cont, EV.with, seqOf, itemsOf, List.map_cons, List.map_nil, List.cons_append, List.nil_append, List.replicate_succ, List.replicate_zero, List.getElem?_cons_zero, List.getElem?_cons_succ, List.getElem?_nil, List.set_cons_zero, List.set_cons_succ, List.length_cons, List.length_nil, h1, Bool.not_false, smbB]
  | dict _ => exact (nc_dic h).elim
  | _ => rfl
/-- rows that begin with a text -/
def nmOf : PyData → Str
  | .tuple (.str s :: _) => s
  | _ => Str.empty
def Row (d : PyData) : Prop := ∃ s r, d = .tuple (.str s :: r)
theorem row_ix {d : PyData} (h : Row d) : dIx d (.int 0) = some (.str (nmOf d)) := by
  obtain ⟨s, r, rfl⟩ := h
  exact ix_t0
theorem smb_row {d : PyData} (h : smbB d = true) : Row d ∧ nameB (.str (nmOf d)) = true := by
  unfold smbB at h
  split at h
  · next n a b =>
    rw [Bool.and_eq_true] at h
    cases n with
    | str s => exact ⟨⟨s, _, rfl⟩, h.1⟩
    | _ => exact absurd h.1 (by simp [nameB])
  · cases h
theorem names_any {ds : List PyData} (hl : ds.length ≤ 100) (h : ∀ d, d ∈ ds → Row d) : fn_names_of [.tuple ds] = some (.tuple (strsD (ds.map nmOf))) := by
  have hc := compL_enc (fun d : PyData => d) (vs := [1]) (γ := gN 1) (τ := fYes) (ε := fOp dIx (fVar 1) (fC (.int 0))) (δ := [.dat (.tuple ds), .un])
    (fun d => [.dat (.tuple ds), .dat d]) (fun _ => true) (fun d => .str (nmOf d)) ds fun d hd => ⟨rfl, rfl, fun _ => by
      simp only [e_fOp, e_fVar, e_fC, List.getElem?_cons_zero, List.getElem?_cons_succ, row_ix (h d hd)], rfl⟩
  rw [filter_true, List.map_id'] at hc
  have h1 := fLc_of (φ := fItems (fVar 0)) (δ := [.dat (.tuple ds), .un]) rfl (by omega) hc
  unfold fn_names_of b_names_of
  simp only [runD, e_fCallD, e_fCallLD, e_fCallO, e_fAddL, e_fZipB, e_fListZip, e_sOwnD, e_fNewD, e_fDictD, e_sDPutO, e_fDGetO, e_fDGet2, e_sFrzD, e_sPar3, e_fVar, e_fC, e_fOp, e_fUn, e_fNil, e_fCons, e_fTup, e_fLst, e_fOfL, e_fTest, e_fAnd, e_fOr, e_fNot, e_fBool, e_fIf, e_fChain, e_fVarB, e_fUnL, e_fNoPart, e_fPart, e_fSl, e_gN, e_gNl, e_gCs, e_gTp, e_fZip, e_fYes, e_sNx, e_sSeq, e_sAsg, e_sOwn, e_sApp, e_sExt, e_sIns, e_sSetIx, e_fIxO, e_fSlO, e_sRet, e_sRetL, e_sRetO, e_sFrz, e_sDrop, e_sIf, e_sPar, e_fCall, e_fCallL, e_fCallB, e_sParO, e_fOpO, e_fItems, e_fRange, e_fMin, e_orF, fI0, fI, fS0, dNeg, dAbs, dLen, dSum, dTuple, ix_t0, ix_t1, ix_t2, ix_l0, ix_l1, ownAt, setOwn, EV.cont, EV.with, seqOf, itemsOf, List.map_cons, List.map_nil, List.cons_append, List.nil_append, List.replicate_succ, List.replicate_zero, List.getElem?_cons_zero, List.getElem?_cons_succ, List.getElem?_nil, List.set_cons_zero, List.set_cons_succ, List.length_cons, List.length_nil, h1]
  unfold strsD
  rw [List.map_map]
  rfl
def ltS (a b : Str) : Bool := decide (a.cps.toList < b.cps.toList)
def riseB (ns : List Str) : Bool := (ns.zip (ns.drop 1)).all fun p => ltS p.1 p.2
def encP (p : Str × Str) : PyData := .tuple [.str p.1, .str p.2]
theorem zip_strs : ∀ (xs ys : List Str), List.zipWith (fun x y => PyData.tuple [x, y]) (strsD xs) (strsD ys) = (xs.zip ys).map encP
  | [], _ => rfl
  | _ :: _, [] => rfl
  | x :: xs, y :: ys => congrArg _ (zip_strs xs ys)
theorem rise_eq {ds : List PyData} (hl : ds.length ≤ 100) (h : ∀ d, d ∈ ds → Row d) : fn_names_rise [.tuple ds] = some (.bool (riseB (ds.map nmOf))) := by
  have h0 := names_any hl h
  generalize hns : ds.map nmOf = ns at h0 ⊢
  have hn : ns.length ≤ 100 := by rw [← hns, List.length_map]; exact hl
  have hc := compL_enc encP (vs := [2, 3]) (γ := gTp 2 (gCs (gN 2) (gCs (gN 3) gNl))) (τ := fYes) (ε := fOp dLt (fVar 2) (fVar 3)) (δ := [.dat (.tuple ds), .dat (.tuple (strsD ns)), .un, .un])
    (fun p => [.dat (.tuple ds), .dat (.tuple (strsD ns)), .dat (.str p.1), .dat (.str p.2)]) (fun _ => true) (fun p => .bool (ltS p.1 p.2)) (ns.zip (ns.drop 1)) fun p hp => ⟨rfl, rfl, fun _ => rfl, rfl⟩
  rw [filter_true, ← zip_strs] at hc
  have h1 : fZip (fVar 1) (fSl (fVar 1) (fPart (fC (.int 1))) fNoPart) [.dat (.tuple ds), .dat (.tuple (strsD ns)), .un, .un] = some (List.zipWith (fun x y => PyData.tuple [x, y]) (strsD ns) (strsD (ns.drop 1)), [.dat (.tuple ds), .dat (.tuple (strsD ns)), .un, .un]) := by
    have e1 : dSl (.tuple (strsD ns)) (some 1) none = some (.tuple (strsD (ns.drop 1))) := by
      show some (PyData.tuple (cutD (strsD ns) (some 1) none)) = _
      rw [cut_from _ (by omega)]
      show some (PyData.tuple ((ns.map PyData.str).drop 1)) = some (.tuple ((ns.drop 1).map .str))
      rw [List.map_drop]
    simp only [e_fZip, e_fVar, e_fSl, e_fPart, e_fNoPart, e_fC, List.getElem?_cons_zero, List.getElem?_cons_succ, e1]
    rfl
  have h2 := fLc_of h1 (by
    rw [List.length_zipWith]
    have : (strsD ns).length ≤ 100 := by unfold strsD; rw [List.length_map]; exact hn
    omega) hc
  have h3 := all_map (fun p : Str × Str => ltS p.1 p.2) (ns.zip (ns.drop 1))
  unfold fn_names_rise b_names_rise
  simp only [runD, e_fCallD, e_fCallLD, e_fCallO, e_fAddL, e_fZipB, e_fListZip, e_sOwnD, e_fNewD, e_fDictD, e_sDPutO, e_fDGetO, e_fDGet2, e_sFrzD, e_sPar3, e_fVar, e_fC, e_fOp, e_fUn, e_fNil, e_fCons, e_fTup, e_fLst, e_fOfL, e_fTest, e_fAnd, e_fOr, e_fNot, e_fBool, e_fIf, e_fChain, e_fVarB, e_fUnL, e_fNoPart, e_fPart, e_fSl, e_gN, e_gNl, e_gCs, e_gTp, e_fZip, e_fYes, e_sNx, e_sSeq, e_sAsg, e_sOwn, e_sApp, e_sExt, e_sIns, e_sSetIx, e_fIxO, e_fSlO, e_sRet, e_sRetL, e_sRetO, e_sFrz, e_sDrop, e_sIf, e_sPar, e_fCall, e_fCallL, e_fCallB, e_sParO, e_fOpO, e_fItems, e_fRange, e_fMin, e_orF, fI0, fI, fS0, dNeg, dAbs, dLen, dSum, dTuple, ix_t0, ix_t1, ix_t2, ix_l0, ix_l1, ownAt, setOwn, EV.cont, EV.with, seqOf, itemsOf, List.map_cons, List.map_nil, List.cons_append, List.nil_append, List.replicate_succ, List.replicate_zero, List.getElem?_cons_zero, List.getElem?_cons_succ, List.getElem?_nil, List.set_cons_zero, List.set_cons_succ, List.length_cons, List.length_nil, h0, h2, h3]
  rfl
def folkB : PyData → Bool
  | .tuple ds => (decide (1 ≤ ds.length) && decide (ds.length ≤ 7)) && (ds.all smbB && riseB (ds.map nmOf))
  | _ => false
theorem tup_len (ds : List PyData) (x : List EV) (hi : Nat) : fChain dLe dLe (fC (.int 1)) (fUn dLen (fVar 0)) (fC (.int hi)) (.dat (.tuple ds) :: x) = some (.bool (decide (1 ≤ ds.length) && decide (ds.length ≤ hi)), .dat (.tuple ds) :: x) := by
  have h1 : dLen (.tuple ds) = some (.int ds.length) := rfl
  simp only [e_fChain, e_fC, e_fUn, e_fVar, List.getElem?_cons_zero, h1, e_orF, fI0]
  have a1 : decide ((1 : Int) ≤ (ds.length : Int)) = decide (1 ≤ ds.length) := decide_eq_decide.mpr (by omega)
  have a2 : decide ((ds.length : Int) ≤ hi) = decide (ds.length ≤ hi) := decide_eq_decide.mpr (by omega)
  rw [a1, a2]
  cases decide (1 ≤ ds.length) <;> rfl
theorem folk_eq {k t : Nat} {d : PyData} (ht : t ≤ 6) (h : Nc k t d) : fn_are_folk [d] = some (.bool (folkB d)) := by
  cases d with
  | tuple ds =>
    obtain ⟨j, rfl, hl, hx⟩ := nc_tup h
    have hlen : fChain dLe dLe (fC (.int 1)) (fUn dLen (fVar 0)) (fC (.int 7)) [.dat (.tuple ds), .un] = some (.bool (decide (1 ≤ ds.length) && decide (ds.length ≤ 7)), [.dat (.tuple ds), .un]) := tup_len ds [.un] 7
    have i1 : isiD "tuple" (.tuple ds) = some (.bool true) := rfl
    unfold fn_are_folk b_are_folk folkB
    simp only [runD, List.map_cons, List.map_nil, List.cons_append, List.nil_append, List.replicate_succ, List.replicate_zero]
    cases hb : decide (1 ≤ ds.length) && decide (ds.length ≤ 7) with
    | false =>
      rw [hb] at hlen
      simp only [e_sSeq, e_sIf, e_fOr, e_fNot, e_fTest, e_fUn, e_fVar, List.getElem?_cons_zero, i1, hlen, Bool.not_true, Bool.not_false, e_sRet, e_fC, Bool.false_and]
    | true =>
      rw [hb] at hlen
      have hc := compL_enc (fun d : PyData => d) (vs := [1]) (γ := gN 1) (τ := fYes) (ε := fCall fn_is_somebody (fCons (fVar 1) fNil)) (δ := [.dat (.tuple ds), .un])
        (fun d => [.dat (.tuple ds), .dat d]) (fun _ => true) (fun d => .bool (smbB d)) ds fun d hd => ⟨rfl, rfl, fun _ => by
          simp only [e_fCall, e_fCons, e_fNil, e_fVar, List.getElem?_cons_zero, List.getElem?_cons_succ, somebody_eq ht (hx d hd)], rfl⟩
      rw [filter_true, List.map_id'] at hc
      have h1 := fLc_of (φ := fItems (fVar 0)) (δ := [.dat (.tuple ds), .un]) rfl (by omega) hc
      have h2 := all_map smbB ds
      cases ha : ds.all smbB with
      | false =>
        rw [ha] at h2
        simp only [e_sSeq, e_sIf, e_fOr, e_fNot, e_fTest, e_fUn, e_fVar, List.getElem?_cons_zero, i1, hlen, Bool.not_true, e_sNx, e_sRet, e_fOfL, e_fBool, e_fAnd, h1, h2, Bool.true_and, Bool.false_and]
      | true =>
        rw [ha] at h2
        have h3 := rise_eq (ds := ds) (by omega) fun d hd => (smb_row (List.all_eq_true.mp ha d hd)).1
        simp only [e_sSeq, e_sIf, e_fOr, e_fNot, e_fTest, e_fUn, e_fVar, List.getElem?_cons_zero, i1, hlen, Bool.not_true, e_sNx, e_sRet, e_fOfL, e_fBool, e_fAnd, h1, h2, e_fCall, e_fCons, e_fNil, h3, Bool.true_and]
  | dict _ => exact (nc_dic h).elim
  | _ => rfl
end Lc
set_option exponentiation.threshold 10000
set_option maxHeartbeats 1000000
namespace Lc
open PySem L2 Evl RZ Sm
/-! ### names == sorted(set(names)): the names rise -/
theorem metT_mem (x : Str) : ∀ (xs l : List Str), x ∈ metT xs l ↔ x ∈ xs ∨ x ∈ l
  | [], l => by
    show x ∈ l ↔ _
    simp
  | y :: ys, l => by
    show x ∈ metT ys (addT l y) ↔ _
    rw [metT_mem x ys]
    unfold addT
    by_cases h : y ∈ l
    · rw [if_pos h, List.mem_cons]
      constructor
      · rintro (z | z)
        · exact .inl (.inr z)
        · exact .inr z
      · rintro ((rfl | z) | z)
        · exact .inr h
        · exact .inl z
        · exact .inr z
    · rw [if_neg h, List.mem_cons, List.mem_cons]
      constructor
      · rintro (z | z | z)
        · exact .inl (.inr z)
        · exact .inl (.inl z)
        · exact .inr z
      · rintro ((z | z) | z)
        · exact .inr (.inl z)
        · exact .inl z
        · exact .inr (.inr z)
theorem metT_nd : ∀ (xs l : List Str), l.Nodup → (metT xs l).Nodup
  | [], l, h => h
  | y :: ys, l, h => by
    show (metT ys (addT l y)).Nodup
    refine metT_nd ys _ ?_
    unfold addT
    by_cases z : y ∈ l
    · rw [if_pos z]
      exact h
    · rw [if_neg z]
      exact List.nodup_cons.mpr ⟨z, h⟩
theorem lt_leT {a b : Str} (h : ltS a b = true) : leT a b = true := by
  rw [leT_eq, Bool.not_eq_true', decide_eq_false_iff_not]
  have : a.cps.toList < b.cps.toList := of_decide_eq_true h
  exact fun z => absurd (List.lt_trans this z) (List.lt_irrefl _)
theorem ltS_trans {a b c : Str} (h : ltS a b = true) (h' : ltS b c = true) : ltS a c = true := decide_eq_true (List.lt_trans (of_decide_eq_true h) (of_decide_eq_true h'))
theorem ltS_ne {a b : Str} (h : ltS a b = true) : a ≠ b := fun z => by
  subst z
  exact absurd (of_decide_eq_true h) (List.lt_irrefl _)
theorem lt_of_le_ne {a b : Str} (h : leT a b = true) (n : a ≠ b) : ltS a b = true := by
  refine decide_eq_true (Classical.byContradiction fun z => n (leT_anti h ?_))
  rw [leT_eq, Bool.not_eq_true', decide_eq_false_iff_not]
  exact z
theorem rise_cons (a b : Str) (r : List Str) : riseB (a :: b :: r) = (ltS a b && riseB (b :: r)) := rfl
theorem rise_pair : ∀ (xs : List Str), riseB xs = true → xs.Pairwise fun a b => ltS a b = true
  | [], _ => .nil
  | [a], _ => by simp
  | a :: b :: r, h => by
    rw [rise_cons, Bool.and_eq_true] at h
    have ih := rise_pair (b :: r) h.2
    refine List.pairwise_cons.mpr ⟨fun c hc => ?_, ih⟩
    rcases List.mem_cons.mp hc with rfl | hc
    · exact h.1
    · exact ltS_trans h.1 ((List.pairwise_cons.mp ih).1 c hc)
theorem pair_rise : ∀ (xs : List Str), (xs.Pairwise fun a b => ltS a b = true) → riseB xs = true
  | [], _ => rfl
  | [a], _ => rfl
  | a :: b :: r, h => by
    obtain ⟨h1, h2⟩ := List.pairwise_cons.mp h
    rw [rise_cons, h1 b List.mem_cons_self, pair_rise (b :: r) h2]
    rfl
theorem leT_trans (a b c : Str) (h1 : leT a b = true) (h2 : leT b c = true) : leT a c = true := (PySem.W.sortLe_total (PyProof.Rows.listOrd PyProof.Rows.itemOrd) false (fun y : Str => PySem.W.keyToks (.str y))).trans a b c h1 h2
theorem leT_total (a b : Str) : (leT a b || leT b a) = true := Bool.or_eq_true_iff.mpr ((PySem.W.sortLe_total (PyProof.Rows.listOrd PyProof.Rows.itemOrd) false (fun y : Str => PySem.W.keyToks (.str y))).total a b)
theorem set_rise (xs : List Str) : decide (xs = (metT xs []).mergeSort leT) = riseB xs := by
  rw [Bool.eq_iff_iff, decide_eq_true_iff]
  have nd := metT_nd xs [] List.nodup_nil
  have pm := List.mergeSort_perm (metT xs []) leT
  have so := List.pairwise_mergeSort leT_trans leT_total (metT xs [])
  constructor
  · intro e
    have nd2 : xs.Nodup := by
      rw [e]
      exact pm.nodup_iff.mpr nd
    rw [← e] at so
    refine pair_rise xs ?_
    refine List.Pairwise.imp₂ ?_ so nd2
    exact fun a b h n => lt_of_le_ne h n
  · intro h
    have pr := rise_pair xs h
    have nd2 : xs.Nodup := pr.imp fun h => ltS_ne h
    have p2 : xs.Perm (metT xs []) := (List.perm_ext_iff_of_nodup nd2 nd).mpr fun x => by
      rw [metT_mem]
      simp
    exact List.Perm.eq_of_pairwise (le := fun a b => leT a b = true) (fun a b _ _ h1 h2 => leT_anti h1 h2) (pr.imp fun h => lt_leT h) so (p2.trans pm.symm)
/-! ### == of lists of texts -/
theorem eqv_strs : ∀ (xs ys : List Str), PyData.eqvAll (strsD xs) (strsD ys) = decide (xs = ys)
  | [], [] => by simp [strsD, PyData.eqvAll]
  | [], y :: ys => by simp [strsD, PyData.eqvAll]
  | x :: xs, [] => by simp [strsD, PyData.eqvAll]
  | x :: xs, y :: ys => by
    show (PyData.eqv (.str x) (.str y) && PyData.eqvAll (strsD xs) (strsD ys)) = _
    rw [eqv_strs xs ys]
    have : PyData.eqv (.str x) (.str y) = decide (x = y) := by
      rw [Bool.eq_iff_iff]
      simp [PyData.eqv]
    rw [this, Bool.eq_iff_iff]
    simp
theorem sh_strs {xs : List Str} (h : ∀ x, x ∈ xs → Nm x) : Sh 1 (.list (strsD xs)) := sh_lst (sh_map (enc := PyData.str) fun x hx => sh_str 0 (h x hx))
theorem eq_strs {xs ys : List Str} (h1 : ∀ x, x ∈ xs → Nm x) (h2 : ∀ x, x ∈ ys → Nm x) : dEq (.list (strsD xs)) (.list (strsD ys)) = some (.bool (decide (xs = ys))) := by
  show (if SeqAt.shaped (.list (strsD xs)) = true ∧ SeqAt.shaped (.list (strsD ys)) = true then some (PyData.bool (PyData.eqv (.list (strsD xs)) (.list (strsD ys)))) else none) = _
  rw [if_pos ⟨sh_shaped (sh_strs h1) (by omega), sh_shaped (sh_strs h2) (by omega)⟩, ← eqv_strs]
  rfl
theorem ne_strs {xs ys : List Str} (h1 : ∀ x, x ∈ xs → Nm x) (h2 : ∀ x, x ∈ ys → Nm x) : dNe (.list (strsD xs)) (.list (strsD ys)) = some (.bool (!decide (xs = ys))) := by
  show (if SeqAt.shaped (.list (strsD xs)) = true ∧ SeqAt.shaped (.list (strsD ys)) = true then some (PyData.bool (!PyData.eqv (.list (strsD xs)) (.list (strsD ys)))) else none) = _
  rw [if_pos ⟨sh_shaped (sh_strs h1) (by omega), sh_shaped (sh_strs h2) (by omega)⟩, ← eqv_strs]
  rfl
theorem sset_eq {xs : List Str} (h : xs.length ≤ 4000) : dSortedSet (.list (strsD xs)) = some (strsD ((metT xs []).mergeSort leT)) := by
  unfold dSortedSet strsD
  dsimp only
  rw [txts_of]
  dsimp only
  rw [if_pos h]
theorem lset_eq {xs : List Str} (h : xs.length ≤ 4000) : dLenSet (.list (strsD xs)) = some (.int (metT xs []).length) := by
  unfold dLenSet strsD
  dsimp only
  rw [txts_of]
  dsimp only
  rw [if_pos h]
theorem sset_nm {xs : List Str} (h : ∀ x, x ∈ xs → Nm x) : ∀ x, x ∈ (metT xs []).mergeSort leT → Nm x := fun x hx => by
  have := (List.mergeSort_perm (metT xs []) leT).mem_iff.mp hx
  rw [metT_mem] at this
  simp at this
  exact h x this
theorem name_nm {s : Str} (h : nameB (.str s) = true) : Nm s := by
  have h2 := (Bool.and_eq_true_iff.mp h).2
  rw [List.all_eq_true] at h2
  exact asc_nm fun c hc => by
    have := h2 c hc
    unfold azB at this
    rw [Bool.and_eq_true, decide_eq_true_iff, decide_eq_true_iff] at this
    omega
/-! ### the law's look at folk -/
noncomputable def lfBody : FS := sSeq (sIf (fOr (fNot (fTest (fUn (isiD "tuple") (fVar 1)))) (fOr (fTest (fOp dNe (fUn dLen (fVar 1)) (fC (.int 3)))) (fNot (fTest (fCall fn__law_is_name (fCons (fOp dIx (fVar 1) (fC (.int 0))) fNil)))))) (sRet (fC (.bool false))) sNx)
    (sIf (fOr (fNot (fTest (fCall fn__law_within (fCons (fOp dIx (fVar 1) (fC (.int 1))) (fCons (fC (.int 1)) (fCons (fC (.int 200)) fNil)))))) (fNot (fTest (fCall fn__law_within (fCons (fOp dIx (fVar 1) (fC (.int 2))) (fCons (fC (.int 1)) (fCons (fC (.int 100)) fNil))))))) (sRet (fC (.bool false))) sNx)
theorem lf_body {k t : Nat} {d D : PyData} (ht : t ≤ 6) (h : Nc k t d) : lfBody [.dat D, .dat d, .un] = some (if smbB d = true then .nx [.dat D, .dat d, .un] else .rt (.bool false) [.dat D, .dat d, .un]) := by
  unfold lfBody
  cases d with
  | tuple ds =>
    obtain ⟨j, rfl, hl, hx⟩ := nc_tup h
    clear h
    have i1 : isiD "tuple" (.tuple ds) = some (.bool true) := rfl
    match ds, hx, i1 with
    | [n, a, b], hx, i1 =>
      have e1 := lname_eq ht (hx n (by simp))
      have e2 := lwithin_eq (hx a (by simp)) 1 200
      have e3 := lwithin_eq (hx b (by simp)) 1 100
      have n3 : dNe (.int ((0 + 1 + 1 + 1 : Nat) : Int)) (.int 3) = some (.bool false) := rfl
      cases hn : nameB n <;> rw [hn] at e1 <;> cases hw : withB 1 200 a <;> rw [hw] at e2 <;> cases hv : withB 1 100 b <;> rw [hv] at e3
      all_goals simp only [e_sSeq, e_sIf, e_fOr, e_fNot, e_fTest, e_fUn, e_fOp, e_fVar, e_fC, e_fCall, e_fCons, e_fNil, e_sRet, e_sNx, List.getElem?_cons_zero, List.getElem?_cons_succ, i1, dLen, List.length_cons, List.length_nil, n3, ix_t0, ix_t1, ix_t2, e1, e2, e3, Bool.not_true, Bool.not_false, smbB, hn, hw, hv, Bool.true_and, Bool.false_and, if_true]
      all_goals rfl
    | [], hx, i1 => rfl
    | [_], hx, i1 => rfl
    | [_, _], hx, i1 => rfl
    | a :: b :: c :: e :: r, hx, i1 =>
      have n3 : dNe (.int ((a :: b :: c :: e :: r).length : Nat)) (.int 3) = some (.bool true) := rfl
      have l1 : dLen (.tuple (a :: b :: c :: e :: r)) = some (.int ((a :: b :: c :: e :: r).length : Nat)) := rfl
      simp only [e_sSeq, e_sIf, e_fOr, e_fNot, e_fTest, e_fUn, e_fOp, e_fVar, e_fC, e_sRet, List.getElem?_cons_zero, List.getElem?_cons_succ, i1, l1, n3, Bool.not_true]
      rfl
  | dict _ => exact (nc_dic h).elim
  | _ => rfl
theorem lf_loop {k t : Nat} {D : PyData} (ht : t ≤ 6) : ∀ (ds : List PyData) (x : EV), x.mine = false → (∀ d, d ∈ ds → Nc k t d) → if ds.all smbB = true then ∃ y, y.mine = false ∧ loopF (gN 1) lfBody ds [.dat D, x, .un] = some (.nx [.dat D, y, .un]) else ∃ δ, loopF (gN 1) lfBody ds [.dat D, x, .un] = some (.rt (.bool false) δ)
  | [], x, hx, _ => ⟨x, hx, rfl⟩
  | d :: ds, x, _, h => by
    have hb := lf_body (D := D) ht (h d List.mem_cons_self)
    have hg : gN 1 d [.dat D, x, .un] = some [.dat D, .dat d, .un] := rfl
    have ih := lf_loop (D := D) ht ds (.dat d) rfl fun e he => h e (List.mem_cons_of_mem _ he)
    rw [List.all_cons]
    unfold loopF
    rw [hg]
    dsimp only
    rw [hb]
    cases hs : smbB d with
    | false => exact ⟨_, rfl⟩
    | true =>
      rw [Bool.true_and]
      exact ih
theorem lfolk_eq {k t : Nat} {d : PyData} (ht : t ≤ 6) (h : Nc k t d) : fn__law_are_folk [d] = some (.bool (folkB d)) := by
  cases d with
  | tuple ds =>
    obtain ⟨j, rfl, hl, hx⟩ := nc_tup h
    have hlen : fChain dLe dLe (fC (.int 1)) (fUn dLen (fVar 0)) (fC (.int 7)) [.dat (.tuple ds), .un, .un] = some (.bool (decide (1 ≤ ds.length) && decide (ds.length ≤ 7)), [.dat (.tuple ds), .un, .un]) := tup_len ds [.un, .un] 7
    have i1 : isiD "tuple" (.tuple ds) = some (.bool true) := rfl
    have hfi : fItems (fVar 0) [.dat (.tuple ds), .un, .un] = some (ds, [.dat (.tuple ds), .un, .un]) := rfl
    have hlp := lf_loop (D := .tuple ds) ht ds .un rfl hx
    unfold fn__law_are_folk b__law_are_folk folkB
    simp only [runD, List.map_cons, List.map_nil, List.cons_append, List.nil_append, List.replicate_succ, List.replicate_zero]
    cases hb : decide (1 ≤ ds.length) && decide (ds.length ≤ 7) with
    | false =>
      rw [hb] at hlen
      simp only [e_sSeq, e_sIf, e_fOr, e_fNot, e_fTest, e_fUn, e_fVar, List.getElem?_cons_zero, i1, hlen, Bool.not_true, Bool.not_false, e_sRet, e_fC, Bool.false_and]
    | true =>
      rw [hb] at hlen
      rw [seq_of (δ1 := [.dat (.tuple ds), .un, .un]) (by
        simp only [e_sIf, e_fOr, e_fNot, e_fTest, e_fUn, e_fVar, List.getElem?_cons_zero, i1, hlen, Bool.not_true, e_sNx])]
      cases ha : ds.all smbB with
      | false =>
        rw [ha] at hlp
        obtain ⟨δ, hlp⟩ := (if_neg Bool.false_ne_true).mp hlp
        have := sFor_of hfi hlp
        rw [e_sSeq]
        unfold lfBody at this
        rw [this]
        rfl
      | true =>
        rw [ha] at hlp
        obtain ⟨y, hy, hlp⟩ := (if_pos rfl).mp hlp
        have hf := sFor_of hfi hlp
        unfold lfBody at hf
        rw [seq_of hf]
        have hrow : ∀ d, d ∈ ds → Row d ∧ nameB (.str (nmOf d)) = true := fun d hd => smb_row (List.all_eq_true.mp ha d hd)
        have nm : ∀ x, x ∈ ds.map nmOf → Nm x := fun x hx => by
          obtain ⟨d, hd, rfl⟩ := List.mem_map.mp hx
          exact name_nm (hrow d hd).2
        have hc := compL_enc (fun d : PyData => d) (vs := [1]) (γ := gN 1) (τ := fYes) (ε := fOp dIx (fVar 1) (fC (.int 0))) (δ := [.dat (.tuple ds), y, .un])
          (fun d => [.dat (.tuple ds), .dat d, .un]) (fun _ => true) (fun d => .str (nmOf d)) ds fun d hd => ⟨rfl, rfl, fun _ => by
            simp only [e_fOp, e_fVar, e_fC, List.getElem?_cons_zero, List.getElem?_cons_succ, row_ix (hrow d hd).1], by cases y <;> first | rfl | cases hy⟩
        rw [filter_true, List.map_id', show (ds.map fun d => PyData.str (nmOf d)) = strsD (ds.map nmOf) by unfold strsD; rw [List.map_map]; rfl] at hc
        have h1 := fLc_of (φ := fItems (fVar 0)) (δ := [.dat (.tuple ds), y, .un]) rfl (by omega) hc
        have hn : (ds.map nmOf).length ≤ 4000 := by
          rw [List.length_map]
          omega
        have h2 := sset_eq hn
        have h3 := eq_strs nm (sset_nm nm)
        rw [set_rise] at h3
        simp only [e_sSeq, e_sAsg, e_fOfL, h1, e_gN, e_sRet, e_fOp, e_fVar, e_fUnL, List.set_cons_zero, List.set_cons_succ, List.getElem?_cons_zero, List.getElem?_cons_succ, h2, h3, Bool.true_and]
  | dict _ => exact (nc_dic h).elim
  | _ => rfl
end Lc
set_option exponentiation.threshold 10000
set_option maxHeartbeats 1000000
namespace Lc
open PySem L2 Evl RZ Sm
/-! ### leaps, as the program looks at them -/
def strIn (ns : List Str) : PyData → Bool
  | .str s => ns.contains s
  | _ => false
def wayB : PyData → Bool
  | .int i => decide (i = 1) || decide (i = -1)
  | _ => false
def leapB (ns : List Str) : PyData → Bool
  | .tuple [n, w] => strIn ns n && wayB w
  | _ => false
theorem inT_eq (a : PyData) (ds : List PyData) (h : a.canLay0 = true ∧ PyData.canLayAll0 ds = true ∧ PyData.depthAll ds ≤ 3) : dInT a (.tuple ds) = some (.bool (ds.any fun z => PyData.eqv z a)) := by
  have e : dInT a (.tuple ds) = if a.canLay0 = true ∧ PyData.canLayAll0 ds = true ∧ PyData.depthAll ds ≤ 3 then some (.bool (ds.any fun z => PyData.eqv z a)) else none := by cases a <;> rfl
  rw [e, if_pos h]
theorem in_names {k t : Nat} {n : PyData} (h : Nc k t n) {ns : List Str} (hn : ∀ x, x ∈ ns → Nm x) : dInT n (.tuple (strsD ns)) = some (.bool (strIn ns n)) := by
  have c1 := (nc_sh h).1
  have s1 := sh_strs hn
  have c2 : PyData.canLayAll0 (strsD ns) = true := by
    have := s1.1
    simpa [PyData.canLay0] using this
  have c3 : PyData.depthAll (strsD ns) ≤ 3 := depth_all fun d hd => by
    obtain ⟨x, hx, rfl⟩ := List.mem_map.mp hd
    exact Nat.le_trans (sh_str 0 (hn x hx)).2 (by omega)
  rw [inT_eq _ _ ⟨c1, c2, c3⟩]
  congr 2
  cases n with
  | str s => exact in_strs s ns
  | dict _ => exact (nc_dic h).elim
  | _ =>
    show (strsD ns).any _ = false
    rw [List.any_eq_false]
    intro d hd
    obtain ⟨x, hx, rfl⟩ := List.mem_map.mp hd
    simp [PyData.eqv]
theorem in_ways (i : Int) : dInT (.int i) (.tuple [.int 1, .int (-1)]) = some (.bool (wayB (.int i))) := by
  rw [inT_eq _ _ ⟨by simp [PyData.canLay0], by simp [PyData.canLayAll0, PyData.canLay0], by simp [PyData.depthAll, PyData.depth]⟩]
  congr 2
  unfold wayB
  rw [Bool.eq_iff_iff]
  simp [PyData.eqv]
  constructor
  · rintro (h | h)
    · exact .inl h.symm
    · exact .inr h.symm
  · rintro (h | h)
    · exact .inl h.symm
    · exact .inr h.symm
theorem leap_eq {k t : Nat} {d : PyData} (h : Nc k t d) {ns : List Str} (hn : ∀ x, x ∈ ns → Nm x) : fn_is_leap [.tuple (strsD ns), d] = some (.bool (leapB ns d)) := by
  have h1 : fn_is_tuple_of [d, .int 2] = some (.bool (tupB 2 d)) := istup_eq h 2
  unfold fn_is_leap b_is_leap
  cases d with
  | tuple ds =>
    obtain ⟨j, rfl, hl, hx⟩ := nc_tup h
    clear h
    match ds, hx, h1 with
    | [n, w], hx, h1 =>
      have e1 := in_names (hx n (by simp)) hn
      have e2 := whole_eq (hx w (by simp))
      have h1 : fn_is_tuple_of [.tuple [n, w], .int 2] = some (.bool true) := h1
      cases hs : strIn ns n with
      | false =>
        rw [hs] at e1
        simp only [runD, e_fCallD, e_fCallLD, e_fCallO, e_fAddL, e_fZipB, e_fListZip, e_sOwnD, e_fNewD, e_fDictD, e_sDPutO, e_fDGetO, e_fDGet2, e_sFrzD, e_sPar3, e_fVar, e_fC, e_fOp, e_fUn, e_fNil, e_fCons, e_fTup, e_fLst, e_fOfL, e_fTest, e_fAnd, e_fOr, e_fNot, e_fBool, e_fIf, e_fChain, e_fVarB, e_fUnL, e_fNoPart, e_fPart, e_fSl, e_gN, e_gNl, e_gCs, e_gTp, e_fZip, e_fYes, e_sNx, e_sSeq, e_sAsg, e_sOwn, e_sApp, e_sExt, e_sIns, e_sSetIx, e_fIxO, e_fSlO, e_sRet, e_sRetL, e_sRetO, e_sFrz, e_sDrop, e_sIf, e_sPar, e_fCall, e_fCallL, e_fCallB, e_sParO, e_fOpO, e_fItems, e_fRange, e_fMin, e_orF, fI0, fI, fS0, dNeg, dAbs, dLen, dSum, dTuple, ix_t0, ix_t1, ix_t2, ix_l0, ix_l1, ownAt, setOwn, EV.cont, EV.with, seqOf, itemsOf, List.map_cons, List.map_nil, List.cons_append, List.nil_append, List.replicate_succ, List.replicate_zero, List.getElem?_cons_zero, List.getElem?_cons_succ, List.getElem?_nil, List.set_cons_zero, List.set_cons_succ, List.length_cons, List.length_nil, h1, e1, Bool.not_true, leapB, if_true, hs, Bool.false_and]
      | true =>
        rw [hs] at e1
        cases w with
        | int i =>
          have e3 := in_ways i
          have e2 : fn_is_whole [.int i] = some (.bool true) := e2
          simp only [runD, e_fCallD, e_fCallLD, e_fCallO, e_fAddL, e_fZipB, e_fListZip, e_sOwnD, e_fNewD, e_fDictD, e_sDPutO, e_fDGetO, e_fDGet2, e_sFrzD, e_sPar3, e_fVar, e_fC, e_fOp, e_fUn, e_fNil, e_fCons, e_fTup, e_fLst, e_fOfL, e_fTest, e_fAnd, e_fOr, e_fNot, e_fBool, e_fIf, e_fChain, e_fVarB, e_fUnL, e_fNoPart, e_fPart, e_fSl, e_gN, e_gNl, e_gCs, e_gTp, e_fZip, e_fYes, e_sNx, e_sSeq, e_sAsg, e_sOwn, e_sApp, e_sExt, e_sIns, e_sSetIx, e_fIxO, e_fSlO, e_sRet, e_sRetL, e_sRetO, e_sFrz, e_sDrop, e_sIf, e_sPar, e_fCall, e_fCallL, e_fCallB, e_sParO, e_fOpO, e_fItems, e_fRange, e_fMin, e_orF, fI0, fI, fS0, dNeg, dAbs, dLen, dSum, dTuple, ix_t0, ix_t1, ix_t2, ix_l0, ix_l1, ownAt, setOwn, EV.cont, EV.with, seqOf, itemsOf, List.map_cons, List.map_nil, List.cons_append, List.nil_append, List.replicate_succ, List.replicate_zero, List.getElem?_cons_zero, List.getElem?_cons_succ, List.getElem?_nil, List.set_cons_zero, List.set_cons_succ, List.length_cons, List.length_nil, h1, e1, e2, e3, Bool.not_true, leapB, if_true, hs, Bool.true_and]
        | dict q => exact (nc_dic (hx (.dict q) (List.mem_cons_of_mem _ List.mem_cons_self))).elim
        | _ =>
          simp only [wholeB] at e2
          simp only [runD, e_fCallD, e_fCallLD, e_fCallO, e_fAddL, e_fZipB, e_fListZip, e_sOwnD, e_fNewD, e_fDictD, e_sDPutO, e_fDGetO, e_fDGet2, e_sFrzD, e_sPar3, e_fVar, e_fC, e_fOp, e_fUn, e_fNil, e_fCons, e_fTup, e_fLst, e_fOfL, e_fTest, e_fAnd, e_fOr, e_fNot, e_fBool, e_fIf, e_fChain, e_fVarB, e_fUnL, e_fNoPart, e_fPart, e_fSl, e_gN, e_gNl, e_gCs, e_gTp, e_fZip, e_fYes, e_sNx, e_sSeq, e_sAsg, e_sOwn, e_sApp, e_sExt, e_sIns, e_sSetIx, e_fIxO, e_fSlO, e_sRet, e_sRetL, e_sRetO, e_sFrz, e_sDrop, e_sIf, e_sPar, e_fCall, e_fCallL, e_fCallB, e_sParO, e_fOpO, e_fItems, e_fRange, e_fMin, e_orF, fI0, fI, fS0, dNeg, dAbs, dLen, dSum, dTuple, ix_t0, ix_t1, ix_t2, ix_l0, ix_l1, ownAt, setOwn, EV.cont, EV.with, seqOf, itemsOf, List.map_cons, List.map_nil, List.cons_append, List.nil_append, List.replicate_succ, List.replicate_zero, List.getElem?_cons_zero, List.getElem?_cons_succ, List.getElem?_nil, List.set_cons_zero, List.set_cons_succ, List.length_cons, List.length_nil, h1, e1, e2, Bool.not_true, leapB, if_true, hs, Bool.true_and, wayB]
    | [], hx, h1 => rfl
    | [_], hx, h1 => rfl
    | a :: b :: c :: r, hx, h1 =>
      have h1 : fn_is_tuple_of [.tuple (a :: b :: c :: r), .int 2] = some (.bool (decide ((a :: b :: c :: r).length = 2))) := h1
      rw [decide_eq_false (by simp)] at h1
      simp only [runD, e_fCallD, e_fCallLD, e_fCallO, e_fAddL, e_fZipB, e_fListZip, e_sOwnD, e_fNewD, e_fDictD, e_sDPutO, e_fDGetO, e_fDGet2, e_sFrzD, e_sPar3, e_fVar, e_fC, e_fOp, e_fUn, e_fNil, e_fCons, e_fTup, e_fLst, e_fOfL, e_fTest, e_fAnd, e_fOr, e_fNot, e_fBool, e_fIf, e_fChain, e_fVarB, e_fUnL, e_fNoPart, e_fPart, e_fSl, e_gN, e_gNl, e_gCs, e_gTp, e_fZip, e_fYes, e_sNx, e_sSeq, e_sAsg, e_sOwn, e_sApp, e_sExt, e_sIns, e_sSetIx, e_fIxO, e_fSlO, e_sRet, e_sRetL, e_sRetO, e_sFrz, e_sDrop, e_sIf, e_sPar, e_fCall, e_fCallL, e_fCallB, e_sParO, e_fOpO, e_fItems, e_fRange, e_fMin, e_orF, fI0, fI, fS0, dNeg, dAbs, dLen, dSum, dTuple, ix_t0, ix_t1, ix_t2, ix_l0, ix_l1, ownAt, setOwn, EV.cont, EV.with, seqOf, itemsOf, List.map_cons, List.map_nil, List.cons_append, List.nil_append, List.replicate_succ, List.replicate_zero, List.getElem?_cons_zero, List.getElem?_cons_succ, List.getElem?_nil, List.set_cons_zero, List.set_cons_succ, List.length_cons, List.length_nil, h1, Bool.not_false, leapB]
  | dict _ => exact (nc_dic h).elim
  | _ => rfl
theorem leap_row {ns : List Str} {d : PyData} (h : leapB ns d = true) : ∃ s i, d = .tuple [.str s, .int i] ∧ s ∈ ns := by
  unfold leapB at h
  split at h
  · next n w =>
    rw [Bool.and_eq_true] at h
    cases n with
    | str s =>
      cases w with
      | int i => exact ⟨s, i, rfl, by simpa [strIn] using h.1⟩
      | _ => exact absurd h.2 (by simp [wayB])
    | _ => exact absurd h.1 (by simp [strIn])
  · cases h
def onceB (ns : List Str) : PyData → Bool
  | .tuple ds => !decide (ds.length = 0) && (ds.all (leapB ns) && riseB (ds.map nmOf))
  | _ => false
theorem once_eq {k t : Nat} {d : PyData} (ht : t ≤ 6) (h : Nc k t d) {ns : List Str} (hn : ∀ x, x ∈ ns → Nm x) : fn_are_at_once [.tuple (strsD ns), d] = some (.bool (onceB ns d)) := by
  cases d with
  | tuple ds =>
    obtain ⟨j, rfl, hl, hx⟩ := nc_tup h
    have i1 : isiD "tuple" (.tuple ds) = some (.bool true) := rfl
    have l1 : dLen (.tuple ds) = some (.int (ds.length : Nat)) := rfl
    have q1 : dEq (.int (ds.length : Nat)) (.int 0) = some (.bool (decide (ds.length = 0))) := by
      show some (PyData.bool (decide ((ds.length : Int) = 0))) = _
      congr 2
      exact decide_eq_decide.mpr (by omega)
    unfold fn_are_at_once b_are_at_once onceB
    simp only [runD, List.map_cons, List.map_nil, List.cons_append, List.nil_append, List.replicate_succ, List.replicate_zero]
    cases hb : decide (ds.length = 0) with
    | true =>
      rw [hb] at q1
      simp only [e_sSeq, e_sIf, e_fOr, e_fNot, e_fTest, e_fUn, e_fOp, e_fVar, e_fC, List.getElem?_cons_zero, List.getElem?_cons_succ, i1, l1, q1, Bool.not_true, e_sRet, Bool.false_and]
    | false =>
      rw [hb] at q1
      have hc := compL_enc (fun d : PyData => d) (vs := [2]) (γ := gN 2) (τ := fYes) (ε := fCall fn_is_leap (fCons (fVar 0) (fCons (fVar 2) fNil))) (δ := [.dat (.tuple (strsD ns)), .dat (.tuple ds), .un])
        (fun d => [.dat (.tuple (strsD ns)), .dat (.tuple ds), .dat d]) (fun _ => true) (fun d => .bool (leapB ns d)) ds fun d hd => ⟨rfl, rfl, fun _ => by
          simp only [e_fCall, e_fCons, e_fNil, e_fVar, List.getElem?_cons_zero, List.getElem?_cons_succ, leap_eq (hx d hd) hn], rfl⟩
      rw [filter_true, List.map_id'] at hc
      have h1 := fLc_of (φ := fItems (fVar 1)) (δ := [.dat (.tuple (strsD ns)), .dat (.tuple ds), .un]) rfl (by omega) hc
      have h2 := all_map (leapB ns) ds
      cases ha : ds.all (leapB ns) with
      | false =>
        rw [ha] at h2
        simp only [e_sSeq, e_sIf, e_fOr, e_fNot, e_fTest, e_fUn, e_fOp, e_fVar, e_fC, List.getElem?_cons_zero, List.getElem?_cons_succ, i1, l1, q1, Bool.not_true, Bool.not_false, e_sNx, e_sRet, e_fOfL, e_fBool, e_fAnd, h1, h2, Bool.true_and, Bool.false_and]
      | true =>
        rw [ha] at h2
        have h3 := rise_eq (ds := ds) (by omega) fun d hd => by
          obtain ⟨s, i, e, _⟩ := leap_row (List.all_eq_true.mp ha d hd)
          exact ⟨s, _, e⟩
        simp only [e_sSeq, e_sIf, e_fOr, e_fNot, e_fTest, e_fUn, e_fOp, e_fVar, e_fC, List.getElem?_cons_zero, List.getElem?_cons_succ, i1, l1, q1, Bool.not_true, Bool.not_false, e_sNx, e_sRet, e_fOfL, e_fBool, e_fAnd, h1, h2, e_fCall, e_fCons, e_fNil, h3, Bool.true_and]
  | dict _ => exact (nc_dic h).elim
  | _ => rfl
def rowsN : PyData → List Str
  | .tuple es => es.map nmOf
  | _ => []
def allN (ds : List PyData) : List Str := (ds.map rowsN).flatten
def lenOk (xs : List Str) : Bool := decide (((metT xs []).length : Int) = (xs.length : Int))
def leapsB (ns : List Str) : PyData → Bool
  | .list ds => !decide (7 < ds.length) && (ds.all (onceB ns) && lenOk (allN ds))
  | _ => false
theorem once_rows {ns : List Str} {d : PyData} (h : onceB ns d = true) : ∃ es, d = .tuple es ∧ ∀ e, e ∈ es → leapB ns e = true := by
  unfold onceB at h
  split at h
  · next es =>
    rw [Bool.and_eq_true, Bool.and_eq_true] at h
    exact ⟨es, rfl, List.all_eq_true.mp h.2.1⟩
  · cases h
theorem leapt_comp {ns : List Str} (F T N : PyData) : ∀ (ds : List PyData), (∀ d, d ∈ ds → onceB ns d = true ∧ ∀ es, d = .tuple es → es.length ≤ 100) → compL2 [4, 5, 6] (gN 4) fYes (fItems (fVar 4)) [5, 6] (gTp 2 (gCs (gN 5) (gCs (gN 6) gNl))) fYes (fVar 5) ds [.dat F, .dat T, .dat N, .un, .un, .un, .un] = some (strsD (allN ds), [.dat F, .dat T, .dat N, .un, .un, .un, .un])
  | [], _ => rfl
  | d :: ds, h => by
    obtain ⟨h1, h2⟩ := h d List.mem_cons_self
    obtain ⟨es, rfl, hes⟩ := once_rows h1
    have hl := h2 es rfl
    have ih := leapt_comp F T N ds fun e he => h e (List.mem_cons_of_mem _ he)
    have hc := compL_enc (fun d : PyData => d) (vs := [5, 6]) (γ := gTp 2 (gCs (gN 5) (gCs (gN 6) gNl))) (τ := fYes) (ε := fVar 5) (δ := [.dat F, .dat T, .dat N, .un, .dat (.tuple es), .un, .un])
      (fun e => match e with
        | .tuple [a, b] => [.dat F, .dat T, .dat N, .un, .dat (.tuple es), .dat a, .dat b]
        | _ => []) (fun _ => true) (fun e => .str (nmOf e)) es fun e he => by
        obtain ⟨s, i, rfl, _⟩ := leap_row (hes e he)
        exact ⟨rfl, rfl, fun _ => rfl, rfl⟩
    rw [filter_true, List.map_id'] at hc
    unfold compL2
    rw [show gN 4 (.tuple es) (wipeE [.dat F, .dat T, .dat N, .un, .un, .un, .un] [4, 5, 6]) = some [.dat F, .dat T, .dat N, .un, .dat (.tuple es), .un, .un] from rfl]
    dsimp only
    rw [show fYes [.dat F, .dat T, .dat N, .un, .dat (.tuple es), .un, .un] = some (true, [.dat F, .dat T, .dat N, .un, .dat (.tuple es), .un, .un]) from rfl]
    dsimp only
    rw [show fItems (fVar 4) [.dat F, .dat T, .dat N, .un, .dat (.tuple es), .un, .un] = some (es, [.dat F, .dat T, .dat N, .un, .dat (.tuple es), .un, .un]) from rfl]
    dsimp only
    rw [if_pos hl, hc]
    dsimp only
    rw [show backE [4, 5, 6] 0 [.dat F, .dat T, .dat N, .un, .un, .un, .un] [.dat F, .dat T, .dat N, .un, .dat (.tuple es), .un, .un] = [.dat F, .dat T, .dat N, .un, .un, .un, .un] from rfl, ih]
    dsimp only
    unfold strsD allN
    rw [List.map_cons, List.flatten_cons, List.map_append]
    show some ((es.map fun e => PyData.str (nmOf e)) ++ _, _) = some ((es.map nmOf).map PyData.str ++ _, _)
    rw [List.map_map]
    rfl
theorem fnames_eq {fs : List Fk} (hl : fs.length ≤ 7) : fn_names_of [folkD fs] = some (.tuple (strsD (fs.map (·.1)))) := by
  have := names_any (ds := fs.map encF) (by rw [List.length_map]; omega) fun d hd => by
    obtain ⟨p, hp, rfl⟩ := List.mem_map.mp hd
    exact ⟨p.1, _, rfl⟩
  rw [List.map_map] at this
  exact this
theorem leaps_eq {k t : Nat} {d : PyData} (ht : t ≤ 6) (h : Nc k t d) {fs : List Fk} (hl : fs.length ≤ 7) (hn : ∀ p, p ∈ fs → Nm p.1) : fn_are_leaps [folkD fs, d] = some (.bool (leapsB (fs.map (·.1)) d)) := by
  have hn' : ∀ x, x ∈ fs.map (·.1) → Nm x := fun x hx => by
    obtain ⟨p, hp, rfl⟩ := List.mem_map.mp hx
    exact hn p hp
  cases d with
  | list ds =>
    obtain ⟨j, rfl, hds, hx⟩ := nc_lst h
    have i1 : isiD "list" (.list ds) = some (.bool true) := rfl
    have l1 : dLen (.list ds) = some (.int (ds.length : Nat)) := rfl
    have q1 : dGtI (.int (ds.length : Nat)) (.int 7) = some (.bool (decide (7 < ds.length))) := by
      show some (PyData.bool (decide ((7 : Int) < (ds.length : Int)))) = _
      congr 2
      exact decide_eq_decide.mpr (by omega)
    have h0 := fnames_eq hl
    generalize fs.map (·.1) = ns at hn' h0 ⊢
    generalize folkD fs = F at h0 ⊢
    unfold fn_are_leaps b_are_leaps leapsB
    simp only [runD, List.map_cons, List.map_nil, List.cons_append, List.nil_append, List.replicate_succ, List.replicate_zero]
    cases hb : decide (7 < ds.length) with
    | true =>
      rw [hb] at q1
      simp only [e_sSeq, e_sIf, e_fOr, e_fNot, e_fTest, e_fUn, e_fOp, e_fVar, e_fC, List.getElem?_cons_zero, List.getElem?_cons_succ, i1, l1, q1, Bool.not_true, e_sRet, Bool.false_and]
    | false =>
      rw [hb] at q1
      have h7 : ds.length ≤ 7 := by
        have := of_decide_eq_false hb
        omega
      rw [seq_of (δ1 := [.dat F, .dat (.list ds), .un, .un, .un, .un, .un]) (by
        simp only [e_sIf, e_fOr, e_fNot, e_fTest, e_fUn, e_fOp, e_fVar, e_fC, List.getElem?_cons_zero, List.getElem?_cons_succ, i1, l1, q1, Bool.not_true, e_sNx]),
        seq_of (δ1 := [.dat F, .dat (.list ds), .dat (.tuple (strsD ns)), .un, .un, .un, .un]) (by
        simp only [e_sAsg, e_fCall, e_fCons, e_fNil, e_fVar, List.getElem?_cons_zero, h0, e_gN]
        rfl)]
      have hc := compL_enc (fun d : PyData => d) (vs := [4]) (γ := gN 4) (τ := fYes) (ε := fCall fn_are_at_once (fCons (fVar 2) (fCons (fVar 4) fNil))) (δ := [.dat F, .dat (.list ds), .dat (.tuple (strsD ns)), .un, .un, .un, .un])
        (fun d => [.dat F, .dat (.list ds), .dat (.tuple (strsD ns)), .un, .dat d, .un, .un]) (fun _ => true) (fun d => .bool (onceB ns d)) ds fun d hd => ⟨rfl, rfl, fun _ => by
          simp only [e_fCall, e_fCons, e_fNil, e_fVar, List.getElem?_cons_zero, List.getElem?_cons_succ, once_eq ht (hx d hd) hn'], rfl⟩
      rw [filter_true, List.map_id'] at hc
      have h1 := fLc_of (φ := fItems (fVar 1)) (δ := [.dat F, .dat (.list ds), .dat (.tuple (strsD ns)), .un, .un, .un, .un]) rfl (by omega) hc
      have h2 := all_map (onceB ns) ds
      cases ha : ds.all (onceB ns) with
      | false =>
        rw [ha] at h2
        simp only [e_sSeq, e_sIf, e_fNot, e_fTest, e_fUn, e_fC, Bool.not_false, e_sRet, e_fOfL, h1, h2, Bool.true_and, Bool.false_and]
      | true =>
        rw [ha] at h2
        have hall : ∀ d, d ∈ ds → onceB ns d = true ∧ ∀ es, d = .tuple es → es.length ≤ 26 := fun d hd => ⟨List.all_eq_true.mp ha d hd, fun es e => by
          have := hx d hd
          rw [e] at this
          obtain ⟨_, _, z, _⟩ := nc_tup this
          omega⟩
        have h3 := leapt_comp (ns := ns) F (.list ds) (.tuple (strsD ns)) ds fun d hd => ⟨(hall d hd).1, fun es e => Nat.le_trans ((hall d hd).2 es e) (by omega)⟩
        have h4 : fLc2 (fItems (fVar 1)) [4, 5, 6] (gN 4) fYes (fItems (fVar 4)) [5, 6] (gTp 2 (gCs (gN 5) (gCs (gN 6) gNl))) fYes (fVar 5) [.dat F, .dat (.list ds), .dat (.tuple (strsD ns)), .un, .un, .un, .un] = some (strsD (allN ds), [.dat F, .dat (.list ds), .dat (.tuple (strsD ns)), .un, .un, .un, .un]) := by
          unfold fLc2
          rw [show fItems (fVar 1) [.dat F, .dat (.list ds), .dat (.tuple (strsD ns)), .un, .un, .un, .un] = some (ds, [.dat F, .dat (.list ds), .dat (.tuple (strsD ns)), .un, .un, .un, .un]) from rfl]
          dsimp only
          rw [if_pos (by omega), h3]
        have len : (allN ds).length ≤ 4000 := by
          have : ∀ (ds : List PyData), (∀ d, d ∈ ds → onceB ns d = true ∧ ∀ es, d = .tuple es → es.length ≤ 26) → (allN ds).length ≤ 26 * ds.length := by
            intro ds
            induction ds with
            | nil => intro _; exact Nat.le_refl _
            | cons d ds ih =>
              intro h
              have ih := ih fun e he => h e (List.mem_cons_of_mem _ he)
              obtain ⟨es, rfl, _⟩ := once_rows (h d List.mem_cons_self).1
              have := (h _ List.mem_cons_self).2 es rfl
              unfold allN at ih ⊢
              rw [List.map_cons, List.flatten_cons, List.length_append, List.length_cons]
              have e : (rowsN (.tuple es)).length = es.length := List.length_map ..
              omega
          have := this ds hall
          omega
        have h5 := lset_eq len
        have h6 : dLen (.list (strsD (allN ds))) = some (.int ((allN ds).length : Nat)) := by
          show some (PyData.int (((allN ds).map PyData.str).length : Nat)) = _
          rw [List.length_map]
        have h7 : dEq (.int ((metT (allN ds) []).length : Nat)) (.int ((allN ds).length : Nat)) = some (.bool (lenOk (allN ds))) := rfl
        simp only [e_sSeq, e_sIf, e_fNot, e_fTest, e_fUn, e_fC, Bool.not_true, Bool.not_false, e_sNx, e_sRet, e_sAsg, e_gN, e_fOfL, h1, h2, h4, e_fOp, e_fVar, List.set_cons_zero, List.set_cons_succ, List.getElem?_cons_zero, List.getElem?_cons_succ, h5, h6, h7, Bool.true_and]
  | dict _ => exact (nc_dic h).elim
  | _ => rfl
end Lc
set_option exponentiation.threshold 10000
set_option maxHeartbeats 1000000
namespace Lc
open PySem L2 Evl RZ Sm
/-! ### leaps, as the law looks at them -/
noncomputable def liBody : FS := sSeq (sIf (fOr (fNot (fTest (fUn (isiD "tuple") (fVar 5)))) (fOr (fTest (fOp dNe (fUn dLen (fVar 5)) (fC (.int 2)))) (fNot (fTest (fUn (isiD "str") (fOp dIx (fVar 5) (fC (.int 0)))))))) (sRet (fC (.bool false))) sNx)
    (sSeq (sIf (fOr (fTest (fOp (dInA true) (fOp dIx (fVar 5) (fC (.int 0))) (fOfL (fLc (fItems (fVar 0)) [6] (gN 6) fYes (fOp dIx (fVar 6) (fC (.int 0))))))) (fOr (fNot (fTest (fCall fn__law_whole (fCons (fOp dIx (fVar 5) (fC (.int 1))) fNil)))) (fTest (fOp (dInA true) (fOp dIx (fVar 5) (fC (.int 1))) (fOfL (fLst (fCons (fC (.int 1)) (fCons (fUn dNeg (fC (.int 1))) fNil)))))))) (sRet (fC (.bool false))) sNx)
    (sApp 4 (fOp dIx (fVar 5) (fC (.int 0)))))
noncomputable def loBody : FS := sSeq (sIf (fOr (fNot (fTest (fUn (isiD "tuple") (fVar 3)))) (fTest (fOp dEq (fVar 3) (fTup fNil)))) (sRet (fC (.bool false))) sNx)
    (sSeq (sOwn 4 (fLst fNil))
    (sSeq (sFor (fItems (fVar 3)) (gN 5) liBody)
    (sSeq (sIf (fTest (fOpO dNe 4 (fOfL (fUnL dSortedSet (fVarB 4))))) (sRet (fC (.bool false))) sNx)
    (sFrz 4 (sAsg (fOp dAdd (fVar 2) (fVar 4)) (gN 2))))))
theorem notin_ways (i : Int) : dIn true (.int i) (.list [.int 1, .int (-1)]) = some (.bool (!wayB (.int i))) := by
  show (if flatD (.int i) = true ∧ [PyData.int 1, .int (-1)].all flatD = true then some (PyData.bool (if true then !([PyData.int 1, .int (-1)].any fun d => PyData.eqv d (.int i)) else [PyData.int 1, .int (-1)].any fun d => PyData.eqv d (.int i))) else none) = _
  rw [if_pos ⟨rfl, rfl⟩, if_pos rfl]
  congr 3
  have := in_ways i
  rw [inT_eq _ _ ⟨by simp [PyData.canLay0], by simp [PyData.canLayAll0, PyData.canLay0], by simp [PyData.depthAll, PyData.depth]⟩] at this
  injection this with this
  injection this
theorem cat_lst {xs ys : List PyData} (h : xs.length + ys.length ≤ 100000) : dAdd (.list xs) (.list ys) = some (.list (xs ++ ys)) := by
  have e : dCatL (.list xs) (.list ys) = some (.list (xs ++ ys)) := if_pos h
  simp only [e_orF, fI0, dCatS, e]
section
variable {fs : List Fk} (hl : fs.length ≤ 7) (hn : ∀ p, p ∈ fs → Nm p.1)
include hl hn
theorem folk_comp (T N S : PyData) (os : List PyData) (e : PyData) (x : EV) (hx : x.mine = false) : fLc (fItems (fVar 0)) [6] (gN 6) fYes (fOp dIx (fVar 6) (fC (.int 0))) [.dat (folkD fs), .dat T, .dat N, .dat S, .own os, .dat e, x] = some (strsD (fs.map (·.1)), [.dat (folkD fs), .dat T, .dat N, .dat S, .own os, .dat e, x]) := by
  have hc := compL_enc encF (vs := [6]) (γ := gN 6) (τ := fYes) (ε := fOp dIx (fVar 6) (fC (.int 0))) (δ := [.dat (folkD fs), .dat T, .dat N, .dat S, .own os, .dat e, x])
    (fun p => [.dat (folkD fs), .dat T, .dat N, .dat S, .own os, .dat e, .dat (encF p)]) (fun _ => true) (fun p => .str p.1) fs fun p hp => ⟨rfl, rfl, fun _ => rfl, by cases x <;> first | rfl | cases hx⟩
  rw [filter_true] at hc
  have h1 := fLc_of (φ := fItems (fVar 0)) (δ := [.dat (folkD fs), .dat T, .dat N, .dat S, .own os, .dat e, x]) rfl (by rw [List.length_map]; omega) hc
  rw [h1]
  unfold strsD
  rw [List.map_map]
  rfl
theorem li_body {k t : Nat} (T N S : PyData) (os : List PyData) {e : PyData} (he : Nc k t e) (x : EV) (hx : x.mine = false) (ho : os.length < 40000) : liBody [.dat (folkD fs), .dat T, .dat N, .dat S, .own os, .dat e, x] = some (if leapB (fs.map (·.1)) e = true then .nx [.dat (folkD fs), .dat T, .dat N, .dat S, .own (os ++ [.str (nmOf e)]), .dat e, x] else .rt (.bool false) [.dat (folkD fs), .dat T, .dat N, .dat S, .own os, .dat e, x]) := by
  unfold liBody
  have hfc := folk_comp hl hn T N S os e x hx
  generalize folkD fs = F at hfc ⊢
  cases e with
  | tuple es =>
    obtain ⟨j, rfl, hes, hex⟩ := nc_tup he
    clear he
    match es, hex, hfc with
    | [n, w], hex, hfc =>
      have n3 : dNe (.int ((0 + 1 + 1 : Nat) : Int)) (.int 2) = some (.bool false) := rfl
      have i1 : isiD "tuple" (.tuple [n, w]) = some (.bool true) := rfl
      cases n with
      | str s =>
        have i2 : isiD "str" (.str s) = some (.bool true) := rfl
        have m1 := notin_eq s (fs.map (·.1)) _ (.inr rfl)
        rw [seq_of (δ1 := [.dat F, .dat T, .dat N, .dat S, .own os, .dat (.tuple [.str s, w]), x]) (by
          simp only [e_sIf, e_fOr, e_fNot, e_fTest, e_fUn, e_fOp, e_fVar, e_fC, List.getElem?_cons_zero, List.getElem?_cons_succ, i1, i2, dLen, List.length_cons, List.length_nil, n3, ix_t0, Bool.not_true, e_sNx])]
        cases hs : (fs.map (·.1)).contains s with
        | false =>
          rw [hs] at m1
          simp only [e_sSeq, e_sIf, e_fOr, e_fNot, e_fTest, e_fOp, e_fVar, e_fC, e_fOfL, List.getElem?_cons_zero, List.getElem?_cons_succ, ix_t0, hfc, m1, Bool.not_false, e_sRet, leapB, strIn, hs, Bool.false_and]
          rfl
        | true =>
          rw [hs] at m1
          have e2 := lwhole_eq (hex w (List.mem_cons_of_mem _ List.mem_cons_self))
          cases w with
          | int i =>
            have e2 : fn__law_whole [.int i] = some (.bool true) := e2
            have e3 := notin_ways i
            have c1 : (if 0 + 1 + 1 ≤ 100000 then some (([.int 1, .int (-1)] : List PyData), [EV.dat F, .dat T, .dat N, .dat S, .own os, .dat (.tuple [.str s, .int i]), x]) else none) = some ([.int 1, .int (-1)], [EV.dat F, .dat T, .dat N, .dat S, .own os, .dat (.tuple [.str s, .int i]), x]) := if_pos (by omega)
            cases hw : wayB (.int i) with
            | false =>
              rw [hw] at e3
              simp only [e_sSeq, e_sIf, e_fOr, e_fNot, e_fTest, e_fUn, dNeg, e_fOp, e_fVar, e_fC, e_fOfL, e_fLst, e_fCall, e_fCons, e_fNil, List.length_cons, List.length_nil, List.getElem?_cons_zero, List.getElem?_cons_succ, ix_t0, ix_t1, hfc, m1, e2, c1, e3, Bool.not_false, Bool.not_true, e_sRet, leapB, strIn, hs, hw, Bool.true_and]
              rfl
            | true =>
              rw [hw] at e3
              simp only [e_sSeq, e_sIf, e_fOr, e_fNot, e_fTest, e_fUn, dNeg, e_fOp, e_fVar, e_fC, e_fOfL, e_fLst, e_fCall, e_fCons, e_fNil, List.length_cons, List.length_nil, List.getElem?_cons_zero, List.getElem?_cons_succ, ix_t0, ix_t1, hfc, m1, e2, c1, e3, Bool.not_false, Bool.not_true, e_sNx, e_sApp, ownAt, EV.cont, leapB, strIn, hs, hw, Bool.true_and, if_true]
              rw [if_pos (by omega)]
              rfl
          | dict q => exact (nc_dic (hex (.dict q) (List.mem_cons_of_mem _ List.mem_cons_self))).elim
          | _ =>
            simp only [wholeB] at e2
            simp only [e_sSeq, e_sIf, e_fOr, e_fNot, e_fTest, e_fOp, e_fVar, e_fC, e_fOfL, e_fCall, e_fCons, e_fNil, List.getElem?_cons_zero, List.getElem?_cons_succ, ix_t0, ix_t1, hfc, m1, e2, Bool.not_false, Bool.not_true, e_sRet, leapB, strIn, hs, wayB, Bool.true_and]
            rfl
      | dict q => exact (nc_dic (hex (.dict q) List.mem_cons_self)).elim
      | _ => rfl
    | [], hex, hfc => rfl
    | [_], hex, hfc => rfl
    | a :: b :: c :: r, hex, hfc =>
      have n3 : dNe (.int ((a :: b :: c :: r).length : Nat)) (.int 2) = some (.bool true) := rfl
      have l1 : dLen (.tuple (a :: b :: c :: r)) = some (.int ((a :: b :: c :: r).length : Nat)) := rfl
      have i1 : isiD "tuple" (.tuple (a :: b :: c :: r)) = some (.bool true) := rfl
      simp only [e_sSeq, e_sIf, e_fOr, e_fNot, e_fTest, e_fUn, e_fOp, e_fVar, e_fC, e_sRet, List.getElem?_cons_zero, List.getElem?_cons_succ, i1, l1, n3, Bool.not_true]
      rfl
  | dict _ => exact (nc_dic he).elim
  | _ => rfl
theorem li_loop {k t : Nat} (T N S : PyData) (x : EV) (hx : x.mine = false) : ∀ (es os : List PyData) (y : EV), (∀ e, e ∈ es → Nc k t e) → os.length + es.length < 40000 →
    if es.all (leapB (fs.map (·.1))) = true then ∃ z, loopF (gN 5) liBody es [.dat (folkD fs), .dat T, .dat N, .dat S, .own os, y, x] = some (.nx [.dat (folkD fs), .dat T, .dat N, .dat S, .own (os ++ strsD (es.map nmOf)), z, x]) else ∃ δ, loopF (gN 5) liBody es [.dat (folkD fs), .dat T, .dat N, .dat S, .own os, y, x] = some (.rt (.bool false) δ)
  | [], os, y, _, _ => by
    refine ⟨y, ?_⟩
    show some (Out.nx _) = some (Out.nx [.dat (folkD fs), .dat T, .dat N, .dat S, .own (os ++ []), y, x])
    rw [List.append_nil]
  | e :: es, os, y, h, hlen => by
    rw [List.length_cons] at hlen
    have hb := li_body hl hn T N S os (h e List.mem_cons_self) x hx (by omega)
    have ih := li_loop T N S x hx es (os ++ [.str (nmOf e)]) (.dat e) (fun d hd => h d (List.mem_cons_of_mem _ hd)) (by rw [List.length_append]; show _ + 1 + _ < _; omega)
    have hg : gN 5 e [.dat (folkD fs), .dat T, .dat N, .dat S, .own os, y, x] = some [.dat (folkD fs), .dat T, .dat N, .dat S, .own os, .dat e, x] := rfl
    rw [List.all_cons]
    unfold loopF
    rw [hg]
    dsimp only
    rw [hb]
    cases hs : leapB (fs.map (·.1)) e with
    | false => exact ⟨_, rfl⟩
    | true =>
      rw [Bool.true_and]
      rw [List.append_assoc] at ih
      exact ih
theorem lo_body {k t : Nat} (ht : t ≤ 6) (T : PyData) (acc : List Str) {d : PyData} (hd : Nc k t d) (hk : k ≤ 50) (x4 x5 x6 : EV) (hx : x6.mine = false) (hacc : acc.length ≤ 4000) :
    if onceB (fs.map (·.1)) d = true then ∃ y4 y5, loBody [.dat (folkD fs), .dat T, .dat (.list (strsD acc)), .dat d, x4, x5, x6] = some (.nx [.dat (folkD fs), .dat T, .dat (.list (strsD (acc ++ rowsN d))), .dat d, y4, y5, x6]) else ∃ δ, loBody [.dat (folkD fs), .dat T, .dat (.list (strsD acc)), .dat d, x4, x5, x6] = some (.rt (.bool false) δ) := by
  have hn' : ∀ x, x ∈ fs.map (·.1) → Nm x := fun x hx => by
    obtain ⟨p, hp, rfl⟩ := List.mem_map.mp hx
    exact hn p hp
  cases d with
  | tuple es =>
    obtain ⟨j, rfl, hes, hex⟩ := nc_tup hd
    have i1 : isiD "tuple" (.tuple es) = some (.bool true) := rfl
    have q1 : dEq (.tuple es) (.tuple []) = some (.bool (decide (es.length = 0))) := by
      have s1 := sh_shaped (nc_sh hd) (by omega)
      have s2 : SeqAt.shaped (.tuple []) = true := sh_shaped (k := 1) (sh_tup fun d hd => by simp at hd) (by omega)
      show (if SeqAt.shaped (.tuple es) = true ∧ SeqAt.shaped (.tuple []) = true then some (PyData.bool (PyData.eqv (.tuple es) (.tuple []))) else none) = _
      rw [if_pos ⟨s1, s2⟩]
      cases es with
      | nil => simp [PyData.eqv, PyData.eqvAll]
      | cons x xs => simp [PyData.eqv, PyData.eqvAll]
    have c0 : ∀ δ : En, (if 0 ≤ 100000 then some (PyData.tuple [], δ) else none) = some (.tuple [], δ) := fun δ => if_pos (by omega)
    unfold loBody
    rw [show onceB (fs.map (·.1)) (.tuple es) = (!decide (es.length = 0) && (es.all (leapB (fs.map (·.1))) && riseB (es.map nmOf))) from rfl]
    cases hb : decide (es.length = 0) with
    | true =>
      rw [hb] at q1
      rw [Bool.not_true, Bool.false_and, if_neg Bool.false_ne_true]
      refine ⟨[.dat (folkD fs), .dat T, .dat (.list (strsD acc)), .dat (.tuple es), x4, x5, x6], ?_⟩
      simp only [e_sSeq, e_sIf, e_fOr, e_fNot, e_fTest, e_fUn, e_fOp, e_fVar, e_fTup, e_fNil, List.length_nil, List.getElem?_cons_zero, List.getElem?_cons_succ, i1, c0, q1, Bool.not_true, e_sRet, e_fC]
    | false =>
      rw [hb] at q1
      rw [Bool.not_false, Bool.true_and]
      rw [seq_of (δ1 := [.dat (folkD fs), .dat T, .dat (.list (strsD acc)), .dat (.tuple es), x4, x5, x6]) (by
        simp only [e_sIf, e_fOr, e_fNot, e_fTest, e_fUn, e_fOp, e_fVar, e_fTup, e_fNil, List.length_nil, List.getElem?_cons_zero, List.getElem?_cons_succ, i1, c0, q1, Bool.not_true, e_sNx]),
        seq_of (δ1 := [.dat (folkD fs), .dat T, .dat (.list (strsD acc)), .dat (.tuple es), .own [], x5, x6]) rfl]
      have hlp := li_loop hl hn (k := j) (t := t) T (.list (strsD acc)) (.tuple es) x6 hx es [] x5 hex (by show 0 + _ < _; omega)
      have hfi : fItems (fVar 3) [.dat (folkD fs), .dat T, .dat (.list (strsD acc)), .dat (.tuple es), .own [], x5, x6] = some (es, [.dat (folkD fs), .dat T, .dat (.list (strsD acc)), .dat (.tuple es), .own [], x5, x6]) := rfl
      cases ha : es.all (leapB (fs.map (·.1))) with
      | false =>
        rw [ha] at hlp
        obtain ⟨δ, hlp⟩ := (if_neg Bool.false_ne_true).mp hlp
        rw [Bool.false_and, if_neg Bool.false_ne_true]
        refine ⟨δ, ?_⟩
        rw [e_sSeq, sFor_of hfi hlp]
      | true =>
        rw [ha] at hlp
        obtain ⟨z, hlp⟩ := (if_pos rfl).mp hlp
        rw [seq_of (sFor_of hfi hlp)]
        have hrow := fun e he => leap_row (List.all_eq_true.mp ha e he)
        have nm : ∀ x, x ∈ es.map nmOf → Nm x := fun x hx => by
          obtain ⟨e, he, rfl⟩ := List.mem_map.mp hx
          obtain ⟨s, i, rfl, hs⟩ := hrow e he
          exact hn' s hs
        have hlen : (es.map nmOf).length ≤ 4000 := by
          rw [List.length_map]
          omega
        have h2 := sset_eq hlen
        have h3 := ne_strs nm (sset_nm nm)
        rw [set_rise] at h3
        have hcat : dAdd (.list (strsD acc)) (.list (strsD (es.map nmOf))) = some (.list (strsD (acc ++ es.map nmOf))) := by
          rw [cat_lst (by unfold strsD; rw [List.length_map, List.length_map]; omega)]
          unfold strsD
          rw [List.map_append]
        rw [Bool.true_and, List.nil_append, show rowsN (.tuple es) = es.map nmOf from rfl]
        generalize es.map nmOf = ns at h2 h3 hcat ⊢
        cases hr : riseB ns with
        | false =>
          rw [hr] at h3
          rw [if_neg Bool.false_ne_true]
          refine ⟨[.dat (folkD fs), .dat T, .dat (.list (strsD acc)), .dat (.tuple es), .own (strsD ns), z, x6], ?_⟩
          simp only [e_sSeq, e_sIf, e_fTest, e_fOpO, ownAt, EV.cont, e_fOfL, e_fUnL, e_fVarB, List.getElem?_cons_zero, List.getElem?_cons_succ, h2, h3, Bool.not_false, e_sRet, e_fC]
        | true =>
          rw [hr] at h3
          rw [if_pos rfl]
          refine ⟨.dat (.list (strsD ns)), z, ?_⟩
          simp only [e_sSeq, e_sIf, e_fTest, e_fOpO, ownAt, EV.cont, e_fOfL, e_fUnL, e_fVarB, List.getElem?_cons_zero, List.getElem?_cons_succ, h2, h3, Bool.not_true, e_sNx, e_sFrz, List.set_cons_zero, List.set_cons_succ, e_sAsg, e_fOp, e_fVar, hcat, e_gN]
  | dict _ => exact (nc_dic hd).elim
  | _ =>
    rw [if_neg (by exact Bool.false_ne_true)]
    exact ⟨_, rfl⟩
theorem lo_loop {k t : Nat} (ht : t ≤ 6) (hk : k ≤ 50) (T : PyData) : ∀ (ds : List PyData) (acc : List Str) (x3 x4 x5 x6 : EV), x6.mine = false → (∀ d, d ∈ ds → Nc k t d) → acc.length + 26 * ds.length ≤ 4000 →
    if ds.all (onceB (fs.map (·.1))) = true then ∃ y3 y4 y5, loopF (gN 3) loBody ds [.dat (folkD fs), .dat T, .dat (.list (strsD acc)), x3, x4, x5, x6] = some (.nx [.dat (folkD fs), .dat T, .dat (.list (strsD (acc ++ allN ds))), y3, y4, y5, x6]) else ∃ δ, loopF (gN 3) loBody ds [.dat (folkD fs), .dat T, .dat (.list (strsD acc)), x3, x4, x5, x6] = some (.rt (.bool false) δ)
  | [], acc, x3, x4, x5, x6, _, _, _ => by
    refine ⟨x3, x4, x5, ?_⟩
    show some (Out.nx _) = some (Out.nx [.dat (folkD fs), .dat T, .dat (.list (strsD (acc ++ []))), x3, x4, x5, x6])
    rw [List.append_nil]
  | d :: ds, acc, x3, x4, x5, x6, hx, h, hlen => by
    rw [List.length_cons] at hlen
    have hb := lo_body hl hn ht T acc (h d List.mem_cons_self) hk x4 x5 x6 hx (by omega)
    have hg : gN 3 d [.dat (folkD fs), .dat T, .dat (.list (strsD acc)), x3, x4, x5, x6] = some [.dat (folkD fs), .dat T, .dat (.list (strsD acc)), .dat d, x4, x5, x6] := rfl
    rw [List.all_cons]
    unfold loopF
    rw [hg]
    dsimp only
    cases hs : onceB (fs.map (·.1)) d with
    | false =>
      rw [hs, if_neg Bool.false_ne_true] at hb
      obtain ⟨δ, hb⟩ := hb
      rw [Bool.false_and, if_neg Bool.false_ne_true, hb]
      exact ⟨δ, rfl⟩
    | true =>
      rw [hs, if_pos rfl] at hb
      obtain ⟨y4, y5, hb⟩ := hb
      have hr : (rowsN d).length ≤ 26 := by
        obtain ⟨es, rfl, _⟩ := once_rows hs
        obtain ⟨_, _, z, _⟩ := nc_tup (h _ List.mem_cons_self)
        show (es.map nmOf).length ≤ 26
        rw [List.length_map]
        omega
      have ih := lo_loop ht hk T ds (acc ++ rowsN d) (.dat d) y4 y5 x6 hx (fun e he => h e (List.mem_cons_of_mem _ he)) (by rw [List.length_append]; omega)
      rw [List.append_assoc] at ih
      rw [Bool.true_and, hb]
      exact ih
theorem lleaps_eq {k t : Nat} {d : PyData} (ht : t ≤ 6) (hk : k ≤ 50) (h : Nc k t d) : fn__law_are_leaps [folkD fs, d] = some (.bool (leapsB (fs.map (·.1)) d)) := by
  cases d with
  | list ds =>
    obtain ⟨j, rfl, hds, hx⟩ := nc_lst h
    have i1 : isiD "list" (.list ds) = some (.bool true) := rfl
    have l1 : dLen (.list ds) = some (.int (ds.length : Nat)) := rfl
    have q1 : dGtI (.int (ds.length : Nat)) (.int 7) = some (.bool (decide (7 < ds.length))) := by
      show some (PyData.bool (decide ((7 : Int) < (ds.length : Int)))) = _
      congr 2
      exact decide_eq_decide.mpr (by omega)
    unfold fn__law_are_leaps b__law_are_leaps leapsB
    simp only [runD, List.map_cons, List.map_nil, List.cons_append, List.nil_append, List.replicate_succ, List.replicate_zero]
    cases hb : decide (7 < ds.length) with
    | true =>
      rw [hb] at q1
      simp only [e_sSeq, e_sIf, e_fOr, e_fNot, e_fTest, e_fUn, e_fOp, e_fVar, e_fC, List.getElem?_cons_zero, List.getElem?_cons_succ, i1, l1, q1, Bool.not_true, e_sRet, Bool.false_and]
    | false =>
      rw [hb] at q1
      have h7 : ds.length ≤ 7 := by
        have := of_decide_eq_false hb
        omega
      rw [seq_of (δ1 := [.dat (folkD fs), .dat (.list ds), .un, .un, .un, .un, .un]) (by
        simp only [e_sIf, e_fOr, e_fNot, e_fTest, e_fUn, e_fOp, e_fVar, e_fC, List.getElem?_cons_zero, List.getElem?_cons_succ, i1, l1, q1, Bool.not_true, e_sNx]),
        seq_of (δ1 := [.dat (folkD fs), .dat (.list ds), .dat (.list (strsD [])), .un, .un, .un, .un]) rfl]
      have hlp := lo_loop hl hn (k := j) (t := t) ht (by omega) (.list ds) ds [] .un .un .un .un rfl hx (by show 0 + _ ≤ _; omega)
      have hfi : fItems (fVar 1) [.dat (folkD fs), .dat (.list ds), .dat (.list (strsD [])), .un, .un, .un, .un] = some (ds, [.dat (folkD fs), .dat (.list ds), .dat (.list (strsD [])), .un, .un, .un, .un]) := rfl
      cases ha : ds.all (onceB (fs.map (·.1))) with
      | false =>
        rw [ha] at hlp
        obtain ⟨δ, hlp⟩ := (if_neg Bool.false_ne_true).mp hlp
        have := sFor_of hfi hlp
        unfold loBody liBody at this
        rw [e_sSeq, this]
        rfl
      | true =>
        rw [ha] at hlp
        obtain ⟨y3, y4, y5, hlp⟩ := (if_pos rfl).mp hlp
        have hf := sFor_of hfi hlp
        unfold loBody liBody at hf
        rw [seq_of hf, List.nil_append]
        have len : (allN ds).length ≤ 4000 := by
          have : ∀ (ds : List PyData), (∀ d, d ∈ ds → Nc j t d) → (allN ds).length ≤ 26 * ds.length := by
            intro ds
            induction ds with
            | nil => intro _; exact Nat.le_refl _
            | cons d ds ih =>
              intro h
              have ih := ih fun e he => h e (List.mem_cons_of_mem _ he)
              have hd : (rowsN d).length ≤ 26 := by
                cases d with
                | tuple es =>
                  obtain ⟨_, _, z, _⟩ := nc_tup (h _ List.mem_cons_self)
                  show (es.map nmOf).length ≤ 26
                  rw [List.length_map]
                  omega
                | _ => exact Nat.zero_le _
              unfold allN at ih ⊢
              rw [List.map_cons, List.flatten_cons, List.length_append, List.length_cons]
              omega
          have := this ds hx
          omega
        have h5 := lset_eq len
        have h6 : dLen (.list (strsD (allN ds))) = some (.int ((allN ds).length : Nat)) := by
          show some (PyData.int (((allN ds).map PyData.str).length : Nat)) = _
          rw [List.length_map]
        have h8 : dEq (.int ((allN ds).length : Nat)) (.int ((metT (allN ds) []).length : Nat)) = some (.bool (lenOk (allN ds))) := by
          show some (PyData.bool (decide (((allN ds).length : Int) = ((metT (allN ds) []).length : Int)))) = _
          congr 2
          exact decide_eq_decide.mpr ⟨fun z => z.symm, fun z => z.symm⟩
        simp only [e_sRet, e_fOp, e_fUn, e_fVar, List.getElem?_cons_zero, List.getElem?_cons_succ, h5, h6, h8, Bool.not_false, Bool.true_and]
  | dict _ => exact (nc_dic h).elim
  | _ => rfl
end
end Lc
set_option exponentiation.threshold 10000
set_option maxHeartbeats 1000000
namespace Lc
open PySem L2 Evl RZ Sm
/-! ### texts that stay short -/
theorem asc_app {a b : Str} (ha : asc a) (hb : asc b) : asc (a ++ b) := fun c hc => by
  have hc : c ∈ (a.cps ++ b.cps).toList := hc
  rw [Array.toList_append, List.mem_append] at hc
  exact hc.elim (ha c) (hb c)
theorem len_app (a b : Str) : (a ++ b).length = a.length + b.length := by
  show (a.cps ++ b.cps).size = _
  exact Array.size_append
theorem cut_asc {z : Str} (h : asc z) (lo hi : Option Int) : asc (cutS z lo hi) := fun c hc => h c (by
  unfold cutS at hc
  exact List.mem_of_mem_drop (List.mem_of_mem_take hc))
theorem cut_len (z : Str) (lo hi : Option Int) : (cutS z lo hi).length ≤ z.length := by
  show ((z.cps.toList.drop (HT.sIx z.length 0 lo)).take (HT.sIx z.length z.length hi - HT.sIx z.length 0 lo)).toArray.size ≤ z.cps.size
  rw [List.size_toArray, List.length_take, List.length_drop, Array.length_toList]
  omega
theorem up_sign : ∀ c, c < 128 → ∀ x, x ∈ Unicode.upperOf c → x < 128 := by
  have : ((List.range 128).all fun c => (Unicode.upperOf c).all fun x => decide (x < 128)) = true := by decide +kernel
  intro c hc x hx
  rw [List.all_eq_true] at this
  have h1 := this c (List.mem_range.mpr hc)
  rw [List.all_eq_true] at h1
  exact of_decide_eq_true (h1 x hx)
theorem up_asc {z : Str} (h : asc z) : asc (Txt.upper z) := fun c hc => by
  have hc : c ∈ ((z.cps.mapIdx fun i c => (Unicode.upperOf c).toArray).flatten).toList := hc
  rw [Array.mem_toList_iff, Array.mem_flatten] at hc
  obtain ⟨xs, h1, h2⟩ := hc
  obtain ⟨i, hi, rfl⟩ := Array.mem_mapIdx.mp h1
  exact up_sign z.cps[i] (h _ (by simp)) c (by simpa using h2)
theorem int_asc (i : Int) : asc (toString i : String) := fun c hc => by
  have hc : c ∈ (Str.ofString (toString i)).cps.toList := hc
  rw [Str.ofString_eq_toList] at hc
  have hc : c ∈ ((toString i).toList.map Char.toNat) := by simpa using hc
  obtain ⟨x, hx, rfl⟩ := List.mem_map.mp hc
  exact int_ascii i x hx
theorem int_len {i : Int} (h : i.natAbs ≤ 2 ^ 100 + 6000) : i.natAbs.log2 < 1920 ∧ (Str.ofString (toString i)).length ≤ 120 := by
  have h1 : i.natAbs < 2 ^ 101 := Nat.lt_of_le_of_lt h (by decide)
  have h2 : i.natAbs.log2 < 101 := by
    by_cases z : i.natAbs = 0
    · rw [z]
      decide
    · exact (Nat.log2_lt z).mpr h1
  refine ⟨by omega, ?_⟩
  have h3 := int_text_length_le (k := 101) (by decide) h2
  rw [ofString_length]
  omega
/-! ### odd things -/
def ncB : Nat → Nat → PyData → Bool
  | 0, t, d => match d with
    | .none => true
    | .bool _ => true
    | .int i => decide (i.natAbs ≤ 2 ^ 100 + 1000 * t)
    | .str s => decide (s.length ≤ 40 * 3 ^ t) && s.cps.toList.all fun c => decide (c < 128)
    | _ => false
  | k + 1, t, d => match d with
    | .none => true
    | .bool _ => true
    | .int i => decide (i.natAbs ≤ 2 ^ 100 + 1000 * t)
    | .str s => decide (s.length ≤ 40 * 3 ^ t) && s.cps.toList.all fun c => decide (c < 128)
    | .list ds => decide (ds.length ≤ 20 + t) && ds.all (ncB k t)
    | .tuple ds => decide (ds.length ≤ 20 + t) && ds.all (ncB k t)
    | _ => false
theorem ncB_ok : ∀ {k t : Nat} {d : PyData}, ncB k t d = true → Nc k t d
  | 0, t, d, h => by
    cases d with
    | none => trivial
    | bool _ => trivial
    | int i => exact of_decide_eq_true (p := i.natAbs ≤ 2 ^ 100 + 1000 * t) h
    | str s =>
      have h : (decide (s.length ≤ 40 * 3 ^ t) && s.cps.toList.all fun c => decide (c < 128)) = true := h
      rw [Bool.and_eq_true, decide_eq_true_iff, List.all_eq_true] at h
      exact ⟨h.1, fun c hc => of_decide_eq_true (h.2 c hc)⟩
    | _ => cases h
  | k + 1, t, d, h => by
    cases d with
    | none => trivial
    | bool _ => trivial
    | int i => exact of_decide_eq_true (p := i.natAbs ≤ 2 ^ 100 + 1000 * t) h
    | str s =>
      have h : (decide (s.length ≤ 40 * 3 ^ t) && s.cps.toList.all fun c => decide (c < 128)) = true := h
      rw [Bool.and_eq_true, decide_eq_true_iff, List.all_eq_true] at h
      exact ⟨h.1, fun c hc => of_decide_eq_true (h.2 c hc)⟩
    | list ds =>
      have h : (decide (ds.length ≤ 20 + t) && ds.all (ncB k t)) = true := h
      rw [Bool.and_eq_true, decide_eq_true_iff, List.all_eq_true] at h
      exact ⟨h.1, fun x hx => ncB_ok (h.2 x hx)⟩
    | tuple ds =>
      have h : (decide (ds.length ≤ 20 + t) && ds.all (ncB k t)) = true := h
      rw [Bool.and_eq_true, decide_eq_true_iff, List.all_eq_true] at h
      exact ⟨h.1, fun x hx => ncB_ok (h.2 x hx)⟩
    | dict _ => cases h
def odd1 : List PyData := [.none, .bool true, .bool false, .int 0, .int 1, .int (-1), .int 5, .int (10 ^ 30), .str "", .str "ann", .tuple [], .list [], .tuple [.int 1, .int 2], .tuple [.int (-1), .int 2], .tuple [.int 2, .int 4], .tuple [.int 0, .int 2], .tuple [.int 0, .int 1]]
def odd2 : List PyData := [.tuple [.none], .tuple [.str "ann", .int 1], .tuple [.tuple [.str "ann", .int 1]], .list [.tuple [.tuple [.str "ann", .int 1]]], .tuple [.str "ann", .bool true], .tuple [.tuple [.str "ann", .int 1, .int 1]], .tuple [.tuple [], .tuple [.int 0, .int 1]]]
theorem odd_all : ∀ d, d ∈ odd1 ++ odd2 → Nc 4 0 d := fun d hd => by
  have : ((odd1 ++ odd2).all (ncB 4 0)) = true := by decide +kernel
  rw [List.all_eq_true] at this
  exact ncB_ok (this d hd)
theorem ix_of {ds : List PyData} {r : Int} (h0 : 0 ≤ r) (h1 : r < ds.length) : ∃ d, d ∈ ds ∧ dIx (.list ds) (.int r) = some d := by
  obtain ⟨n, rfl⟩ := Int.eq_ofNat_of_zero_le h0
  have hn : n < ds.length := by omega
  exact ⟨ds[n], List.getElem_mem hn, atI_nat (j := n) (List.getElem?_eq_getElem hn)⟩
theorem odd_ok {b : List PyData} (hb : Bg b) : ∃ d b', fn__law_odd b [] = some (d, b') ∧ Nc 4 0 d ∧ Bg b' := by
  obtain ⟨r, b1, h1, hr0, hr1, hb1⟩ := take_ok (m := 24) hb (by decide) (by decide)
  obtain ⟨d, hd, hi⟩ := ix_of (ds := odd1 ++ odd2) hr0 hr1
  refine ⟨d, b1, ?_, odd_all d hd, hb1⟩
  have e1 : fOfL (fLst (fCons (fC .none) (fCons (fC (.bool true)) (fCons (fC (.bool false)) (fCons (fC (.int 0)) (fCons (fC (.int 1)) (fCons (fUn dNeg (fC (.int 1))) (fCons (fC (.int 5)) (fCons (fOp dPow (fC (.int 10)) (fC (.int 30))) (fCons (fC (.str "")) (fCons (fC (.str "ann")) (fCons (fTup fNil) (fCons (fOfL (fLst fNil)) (fCons (fTup (fCons (fC (.int 1)) (fCons (fC (.int 2)) fNil))) (fCons (fTup (fCons (fUn dNeg (fC (.int 1))) (fCons (fC (.int 2)) fNil))) (fCons (fTup (fCons (fC (.int 2)) (fCons (fC (.int 4)) fNil))) (fCons (fTup (fCons (fC (.int 0)) (fCons (fC (.int 2)) fNil))) (fCons (fTup (fCons (fC (.int 0)) (fCons (fC (.int 1)) fNil))) fNil)))))))))))))))))) [.bag b, .un] = some (.list odd1, [.bag b, .un]) := rfl
  have e2 : dAdd (.list odd1) (.list odd2) = some (.list (odd1 ++ odd2)) := cat_lst (by decide)
  have e3 : dLen (.list (odd1 ++ odd2)) = some (.int 24) := rfl
  unfold fn__law_odd b__law_odd
  simp only [runB, List.map_nil, List.nil_append, List.replicate_succ, List.replicate_zero]
  rw [seq_of (δ1 := [.bag b, .dat (.list odd1)]) (by
    rw [e_sAsg, e1]
    rfl), seq_of (δ1 := [.bag b, .dat (.list (odd1 ++ odd2))]) rfl]
  simp only [e_sRet, e_fOp, e_fVar, e_fCallB, ownAt, EV.cont, e_fCons, e_fNil, e_fUn, List.getElem?_cons_zero, List.getElem?_cons_succ, e3, h1, hi, setOwn, EV.with, List.set_cons_zero]
end Lc
set_option exponentiation.threshold 10000
set_option maxHeartbeats 1000000
namespace Lc
open PySem L2 Evl RZ Sm
/-! ### things spoilt -/
abbrev FnB := List PyData → List PyData → Option (PyData × List PyData)
noncomputable def spMid (self : FnB) : FS := sIf (fTest (fOp dEq (fVar 2) (fC (.int 1)))) (sOwn 3 (fAddL (fSlO 3 fNoPart (fPart (fVar 4))) (fSlO 3 (fPart (fOp dAddB (fVar 4) (fC (.int 1)))) fNoPart))) (sIf (fTest (fOp dEq (fVar 2) (fC (.int 2)))) (sOwn 3 (fAddL (fSlO 3 fNoPart (fPart (fOp dAddB (fVar 4) (fC (.int 1))))) (fSlO 3 (fPart (fVar 4)) fNoPart))) (sIf (fTest (fOp dEq (fVar 2) (fC (.int 3)))) (sSeq (sAsg (fCallB fn__law_take 0 (fCons (fUn dLen (fVarB 3)) fNil)) (gN 5))
    (sSwap 3 4 5)) (sIf (fTest (fOp dEq (fVar 2) (fC (.int 4)))) (sIf (fTest (fUn (isiD "tuple") (fVar 1))) (sRetO 3) (sRet (fUn dTuple (fVarB 3)))) (sSetIx 3 (fCallB self 0 (fCons (fIxO 3 (fVar 4)) fNil)) (fVar 4)))))
noncomputable def spEnd : FS := sIf (fTest (fUn (isiD "tuple") (fVar 1))) (sRet (fUn dTuple (fVarB 3))) (sRetO 3)
noncomputable def spLst (self : FnB) : FS := sSeq (sOwn 3 (fUnL seqOf (fVar 1))) (sSeq (sAsg (fCallB fn__law_take 0 (fCons (fUn dLen (fVarB 3)) fNil)) (gN 4)) (sSeq (spMid self) spEnd))
noncomputable def spStr : FE := fOp dIx (fOfL (fLst (fCons (fOp dAddB (fVar 1) (fC (.str "a"))) (fCons (fSl (fVar 1) fNoPart (fPart (fUn dNegB (fC (.int 1))))) (fCons (fOp dAddB (fVar 1) (fC (.str " "))) (fCons (fUn dUpper (fVar 1)) (fCons (fOp dAddB (fVar 1) (fVar 1)) (fCons (fOp dAddB (fC (.str "z")) (fVar 1)) (fCons (fC (.str "")) fNil))))))))) (fOp dSubB (fVar 2) (fC (.int 2)))
noncomputable def spInt : FE := fOp dIx (fOfL (fLst (fCons (fOp dAddB (fVar 1) (fC (.int 1))) (fCons (fOp dSubB (fVar 1) (fC (.int 1))) (fCons (fUn dNegB (fVar 1)) (fCons (fOp dAddB (fVar 1) (fC (.int 1000))) (fCons (fUn dStr (fVar 1)) (fCons (fOp dAddB (fVar 1) (fC (.int 50))) (fCons (fTup (fCons (fVar 1) fNil)) fNil))))))))) (fOp dSubB (fVar 2) (fC (.int 2)))
theorem spoilt_body (self : FnB) : b__law_spoilt self = sSeq (sAsg (fCallB fn__law_take 0 (fCons (fC (.int 9)) fNil)) (gN 2))
    (sSeq (sIf (fAnd (fTest (fUn (isiD2 "tuple" "list") (fVar 1))) (fAnd (fTest (fOp dGtI (fUn dLen (fVar 1)) (fC (.int 0)))) (fTest (fOp dGtI (fVar 2) (fC (.int 0)))))) (spLst self) sNx)
    (sSeq (sIf (fAnd (fTest (fUn (isiD "str") (fVar 1))) (fTest (fOp dGtI (fVar 2) (fC (.int 1))))) (sRet spStr) sNx)
    (sSeq (sIf (fAnd (fTest (fUn (isiD "int") (fVar 1))) (fTest (fOp dGtI (fVar 2) (fC (.int 1))))) (sRet spInt) sNx)
    (sRet (fCallB fn__law_odd 0 fNil))))) := rfl
theorem ixN_in {n : Nat} {a : Int} (h0 : 0 ≤ a) (h1 : a < n) : ixN n a = some a.toNat := by
  unfold ixN
  rw [if_pos h0, if_pos h1]
theorem at_in {ds : List PyData} {a : Int} (h0 : 0 ≤ a) (h1 : a < ds.length) : ∃ x, x ∈ ds ∧ ds[a.toNat]? = some x ∧ atI ds a = some x := by
  have hn : a.toNat < ds.length := by omega
  refine ⟨ds[a.toNat], List.getElem_mem hn, List.getElem?_eq_getElem hn, ?_⟩
  unfold atI
  rw [ixN_in h0 h1]
  exact List.getElem?_eq_getElem hn
/-- what comes of a list or tuple -/
def seqD (tup : Bool) (es : List PyData) : PyData := if tup = true then .tuple es else .list es
def okSelf (self : FnB) (j t : Nat) : Prop := ∀ b x, Bg b → Nc j t x → ∃ x' b', self b [x] = some (x', b') ∧ Nc (j + 4) (t + 1) x' ∧ Bg b'
section
variable {self : FnB} {j t : Nat} {ds : List PyData} {tup : Bool}
theorem sp_mid (ht : t ≤ 5) (hs : okSelf self j t) (hx : ∀ x, x ∈ ds → Nc j t x) (hl : ds.length ≤ 20 + t) {b : List PyData} (hb : Bg b) {r a : Int} (hr : 0 < r ∧ r < 9) (h0 : 0 ≤ a) (h1 : a < ds.length) :
    (∃ b' es x5, spMid self [.bag b, .dat (seqD tup ds), .dat (.int r), .own ds, .dat (.int a), .un] = some (.nx [.bag b', .dat (seqD tup ds), .dat (.int r), .own es, .dat (.int a), x5]) ∧ Bg b' ∧ es.length ≤ ds.length + 1 ∧ ∀ x, x ∈ es → Nc (j + 4) (t + 1) x) ∨
    (∃ o, spMid self [.bag b, .dat (seqD tup ds), .dat (.int r), .own ds, .dat (.int a), .un] = some o ∧ ((∃ δ, o = .rt (.tuple ds) (.bag b :: δ)) ∨ ∃ δ, o = .rl ds (.bag b :: δ))) := by
  have up : ∀ x, x ∈ ds → Nc (j + 4) (t + 1) x := fun x hm => nc_mono (by omega) (by omega) (hx x hm)
  have c1 := cut_to ds h0
  have c2 := cut_from ds (m := a + 1) (by omega)
  have c3 := cut_to ds (m := a + 1) (by omega)
  have c4 := cut_from ds h0
  have ai : dAddB (.int a) (.int 1) = some (.int (a + 1)) := rfl
  obtain ⟨x, xm, x1, x2⟩ := at_in h0 h1
  have hcase : r = 1 ∨ r = 2 ∨ r = 3 ∨ r = 4 ∨ 5 ≤ r := by omega
  have q : ∀ n : Int, dEq (.int r) (.int n) = some (.bool (decide (r = n))) := fun n => rfl
  unfold spMid
  rcases hcase with rfl | rfl | rfl | rfl | h5
  · left
    refine ⟨b, ds.take a.toNat ++ ds.drop (a + 1).toNat, .un, ?_, hb, ?_, fun y hy => ?_⟩
    · simp only [e_sIf, e_fTest, e_fOp, e_fVar, e_fC, List.getElem?_cons_zero, List.getElem?_cons_succ, q, decide_true, e_sOwn, e_fAddL, e_fSlO, ownAt, EV.cont, e_fNoPart, e_fPart, ai, c1, c2]
      rw [if_pos (by rw [List.length_take, List.length_drop]; omega)]
      rfl
    · rw [List.length_append, List.length_take, List.length_drop]
      omega
    · exact up y ((List.mem_append.mp hy).elim List.mem_of_mem_take List.mem_of_mem_drop)
  · left
    refine ⟨b, ds.take (a + 1).toNat ++ ds.drop a.toNat, .un, ?_, hb, ?_, fun y hy => ?_⟩
    · have q1 : (decide ((2 : Int) = 1)) = false := rfl
      simp only [e_sIf, e_fTest, e_fOp, e_fVar, e_fC, List.getElem?_cons_zero, List.getElem?_cons_succ, q, q1, decide_true, e_sOwn, e_fAddL, e_fSlO, ownAt, EV.cont, e_fNoPart, e_fPart, ai, c3, c4]
      rw [if_pos (by rw [List.length_take, List.length_drop]; omega)]
      rfl
    · rw [List.length_append, List.length_take, List.length_drop]
      omega
    · exact up y ((List.mem_append.mp hy).elim List.mem_of_mem_take List.mem_of_mem_drop)
  · left
    obtain ⟨o, b', ho, ho0, ho1, hb'⟩ := take_ok (m := (ds.length : Nat)) hb (by omega) (by omega)
    obtain ⟨y, ym, y1, y2⟩ := at_in ho0 ho1
    refine ⟨b', (ds.set a.toNat y).set o.toNat x, .dat (.int o), ?_, hb', by rw [List.length_set, List.length_set]; omega, fun z hz => ?_⟩
    · have q1 : (decide ((3 : Int) = 1)) = false := rfl
      have q2 : (decide ((3 : Int) = 2)) = false := rfl
      have l1 : dLen (.list ds) = some (.int (ds.length : Nat)) := rfl
      simp only [e_sIf, e_fTest, e_fOp, e_fVar, e_fC, List.getElem?_cons_zero, List.getElem?_cons_succ, q, q1, q2, decide_true, e_sSeq, e_sAsg, e_fCallB, ownAt, EV.cont, e_fCons, e_fNil, e_fUn, e_fVarB, l1, ho, setOwn, EV.with, List.set_cons_zero, List.set_cons_succ, e_gN]
      unfold sSwap
      simp only [ownAt, EV.cont, List.getElem?_cons_zero, List.getElem?_cons_succ, ixN_in h0 h1, ixN_in ho0 ho1, x1, y1, setOwn, EV.with, List.set_cons_zero, List.set_cons_succ]
    · rcases List.mem_or_eq_of_mem_set hz with hz | rfl
      · rcases List.mem_or_eq_of_mem_set hz with hz | rfl
        · exact up z hz
        · exact up _ ym
      · exact up _ xm
  · right
    have q1 : (decide ((4 : Int) = 1)) = false := rfl
    have q2 : (decide ((4 : Int) = 2)) = false := rfl
    have q3 : (decide ((4 : Int) = 3)) = false := rfl
    cases tup with
    | true => exact ⟨_, rfl, .inr ⟨_, rfl⟩⟩
    | false => exact ⟨_, rfl, .inl ⟨_, rfl⟩⟩
  · left
    obtain ⟨x', b', hx', hn', hb'⟩ := hs b x hb (hx x xm)
    refine ⟨b', ds.set a.toNat x', .un, ?_, hb', by rw [List.length_set]; omega, fun z hz => ?_⟩
    · have q1 : (decide (r = 1)) = false := decide_eq_false (by omega)
      have q2 : (decide (r = 2)) = false := decide_eq_false (by omega)
      have q3 : (decide (r = 3)) = false := decide_eq_false (by omega)
      have q4 : (decide (r = 4)) = false := decide_eq_false (by omega)
      simp only [e_sIf, e_fTest, e_fOp, e_fVar, e_fC, List.getElem?_cons_zero, List.getElem?_cons_succ, q, q1, q2, q3, q4, e_sSetIx, e_fCallB, e_fIxO, ownAt, EV.cont, e_fCons, e_fNil, x2, hx', setOwn, EV.with, List.set_cons_zero, List.set_cons_succ, ixN_in h0 h1]
    · rcases List.mem_or_eq_of_mem_set hz with hz | rfl
      · exact up z hz
      · exact hn'
theorem sp_lst (ht : t ≤ 5) (hs : okSelf self j t) (hx : ∀ x, x ∈ ds → Nc j t x) (hl : ds.length ≤ 20 + t) (hne : 0 < ds.length) {b : List PyData} (hb : Bg b) {r : Int} (hr : 0 < r ∧ r < 9) :
    ∃ o b' es, spLst self [.bag b, .dat (seqD tup ds), .dat (.int r), .un, .un, .un] = some o ∧ ((∃ δ, o = .rt (.tuple es) (.bag b' :: δ)) ∨ ∃ δ, o = .rl es (.bag b' :: δ)) ∧ Bg b' ∧ es.length ≤ ds.length + 1 ∧ ∀ x, x ∈ es → Nc (j + 4) (t + 1) x := by
  obtain ⟨a, b1, h1, ha0, ha1, hb1⟩ := take_ok (m := (ds.length : Nat)) hb (by omega) (by omega)
  have l1 : dLen (.list ds) = some (.int (ds.length : Nat)) := rfl
  have sq : seqOf (seqD tup ds) = some ds := by cases tup <;> rfl
  unfold spLst
  rw [seq_of (δ1 := [.bag b, .dat (seqD tup ds), .dat (.int r), .own ds, .un, .un]) (by
      simp only [e_sOwn, e_fUnL, e_fVar, List.getElem?_cons_zero, List.getElem?_cons_succ, sq]
      rfl),
    seq_of (δ1 := [.bag b1, .dat (seqD tup ds), .dat (.int r), .own ds, .dat (.int a), .un]) (by
      simp only [e_sAsg, e_fCallB, ownAt, EV.cont, e_fCons, e_fNil, e_fUn, e_fVarB, List.getElem?_cons_zero, List.getElem?_cons_succ, l1, h1, setOwn, EV.with, List.set_cons_zero, List.set_cons_succ, e_gN])]
  rcases sp_mid (tup := tup) ht hs hx hl hb1 hr ha0 ha1 with ⟨b2, es, x5, h2, hb2, hl2, hx2⟩ | ⟨o, h2, ho⟩
  · rw [seq_of h2]
    cases tup with
    | true => exact ⟨_, b2, es, rfl, .inl ⟨_, rfl⟩, hb2, hl2, hx2⟩
    | false => exact ⟨_, b2, es, rfl, .inr ⟨_, rfl⟩, hb2, hl2, hx2⟩
  · refine ⟨o, b1, ds, ?_, ho, hb1, by omega, fun x hm => nc_mono (by omega) (by omega) (hx x hm)⟩
    rcases ho with ⟨δ, rfl⟩ | ⟨δ, rfl⟩
    · rw [e_sSeq, h2]
    · rw [e_sSeq, h2]
end
end Lc
set_option exponentiation.threshold 10000
set_option maxHeartbeats 1000000
namespace Lc
open PySem L2 Evl RZ Sm
theorem p3s (t : Nat) : 40 * 3 ^ (t + 1) = 3 * (40 * 3 ^ t) := by
  rw [Nat.pow_succ]
  omega
theorem p3pos (t : Nat) : 40 ≤ 40 * 3 ^ t := Nat.le_mul_of_pos_right _ (Nat.pow_pos (by decide))
theorem asc_lit {s : Str} (h : (s.cps.toList.all fun c => decide (c < 128)) = true) : asc s := fun c hc => of_decide_eq_true (List.all_eq_true.mp h c hc)
theorem cat_str {a b : Str} (h : a.length + b.length ≤ 100000) : dAddB (.str a) (.str b) = some (.str (a ++ b)) := by
  have e : dCatS (.str a) (.str b) = some (.str (a ++ b)) := if_pos h
  simp only [e_orF, fI0, e]
section
variable {k t : Nat} {b : List PyData} {r : Int}
theorem sp_str (ht : t ≤ 5) {s : Str} (hs : s.length ≤ 40 * 3 ^ t) (ha : asc s) (hr : 1 < r ∧ r < 9) : ∃ d, spStr [.bag b, .dat (.str s), .dat (.int r), .un, .un, .un] = some (d, [.bag b, .dat (.str s), .dat (.int r), .un, .un, .un]) ∧ leafOk (t + 1) d := by
  have hsm := small_str (show t ≤ 6 by omega) hs
  have h5 : s.length ≤ 40 * 3 ^ 5 := Nat.le_trans hs (p3 ht)
  have hm : s.length ≤ 9720 := h5
  have c1 := cat_str (a := s) (b := "a") (by show s.length + 1 ≤ _; omega)
  have c2 : dSl (.str s) none (some (-1)) = some (.str (cutS s none (some (-1)))) := if_pos hsm
  have c3 := cat_str (a := s) (b := " ") (by show s.length + 1 ≤ _; omega)
  have c4 : dUpper (.str s) = some (.str (Txt.upper s)) := if_pos hsm
  have c5 := cat_str (a := s) (b := s) (by omega)
  have c6 := cat_str (a := "z") (b := s) (by show 1 + s.length ≤ _; omega)
  have n1 : dNegB (.int 1) = some (.int (-1)) := rfl
  have s1 : dSubB (.int r) (.int 2) = some (.int (r - 2)) := rfl
  obtain ⟨d, hd, hi⟩ := ix_of (ds := [.str (s ++ ("a" : Str)), .str (cutS s none (some (-1))), .str (s ++ (" " : Str)), .str (Txt.upper s), .str (s ++ s), .str (("z" : Str) ++ s), .str ""]) (r := r - 2) (by omega) (by show r - 2 < 7; omega)
  refine ⟨d, ?_, ?_⟩
  · unfold spStr
    simp only [e_fOp, e_fOfL, e_fLst, e_fCons, e_fNil, e_fVar, e_fC, e_fSl, e_fNoPart, e_fPart, e_fUn, List.getElem?_cons_zero, List.getElem?_cons_succ, c1, c2, c3, c4, c5, c6, n1, s1, List.length_cons, List.length_nil]
    rw [if_pos (by omega)]
    simp only [e_fOp, e_fVar, e_fC, List.getElem?_cons_zero, List.getElem?_cons_succ, s1, hi]
  · have e3 := p3s t
    have p4 := p3pos t
    simp only [List.mem_cons, List.not_mem_nil, or_false] at hd
    rcases hd with rfl | rfl | rfl | rfl | rfl | rfl | rfl
    · refine ⟨?_, asc_app ha (asc_lit (by decide +kernel))⟩
      rw [len_app]
      show s.length + 1 ≤ _
      omega
    · exact ⟨Nat.le_trans (cut_len s _ _) (by omega), cut_asc ha _ _⟩
    · refine ⟨?_, asc_app ha (asc_lit (by decide +kernel))⟩
      rw [len_app]
      show s.length + 1 ≤ _
      omega
    · have := PyProof.Rows.len_upper s
      exact ⟨by omega, up_asc ha⟩
    · refine ⟨?_, asc_app ha ha⟩
      rw [len_app]
      omega
    · refine ⟨?_, asc_app (asc_lit (by decide +kernel)) ha⟩
      rw [len_app]
      show 1 + s.length ≤ _
      omega
    · exact ⟨Nat.zero_le _, asc_lit (by decide +kernel)⟩
/-- a whole number, or a truth value: v is its worth -/
theorem sp_int (ht : t ≤ 5) {d0 : PyData} {v : Int} (hd0 : (d0 = .int v) ∨ ∃ q, d0 = .bool q ∧ v = i01 q) (hv : v.natAbs ≤ 2 ^ 100 + 1000 * t) (hr : 1 < r ∧ r < 9) : ∃ d, spInt [.bag b, .dat d0, .dat (.int r), .un, .un, .un] = some (d, [.bag b, .dat d0, .dat (.int r), .un, .un, .un]) ∧ Nc (k + 4) (t + 1) d := by
  have c1 : ∀ n : Int, dAddB d0 (.int n) = some (.int (v + n)) := fun n => by
    rcases hd0 with rfl | ⟨q, rfl, rfl⟩ <;> rfl
  have c2 : dSubB d0 (.int 1) = some (.int (v - 1)) := by
    rcases hd0 with rfl | ⟨q, rfl, rfl⟩ <;> rfl
  have c3 : dNegB d0 = some (.int (-v)) := by
    rcases hd0 with rfl | ⟨q, rfl, rfl⟩ <;> rfl
  obtain ⟨s, c4, hs⟩ : ∃ s, dStr d0 = some (.str s) ∧ leafOk (t + 1) (.str s) := by
    have e3 := p3s t
    have p4 := p3pos t
    rcases hd0 with rfl | ⟨q, rfl, rfl⟩
    · have hl := int_len (i := v) (by omega)
      exact ⟨_, if_pos hl.1, Nat.le_trans hl.2 (by omega), int_asc v⟩
    · cases q with
      | true => exact ⟨_, rfl, by show 4 ≤ _; omega, asc_lit (by decide +kernel)⟩
      | false => exact ⟨_, rfl, by show 5 ≤ _; omega, asc_lit (by decide +kernel)⟩
  have s1 : dSubB (.int r) (.int 2) = some (.int (r - 2)) := rfl
  have t1 : ∀ δ : En, (if 0 + 1 ≤ 100000 then some (PyData.tuple [d0], δ) else none) = some (.tuple [d0], δ) := fun δ => if_pos (by omega)
  obtain ⟨d, hd, hi⟩ := ix_of (ds := [.int (v + 1), .int (v - 1), .int (-v), .int (v + 1000), .str s, .int (v + 50), .tuple [d0]]) (r := r - 2) (by omega) (by show r - 2 < 7; omega)
  refine ⟨d, ?_, ?_⟩
  · unfold spInt
    simp only [e_fOp, e_fOfL, e_fLst, e_fCons, e_fNil, e_fVar, e_fC, e_fTup, e_fUn, List.getElem?_cons_zero, List.getElem?_cons_succ, c1, c2, c3, c4, s1, List.length_cons, List.length_nil, t1]
    rw [if_pos (by omega)]
    simp only [e_fOp, e_fVar, e_fC, List.getElem?_cons_zero, List.getElem?_cons_succ, s1, hi]
  · have lf : leafOk (t + 1) d0 := by
      rcases hd0 with rfl | ⟨q, rfl, rfl⟩
      · show v.natAbs ≤ 2 ^ 100 + 1000 * (t + 1)
        omega
      · trivial
    simp only [List.mem_cons, List.not_mem_nil, or_false] at hd
    rcases hd with rfl | rfl | rfl | rfl | rfl | rfl | rfl
    · exact nc_leaf (show (v + 1).natAbs ≤ 2 ^ 100 + 1000 * (t + 1) by omega)
    · exact nc_leaf (show (v - 1).natAbs ≤ 2 ^ 100 + 1000 * (t + 1) by omega)
    · exact nc_leaf (show (-v).natAbs ≤ 2 ^ 100 + 1000 * (t + 1) by omega)
    · exact nc_leaf (show (v + 1000).natAbs ≤ 2 ^ 100 + 1000 * (t + 1) by omega)
    · exact nc_leaf hs
    · exact nc_leaf (show (v + 50).natAbs ≤ 2 ^ 100 + 1000 * (t + 1) by omega)
    · exact ⟨by show 1 ≤ _; omega, fun x hx => by
        obtain rfl := List.mem_singleton.mp hx
        exact nc_leaf lf⟩
end
theorem gt_dec (r n : Int) : dGtI (.int r) (.int n) = some (.bool (decide (n < r))) := rfl
theorem spoilt_ok : ∀ (n : Nat) {k t : Nat} {d : PyData} {b : List PyData}, k < n → t ≤ 5 → Bg b → Nc k t d → ∃ d' b', fnR__law_spoilt n b [d] = some (d', b') ∧ Nc (k + 4) (t + 1) d' ∧ Bg b'
  | 0, k, t, d, b, hk, _, _, _ => absurd hk (by omega)
  | n + 1, k, t, d, b, hk, ht, hb, hd => by
    obtain ⟨r, b1, h1, hr0, hr9, hb1⟩ := take_ok (m := 9) hb (by decide) (by decide)
    obtain ⟨od, b2, h2, hod, hb2⟩ := odd_ok hb1
    have hod' : Nc (k + 4) (t + 1) od := nc_mono (by omega) (by omega) hod
    have e1 : sAsg (fCallB fn__law_take 0 (fCons (fC (.int 9)) fNil)) (gN 2) [.bag b, .dat d, .un, .un, .un, .un] = some (.nx [.bag b1, .dat d, .dat (.int r), .un, .un, .un]) := by
      simp only [e_sAsg, e_fCallB, ownAt, EV.cont, e_fCons, e_fNil, e_fC, List.getElem?_cons_zero, h1, setOwn, EV.with, List.set_cons_zero, List.set_cons_succ, e_gN]
    have eo : sRet (fCallB fn__law_odd 0 fNil) [.bag b1, .dat d, .dat (.int r), .un, .un, .un] = some (.rt od [.bag b2, .dat d, .dat (.int r), .un, .un, .un]) := by
      simp only [e_sRet, e_fCallB, ownAt, EV.cont, e_fNil, List.getElem?_cons_zero, h2, setOwn, EV.with, List.set_cons_zero]
    have run : ∀ (d' : PyData) (b' : List PyData) (δ : En), b__law_spoilt (fnR__law_spoilt n) [.bag b, .dat d, .un, .un, .un, .un] = some (.rt d' (.bag b' :: δ)) → fnR__law_spoilt (n + 1) b [d] = some (d', b') := fun d' b' δ ho => by
      show runB 4 (b__law_spoilt (fnR__law_spoilt n)) b [d] = _
      unfold runB
      rw [show (EV.bag b :: ([d].map EV.dat ++ List.replicate 4 EV.un)) = [.bag b, .dat d, .un, .un, .un, .un] from rfl, ho]
    have runL : ∀ (es : List PyData) (b' : List PyData) (δ : En), b__law_spoilt (fnR__law_spoilt n) [.bag b, .dat d, .un, .un, .un, .un] = some (.rl es (.bag b' :: δ)) → fnR__law_spoilt (n + 1) b [d] = some (.list es, b') := fun d' b' δ ho => by
      show runB 4 (b__law_spoilt (fnR__law_spoilt n)) b [d] = _
      unfold runB
      rw [show (EV.bag b :: ([d].map EV.dat ++ List.replicate 4 EV.un)) = [.bag b, .dat d, .un, .un, .un, .un] from rfl, ho]
    have g0 := gt_dec r 0
    have g1 := gt_dec r 1
    -- what is left where nothing is to be changed within
    have odd : (sIf (fAnd (fTest (fUn (isiD2 "tuple" "list") (fVar 1))) (fAnd (fTest (fOp dGtI (fUn dLen (fVar 1)) (fC (.int 0)))) (fTest (fOp dGtI (fVar 2) (fC (.int 0)))))) (spLst (fnR__law_spoilt n)) sNx [.bag b1, .dat d, .dat (.int r), .un, .un, .un] = some (.nx [.bag b1, .dat d, .dat (.int r), .un, .un, .un])) →
        (sIf (fAnd (fTest (fUn (isiD "str") (fVar 1))) (fTest (fOp dGtI (fVar 2) (fC (.int 1))))) (sRet spStr) sNx [.bag b1, .dat d, .dat (.int r), .un, .un, .un] = some (.nx [.bag b1, .dat d, .dat (.int r), .un, .un, .un])) →
        (sIf (fAnd (fTest (fUn (isiD "int") (fVar 1))) (fTest (fOp dGtI (fVar 2) (fC (.int 1))))) (sRet spInt) sNx [.bag b1, .dat d, .dat (.int r), .un, .un, .un] = some (.nx [.bag b1, .dat d, .dat (.int r), .un, .un, .un])) →
        ∃ d' b', fnR__law_spoilt (n + 1) b [d] = some (d', b') ∧ Nc (k + 4) (t + 1) d' ∧ Bg b' := fun z1 z2 z3 => by
      refine ⟨od, b2, ?_, hod', hb2⟩
      exact run _ _ _ (by rw [spoilt_body, seq_of e1, seq_of z1, seq_of z2, seq_of z3, eo])
    have lst : ∀ (tup : Bool) (ds : List PyData), d = seqD tup ds → (∃ j, k = j + 1 ∧ ds.length ≤ 20 + t ∧ ∀ x, x ∈ ds → Nc j t x) → ∃ d' b', fnR__law_spoilt (n + 1) b [d] = some (d', b') ∧ Nc (k + 4) (t + 1) d' ∧ Bg b' := by
      rintro tup ds rfl ⟨j, rfl, hl, hx⟩
      have i1 : isiD2 "tuple" "list" (seqD tup ds) = some (.bool true) := by cases tup <;> rfl
      have i2 : isiD "str" (seqD tup ds) = some (.bool false) := by cases tup <;> rfl
      have i3 : isiD "int" (seqD tup ds) = some (.bool false) := by cases tup <;> rfl
      have l1 : dLen (seqD tup ds) = some (.int (ds.length : Nat)) := by cases tup <;> rfl
      have gl : dGtI (.int (ds.length : Nat)) (.int 0) = some (.bool (decide (0 < ds.length))) := by
        show some (PyData.bool (decide ((0 : Int) < (ds.length : Int)))) = _
        congr 2
        exact decide_eq_decide.mpr (by omega)
      by_cases c : 0 < ds.length ∧ 0 < r
      · obtain ⟨o, b', es, ho, hso, hb', hl', hx'⟩ := sp_lst (tup := tup) (self := fnR__law_spoilt n) ht (fun b x hb hx => spoilt_ok n (by omega) ht hb hx) hx hl c.1 hb1 ⟨c.2, hr9⟩
        have z1 : sIf (fAnd (fTest (fUn (isiD2 "tuple" "list") (fVar 1))) (fAnd (fTest (fOp dGtI (fUn dLen (fVar 1)) (fC (.int 0)))) (fTest (fOp dGtI (fVar 2) (fC (.int 0)))))) (spLst (fnR__law_spoilt n)) sNx [.bag b1, .dat (seqD tup ds), .dat (.int r), .un, .un, .un] = some o := by
          rw [← ho]
          simp only [e_sIf, e_fAnd, e_fTest, e_fUn, e_fOp, e_fVar, e_fC, List.getElem?_cons_zero, List.getElem?_cons_succ, i1, l1, gl, g0, decide_eq_true c.1, decide_eq_true c.2]
        have nc : ∀ d' : PyData, d' = .tuple es ∨ d' = .list es → Nc (j + 1 + 4) (t + 1) d' := fun d' hd' => by
          rcases hd' with rfl | rfl
          · exact ⟨by omega, fun x hm => nc_mono (by omega) (by omega) (hx' x hm)⟩
          · exact ⟨by omega, fun x hm => nc_mono (by omega) (by omega) (hx' x hm)⟩
        rcases hso with ⟨δ, rfl⟩ | ⟨δ, rfl⟩
        · exact ⟨.tuple es, b', run _ _ _ (by rw [spoilt_body, seq_of e1, e_sSeq, z1]), nc _ (.inl rfl), hb'⟩
        · exact ⟨.list es, b', runL _ _ _ (by rw [spoilt_body, seq_of e1, e_sSeq, z1]), nc _ (.inr rfl), hb'⟩
      · refine odd ?_ ?_ ?_
        · by_cases c0 : 0 < ds.length
          · have c1 : ¬ 0 < r := fun z => c ⟨c0, z⟩
            simp only [e_sIf, e_fAnd, e_fTest, e_fUn, e_fOp, e_fVar, e_fC, List.getElem?_cons_zero, List.getElem?_cons_succ, i1, l1, gl, g0, decide_eq_true c0, decide_eq_false c1, e_sNx]
          · simp only [e_sIf, e_fAnd, e_fTest, e_fUn, e_fOp, e_fVar, e_fC, List.getElem?_cons_zero, List.getElem?_cons_succ, i1, l1, gl, decide_eq_false c0, e_sNx]
        · simp only [e_sIf, e_fAnd, e_fTest, e_fUn, e_fVar, List.getElem?_cons_zero, List.getElem?_cons_succ, i2, e_sNx]
        · simp only [e_sIf, e_fAnd, e_fTest, e_fUn, e_fVar, List.getElem?_cons_zero, List.getElem?_cons_succ, i3, e_sNx]
    have num : ∀ v : Int, ((d = .int v) ∨ ∃ q, d = .bool q ∧ v = i01 q) → v.natAbs ≤ 2 ^ 100 + 1000 * t → ∃ d' b', fnR__law_spoilt (n + 1) b [d] = some (d', b') ∧ Nc (k + 4) (t + 1) d' ∧ Bg b' := fun v hv hvb => by
      have i1 : isiD2 "tuple" "list" d = some (.bool false) := by rcases hv with rfl | ⟨q, rfl, _⟩ <;> rfl
      have i2 : isiD "str" d = some (.bool false) := by rcases hv with rfl | ⟨q, rfl, _⟩ <;> rfl
      have i3 : isiD "int" d = some (.bool true) := by rcases hv with rfl | ⟨q, rfl, _⟩ <;> rfl
      have z1 : sIf (fAnd (fTest (fUn (isiD2 "tuple" "list") (fVar 1))) (fAnd (fTest (fOp dGtI (fUn dLen (fVar 1)) (fC (.int 0)))) (fTest (fOp dGtI (fVar 2) (fC (.int 0)))))) (spLst (fnR__law_spoilt n)) sNx [.bag b1, .dat d, .dat (.int r), .un, .un, .un] = some (.nx [.bag b1, .dat d, .dat (.int r), .un, .un, .un]) := by
        simp only [e_sIf, e_fAnd, e_fTest, e_fUn, e_fVar, List.getElem?_cons_zero, List.getElem?_cons_succ, i1, e_sNx]
      have z2 : sIf (fAnd (fTest (fUn (isiD "str") (fVar 1))) (fTest (fOp dGtI (fVar 2) (fC (.int 1))))) (sRet spStr) sNx [.bag b1, .dat d, .dat (.int r), .un, .un, .un] = some (.nx [.bag b1, .dat d, .dat (.int r), .un, .un, .un]) := by
        simp only [e_sIf, e_fAnd, e_fTest, e_fUn, e_fVar, List.getElem?_cons_zero, List.getElem?_cons_succ, i2, e_sNx]
      by_cases c : 1 < r
      · obtain ⟨d', hs, hn⟩ := sp_int (k := k) (b := b1) ht hv hvb ⟨c, hr9⟩
        refine ⟨d', b1, ?_, hn, hb1⟩
        exact run d' b1 [.dat d, .dat (.int r), .un, .un, .un] (by
          rw [spoilt_body, seq_of e1, seq_of z1, seq_of z2, e_sSeq]
          simp only [e_sIf, e_fAnd, e_fTest, e_fUn, e_fOp, e_fVar, e_fC, List.getElem?_cons_zero, List.getElem?_cons_succ, i3, g1, decide_eq_true c, e_sRet, hs])
      · refine odd z1 z2 ?_
        simp only [e_sIf, e_fAnd, e_fTest, e_fUn, e_fOp, e_fVar, e_fC, List.getElem?_cons_zero, List.getElem?_cons_succ, i3, g1, decide_eq_false c, e_sNx]
    cases d with
    | none => exact odd rfl rfl rfl
    | bool q => exact num (i01 q) (.inr ⟨q, rfl, rfl⟩) (by
      have : (i01 q).natAbs ≤ 1 := by cases q <;> decide
      omega)
    | int i => exact num i (.inl rfl) (nc_int hd)
    | str s =>
      obtain ⟨hs, ha⟩ := nc_str hd
      have i2 : isiD "str" (.str s) = some (.bool true) := rfl
      by_cases c : 1 < r
      · obtain ⟨d', hs', hn⟩ := sp_str (b := b1) ht hs ha ⟨c, hr9⟩
        refine ⟨d', b1, ?_, nc_leaf hn, hb1⟩
        exact run d' b1 [.dat (.str s), .dat (.int r), .un, .un, .un] (by
          rw [spoilt_body, seq_of e1, seq_of (δ1 := [.bag b1, .dat (.str s), .dat (.int r), .un, .un, .un]) rfl, e_sSeq]
          simp only [e_sIf, e_fAnd, e_fTest, e_fUn, e_fOp, e_fVar, e_fC, List.getElem?_cons_zero, List.getElem?_cons_succ, i2, g1, decide_eq_true c, e_sRet, hs'])
      · refine odd rfl ?_ rfl
        simp only [e_sIf, e_fAnd, e_fTest, e_fUn, e_fOp, e_fVar, e_fC, List.getElem?_cons_zero, List.getElem?_cons_succ, i2, g1, decide_eq_false c, e_sNx]
    | list ds => exact lst false ds rfl (nc_lst hd)
    | tuple ds => exact lst true ds rfl (nc_tup hd)
    | dict q => exact (nc_dic hd).elim
end Lc
set_option exponentiation.threshold 10000
set_option maxHeartbeats 1000000
namespace Lc
open PySem L2 Evl RZ Sm
/-! ### what a cell of the law makes -/
theorem folk_ok1 {b : List PyData} (hb : Bg b) : ∃ fs b', fn__law_folk b [.int 7] = some (folkD fs, b') ∧ fs ≠ [] ∧ OkF fs ∧ (∃ k, fs.map (·.1) = allNames.take k) ∧ Bg b' := by
  obtain ⟨j, b1, h1, hj0, hj3, hb1⟩ := take_ok (m := 2) hb (by decide) (by decide)
  obtain ⟨m, hm, hm1⟩ := pick2 4 100 hj0 hj3
  obtain ⟨r, b2, h2, hr0, hr1, hb2⟩ := take_ok (m := m) hb1 (by omega) (by omega)
  obtain ⟨a, b3, h3, ha0, ha3, hb3⟩ := take_ok (m := 3) hb2 (by decide) (by decide)
  obtain ⟨k, b4, h4, hk0, hk7, hb4⟩ := take_ok (m := 7) hb3 (by decide) (by decide)
  have hcut : cutD [.str "ann", .str "bo", .str "cy", .str "dee", .str "eli", .str "fay", .str "gus"] none (some (1 + k)) = (allNames.take (1 + k).toNat).map PyData.str := by
    have : k = 0 ∨ k = 1 ∨ k = 2 ∨ k = 3 ∨ k = 4 ∨ k = 5 ∨ k = 6 := by omega
    rcases this with rfl | rfl | rfl | rfl | rfl | rfl | rfl <;> rfl
  obtain ⟨fs, b5, y5, y6, hloop, i1, i2, i3⟩ := folk_loop (fast := 1 + r) (by omega) (decide (a = 0)) (allNames.take (1 + k).toNat) b4 [] .un .un hb4 (by
    rw [List.length_nil, List.length_take]
    show 0 + min _ 7 ≤ 1000
    omega)
  have hlen : fs.length ≤ 7 := by
    have : (fs.map (·.1)).length ≤ 7 := by
      rw [i1, List.length_take]
      exact Nat.min_le_right _ _
    rw [List.length_map] at this
    exact this
  have hne : fs ≠ [] := fun z => by
    rw [z] at i1
    have := congrArg List.length i1
    rw [List.length_take] at this
    have e7 : allNames.length = 7 := rfl
    simp only [List.map_nil, List.length_nil] at this
    omega
  refine ⟨fs, b5, ?_, hne, ⟨hlen, i2, by rw [i1]; exact List.Nodup.sublist (List.take_sublist _ _) all_nd⟩, ⟨_, i1⟩, i3⟩
  have hE : dEq (.int a) (.int 0) = some (.bool (decide (a = 0))) := rfl
  have hit : fItems (fSl (fOfL (fLst (fCons (fC (.str "ann")) (fCons (fC (.str "bo")) (fCons (fC (.str "cy")) (fCons (fC (.str "dee")) (fCons (fC (.str "eli")) (fCons (fC (.str "fay")) (fCons (fC (.str "gus")) fNil))))))))) fNoPart (fPart (fOp dAdd (fC (.int 1)) (fCallB fn__law_take 0 (fCons (fVar 1) fNil))))) [.bag b3, .dat (.int 7), .own [], .dat (.int (1 + r)), .dat (.bool (decide (a = 0))), .un, .un] = some ((allNames.take (1 + k).toNat).map PyData.str, [.bag b4, .dat (.int 7), .own [], .dat (.int (1 + r)), .dat (.bool (decide (a = 0))), .un, .un]) := by
    simp only [e_fCallD, e_fCallLD, e_fCallO, e_fAddL, e_fZipB, e_fListZip, e_sOwnD, e_fNewD, e_fDictD, e_sDPutO, e_fDGetO, e_fDGet2, e_sFrzD, e_sPar3, e_fVar, e_fC, e_fOp, e_fUn, e_fNil, e_fCons, e_fTup, e_fLst, e_fOfL, e_fTest, e_fAnd, e_fOr, e_fNot, e_fBool, e_fIf, e_fChain, e_fVarB, e_fUnL, e_fNoPart, e_fPart, e_fSl, e_gN, e_gNl, e_gCs, e_gTp, e_fZip, e_fYes, e_sNx, e_sSeq, e_sAsg, e_sOwn, e_sApp, e_sExt, e_sIns, e_sSetIx, e_fIxO, e_fSlO, e_sRet, e_sRetL, e_sRetO, e_sFrz, e_sDrop, e_sIf, e_sPar, e_fCall, e_fCallL, e_fCallB, e_sParO, e_fOpO, e_fItems, e_fRange, e_fMin, e_orF, fI0, fI, fS0, dNeg, dAbs, dLen, dSum, dTuple, ix_t0, ix_t1, ix_t2, ix_l0, ix_l1, ownAt, setOwn, EV.cont, EV.with, seqOf, itemsOf, List.map_cons, List.map_nil, List.cons_append, List.nil_append, List.replicate_succ, List.replicate_zero, List.getElem?_cons_zero, List.getElem?_cons_succ, List.getElem?_nil, List.set_cons_zero, List.set_cons_succ, List.length_cons, List.length_nil]
    rw [if_pos (by decide)]
    simp only [e_fCallD, e_fCallLD, e_fCallO, e_fAddL, e_fZipB, e_fListZip, e_sOwnD, e_fNewD, e_fDictD, e_sDPutO, e_fDGetO, e_fDGet2, e_sFrzD, e_sPar3, e_fVar, e_fC, e_fOp, e_fUn, e_fNil, e_fCons, e_fTup, e_fLst, e_fOfL, e_fTest, e_fAnd, e_fOr, e_fNot, e_fBool, e_fIf, e_fChain, e_fVarB, e_fUnL, e_fNoPart, e_fPart, e_fSl, e_gN, e_gNl, e_gCs, e_gTp, e_fZip, e_fYes, e_sNx, e_sSeq, e_sAsg, e_sOwn, e_sApp, e_sExt, e_sIns, e_sSetIx, e_fIxO, e_fSlO, e_sRet, e_sRetL, e_sRetO, e_sFrz, e_sDrop, e_sIf, e_sPar, e_fCall, e_fCallL, e_fCallB, e_sParO, e_fOpO, e_fItems, e_fRange, e_fMin, e_orF, fI0, fI, fS0, dNeg, dAbs, dLen, dSum, dTuple, ix_t0, ix_t1, ix_t2, ix_l0, ix_l1, ownAt, setOwn, EV.cont, EV.with, seqOf, itemsOf, List.map_cons, List.map_nil, List.cons_append, List.nil_append, List.replicate_succ, List.replicate_zero, List.getElem?_cons_zero, List.getElem?_cons_succ, List.getElem?_nil, List.set_cons_zero, List.set_cons_succ, List.length_cons, List.length_nil, h4, dSl, hcut]
  have hF := sFor_of hit hloop
  have s2 : sAsg (fOp dAdd (fC (.int 1)) (fCallB fn__law_take 0 (fCons (fOp dIx (fOfL (fLst (fCons (fC (.int 4)) (fCons (fC (.int 100)) fNil)))) (fCallB fn__law_take 0 (fCons (fC (.int 2)) fNil))) fNil))) (gN 3) [.bag b, .dat (.int 7), .own [], .un, .un, .un, .un] = some (.nx [.bag b2, .dat (.int 7), .own [], .dat (.int (1 + r)), .un, .un, .un]) := by
    simp only [e_fCallD, e_fCallLD, e_fCallO, e_fAddL, e_fZipB, e_fListZip, e_sOwnD, e_fNewD, e_fDictD, e_sDPutO, e_fDGetO, e_fDGet2, e_sFrzD, e_sPar3, e_fVar, e_fC, e_fOp, e_fUn, e_fNil, e_fCons, e_fTup, e_fLst, e_fOfL, e_fTest, e_fAnd, e_fOr, e_fNot, e_fBool, e_fIf, e_fChain, e_fVarB, e_fUnL, e_fNoPart, e_fPart, e_fSl, e_gN, e_gNl, e_gCs, e_gTp, e_fZip, e_fYes, e_sNx, e_sSeq, e_sAsg, e_sOwn, e_sApp, e_sExt, e_sIns, e_sSetIx, e_fIxO, e_fSlO, e_sRet, e_sRetL, e_sRetO, e_sFrz, e_sDrop, e_sIf, e_sPar, e_fCall, e_fCallL, e_fCallB, e_sParO, e_fOpO, e_fItems, e_fRange, e_fMin, e_orF, fI0, fI, fS0, dNeg, dAbs, dLen, dSum, dTuple, ix_t0, ix_t1, ix_t2, ix_l0, ix_l1, ownAt, setOwn, EV.cont, EV.with, seqOf, itemsOf, List.map_cons, List.map_nil, List.cons_append, List.nil_append, List.replicate_succ, List.replicate_zero, List.getElem?_cons_zero, List.getElem?_cons_succ, List.getElem?_nil, List.set_cons_zero, List.set_cons_succ, List.length_cons, List.length_nil]
    rw [if_pos (by decide)]
    simp only [e_fCallD, e_fCallLD, e_fCallO, e_fAddL, e_fZipB, e_fListZip, e_sOwnD, e_fNewD, e_fDictD, e_sDPutO, e_fDGetO, e_fDGet2, e_sFrzD, e_sPar3, e_fVar, e_fC, e_fOp, e_fUn, e_fNil, e_fCons, e_fTup, e_fLst, e_fOfL, e_fTest, e_fAnd, e_fOr, e_fNot, e_fBool, e_fIf, e_fChain, e_fVarB, e_fUnL, e_fNoPart, e_fPart, e_fSl, e_gN, e_gNl, e_gCs, e_gTp, e_fZip, e_fYes, e_sNx, e_sSeq, e_sAsg, e_sOwn, e_sApp, e_sExt, e_sIns, e_sSetIx, e_fIxO, e_fSlO, e_sRet, e_sRetL, e_sRetO, e_sFrz, e_sDrop, e_sIf, e_sPar, e_fCall, e_fCallL, e_fCallB, e_sParO, e_fOpO, e_fItems, e_fRange, e_fMin, e_orF, fI0, fI, fS0, dNeg, dAbs, dLen, dSum, dTuple, ix_t0, ix_t1, ix_t2, ix_l0, ix_l1, ownAt, setOwn, EV.cont, EV.with, seqOf, itemsOf, List.map_cons, List.map_nil, List.cons_append, List.nil_append, List.replicate_succ, List.replicate_zero, List.getElem?_cons_zero, List.getElem?_cons_succ, List.getElem?_nil, List.set_cons_zero, List.set_cons_succ, List.length_cons, List.length_nil, h1, hm, h2]
  have s3 : sAsg (fOp dEq (fCallB fn__law_take 0 (fCons (fC (.int 3)) fNil)) (fC (.int 0))) (gN 4) [.bag b2, .dat (.int 7), .own [], .dat (.int (1 + r)), .un, .un, .un] = some (.nx [.bag b3, .dat (.int 7), .own [], .dat (.int (1 + r)), .dat (.bool (decide (a = 0))), .un, .un]) := by
    simp only [e_sAsg, e_fOp, e_fCallB, e_fCons, e_fNil, e_fC, e_gN, ownAt, setOwn, EV.cont, EV.with, List.getElem?_cons_zero, List.set_cons_zero, List.set_cons_succ, h3, hE]
  unfold fn__law_folk b__law_folk
  simp only [runB, List.map_cons, List.map_nil, List.cons_append, List.nil_append, List.replicate_succ, List.replicate_zero]
  rw [seq_of (δ1 := [.bag b, .dat (.int 7), .own [], .un, .un, .un, .un]) rfl, seq_of s2, seq_of s3, seq_of hF]
  rfl
theorem back_same (vs : List Nat) : ∀ (k : Nat) (δ δ4 : En), δ4.length = δ.length → (∀ i, ¬ (k + i) ∈ vs → δ4[i]? = δ[i]?) → (∀ i e, (k + i) ∈ vs → δ[i]? = some e → e.mine = false) → backE vs k δ δ4 = δ
  | _, [], _, _, _, _ => rfl
  | k, e :: δ, [], h, _, _ => by cases h
  | k, e :: δ, e4 :: δ4, h, h1, h2 => by
    have ih := back_same vs (k + 1) δ δ4 (by simpa using h) (fun i hi => by
      have := h1 (i + 1) (by rw [show k + (i + 1) = k + 1 + i by omega]; exact hi)
      simpa using this) (fun i e hi he => h2 (i + 1) e (by rw [show k + (i + 1) = k + 1 + i by omega]; exact hi) (by simpa using he))
    unfold backE
    rw [ih]
    congr 1
    by_cases hm : e.mine = true
    · rw [if_pos hm]
      have hk : ¬ k ∈ vs := fun z => by
        have := h2 0 e (by simpa using z) rfl
        rw [this] at hm
        cases hm
      rw [if_neg (by simpa using hk)]
      have := h1 0 (by simpa using hk)
      simpa using this
    · rw [if_neg hm]
theorem back_set {i : Nat} {δ : En} {d : EV} (h : ∀ e, δ[i]? = some e → e.mine = false) : backE [i] 0 δ (δ.set i d) = δ := by
  refine back_same [i] 0 δ _ (List.length_set) (fun j hj => ?_) (fun j e hj he => ?_)
  · rw [Nat.zero_add] at hj
    exact List.getElem?_set_ne (fun z => hj (by rw [z]; exact List.mem_singleton.mpr rfl))
  · rw [Nat.zero_add] at hj
    obtain rfl := List.mem_singleton.mp hj
    exact h e he
theorem of_ok {b ds : List PyData} (hb : Bg b) (h0 : 0 < ds.length) (h1 : ds.length ≤ 100) : ∃ d b', fn__law_of b [.list ds] = some (d, b') ∧ d ∈ ds ∧ Bg b' := by
  obtain ⟨r, b1, e1, hr0, hr1, hb1⟩ := take_ok (m := (ds.length : Nat)) hb (by omega) (by omega)
  obtain ⟨d, hd, hi⟩ := ix_of (ds := ds) hr0 hr1
  refine ⟨d, b1, ?_, hd, hb1⟩
  have l1 : dLen (.list ds) = some (.int (ds.length : Nat)) := rfl
  unfold fn__law_of b__law_of
  simp only [runB, e_fCallD, e_fCallLD, e_fCallO, e_fAddL, e_fZipB, e_fListZip, e_sOwnD, e_fNewD, e_fDictD, e_sDPutO, e_fDGetO, e_fDGet2, e_sFrzD, e_sPar3, e_fVar, e_fC, e_fOp, e_fUn, e_fNil, e_fCons, e_fTup, e_fLst, e_fOfL, e_fTest, e_fAnd, e_fOr, e_fNot, e_fBool, e_fIf, e_fChain, e_fVarB, e_fUnL, e_fNoPart, e_fPart, e_fSl, e_gN, e_gNl, e_gCs, e_gTp, e_fZip, e_fYes, e_sNx, e_sSeq, e_sAsg, e_sOwn, e_sApp, e_sExt, e_sIns, e_sSetIx, e_fIxO, e_fSlO, e_sRet, e_sRetL, e_sRetO, e_sFrz, e_sDrop, e_sIf, e_sPar, e_fCall, e_fCallL, e_fCallB, e_sParO, e_fOpO, e_fItems, e_fRange, e_fMin, e_orF, fI0, fI, fS0, dNeg, dAbs, dLen, dSum, dTuple, ix_t0, ix_t1, ix_t2, ix_l0, ix_l1, ownAt, setOwn, EV.cont, EV.with, seqOf, itemsOf, List.map_cons, List.map_nil, List.cons_append, List.nil_append, List.replicate_succ, List.replicate_zero, List.getElem?_cons_zero, List.getElem?_cons_succ, List.getElem?_nil, List.set_cons_zero, List.set_cons_succ, List.length_cons, List.length_nil, l1, e1, hi]
def nameOk (s : Str) : Prop := s.length ≤ 40 ∧ asc s
theorem all_ok : ∀ n, n ∈ allNames → nameOk n := fun n hn => by
  have : (allNames.all fun s => decide (s.length ≤ 40) && s.cps.toList.all fun c => decide (c < 128)) = true := by decide +kernel
  rw [List.all_eq_true] at this
  have := this n hn
  rw [Bool.and_eq_true, decide_eq_true_iff, List.all_eq_true] at this
  exact ⟨this.1, fun c hc => of_decide_eq_true (this.2 c hc)⟩
theorem nc_name {k : Nat} {s : Str} (h : nameOk s) : Nc k 0 (.str s) := nc_leaf ⟨by simpa using h.1, h.2⟩
theorem nc_small {k : Nat} {i : Int} (h : i.natAbs ≤ 5000) : Nc k 0 (.int i) := nc_leaf (show i.natAbs ≤ 2 ^ 100 + 1000 * 0 by omega)
theorem nc_seq {k : Nat} {ds : List PyData} (hl : ds.length ≤ 20) (h : ∀ x, x ∈ ds → Nc k 0 x) : Nc (k + 1) 0 (.tuple ds) ∧ Nc (k + 1) 0 (.list ds) := ⟨⟨by omega, h⟩, ⟨by omega, h⟩⟩
section
variable {fs : List Fk} (hf : OkF fs) (hn : ∀ p, p ∈ fs → nameOk p.1)
include hf hn
theorem nc_encF {p : Fk} (hp : p ∈ fs) : Nc 1 0 (encF p) := by
  have := hf.hv p hp
  refine ⟨by show 3 ≤ 20 + 0; omega, fun x hx => ?_⟩
  simp only [List.mem_cons, List.not_mem_nil, or_false] at hx
  rcases hx with rfl | rfl | rfl
  · exact nc_name (hn p hp)
  · exact nc_small (by omega)
  · exact nc_small (by omega)
theorem nc_folk : ∀ x, x ∈ fs.map encF → Nc 1 0 x := fun x hx => by
  obtain ⟨p, hp, rfl⟩ := List.mem_map.mp hx
  exact nc_encF hf hn hp
end
theorem okls_all : ∀ (lss : List (List Lp)) (fs : List Fk), OkLs fs lss → ∀ ls, ls ∈ lss → ls.length ≤ 7 ∧ ∀ p, p ∈ ls → p.1 ∈ fs.map (·.1) ∧ (p.2 = 1 ∨ p.2 = -1)
  | [], _, _, ls, h => by simp at h
  | l :: lss, fs, ⟨h1, h2⟩, ls, h => by
    rcases List.mem_cons.mp h with rfl | h
    · exact ⟨h1.len, fun p hp => ⟨h1.nm p hp, h1.wy p hp⟩⟩
    · have := okls_all lss _ h2 ls h
      exact ⟨this.1, fun p hp => ⟨(left_names (this.2 p hp).1).1, (this.2 p hp).2⟩⟩
theorem nc_leaps {fs : List Fk} (hn : ∀ n, n ∈ fs.map (·.1) → nameOk n) {lss : List (List Lp)} (h : OkLs fs lss) : ∀ x, x ∈ lss.map onceD → Nc 2 0 x := fun x hx => by
  obtain ⟨ls, hls, rfl⟩ := List.mem_map.mp hx
  have := okls_all lss fs h ls hls
  refine ⟨by rw [List.length_map]; omega, fun y hy => ?_⟩
  obtain ⟨p, hp, rfl⟩ := List.mem_map.mp hy
  have hp2 := this.2 p hp
  refine ⟨by show 2 ≤ 20 + 0; omega, fun z hz => ?_⟩
  simp only [List.mem_cons, List.not_mem_nil, or_false] at hz
  rcases hz with rfl | rfl
  · exact nc_name (hn _ hp2.1)
  · exact nc_small (by omega)
end Lc
namespace Lc
open PySem L2 Evl RZ Sm
noncomputable def b_law : FS :=
    (sSeq (sFor (fRange (fOp dAdd (fC (.int 1)) (fMin (fUn dLen (fVar 0)) (fC (.int 30))))) (gN 1) (sSeq (sOwn 2 (fCallL fn__law_bag (fCons (fVar 0) (fCons (fVar 1) fNil))))
    (sSeq (sAsg (fCallB fn__law_folk 2 (fCons (fC (.int 7)) fNil)) (gN 3))
    (sSeq (sPar3 4 5 6 (fCons (fCallB fn__law_cart 2 fNil) (fCons (fVar 3) (fCons (fCallB fn__law_leaps 2 (fCons (fVar 3) fNil)) fNil))))
    (sSeq (sAsg (fUn dTuple (fOfL (fLc (fItems (fC (.str "abcdefgh"))) [15] (gN 15) fYes (fTup (fCons (fOp dAdd (fC (.str "f")) (fVar 15)) (fCons (fC (.int 1)) (fCons (fC (.int 1)) fNil))))))) (gN 7))
    (sSeq (sAsg (fTup (fCons (fTup (fCons (fC (.str "ann")) (fCons (fCallB fn__law_of 2 (fCons (fOfL (fLst (fCons (fC (.int 0)) (fCons (fC (.int 1)) (fCons (fC (.int 200)) (fCons (fC (.int 201)) fNil)))))) fNil)) (fCons (fCallB fn__law_of 2 (fCons (fOfL (fLst (fCons (fC (.int 0)) (fCons (fC (.int 1)) (fCons (fC (.int 100)) (fCons (fC (.int 101)) fNil)))))) fNil)) fNil)))) fNil)) (gN 8))
    (sSeq (sAsg (fOp dIx (fOp dIx (fVar 3) (fC (.int 0))) (fC (.int 0))) (gN 9))
    (sSeq (sAsg (fOfL (fLst (fCons (fOfL (fLst (fCons (fTup (fCons (fTup (fCons (fVar 9) (fCons (fC (.bool true)) fNil))) fNil)) fNil))) (fCons (fOfL (fLst (fCons (fTup (fCons (fTup (fCons (fVar 9) (fCons (fC (.int 0)) fNil))) fNil)) fNil))) (fCons (fOfL (fLst (fCons (fTup (fCons (fTup (fCons (fVar 9) (fCons (fC (.int 1)) fNil))) fNil)) (fCons (fTup (fCons (fTup (fCons (fVar 9) (fCons (fUn dNeg (fC (.int 1))) fNil))) fNil)) fNil)))) (fCons (fOfL (fLst (fCons (fTup (fCons (fTup (fCons (fVar 9) (fCons (fC (.int 1)) fNil))) (fCons (fTup (fCons (fVar 9) (fCons (fC (.int 1)) fNil))) fNil))) fNil))) (fCons (fOfL (fLst (fCons (fTup fNil) fNil))) fNil))))))) (gN 10))
    (sSeq (sAsg (fOfL (fLst (fCons (fVar 7) (fCons (fSl (fVar 7) fNoPart (fPart (fC (.int 7)))) (fCons (fVar 8) (fCons (fUn dRevT (fVar 3)) (fCons (fOfL (fUnL seqOf (fVar 3))) (fCons (fOp dAdd (fVar 6) (fVar 6)) (fCons (fUn dTuple (fVar 6)) (fCons (fOfL (fLst fNil)) (fCons (fC (.int 1000)) (fCons (fC (.int 1001)) (fCons (fC (.int 0)) (fCons (fC (.bool true)) fNil)))))))))))))) (gN 11))
    (sSeq (sFor (fItems (fOp dAdd (fOp dAdd (fVar 11) (fVar 10)) (fOfL (fLst (fCons (fCallB fn__law_odd 2 fNil) fNil))))) (gN 12) (sSeq (sIf (fOr (fTest (fOp dNe (fCall fn_is_cart (fCons (fVar 12) fNil)) (fCall fn__law_within (fCons (fVar 12) (fCons (fC (.int 1)) (fCons (fC (.int 1000)) fNil)))))) (fTest (fOp dNe (fCall fn_are_folk (fCons (fVar 12) fNil)) (fCall fn__law_are_folk (fCons (fVar 12) fNil))))) (sRet (fC (.bool false))) sNx)
    (sIf (fTest (fOp dNe (fCall fn_are_leaps (fCons (fVar 3) (fCons (fVar 12) fNil))) (fCall fn__law_are_leaps (fCons (fVar 3) (fCons (fVar 12) fNil))))) (sRet (fC (.bool false))) sNx)))
    (sFor (fRange (fC (.int 6))) (gN 13) (sSeq (sAsg (fOfL (fLst (fCons (fCall fn_is_cart (fCons (fVar 4) fNil)) (fCons (fCall fn_are_folk (fCons (fVar 5) fNil)) (fCons (fCall fn_are_leaps (fCons (fVar 3) (fCons (fVar 6) fNil))) fNil))))) (gN 14))
    (sSeq (sIf (fTest (fOp dNe (fOfL (fLc (fItems (fVar 14)) [16] (gN 16) (fNot (fTest (fUn (isiD "bool") (fVar 16)))) (fVar 16))) (fOfL (fLst fNil)))) (sRet (fC (.bool false))) sNx)
    (sSeq (sIf (fTest (fOp dNe (fVar 14) (fOfL (fLst (fCons (fCall fn__law_within (fCons (fVar 4) (fCons (fC (.int 1)) (fCons (fC (.int 1000)) fNil)))) (fCons (fCall fn__law_are_folk (fCons (fVar 5) fNil)) (fCons (fCall fn__law_are_leaps (fCons (fVar 3) (fCons (fVar 6) fNil))) fNil))))))) (sRet (fC (.bool false))) sNx)
    (sAsg (fOfL (fLc (fItems (fOfL (fLst (fCons (fVar 4) (fCons (fVar 5) (fCons (fVar 6) fNil)))))) [12] (gN 12) fYes (fCallB fn__law_spoilt 2 (fCons (fVar 12) fNil)))) (gTl 3 (gCs (gN 4) (gCs (gN 5) (gCs (gN 6) gNl)))))))))))))))))))
    (sRet (fC (.bool true))))
noncomputable def fn_law : List PyData → Option PyData := runD 16 b_law
end Lc
set_option exponentiation.threshold 10000
set_option maxHeartbeats 1000000
namespace Lc
open PySem L2 Evl RZ Sm
/-! ### the law's text -/
noncomputable def thBody : FS := (sSeq (sIf (fOr (fTest (fOp dNe (fCall fn_is_cart (fCons (fVar 12) fNil)) (fCall fn__law_within (fCons (fVar 12) (fCons (fC (.int 1)) (fCons (fC (.int 1000)) fNil)))))) (fTest (fOp dNe (fCall fn_are_folk (fCons (fVar 12) fNil)) (fCall fn__law_are_folk (fCons (fVar 12) fNil))))) (sRet (fC (.bool false))) sNx) (sIf (fTest (fOp dNe (fCall fn_are_leaps (fCons (fVar 3) (fCons (fVar 12) fNil))) (fCall fn__law_are_leaps (fCons (fVar 3) (fCons (fVar 12) fNil))))) (sRet (fC (.bool false))) sNx))
noncomputable def tu1 : FS := (sAsg (fOfL (fLst (fCons (fCall fn_is_cart (fCons (fVar 4) fNil)) (fCons (fCall fn_are_folk (fCons (fVar 5) fNil)) (fCons (fCall fn_are_leaps (fCons (fVar 3) (fCons (fVar 6) fNil))) fNil))))) (gN 14))
noncomputable def tu2 : FS := (sIf (fTest (fOp dNe (fOfL (fLc (fItems (fVar 14)) [16] (gN 16) (fNot (fTest (fUn (isiD "bool") (fVar 16)))) (fVar 16))) (fOfL (fLst fNil)))) (sRet (fC (.bool false))) sNx)
noncomputable def tu3 : FS := (sIf (fTest (fOp dNe (fVar 14) (fOfL (fLst (fCons (fCall fn__law_within (fCons (fVar 4) (fCons (fC (.int 1)) (fCons (fC (.int 1000)) fNil)))) (fCons (fCall fn__law_are_folk (fCons (fVar 5) fNil)) (fCons (fCall fn__law_are_leaps (fCons (fVar 3) (fCons (fVar 6) fNil))) fNil))))))) (sRet (fC (.bool false))) sNx)
noncomputable def tu4 : FS := (sAsg (fOfL (fLc (fItems (fOfL (fLst (fCons (fVar 4) (fCons (fVar 5) (fCons (fVar 6) fNil)))))) [12] (gN 12) fYes (fCallB fn__law_spoilt 2 (fCons (fVar 12) fNil)))) (gTl 3 (gCs (gN 4) (gCs (gN 5) (gCs (gN 6) gNl)))))
noncomputable def tuBody : FS := sSeq tu1 (sSeq tu2 (sSeq tu3 tu4))
noncomputable def lw1 : FS := (sOwn 2 (fCallL fn__law_bag (fCons (fVar 0) (fCons (fVar 1) fNil))))
noncomputable def lw2 : FS := (sAsg (fCallB fn__law_folk 2 (fCons (fC (.int 7)) fNil)) (gN 3))
noncomputable def lw3 : FS := (sPar3 4 5 6 (fCons (fCallB fn__law_cart 2 fNil) (fCons (fVar 3) (fCons (fCallB fn__law_leaps 2 (fCons (fVar 3) fNil)) fNil))))
noncomputable def lw4 : FS := (sAsg (fUn dTuple (fOfL (fLc (fItems (fC (.str "abcdefgh"))) [15] (gN 15) fYes (fTup (fCons (fOp dAdd (fC (.str "f")) (fVar 15)) (fCons (fC (.int 1)) (fCons (fC (.int 1)) fNil))))))) (gN 7))
noncomputable def lw5 : FS := (sAsg (fTup (fCons (fTup (fCons (fC (.str "ann")) (fCons (fCallB fn__law_of 2 (fCons (fOfL (fLst (fCons (fC (.int 0)) (fCons (fC (.int 1)) (fCons (fC (.int 200)) (fCons (fC (.int 201)) fNil)))))) fNil)) (fCons (fCallB fn__law_of 2 (fCons (fOfL (fLst (fCons (fC (.int 0)) (fCons (fC (.int 1)) (fCons (fC (.int 100)) (fCons (fC (.int 101)) fNil)))))) fNil)) fNil)))) fNil)) (gN 8))
noncomputable def lw6 : FS := (sAsg (fOp dIx (fOp dIx (fVar 3) (fC (.int 0))) (fC (.int 0))) (gN 9))
noncomputable def lw7 : FS := (sAsg (fOfL (fLst (fCons (fOfL (fLst (fCons (fTup (fCons (fTup (fCons (fVar 9) (fCons (fC (.bool true)) fNil))) fNil)) fNil))) (fCons (fOfL (fLst (fCons (fTup (fCons (fTup (fCons (fVar 9) (fCons (fC (.int 0)) fNil))) fNil)) fNil))) (fCons (fOfL (fLst (fCons (fTup (fCons (fTup (fCons (fVar 9) (fCons (fC (.int 1)) fNil))) fNil)) (fCons (fTup (fCons (fTup (fCons (fVar 9) (fCons (fUn dNeg (fC (.int 1))) fNil))) fNil)) fNil)))) (fCons (fOfL (fLst (fCons (fTup (fCons (fTup (fCons (fVar 9) (fCons (fC (.int 1)) fNil))) (fCons (fTup (fCons (fVar 9) (fCons (fC (.int 1)) fNil))) fNil))) fNil))) (fCons (fOfL (fLst (fCons (fTup fNil) fNil))) fNil))))))) (gN 10))
noncomputable def lw8 : FS := (sAsg (fOfL (fLst (fCons (fVar 7) (fCons (fSl (fVar 7) fNoPart (fPart (fC (.int 7)))) (fCons (fVar 8) (fCons (fUn dRevT (fVar 3)) (fCons (fOfL (fUnL seqOf (fVar 3))) (fCons (fOp dAdd (fVar 6) (fVar 6)) (fCons (fUn dTuple (fVar 6)) (fCons (fOfL (fLst fNil)) (fCons (fC (.int 1000)) (fCons (fC (.int 1001)) (fCons (fC (.int 0)) (fCons (fC (.bool true)) fNil)))))))))))))) (gN 11))
noncomputable def lw9 : FS := sFor (fItems (fOp dAdd (fOp dAdd (fVar 11) (fVar 10)) (fOfL (fLst (fCons (fCallB fn__law_odd 2 fNil) fNil))))) (gN 12) thBody
noncomputable def lw10 : FS := sFor (fRange (fC (.int 6))) (gN 13) tuBody
noncomputable def lawOut : FS := sSeq lw1 (sSeq lw2 (sSeq lw3 (sSeq lw4 (sSeq lw5 (sSeq lw6 (sSeq lw7 (sSeq lw8 (sSeq lw9 lw10))))))))
theorem law_body_eq : b_law = sSeq (sFor (fRange (fOp dAdd (fC (.int 1)) (fMin (fUn dLen (fVar 0)) (fC (.int 30))))) (gN 1) lawOut) (sRet (fC (.bool true))) := rfl
theorem bck_n {vs : List Nat} {k : Nat} : backE vs k [] [] = [] := rfl
theorem bck_s {vs : List Nat} {k : Nat} {e : EV} {δ δ4 δ5 : En} (h : vs.contains k = false) (ih : backE vs (k + 1) δ δ4 = δ5) : backE vs k (e :: δ) (e :: δ4) = e :: δ5 := by
  unfold backE
  rw [ih, h]
  cases e <;> rfl
theorem bck_o {vs : List Nat} {k : Nat} {e e4 : EV} {δ δ4 δ5 : En} (h : e.mine = false) (ih : backE vs (k + 1) δ δ4 = δ5) : backE vs k (e :: δ) (e4 :: δ4) = e :: δ5 := by
  unfold backE
  rw [ih, h]
  rfl
theorem bck_b {vs : List Nat} {k : Nat} {b b4 : List PyData} {δ δ4 δ5 : En} (h : vs.contains k = false) (ih : backE vs (k + 1) δ δ4 = δ5) : backE vs k (.own b :: δ) (.own b4 :: δ4) = .own b4 :: δ5 := by
  unfold backE
  rw [ih, h]
  rfl
theorem ne_bool (x : Bool) : dNe (.bool x) (.bool x) = some (.bool false) := by cases x <;> rfl
section
variable {fs : List Fk} (hf : OkF fs) (hn : ∀ p, p ∈ fs → nameOk p.1)
include hf hn
theorem th_body {k t : Nat} {d : PyData} (ht : t ≤ 6) (hk : k ≤ 50) (h : Nc k t d) (x0 x1 x2 x4 x5 x6 x7 x8 x9 x10 x11 x13 x14 x15 x16 : EV) : thBody [x0, x1, x2, .dat (folkD fs), x4, x5, x6, x7, x8, x9, x10, x11, .dat d, x13, x14, x15, x16] = some (.nx [x0, x1, x2, .dat (folkD fs), x4, x5, x6, x7, x8, x9, x10, x11, .dat d, x13, x14, x15, x16]) := by
  have hn' : ∀ p, p ∈ fs → Nm p.1 := fun p hp => asc_nm (hn p hp).2
  have a1 := cart_eq h
  have a2 := lwithin_eq h 1 1000
  have a3 := folk_eq ht h
  have a4 := lfolk_eq ht h
  have a5 := leaps_eq ht h hf.len hn'
  have a6 := lleaps_eq hf.len hn' ht hk h
  have n1 := ne_bool (withB 1 1000 d)
  have n2 := ne_bool (folkB d)
  have n3 := ne_bool (leapsB (fs.map (·.1)) d)
  unfold thBody
  simp only [e_sSeq, e_sIf, e_fOr, e_fTest, e_fOp, e_fCall, e_fCons, e_fNil, e_fVar, e_fC, List.getElem?_cons_zero, List.getElem?_cons_succ, a1, a2, a3, a4, a5, a6, n1, n2, n3, e_sNx]
theorem th_loop {k t : Nat} (ht : t ≤ 6) (hk : k ≤ 50) (x0 x1 x2 x4 x5 x6 x7 x8 x9 x10 x11 x13 x14 x15 x16 : EV) : ∀ (ds : List PyData) (x12 : EV), x12.mine = false → (∀ d, d ∈ ds → Nc k t d) → ∃ y12 : EV, y12.mine = false ∧ loopF (gN 12) thBody ds [x0, x1, x2, .dat (folkD fs), x4, x5, x6, x7, x8, x9, x10, x11, x12, x13, x14, x15, x16] = some (.nx [x0, x1, x2, .dat (folkD fs), x4, x5, x6, x7, x8, x9, x10, x11, y12, x13, x14, x15, x16])
  | [], x12, hx, _ => ⟨x12, hx, rfl⟩
  | d :: ds, x12, hx, h => by
    obtain ⟨y12, hy, ih⟩ := th_loop ht hk x0 x1 x2 x4 x5 x6 x7 x8 x9 x10 x11 x13 x14 x15 x16 ds (.dat d) rfl fun e he => h e (List.mem_cons_of_mem _ he)
    refine ⟨y12, hy, ?_⟩
    unfold loopF
    rw [show gN 12 d [x0, x1, x2, .dat (folkD fs), x4, x5, x6, x7, x8, x9, x10, x11, x12, x13, x14, x15, x16] = some [x0, x1, x2, .dat (folkD fs), x4, x5, x6, x7, x8, x9, x10, x11, .dat d, x13, x14, x15, x16] from rfl]
    dsimp only
    rw [th_body hf hn ht hk (h d List.mem_cons_self)]
    exact ih
/-- one turn's three things spoilt -/
theorem sp_comp {k t : Nat} (hk : k < 32) (ht : t ≤ 5) (x0 x1 x3 x4 x5 x6 x7 x8 x9 x10 x11 x12 x13 x14 x15 x16 : EV) (hx : x12.mine = false) : ∀ (ds : List PyData) (b : List PyData), Bg b → (∀ d, d ∈ ds → Nc k t d) → ∃ es b', compL [12] (gN 12) fYes (fCallB fn__law_spoilt 2 (fCons (fVar 12) fNil)) ds [x0, x1, .own b, x3, x4, x5, x6, x7, x8, x9, x10, x11, x12, x13, x14, x15, x16] = some (es, [x0, x1, .own b', x3, x4, x5, x6, x7, x8, x9, x10, x11, x12, x13, x14, x15, x16]) ∧ es.length = ds.length ∧ (∀ x, x ∈ es → Nc (k + 4) (t + 1) x) ∧ Bg b'
  | [], b, hb, _ => ⟨[], b, rfl, rfl, fun x hx => by simp at hx, hb⟩
  | d :: ds, b, hb, h => by
    obtain ⟨d', b1, h1, hd', hb1⟩ := spoilt_ok 32 hk ht hb (h d List.mem_cons_self)
    have h1 : fn__law_spoilt b [d] = some (d', b1) := h1
    obtain ⟨es, b2, h2, hl, hes, hb2⟩ := sp_comp hk ht x0 x1 x3 x4 x5 x6 x7 x8 x9 x10 x11 x12 x13 x14 x15 x16 hx ds b1 hb1 fun e he => h e (List.mem_cons_of_mem _ he)
    refine ⟨d' :: es, b2, ?_, by rw [List.length_cons, List.length_cons, hl], fun x hx => ?_, hb2⟩
    · have hc : fCallB fn__law_spoilt 2 (fCons (fVar 12) fNil) [x0, x1, .own b, x3, x4, x5, x6, x7, x8, x9, x10, x11, .dat d, x13, x14, x15, x16] = some (d', [x0, x1, .own b1, x3, x4, x5, x6, x7, x8, x9, x10, x11, .dat d, x13, x14, x15, x16]) := by
        simp only [e_fCallB, ownAt, EV.cont, e_fCons, e_fNil, e_fVar, List.getElem?_cons_zero, List.getElem?_cons_succ, h1, setOwn, EV.with, List.set_cons_zero, List.set_cons_succ]
      have hb : backE [12] 0 [x0, x1, .own b, x3, x4, x5, x6, x7, x8, x9, x10, x11, x12, x13, x14, x15, x16] [x0, x1, .own b1, x3, x4, x5, x6, x7, x8, x9, x10, x11, .dat d, x13, x14, x15, x16] = [x0, x1, .own b1, x3, x4, x5, x6, x7, x8, x9, x10, x11, x12, x13, x14, x15, x16] := (bck_s rfl (bck_s rfl (bck_b rfl (bck_s rfl (bck_s rfl (bck_s rfl (bck_s rfl (bck_s rfl (bck_s rfl (bck_s rfl (bck_s rfl (bck_s rfl (bck_o hx (bck_s rfl (bck_s rfl (bck_s rfl (bck_s rfl bck_n)))))))))))))))))
      unfold compL
      rw [show gN 12 d (wipeE [x0, x1, .own b, x3, x4, x5, x6, x7, x8, x9, x10, x11, x12, x13, x14, x15, x16] [12]) = some [x0, x1, .own b, x3, x4, x5, x6, x7, x8, x9, x10, x11, .dat d, x13, x14, x15, x16] from rfl]
      dsimp only
      rw [show fYes [x0, x1, .own b, x3, x4, x5, x6, x7, x8, x9, x10, x11, .dat d, x13, x14, x15, x16] = some (true, [x0, x1, .own b, x3, x4, x5, x6, x7, x8, x9, x10, x11, .dat d, x13, x14, x15, x16]) from rfl]
      dsimp only
      rw [hc]
      dsimp only
      rw [hb, h2]
    · rcases List.mem_cons.mp hx with rfl | hx
      · exact hd'
      · exact hes x hx
theorem tu_body {k t : Nat} (hk : k < 32) (ht : t ≤ 5) (x0 x1 x7 x8 x9 x10 x11 x12 x13 x14 x15 x16 : EV) (hx : x12.mine = false) (hx16 : x16.mine = false) {b : List PyData} (hb : Bg b) {o tw th : PyData} (ho : Nc k t o) (htw : Nc k t tw) (hth : Nc k t th) :
    ∃ o' tw' th' b' y14, tuBody [x0, x1, .own b, .dat (folkD fs), .dat o, .dat tw, .dat th, x7, x8, x9, x10, x11, x12, x13, x14, x15, x16] = some (.nx [x0, x1, .own b', .dat (folkD fs), .dat o', .dat tw', .dat th', x7, x8, x9, x10, x11, x12, x13, y14, x15, x16]) ∧ Bg b' ∧ Nc (k + 4) (t + 1) o' ∧ Nc (k + 4) (t + 1) tw' ∧ Nc (k + 4) (t + 1) th' := by
  have hn' : ∀ p, p ∈ fs → Nm p.1 := fun p hp => asc_nm (hn p hp).2
  have a1 := cart_eq ho
  have a2 := lwithin_eq ho 1 1000
  have a3 := folk_eq (show t ≤ 6 by omega) htw
  have a4 := lfolk_eq (show t ≤ 6 by omega) htw
  have a5 := leaps_eq (show t ≤ 6 by omega) hth hf.len hn'
  have a6 := lleaps_eq hf.len hn' (show t ≤ 6 by omega) (show k ≤ 50 by omega) hth
  generalize withB 1 1000 o = A at a1 a2
  generalize folkB tw = B at a3 a4
  generalize leapsB (fs.map (·.1)) th = C at a5 a6
  generalize folkD fs = F at a5 a6 ⊢
  have tl : ∀ (x y z : PyData) (δ : En), (if 0 + 1 + 1 + 1 ≤ 100000 then some ([x, y, z], δ) else none) = some ([x, y, z], δ) := fun x y z δ => if_pos (by omega)
  have e1 : tu1 [x0, x1, .own b, .dat F, .dat o, .dat tw, .dat th, x7, x8, x9, x10, x11, x12, x13, x14, x15, x16] = some (.nx [x0, x1, .own b, .dat F, .dat o, .dat tw, .dat th, x7, x8, x9, x10, x11, x12, x13, .dat (.list [.bool A, .bool B, .bool C]), x15, x16]) := by
    unfold tu1
    simp only [e_sAsg, e_fOfL, e_fLst, e_fCons, e_fNil, e_fCall, e_fVar, List.getElem?_cons_zero, List.getElem?_cons_succ, a1, a3, a5, List.length_cons, List.length_nil, tl, e_gN, List.set_cons_zero, List.set_cons_succ]
  have hc := compL_enc (fun q : Bool => PyData.bool q) (vs := [16]) (γ := gN 16) (τ := fNot (fTest (fUn (isiD "bool") (fVar 16)))) (ε := fVar 16) (δ := [x0, x1, .own b, .dat F, .dat o, .dat tw, .dat th, x7, x8, x9, x10, x11, x12, x13, .dat (.list [.bool A, .bool B, .bool C]), x15, x16])
    (fun q => [x0, x1, .own b, .dat F, .dat o, .dat tw, .dat th, x7, x8, x9, x10, x11, x12, x13, .dat (.list [.bool A, .bool B, .bool C]), x15, .dat (.bool q)]) (fun _ => false) (fun q => .bool q) [A, B, C] fun q _ => ⟨rfl, rfl, fun z => (nomatch z), (bck_s rfl (bck_s rfl (bck_s rfl (bck_s rfl (bck_s rfl (bck_s rfl (bck_s rfl (bck_s rfl (bck_s rfl (bck_s rfl (bck_s rfl (bck_s rfl (bck_s rfl (bck_s rfl (bck_s rfl (bck_s rfl (bck_o hx16 bck_n)))))))))))))))))⟩
  have e2 : tu2 [x0, x1, .own b, .dat F, .dat o, .dat tw, .dat th, x7, x8, x9, x10, x11, x12, x13, .dat (.list [.bool A, .bool B, .bool C]), x15, x16] = some (.nx [x0, x1, .own b, .dat F, .dat o, .dat tw, .dat th, x7, x8, x9, x10, x11, x12, x13, .dat (.list [.bool A, .bool B, .bool C]), x15, x16]) := by
    have h1 := fLc_of (φ := fItems (fVar 14)) (δ := [x0, x1, .own b, .dat F, .dat o, .dat tw, .dat th, x7, x8, x9, x10, x11, x12, x13, .dat (.list [.bool A, .bool B, .bool C]), x15, x16]) rfl (by show 3 ≤ 40000; omega) hc
    have h0 : ∀ δ : En, (if 0 ≤ 100000 then some (([] : List PyData), δ) else none) = some ([], δ) := fun δ => if_pos (by omega)
    have h2 : ([A, B, C].filter fun _ => false).map (fun q => PyData.bool q) = [] := rfl
    rw [h2] at h1
    unfold tu2
    simp only [e_sIf, e_fTest, e_fOp, e_fOfL, h1, e_fLst, e_fNil, List.length_nil, h0, ne_nil0, e_sNx]
  have e3 : tu3 [x0, x1, .own b, .dat F, .dat o, .dat tw, .dat th, x7, x8, x9, x10, x11, x12, x13, .dat (.list [.bool A, .bool B, .bool C]), x15, x16] = some (.nx [x0, x1, .own b, .dat F, .dat o, .dat tw, .dat th, x7, x8, x9, x10, x11, x12, x13, .dat (.list [.bool A, .bool B, .bool C]), x15, x16]) := by
    have h1 : dNe (.list [.bool A, .bool B, .bool C]) (.list [.bool A, .bool B, .bool C]) = some (.bool false) := ne_same (k := 1) (sh_lst fun d hd => by
      simp only [List.mem_cons, List.not_mem_nil, or_false] at hd
      rcases hd with rfl | rfl | rfl <;> exact ⟨by simp [PyData.canLay0], by simp [PyData.depth]⟩) (by omega)
    unfold tu3
    simp only [e_sIf, e_fTest, e_fOp, e_fOfL, e_fLst, e_fCons, e_fNil, e_fCall, e_fVar, e_fC, List.getElem?_cons_zero, List.getElem?_cons_succ, a2, a4, a6, List.length_cons, List.length_nil, tl, h1, e_sNx]
  obtain ⟨es, b', h4, hl, hes, hb'⟩ := sp_comp hf hn hk ht x0 x1 (.dat F) (.dat o) (.dat tw) (.dat th) x7 x8 x9 x10 x11 x12 x13 (.dat (.list [.bool A, .bool B, .bool C])) x15 x16 hx [o, tw, th] b hb fun d hd => by
    simp only [List.mem_cons, List.not_mem_nil, or_false] at hd
    rcases hd with rfl | rfl | rfl
    · exact ho
    · exact htw
    · exact hth
  match es, hl, hes, h4 with
  | [o', tw', th'], hl, hes, h4 =>
    refine ⟨o', tw', th', b', .dat (.list [.bool A, .bool B, .bool C]), ?_, hb', hes _ (by simp), hes _ (by simp), hes _ (by simp)⟩
    have hi : fItems (fOfL (fLst (fCons (fVar 4) (fCons (fVar 5) (fCons (fVar 6) fNil))))) [x0, x1, .own b, .dat F, .dat o, .dat tw, .dat th, x7, x8, x9, x10, x11, x12, x13, .dat (.list [.bool A, .bool B, .bool C]), x15, x16] = some ([o, tw, th], [x0, x1, .own b, .dat F, .dat o, .dat tw, .dat th, x7, x8, x9, x10, x11, x12, x13, .dat (.list [.bool A, .bool B, .bool C]), x15, x16]) := rfl
    have h5 := fLc_of hi (by show 3 ≤ 40000; omega) h4
    unfold tuBody
    rw [seq_of e1, seq_of e2, seq_of e3]
    unfold tu4
    simp only [e_sAsg, e_fOfL, h5]
    rfl
theorem tu_loop (x0 x1 x7 x8 x9 x10 x11 x12 x15 x16 : EV) (hx : x12.mine = false) (hx16 : x16.mine = false) : ∀ (ds : List PyData) (i : Nat) (b : List PyData) (o tw th : PyData) (x13 x14 : EV), i + ds.length ≤ 6 → Bg b → Nc (4 + 4 * i) i o → Nc (4 + 4 * i) i tw → Nc (4 + 4 * i) i th →
    ∃ b' o' tw' th' y13 y14, loopF (gN 13) tuBody ds [x0, x1, .own b, .dat (folkD fs), .dat o, .dat tw, .dat th, x7, x8, x9, x10, x11, x12, x13, x14, x15, x16] = some (.nx [x0, x1, .own b', .dat (folkD fs), .dat o', .dat tw', .dat th', x7, x8, x9, x10, x11, x12, y13, y14, x15, x16])
  | [], i, b, o, tw, th, x13, x14, _, _, _, _, _ => ⟨b, o, tw, th, x13, x14, rfl⟩
  | d :: ds, i, b, o, tw, th, x13, x14, hi, hb, ho, htw, hth => by
    rw [List.length_cons] at hi
    obtain ⟨o1, tw1, th1, b1, y14, h1, hb1, ho1, htw1, hth1⟩ := tu_body hf hn (by omega) (by omega) x0 x1 x7 x8 x9 x10 x11 x12 (.dat d) x14 x15 x16 hx hx16 hb ho htw hth
    have mv : ∀ {x : PyData}, Nc (4 + 4 * i + 4) (i + 1) x → Nc (4 + 4 * (i + 1)) (i + 1) x := fun z => nc_mono (by omega) (Nat.le_refl _) z
    obtain ⟨b2, o2, tw2, th2, z13, z14, h2⟩ := tu_loop x0 x1 x7 x8 x9 x10 x11 x12 x15 x16 hx hx16 ds (i + 1) b1 o1 tw1 th1 (.dat d) y14 (by omega) hb1 (mv ho1) (mv htw1) (mv hth1)
    refine ⟨b2, o2, tw2, th2, z13, z14, ?_⟩
    unfold loopF
    rw [show gN 13 d [x0, x1, .own b, .dat (folkD fs), .dat o, .dat tw, .dat th, x7, x8, x9, x10, x11, x12, x13, x14, x15, x16] = some [x0, x1, .own b, .dat (folkD fs), .dat o, .dat tw, .dat th, x7, x8, x9, x10, x11, x12, .dat d, x14, x15, x16] from rfl]
    dsimp only
    rw [h1]
    exact h2
end
end Lc
set_option exponentiation.threshold 10000
set_option maxHeartbeats 1000000
namespace Lc
open PySem L2 Evl RZ Sm
def azl : List Nat := [97, 98, 99, 100, 101, 102, 103, 104]
def ef (c : Nat) : PyData := .tuple [.str (("f" : Str) ++ (⟨#[c]⟩ : Str)), .int 1, .int 1]
theorem cat_s {a b : Str} (h : a.length + b.length ≤ 100000) : dCatS (.str a) (.str b) = some (.str (a ++ b)) := if_pos h
theorem ef_cat (c : Nat) : dAdd (.str "f") (sgn c) = some (.str (("f" : Str) ++ (⟨#[c]⟩ : Str))) := by
  have e : dCatS (.str "f") (.str ⟨#[c]⟩) = some (.str (("f" : Str) ++ (⟨#[c]⟩ : Str))) := cat_s (by show 1 + 1 ≤ 100000; omega)
  show dAdd (.str "f") (.str ⟨#[c]⟩) = _
  simp only [e_orF, fI0, e]
theorem nc_ef {c : Nat} (h : c < 128) : Nc 1 0 (ef c) := by
  refine ⟨by show 3 ≤ 20 + 0; omega, fun x hx => ?_⟩
  simp only [List.mem_cons, List.not_mem_nil, or_false] at hx
  rcases hx with rfl | rfl | rfl
  · refine nc_leaf ⟨?_, asc_app (asc_lit (by decide +kernel)) fun x hx => ?_⟩
    · rw [len_app]
      show 1 + 1 ≤ 40 * 3 ^ 0
      decide
    · obtain rfl : x = c := by simpa using hx
      exact h
  · exact nc_small (by decide)
  · exact nc_small (by decide)
theorem nc_eight : ∀ x, x ∈ azl.map ef → Nc 1 0 x := fun x hx => by
  obtain ⟨c, hc, rfl⟩ := List.mem_map.mp hx
  refine nc_ef ?_
  unfold azl at hc
  simp only [List.mem_cons, List.not_mem_nil, or_false] at hc
  omega
section
variable {f0 : Fk} {fs : List Fk} (hf : OkF (f0 :: fs)) (hn : ∀ p, p ∈ f0 :: fs → nameOk p.1)
include hf hn
theorem bent_ok : ∀ x, x ∈ ([.list [.tuple [.tuple [(.str f0.1), .bool true]]], .list [.tuple [.tuple [(.str f0.1), .int 0]]], .list [.tuple [.tuple [(.str f0.1), .int 1]], .tuple [.tuple [(.str f0.1), .int (-1)]]], .list [.tuple [.tuple [(.str f0.1), .int 1], .tuple [(.str f0.1), .int 1]]], .list [.tuple []]] : List PyData) → Nc 5 0 x := fun x hx => by
  have n0 : ∀ k, Nc k 0 (.str f0.1) := fun k => nc_name (hn f0 List.mem_cons_self)
  have row : ∀ d : PyData, (∀ k, Nc k 0 d) → Nc 3 0 (.tuple [(.str f0.1), d]) := fun d hd => ⟨by show 2 ≤ 20 + 0; omega, fun x hx => by
    simp only [List.mem_cons, List.not_mem_nil, or_false] at hx
    rcases hx with rfl | rfl
    · exact n0 _
    · exact hd _⟩
  have one : ∀ (k : Nat) (d : PyData), Nc k 0 d → Nc (k + 1) 0 (.tuple [d]) ∧ Nc (k + 1) 0 (.list [d]) := fun k d hd => nc_seq (by show 1 ≤ 20; omega) fun x hx => by
    obtain rfl := List.mem_singleton.mp hx
    exact hd
  have two : ∀ (k : Nat) (d e : PyData), Nc k 0 d → Nc k 0 e → Nc (k + 1) 0 (.tuple [d, e]) ∧ Nc (k + 1) 0 (.list [d, e]) := fun k d e hd he => nc_seq (by show 2 ≤ 20; omega) fun x hx => by
    simp only [List.mem_cons, List.not_mem_nil, or_false] at hx
    rcases hx with rfl | rfl
    · exact hd
    · exact he
  have it : ∀ i : Int, i.natAbs ≤ 5000 → ∀ k, Nc k 0 (.int i) := fun i hi k => nc_small hi
  simp only [List.mem_cons, List.not_mem_nil, or_false] at hx
  rcases hx with rfl | rfl | rfl | rfl | rfl
  · exact (one 4 _ (one 3 _ (row _ fun k => nc_leaf (show leafOk 0 (.bool true) from trivial))).1).2
  · exact (one 4 _ (one 3 _ (row _ (it 0 (by decide)))).1).2
  · exact (two 4 _ _ (one 3 _ (row _ (it 1 (by decide)))).1 (one 3 _ (row _ (it (-1) (by decide)))).1).2
  · exact (one 4 _ (two 3 _ _ (row _ (it 1 (by decide))) (row _ (it 1 (by decide)))).1).2
  · exact (one 4 _ (nc_mono (k := 1) (by omega) (Nat.le_refl _) (show Nc 1 0 (.tuple []) from ⟨by show 0 ≤ 20 + 0; omega, fun x hx => by simp at hx⟩))).2
theorem some_ok {lss : List (List Lp)} (hl : OkLs (f0 :: fs) lss) (h7 : lss.length ≤ 7) {a1 a2 : PyData} (ha1 : Nc 0 0 a1) (ha2 : Nc 0 0 a2) : ∀ x, x ∈ ([(.tuple (azl.map ef)), .tuple ((azl.map ef).take 7), (.tuple [.tuple [.str "ann", a1, a2]]), .tuple (((f0 :: fs).map encF).reverse), .list ((f0 :: fs).map encF), .list ((lss.map onceD) ++ (lss.map onceD)), .tuple (lss.map onceD), .list [], .int 1000, .int 1001, .int 0, .bool true] : List PyData) → Nc 5 0 x := fun x hx => by
  have nF := nc_folk hf hn
  have hlen := hf.len
  have nT := nc_leaps (fs := f0 :: fs) (fun n hm => by
    obtain ⟨p, hp, rfl⟩ := List.mem_map.mp hm
    exact hn p hp) hl
  have up : ∀ {k : Nat} {d : PyData}, k ≤ 5 → Nc k 0 d → Nc 5 0 d := fun hk hd => nc_mono hk (Nat.le_refl _) hd
  have it : ∀ i : Int, i.natAbs ≤ 5000 → Nc 5 0 (.int i) := fun i hi => nc_small hi
  simp only [List.mem_cons, List.not_mem_nil, or_false] at hx
  rcases hx with rfl | rfl | rfl | rfl | rfl | rfl | rfl | rfl | rfl | rfl | rfl | rfl
  · exact up (by omega) (nc_seq (k := 1) (by rw [List.length_map]; show 8 ≤ 20; omega) nc_eight).1
  · exact up (by omega) (nc_seq (k := 1) (by rw [List.length_take, List.length_map]; show min 7 8 ≤ 20; omega) fun x hx => nc_eight x (List.mem_of_mem_take hx)).1
  · refine up (k := 2) (by omega) (nc_seq (k := 1) (by show 1 ≤ 20; omega) fun x hx => ?_).1
    obtain rfl := List.mem_singleton.mp hx
    refine (nc_seq (k := 0) (by show 3 ≤ 20; omega) fun x hx => ?_).1
    simp only [List.mem_cons, List.not_mem_nil, or_false] at hx
    rcases hx with rfl | rfl | rfl
    · exact nc_name (all_ok _ (by decide +kernel))
    · exact ha1
    · exact ha2
  · exact up (by omega) (nc_seq (k := 1) (by rw [List.length_reverse, List.length_map]; omega) fun x hx => nF x (List.mem_reverse.mp hx)).1
  · exact up (by omega) (nc_seq (k := 1) (by rw [List.length_map]; omega) nF).2
  · exact up (by omega) (nc_seq (k := 2) (by rw [List.length_append, List.length_map]; omega) fun x hx => (List.mem_append.mp hx).elim (nT x) (nT x)).2
  · exact up (by omega) (nc_seq (k := 2) (by rw [List.length_map]; omega) nT).1
  · exact up (k := 1) (by omega) (nc_seq (k := 0) (by show 0 ≤ 20; omega) fun x hx => by simp at hx).2
  · exact it _ (by decide)
  · exact it _ (by decide)
  · exact it _ (by decide)
  · exact nc_leaf trivial
end
theorem cell_ok (ns : List Int) {k : Int} (h0 : 0 ≤ k) (h1 : k ≤ 30) (x2 x3 x4 x5 x6 x7 x8 x9 x10 x11 x12 x13 x14 x15 x16 : EV) (hx12 : x12.mine = false) (hx15 : x15.mine = false) (hx16 : x16.mine = false) :
    ∃ y2 y3 y4 y5 y6 y7 y8 y9 y10 y11 y12 y13 y14 y15 y16 : EV, lawOut [.dat (scrD ns), .dat (.int k), x2, x3, x4, x5, x6, x7, x8, x9, x10, x11, x12, x13, x14, x15, x16] = some (.nx [.dat (scrD ns), .dat (.int k), y2, y3, y4, y5, y6, y7, y8, y9, y10, y11, y12, y13, y14, y15, y16]) ∧ y12.mine = false ∧ y15.mine = false ∧ y16.mine = false := by
  obtain ⟨b0, e0, hb0⟩ := bag_ok ns h0 (show k ≤ 40 by omega)
  obtain ⟨fs', b1, e1, hne, hf, ⟨q, hq⟩, hb1⟩ := folk_ok1 hb0
  have hn' : ∀ p, p ∈ fs' → nameOk p.1 := fun p hp => all_ok _ (by
    have : p.1 ∈ fs'.map (·.1) := List.mem_map.mpr ⟨p, hp, rfl⟩
    rw [hq] at this
    exact List.mem_of_mem_take this)
  obtain ⟨c, b2, e2, hc1, hc2, hb2⟩ := cart_ok hb1
  obtain ⟨lss, b3, e3, hls, hl7, _, _, _, hb3⟩ := leaps_ok hb2 hf fun p hp => asc_nm (hn' p hp).2
  obtain ⟨a1, b4, e4, ha1, hb4⟩ := of_ok (ds := [.int 0, .int 1, .int 200, .int 201]) hb3 (by decide) (by decide)
  obtain ⟨a2, b5, e5, ha2, hb5⟩ := of_ok (ds := [.int 0, .int 1, .int 100, .int 101]) hb4 (by decide) (by decide)
  obtain ⟨od, b6, e6, hod, hb6⟩ := odd_ok hb5
  have na1 : Nc 0 0 a1 := by
    simp only [List.mem_cons, List.not_mem_nil, or_false] at ha1
    rcases ha1 with rfl | rfl | rfl | rfl <;> exact nc_small (by decide)
  have na2 : Nc 0 0 a2 := by
    simp only [List.mem_cons, List.not_mem_nil, or_false] at ha2
    rcases ha2 with rfl | rfl | rfl | rfl <;> exact nc_small (by decide)
  match fs', hne, hf, hn', e1, e3, hls with
  | f0 :: fs, _, hf, hn, e1, e3, hls =>
    have e1 : fn__law_folk b0 [.int 7] = some (.tuple ((f0 :: fs).map encF), b1) := e1
    have e3 : fn__law_leaps b2 [.tuple ((f0 :: fs).map encF)] = some (.list (lss.map onceD), b3) := e3
    have s1 : lw1 [.dat (scrD ns), .dat (.int k), x2, x3, x4, x5, x6, x7, x8, x9, x10, x11, x12, x13, x14, x15, x16] = some (.nx [.dat (scrD ns), .dat (.int k), .own b0, x3, x4, x5, x6, x7, x8, x9, x10, x11, x12, x13, x14, x15, x16]) := by
      unfold lw1
      simp only [e_sOwn, e_fCallL, e_fCons, e_fNil, e_fVar, List.getElem?_cons_zero, List.getElem?_cons_succ, e0]
      rfl
    have s2 : lw2 [.dat (scrD ns), .dat (.int k), .own b0, x3, x4, x5, x6, x7, x8, x9, x10, x11, x12, x13, x14, x15, x16] = some (.nx [.dat (scrD ns), .dat (.int k), .own b1, .dat (.tuple ((f0 :: fs).map encF)), x4, x5, x6, x7, x8, x9, x10, x11, x12, x13, x14, x15, x16]) := by
      unfold lw2
      simp only [e_sAsg, e_fCallB, ownAt, EV.cont, e_fCons, e_fNil, e_fC, List.getElem?_cons_zero, List.getElem?_cons_succ, e1, setOwn, EV.with, List.set_cons_zero, List.set_cons_succ, e_gN]
    have s3 : lw3 [.dat (scrD ns), .dat (.int k), .own b1, .dat (.tuple ((f0 :: fs).map encF)), x4, x5, x6, x7, x8, x9, x10, x11, x12, x13, x14, x15, x16] = some (.nx [.dat (scrD ns), .dat (.int k), .own b3, .dat (.tuple ((f0 :: fs).map encF)), .dat (.int c), .dat (.tuple ((f0 :: fs).map encF)), .dat (.list (lss.map onceD)), x7, x8, x9, x10, x11, x12, x13, x14, x15, x16]) := by
      unfold lw3
      simp only [e_sPar3, e_fCallB, ownAt, EV.cont, e_fCons, e_fNil, e_fVar, List.getElem?_cons_zero, List.getElem?_cons_succ, e2, e3, setOwn, EV.with, List.set_cons_zero, List.set_cons_succ]
    have hc := compL_enc sgn (vs := [15]) (γ := gN 15) (τ := fYes) (ε := fTup (fCons (fOp dAdd (fC (.str "f")) (fVar 15)) (fCons (fC (.int 1)) (fCons (fC (.int 1)) fNil)))) (δ := [.dat (scrD ns), .dat (.int k), .own b3, .dat (.tuple ((f0 :: fs).map encF)), .dat (.int c), .dat (.tuple ((f0 :: fs).map encF)), .dat (.list (lss.map onceD)), x7, x8, x9, x10, x11, x12, x13, x14, x15, x16])
      (fun c' => [.dat (scrD ns), .dat (.int k), .own b3, .dat (.tuple ((f0 :: fs).map encF)), .dat (.int c), .dat (.tuple ((f0 :: fs).map encF)), .dat (.list (lss.map onceD)), x7, x8, x9, x10, x11, x12, x13, x14, .dat (sgn c'), x16]) (fun _ => true) ef azl fun c' _ => ⟨rfl, rfl, fun _ => by
        have t3 : ∀ (p : PyData) (δ : En), (if 0 + 1 + 1 + 1 ≤ 100000 then some (PyData.tuple [p, .int 1, .int 1], δ) else none) = some (.tuple [p, .int 1, .int 1], δ) := fun p δ => if_pos (by omega)
        have ec := ef_cat c'
        simp only [e_fTup, e_fCons, e_fNil, e_fOp, e_fC, e_fVar, List.getElem?_cons_zero, List.getElem?_cons_succ, ec, List.length_cons, List.length_nil, t3]
        rfl, back_set (i := 15) (d := .dat (sgn c')) (δ := [.dat (scrD ns), .dat (.int k), .own b3, .dat (.tuple ((f0 :: fs).map encF)), .dat (.int c), .dat (.tuple ((f0 :: fs).map encF)), .dat (.list (lss.map onceD)), x7, x8, x9, x10, x11, x12, x13, x14, x15, x16]) fun e he => by
          obtain rfl : x15 = e := by simpa using he
          exact hx15⟩
    rw [filter_true] at hc
    have s4 : lw4 [.dat (scrD ns), .dat (.int k), .own b3, .dat (.tuple ((f0 :: fs).map encF)), .dat (.int c), .dat (.tuple ((f0 :: fs).map encF)), .dat (.list (lss.map onceD)), x7, x8, x9, x10, x11, x12, x13, x14, x15, x16] = some (.nx [.dat (scrD ns), .dat (.int k), .own b3, .dat (.tuple ((f0 :: fs).map encF)), .dat (.int c), .dat (.tuple ((f0 :: fs).map encF)), .dat (.list (lss.map onceD)), .dat (.tuple (azl.map ef)), x8, x9, x10, x11, x12, x13, x14, x15, x16]) := by
      have hi : fItems (fC (.str "abcdefgh")) [.dat (scrD ns), .dat (.int k), .own b3, .dat (.tuple ((f0 :: fs).map encF)), .dat (.int c), .dat (.tuple ((f0 :: fs).map encF)), .dat (.list (lss.map onceD)), x7, x8, x9, x10, x11, x12, x13, x14, x15, x16] = some (azl.map sgn, [.dat (scrD ns), .dat (.int k), .own b3, .dat (.tuple ((f0 :: fs).map encF)), .dat (.int c), .dat (.tuple ((f0 :: fs).map encF)), .dat (.list (lss.map onceD)), x7, x8, x9, x10, x11, x12, x13, x14, x15, x16]) := by
        have : signs "abcdefgh" = azl.map sgn := by
          show (("abcdefgh" : Str).cps.toList.map sgn) = azl.map sgn
          rw [show ("abcdefgh" : Str).cps.toList = azl from by decide +kernel]
        simp only [fItems, e_fUnL, e_fC, itemsOf, this]
      have h4 := fLc_of hi (by show 8 ≤ 40000; omega) hc
      unfold lw4
      simp only [e_sAsg, e_fUn, e_fOfL, h4, dTuple, e_gN, List.set_cons_zero, List.set_cons_succ]
    have s5 : lw5 [.dat (scrD ns), .dat (.int k), .own b3, .dat (.tuple ((f0 :: fs).map encF)), .dat (.int c), .dat (.tuple ((f0 :: fs).map encF)), .dat (.list (lss.map onceD)), .dat (.tuple (azl.map ef)), x8, x9, x10, x11, x12, x13, x14, x15, x16] = some (.nx [.dat (scrD ns), .dat (.int k), .own b5, .dat (.tuple ((f0 :: fs).map encF)), .dat (.int c), .dat (.tuple ((f0 :: fs).map encF)), .dat (.list (lss.map onceD)), .dat (.tuple (azl.map ef)), .dat (.tuple [.tuple [.str "ann", a1, a2]]), x9, x10, x11, x12, x13, x14, x15, x16]) := by
      have t4 : ∀ (x y z u : PyData) (δ : En), (if 0 + 1 + 1 + 1 + 1 ≤ 100000 then some ([x, y, z, u], δ) else none) = some ([x, y, z, u], δ) := fun x y z u δ => if_pos (by omega)
      have t3 : ∀ (x y z : PyData) (δ : En), (if 0 + 1 + 1 + 1 ≤ 100000 then some (PyData.tuple [x, y, z], δ) else none) = some (.tuple [x, y, z], δ) := fun x y z δ => if_pos (by omega)
      have t1 : ∀ (x : PyData) (δ : En), (if 0 + 1 ≤ 100000 then some (PyData.tuple [x], δ) else none) = some (.tuple [x], δ) := fun x δ => if_pos (by omega)
      unfold lw5
      simp only [e_sAsg, e_fTup, e_fCons, e_fNil, e_fC, e_fCallB, ownAt, EV.cont, e_fOfL, e_fLst, List.length_cons, List.length_nil, t4, List.getElem?_cons_zero, List.getElem?_cons_succ, e4, e5, setOwn, EV.with, List.set_cons_zero, List.set_cons_succ, t3, t1, e_gN]
    have s6 : lw6 [.dat (scrD ns), .dat (.int k), .own b5, .dat (.tuple ((f0 :: fs).map encF)), .dat (.int c), .dat (.tuple ((f0 :: fs).map encF)), .dat (.list (lss.map onceD)), .dat (.tuple (azl.map ef)), .dat (.tuple [.tuple [.str "ann", a1, a2]]), x9, x10, x11, x12, x13, x14, x15, x16] = some (.nx [.dat (scrD ns), .dat (.int k), .own b5, .dat (.tuple ((f0 :: fs).map encF)), .dat (.int c), .dat (.tuple ((f0 :: fs).map encF)), .dat (.list (lss.map onceD)), .dat (.tuple (azl.map ef)), .dat (.tuple [.tuple [.str "ann", a1, a2]]), .dat (.str f0.1), x10, x11, x12, x13, x14, x15, x16]) := by
      have i1 : dIx (.tuple ((f0 :: fs).map encF)) (.int 0) = some (encF f0) := ix_t0
      have i2 : dIx (encF f0) (.int 0) = some (.str f0.1) := ix_t0
      unfold lw6
      simp only [e_sAsg, e_fOp, e_fVar, e_fC, List.getElem?_cons_zero, List.getElem?_cons_succ, i1, i2, e_gN, List.set_cons_zero, List.set_cons_succ]
    have s7 : lw7 [.dat (scrD ns), .dat (.int k), .own b5, .dat (.tuple ((f0 :: fs).map encF)), .dat (.int c), .dat (.tuple ((f0 :: fs).map encF)), .dat (.list (lss.map onceD)), .dat (.tuple (azl.map ef)), .dat (.tuple [.tuple [.str "ann", a1, a2]]), .dat (.str f0.1), x10, x11, x12, x13, x14, x15, x16] = some (.nx [.dat (scrD ns), .dat (.int k), .own b5, .dat (.tuple ((f0 :: fs).map encF)), .dat (.int c), .dat (.tuple ((f0 :: fs).map encF)), .dat (.list (lss.map onceD)), .dat (.tuple (azl.map ef)), .dat (.tuple [.tuple [.str "ann", a1, a2]]), .dat (.str f0.1), .dat (.list [.list [.tuple [.tuple [(.str f0.1), .bool true]]], .list [.tuple [.tuple [(.str f0.1), .int 0]]], .list [.tuple [.tuple [(.str f0.1), .int 1]], .tuple [.tuple [(.str f0.1), .int (-1)]]], .list [.tuple [.tuple [(.str f0.1), .int 1], .tuple [(.str f0.1), .int 1]]], .list [.tuple []]]), x11, x12, x13, x14, x15, x16]) := rfl
    have s8 : lw8 [.dat (scrD ns), .dat (.int k), .own b5, .dat (.tuple ((f0 :: fs).map encF)), .dat (.int c), .dat (.tuple ((f0 :: fs).map encF)), .dat (.list (lss.map onceD)), .dat (.tuple (azl.map ef)), .dat (.tuple [.tuple [.str "ann", a1, a2]]), .dat (.str f0.1), .dat (.list [.list [.tuple [.tuple [(.str f0.1), .bool true]]], .list [.tuple [.tuple [(.str f0.1), .int 0]]], .list [.tuple [.tuple [(.str f0.1), .int 1]], .tuple [.tuple [(.str f0.1), .int (-1)]]], .list [.tuple [.tuple [(.str f0.1), .int 1], .tuple [(.str f0.1), .int 1]]], .list [.tuple []]]), x11, x12, x13, x14, x15, x16] = some (.nx [.dat (scrD ns), .dat (.int k), .own b5, .dat (.tuple ((f0 :: fs).map encF)), .dat (.int c), .dat (.tuple ((f0 :: fs).map encF)), .dat (.list (lss.map onceD)), .dat (.tuple (azl.map ef)), .dat (.tuple [.tuple [.str "ann", a1, a2]]), .dat (.str f0.1), .dat (.list [.list [.tuple [.tuple [(.str f0.1), .bool true]]], .list [.tuple [.tuple [(.str f0.1), .int 0]]], .list [.tuple [.tuple [(.str f0.1), .int 1]], .tuple [.tuple [(.str f0.1), .int (-1)]]], .list [.tuple [.tuple [(.str f0.1), .int 1], .tuple [(.str f0.1), .int 1]]], .list [.tuple []]]), .dat (.list [(.tuple (azl.map ef)), .tuple ((azl.map ef).take 7), (.tuple [.tuple [.str "ann", a1, a2]]), .tuple (((f0 :: fs).map encF).reverse), .list ((f0 :: fs).map encF), .list ((lss.map onceD) ++ (lss.map onceD)), .tuple (lss.map onceD), .list [], .int 1000, .int 1001, .int 0, .bool true]), x12, x13, x14, x15, x16]) := by
      have r1 : dRevT (.tuple ((f0 :: fs).map encF)) = some (.tuple ((f0 :: fs).map encF).reverse) := rfl
      have r2 := cat_lst (xs := (lss.map onceD)) (ys := (lss.map onceD)) (by rw [List.length_map]; omega)
      have r3 : dSl (.tuple (azl.map ef)) none (some 7) = some (.tuple ((azl.map ef).take 7)) := rfl
      have t12 : ∀ (l : List PyData) (δ : En), l.length = 12 → (if l.length ≤ 100000 then some (l, δ) else none) = some (l, δ) := fun l δ hl => if_pos (by omega)
      have t0 : ∀ δ : En, (if 0 ≤ 100000 then some (([] : List PyData), δ) else none) = some ([], δ) := fun δ => if_pos (by omega)
      unfold lw8
      simp only [e_sAsg, e_fOfL, e_fLst, e_fCons, e_fNil, e_fVar, e_fC, e_fSl, e_fNoPart, e_fPart, e_fUn, e_fUnL, e_fOp, List.getElem?_cons_zero, List.getElem?_cons_succ, r1, r2, r3, seqOf, dTuple, List.length_nil, t0]
      rw [t12 _ _ rfl]
      rfl
    have hbt := bent_ok hf hn
    have hso := some_ok hf hn hls hl7 na1 na2
    generalize hBT : ([.list [.tuple [.tuple [(.str f0.1), .bool true]]], .list [.tuple [.tuple [(.str f0.1), .int 0]]], .list [.tuple [.tuple [(.str f0.1), .int 1]], .tuple [.tuple [(.str f0.1), .int (-1)]]], .list [.tuple [.tuple [(.str f0.1), .int 1], .tuple [(.str f0.1), .int 1]]], .list [.tuple []]] : List PyData) = BT at hbt s7 s8
    generalize hSO : ([(.tuple (azl.map ef)), .tuple ((azl.map ef).take 7), (.tuple [.tuple [.str "ann", a1, a2]]), .tuple (((f0 :: fs).map encF).reverse), .list ((f0 :: fs).map encF), .list ((lss.map onceD) ++ (lss.map onceD)), .tuple (lss.map onceD), .list [], .int 1000, .int 1001, .int 0, .bool true] : List PyData) = SO at hso s8
    have lb : BT.length = 5 := by rw [← hBT]; rfl
    have ls : SO.length = 12 := by rw [← hSO]; rfl
    obtain ⟨y12, hy12, h9⟩ := th_loop hf hn (k := 8) (t := 0) (by omega) (by omega) (.dat (scrD ns)) (.dat (.int k)) (.own b6) (.dat (.int c)) (.dat (.tuple ((f0 :: fs).map encF))) (.dat (.list (lss.map onceD))) (.dat (.tuple (azl.map ef))) (.dat (.tuple [.tuple [.str "ann", a1, a2]])) (.dat (.str f0.1)) (.dat (.list BT)) (.dat (.list SO)) x13 x14 x15 x16 (SO ++ BT ++ [od]) x12 hx12 fun d hd => by
      rcases List.mem_append.mp hd with hd | hd
      · rcases List.mem_append.mp hd with hd | hd
        · exact nc_mono (by omega) (Nat.le_refl _) (hso d hd)
        · exact nc_mono (by omega) (Nat.le_refl _) (hbt d hd)
      · obtain rfl := List.mem_singleton.mp hd
        exact nc_mono (by omega) (Nat.le_refl _) hod
    have s9 : lw9 [.dat (scrD ns), .dat (.int k), .own b5, .dat (.tuple ((f0 :: fs).map encF)), .dat (.int c), .dat (.tuple ((f0 :: fs).map encF)), .dat (.list (lss.map onceD)), .dat (.tuple (azl.map ef)), .dat (.tuple [.tuple [.str "ann", a1, a2]]), .dat (.str f0.1), .dat (.list BT), .dat (.list SO), x12, x13, x14, x15, x16] = some (.nx [.dat (scrD ns), .dat (.int k), .own b6, .dat (.tuple ((f0 :: fs).map encF)), .dat (.int c), .dat (.tuple ((f0 :: fs).map encF)), .dat (.list (lss.map onceD)), .dat (.tuple (azl.map ef)), .dat (.tuple [.tuple [.str "ann", a1, a2]]), .dat (.str f0.1), .dat (.list BT), .dat (.list SO), y12, x13, x14, x15, x16]) := by
      have r1 := cat_lst (xs := SO) (ys := BT) (by omega)
      have r2 := cat_lst (xs := SO ++ BT) (ys := [od]) (by rw [List.length_append]; show _ + 1 ≤ _; omega)
      have t1 : ∀ (x : PyData) (δ : En), (if 0 + 1 ≤ 100000 then some ([x], δ) else none) = some ([x], δ) := fun x δ => if_pos (by omega)
      have hi : fItems (fOp dAdd (fOp dAdd (fVar 11) (fVar 10)) (fOfL (fLst (fCons (fCallB fn__law_odd 2 fNil) fNil)))) [.dat (scrD ns), .dat (.int k), .own b5, .dat (.tuple ((f0 :: fs).map encF)), .dat (.int c), .dat (.tuple ((f0 :: fs).map encF)), .dat (.list (lss.map onceD)), .dat (.tuple (azl.map ef)), .dat (.tuple [.tuple [.str "ann", a1, a2]]), .dat (.str f0.1), .dat (.list BT), .dat (.list SO), x12, x13, x14, x15, x16] = some (SO ++ BT ++ [od], [.dat (scrD ns), .dat (.int k), .own b6, .dat (.tuple ((f0 :: fs).map encF)), .dat (.int c), .dat (.tuple ((f0 :: fs).map encF)), .dat (.list (lss.map onceD)), .dat (.tuple (azl.map ef)), .dat (.tuple [.tuple [.str "ann", a1, a2]]), .dat (.str f0.1), .dat (.list BT), .dat (.list SO), x12, x13, x14, x15, x16]) := by
        simp only [fItems, e_fUnL, e_fOp, e_fVar, e_fOfL, e_fLst, e_fCons, e_fNil, e_fCallB, ownAt, EV.cont, List.getElem?_cons_zero, List.getElem?_cons_succ, e6, setOwn, EV.with, List.set_cons_zero, List.set_cons_succ, List.length_cons, List.length_nil, t1, r1, r2, itemsOf]
      unfold lw9
      exact sFor_of hi h9
    have nF : Nc 4 0 (.tuple ((f0 :: fs).map encF)) := nc_mono (k := 2) (by omega) (Nat.le_refl _) (nc_seq (k := 1) (by have := hf.len; rw [List.length_map]; omega) (nc_folk hf hn)).1
    have nT : Nc 4 0 (.list (lss.map onceD)) := nc_mono (k := 3) (by omega) (Nat.le_refl _) (nc_seq (k := 2) (by rw [List.length_map]; omega) (nc_leaps (fs := f0 :: fs) (fun n hm => by
      obtain ⟨p, hp, rfl⟩ := List.mem_map.mp hm
      exact hn p hp) hls)).2
    obtain ⟨b7, o7, tw7, th7, z13, z14, h10⟩ := tu_loop hf hn (.dat (scrD ns)) (.dat (.int k)) (.dat (.tuple (azl.map ef))) (.dat (.tuple [.tuple [.str "ann", a1, a2]])) (.dat (.str f0.1)) (.dat (.list BT)) (.dat (.list SO)) y12 x15 x16 hy12 hx16 (upto 6) 0 b6 (.int c) (.tuple ((f0 :: fs).map encF)) (.list (lss.map onceD)) x13 x14 (by show 0 + 6 ≤ 6; omega) hb6 (nc_small (by omega)) nF nT
    have s10 : lw10 [.dat (scrD ns), .dat (.int k), .own b6, .dat (.tuple ((f0 :: fs).map encF)), .dat (.int c), .dat (.tuple ((f0 :: fs).map encF)), .dat (.list (lss.map onceD)), .dat (.tuple (azl.map ef)), .dat (.tuple [.tuple [.str "ann", a1, a2]]), .dat (.str f0.1), .dat (.list BT), .dat (.list SO), y12, x13, x14, x15, x16] = some (.nx [.dat (scrD ns), .dat (.int k), .own b7, .dat (.tuple ((f0 :: fs).map encF)), .dat o7, .dat tw7, .dat th7, .dat (.tuple (azl.map ef)), .dat (.tuple [.tuple [.str "ann", a1, a2]]), .dat (.str f0.1), .dat (.list BT), .dat (.list SO), y12, z13, z14, x15, x16]) := by
      unfold lw10
      exact sFor_of (φ := (fRange (fC (.int 6)))) (by rfl) h10
    refine ⟨.own b7, .dat (.tuple ((f0 :: fs).map encF)), .dat o7, .dat tw7, .dat th7, .dat (.tuple (azl.map ef)), .dat (.tuple [.tuple [.str "ann", a1, a2]]), .dat (.str f0.1), .dat (.list BT), .dat (.list SO), y12, z13, z14, x15, x16, ?_, hy12, hx15, hx16⟩
    unfold lawOut
    rw [seq_of s1, seq_of s2, seq_of s3, seq_of s4, seq_of s5, seq_of s6, seq_of s7, seq_of s8, seq_of s9, s10]
def LawEnv (ns : List Int) (δ : En) : Prop := ∃ x1 x2 x3 x4 x5 x6 x7 x8 x9 x10 x11 x12 x13 x14 x15 x16 : EV, δ = [.dat (scrD ns), x1, x2, x3, x4, x5, x6, x7, x8, x9, x10, x11, x12, x13, x14, x15, x16] ∧ x12.mine = false ∧ x15.mine = false ∧ x16.mine = false
theorem law_math : ∀ ns : List Int, ns.length ≤ 63 → fn_law [scrD ns] = some (.bool true) := fun ns hn => by
  have hlen : dLen (scrD ns) = some (.int (ns.length : Nat)) := by
    show some (PyData.int ((ns.map fun n => (PyData.int n, PyData.none)).length : Nat)) = _
    rw [List.length_map]
  generalize hm : (1 : Int) + (if (30 : Int) < (ns.length : Int) then 30 else (ns.length : Int)) = m
  have hm1 : 0 ≤ m ∧ m ≤ 31 := by
    rw [← hm]
    split <;> omega
  have hup : upto m = (List.range m.toNat).map fun i => PyData.int (i : Nat) := rfl
  obtain ⟨δ', hl, hR⟩ := loop_rel (fun i : Nat => PyData.int (i : Nat)) (γ := gN 1) (b := lawOut) (fun (_ : Unit) δ => LawEnv ns δ) (fun _ _ => ()) (List.range m.toNat) () [.dat (scrD ns), .un, .un, .un, .un, .un, .un, .un, .un, .un, .un, .un, .un, .un, .un, .un, .un] (fun _ i δ hi hR => by
    obtain ⟨x1, x2, x3, x4, x5, x6, x7, x8, x9, x10, x11, x12, x13, x14, x15, x16, rfl, g1, g2, g3⟩ := hR
    have hi' := List.mem_range.mp hi
    obtain ⟨y2, y3, y4, y5, y6, y7, y8, y9, y10, y11, y12, y13, y14, y15, y16, hb, g4, g5, g6⟩ := cell_ok ns (k := (i : Nat)) (by omega) (by omega) x2 x3 x4 x5 x6 x7 x8 x9 x10 x11 x12 x13 x14 x15 x16 g1 g2 g3
    exact ⟨_, _, rfl, hb, _, y2, y3, y4, y5, y6, y7, y8, y9, y10, y11, y12, y13, y14, y15, y16, rfl, g4, g5, g6⟩) ⟨.un, .un, .un, .un, .un, .un, .un, .un, .un, .un, .un, .un, .un, .un, .un, .un, rfl, rfl, rfl, rfl⟩
  rw [← hup] at hl
  have hr : fRange (fOp dAdd (fC (.int 1)) (fMin (fUn dLen (fVar 0)) (fC (.int 30)))) [.dat (scrD ns), .un, .un, .un, .un, .un, .un, .un, .un, .un, .un, .un, .un, .un, .un, .un, .un] = some (upto m, [.dat (scrD ns), .un, .un, .un, .un, .un, .un, .un, .un, .un, .un, .un, .un, .un, .un, .un, .un]) := by
    simp only [e_fRange, e_fUnL, e_fOp, e_fMin, e_fC, e_fUn, e_fVar, e_orF, fI0, List.getElem?_cons_zero, hlen, hm]
    rw [if_pos ⟨by omega, by omega⟩]
  have hF := sFor_of hr hl
  unfold fn_law
  rw [law_body_eq]
  simp only [runD, List.map_cons, List.map_nil, List.cons_append, List.nil_append, List.replicate_succ, List.replicate_zero]
  rw [seq_of hF]
  rfl
end Lc
namespace Lc
open PySem L2 Evl RZ Sm
def topS (i : Nat) : Stmt := PySem.Challenge.pw_leapcart_k01_carts_folk_leaps_told.main.body.getD i (.Pass ⟨0, 0, 0, 0⟩)
abbrev s_is_whole : Stmt := topS 1
abbrev s_is_whole_within : Stmt := topS 2
abbrev s_is_tuple_of : Stmt := topS 3
abbrev s_is_cart : Stmt := topS 12
abbrev s_is_name : Stmt := topS 13
abbrev s_is_somebody : Stmt := topS 14
abbrev s_names_of : Stmt := topS 15
abbrev s_names_rise : Stmt := topS 16
abbrev s_are_folk : Stmt := topS 17
abbrev s_is_leap : Stmt := topS 18
abbrev s_are_at_once : Stmt := topS 19
abbrev s_are_leaps : Stmt := topS 20
abbrev s__law_bag : Stmt := topS 22
abbrev s__law_take : Stmt := topS 23
abbrev s__law_of : Stmt := topS 24
abbrev s__law_whole : Stmt := topS 25
abbrev s__law_within : Stmt := topS 26
abbrev s__law_is_name : Stmt := topS 27
abbrev s__law_odd : Stmt := topS 29
abbrev s__law_spoilt : Stmt := topS 28
abbrev s__law_cart : Stmt := topS 30
abbrev s__law_folk : Stmt := topS 31
abbrev s__law_mixed : Stmt := topS 32
abbrev s__law_leaps : Stmt := topS 33
abbrev s__law_are_folk : Stmt := topS 34
abbrev s__law_are_leaps : Stmt := topS 35
abbrev s_law : Stmt := topS 36
structure Tx (K : PySem.W.Frag) (mg : Str → Option Value) where
  a_is_whole : Addr
  d_is_whole : FuncData
  F_is_whole : Fun K "is_whole" "is_whole" s_is_whole a_is_whole d_is_whole
  b_is_whole : Binds K d_is_whole ["thing"] []
  m_is_whole : mg "is_whole" = some (.ref a_is_whole)
  a_is_whole_within : Addr
  d_is_whole_within : FuncData
  F_is_whole_within : Fun K "is_whole_within" "is_whole_within" s_is_whole_within a_is_whole_within d_is_whole_within
  b_is_whole_within : Binds K d_is_whole_within ["thing", "least", "most"] []
  m_is_whole_within : mg "is_whole_within" = some (.ref a_is_whole_within)
  a_is_tuple_of : Addr
  d_is_tuple_of : FuncData
  F_is_tuple_of : Fun K "is_tuple_of" "is_tuple_of" s_is_tuple_of a_is_tuple_of d_is_tuple_of
  b_is_tuple_of : Binds K d_is_tuple_of ["thing", "many"] []
  m_is_tuple_of : mg "is_tuple_of" = some (.ref a_is_tuple_of)
  a_is_cart : Addr
  d_is_cart : FuncData
  F_is_cart : Fun K "is_cart" "is_cart" s_is_cart a_is_cart d_is_cart
  b_is_cart : Binds K d_is_cart ["thing"] []
  m_is_cart : mg "is_cart" = some (.ref a_is_cart)
  a_is_name : Addr
  d_is_name : FuncData
  F_is_name : Fun K "is_name" "is_name" s_is_name a_is_name d_is_name
  b_is_name : Binds K d_is_name ["thing"] []
  m_is_name : mg "is_name" = some (.ref a_is_name)
  a_is_somebody : Addr
  d_is_somebody : FuncData
  F_is_somebody : Fun K "is_somebody" "is_somebody" s_is_somebody a_is_somebody d_is_somebody
  b_is_somebody : Binds K d_is_somebody ["thing"] []
  m_is_somebody : mg "is_somebody" = some (.ref a_is_somebody)
  a_names_of : Addr
  d_names_of : FuncData
  F_names_of : Fun K "names_of" "names_of" s_names_of a_names_of d_names_of
  b_names_of : Binds K d_names_of ["rows"] []
  m_names_of : mg "names_of" = some (.ref a_names_of)
  a_names_rise : Addr
  d_names_rise : FuncData
  F_names_rise : Fun K "names_rise" "names_rise" s_names_rise a_names_rise d_names_rise
  b_names_rise : Binds K d_names_rise ["rows"] []
  m_names_rise : mg "names_rise" = some (.ref a_names_rise)
  a_are_folk : Addr
  d_are_folk : FuncData
  F_are_folk : Fun K "are_folk" "are_folk" s_are_folk a_are_folk d_are_folk
  b_are_folk : Binds K d_are_folk ["thing"] []
  m_are_folk : mg "are_folk" = some (.ref a_are_folk)
  a_is_leap : Addr
  d_is_leap : FuncData
  F_is_leap : Fun K "is_leap" "is_leap" s_is_leap a_is_leap d_is_leap
  b_is_leap : Binds K d_is_leap ["names", "thing"] []
  m_is_leap : mg "is_leap" = some (.ref a_is_leap)
  a_are_at_once : Addr
  d_are_at_once : FuncData
  F_are_at_once : Fun K "are_at_once" "are_at_once" s_are_at_once a_are_at_once d_are_at_once
  b_are_at_once : Binds K d_are_at_once ["names", "thing"] []
  m_are_at_once : mg "are_at_once" = some (.ref a_are_at_once)
  a_are_leaps : Addr
  d_are_leaps : FuncData
  F_are_leaps : Fun K "are_leaps" "are_leaps" s_are_leaps a_are_leaps d_are_leaps
  b_are_leaps : Binds K d_are_leaps ["folk", "thing"] []
  m_are_leaps : mg "are_leaps" = some (.ref a_are_leaps)
  a__law_bag : Addr
  d__law_bag : FuncData
  F__law_bag : Fun K "_law_bag" "_law_bag" s__law_bag a__law_bag d__law_bag
  b__law_bag : Binds K d__law_bag ["script", "k"] []
  m__law_bag : mg "_law_bag" = some (.ref a__law_bag)
  a__law_take : Addr
  d__law_take : FuncData
  F__law_take : Fun K "_law_take" "_law_take" s__law_take a__law_take d__law_take
  b__law_take : Binds K d__law_take ["bag", "many"] []
  m__law_take : mg "_law_take" = some (.ref a__law_take)
  a__law_of : Addr
  d__law_of : FuncData
  F__law_of : Fun K "_law_of" "_law_of" s__law_of a__law_of d__law_of
  b__law_of : Binds K d__law_of ["bag", "some"] []
  m__law_of : mg "_law_of" = some (.ref a__law_of)
  a__law_whole : Addr
  d__law_whole : FuncData
  F__law_whole : Fun K "_law_whole" "_law_whole" s__law_whole a__law_whole d__law_whole
  b__law_whole : Binds K d__law_whole ["thing"] []
  m__law_whole : mg "_law_whole" = some (.ref a__law_whole)
  a__law_within : Addr
  d__law_within : FuncData
  F__law_within : Fun K "_law_within" "_law_within" s__law_within a__law_within d__law_within
  b__law_within : Binds K d__law_within ["thing", "least", "most"] []
  m__law_within : mg "_law_within" = some (.ref a__law_within)
  a__law_is_name : Addr
  d__law_is_name : FuncData
  F__law_is_name : Fun K "_law_is_name" "_law_is_name" s__law_is_name a__law_is_name d__law_is_name
  b__law_is_name : Binds K d__law_is_name ["thing"] []
  m__law_is_name : mg "_law_is_name" = some (.ref a__law_is_name)
  a__law_odd : Addr
  d__law_odd : FuncData
  F__law_odd : Fun K "_law_odd" "_law_odd" s__law_odd a__law_odd d__law_odd
  b__law_odd : Binds K d__law_odd ["bag"] []
  m__law_odd : mg "_law_odd" = some (.ref a__law_odd)
  a__law_spoilt : Addr
  d__law_spoilt : FuncData
  F__law_spoilt : Fun K "_law_spoilt" "_law_spoilt" s__law_spoilt a__law_spoilt d__law_spoilt
  b__law_spoilt : Binds K d__law_spoilt ["bag", "thing"] []
  m__law_spoilt : mg "_law_spoilt" = some (.ref a__law_spoilt)
  a__law_cart : Addr
  d__law_cart : FuncData
  F__law_cart : Fun K "_law_cart" "_law_cart" s__law_cart a__law_cart d__law_cart
  b__law_cart : Binds K d__law_cart ["bag"] []
  m__law_cart : mg "_law_cart" = some (.ref a__law_cart)
  a__law_folk : Addr
  d__law_folk : FuncData
  F__law_folk : Fun K "_law_folk" "_law_folk" s__law_folk a__law_folk d__law_folk
  b__law_folk : Binds K d__law_folk ["bag", "most"] []
  m__law_folk : mg "_law_folk" = some (.ref a__law_folk)
  a__law_mixed : Addr
  d__law_mixed : FuncData
  F__law_mixed : Fun K "_law_mixed" "_law_mixed" s__law_mixed a__law_mixed d__law_mixed
  b__law_mixed : Binds K d__law_mixed ["bag", "some"] []
  m__law_mixed : mg "_law_mixed" = some (.ref a__law_mixed)
  a__law_leaps : Addr
  d__law_leaps : FuncData
  F__law_leaps : Fun K "_law_leaps" "_law_leaps" s__law_leaps a__law_leaps d__law_leaps
  b__law_leaps : Binds K d__law_leaps ["bag", "folk"] []
  m__law_leaps : mg "_law_leaps" = some (.ref a__law_leaps)
  a__law_are_folk : Addr
  d__law_are_folk : FuncData
  F__law_are_folk : Fun K "_law_are_folk" "_law_are_folk" s__law_are_folk a__law_are_folk d__law_are_folk
  b__law_are_folk : Binds K d__law_are_folk ["thing"] []
  m__law_are_folk : mg "_law_are_folk" = some (.ref a__law_are_folk)
  a__law_are_leaps : Addr
  d__law_are_leaps : FuncData
  F__law_are_leaps : Fun K "_law_are_leaps" "_law_are_leaps" s__law_are_leaps a__law_are_leaps d__law_are_leaps
  b__law_are_leaps : Binds K d__law_are_leaps ["folk", "thing"] []
  m__law_are_leaps : mg "_law_are_leaps" = some (.ref a__law_are_leaps)
  a_law : Addr
  d_law : FuncData
  F_law : Fun K "law" "law" s_law a_law d_law
  b_law : Binds K d_law ["script"] []
  m_law : mg "law" = some (.ref a_law)
  t_MOST_CART : Tok
  m_MOST_CART : mg "MOST_CART" = some (.int 1000 t_MOST_CART)
  t_MOST_LETTERS : Tok
  m_MOST_LETTERS : mg "MOST_LETTERS" = some (.int 8 t_MOST_LETTERS)
  t_MOST_HEAVY : Tok
  m_MOST_HEAVY : mg "MOST_HEAVY" = some (.int 200 t_MOST_HEAVY)
  t_MOST_LEAP : Tok
  m_MOST_LEAP : mg "MOST_LEAP" = some (.int 100 t_MOST_LEAP)
  t_MOST_FOLK : Tok
  m_MOST_FOLK : mg "MOST_FOLK" = some (.int 7 t_MOST_FOLK)
  a_WAYS : Addr
  m_WAYS : mg "WAYS" = some (.ref a_WAYS)
  k_WAYS : KTup K a_WAYS [.int (1), .int (-1)]
  t_MOST_TUPLES : Tok
  m_MOST_TUPLES : mg "MOST_TUPLES" = some (.int 7 t_MOST_TUPLES)
  z_abs : mg "abs" = none
  z_all : mg "all" = none
  z_bool : mg "bool" = none
  z_int : mg "int" = none
  z_isinstance : mg "isinstance" = none
  z_len : mg "len" = none
  z_list : mg "list" = none
  z_min : mg "min" = none
  z_range : mg "range" = none
  z_set : mg "set" = none
  z_sorted : mg "sorted" = none
  z_str : mg "str" = none
  z_tuple : mg "tuple" = none
  z_zip : mg "zip" = none
section
variable {P : Program} {w : World} {K : PySem.W.Frag} {mg : Str → Option Value} {base : Heap}
theorem sc_is_whole : FnScope ["thing"] ["thing"] (defScope s_is_whole) := ⟨rfl, rfl, rfl, by decide +kernel, rfl, by decide +kernel, by decide +kernel⟩
theorem ok_is_whole (T : Tx K mg) : FnOk P w K mg base CX0 1 T.a_is_whole T.d_is_whole ["thing"] (spD K 1 fn_is_whole) := by
  refine T.F_is_whole.ok sc_is_whole (fun vs H Q E h => ?_) (fun cdv A outer s H vs Q E hr h => ?_)
  · obtain ⟨S, ds, d, hl, _⟩ := h
    exact hl
  · refine ⟨_, (pss_one (ps_ret (pe_and (pe_callB call_isi (by rfl) T.z_isinstance (by decide +kernel) (pa_cons (pv 0) (pa_cons (pe_bltn (v := .ty "int") (by rfl) T.z_int (by decide +kernel) rfl) pa_nil))) (pe_one (pe_not (pe_callB call_isi (by rfl) T.z_isinstance (by decide +kernel) (pa_cons (pv 0) (pa_cons (pe_bltn (v := .ty "bool") (by rfl) T.z_bool (by decide +kernel) rfl) pa_nil)))))))), ?_⟩
    exact body_D (n := 0) (φ := b_is_whole) (ws_ret (we_andV (we_isi we_var) (we_notV (we_isi we_var)))) rfl h
theorem sc_is_whole_within : FnScope ["thing", "least", "most"] ["thing", "least", "most"] (defScope s_is_whole_within) := ⟨rfl, rfl, rfl, by decide +kernel, rfl, by decide +kernel, by decide +kernel⟩
theorem ok_is_whole_within (T : Tx K mg) : FnOk P w K mg base CX0 2 T.a_is_whole_within T.d_is_whole_within ["thing", "least", "most"] (spD K 3 fn_is_whole_within) := by
  refine T.F_is_whole_within.ok sc_is_whole_within (fun vs H Q E h => ?_) (fun cdv A outer s H vs Q E hr h => ?_)
  · obtain ⟨S, ds, d, hl, _⟩ := h
    exact hl
  · refine ⟨_, (pss_one (ps_ret (pe_and (pe_call (ok_is_whole T) (hr.mono (by decide)) (by rfl) T.m_is_whole T.F_is_whole.kp T.b_is_whole .nil pass0 (pa_cons (pv 0) pa_nil)) (pe_one (pe_chain op_leA op_leA (pv 1) (pv 0) (pv 2)))))), ?_⟩
    exact body_D (n := 0) (φ := b_is_whole_within) (ws_ret (we_andV (we_call (wa_cons we_var wa_nil) (arn_cons arn_nil)) (we_chain rd_leA rd_leA we_var we_var we_var))) rfl h
theorem sc_is_tuple_of : FnScope ["thing", "many"] ["thing", "many"] (defScope s_is_tuple_of) := ⟨rfl, rfl, rfl, by decide +kernel, rfl, by decide +kernel, by decide +kernel⟩
theorem ok_is_tuple_of (T : Tx K mg) : FnOk P w K mg base CX0 1 T.a_is_tuple_of T.d_is_tuple_of ["thing", "many"] (spD K 2 fn_is_tuple_of) := by
  refine T.F_is_tuple_of.ok sc_is_tuple_of (fun vs H Q E h => ?_) (fun cdv A outer s H vs Q E hr h => ?_)
  · obtain ⟨S, ds, d, hl, _⟩ := h
    exact hl
  · refine ⟨_, (pss_one (ps_ret (pe_and (pe_callB call_isi (by rfl) T.z_isinstance (by decide +kernel) (pa_cons (pv 0) (pa_cons (pe_bltn (v := .ty "tuple") (by rfl) T.z_tuple (by decide +kernel) rfl) pa_nil))) (pe_one (pe_cmpR (op_eqA hr.units) (pe_callB call_len (by rfl) T.z_len (by decide +kernel) (pa_cons (pv 0) pa_nil)) (pv 1) (nomark _)))))), ?_⟩
    exact body_D (n := 0) (φ := b_is_tuple_of) (ws_ret (we_andV (we_isi we_var) (we_op rd_eqA (we_c1 r1_len (WE.wb we_var)) we_var))) rfl h
theorem sc_is_cart : FnScope ["thing"] ["thing"] (defScope s_is_cart) := ⟨rfl, rfl, rfl, by decide +kernel, rfl, by decide +kernel, by decide +kernel⟩
theorem ok_is_cart (T : Tx K mg) : FnOk P w K mg base CX0 3 T.a_is_cart T.d_is_cart ["thing"] (spD K 1 fn_is_cart) := by
  refine T.F_is_cart.ok sc_is_cart (fun vs H Q E h => ?_) (fun cdv A outer s H vs Q E hr h => ?_)
  · obtain ⟨S, ds, d, hl, _⟩ := h
    exact hl
  · refine ⟨_, (pss_one (ps_ret (pe_call (ok_is_whole_within T) (hr.mono (by decide)) (by rfl) T.m_is_whole_within T.F_is_whole_within.kp T.b_is_whole_within .nil pass0 (pa_cons (pv 0) (pa_cons pe_int (pa_cons (pe_glob (v := .int 1000) (by rfl) T.m_MOST_CART ⟨_, rfl⟩) pa_nil)))))), ?_⟩
    exact body_D (n := 0) (φ := b_is_cart) (ws_ret (we_call (wa_cons we_var (wa_cons we_int (wa_cons we_int wa_nil))) (arn_cons (arn_cons (arn_cons arn_nil))))) rfl h
theorem sc_is_name : FnScope ["thing", "sign"] ["thing"] (defScope s_is_name) := ⟨rfl, rfl, rfl, by decide +kernel, rfl, by decide +kernel, by decide +kernel⟩
theorem ok_is_name (T : Tx K mg) : FnOk P w K mg base CX0 1 T.a_is_name T.d_is_name ["thing"] (spD K 1 fn_is_name) := by
  refine T.F_is_name.ok sc_is_name (fun vs H Q E h => ?_) (fun cdv A outer s H vs Q E hr h => ?_)
  · obtain ⟨S, ds, d, hl, _⟩ := h
    exact hl
  · refine ⟨_, (pss_cons (ps_if (PW.pt (pw_or (pt_not (pt_val (pe_callB call_isi (by rfl) T.z_isinstance (by decide +kernel) (pa_cons (pv 0) (pa_cons (pe_bltn (v := .ty "str") (by rfl) T.z_str (by decide +kernel) rfl) pa_nil))))) (pw_or1 (pt_not (pt_chain op_leA op_leA pe_int (pe_callB call_len (by rfl) T.z_len (by decide +kernel) (pa_cons (pv 0) pa_nil)) (pe_glob (v := .int 8) (by rfl) T.m_MOST_LETTERS ⟨_, rfl⟩)))))) (pss_one (ps_ret pe_bl)) pss_nil)
      (pss_one (ps_ret (pe_callB (cr_all rfl) (by rfl) T.z_all (by decide +kernel) (pa_cons (pe_lc (own := [("sign", 1)]) (wi := (iAny K (tVar 0))) (g := (gName 1)) (tt := tYes) (te := (tChain rLeA rLeA (tC (.str "a")) (tVar 1) (tC (.str "z")))) rfl sc_is_name.nd (pi_any (pv 0)) (blkOk_by (N := ["thing", "sign"]) (sc := defScope s_is_name) (by decide +kernel)) (fun _ _ _ _ _ => (pg_name (i := 1) sc_is_name.nd rfl (by first | exact Or.inl rfl | exact Or.inr rfl))) (fun _ _ _ _ _ => pts_nil) (fun _ _ _ _ _ => (pe_chain op_leA op_leA pe_str (pv 1) pe_str))) pa_nil))))), ?_⟩
    exact body_D (n := 1) (φ := b_is_name) (ws_seq (ws_if (wt_or (wt_not (wt_B (we_isi we_var))) (wt_not (wt_test (we_chain rd_leA rd_leA we_int (we_c1 r1_len (WE.wb we_var)) we_int)))) (ws_ret we_bl) ws_next)
      (ws_ret (we_c1 r1_all (WE.wb ((wl_lc (js := [1]) (wi_any we_var) wg_name (by decide) wt_yes (we_chain rd_leA rd_leA we_str we_var we_str))).we)))) rfl h
theorem sc_is_somebody : FnScope ["thing", "name", "heavy", "leap"] ["thing"] (defScope s_is_somebody) := ⟨rfl, rfl, rfl, by decide +kernel, rfl, by decide +kernel, by decide +kernel⟩
theorem ok_is_somebody (T : Tx K mg) : FnOk P w K mg base CX0 3 T.a_is_somebody T.d_is_somebody ["thing"] (spD K 1 fn_is_somebody) := by
  refine T.F_is_somebody.ok sc_is_somebody (fun vs H Q E h => ?_) (fun cdv A outer s H vs Q E hr h => ?_)
  · obtain ⟨S, ds, d, hl, _⟩ := h
    exact hl
  · refine ⟨_, (pss_cons (ps_if (pt_not (pt_val (pe_call (ok_is_tuple_of T) (hr.mono (by decide)) (by rfl) T.m_is_tuple_of T.F_is_tuple_of.kp T.b_is_tuple_of .nil pass0 (pa_cons (pv 0) (pa_cons pe_int pa_nil))))) (pss_one (ps_ret pe_bl)) pss_nil)
      (pss_cons (ps_asg (pv 0) (pg_tup rfl (pgs_cons (pg_name (i := 1) sc_is_somebody.nd rfl (by first | exact Or.inl rfl | exact Or.inr rfl)) (pgs_cons (pg_name (i := 2) sc_is_somebody.nd rfl (by first | exact Or.inl rfl | exact Or.inr rfl)) (pgs_cons (pg_name (i := 3) sc_is_somebody.nd rfl (by first | exact Or.inl rfl | exact Or.inr rfl)) pgs_nil)))))
      (pss_one (ps_ret (pe_and (pe_call (ok_is_name T) (hr.mono (by decide)) (by rfl) T.m_is_name T.F_is_name.kp T.b_is_name .nil pass0 (pa_cons (pv 1) pa_nil)) (pe_and (pe_call (ok_is_whole_within T) (hr.mono (by decide)) (by rfl) T.m_is_whole_within T.F_is_whole_within.kp T.b_is_whole_within .nil pass0 (pa_cons (pv 2) (pa_cons pe_int (pa_cons (pe_glob (v := .int 200) (by rfl) T.m_MOST_HEAVY ⟨_, rfl⟩) pa_nil)))) (pe_one (pe_call (ok_is_whole_within T) (hr.mono (by decide)) (by rfl) T.m_is_whole_within T.F_is_whole_within.kp T.b_is_whole_within .nil pass0 (pa_cons (pv 3) (pa_cons pe_int (pa_cons (pe_glob (v := .int 100) (by rfl) T.m_MOST_LEAP ⟨_, rfl⟩) pa_nil))))))))))), ?_⟩
    exact body_D (n := 3) (φ := b_is_somebody) (ws_seq (ws_if (wt_not (wt_B (we_call (wa_cons we_var (wa_cons we_int wa_nil)) (arn_cons (arn_cons arn_nil))))) (ws_ret we_bl) ws_next)
      (ws_seq (ws_asg we_var (wg_tup (wgs_cons wg_name (wgs_cons wg_name (wgs_cons wg_name wgs_nil)))))
      (ws_ret (we_andV (we_call (wa_cons we_var wa_nil) (arn_cons arn_nil)) (we_andV (we_call (wa_cons we_var (wa_cons we_int (wa_cons we_int wa_nil))) (arn_cons (arn_cons (arn_cons arn_nil)))) (we_call (wa_cons we_var (wa_cons we_int (wa_cons we_int wa_nil))) (arn_cons (arn_cons (arn_cons arn_nil))))))))) rfl h
theorem sc_names_of : FnScope ["rows", "row"] ["rows"] (defScope s_names_of) := ⟨rfl, rfl, rfl, by decide +kernel, rfl, by decide +kernel, by decide +kernel⟩
theorem ok_names_of (T : Tx K mg) : FnOk P w K mg base CX0 1 T.a_names_of T.d_names_of ["rows"] (spD K 1 fn_names_of) := by
  refine T.F_names_of.ok sc_names_of (fun vs H Q E h => ?_) (fun cdv A outer s H vs Q E hr h => ?_)
  · obtain ⟨S, ds, d, hl, _⟩ := h
    exact hl
  · refine ⟨_, (pss_one (ps_ret (pe_callTy call_tuple_of (by rfl) T.z_tuple (by decide +kernel) (pa_cons (pe_lc (own := [("row", 1)]) (wi := (iAny K (tVar 0))) (g := (gName 1)) (tt := tYes) (te := (tOp (rIx K) (tVar 1) (tC (.int 0)))) rfl sc_names_of.nd (pi_any (pv 0)) (blkOk_by (N := ["rows", "row"]) (sc := defScope s_names_of) (by decide +kernel)) (fun _ _ _ _ _ => (pg_name (i := 1) sc_names_of.nd rfl (by first | exact Or.inl rfl | exact Or.inr rfl))) (fun _ _ _ _ _ => pts_nil) (fun _ _ _ _ _ => (pe_ix ix_seq (pv 1) pe_int (fun _ _ => rfl)))) pa_nil)))), ?_⟩
    exact body_D (n := 1) (φ := b_names_of) (ws_ret (we_c1 r1_tuple (WE.wb ((wl_lc (js := [1]) (wi_any we_var) wg_name (by decide) wt_yes (we_op rd_ix we_var we_int))).we))) rfl h
theorem sc_names_rise : FnScope ["rows", "names", "low", "high"] ["rows"] (defScope s_names_rise) := ⟨rfl, rfl, rfl, by decide +kernel, rfl, by decide +kernel, by decide +kernel⟩
theorem ok_names_rise (T : Tx K mg) : FnOk P w K mg base CX0 2 T.a_names_rise T.d_names_rise ["rows"] (spD K 1 fn_names_rise) := by
  refine T.F_names_rise.ok sc_names_rise (fun vs H Q E h => ?_) (fun cdv A outer s H vs Q E hr h => ?_)
  · obtain ⟨S, ds, d, hl, _⟩ := h
    exact hl
  · refine ⟨_, (pss_cons (ps_set (i := 1) sc_names_rise.nd rfl (by first | exact Or.inl rfl | exact Or.inr rfl) (pe_call (ok_names_of T) (hr.mono (by decide)) (by rfl) T.m_names_of T.F_names_of.kp T.b_names_of .nil pass0 (pa_cons (pv 0) pa_nil)))
      (pss_one (ps_ret (pe_callB (cr_all rfl) (by rfl) T.z_all (by decide +kernel) (pa_cons (pe_lc (own := [("low", 2), ("high", 3)]) (wi := (iZipA K (tCons (tVar 1) (tCons (tSl (rSlA3 K) (tVar 1) (tPart (tC (.int 1))) tNoPart) tNil)))) (g := (gTup K 2 (gCons (gName 2) (gCons (gName 3) gNil)))) (tt := tYes) (te := (tOp rLtA (tVar 2) (tVar 3))) rfl sc_names_rise.nd (pi_zipA (by rfl) T.z_zip (pa_cons (pv 1) (pa_cons (pe_slice sl_any (pv 1) (po_some pe_int) po_none) pa_nil))) (blkOk_by (N := ["rows", "names", "low", "high"]) (sc := defScope s_names_rise) (by decide +kernel)) (fun _ _ _ _ _ => (pg_tup rfl (pgs_cons (pg_name (i := 2) sc_names_rise.nd rfl (by first | exact Or.inl rfl | exact Or.inr rfl)) (pgs_cons (pg_name (i := 3) sc_names_rise.nd rfl (by first | exact Or.inl rfl | exact Or.inr rfl)) pgs_nil)))) (fun _ _ _ _ _ => pts_nil) (fun _ _ _ _ _ => (pe_cmpR op_ltA (pv 2) (pv 3) (nomark _)))) pa_nil))))), ?_⟩
    exact body_D (n := 3) (φ := b_names_rise) (ws_seq (ws_asg (we_call (wa_cons we_var wa_nil) (arn_cons arn_nil)) (wg_name (i := 1)))
      (ws_ret (we_c1 r1_all (WE.wb ((wl_lc (js := ([2] ++ ([3] ++ []))) (wi_zip we_var (we_sl we_var (wo_some we_int) wo_none)) (wg_tup (wgs_cons wg_name (wgs_cons wg_name wgs_nil))) (by decide) wt_yes (we_op rd_ltA we_var we_var))).we)))) rfl h
theorem sc_are_folk : FnScope ["thing", "one"] ["thing"] (defScope s_are_folk) := ⟨rfl, rfl, rfl, by decide +kernel, rfl, by decide +kernel, by decide +kernel⟩
theorem ok_are_folk (T : Tx K mg) : FnOk P w K mg base CX0 4 T.a_are_folk T.d_are_folk ["thing"] (spD K 1 fn_are_folk) := by
  refine T.F_are_folk.ok sc_are_folk (fun vs H Q E h => ?_) (fun cdv A outer s H vs Q E hr h => ?_)
  · obtain ⟨S, ds, d, hl, _⟩ := h
    exact hl
  · refine ⟨_, (pss_cons (ps_if (PW.pt (pw_or (pt_not (pt_val (pe_callB call_isi (by rfl) T.z_isinstance (by decide +kernel) (pa_cons (pv 0) (pa_cons (pe_bltn (v := .ty "tuple") (by rfl) T.z_tuple (by decide +kernel) rfl) pa_nil))))) (pw_or1 (pt_not (pt_chain op_leA op_leA pe_int (pe_callB call_len (by rfl) T.z_len (by decide +kernel) (pa_cons (pv 0) pa_nil)) (pe_glob (v := .int 7) (by rfl) T.m_MOST_FOLK ⟨_, rfl⟩)))))) (pss_one (ps_ret pe_bl)) pss_nil)
      (pss_one (ps_ret (pe_and (pe_callB (cr_all rfl) (by rfl) T.z_all (by decide +kernel) (pa_cons (pe_lc (own := [("one", 1)]) (wi := (iAny K (tVar 0))) (g := (gName 1)) (tt := tYes) (te := (tCall (spD K 1 fn_is_somebody) [] E0 (tCons (tVar 1) tNil))) rfl sc_are_folk.nd (pi_any (pv 0)) (blkOk_by (N := ["thing", "one"]) (sc := defScope s_are_folk) (by decide +kernel)) (fun _ _ _ _ _ => (pg_name (i := 1) sc_are_folk.nd rfl (by first | exact Or.inl rfl | exact Or.inr rfl))) (fun _ _ _ _ _ => pts_nil) (fun _ _ _ _ _ => (pe_call (ok_is_somebody T) (hr.mono (by decide)) (by rfl) T.m_is_somebody T.F_is_somebody.kp T.b_is_somebody .nil pass0 (pa_cons (pv 1) pa_nil)))) pa_nil)) (pe_one (pe_call (ok_names_rise T) (hr.mono (by decide)) (by rfl) T.m_names_rise T.F_names_rise.kp T.b_names_rise .nil pass0 (pa_cons (pv 0) pa_nil))))))), ?_⟩
    exact body_D (n := 1) (φ := b_are_folk) (ws_seq (ws_if (wt_or (wt_not (wt_B (we_isi we_var))) (wt_not (wt_test (we_chain rd_leA rd_leA we_int (we_c1 r1_len (WE.wb we_var)) we_int)))) (ws_ret we_bl) ws_next)
      (ws_ret (we_andV (we_c1 r1_all (WE.wb ((wl_lc (js := [1]) (wi_any we_var) wg_name (by decide) wt_yes (we_call (wa_cons we_var wa_nil) (arn_cons arn_nil)))).we)) (we_call (wa_cons we_var wa_nil) (arn_cons arn_nil))))) rfl h
theorem sc_is_leap : FnScope ["names", "thing", "name", "way"] ["names", "thing"] (defScope s_is_leap) := ⟨rfl, rfl, rfl, by decide +kernel, rfl, by decide +kernel, by decide +kernel⟩
theorem ok_is_leap (T : Tx K mg) : FnOk P w K mg base CX0 2 T.a_is_leap T.d_is_leap ["names", "thing"] (spD K 2 fn_is_leap) := by
  refine T.F_is_leap.ok sc_is_leap (fun vs H Q E h => ?_) (fun cdv A outer s H vs Q E hr h => ?_)
  · obtain ⟨S, ds, d, hl, _⟩ := h
    exact hl
  · refine ⟨_, (pss_cons (ps_if (pt_not (pt_val (pe_call (ok_is_tuple_of T) (hr.mono (by decide)) (by rfl) T.m_is_tuple_of T.F_is_tuple_of.kp T.b_is_tuple_of .nil pass0 (pa_cons (pv 1) (pa_cons pe_int pa_nil))))) (pss_one (ps_ret pe_bl)) pss_nil)
      (pss_cons (ps_asg (pv 1) (pg_tup rfl (pgs_cons (pg_name (i := 2) sc_is_leap.nd rfl (by first | exact Or.inl rfl | exact Or.inr rfl)) (pgs_cons (pg_name (i := 3) sc_is_leap.nd rfl (by first | exact Or.inl rfl | exact Or.inr rfl)) pgs_nil))))
      (pss_one (ps_ret (pe_and (pe_cmpR (op_inT hr.units) (pv 2) (pv 0) (by with_unfolding_all rfl)) (pe_and (pe_call (ok_is_whole T) (hr.mono (by decide)) (by rfl) T.m_is_whole T.F_is_whole.kp T.b_is_whole .nil pass0 (pa_cons (pv 3) pa_nil)) (pe_one (pe_cmpR (op_inT hr.units) (pv 3) (pe_glob (v := .ref T.a_WAYS) (by rfl) T.m_WAYS rfl) (by with_unfolding_all rfl))))))))), ?_⟩
    exact body_D (n := 2) (φ := b_is_leap) (ws_seq (ws_if (wt_not (wt_B (we_call (wa_cons we_var (wa_cons we_int wa_nil)) (arn_cons (arn_cons arn_nil))))) (ws_ret we_bl) ws_next)
      (ws_seq (ws_asg we_var (wg_tup (wgs_cons wg_name (wgs_cons wg_name wgs_nil))))
      (ws_ret (we_andV (we_op rd_inT we_var we_var) (we_andV (we_call (wa_cons we_var wa_nil) (arn_cons arn_nil)) (we_op rd_inT we_var (we_ktup T.k_WAYS (fun H => RpAll.of_ints [(1), (-1)])))))))) rfl h
theorem sc_are_at_once : FnScope ["names", "thing", "one"] ["names", "thing"] (defScope s_are_at_once) := ⟨rfl, rfl, rfl, by decide +kernel, rfl, by decide +kernel, by decide +kernel⟩
theorem ok_are_at_once (T : Tx K mg) : FnOk P w K mg base CX0 3 T.a_are_at_once T.d_are_at_once ["names", "thing"] (spD K 2 fn_are_at_once) := by
  refine T.F_are_at_once.ok sc_are_at_once (fun vs H Q E h => ?_) (fun cdv A outer s H vs Q E hr h => ?_)
  · obtain ⟨S, ds, d, hl, _⟩ := h
    exact hl
  · refine ⟨_, (pss_cons (ps_if (PW.pt (pw_or (pt_not (pt_val (pe_callB call_isi (by rfl) T.z_isinstance (by decide +kernel) (pa_cons (pv 1) (pa_cons (pe_bltn (v := .ty "tuple") (by rfl) T.z_tuple (by decide +kernel) rfl) pa_nil))))) (pw_or1 (pt_cmpR (op_eqA hr.units) (pe_callB call_len (by rfl) T.z_len (by decide +kernel) (pa_cons (pv 1) pa_nil)) pe_int (nomark _))))) (pss_one (ps_ret pe_bl)) pss_nil)
      (pss_one (ps_ret (pe_and (pe_callB (cr_all rfl) (by rfl) T.z_all (by decide +kernel) (pa_cons (pe_lc (own := [("one", 2)]) (wi := (iAny K (tVar 1))) (g := (gName 2)) (tt := tYes) (te := (tCall (spD K 2 fn_is_leap) [] E0 (tCons (tVar 0) (tCons (tVar 2) tNil)))) rfl sc_are_at_once.nd (pi_any (pv 1)) (blkOk_by (N := ["names", "thing", "one"]) (sc := defScope s_are_at_once) (by decide +kernel)) (fun _ _ _ _ _ => (pg_name (i := 2) sc_are_at_once.nd rfl (by first | exact Or.inl rfl | exact Or.inr rfl))) (fun _ _ _ _ _ => pts_nil) (fun _ _ _ _ _ => (pe_call (ok_is_leap T) (hr.mono (by decide)) (by rfl) T.m_is_leap T.F_is_leap.kp T.b_is_leap .nil pass0 (pa_cons (pv 0) (pa_cons (pv 2) pa_nil))))) pa_nil)) (pe_one (pe_call (ok_names_rise T) (hr.mono (by decide)) (by rfl) T.m_names_rise T.F_names_rise.kp T.b_names_rise .nil pass0 (pa_cons (pv 1) pa_nil))))))), ?_⟩
    exact body_D (n := 1) (φ := b_are_at_once) (ws_seq (ws_if (wt_or (wt_not (wt_B (we_isi we_var))) (wt_test (we_op rd_eqA (we_c1 r1_len (WE.wb we_var)) we_int))) (ws_ret we_bl) ws_next)
      (ws_ret (we_andV (we_c1 r1_all (WE.wb ((wl_lc (js := [2]) (wi_any we_var) wg_name (by decide) wt_yes (we_call (wa_cons we_var (wa_cons we_var wa_nil)) (arn_cons (arn_cons arn_nil))))).we)) (we_call (wa_cons we_var wa_nil) (arn_cons arn_nil))))) rfl h
theorem sc_are_leaps : FnScope ["folk", "thing", "names", "leapt", "at_once", "name", "way"] ["folk", "thing"] (defScope s_are_leaps) := ⟨rfl, rfl, rfl, by decide +kernel, rfl, by decide +kernel, by decide +kernel⟩
theorem ok_are_leaps (T : Tx K mg) : FnOk P w K mg base CX0 4 T.a_are_leaps T.d_are_leaps ["folk", "thing"] (spD K 2 fn_are_leaps) := by
  refine T.F_are_leaps.ok sc_are_leaps (fun vs H Q E h => ?_) (fun cdv A outer s H vs Q E hr h => ?_)
  · obtain ⟨S, ds, d, hl, _⟩ := h
    exact hl
  · refine ⟨_, (pss_cons (ps_if (PW.pt (pw_or (pt_not (pt_val (pe_callB call_isi (by rfl) T.z_isinstance (by decide +kernel) (pa_cons (pv 1) (pa_cons (pe_bltn (v := .ty "list") (by rfl) T.z_list (by decide +kernel) rfl) pa_nil))))) (pw_or1 (pt_cmpR op_gt (pe_callB call_len (by rfl) T.z_len (by decide +kernel) (pa_cons (pv 1) pa_nil)) (pe_glob (v := .int 7) (by rfl) T.m_MOST_TUPLES ⟨_, rfl⟩) (nomark _))))) (pss_one (ps_ret pe_bl)) pss_nil)
      (pss_cons (ps_set (i := 2) sc_are_leaps.nd rfl (by first | exact Or.inl rfl | exact Or.inr rfl) (pe_call (ok_names_of T) (hr.mono (by decide)) (by rfl) T.m_names_of T.F_names_of.kp T.b_names_of .nil pass0 (pa_cons (pv 0) pa_nil)))
      (pss_cons (ps_if (pt_not (pt_val (pe_callB (cr_all rfl) (by rfl) T.z_all (by decide +kernel) (pa_cons (pe_lc (own := [("at_once", 4)]) (wi := (iAny K (tVar 1))) (g := (gName 4)) (tt := tYes) (te := (tCall (spD K 2 fn_are_at_once) [] E0 (tCons (tVar 2) (tCons (tVar 4) tNil)))) rfl sc_are_leaps.nd (pi_any (pv 1)) (blkOk_by (N := ["folk", "thing", "names", "leapt", "at_once", "name", "way"]) (sc := defScope s_are_leaps) (by decide +kernel)) (fun _ _ _ _ _ => (pg_name (i := 4) sc_are_leaps.nd rfl (by first | exact Or.inl rfl | exact Or.inr rfl))) (fun _ _ _ _ _ => pts_nil) (fun _ _ _ _ _ => (pe_call (ok_are_at_once T) (hr.mono (by decide)) (by rfl) T.m_are_at_once T.F_are_at_once.kp T.b_are_at_once .nil pass0 (pa_cons (pv 2) (pa_cons (pv 4) pa_nil))))) pa_nil)))) (pss_one (ps_ret pe_bl)) pss_nil)
      (pss_cons (ps_setLc2 (i := 3) (own := [("at_once", 4), ("name", 5), ("way", 6)]) (vs1 := [5, 6]) (wi := (iAny K (tVar 1))) (g := (gName 4)) (tt := tYes) (wi1 := (iAny K (tVar 4))) (g1 := (gTup K 2 (gCons (gName 5) (gCons (gName 6) gNil)))) (tt1 := tYes) (te := (tVar 5)) rfl sc_are_leaps.nd (by rfl) (by rfl) (sw_true rfl rfl rfl (by decide +kernel)) (pi_any (pv 1)) (blkOk_by (N := ["folk", "thing", "names", "leapt", "at_once", "name", "way"]) (sc := defScope s_are_leaps) (by decide +kernel)) (by decide) (fun _ _ _ _ _ => (pg_name (i := 4) sc_are_leaps.nd rfl (by first | exact Or.inl rfl | exact Or.inr rfl))) (fun _ _ _ _ _ => pts_nil) (fun _ _ _ _ _ => (pi_any (pv 4))) (fun _ _ _ _ _ => (pg_tup rfl (pgs_cons (pg_name (i := 5) sc_are_leaps.nd rfl (by first | exact Or.inl rfl | exact Or.inr rfl)) (pgs_cons (pg_name (i := 6) sc_are_leaps.nd rfl (by first | exact Or.inl rfl | exact Or.inr rfl)) pgs_nil)))) (fun _ _ _ _ _ => pts_nil) (fun _ _ _ _ _ => (pv 5)))
      (pss_one (ps_ret (pe_cmpR (op_eqA hr.units) (pe_lenSetT rfl (by rfl) T.z_len (by decide +kernel) (by rfl) T.z_set (by decide +kernel) (pv 3)) (pe_callB call_len (by rfl) T.z_len (by decide +kernel) (pa_cons (pv 3) pa_nil)) (nomark _)))))))), ?_⟩
    exact body_D (n := 5) (φ := b_are_leaps) (ws_seq (ws_if (wt_or (wt_not (wt_B (we_isi we_var))) (wt_test (we_op rd_gt (we_c1 r1_len (WE.wb we_var)) we_int))) (ws_ret we_bl) ws_next)
      (ws_seq (ws_asg (we_call (wa_cons we_var wa_nil) (arn_cons arn_nil)) (wg_name (i := 2)))
      (ws_seq (ws_if (wt_not (wt_B (we_c1 r1_all (WE.wb ((wl_lc (js := [4]) (wi_any we_var) wg_name (by decide) wt_yes (we_call (wa_cons we_var (wa_cons we_var wa_nil)) (arn_cons (arn_cons arn_nil))))).we)))) (ws_ret we_bl) ws_next)
      (ws_seq (ws_asg ((wl_lc2 (js := [4]) (js1 := ([5] ++ ([6] ++ []))) (wi_any we_var) wg_name (by decide) wt_yes (wi_any we_var) (wg_tup (wgs_cons wg_name (wgs_cons wg_name wgs_nil))) (by decide) wt_yes we_var)).we (wg_name (i := 3)))
      (ws_ret (we_op rd_eqA (we_c1 r1_lenSet (WE.wb we_var)) (we_c1 r1_len (WE.wb we_var)))))))) rfl h
theorem sc__law_bag : FnScope ["script", "k", "cell"] ["script", "k"] (defScope s__law_bag) := ⟨rfl, rfl, rfl, by decide +kernel, rfl, by decide +kernel, by decide +kernel⟩
theorem ok__law_bag (T : Tx K mg) : FnOk P w K mg base CX0 1 T.a__law_bag T.d__law_bag ["script", "k"] (spL K 2 fn__law_bag) := by
  refine T.F__law_bag.ok sc__law_bag (fun vs H Q E h => ?_) (fun cdv A outer s H vs Q E hr h => ?_)
  · obtain ⟨S, ds, d, hl, _⟩ := h
    exact hl
  · refine ⟨_, (pss_cons (ps_set (i := 2) sc__law_bag.nd rfl (by first | exact Or.inl rfl | exact Or.inr rfl) pe_int)
      (pss_cons (ps_if (pt_cmpR op_ltA (pv 1) (pe_callB call_len (by rfl) T.z_len (by decide +kernel) (pa_cons (pv 0) pa_nil)) (nomark _)) (pss_one (ps_set (i := 2) sc__law_bag.nd rfl (by first | exact Or.inl rfl | exact Or.inr rfl) (pe_callB call_abs (by rfl) T.z_abs (by decide +kernel) (pa_cons (pe_ix ix_seq (pv 0) (pv 1) (fun _ _ => rfl)) pa_nil)))) pss_nil)
      (pss_cons (ps_if (pt_cmpR op_ltA (pv 2) (pe_op op_pow pe_int pe_int) (nomark _)) (pss_one (ps_ret (pe_lst (pa_cons pe_int (pa_cons (pe_op op_addA pe_int (pe_op op_mod (pe_op op_addA (pe_op op_mulW (pv 2) pe_int) (pe_op op_mulW pe_int (pv 1))) pe_int)) pa_nil))))) pss_nil)
      (pss_one (ps_ret (pe_lst (pa_cons (pv 2) (pa_cons (pe_op op_addA pe_int (pe_op op_mod (pe_op op_addA (pv 2) (pv 1)) pe_int)) pa_nil)))))))), ?_⟩
    exact body_L (n := 1) (φ := b__law_bag) (ws_seq (ws_asg we_int (wg_name (i := 2)))
      (ws_seq (ws_if (wt_test (we_op rd_ltA we_var (we_c1 r1_len (WE.wb we_var)))) (ws_asg (we_c1 r1_abs (WE.wb (we_op rd_ix we_var we_var))) (wg_name (i := 2))) ws_next)
      (ws_seq (ws_if (wt_test (we_op rd_ltA we_var (we_op rd_pow we_int we_int))) (ws_retL (wl_lst (wa_cons we_int (wa_cons (we_op rd_addA we_int (we_op rd_mod (we_op rd_addA (we_op rd_mul we_var we_int) (we_op rd_mul we_int we_var)) we_int)) wa_nil)))) ws_next)
      (ws_retL (wl_lst (wa_cons we_var (wa_cons (we_op rd_addA we_int (we_op rd_mod (we_op rd_addA we_var we_var) we_int)) wa_nil))))))) rfl h
theorem sc__law_take : FnScope ["bag", "many", "found"] ["bag", "many"] (defScope s__law_take) := ⟨rfl, rfl, rfl, by decide +kernel, rfl, by decide +kernel, by decide +kernel⟩
theorem ok__law_take (T : Tx K mg) : FnOk P w K mg base CX0 1 T.a__law_take T.d__law_take ["bag", "many"] (spB K 2 fn__law_take) := by
  refine T.F__law_take.ok sc__law_take (fun vs H Q E h => ?_) (fun cdv A outer s H vs Q E hr h => ?_)
  · obtain ⟨S, b, us, bg, ws, ds, d, bg', _, hl, _⟩ := h
    exact hl
  · refine ⟨_, (pss_cons (ps_if (pt_cmpR op_gt (pe_ix ix_seq (pv 0) pe_int (fun _ _ => rfl)) pe_int (nomark _)) (pss_cons (ps_set (i := 2) sc__law_take.nd rfl (by first | exact Or.inl rfl | exact Or.inr rfl) (pe_op op_mod (pe_ix ix_seq (pv 0) pe_int (fun _ _ => rfl)) (pv 1)))
      (pss_cons (ps_asg (pe_op op_fdivW (pe_ix ix_seq (pv 0) pe_int (fun _ _ => rfl)) (pv 1)) (pg_sub (pv 0) pe_int set_list))
      (pss_one (ps_ret (pv 2))))) pss_nil)
      (pss_cons (ps_asg (pe_op op_mod (pe_op op_mulW (pe_ix ix_seq (pv 0) pe_int (fun _ _ => rfl)) pe_int) pe_int) (pg_sub (pv 0) pe_int set_list))
      (pss_one (ps_ret (pe_op op_mod (pe_op op_fdivW (pe_op op_mod (pe_op op_mulW (pe_ix ix_seq (pv 0) pe_int (fun _ _ => rfl)) (pe_ix ix_seq (pv 0) pe_int (fun _ _ => rfl))) pe_int) pe_int) (pv 1)))))), ?_⟩
    exact body_B (n := 1) (φ := b__law_take) (ws_seq (ws_if (wt_test (we_op rd_gt (we_ixO we_int) we_int)) (ws_seq (ws_asg (we_op rd_mod (we_ixO we_int) we_var) (wg_name (i := 2)))
      (ws_seq (ws_setIx (we_op rd_div (we_ixO we_int) we_var) we_int)
      (ws_ret we_var))) ws_next)
      (ws_seq (ws_setIx (we_op rd_mod (we_op rd_mul (we_ixO we_int) we_int) we_int) we_int)
      (ws_ret (we_op rd_mod (we_op rd_div (we_op rd_mod (we_op rd_mul (we_ixO we_int) (we_ixO we_int)) we_int) we_int) we_var)))) rfl h
theorem sc__law_of : FnScope ["bag", "some"] ["bag", "some"] (defScope s__law_of) := ⟨rfl, rfl, rfl, by decide +kernel, rfl, by decide +kernel, by decide +kernel⟩
theorem ok__law_of (T : Tx K mg) : FnOk P w K mg base CX0 2 T.a__law_of T.d__law_of ["bag", "some"] (spB K 2 fn__law_of) := by
  refine T.F__law_of.ok sc__law_of (fun vs H Q E h => ?_) (fun cdv A outer s H vs Q E hr h => ?_)
  · obtain ⟨S, b, us, bg, ws, ds, d, bg', _, hl, _⟩ := h
    exact hl
  · refine ⟨_, (pss_one (ps_ret (pe_ix ix_seq (pv 1) (pe_call (ok__law_take T) (hr.mono (by decide)) (by rfl) T.m__law_take T.F__law_take.kp T.b__law_take .nil pass0 (pa_cons (pv 0) (pa_cons (pe_callB call_len (by rfl) T.z_len (by decide +kernel) (pa_cons (pv 1) pa_nil)) pa_nil))) (fun _ _ => rfl)))), ?_⟩
    exact body_B (n := 0) (φ := b__law_of) (ws_ret (we_op rd_ix we_var (we_callB (wa_cons (we_c1 r1_len (WE.wb we_var)) wa_nil) (arn_cons arn_nil)))) rfl h
theorem sc__law_whole : FnScope ["thing"] ["thing"] (defScope s__law_whole) := ⟨rfl, rfl, rfl, by decide +kernel, rfl, by decide +kernel, by decide +kernel⟩
theorem ok__law_whole (T : Tx K mg) : FnOk P w K mg base CX0 1 T.a__law_whole T.d__law_whole ["thing"] (spD K 1 fn__law_whole) := by
  refine T.F__law_whole.ok sc__law_whole (fun vs H Q E h => ?_) (fun cdv A outer s H vs Q E hr h => ?_)
  · obtain ⟨S, ds, d, hl, _⟩ := h
    exact hl
  · refine ⟨_, (pss_one (ps_ret (pe_and (pe_callB call_isi (by rfl) T.z_isinstance (by decide +kernel) (pa_cons (pv 0) (pa_cons (pe_bltn (v := .ty "int") (by rfl) T.z_int (by decide +kernel) rfl) pa_nil))) (pe_one (pe_not (pe_callB call_isi (by rfl) T.z_isinstance (by decide +kernel) (pa_cons (pv 0) (pa_cons (pe_bltn (v := .ty "bool") (by rfl) T.z_bool (by decide +kernel) rfl) pa_nil)))))))), ?_⟩
    exact body_D (n := 0) (φ := b__law_whole) (ws_ret (we_andV (we_isi we_var) (we_notV (we_isi we_var)))) rfl h
theorem sc__law_within : FnScope ["thing", "least", "most"] ["thing", "least", "most"] (defScope s__law_within) := ⟨rfl, rfl, rfl, by decide +kernel, rfl, by decide +kernel, by decide +kernel⟩
theorem ok__law_within (T : Tx K mg) : FnOk P w K mg base CX0 1 T.a__law_within T.d__law_within ["thing", "least", "most"] (spD K 3 fn__law_within) := by
  refine T.F__law_within.ok sc__law_within (fun vs H Q E h => ?_) (fun cdv A outer s H vs Q E hr h => ?_)
  · obtain ⟨S, ds, d, hl, _⟩ := h
    exact hl
  · refine ⟨_, (pss_one (ps_ret (pe_and (pe_callB call_isi (by rfl) T.z_isinstance (by decide +kernel) (pa_cons (pv 0) (pa_cons (pe_bltn (v := .ty "int") (by rfl) T.z_int (by decide +kernel) rfl) pa_nil))) (pe_and (pe_not (pe_callB call_isi (by rfl) T.z_isinstance (by decide +kernel) (pa_cons (pv 0) (pa_cons (pe_bltn (v := .ty "bool") (by rfl) T.z_bool (by decide +kernel) rfl) pa_nil)))) (pe_one (pe_chain op_leA op_leA (pv 1) (pv 0) (pv 2))))))), ?_⟩
    exact body_D (n := 0) (φ := b__law_within) (ws_ret (we_andV (we_isi we_var) (we_andV (we_notV (we_isi we_var)) (we_chain rd_leA rd_leA we_var we_var we_var)))) rfl h
theorem sc__law_is_name : FnScope ["thing", "sign"] ["thing"] (defScope s__law_is_name) := ⟨rfl, rfl, rfl, by decide +kernel, rfl, by decide +kernel, by decide +kernel⟩
theorem ok__law_is_name (T : Tx K mg) : FnOk P w K mg base CX0 1 T.a__law_is_name T.d__law_is_name ["thing"] (spD K 1 fn__law_is_name) := by
  refine T.F__law_is_name.ok sc__law_is_name (fun vs H Q E h => ?_) (fun cdv A outer s H vs Q E hr h => ?_)
  · obtain ⟨S, ds, d, hl, _⟩ := h
    exact hl
  · refine ⟨_, (pss_cons (ps_if (PW.pt (pw_or (pt_not (pt_val (pe_callB call_isi (by rfl) T.z_isinstance (by decide +kernel) (pa_cons (pv 0) (pa_cons (pe_bltn (v := .ty "str") (by rfl) T.z_str (by decide +kernel) rfl) pa_nil))))) (pw_or1 (pt_not (pt_chain op_leA op_leA pe_int (pe_callB call_len (by rfl) T.z_len (by decide +kernel) (pa_cons (pv 0) pa_nil)) pe_int))))) (pss_one (ps_ret pe_bl)) pss_nil)
      (pss_one (ps_ret (pe_cmpR (op_eqA hr.units) (pe_lc (own := [("sign", 1)]) (wi := (iAny K (tVar 0))) (g := (gName 1)) (tt := (tTest (tOp rNotInS (tVar 1) (tC (.str "abcdefghijklmnopqrstuvwxyz"))))) (te := (tVar 1)) rfl sc__law_is_name.nd (pi_any (pv 0)) (blkOk_by (N := ["thing", "sign"]) (sc := defScope s__law_is_name) (by decide +kernel)) (fun _ _ _ _ _ => (pg_name (i := 1) sc__law_is_name.nd rfl (by first | exact Or.inl rfl | exact Or.inr rfl))) (fun _ _ _ _ _ => (pts_one (pt_cmpR op_notIn_sign (pv 1) pe_str (by with_unfolding_all rfl)))) (fun _ _ _ _ _ => (pv 1))) (pe_lst pa_nil) (nomark _))))), ?_⟩
    exact body_D (n := 1) (φ := b__law_is_name) (ws_seq (ws_if (wt_or (wt_not (wt_B (we_isi we_var))) (wt_not (wt_test (we_chain rd_leA rd_leA we_int (we_c1 r1_len (WE.wb we_var)) we_int)))) (ws_ret we_bl) ws_next)
      (ws_ret (we_op rd_eqA ((wl_lc (js := [1]) (wi_any we_var) wg_name (by decide) (wt_test (we_op rd_notInS we_var we_str)) we_var)).we ((wl_lst wa_nil)).we))) rfl h
theorem sc__law_odd : FnScope ["bag", "some"] ["bag"] (defScope s__law_odd) := ⟨rfl, rfl, rfl, by decide +kernel, rfl, by decide +kernel, by decide +kernel⟩
theorem ok__law_odd (T : Tx K mg) : FnOk P w K mg base CX0 2 T.a__law_odd T.d__law_odd ["bag"] (spB K 1 fn__law_odd) := by
  refine T.F__law_odd.ok sc__law_odd (fun vs H Q E h => ?_) (fun cdv A outer s H vs Q E hr h => ?_)
  · obtain ⟨S, b, us, bg, ws, ds, d, bg', _, hl, _⟩ := h
    exact hl
  · refine ⟨_, (pss_cons (ps_set (i := 1) sc__law_odd.nd rfl (by first | exact Or.inl rfl | exact Or.inr rfl) (pe_lst (pa_cons pe_non (pa_cons pe_bl (pa_cons pe_bl (pa_cons pe_int (pa_cons pe_int (pa_cons (pe_un un_neg pe_int) (pa_cons pe_int (pa_cons (pe_op op_pow pe_int pe_int) (pa_cons pe_str (pa_cons pe_str (pa_cons (pe_tup pa_nil) (pa_cons (pe_lst pa_nil) (pa_cons (pe_tup (pa_cons pe_int (pa_cons pe_int pa_nil))) (pa_cons (pe_tup (pa_cons (pe_un un_neg pe_int) (pa_cons pe_int pa_nil))) (pa_cons (pe_tup (pa_cons pe_int (pa_cons pe_int pa_nil))) (pa_cons (pe_tup (pa_cons pe_int (pa_cons pe_int pa_nil))) (pa_cons (pe_tup (pa_cons pe_int (pa_cons pe_int pa_nil))) pa_nil)))))))))))))))))))
      (pss_cons (ps_set (i := 1) sc__law_odd.nd rfl (by first | exact Or.inl rfl | exact Or.inr rfl) (pe_op op_addA (pv 1) (pe_lst (pa_cons (pe_tup (pa_cons pe_non pa_nil)) (pa_cons (pe_tup (pa_cons pe_str (pa_cons pe_int pa_nil))) (pa_cons (pe_tup (pa_cons (pe_tup (pa_cons pe_str (pa_cons pe_int pa_nil))) pa_nil)) (pa_cons (pe_lst (pa_cons (pe_tup (pa_cons (pe_tup (pa_cons pe_str (pa_cons pe_int pa_nil))) pa_nil)) pa_nil)) (pa_cons (pe_tup (pa_cons pe_str (pa_cons pe_bl pa_nil))) (pa_cons (pe_tup (pa_cons (pe_tup (pa_cons pe_str (pa_cons pe_int (pa_cons pe_int pa_nil)))) pa_nil)) (pa_cons (pe_tup (pa_cons (pe_tup pa_nil) (pa_cons (pe_tup (pa_cons pe_int (pa_cons pe_int pa_nil))) pa_nil))) pa_nil))))))))))
      (pss_one (ps_ret (pe_ix ix_seq (pv 1) (pe_call (ok__law_take T) (hr.mono (by decide)) (by rfl) T.m__law_take T.F__law_take.kp T.b__law_take .nil pass0 (pa_cons (pv 0) (pa_cons (pe_callB call_len (by rfl) T.z_len (by decide +kernel) (pa_cons (pv 1) pa_nil)) pa_nil))) (fun _ _ => rfl)))))), ?_⟩
    exact body_B (n := 1) (φ := b__law_odd) (ws_seq (ws_asg ((wl_lst (wa_cons we_non (wa_cons we_bl (wa_cons we_bl (wa_cons we_int (wa_cons we_int (wa_cons (we_neg we_int) (wa_cons we_int (wa_cons (we_op rd_pow we_int we_int) (wa_cons we_str (wa_cons we_str (wa_cons (we_tup wa_nil) (wa_cons ((wl_lst wa_nil)).we (wa_cons (we_tup (wa_cons we_int (wa_cons we_int wa_nil))) (wa_cons (we_tup (wa_cons (we_neg we_int) (wa_cons we_int wa_nil))) (wa_cons (we_tup (wa_cons we_int (wa_cons we_int wa_nil))) (wa_cons (we_tup (wa_cons we_int (wa_cons we_int wa_nil))) (wa_cons (we_tup (wa_cons we_int (wa_cons we_int wa_nil))) wa_nil))))))))))))))))))).we (wg_name (i := 1)))
      (ws_seq (ws_asg (we_op rd_addA we_var ((wl_lst (wa_cons (we_tup (wa_cons we_non wa_nil)) (wa_cons (we_tup (wa_cons we_str (wa_cons we_int wa_nil))) (wa_cons (we_tup (wa_cons (we_tup (wa_cons we_str (wa_cons we_int wa_nil))) wa_nil)) (wa_cons ((wl_lst (wa_cons (we_tup (wa_cons (we_tup (wa_cons we_str (wa_cons we_int wa_nil))) wa_nil)) wa_nil))).we (wa_cons (we_tup (wa_cons we_str (wa_cons we_bl wa_nil))) (wa_cons (we_tup (wa_cons (we_tup (wa_cons we_str (wa_cons we_int (wa_cons we_int wa_nil)))) wa_nil)) (wa_cons (we_tup (wa_cons (we_tup wa_nil) (wa_cons (we_tup (wa_cons we_int (wa_cons we_int wa_nil))) wa_nil))) wa_nil))))))))).we) (wg_name (i := 1)))
      (ws_ret (we_op rd_ix we_var (we_callB (wa_cons (we_c1 r1_len (WE.wb we_var)) wa_nil) (arn_cons arn_nil)))))) rfl h
theorem sc__law_spoilt : FnScope ["bag", "thing", "kind_so", "rows", "at", "other"] ["bag", "thing"] (defScope s__law_spoilt) := ⟨rfl, rfl, rfl, by decide +kernel, rfl, by decide +kernel, by decide +kernel⟩
theorem okR__law_spoilt (T : Tx K mg) (n : Nat) : FnOk P w K mg base CX0 (3 + n) T.a__law_spoilt T.d__law_spoilt ["bag", "thing"] (spB K 2 (fnR__law_spoilt n)) := by
  induction n with
  | zero =>
    refine T.F__law_spoilt.ok sc__law_spoilt (fun vs H Q E h => ?_) (fun cdv A outer s H vs Q E hr h => ?_)
    · obtain ⟨S, b, us, bg, ws, ds, d, bg', _, hl, _⟩ := h
      exact hl
    · exfalso
      obtain ⟨S, b, us, bg, ws, ds, d, bg', _, _, _, _, _, _, _, z, _⟩ := h
      cases z
  | succ n ih =>
    refine T.F__law_spoilt.ok sc__law_spoilt (fun vs H Q E h => ?_) (fun cdv A outer s H vs Q E hr h => ?_)
    · obtain ⟨S, b, us, bg, ws, ds, d, bg', _, hl, _⟩ := h
      exact hl
    · refine ⟨_, (pss_cons (ps_set (i := 2) sc__law_spoilt.nd rfl (by first | exact Or.inl rfl | exact Or.inr rfl) (pe_call (ok__law_take T) (hr.mono (by show _ ≤ 3 + n; omega)) (by rfl) T.m__law_take T.F__law_take.kp T.b__law_take .nil pass0 (pa_cons (pv 0) (pa_cons pe_int pa_nil))))
      (pss_cons (ps_if (PW.pt (pw_and (pt_val (pe_callB call_isiT (by rfl) T.z_isinstance (by decide +kernel) (pa_cons (pv 1) (pa_cons (pe_tup (pa_cons (pe_bltn (v := .ty "tuple") (by rfl) T.z_tuple (by decide +kernel) rfl) (pa_cons (pe_bltn (v := .ty "list") (by rfl) T.z_list (by decide +kernel) rfl) pa_nil))) pa_nil)))) (pw_and (pt_cmpR op_gt (pe_callB call_len (by rfl) T.z_len (by decide +kernel) (pa_cons (pv 1) pa_nil)) pe_int (nomark _)) (pw_and1 (pt_cmpR op_gt (pv 2) pe_int (nomark _)))))) (pss_cons (ps_set (i := 3) sc__law_spoilt.nd rfl (by first | exact Or.inl rfl | exact Or.inr rfl) (pe_callTy call_list_of (by rfl) T.z_list (by decide +kernel) (pa_cons (pv 1) pa_nil)))
      (pss_cons (ps_set (i := 4) sc__law_spoilt.nd rfl (by first | exact Or.inl rfl | exact Or.inr rfl) (pe_call (ok__law_take T) (hr.mono (by show _ ≤ 3 + n; omega)) (by rfl) T.m__law_take T.F__law_take.kp T.b__law_take .nil pass0 (pa_cons (pv 0) (pa_cons (pe_callB call_len (by rfl) T.z_len (by decide +kernel) (pa_cons (pv 3) pa_nil)) pa_nil))))
      (pss_cons (ps_if (pt_cmpR (op_eqA hr.units) (pv 2) pe_int (nomark _)) (pss_one (ps_set (i := 3) sc__law_spoilt.nd rfl (by first | exact Or.inl rfl | exact Or.inr rfl) (pe_op op_addA (pe_slice sl_any (pv 3) po_none (po_some (pv 4))) (pe_slice sl_any (pv 3) (po_some (pe_op op_addB (pv 4) pe_int)) po_none)))) (pss_one (ps_if (pt_cmpR (op_eqA hr.units) (pv 2) pe_int (nomark _)) (pss_one (ps_set (i := 3) sc__law_spoilt.nd rfl (by first | exact Or.inl rfl | exact Or.inr rfl) (pe_op op_addA (pe_slice sl_any (pv 3) po_none (po_some (pe_op op_addB (pv 4) pe_int))) (pe_slice sl_any (pv 3) (po_some (pv 4)) po_none)))) (pss_one (ps_if (pt_cmpR (op_eqA hr.units) (pv 2) pe_int (nomark _)) (pss_cons (ps_set (i := 5) sc__law_spoilt.nd rfl (by first | exact Or.inl rfl | exact Or.inr rfl) (pe_call (ok__law_take T) (hr.mono (by show _ ≤ 3 + n; omega)) (by rfl) T.m__law_take T.F__law_take.kp T.b__law_take .nil pass0 (pa_cons (pv 0) (pa_cons (pe_callB call_len (by rfl) T.z_len (by decide +kernel) (pa_cons (pv 3) pa_nil)) pa_nil))))
      (pss_one (ps_asg (pe_tup (pa_cons (pe_ix ix_seq (pv 3) (pv 5) (fun _ _ => rfl)) (pa_cons (pe_ix ix_seq (pv 3) (pv 4) (fun _ _ => rfl)) pa_nil))) (pg_tup rfl (pgs_cons (pg_sub (pv 3) (pv 4) set_list) (pgs_cons (pg_sub (pv 3) (pv 5) set_list) pgs_nil)))))) (pss_one (ps_if (pt_cmpR (op_eqA hr.units) (pv 2) pe_int (nomark _)) (pss_one (ps_ret (pe_ifExp (pt_val (pe_callB call_isi (by rfl) T.z_isinstance (by decide +kernel) (pa_cons (pv 1) (pa_cons (pe_bltn (v := .ty "tuple") (by rfl) T.z_tuple (by decide +kernel) rfl) pa_nil)))) (pv 3) (pe_callTy call_tuple_of (by rfl) T.z_tuple (by decide +kernel) (pa_cons (pv 3) pa_nil))))) (pss_one (ps_asg (pe_call ih (hr.mono (by show _ ≤ 3 + n; omega)) (by rfl) T.m__law_spoilt T.F__law_spoilt.kp T.b__law_spoilt .nil pass0 (pa_cons (pv 0) (pa_cons (pe_ix ix_seq (pv 3) (pv 4) (fun _ _ => rfl)) pa_nil))) (pg_sub (pv 3) (pv 4) set_list))))))))))
      (pss_one (ps_ret (pe_ifExp (pt_val (pe_callB call_isi (by rfl) T.z_isinstance (by decide +kernel) (pa_cons (pv 1) (pa_cons (pe_bltn (v := .ty "tuple") (by rfl) T.z_tuple (by decide +kernel) rfl) pa_nil)))) (pe_callTy call_tuple_of (by rfl) T.z_tuple (by decide +kernel) (pa_cons (pv 3) pa_nil)) (pv 3))))))) pss_nil)
      (pss_cons (ps_if (PW.pt (pw_and (pt_val (pe_callB call_isi (by rfl) T.z_isinstance (by decide +kernel) (pa_cons (pv 1) (pa_cons (pe_bltn (v := .ty "str") (by rfl) T.z_str (by decide +kernel) rfl) pa_nil)))) (pw_and1 (pt_cmpR op_gt (pv 2) pe_int (nomark _))))) (pss_one (ps_ret (pe_ix ix_seq (pe_lst (pa_cons (pe_op op_addB (pv 1) pe_str) (pa_cons (pe_slice sl_any (pv 1) po_none (po_some (pe_un un_negB pe_int))) (pa_cons (pe_op op_addB (pv 1) pe_str) (pa_cons (pe_upper (pv 1)) (pa_cons (pe_op op_addB (pv 1) (pv 1)) (pa_cons (pe_op op_addB pe_str (pv 1)) (pa_cons pe_str pa_nil)))))))) (pe_op op_subB (pv 2) pe_int) (fun _ _ => rfl)))) pss_nil)
      (pss_cons (ps_if (PW.pt (pw_and (pt_val (pe_callB call_isi (by rfl) T.z_isinstance (by decide +kernel) (pa_cons (pv 1) (pa_cons (pe_bltn (v := .ty "int") (by rfl) T.z_int (by decide +kernel) rfl) pa_nil)))) (pw_and1 (pt_cmpR op_gt (pv 2) pe_int (nomark _))))) (pss_one (ps_ret (pe_ix ix_seq (pe_lst (pa_cons (pe_op op_addB (pv 1) pe_int) (pa_cons (pe_op op_subB (pv 1) pe_int) (pa_cons (pe_un un_negB (pv 1)) (pa_cons (pe_op op_addB (pv 1) pe_int) (pa_cons (pe_callTy call_strA (by rfl) T.z_str (by decide +kernel) (pa_cons (pv 1) pa_nil)) (pa_cons (pe_op op_addB (pv 1) pe_int) (pa_cons (pe_tup (pa_cons (pv 1) pa_nil)) pa_nil)))))))) (pe_op op_subB (pv 2) pe_int) (fun _ _ => rfl)))) pss_nil)
      (pss_one (ps_ret (pe_call (ok__law_odd T) (hr.mono (by show _ ≤ 3 + n; omega)) (by rfl) T.m__law_odd T.F__law_odd.kp T.b__law_odd .nil pass0 (pa_cons (pv 0) pa_nil)))))))), ?_⟩
      exact body_B (n := 4) (φ := b__law_spoilt (fnR__law_spoilt n)) (ws_seq (ws_asg (we_callB (wa_cons we_int wa_nil) (arn_cons arn_nil)) (wg_name (i := 2)))
      (ws_seq (ws_if (wt_and (wt_B (we_isi2 we_var)) (wt_and (wt_test (we_op rd_gt (we_c1 r1_len (WE.wb we_var)) we_int)) (wt_test (we_op rd_gt we_var we_int)))) (ws_seq (ws_own (i := 3) (wl_c1 r1_list (WE.wb we_var)))
      (ws_seq (ws_asg (we_callB (wa_cons (we_c1 r1_len wb_var) wa_nil) (arn_cons arn_nil)) (wg_name (i := 4)))
      (ws_seq (ws_if (wt_test (we_op rd_eqA we_var we_int)) (ws_own (i := 3) (wl_addL (we_slO wo_none (wo_some we_var)) (we_slO (wo_some (we_op rd_addB we_var we_int)) wo_none))) (ws_if (wt_test (we_op rd_eqA we_var we_int)) (ws_own (i := 3) (wl_addL (we_slO wo_none (wo_some (we_op rd_addB we_var we_int))) (we_slO (wo_some we_var) wo_none))) (ws_if (wt_test (we_op rd_eqA we_var we_int)) (ws_seq (ws_asg (we_callB (wa_cons (we_c1 r1_len wb_var) wa_nil) (arn_cons arn_nil)) (wg_name (i := 5)))
      (ws_swap (i := 3) (ja := 4) (jb := 5))) (ws_if (wt_test (we_op rd_eqA we_var we_int)) (ws_retIf (wt_B (we_isi we_var)) ws_retO (ws_ret (we_c1 r1_tuple wb_var))) (ws_setIx (we_callB (wa_cons (we_ixO we_var) wa_nil) (arn_cons arn_nil)) we_var)))))
      (ws_retIf (wt_B (we_isi we_var)) (ws_ret (we_c1 r1_tuple wb_var)) ws_retO)))) ws_next)
      (ws_seq (ws_if (wt_and (wt_B (we_isi we_var)) (wt_test (we_op rd_gt we_var we_int))) (ws_ret (we_op rd_ix ((wl_lst (wa_cons (we_op rd_addB we_var we_str) (wa_cons (we_sl we_var wo_none (wo_some (we_negB we_int))) (wa_cons (we_op rd_addB we_var we_str) (wa_cons (we_upper we_var) (wa_cons (we_op rd_addB we_var we_var) (wa_cons (we_op rd_addB we_str we_var) (wa_cons we_str wa_nil))))))))).we (we_op rd_subB we_var we_int))) ws_next)
      (ws_seq (ws_if (wt_and (wt_B (we_isi we_var)) (wt_test (we_op rd_gt we_var we_int))) (ws_ret (we_op rd_ix ((wl_lst (wa_cons (we_op rd_addB we_var we_int) (wa_cons (we_op rd_subB we_var we_int) (wa_cons (we_negB we_var) (wa_cons (we_op rd_addB we_var we_int) (wa_cons (we_c1 r1_str (WE.wb we_var)) (wa_cons (we_op rd_addB we_var we_int) (wa_cons (we_tup (wa_cons we_var wa_nil)) wa_nil))))))))).we (we_op rd_subB we_var we_int))) ws_next)
      (ws_ret (we_callB wa_nil arn_nil)))))) rfl h
theorem ok__law_spoilt (T : Tx K mg) : FnOk P w K mg base CX0 35 T.a__law_spoilt T.d__law_spoilt ["bag", "thing"] (spB K 2 fn__law_spoilt) := okR__law_spoilt T 32
theorem sc__law_cart : FnScope ["bag"] ["bag"] (defScope s__law_cart) := ⟨rfl, rfl, rfl, by decide +kernel, rfl, by decide +kernel, by decide +kernel⟩
theorem ok__law_cart (T : Tx K mg) : FnOk P w K mg base CX0 2 T.a__law_cart T.d__law_cart ["bag"] (spB K 1 fn__law_cart) := by
  refine T.F__law_cart.ok sc__law_cart (fun vs H Q E h => ?_) (fun cdv A outer s H vs Q E hr h => ?_)
  · obtain ⟨S, b, us, bg, ws, ds, d, bg', _, hl, _⟩ := h
    exact hl
  · refine ⟨_, (pss_one (ps_ret (pe_op op_addA pe_int (pe_call (ok__law_take T) (hr.mono (by decide)) (by rfl) T.m__law_take T.F__law_take.kp T.b__law_take .nil pass0 (pa_cons (pv 0) (pa_cons (pe_ix ix_seq (pe_lst (pa_cons pe_int (pa_cons pe_int (pa_cons pe_int pa_nil)))) (pe_call (ok__law_take T) (hr.mono (by decide)) (by rfl) T.m__law_take T.F__law_take.kp T.b__law_take .nil pass0 (pa_cons (pv 0) (pa_cons pe_int pa_nil))) (fun _ _ => rfl)) pa_nil)))))), ?_⟩
    exact body_B (n := 0) (φ := b__law_cart) (ws_ret (we_op rd_addA we_int (we_callB (wa_cons (we_op rd_ix ((wl_lst (wa_cons we_int (wa_cons we_int (wa_cons we_int wa_nil))))).we (we_callB (wa_cons we_int wa_nil) (arn_cons arn_nil))) wa_nil) (arn_cons arn_nil)))) rfl h
theorem sc__law_folk : FnScope ["bag", "most", "found", "fast", "alike", "name", "heavy"] ["bag", "most"] (defScope s__law_folk) := ⟨rfl, rfl, rfl, by decide +kernel, rfl, by decide +kernel, by decide +kernel⟩
theorem ok__law_folk (T : Tx K mg) : FnOk P w K mg base CX0 2 T.a__law_folk T.d__law_folk ["bag", "most"] (spB K 2 fn__law_folk) := by
  refine T.F__law_folk.ok sc__law_folk (fun vs H Q E h => ?_) (fun cdv A outer s H vs Q E hr h => ?_)
  · obtain ⟨S, b, us, bg, ws, ds, d, bg', _, hl, _⟩ := h
    exact hl
  · refine ⟨_, (pss_cons (ps_set (i := 2) sc__law_folk.nd rfl (by first | exact Or.inl rfl | exact Or.inr rfl) (pe_lst pa_nil))
      (pss_cons (ps_set (i := 3) sc__law_folk.nd rfl (by first | exact Or.inl rfl | exact Or.inr rfl) (pe_op op_addA pe_int (pe_call (ok__law_take T) (hr.mono (by decide)) (by rfl) T.m__law_take T.F__law_take.kp T.b__law_take .nil pass0 (pa_cons (pv 0) (pa_cons (pe_ix ix_seq (pe_lst (pa_cons pe_int (pa_cons pe_int pa_nil))) (pe_call (ok__law_take T) (hr.mono (by decide)) (by rfl) T.m__law_take T.F__law_take.kp T.b__law_take .nil pass0 (pa_cons (pv 0) (pa_cons pe_int pa_nil))) (fun _ _ => rfl)) pa_nil)))))
      (pss_cons (ps_set (i := 4) sc__law_folk.nd rfl (by first | exact Or.inl rfl | exact Or.inr rfl) (pe_cmpR (op_eqA hr.units) (pe_call (ok__law_take T) (hr.mono (by decide)) (by rfl) T.m__law_take T.F__law_take.kp T.b__law_take .nil pass0 (pa_cons (pv 0) (pa_cons pe_int pa_nil))) pe_int (nomark _)))
      (pss_cons (ps_for PassesOwn.never rfl (pi_any (pe_slice sl_any (pe_lst (pa_cons pe_str (pa_cons pe_str (pa_cons pe_str (pa_cons pe_str (pa_cons pe_str (pa_cons pe_str (pa_cons pe_str pa_nil)))))))) po_none (po_some (pe_op op_addA pe_int (pe_call (ok__law_take T) (hr.mono (by decide)) (by rfl) T.m__law_take T.F__law_take.kp T.b__law_take .nil pass0 (pa_cons (pv 0) (pa_cons (pv 1) pa_nil))))))) (pg_name (i := 5) sc__law_folk.nd rfl (by first | exact Or.inl rfl | exact Or.inr rfl)) (pss_cons (ps_set (i := 6) sc__law_folk.nd rfl (by first | exact Or.inl rfl | exact Or.inr rfl) (pe_op op_addA pe_int (pe_call (ok__law_take T) (hr.mono (by decide)) (by rfl) T.m__law_take T.F__law_take.kp T.b__law_take .nil pass0 (pa_cons (pv 0) (pa_cons (pe_ix ix_seq (pe_lst (pa_cons pe_int (pa_cons pe_int (pa_cons pe_int pa_nil)))) (pe_call (ok__law_take T) (hr.mono (by decide)) (by rfl) T.m__law_take T.F__law_take.kp T.b__law_take .nil pass0 (pa_cons (pv 0) (pa_cons pe_int pa_nil))) (fun _ _ => rfl)) pa_nil)))))
      (pss_one (ps_expr (pe_bm PySem.F.plainAttrs_list PySem.F.slot_list_append PySem.F.type_list_append mt_append (pv 2) (pa_cons (pe_tup (pa_cons (pv 5) (pa_cons (pv 6) (pa_cons (pe_ifExp (pt_val (pv 4)) (pv 3) (pe_op op_addA pe_int (pe_call (ok__law_take T) (hr.mono (by decide)) (by rfl) T.m__law_take T.F__law_take.kp T.b__law_take .nil pass0 (pa_cons (pv 0) (pa_cons (pe_ix ix_seq (pe_lst (pa_cons pe_int (pa_cons pe_int pa_nil))) (pe_call (ok__law_take T) (hr.mono (by decide)) (by rfl) T.m__law_take T.F__law_take.kp T.b__law_take .nil pass0 (pa_cons (pv 0) (pa_cons pe_int pa_nil))) (fun _ _ => rfl)) pa_nil))))) pa_nil)))) pa_nil))))))
      (pss_one (ps_ret (pe_callTy call_tuple_of (by rfl) T.z_tuple (by decide +kernel) (pa_cons (pv 2) pa_nil)))))))), ?_⟩
    exact body_B (n := 5) (φ := b__law_folk) (ws_seq (ws_own (i := 2) (wl_lst wa_nil))
      (ws_seq (ws_asg (we_op rd_addA we_int (we_callB (wa_cons (we_op rd_ix ((wl_lst (wa_cons we_int (wa_cons we_int wa_nil)))).we (we_callB (wa_cons we_int wa_nil) (arn_cons arn_nil))) wa_nil) (arn_cons arn_nil))) (wg_name (i := 3)))
      (ws_seq (ws_asg (we_op rd_eqA (we_callB (wa_cons we_int wa_nil) (arn_cons arn_nil)) we_int) (wg_name (i := 4)))
      (ws_seq (ws_for (wi_any (we_sl ((wl_lst (wa_cons we_str (wa_cons we_str (wa_cons we_str (wa_cons we_str (wa_cons we_str (wa_cons we_str (wa_cons we_str wa_nil))))))))).we wo_none (wo_some (we_op rd_addA we_int (we_callB (wa_cons we_var wa_nil) (arn_cons arn_nil)))))) wg_name (ws_seq (ws_asg (we_op rd_addA we_int (we_callB (wa_cons (we_op rd_ix ((wl_lst (wa_cons we_int (wa_cons we_int (wa_cons we_int wa_nil))))).we (we_callB (wa_cons we_int wa_nil) (arn_cons arn_nil))) wa_nil) (arn_cons arn_nil))) (wg_name (i := 6)))
      (ws_app (i := 2) (we_tup (wa_cons we_var (wa_cons we_var (wa_cons (we_if (wt_B we_var) we_var (we_op rd_addA we_int (we_callB (wa_cons (we_op rd_ix ((wl_lst (wa_cons we_int (wa_cons we_int wa_nil)))).we (we_callB (wa_cons we_int wa_nil) (arn_cons arn_nil))) wa_nil) (arn_cons arn_nil)))) wa_nil)))))))
      (ws_ret (we_c1 r1_tuple wb_var)))))) rfl h
theorem sc__law_mixed : FnScope ["bag", "some", "found", "one"] ["bag", "some"] (defScope s__law_mixed) := ⟨rfl, rfl, rfl, by decide +kernel, rfl, by decide +kernel, by decide +kernel⟩
theorem ok__law_mixed (T : Tx K mg) : FnOk P w K mg base CX0 2 T.a__law_mixed T.d__law_mixed ["bag", "some"] (spB K 2 fn__law_mixed) := by
  refine T.F__law_mixed.ok sc__law_mixed (fun vs H Q E h => ?_) (fun cdv A outer s H vs Q E hr h => ?_)
  · obtain ⟨S, b, us, bg, ws, ds, d, bg', _, hl, _⟩ := h
    exact hl
  · refine ⟨_, (pss_cons (ps_set (i := 2) sc__law_mixed.nd rfl (by first | exact Or.inl rfl | exact Or.inr rfl) (pe_lst pa_nil))
      (pss_cons (ps_for PassesOwn.never rfl (pi_any (pv 1)) (pg_name (i := 3) sc__law_mixed.nd rfl (by first | exact Or.inl rfl | exact Or.inr rfl)) (pss_one (ps_expr (pe_bm PySem.F.plainAttrs_list PySem.F.slot_list_insert PySem.F.type_list_insert mt_insert (pv 2) (pa_cons (pe_call (ok__law_take T) (hr.mono (by decide)) (by rfl) T.m__law_take T.F__law_take.kp T.b__law_take .nil pass0 (pa_cons (pv 0) (pa_cons (pe_op op_addA (pe_callB call_len (by rfl) T.z_len (by decide +kernel) (pa_cons (pv 2) pa_nil)) pe_int) pa_nil))) (pa_cons (pv 3) pa_nil))))))
      (pss_one (ps_ret (pv 2))))), ?_⟩
    exact body_B (n := 2) (φ := b__law_mixed) (ws_seq (ws_own (i := 2) (wl_lst wa_nil))
      (ws_seq (ws_for (wi_any we_var) wg_name (ws_ins (i := 2) (we_callB (wa_cons (we_op rd_addA (we_c1 r1_len wb_var) we_int) wa_nil) (arn_cons arn_nil)) we_var))
      ws_retO)) rfl h
theorem sc__law_leaps : FnScope ["bag", "folk", "found", "left", "many", "some", "one"] ["bag", "folk"] (defScope s__law_leaps) := ⟨rfl, rfl, rfl, by decide +kernel, rfl, by decide +kernel, by decide +kernel⟩
theorem ok__law_leaps (T : Tx K mg) : FnOk P w K mg base CX0 3 T.a__law_leaps T.d__law_leaps ["bag", "folk"] (spB K 2 fn__law_leaps) := by
  refine T.F__law_leaps.ok sc__law_leaps (fun vs H Q E h => ?_) (fun cdv A outer s H vs Q E hr h => ?_)
  · obtain ⟨S, b, us, bg, ws, ds, d, bg', _, hl, _⟩ := h
    exact hl
  · refine ⟨_, (pss_cons (ps_set (i := 2) sc__law_leaps.nd rfl (by first | exact Or.inl rfl | exact Or.inr rfl) (pe_lst pa_nil))
      (pss_cons (ps_set (i := 3) sc__law_leaps.nd rfl (by first | exact Or.inl rfl | exact Or.inr rfl) (pe_slice sl_any (pe_call (ok__law_mixed T) (hr.mono (by decide)) (by rfl) T.m__law_mixed T.F__law_mixed.kp T.b__law_mixed .nil pass0 (pa_cons (pv 0) (pa_cons (pv 1) pa_nil))) po_none (po_some (pe_call (ok__law_take T) (hr.mono (by decide)) (by rfl) T.m__law_take T.F__law_take.kp T.b__law_take .nil pass0 (pa_cons (pv 0) (pa_cons (pe_op op_addA (pe_callB call_len (by rfl) T.z_len (by decide +kernel) (pa_cons (pv 1) pa_nil)) pe_int) pa_nil))))))
      (pss_cons (ps_while PassesOwn.never (pt_cmpR (op_neA hr.units) (pv 3) (pe_lst pa_nil) (nomark _)) (pss_cons (ps_set (i := 4) sc__law_leaps.nd rfl (by first | exact Or.inl rfl | exact Or.inr rfl) (pe_op op_addA pe_int (pe_call (ok__law_take T) (hr.mono (by decide)) (by rfl) T.m__law_take T.F__law_take.kp T.b__law_take .nil pass0 (pa_cons (pv 0) (pa_cons (pe_callB (call_min2 rfl) (by rfl) T.z_min (by decide +kernel) (pa_cons pe_int (pa_cons (pe_callB call_len (by rfl) T.z_len (by decide +kernel) (pa_cons (pv 3) pa_nil)) pa_nil))) pa_nil)))))
      (pss_cons (ps_setLc (i := 5) (own := [("one", 6)]) (wi := (iAny K (tSl (rSlA3 K) (tVar 3) tNoPart (tPart (tVar 4))))) (g := (gName 6)) (tt := tYes) (te := (tTup (tCons (tOp (rIx K) (tVar 6) (tC (.int 0))) (tCons (tOp (rI0 fun i j => .int (i - j)) (tC (.int 1)) (tOp (rI CMulW fun i j => .int (i * j)) (tC (.int 2)) (tCall (spB K 2 fn__law_take) [] E0 (tCons (tVar 0) (tCons (tC (.int 2)) tNil))))) tNil)))) rfl sc__law_leaps.nd (by rfl) (by rfl) (sw_true rfl rfl rfl (by decide +kernel)) (pi_any (pe_slice sl_any (pv 3) po_none (po_some (pv 4)))) (blkOk_by (N := ["bag", "folk", "found", "left", "many", "some", "one"]) (sc := defScope s__law_leaps) (by decide +kernel)) (fun _ _ _ _ _ => (pg_name (i := 6) sc__law_leaps.nd rfl (by first | exact Or.inl rfl | exact Or.inr rfl))) (fun _ _ _ _ _ => pts_nil) (fun _ _ _ _ _ => (pe_tup (pa_cons (pe_ix ix_seq (pv 6) pe_int (fun _ _ => rfl)) (pa_cons (pe_op op_sub pe_int (pe_op op_mulW pe_int (pe_call (ok__law_take T) (hr.mono (by decide)) (by rfl) T.m__law_take T.F__law_take.kp T.b__law_take .nil pass0 (pa_cons (pv 0) (pa_cons pe_int pa_nil))))) pa_nil)))))
      (pss_cons (ps_expr (pe_bm PySem.F.plainAttrs_list PySem.F.slot_list_append PySem.F.type_list_append mt_append (pv 2) (pa_cons (pe_callTy call_tuple_of (by rfl) T.z_tuple (by decide +kernel) (pa_cons (pe_callB (cr_sortedD hr.units) (by rfl) T.z_sorted (by decide +kernel) (pa_cons (pv 5) pa_nil)) pa_nil)) pa_nil)))
      (pss_one (ps_set (i := 3) sc__law_leaps.nd rfl (by first | exact Or.inl rfl | exact Or.inr rfl) (pe_slice sl_any (pv 3) (po_some (pv 4)) po_none)))))))
      (pss_one (ps_ret (pv 2)))))), ?_⟩
    exact body_B (n := 5) (φ := b__law_leaps) (ws_seq (ws_own (i := 2) (wl_lst wa_nil))
      (ws_seq (ws_asg (we_sl (we_callB (wa_cons we_var wa_nil) (arn_cons arn_nil)) wo_none (wo_some (we_callB (wa_cons (we_op rd_addA (we_c1 r1_len (WE.wb we_var)) we_int) wa_nil) (arn_cons arn_nil)))) (wg_name (i := 3)))
      (ws_seq (ws_while (wt_test (we_op rd_neA we_var ((wl_lst wa_nil)).we)) (ws_seq (ws_asg (we_op rd_addA we_int (we_callB (wa_cons (we_min we_int (we_c1 r1_len (WE.wb we_var))) wa_nil) (arn_cons arn_nil))) (wg_name (i := 4)))
      (ws_seq (ws_asg ((wl_lc (js := [6]) (wi_any (we_sl we_var wo_none (wo_some we_var))) wg_name (by decide) wt_yes (we_tup (wa_cons (we_op rd_ix we_var we_int) (wa_cons (we_op rd_sub we_int (we_op rd_mul we_int (we_callB (wa_cons we_int wa_nil) (arn_cons arn_nil)))) wa_nil))))).we (wg_name (i := 5)))
      (ws_seq (ws_app (i := 2) (we_c1 r1_tuple (WE.wb ((wl_c1 r1_sorted (WE.wb we_var))).we)))
      (ws_asg (we_sl we_var (wo_some we_var) wo_none) (wg_name (i := 3)))))))
      ws_retO))) rfl h
theorem sc__law_are_folk : FnScope ["thing", "one", "names"] ["thing"] (defScope s__law_are_folk) := ⟨rfl, rfl, rfl, by decide +kernel, rfl, by decide +kernel, by decide +kernel⟩
theorem ok__law_are_folk (T : Tx K mg) : FnOk P w K mg base CX0 2 T.a__law_are_folk T.d__law_are_folk ["thing"] (spD K 1 fn__law_are_folk) := by
  refine T.F__law_are_folk.ok sc__law_are_folk (fun vs H Q E h => ?_) (fun cdv A outer s H vs Q E hr h => ?_)
  · obtain ⟨S, ds, d, hl, _⟩ := h
    exact hl
  · refine ⟨_, (pss_cons (ps_if (PW.pt (pw_or (pt_not (pt_val (pe_callB call_isi (by rfl) T.z_isinstance (by decide +kernel) (pa_cons (pv 0) (pa_cons (pe_bltn (v := .ty "tuple") (by rfl) T.z_tuple (by decide +kernel) rfl) pa_nil))))) (pw_or1 (pt_not (pt_chain op_leA op_leA pe_int (pe_callB call_len (by rfl) T.z_len (by decide +kernel) (pa_cons (pv 0) pa_nil)) pe_int))))) (pss_one (ps_ret pe_bl)) pss_nil)
      (pss_cons (ps_for PassesOwn.never rfl (pi_any (pv 0)) (pg_name (i := 1) sc__law_are_folk.nd rfl (by first | exact Or.inl rfl | exact Or.inr rfl)) (pss_cons (ps_if (PW.pt (pw_or (pt_not (pt_val (pe_callB call_isi (by rfl) T.z_isinstance (by decide +kernel) (pa_cons (pv 1) (pa_cons (pe_bltn (v := .ty "tuple") (by rfl) T.z_tuple (by decide +kernel) rfl) pa_nil))))) (pw_or (pt_cmpR (op_neA hr.units) (pe_callB call_len (by rfl) T.z_len (by decide +kernel) (pa_cons (pv 1) pa_nil)) pe_int (nomark _)) (pw_or1 (pt_not (pt_val (pe_call (ok__law_is_name T) (hr.mono (by decide)) (by rfl) T.m__law_is_name T.F__law_is_name.kp T.b__law_is_name .nil pass0 (pa_cons (pe_ix ix_seq (pv 1) pe_int (fun _ _ => rfl)) pa_nil)))))))) (pss_one (ps_ret pe_bl)) pss_nil)
      (pss_one (ps_if (PW.pt (pw_or (pt_not (pt_val (pe_call (ok__law_within T) (hr.mono (by decide)) (by rfl) T.m__law_within T.F__law_within.kp T.b__law_within .nil pass0 (pa_cons (pe_ix ix_seq (pv 1) pe_int (fun _ _ => rfl)) (pa_cons pe_int (pa_cons pe_int pa_nil)))))) (pw_or1 (pt_not (pt_val (pe_call (ok__law_within T) (hr.mono (by decide)) (by rfl) T.m__law_within T.F__law_within.kp T.b__law_within .nil pass0 (pa_cons (pe_ix ix_seq (pv 1) pe_int (fun _ _ => rfl)) (pa_cons pe_int (pa_cons pe_int pa_nil))))))))) (pss_one (ps_ret pe_bl)) pss_nil))))
      (pss_cons (ps_setLc (i := 2) (own := [("one", 1)]) (wi := (iAny K (tVar 0))) (g := (gName 1)) (tt := tYes) (te := (tOp (rIx K) (tVar 1) (tC (.int 0)))) rfl sc__law_are_folk.nd (by rfl) (by rfl) (sw_true rfl rfl rfl (by decide +kernel)) (pi_any (pv 0)) (blkOk_by (N := ["thing", "one", "names"]) (sc := defScope s__law_are_folk) (by decide +kernel)) (fun _ _ _ _ _ => (pg_name (i := 1) sc__law_are_folk.nd rfl (by first | exact Or.inl rfl | exact Or.inr rfl))) (fun _ _ _ _ _ => pts_nil) (fun _ _ _ _ _ => (pe_ix ix_seq (pv 1) pe_int (fun _ _ => rfl))))
      (pss_one (ps_ret (pe_cmpR (op_eqA hr.units) (pv 2) (pe_sortedSet rfl hr.units (by rfl) T.z_sorted (by decide +kernel) (by rfl) T.z_set (by decide +kernel) (pv 2)) (nomark _))))))), ?_⟩
    exact body_D (n := 2) (φ := b__law_are_folk) (ws_seq (ws_if (wt_or (wt_not (wt_B (we_isi we_var))) (wt_not (wt_test (we_chain rd_leA rd_leA we_int (we_c1 r1_len (WE.wb we_var)) we_int)))) (ws_ret we_bl) ws_next)
      (ws_seq (ws_for (wi_any we_var) wg_name (ws_seq (ws_if (wt_or (wt_not (wt_B (we_isi we_var))) (wt_or (wt_test (we_op rd_neA (we_c1 r1_len (WE.wb we_var)) we_int)) (wt_not (wt_B (we_call (wa_cons (we_op rd_ix we_var we_int) wa_nil) (arn_cons arn_nil)))))) (ws_ret we_bl) ws_next)
      (ws_if (wt_or (wt_not (wt_B (we_call (wa_cons (we_op rd_ix we_var we_int) (wa_cons we_int (wa_cons we_int wa_nil))) (arn_cons (arn_cons (arn_cons arn_nil)))))) (wt_not (wt_B (we_call (wa_cons (we_op rd_ix we_var we_int) (wa_cons we_int (wa_cons we_int wa_nil))) (arn_cons (arn_cons (arn_cons arn_nil))))))) (ws_ret we_bl) ws_next)))
      (ws_seq (ws_asg ((wl_lc (js := [1]) (wi_any we_var) wg_name (by decide) wt_yes (we_op rd_ix we_var we_int))).we (wg_name (i := 2)))
      (ws_ret (we_op rd_eqA we_var ((wl_c1 r1_sortedSet (WE.wb we_var))).we))))) rfl h
theorem sc__law_are_leaps : FnScope ["folk", "thing", "names", "some", "own", "leap", "one"] ["folk", "thing"] (defScope s__law_are_leaps) := ⟨rfl, rfl, rfl, by decide +kernel, rfl, by decide +kernel, by decide +kernel⟩
theorem ok__law_are_leaps (T : Tx K mg) : FnOk P w K mg base CX0 2 T.a__law_are_leaps T.d__law_are_leaps ["folk", "thing"] (spD K 2 fn__law_are_leaps) := by
  refine T.F__law_are_leaps.ok sc__law_are_leaps (fun vs H Q E h => ?_) (fun cdv A outer s H vs Q E hr h => ?_)
  · obtain ⟨S, ds, d, hl, _⟩ := h
    exact hl
  · refine ⟨_, (pss_cons (ps_if (PW.pt (pw_or (pt_not (pt_val (pe_callB call_isi (by rfl) T.z_isinstance (by decide +kernel) (pa_cons (pv 1) (pa_cons (pe_bltn (v := .ty "list") (by rfl) T.z_list (by decide +kernel) rfl) pa_nil))))) (pw_or1 (pt_cmpR op_gt (pe_callB call_len (by rfl) T.z_len (by decide +kernel) (pa_cons (pv 1) pa_nil)) pe_int (nomark _))))) (pss_one (ps_ret pe_bl)) pss_nil)
      (pss_cons (ps_set (i := 2) sc__law_are_leaps.nd rfl (by first | exact Or.inl rfl | exact Or.inr rfl) (pe_lst pa_nil))
      (pss_cons (ps_for PassesOwn.never rfl (pi_any (pv 1)) (pg_name (i := 3) sc__law_are_leaps.nd rfl (by first | exact Or.inl rfl | exact Or.inr rfl)) (pss_cons (ps_if (PW.pt (pw_or (pt_not (pt_val (pe_callB call_isi (by rfl) T.z_isinstance (by decide +kernel) (pa_cons (pv 3) (pa_cons (pe_bltn (v := .ty "tuple") (by rfl) T.z_tuple (by decide +kernel) rfl) pa_nil))))) (pw_or1 (pt_cmpR (op_eqA hr.units) (pv 3) (pe_tup pa_nil) (nomark _))))) (pss_one (ps_ret pe_bl)) pss_nil)
      (pss_cons (ps_set (i := 4) sc__law_are_leaps.nd rfl (by first | exact Or.inl rfl | exact Or.inr rfl) (pe_lst pa_nil))
      (pss_cons (ps_for PassesOwn.never rfl (pi_any (pv 3)) (pg_name (i := 5) sc__law_are_leaps.nd rfl (by first | exact Or.inl rfl | exact Or.inr rfl)) (pss_cons (ps_if (PW.pt (pw_or (pt_not (pt_val (pe_callB call_isi (by rfl) T.z_isinstance (by decide +kernel) (pa_cons (pv 5) (pa_cons (pe_bltn (v := .ty "tuple") (by rfl) T.z_tuple (by decide +kernel) rfl) pa_nil))))) (pw_or (pt_cmpR (op_neA hr.units) (pe_callB call_len (by rfl) T.z_len (by decide +kernel) (pa_cons (pv 5) pa_nil)) pe_int (nomark _)) (pw_or1 (pt_not (pt_val (pe_callB call_isi (by rfl) T.z_isinstance (by decide +kernel) (pa_cons (pe_ix ix_seq (pv 5) pe_int (fun _ _ => rfl)) (pa_cons (pe_bltn (v := .ty "str") (by rfl) T.z_str (by decide +kernel) rfl) pa_nil))))))))) (pss_one (ps_ret pe_bl)) pss_nil)
      (pss_cons (ps_if (PW.pt (pw_or (pt_cmpR op_notInA (pe_ix ix_seq (pv 5) pe_int (fun _ _ => rfl)) (pe_lc (own := [("one", 6)]) (wi := (iAny K (tVar 0))) (g := (gName 6)) (tt := tYes) (te := (tOp (rIx K) (tVar 6) (tC (.int 0)))) rfl sc__law_are_leaps.nd (pi_any (pv 0)) (blkOk_by (N := ["folk", "thing", "names", "some", "own", "leap", "one"]) (sc := defScope s__law_are_leaps) (by decide +kernel)) (fun _ _ _ _ _ => (pg_name (i := 6) sc__law_are_leaps.nd rfl (by first | exact Or.inl rfl | exact Or.inr rfl))) (fun _ _ _ _ _ => pts_nil) (fun _ _ _ _ _ => (pe_ix ix_seq (pv 6) pe_int (fun _ _ => rfl)))) (by with_unfolding_all rfl)) (pw_or (pt_not (pt_val (pe_call (ok__law_whole T) (hr.mono (by decide)) (by rfl) T.m__law_whole T.F__law_whole.kp T.b__law_whole .nil pass0 (pa_cons (pe_ix ix_seq (pv 5) pe_int (fun _ _ => rfl)) pa_nil)))) (pw_or1 (pt_cmpR op_notInA (pe_ix ix_seq (pv 5) pe_int (fun _ _ => rfl)) (pe_lst (pa_cons pe_int (pa_cons (pe_un un_neg pe_int) pa_nil))) (by with_unfolding_all rfl)))))) (pss_one (ps_ret pe_bl)) pss_nil)
      (pss_one (ps_expr (pe_bm PySem.F.plainAttrs_list PySem.F.slot_list_append PySem.F.type_list_append mt_append (pv 4) (pa_cons (pe_ix ix_seq (pv 5) pe_int (fun _ _ => rfl)) pa_nil)))))))
      (pss_cons (ps_if (pt_cmpR (op_neA hr.units) (pv 4) (pe_sortedSet rfl hr.units (by rfl) T.z_sorted (by decide +kernel) (by rfl) T.z_set (by decide +kernel) (pv 4)) (nomark _)) (pss_one (ps_ret pe_bl)) pss_nil)
      (pss_one (ps_set (i := 2) sc__law_are_leaps.nd rfl (by first | exact Or.inl rfl | exact Or.inr rfl) (pe_op op_addA (pv 2) (pv 4)))))))))
      (pss_one (ps_ret (pe_cmpR (op_eqA hr.units) (pe_callB call_len (by rfl) T.z_len (by decide +kernel) (pa_cons (pv 2) pa_nil)) (pe_lenSetT rfl (by rfl) T.z_len (by decide +kernel) (by rfl) T.z_set (by decide +kernel) (pv 2)) (nomark _))))))), ?_⟩
    exact body_D (n := 5) (φ := b__law_are_leaps) (ws_seq (ws_if (wt_or (wt_not (wt_B (we_isi we_var))) (wt_test (we_op rd_gt (we_c1 r1_len (WE.wb we_var)) we_int))) (ws_ret we_bl) ws_next)
      (ws_seq (ws_asg ((wl_lst wa_nil)).we (wg_name (i := 2)))
      (ws_seq (ws_for (wi_any we_var) wg_name (ws_seq (ws_if (wt_or (wt_not (wt_B (we_isi we_var))) (wt_test (we_op rd_eqA we_var (we_tup wa_nil)))) (ws_ret we_bl) ws_next)
      (ws_seq (ws_own (i := 4) (wl_lst wa_nil))
      (ws_seq (ws_for (wi_any we_var) wg_name (ws_seq (ws_if (wt_or (wt_not (wt_B (we_isi we_var))) (wt_or (wt_test (we_op rd_neA (we_c1 r1_len (WE.wb we_var)) we_int)) (wt_not (wt_B (we_isi (we_op rd_ix we_var we_int)))))) (ws_ret we_bl) ws_next)
      (ws_seq (ws_if (wt_or (wt_test (we_op rd_notInA (we_op rd_ix we_var we_int) ((wl_lc (js := [6]) (wi_any we_var) wg_name (by decide) wt_yes (we_op rd_ix we_var we_int))).we)) (wt_or (wt_not (wt_B (we_call (wa_cons (we_op rd_ix we_var we_int) wa_nil) (arn_cons arn_nil)))) (wt_test (we_op rd_notInA (we_op rd_ix we_var we_int) ((wl_lst (wa_cons we_int (wa_cons (we_neg we_int) wa_nil)))).we)))) (ws_ret we_bl) ws_next)
      (ws_app (i := 4) (we_op rd_ix we_var we_int)))))
      (ws_seq (ws_if (wt_test (we_opO rd_neA ((wl_c1 r1_sortedSet wb_var)).we)) (ws_ret we_bl) ws_next)
      (ws_frz (i := 4) (ws_asg (we_op rd_addA we_var we_var) (wg_name (i := 2)))))))))
      (ws_ret (we_op rd_eqA (we_c1 r1_len (WE.wb we_var)) (we_c1 r1_lenSet (WE.wb we_var))))))) rfl h
theorem sc_law : FnScope ["script", "k", "bag", "folk", "one", "two", "three", "eight", "edge", "name", "bent", "some", "thing", "turn", "told", "letter", "said"] ["script"] (defScope s_law) := ⟨rfl, rfl, rfl, by decide +kernel, rfl, by decide +kernel, by decide +kernel⟩
theorem ok_law (T : Tx K mg) : FnOk P w K mg base CX0 36 T.a_law T.d_law ["script"] (spD K 1 fn_law) := by
  refine T.F_law.ok sc_law (fun vs H Q E h => ?_) (fun cdv A outer s H vs Q E hr h => ?_)
  · obtain ⟨S, ds, d, hl, _⟩ := h
    exact hl
  · refine ⟨_, (pss_cons (ps_for PassesOwn.never rfl (pi_range1 (by rfl) T.z_range (pa_cons (pe_op op_addA pe_int (pe_callB (call_min2 rfl) (by rfl) T.z_min (by decide +kernel) (pa_cons (pe_callB call_len (by rfl) T.z_len (by decide +kernel) (pa_cons (pv 0) pa_nil)) (pa_cons pe_int pa_nil)))) pa_nil)) (pg_name (i := 1) sc_law.nd rfl (by first | exact Or.inl rfl | exact Or.inr rfl)) (pss_cons (ps_set (i := 2) sc_law.nd rfl (by first | exact Or.inl rfl | exact Or.inr rfl) (pe_call (ok__law_bag T) (hr.mono (by decide)) (by rfl) T.m__law_bag T.F__law_bag.kp T.b__law_bag .nil pass0 (pa_cons (pv 0) (pa_cons (pv 1) pa_nil))))
      (pss_cons (ps_set (i := 3) sc_law.nd rfl (by first | exact Or.inl rfl | exact Or.inr rfl) (pe_call (ok__law_folk T) (hr.mono (by decide)) (by rfl) T.m__law_folk T.F__law_folk.kp T.b__law_folk .nil pass0 (pa_cons (pv 2) (pa_cons pe_int pa_nil))))
      (pss_cons (ps_par3 (i := 4) (j := 5) (l := 6) (by rfl) sc_law.nd rfl rfl rfl (by decide) (by decide) (by decide) rfl rfl rfl (pa_cons (pe_call (ok__law_cart T) (hr.mono (by decide)) (by rfl) T.m__law_cart T.F__law_cart.kp T.b__law_cart .nil pass0 (pa_cons (pv 2) pa_nil)) (pa_cons (pv 3) (pa_cons (pe_call (ok__law_leaps T) (hr.mono (by decide)) (by rfl) T.m__law_leaps T.F__law_leaps.kp T.b__law_leaps .nil pass0 (pa_cons (pv 2) (pa_cons (pv 3) pa_nil))) pa_nil))) (by rfl))
      (pss_cons (ps_set (i := 7) sc_law.nd rfl (by first | exact Or.inl rfl | exact Or.inr rfl) (pe_callTy call_tuple_of (by rfl) T.z_tuple (by decide +kernel) (pa_cons (pe_lc (own := [("letter", 15)]) (wi := (iAny K (tC (.str "abcdefgh")))) (g := (gName 15)) (tt := tYes) (te := (tTup (tCons (tOp (rAddA K) (tC (.str "f")) (tVar 15)) (tCons (tC (.int 1)) (tCons (tC (.int 1)) tNil))))) rfl sc_law.nd (pi_any pe_str) (blkOk_by (N := ["script", "k", "bag", "folk", "one", "two", "three", "eight", "edge", "name", "bent", "some", "thing", "turn", "told", "letter", "said"]) (sc := defScope s_law) (by decide +kernel)) (fun _ _ _ _ _ => (pg_name (i := 15) sc_law.nd rfl (by first | exact Or.inl rfl | exact Or.inr rfl))) (fun _ _ _ _ _ => pts_nil) (fun _ _ _ _ _ => (pe_tup (pa_cons (pe_op op_addA pe_str (pv 15)) (pa_cons pe_int (pa_cons pe_int pa_nil)))))) pa_nil)))
      (pss_cons (ps_set (i := 8) sc_law.nd rfl (by first | exact Or.inl rfl | exact Or.inr rfl) (pe_tup (pa_cons (pe_tup (pa_cons pe_str (pa_cons (pe_call (ok__law_of T) (hr.mono (by decide)) (by rfl) T.m__law_of T.F__law_of.kp T.b__law_of .nil pass0 (pa_cons (pv 2) (pa_cons (pe_lst (pa_cons pe_int (pa_cons pe_int (pa_cons pe_int (pa_cons pe_int pa_nil))))) pa_nil))) (pa_cons (pe_call (ok__law_of T) (hr.mono (by decide)) (by rfl) T.m__law_of T.F__law_of.kp T.b__law_of .nil pass0 (pa_cons (pv 2) (pa_cons (pe_lst (pa_cons pe_int (pa_cons pe_int (pa_cons pe_int (pa_cons pe_int pa_nil))))) pa_nil))) pa_nil)))) pa_nil)))
      (pss_cons (ps_set (i := 9) sc_law.nd rfl (by first | exact Or.inl rfl | exact Or.inr rfl) (pe_ix ix_seq (pe_ix ix_seq (pv 3) pe_int (fun _ _ => rfl)) pe_int (fun _ _ => rfl)))
      (pss_cons (ps_set (i := 10) sc_law.nd rfl (by first | exact Or.inl rfl | exact Or.inr rfl) (pe_lst (pa_cons (pe_lst (pa_cons (pe_tup (pa_cons (pe_tup (pa_cons (pv 9) (pa_cons pe_bl pa_nil))) pa_nil)) pa_nil)) (pa_cons (pe_lst (pa_cons (pe_tup (pa_cons (pe_tup (pa_cons (pv 9) (pa_cons pe_int pa_nil))) pa_nil)) pa_nil)) (pa_cons (pe_lst (pa_cons (pe_tup (pa_cons (pe_tup (pa_cons (pv 9) (pa_cons pe_int pa_nil))) pa_nil)) (pa_cons (pe_tup (pa_cons (pe_tup (pa_cons (pv 9) (pa_cons (pe_un un_neg pe_int) pa_nil))) pa_nil)) pa_nil))) (pa_cons (pe_lst (pa_cons (pe_tup (pa_cons (pe_tup (pa_cons (pv 9) (pa_cons pe_int pa_nil))) (pa_cons (pe_tup (pa_cons (pv 9) (pa_cons pe_int pa_nil))) pa_nil))) pa_nil)) (pa_cons (pe_lst (pa_cons (pe_tup pa_nil) pa_nil)) pa_nil)))))))
      (pss_cons (ps_set (i := 11) sc_law.nd rfl (by first | exact Or.inl rfl | exact Or.inr rfl) (pe_lst (pa_cons (pv 7) (pa_cons (pe_slice sl_any (pv 7) po_none (po_some pe_int)) (pa_cons (pv 8) (pa_cons (pe_revT (pv 3)) (pa_cons (pe_callTy call_list_of (by rfl) T.z_list (by decide +kernel) (pa_cons (pv 3) pa_nil)) (pa_cons (pe_op op_addA (pv 6) (pv 6)) (pa_cons (pe_callTy call_tuple_of (by rfl) T.z_tuple (by decide +kernel) (pa_cons (pv 6) pa_nil)) (pa_cons (pe_lst pa_nil) (pa_cons pe_int (pa_cons pe_int (pa_cons pe_int (pa_cons pe_bl pa_nil))))))))))))))
      (pss_cons (ps_for PassesOwn.never rfl (pi_any (pe_op op_addA (pe_op op_addA (pv 11) (pv 10)) (pe_lst (pa_cons (pe_call (ok__law_odd T) (hr.mono (by decide)) (by rfl) T.m__law_odd T.F__law_odd.kp T.b__law_odd .nil pass0 (pa_cons (pv 2) pa_nil)) pa_nil)))) (pg_name (i := 12) sc_law.nd rfl (by first | exact Or.inl rfl | exact Or.inr rfl)) (pss_cons (ps_if (PW.pt (pw_or (pt_cmpR (op_neA hr.units) (pe_call (ok_is_cart T) (hr.mono (by decide)) (by rfl) T.m_is_cart T.F_is_cart.kp T.b_is_cart .nil pass0 (pa_cons (pv 12) pa_nil)) (pe_call (ok__law_within T) (hr.mono (by decide)) (by rfl) T.m__law_within T.F__law_within.kp T.b__law_within .nil pass0 (pa_cons (pv 12) (pa_cons pe_int (pa_cons pe_int pa_nil)))) (nomark _)) (pw_or1 (pt_cmpR (op_neA hr.units) (pe_call (ok_are_folk T) (hr.mono (by decide)) (by rfl) T.m_are_folk T.F_are_folk.kp T.b_are_folk .nil pass0 (pa_cons (pv 12) pa_nil)) (pe_call (ok__law_are_folk T) (hr.mono (by decide)) (by rfl) T.m__law_are_folk T.F__law_are_folk.kp T.b__law_are_folk .nil pass0 (pa_cons (pv 12) pa_nil)) (nomark _))))) (pss_one (ps_ret pe_bl)) pss_nil)
      (pss_one (ps_if (pt_cmpR (op_neA hr.units) (pe_call (ok_are_leaps T) (hr.mono (by decide)) (by rfl) T.m_are_leaps T.F_are_leaps.kp T.b_are_leaps .nil pass0 (pa_cons (pv 3) (pa_cons (pv 12) pa_nil))) (pe_call (ok__law_are_leaps T) (hr.mono (by decide)) (by rfl) T.m__law_are_leaps T.F__law_are_leaps.kp T.b__law_are_leaps .nil pass0 (pa_cons (pv 3) (pa_cons (pv 12) pa_nil))) (nomark _)) (pss_one (ps_ret pe_bl)) pss_nil))))
      (pss_one (ps_for PassesOwn.never rfl (pi_range1 (by rfl) T.z_range (pa_cons pe_int pa_nil)) (pg_name (i := 13) sc_law.nd rfl (by first | exact Or.inl rfl | exact Or.inr rfl)) (pss_cons (ps_set (i := 14) sc_law.nd rfl (by first | exact Or.inl rfl | exact Or.inr rfl) (pe_lst (pa_cons (pe_call (ok_is_cart T) (hr.mono (by decide)) (by rfl) T.m_is_cart T.F_is_cart.kp T.b_is_cart .nil pass0 (pa_cons (pv 4) pa_nil)) (pa_cons (pe_call (ok_are_folk T) (hr.mono (by decide)) (by rfl) T.m_are_folk T.F_are_folk.kp T.b_are_folk .nil pass0 (pa_cons (pv 5) pa_nil)) (pa_cons (pe_call (ok_are_leaps T) (hr.mono (by decide)) (by rfl) T.m_are_leaps T.F_are_leaps.kp T.b_are_leaps .nil pass0 (pa_cons (pv 3) (pa_cons (pv 6) pa_nil))) pa_nil)))))
      (pss_cons (ps_if (pt_cmpR (op_neA hr.units) (pe_lc (own := [("said", 16)]) (wi := (iAny K (tVar 14))) (g := (gName 16)) (tt := (tNot (tB (tCB (rIsi K) (tCons (tVar 16) (tCons (tC (.ty "bool")) tNil)))))) (te := (tVar 16)) rfl sc_law.nd (pi_any (pv 14)) (blkOk_by (N := ["script", "k", "bag", "folk", "one", "two", "three", "eight", "edge", "name", "bent", "some", "thing", "turn", "told", "letter", "said"]) (sc := defScope s_law) (by decide +kernel)) (fun _ _ _ _ _ => (pg_name (i := 16) sc_law.nd rfl (by first | exact Or.inl rfl | exact Or.inr rfl))) (fun _ _ _ _ _ => (pts_one (pt_not (pt_val (pe_callB call_isi (by rfl) T.z_isinstance (by decide +kernel) (pa_cons (pv 16) (pa_cons (pe_bltn (v := .ty "bool") (by rfl) T.z_bool (by decide +kernel) rfl) pa_nil))))))) (fun _ _ _ _ _ => (pv 16))) (pe_lst pa_nil) (nomark _)) (pss_one (ps_ret pe_bl)) pss_nil)
      (pss_cons (ps_if (pt_cmpR (op_neA hr.units) (pv 14) (pe_lst (pa_cons (pe_call (ok__law_within T) (hr.mono (by decide)) (by rfl) T.m__law_within T.F__law_within.kp T.b__law_within .nil pass0 (pa_cons (pv 4) (pa_cons pe_int (pa_cons pe_int pa_nil)))) (pa_cons (pe_call (ok__law_are_folk T) (hr.mono (by decide)) (by rfl) T.m__law_are_folk T.F__law_are_folk.kp T.b__law_are_folk .nil pass0 (pa_cons (pv 5) pa_nil)) (pa_cons (pe_call (ok__law_are_leaps T) (hr.mono (by decide)) (by rfl) T.m__law_are_leaps T.F__law_are_leaps.kp T.b__law_are_leaps .nil pass0 (pa_cons (pv 3) (pa_cons (pv 6) pa_nil))) pa_nil)))) (nomark _)) (pss_one (ps_ret pe_bl)) pss_nil)
      (pss_one (ps_asg (pe_lc (own := [("thing", 12)]) (wi := (iAny K (tLst (tCons (tVar 4) (tCons (tVar 5) (tCons (tVar 6) tNil)))))) (g := (gName 12)) (tt := tYes) (te := (tCall (spB K 2 fn__law_spoilt) [] E0 (tCons (tVar 2) (tCons (tVar 12) tNil)))) rfl sc_law.nd (pi_any (pe_lst (pa_cons (pv 4) (pa_cons (pv 5) (pa_cons (pv 6) pa_nil))))) (blkOk_by (N := ["script", "k", "bag", "folk", "one", "two", "three", "eight", "edge", "name", "bent", "some", "thing", "turn", "told", "letter", "said"]) (sc := defScope s_law) (by decide +kernel)) (fun _ _ _ _ _ => (pg_name (i := 12) sc_law.nd rfl (by first | exact Or.inl rfl | exact Or.inr rfl))) (fun _ _ _ _ _ => pts_nil) (fun _ _ _ _ _ => (pe_call (ok__law_spoilt T) (hr.mono (by decide)) (by rfl) T.m__law_spoilt T.F__law_spoilt.kp T.b__law_spoilt .nil pass0 (pa_cons (pv 2) (pa_cons (pv 12) pa_nil))))) (pg_unl rfl (pgs_cons (pg_name (i := 4) sc_law.nd rfl (by first | exact Or.inl rfl | exact Or.inr rfl)) (pgs_cons (pg_name (i := 5) sc_law.nd rfl (by first | exact Or.inl rfl | exact Or.inr rfl)) (pgs_cons (pg_name (i := 6) sc_law.nd rfl (by first | exact Or.inl rfl | exact Or.inr rfl)) pgs_nil)))))))))))))))))))))
      (pss_one (ps_ret pe_bl))), ?_⟩
    exact body_D (n := 16) (φ := b_law) (ws_seq (ws_for (wi_range (we_op rd_addA we_int (we_min (we_c1 r1_len (WE.wb we_var)) we_int))) wg_name (ws_seq (ws_own (i := 2) (wl_call (wa_cons we_var (wa_cons we_var wa_nil)) (arn_cons (arn_cons arn_nil))))
      (ws_seq (ws_asg (we_callB (wa_cons we_int wa_nil) (arn_cons arn_nil)) (wg_name (i := 3)))
      (ws_seq (ws_par3 (i := 4) (j := 5) (l := 6) (wa_cons (we_callB wa_nil arn_nil) (wa_cons we_var (wa_cons (we_callB (wa_cons we_var wa_nil) (arn_cons arn_nil)) wa_nil))))
      (ws_seq (ws_asg (we_c1 r1_tuple (WE.wb ((wl_lc (js := [15]) (wi_any we_str) wg_name (by decide) wt_yes (we_tup (wa_cons (we_op rd_addA we_str we_var) (wa_cons we_int (wa_cons we_int wa_nil)))))).we)) (wg_name (i := 7)))
      (ws_seq (ws_asg (we_tup (wa_cons (we_tup (wa_cons we_str (wa_cons (we_callB (wa_cons ((wl_lst (wa_cons we_int (wa_cons we_int (wa_cons we_int (wa_cons we_int wa_nil)))))).we wa_nil) (arn_cons arn_nil)) (wa_cons (we_callB (wa_cons ((wl_lst (wa_cons we_int (wa_cons we_int (wa_cons we_int (wa_cons we_int wa_nil)))))).we wa_nil) (arn_cons arn_nil)) wa_nil)))) wa_nil)) (wg_name (i := 8)))
      (ws_seq (ws_asg (we_op rd_ix (we_op rd_ix we_var we_int) we_int) (wg_name (i := 9)))
      (ws_seq (ws_asg ((wl_lst (wa_cons ((wl_lst (wa_cons (we_tup (wa_cons (we_tup (wa_cons we_var (wa_cons we_bl wa_nil))) wa_nil)) wa_nil))).we (wa_cons ((wl_lst (wa_cons (we_tup (wa_cons (we_tup (wa_cons we_var (wa_cons we_int wa_nil))) wa_nil)) wa_nil))).we (wa_cons ((wl_lst (wa_cons (we_tup (wa_cons (we_tup (wa_cons we_var (wa_cons we_int wa_nil))) wa_nil)) (wa_cons (we_tup (wa_cons (we_tup (wa_cons we_var (wa_cons (we_neg we_int) wa_nil))) wa_nil)) wa_nil)))).we (wa_cons ((wl_lst (wa_cons (we_tup (wa_cons (we_tup (wa_cons we_var (wa_cons we_int wa_nil))) (wa_cons (we_tup (wa_cons we_var (wa_cons we_int wa_nil))) wa_nil))) wa_nil))).we (wa_cons ((wl_lst (wa_cons (we_tup wa_nil) wa_nil))).we wa_nil))))))).we (wg_name (i := 10)))
      (ws_seq (ws_asg ((wl_lst (wa_cons we_var (wa_cons (we_sl we_var wo_none (wo_some we_int)) (wa_cons we_var (wa_cons (we_revT we_var) (wa_cons ((wl_c1 r1_list (WE.wb we_var))).we (wa_cons (we_op rd_addA we_var we_var) (wa_cons (we_c1 r1_tuple (WE.wb we_var)) (wa_cons ((wl_lst wa_nil)).we (wa_cons we_int (wa_cons we_int (wa_cons we_int (wa_cons we_bl wa_nil)))))))))))))).we (wg_name (i := 11)))
      (ws_seq (ws_for (wi_any (we_op rd_addA (we_op rd_addA we_var we_var) ((wl_lst (wa_cons (we_callB wa_nil arn_nil) wa_nil))).we)) wg_name (ws_seq (ws_if (wt_or (wt_test (we_op rd_neA (we_call (wa_cons we_var wa_nil) (arn_cons arn_nil)) (we_call (wa_cons we_var (wa_cons we_int (wa_cons we_int wa_nil))) (arn_cons (arn_cons (arn_cons arn_nil)))))) (wt_test (we_op rd_neA (we_call (wa_cons we_var wa_nil) (arn_cons arn_nil)) (we_call (wa_cons we_var wa_nil) (arn_cons arn_nil))))) (ws_ret we_bl) ws_next)
      (ws_if (wt_test (we_op rd_neA (we_call (wa_cons we_var (wa_cons we_var wa_nil)) (arn_cons (arn_cons arn_nil))) (we_call (wa_cons we_var (wa_cons we_var wa_nil)) (arn_cons (arn_cons arn_nil))))) (ws_ret we_bl) ws_next)))
      (ws_for (wi_range we_int) wg_name (ws_seq (ws_asg ((wl_lst (wa_cons (we_call (wa_cons we_var wa_nil) (arn_cons arn_nil)) (wa_cons (we_call (wa_cons we_var wa_nil) (arn_cons arn_nil)) (wa_cons (we_call (wa_cons we_var (wa_cons we_var wa_nil)) (arn_cons (arn_cons arn_nil))) wa_nil))))).we (wg_name (i := 14)))
      (ws_seq (ws_if (wt_test (we_op rd_neA ((wl_lc (js := [16]) (wi_any we_var) wg_name (by decide) (wt_not (wt_B (we_isi we_var))) we_var)).we ((wl_lst wa_nil)).we)) (ws_ret we_bl) ws_next)
      (ws_seq (ws_if (wt_test (we_op rd_neA we_var ((wl_lst (wa_cons (we_call (wa_cons we_var (wa_cons we_int (wa_cons we_int wa_nil))) (arn_cons (arn_cons (arn_cons arn_nil)))) (wa_cons (we_call (wa_cons we_var wa_nil) (arn_cons arn_nil)) (wa_cons (we_call (wa_cons we_var (wa_cons we_var wa_nil)) (arn_cons (arn_cons arn_nil))) wa_nil))))).we)) (ws_ret we_bl) ws_next)
      (ws_asg ((wl_lc (js := [12]) (wi_any ((wl_lst (wa_cons we_var (wa_cons we_var (wa_cons we_var wa_nil))))).we) wg_name (by decide) wt_yes (we_callB (wa_cons we_var wa_nil) (arn_cons arn_nil)))).we (wg_unl (wgs_cons wg_name (wgs_cons wg_name (wgs_cons wg_name wgs_nil)))))))))))))))))))
      (ws_ret we_bl)) rfl h
end
end Lc
namespace Lc
open PySem L2 Evl RZ Sm
def spLaw (K : PySem.W.Frag) : Sp := fun vs H Q _ => ∃ (a : Addr) (ns : List Int), vs = [.ref a] ∧ SqL K H a (ns.map V.int) ∧ ns.length ≤ 63 ∧ ∀ H', Q (.bl true) H'
theorem law_sp {K : PySem.W.Frag} (hm : ∀ ns : List Int, ns.length ≤ 63 → fn_law [scrD ns] = some (.bool true)) (vs : List V) (H : Hp) (Q : VK) (E : XK) (h : spLaw K vs H Q E) : spD K 1 fn_law vs H Q E := by
  obtain ⟨a, ns, rfl, hS, hl, q⟩ := h
  refine ⟨[], [scrD ns], .bool true, rfl, .cons (.scr (by rw [msk_nil]; exact hS)) .nil, fun a ha => by simp at ha, hm ns hl, fun v H' _ r => ?_⟩
  cases r
  exact q H'
theorem all_mk {l : PySem.W.OpenLaw} {w : World} {K : PySem.W.Frag} {h : Heap} {mg : Str → Option Value} {fa : Addr} (X : K.In h) (G : h.Ns mainGlobals mg) (hfa : mg "law" = some (.ref fa)) (hm : ∀ ns : List Int, ns.length ≤ 63 → fn_law [scrD ns] = some (.bool true))
    {f0 : Addr} {od0 an0 : Option Addr} {sl0 : Array (Option Value)} {oc0 kV0 dc0 pm0 cd0 ct0 : Value}
    {f1 : Addr} {od1 an1 : Option Addr} {sl1 : Array (Option Value)} {oc1 kV1 dc1 pm1 cd1 ct1 : Value}
    {f2 : Addr} {od2 an2 : Option Addr} {sl2 : Array (Option Value)} {oc2 kV2 dc2 pm2 cd2 ct2 : Value}
    {f3 : Addr} {od3 an3 : Option Addr} {sl3 : Array (Option Value)} {oc3 kV3 dc3 pm3 cd3 ct3 : Value}
    {f4 : Addr} {od4 an4 : Option Addr} {sl4 : Array (Option Value)} {oc4 kV4 dc4 pm4 cd4 ct4 : Value}
    {f5 : Addr} {od5 an5 : Option Addr} {sl5 : Array (Option Value)} {oc5 kV5 dc5 pm5 cd5 ct5 : Value}
    {f6 : Addr} {od6 an6 : Option Addr} {sl6 : Array (Option Value)} {oc6 kV6 dc6 pm6 cd6 ct6 : Value}
    {f7 : Addr} {od7 an7 : Option Addr} {sl7 : Array (Option Value)} {oc7 kV7 dc7 pm7 cd7 ct7 : Value}
    {f8 : Addr} {od8 an8 : Option Addr} {sl8 : Array (Option Value)} {oc8 kV8 dc8 pm8 cd8 ct8 : Value}
    {f9 : Addr} {od9 an9 : Option Addr} {sl9 : Array (Option Value)} {oc9 kV9 dc9 pm9 cd9 ct9 : Value}
    {f10 : Addr} {od10 an10 : Option Addr} {sl10 : Array (Option Value)} {oc10 kV10 dc10 pm10 cd10 ct10 : Value}
    {f11 : Addr} {od11 an11 : Option Addr} {sl11 : Array (Option Value)} {oc11 kV11 dc11 pm11 cd11 ct11 : Value}
    {f12 : Addr} {od12 an12 : Option Addr} {sl12 : Array (Option Value)} {oc12 kV12 dc12 pm12 cd12 ct12 : Value}
    {f13 : Addr} {od13 an13 : Option Addr} {sl13 : Array (Option Value)} {oc13 kV13 dc13 pm13 cd13 ct13 : Value}
    {f14 : Addr} {od14 an14 : Option Addr} {sl14 : Array (Option Value)} {oc14 kV14 dc14 pm14 cd14 ct14 : Value}
    {f15 : Addr} {od15 an15 : Option Addr} {sl15 : Array (Option Value)} {oc15 kV15 dc15 pm15 cd15 ct15 : Value}
    {f16 : Addr} {od16 an16 : Option Addr} {sl16 : Array (Option Value)} {oc16 kV16 dc16 pm16 cd16 ct16 : Value}
    {f17 : Addr} {od17 an17 : Option Addr} {sl17 : Array (Option Value)} {oc17 kV17 dc17 pm17 cd17 ct17 : Value}
    {f18 : Addr} {od18 an18 : Option Addr} {sl18 : Array (Option Value)} {oc18 kV18 dc18 pm18 cd18 ct18 : Value}
    {f19 : Addr} {od19 an19 : Option Addr} {sl19 : Array (Option Value)} {oc19 kV19 dc19 pm19 cd19 ct19 : Value}
    {f20 : Addr} {od20 an20 : Option Addr} {sl20 : Array (Option Value)} {oc20 kV20 dc20 pm20 cd20 ct20 : Value}
    {f21 : Addr} {od21 an21 : Option Addr} {sl21 : Array (Option Value)} {oc21 kV21 dc21 pm21 cd21 ct21 : Value}
    {f22 : Addr} {od22 an22 : Option Addr} {sl22 : Array (Option Value)} {oc22 kV22 dc22 pm22 cd22 ct22 : Value}
    {f23 : Addr} {od23 an23 : Option Addr} {sl23 : Array (Option Value)} {oc23 kV23 dc23 pm23 cd23 ct23 : Value}
    {f24 : Addr} {od24 an24 : Option Addr} {sl24 : Array (Option Value)} {oc24 kV24 dc24 pm24 cd24 ct24 : Value}
    {f25 : Addr} {od25 an25 : Option Addr} {sl25 : Array (Option Value)} {oc25 kV25 dc25 pm25 cd25 ct25 : Value}
    {f26 : Addr} {od26 an26 : Option Addr} {sl26 : Array (Option Value)} {oc26 kV26 dc26 pm26 cd26 ct26 : Value}
    {tk0 : Tok}
    {tk1 : Tok}
    {tk2 : Tok}
    {tk3 : Tok}
    {tk4 : Tok}
    {ca5 : Addr} {tk5_0 tk5_1 : Tok} {cn5 : Nat} {cd_5 : Option Addr} {cs5 : Array (Option Value)}
    {tk6 : Tok}
    (a0 : PySem.W.nsIn K mainGlobals "is_whole" = some (some (.ref f0)))
    (l0 : K.lookup f0 = some ⟨oc0, od0, .func (PySem.W.fnOf "is_whole" "is_whole" (defArgs s_is_whole) (defBody s_is_whole) (defScope s_is_whole) .none kV0 dc0 pm0 an0 cd0 ct0), sl0⟩)
    (c0 : PySem.W.codeIn K cd0 "is_whole" = true) (k0 : PySem.W.keepIn K (.ref f0) = true)
    (a1 : PySem.W.nsIn K mainGlobals "is_whole_within" = some (some (.ref f1)))
    (l1 : K.lookup f1 = some ⟨oc1, od1, .func (PySem.W.fnOf "is_whole_within" "is_whole_within" (defArgs s_is_whole_within) (defBody s_is_whole_within) (defScope s_is_whole_within) .none kV1 dc1 pm1 an1 cd1 ct1), sl1⟩)
    (c1 : PySem.W.codeIn K cd1 "is_whole_within" = true) (k1 : PySem.W.keepIn K (.ref f1) = true)
    (a2 : PySem.W.nsIn K mainGlobals "is_tuple_of" = some (some (.ref f2)))
    (l2 : K.lookup f2 = some ⟨oc2, od2, .func (PySem.W.fnOf "is_tuple_of" "is_tuple_of" (defArgs s_is_tuple_of) (defBody s_is_tuple_of) (defScope s_is_tuple_of) .none kV2 dc2 pm2 an2 cd2 ct2), sl2⟩)
    (c2 : PySem.W.codeIn K cd2 "is_tuple_of" = true) (k2 : PySem.W.keepIn K (.ref f2) = true)
    (a3 : PySem.W.nsIn K mainGlobals "is_cart" = some (some (.ref f3)))
    (l3 : K.lookup f3 = some ⟨oc3, od3, .func (PySem.W.fnOf "is_cart" "is_cart" (defArgs s_is_cart) (defBody s_is_cart) (defScope s_is_cart) .none kV3 dc3 pm3 an3 cd3 ct3), sl3⟩)
    (c3 : PySem.W.codeIn K cd3 "is_cart" = true) (k3 : PySem.W.keepIn K (.ref f3) = true)
    (a4 : PySem.W.nsIn K mainGlobals "is_name" = some (some (.ref f4)))
    (l4 : K.lookup f4 = some ⟨oc4, od4, .func (PySem.W.fnOf "is_name" "is_name" (defArgs s_is_name) (defBody s_is_name) (defScope s_is_name) .none kV4 dc4 pm4 an4 cd4 ct4), sl4⟩)
    (c4 : PySem.W.codeIn K cd4 "is_name" = true) (k4 : PySem.W.keepIn K (.ref f4) = true)
    (a5 : PySem.W.nsIn K mainGlobals "is_somebody" = some (some (.ref f5)))
    (l5 : K.lookup f5 = some ⟨oc5, od5, .func (PySem.W.fnOf "is_somebody" "is_somebody" (defArgs s_is_somebody) (defBody s_is_somebody) (defScope s_is_somebody) .none kV5 dc5 pm5 an5 cd5 ct5), sl5⟩)
    (c5 : PySem.W.codeIn K cd5 "is_somebody" = true) (k5 : PySem.W.keepIn K (.ref f5) = true)
    (a6 : PySem.W.nsIn K mainGlobals "names_of" = some (some (.ref f6)))
    (l6 : K.lookup f6 = some ⟨oc6, od6, .func (PySem.W.fnOf "names_of" "names_of" (defArgs s_names_of) (defBody s_names_of) (defScope s_names_of) .none kV6 dc6 pm6 an6 cd6 ct6), sl6⟩)
    (c6 : PySem.W.codeIn K cd6 "names_of" = true) (k6 : PySem.W.keepIn K (.ref f6) = true)
    (a7 : PySem.W.nsIn K mainGlobals "names_rise" = some (some (.ref f7)))
    (l7 : K.lookup f7 = some ⟨oc7, od7, .func (PySem.W.fnOf "names_rise" "names_rise" (defArgs s_names_rise) (defBody s_names_rise) (defScope s_names_rise) .none kV7 dc7 pm7 an7 cd7 ct7), sl7⟩)
    (c7 : PySem.W.codeIn K cd7 "names_rise" = true) (k7 : PySem.W.keepIn K (.ref f7) = true)
    (a8 : PySem.W.nsIn K mainGlobals "are_folk" = some (some (.ref f8)))
    (l8 : K.lookup f8 = some ⟨oc8, od8, .func (PySem.W.fnOf "are_folk" "are_folk" (defArgs s_are_folk) (defBody s_are_folk) (defScope s_are_folk) .none kV8 dc8 pm8 an8 cd8 ct8), sl8⟩)
    (c8 : PySem.W.codeIn K cd8 "are_folk" = true) (k8 : PySem.W.keepIn K (.ref f8) = true)
    (a9 : PySem.W.nsIn K mainGlobals "is_leap" = some (some (.ref f9)))
    (l9 : K.lookup f9 = some ⟨oc9, od9, .func (PySem.W.fnOf "is_leap" "is_leap" (defArgs s_is_leap) (defBody s_is_leap) (defScope s_is_leap) .none kV9 dc9 pm9 an9 cd9 ct9), sl9⟩)
    (c9 : PySem.W.codeIn K cd9 "is_leap" = true) (k9 : PySem.W.keepIn K (.ref f9) = true)
    (a10 : PySem.W.nsIn K mainGlobals "are_at_once" = some (some (.ref f10)))
    (l10 : K.lookup f10 = some ⟨oc10, od10, .func (PySem.W.fnOf "are_at_once" "are_at_once" (defArgs s_are_at_once) (defBody s_are_at_once) (defScope s_are_at_once) .none kV10 dc10 pm10 an10 cd10 ct10), sl10⟩)
    (c10 : PySem.W.codeIn K cd10 "are_at_once" = true) (k10 : PySem.W.keepIn K (.ref f10) = true)
    (a11 : PySem.W.nsIn K mainGlobals "are_leaps" = some (some (.ref f11)))
    (l11 : K.lookup f11 = some ⟨oc11, od11, .func (PySem.W.fnOf "are_leaps" "are_leaps" (defArgs s_are_leaps) (defBody s_are_leaps) (defScope s_are_leaps) .none kV11 dc11 pm11 an11 cd11 ct11), sl11⟩)
    (c11 : PySem.W.codeIn K cd11 "are_leaps" = true) (k11 : PySem.W.keepIn K (.ref f11) = true)
    (a12 : PySem.W.nsIn K mainGlobals "_law_bag" = some (some (.ref f12)))
    (l12 : K.lookup f12 = some ⟨oc12, od12, .func (PySem.W.fnOf "_law_bag" "_law_bag" (defArgs s__law_bag) (defBody s__law_bag) (defScope s__law_bag) .none kV12 dc12 pm12 an12 cd12 ct12), sl12⟩)
    (c12 : PySem.W.codeIn K cd12 "_law_bag" = true) (k12 : PySem.W.keepIn K (.ref f12) = true)
    (a13 : PySem.W.nsIn K mainGlobals "_law_take" = some (some (.ref f13)))
    (l13 : K.lookup f13 = some ⟨oc13, od13, .func (PySem.W.fnOf "_law_take" "_law_take" (defArgs s__law_take) (defBody s__law_take) (defScope s__law_take) .none kV13 dc13 pm13 an13 cd13 ct13), sl13⟩)
    (c13 : PySem.W.codeIn K cd13 "_law_take" = true) (k13 : PySem.W.keepIn K (.ref f13) = true)
    (a14 : PySem.W.nsIn K mainGlobals "_law_of" = some (some (.ref f14)))
    (l14 : K.lookup f14 = some ⟨oc14, od14, .func (PySem.W.fnOf "_law_of" "_law_of" (defArgs s__law_of) (defBody s__law_of) (defScope s__law_of) .none kV14 dc14 pm14 an14 cd14 ct14), sl14⟩)
    (c14 : PySem.W.codeIn K cd14 "_law_of" = true) (k14 : PySem.W.keepIn K (.ref f14) = true)
    (a15 : PySem.W.nsIn K mainGlobals "_law_whole" = some (some (.ref f15)))
    (l15 : K.lookup f15 = some ⟨oc15, od15, .func (PySem.W.fnOf "_law_whole" "_law_whole" (defArgs s__law_whole) (defBody s__law_whole) (defScope s__law_whole) .none kV15 dc15 pm15 an15 cd15 ct15), sl15⟩)
    (c15 : PySem.W.codeIn K cd15 "_law_whole" = true) (k15 : PySem.W.keepIn K (.ref f15) = true)
    (a16 : PySem.W.nsIn K mainGlobals "_law_within" = some (some (.ref f16)))
    (l16 : K.lookup f16 = some ⟨oc16, od16, .func (PySem.W.fnOf "_law_within" "_law_within" (defArgs s__law_within) (defBody s__law_within) (defScope s__law_within) .none kV16 dc16 pm16 an16 cd16 ct16), sl16⟩)
    (c16 : PySem.W.codeIn K cd16 "_law_within" = true) (k16 : PySem.W.keepIn K (.ref f16) = true)
    (a17 : PySem.W.nsIn K mainGlobals "_law_is_name" = some (some (.ref f17)))
    (l17 : K.lookup f17 = some ⟨oc17, od17, .func (PySem.W.fnOf "_law_is_name" "_law_is_name" (defArgs s__law_is_name) (defBody s__law_is_name) (defScope s__law_is_name) .none kV17 dc17 pm17 an17 cd17 ct17), sl17⟩)
    (c17 : PySem.W.codeIn K cd17 "_law_is_name" = true) (k17 : PySem.W.keepIn K (.ref f17) = true)
    (a18 : PySem.W.nsIn K mainGlobals "_law_odd" = some (some (.ref f18)))
    (l18 : K.lookup f18 = some ⟨oc18, od18, .func (PySem.W.fnOf "_law_odd" "_law_odd" (defArgs s__law_odd) (defBody s__law_odd) (defScope s__law_odd) .none kV18 dc18 pm18 an18 cd18 ct18), sl18⟩)
    (c18 : PySem.W.codeIn K cd18 "_law_odd" = true) (k18 : PySem.W.keepIn K (.ref f18) = true)
    (a19 : PySem.W.nsIn K mainGlobals "_law_spoilt" = some (some (.ref f19)))
    (l19 : K.lookup f19 = some ⟨oc19, od19, .func (PySem.W.fnOf "_law_spoilt" "_law_spoilt" (defArgs s__law_spoilt) (defBody s__law_spoilt) (defScope s__law_spoilt) .none kV19 dc19 pm19 an19 cd19 ct19), sl19⟩)
    (c19 : PySem.W.codeIn K cd19 "_law_spoilt" = true) (k19 : PySem.W.keepIn K (.ref f19) = true)
    (a20 : PySem.W.nsIn K mainGlobals "_law_cart" = some (some (.ref f20)))
    (l20 : K.lookup f20 = some ⟨oc20, od20, .func (PySem.W.fnOf "_law_cart" "_law_cart" (defArgs s__law_cart) (defBody s__law_cart) (defScope s__law_cart) .none kV20 dc20 pm20 an20 cd20 ct20), sl20⟩)
    (c20 : PySem.W.codeIn K cd20 "_law_cart" = true) (k20 : PySem.W.keepIn K (.ref f20) = true)
    (a21 : PySem.W.nsIn K mainGlobals "_law_folk" = some (some (.ref f21)))
    (l21 : K.lookup f21 = some ⟨oc21, od21, .func (PySem.W.fnOf "_law_folk" "_law_folk" (defArgs s__law_folk) (defBody s__law_folk) (defScope s__law_folk) .none kV21 dc21 pm21 an21 cd21 ct21), sl21⟩)
    (c21 : PySem.W.codeIn K cd21 "_law_folk" = true) (k21 : PySem.W.keepIn K (.ref f21) = true)
    (a22 : PySem.W.nsIn K mainGlobals "_law_mixed" = some (some (.ref f22)))
    (l22 : K.lookup f22 = some ⟨oc22, od22, .func (PySem.W.fnOf "_law_mixed" "_law_mixed" (defArgs s__law_mixed) (defBody s__law_mixed) (defScope s__law_mixed) .none kV22 dc22 pm22 an22 cd22 ct22), sl22⟩)
    (c22 : PySem.W.codeIn K cd22 "_law_mixed" = true) (k22 : PySem.W.keepIn K (.ref f22) = true)
    (a23 : PySem.W.nsIn K mainGlobals "_law_leaps" = some (some (.ref f23)))
    (l23 : K.lookup f23 = some ⟨oc23, od23, .func (PySem.W.fnOf "_law_leaps" "_law_leaps" (defArgs s__law_leaps) (defBody s__law_leaps) (defScope s__law_leaps) .none kV23 dc23 pm23 an23 cd23 ct23), sl23⟩)
    (c23 : PySem.W.codeIn K cd23 "_law_leaps" = true) (k23 : PySem.W.keepIn K (.ref f23) = true)
    (a24 : PySem.W.nsIn K mainGlobals "_law_are_folk" = some (some (.ref f24)))
    (l24 : K.lookup f24 = some ⟨oc24, od24, .func (PySem.W.fnOf "_law_are_folk" "_law_are_folk" (defArgs s__law_are_folk) (defBody s__law_are_folk) (defScope s__law_are_folk) .none kV24 dc24 pm24 an24 cd24 ct24), sl24⟩)
    (c24 : PySem.W.codeIn K cd24 "_law_are_folk" = true) (k24 : PySem.W.keepIn K (.ref f24) = true)
    (a25 : PySem.W.nsIn K mainGlobals "_law_are_leaps" = some (some (.ref f25)))
    (l25 : K.lookup f25 = some ⟨oc25, od25, .func (PySem.W.fnOf "_law_are_leaps" "_law_are_leaps" (defArgs s__law_are_leaps) (defBody s__law_are_leaps) (defScope s__law_are_leaps) .none kV25 dc25 pm25 an25 cd25 ct25), sl25⟩)
    (c25 : PySem.W.codeIn K cd25 "_law_are_leaps" = true) (k25 : PySem.W.keepIn K (.ref f25) = true)
    (a26 : PySem.W.nsIn K mainGlobals "law" = some (some (.ref f26)))
    (l26 : K.lookup f26 = some ⟨oc26, od26, .func (PySem.W.fnOf "law" "law" (defArgs s_law) (defBody s_law) (defScope s_law) .none kV26 dc26 pm26 an26 cd26 ct26), sl26⟩)
    (c26 : PySem.W.codeIn K cd26 "law" = true) (k26 : PySem.W.keepIn K (.ref f26) = true)
    (q0 : PySem.W.nsIn K mainGlobals "MOST_CART" = some (some (.int 1000 tk0)))
    (q1 : PySem.W.nsIn K mainGlobals "MOST_LETTERS" = some (some (.int 8 tk1)))
    (q2 : PySem.W.nsIn K mainGlobals "MOST_HEAVY" = some (some (.int 200 tk2)))
    (q3 : PySem.W.nsIn K mainGlobals "MOST_LEAP" = some (some (.int 100 tk3)))
    (q4 : PySem.W.nsIn K mainGlobals "MOST_FOLK" = some (some (.int 7 tk4)))
    (q5 : PySem.W.nsIn K mainGlobals "WAYS" = some (some (.ref ca5)))
    (r5 : K.lookup ca5 = some ⟨.type "tuple", cd_5, .seq #[.int (1) tk5_0, .int (-1) tk5_1] cn5, cs5⟩)
    (q6 : PySem.W.nsIn K mainGlobals "MOST_TUPLES" = some (some (.int 7 tk6)))
    (z0 : PySem.W.nsIn K mainGlobals "abs" = some none)
    (z1 : PySem.W.nsIn K mainGlobals "all" = some none)
    (z2 : PySem.W.nsIn K mainGlobals "bool" = some none)
    (z3 : PySem.W.nsIn K mainGlobals "int" = some none)
    (z4 : PySem.W.nsIn K mainGlobals "isinstance" = some none)
    (z5 : PySem.W.nsIn K mainGlobals "len" = some none)
    (z6 : PySem.W.nsIn K mainGlobals "list" = some none)
    (z7 : PySem.W.nsIn K mainGlobals "min" = some none)
    (z8 : PySem.W.nsIn K mainGlobals "range" = some none)
    (z9 : PySem.W.nsIn K mainGlobals "set" = some none)
    (z10 : PySem.W.nsIn K mainGlobals "sorted" = some none)
    (z11 : PySem.W.nsIn K mainGlobals "str" = some none)
    (z12 : PySem.W.nsIn K mainGlobals "tuple" = some none)
    (z13 : PySem.W.nsIn K mainGlobals "zip" = some none) :
    ∃ fd : FuncData, (∀ (s : Shared) (v : Value), BindsTo s fd ⟨[v], []⟩ [("script", v)]) ∧ ∀ base : Heap, K.In base → base.Ns mainGlobals mg → FnOk l.prog w K mg base CX0 36 fa fd ["script"] (spLaw K) := by
  have e := hfa.symm.trans (PySem.W.mg_of X G a26)
  cases e
  have F0 := fun_mk (st := s_is_whole) l0 c0 k0
  have B0 := F0.binds (ps := ["thing"]) fun _ _ _ _ _ _ us hl => match us, hl with | [_], _ => rfl
  have F1 := fun_mk (st := s_is_whole_within) l1 c1 k1
  have B1 := F1.binds (ps := ["thing", "least", "most"]) fun _ _ _ _ _ _ us hl => match us, hl with | [_, _, _], _ => rfl
  have F2 := fun_mk (st := s_is_tuple_of) l2 c2 k2
  have B2 := F2.binds (ps := ["thing", "many"]) fun _ _ _ _ _ _ us hl => match us, hl with | [_, _], _ => rfl
  have F3 := fun_mk (st := s_is_cart) l3 c3 k3
  have B3 := F3.binds (ps := ["thing"]) fun _ _ _ _ _ _ us hl => match us, hl with | [_], _ => rfl
  have F4 := fun_mk (st := s_is_name) l4 c4 k4
  have B4 := F4.binds (ps := ["thing"]) fun _ _ _ _ _ _ us hl => match us, hl with | [_], _ => rfl
  have F5 := fun_mk (st := s_is_somebody) l5 c5 k5
  have B5 := F5.binds (ps := ["thing"]) fun _ _ _ _ _ _ us hl => match us, hl with | [_], _ => rfl
  have F6 := fun_mk (st := s_names_of) l6 c6 k6
  have B6 := F6.binds (ps := ["rows"]) fun _ _ _ _ _ _ us hl => match us, hl with | [_], _ => rfl
  have F7 := fun_mk (st := s_names_rise) l7 c7 k7
  have B7 := F7.binds (ps := ["rows"]) fun _ _ _ _ _ _ us hl => match us, hl with | [_], _ => rfl
  have F8 := fun_mk (st := s_are_folk) l8 c8 k8
  have B8 := F8.binds (ps := ["thing"]) fun _ _ _ _ _ _ us hl => match us, hl with | [_], _ => rfl
  have F9 := fun_mk (st := s_is_leap) l9 c9 k9
  have B9 := F9.binds (ps := ["names", "thing"]) fun _ _ _ _ _ _ us hl => match us, hl with | [_, _], _ => rfl
  have F10 := fun_mk (st := s_are_at_once) l10 c10 k10
  have B10 := F10.binds (ps := ["names", "thing"]) fun _ _ _ _ _ _ us hl => match us, hl with | [_, _], _ => rfl
  have F11 := fun_mk (st := s_are_leaps) l11 c11 k11
  have B11 := F11.binds (ps := ["folk", "thing"]) fun _ _ _ _ _ _ us hl => match us, hl with | [_, _], _ => rfl
  have F12 := fun_mk (st := s__law_bag) l12 c12 k12
  have B12 := F12.binds (ps := ["script", "k"]) fun _ _ _ _ _ _ us hl => match us, hl with | [_, _], _ => rfl
  have F13 := fun_mk (st := s__law_take) l13 c13 k13
  have B13 := F13.binds (ps := ["bag", "many"]) fun _ _ _ _ _ _ us hl => match us, hl with | [_, _], _ => rfl
  have F14 := fun_mk (st := s__law_of) l14 c14 k14
  have B14 := F14.binds (ps := ["bag", "some"]) fun _ _ _ _ _ _ us hl => match us, hl with | [_, _], _ => rfl
  have F15 := fun_mk (st := s__law_whole) l15 c15 k15
  have B15 := F15.binds (ps := ["thing"]) fun _ _ _ _ _ _ us hl => match us, hl with | [_], _ => rfl
  have F16 := fun_mk (st := s__law_within) l16 c16 k16
  have B16 := F16.binds (ps := ["thing", "least", "most"]) fun _ _ _ _ _ _ us hl => match us, hl with | [_, _, _], _ => rfl
  have F17 := fun_mk (st := s__law_is_name) l17 c17 k17
  have B17 := F17.binds (ps := ["thing"]) fun _ _ _ _ _ _ us hl => match us, hl with | [_], _ => rfl
  have F18 := fun_mk (st := s__law_odd) l18 c18 k18
  have B18 := F18.binds (ps := ["bag"]) fun _ _ _ _ _ _ us hl => match us, hl with | [_], _ => rfl
  have F19 := fun_mk (st := s__law_spoilt) l19 c19 k19
  have B19 := F19.binds (ps := ["bag", "thing"]) fun _ _ _ _ _ _ us hl => match us, hl with | [_, _], _ => rfl
  have F20 := fun_mk (st := s__law_cart) l20 c20 k20
  have B20 := F20.binds (ps := ["bag"]) fun _ _ _ _ _ _ us hl => match us, hl with | [_], _ => rfl
  have F21 := fun_mk (st := s__law_folk) l21 c21 k21
  have B21 := F21.binds (ps := ["bag", "most"]) fun _ _ _ _ _ _ us hl => match us, hl with | [_, _], _ => rfl
  have F22 := fun_mk (st := s__law_mixed) l22 c22 k22
  have B22 := F22.binds (ps := ["bag", "some"]) fun _ _ _ _ _ _ us hl => match us, hl with | [_, _], _ => rfl
  have F23 := fun_mk (st := s__law_leaps) l23 c23 k23
  have B23 := F23.binds (ps := ["bag", "folk"]) fun _ _ _ _ _ _ us hl => match us, hl with | [_, _], _ => rfl
  have F24 := fun_mk (st := s__law_are_folk) l24 c24 k24
  have B24 := F24.binds (ps := ["thing"]) fun _ _ _ _ _ _ us hl => match us, hl with | [_], _ => rfl
  have F25 := fun_mk (st := s__law_are_leaps) l25 c25 k25
  have B25 := F25.binds (ps := ["folk", "thing"]) fun _ _ _ _ _ _ us hl => match us, hl with | [_, _], _ => rfl
  have F26 := fun_mk (st := s_law) l26 c26 k26
  have B26 := F26.binds (ps := ["script"]) fun _ _ _ _ _ _ us hl => match us, hl with | [_], _ => rfl
  exact ⟨PySem.W.fnOf "law" "law" (defArgs s_law) (defBody s_law) (defScope s_law) .none kV26 dc26 pm26 an26 cd26 ct26, fun s v => .of_eq rfl, fun base _ _ => (ok_law (P := l.prog) (w := w) (base := base) ⟨f0, _, F0, B0, PySem.W.mg_of X G a0, f1, _, F1, B1, PySem.W.mg_of X G a1, f2, _, F2, B2, PySem.W.mg_of X G a2, f3, _, F3, B3, PySem.W.mg_of X G a3, f4, _, F4, B4, PySem.W.mg_of X G a4, f5, _, F5, B5, PySem.W.mg_of X G a5, f6, _, F6, B6, PySem.W.mg_of X G a6, f7, _, F7, B7, PySem.W.mg_of X G a7, f8, _, F8, B8, PySem.W.mg_of X G a8, f9, _, F9, B9, PySem.W.mg_of X G a9, f10, _, F10, B10, PySem.W.mg_of X G a10, f11, _, F11, B11, PySem.W.mg_of X G a11, f12, _, F12, B12, PySem.W.mg_of X G a12, f13, _, F13, B13, PySem.W.mg_of X G a13, f14, _, F14, B14, PySem.W.mg_of X G a14, f15, _, F15, B15, PySem.W.mg_of X G a15, f16, _, F16, B16, PySem.W.mg_of X G a16, f17, _, F17, B17, PySem.W.mg_of X G a17, f18, _, F18, B18, PySem.W.mg_of X G a18, f19, _, F19, B19, PySem.W.mg_of X G a19, f20, _, F20, B20, PySem.W.mg_of X G a20, f21, _, F21, B21, PySem.W.mg_of X G a21, f22, _, F22, B22, PySem.W.mg_of X G a22, f23, _, F23, B23, PySem.W.mg_of X G a23, f24, _, F24, B24, PySem.W.mg_of X G a24, f25, _, F25, B25, PySem.W.mg_of X G a25, fa, _, F26, B26, PySem.W.mg_of X G a26, tk0, PySem.W.mg_of X G q0, tk1, PySem.W.mg_of X G q1, tk2, PySem.W.mg_of X G q2, tk3, PySem.W.mg_of X G q3, tk4, PySem.W.mg_of X G q4, ca5, PySem.W.mg_of X G q5, ⟨_, _, _, r5, rfl, rfl, (show (2 : Nat) ≤ sizeLine by decide), .cons ⟨_, rfl⟩ (.cons ⟨_, rfl⟩ (.nil))⟩, tk6, PySem.W.mg_of X G q6, PySem.W.mg_none_of X G z0, PySem.W.mg_none_of X G z1, PySem.W.mg_none_of X G z2, PySem.W.mg_none_of X G z3, PySem.W.mg_none_of X G z4, PySem.W.mg_none_of X G z5, PySem.W.mg_none_of X G z6, PySem.W.mg_none_of X G z7, PySem.W.mg_none_of X G z8, PySem.W.mg_none_of X G z9, PySem.W.mg_none_of X G z10, PySem.W.mg_none_of X G z11, PySem.W.mg_none_of X G z12, PySem.W.mg_none_of X G z13⟩).imp (law_sp hm)⟩
end Lc
open PySem PySem.W PyProof.Rows
set_option maxRecDepth 100000 in
set_option maxHeartbeats 0 in
theorem PySem.Challenge.cw_leapcart_k01_carts_folk_leaps_told_holds : PySem.Challenge.rw_leapcart_k01_carts_folk_leaps_told.Holds := by
  w_on; o_law; k_head; (case hw => w_witness2)
  k_fill
  refine L2.walk_of (l := PySem.Challenge.rw_leapcart_k01_carts_folk_leaps_told) (n := 63) (k := 36) (x := "script") (CX := fun _ => L2.CX0) (sp := fun w => Lc.spLaw _) rfl (by decide) rfl ⟨rfl, by decide, by decide⟩ (fun w h Y => PySem.W.kIn_of Y) ?F (fun _ _ a ns hl _ hS => ⟨a, ns, rfl, hS, hl, fun _ => rfl⟩) (fun _ _ _ _ _ h => h)
  case F =>
    intro w mg fa h KX G hmg
    refine' Lc.all_mk KX G hmg Lc.law_math ?a0 ?l0 ?c0 ?k0 ?a1 ?l1 ?c1 ?k1 ?a2 ?l2 ?c2 ?k2 ?a3 ?l3 ?c3 ?k3 ?a4 ?l4 ?c4 ?k4 ?a5 ?l5 ?c5 ?k5 ?a6 ?l6 ?c6 ?k6 ?a7 ?l7 ?c7 ?k7 ?a8 ?l8 ?c8 ?k8 ?a9 ?l9 ?c9 ?k9 ?a10 ?l10 ?c10 ?k10 ?a11 ?l11 ?c11 ?k11 ?a12 ?l12 ?c12 ?k12 ?a13 ?l13 ?c13 ?k13 ?a14 ?l14 ?c14 ?k14 ?a15 ?l15 ?c15 ?k15 ?a16 ?l16 ?c16 ?k16 ?a17 ?l17 ?c17 ?k17 ?a18 ?l18 ?c18 ?k18 ?a19 ?l19 ?c19 ?k19 ?a20 ?l20 ?c20 ?k20 ?a21 ?l21 ?c21 ?k21 ?a22 ?l22 ?c22 ?k22 ?a23 ?l23 ?c23 ?k23 ?a24 ?l24 ?c24 ?k24 ?a25 ?l25 ?c25 ?k25 ?a26 ?l26 ?c26 ?k26 ?q0 ?q1 ?q2 ?q3 ?q4 ?q5 ?r5 ?q6 ?z0 ?z1 ?z2 ?z3 ?z4 ?z5 ?z6 ?z7 ?z8 ?z9 ?z10 ?z11 ?z12 ?z13
    (case a0 => k_is)
    (case l0 => k_is)
    (case c0 => k_is)
    (case k0 => k_is)
    (case a1 => k_is)
    (case l1 => k_is)
    (case c1 => k_is)
    (case k1 => k_is)
    (case a2 => k_is)
    (case l2 => k_is)
    (case c2 => k_is)
    (case k2 => k_is)
    (case a3 => k_is)
    (case l3 => k_is)
    (case c3 => k_is)
    (case k3 => k_is)
    (case a4 => k_is)
    (case l4 => k_is)
    (case c4 => k_is)
    (case k4 => k_is)
    (case a5 => k_is)
    (case l5 => k_is)
    (case c5 => k_is)
    (case k5 => k_is)
    (case a6 => k_is)
    (case l6 => k_is)
    (case c6 => k_is)
    (case k6 => k_is)
    (case a7 => k_is)
    (case l7 => k_is)
    (case c7 => k_is)
    (case k7 => k_is)
    (case a8 => k_is)
    (case l8 => k_is)
    (case c8 => k_is)
    (case k8 => k_is)
    (case a9 => k_is)
    (case l9 => k_is)
    (case c9 => k_is)
    (case k9 => k_is)
    (case a10 => k_is)
    (case l10 => k_is)
    (case c10 => k_is)
    (case k10 => k_is)
    (case a11 => k_is)
    (case l11 => k_is)
    (case c11 => k_is)
    (case k11 => k_is)
    (case a12 => k_is)
    (case l12 => k_is)
    (case c12 => k_is)
    (case k12 => k_is)
    (case a13 => k_is)
    (case l13 => k_is)
    (case c13 => k_is)
    (case k13 => k_is)
    (case a14 => k_is)
    (case l14 => k_is)
    (case c14 => k_is)
    (case k14 => k_is)
    (case a15 => k_is)
    (case l15 => k_is)
    (case c15 => k_is)
    (case k15 => k_is)
    (case a16 => k_is)
    (case l16 => k_is)
    (case c16 => k_is)
    (case k16 => k_is)
    (case a17 => k_is)
    (case l17 => k_is)
    (case c17 => k_is)
    (case k17 => k_is)
    (case a18 => k_is)
    (case l18 => k_is)
    (case c18 => k_is)
    (case k18 => k_is)
    (case a19 => k_is)
    (case l19 => k_is)
    (case c19 => k_is)
    (case k19 => k_is)
    (case a20 => k_is)
    (case l20 => k_is)
    (case c20 => k_is)
    (case k20 => k_is)
    (case a21 => k_is)
    (case l21 => k_is)
    (case c21 => k_is)
    (case k21 => k_is)
    (case a22 => k_is)
    (case l22 => k_is)
    (case c22 => k_is)
    (case k22 => k_is)
    (case a23 => k_is)
    (case l23 => k_is)
    (case c23 => k_is)
    (case k23 => k_is)
    (case a24 => k_is)
    (case l24 => k_is)
    (case c24 => k_is)
    (case k24 => k_is)
    (case a25 => k_is)
    (case l25 => k_is)
    (case c25 => k_is)
    (case k25 => k_is)
    (case a26 => k_is)
    (case l26 => k_is)
    (case c26 => k_is)
    (case k26 => k_is)
    (case q0 => k_is)
    (case q1 => k_is)
    (case q2 => k_is)
    (case q3 => k_is)
    (case q4 => k_is)
    (case q5 => k_is)
    (case r5 => k_is)
    (case q6 => k_is)
    (case z0 => k_is)
    (case z1 => k_is)
    (case z2 => k_is)
    (case z3 => k_is)
    (case z4 => k_is)
    (case z5 => k_is)
    (case z6 => k_is)
    (case z7 => k_is)
    (case z8 => k_is)
    (case z9 => k_is)
    (case z10 => k_is)
    (case z11 => k_is)
    (case z12 => k_is)
    (case z13 => k_is)
