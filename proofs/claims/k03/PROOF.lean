import PyProof.Rows.All
import Wide.All
import OpenK.AllK
import Wide.FinOn
import HandS.ForMost
import HandS.Evl
import HandS.Wide
import HandS.TupAny
import HandS.IsInst
import HandS.Zip
import HandS.More
import HandS.Strs
import KE.SortCalls
import HandS.Sort
import HandS.DictComp
import KE.GoesMore
import KE.GoesEnum
import HandS.Style
import KE.KDictZip
import HandS.Conv
import PySem.Challenge.RW_leapcart_k03_whole_the_common_middle_sta
set_option Elab.async false
set_option linter.all false
set_option maxRecDepth 100000
/-! A reading by data: what a piece of the program makes of trees, heaps left aside. -/
namespace Sm
open PySem L2 Evl

/-! ### data in a heap -/
def keyD : Key → PyData
  | .inl i => .int i
  | .inr x => .str x
/-- the law's script, a list of ints that nobody changes, is told apart from dicts by its first key -/
def scrD (ns : List Int) : PyData := .dict ((.none, .none) :: ns.map fun n => (.int n, .none))
mutual
inductive Rp (K : PySem.W.Frag) (H : Hp) : V → PyData → Prop
  | non : Rp K H .non .none
  | bl (b : Bool) : Rp K H (.bl b) (.bool b)
  | int (i : Int) : Rp K H (.int i) (.int i)
  | str (x : Str) : Rp K H (.str x) (.str x)
  | lst {a : Addr} {xs : List V} {ds : List PyData} : H a = some (.lst xs) → RpAll K H xs ds → Rp K H (.ref a) (.list ds)
  | tup {a : Addr} {xs : List V} {ds : List PyData} : SqT K H a xs → RpAll K H xs ds → Rp K H (.ref a) (.tuple ds)
  | scr {a : Addr} {ns : List Int} : SqL K H a (ns.map V.int) → Rp K H (.ref a) (.dict ((.none, .none) :: ns.map fun n => (.int n, .none)))
  | dic {a : Addr} {ks : List (Key × V)} {ds : List (PyData × PyData)} : H a = some (.dK ks) → RpKV K H ks ds → Rp K H (.ref a) (.dict ds)
inductive RpAll (K : PySem.W.Frag) (H : Hp) : List V → List PyData → Prop
  | nil : RpAll K H [] []
  | cons {v : V} {vs : List V} {d : PyData} {ds : List PyData} : Rp K H v d → RpAll K H vs ds → RpAll K H (v :: vs) (d :: ds)
inductive RpKV (K : PySem.W.Frag) (H : Hp) : List (Key × V) → List (PyData × PyData) → Prop
  | nil : RpKV K H [] []
  | cons {k : Key} {v : V} {vs : List (Key × V)} {d : PyData} {ds : List (PyData × PyData)} : Rp K H v d → RpKV K H vs ds → RpKV K H ((k, v) :: vs) ((keyD k, d) :: ds)
end
section
variable {K : PySem.W.Frag} {H H' : Hp}
theorem Rp.mono (e : Ex H H') (d : PyData) (v : V) (h : Rp K H v d) : Rp K H' v d :=
  Rp.rec (motive_1 := fun v d _ => Rp K H' v d) (motive_2 := fun v d _ => RpAll K H' v d) (motive_3 := fun v d _ => RpKV K H' v d)
    .non .bl .int .str (fun h _ ih => .lst (e _ _ h) ih) (fun h _ ih => .tup (ex_t e h) ih) (fun h => .scr (ex_l e h)) (fun h _ ih => .dic (e _ _ h) ih) .nil (fun _ _ a b => .cons a b) .nil (fun _ _ a b => .cons a b) h
theorem RpAll.mono (e : Ex H H') (d : List PyData) (v : List V) (h : RpAll K H v d) : RpAll K H' v d :=
  RpAll.rec (motive_1 := fun v d _ => Rp K H' v d) (motive_2 := fun v d _ => RpAll K H' v d) (motive_3 := fun v d _ => RpKV K H' v d)
    .non .bl .int .str (fun h _ ih => .lst (e _ _ h) ih) (fun h _ ih => .tup (ex_t e h) ih) (fun h => .scr (ex_l e h)) (fun h _ ih => .dic (e _ _ h) ih) .nil (fun _ _ a b => .cons a b) .nil (fun _ _ a b => .cons a b) h
theorem RpKV.mono (e : Ex H H') (d : List (PyData × PyData)) (v : List (Key × V)) (h : RpKV K H v d) : RpKV K H' v d :=
  RpKV.rec (motive_1 := fun v d _ => Rp K H' v d) (motive_2 := fun v d _ => RpAll K H' v d) (motive_3 := fun v d _ => RpKV K H' v d)
    .non .bl .int .str (fun h _ ih => .lst (e _ _ h) ih) (fun h _ ih => .tup (ex_t e h) ih) (fun h => .scr (ex_l e h)) (fun h _ ih => .dic (e _ _ h) ih) .nil (fun _ _ a b => .cons a b) .nil (fun _ _ a b => .cons a b) h
theorem Rp.dp (d : PyData) (v : V) (c : PyData.canLay0 d = true) (h : Rp K H v d) : Dp K H v d :=
  Rp.rec (motive_1 := fun v d _ => PyData.canLay0 d = true → Dp K H v d) (motive_2 := fun v d _ => PyData.canLayAll0 d = true → DpAll K H v d) (motive_3 := fun v d _ => True)
    (fun _ => .non) (fun b _ => .bl b) (fun i _ => .int i) (fun x _ => .str x) (fun h _ ih c => .lst (sq_of h) (ih (by simpa [PyData.canLay0] using c))) (fun h _ ih c => .tup h (ih (by simpa [PyData.canLay0] using c))) (fun _ c => by simp [PyData.canLay0] at c) (fun _ _ _ c => by simp [PyData.canLay0] at c)
    (fun _ => .nil) (fun _ _ a b c => .cons (a (by simp [PyData.canLayAll0] at c; exact c.1)) (b (by simp [PyData.canLayAll0] at c; exact c.2))) trivial (fun _ _ _ _ => trivial) h c
theorem RpAll.dp (d : List PyData) (v : List V) (c : PyData.canLayAll0 d = true) (h : RpAll K H v d) : DpAll K H v d :=
  RpAll.rec (motive_1 := fun v d _ => PyData.canLay0 d = true → Dp K H v d) (motive_2 := fun v d _ => PyData.canLayAll0 d = true → DpAll K H v d) (motive_3 := fun v d _ => True)
    (fun _ => .non) (fun b _ => .bl b) (fun i _ => .int i) (fun x _ => .str x) (fun h _ ih c => .lst (sq_of h) (ih (by simpa [PyData.canLay0] using c))) (fun h _ ih c => .tup h (ih (by simpa [PyData.canLay0] using c))) (fun _ c => by simp [PyData.canLay0] at c) (fun _ _ _ c => by simp [PyData.canLay0] at c)
    (fun _ => .nil) (fun _ _ a b c => .cons (a (by simp [PyData.canLayAll0] at c; exact c.1)) (b (by simp [PyData.canLayAll0] at c; exact c.2))) trivial (fun _ _ _ _ => trivial) h c
end
section
variable {K : PySem.W.Frag} {H H' : Hp}
theorem RpAll.len : ∀ {vs : List V} {ds : List PyData}, RpAll K H vs ds → vs.length = ds.length
  | _, [], h => by cases h; rfl
  | _, d :: ds, h => by
    cases h with
    | cons h1 h2 => rw [List.length_cons, List.length_cons, RpAll.len h2]
theorem RpAll.get : ∀ {vs : List V} {ds : List PyData}, RpAll K H vs ds → ∀ (i : Nat) (d : PyData), ds[i]? = some d → ∃ v, vs[i]? = some v ∧ Rp K H v d
  | _, [], h, i, d, e => by simp at e
  | _, d0 :: ds, h, i, d, e => by
    cases h with
    | cons h1 h2 =>
      cases i with
      | zero =>
        simp at e
        subst e
        exact ⟨_, rfl, h1⟩
      | succ n =>
        have e' : ds[n]? = some d := by simpa using e
        obtain ⟨v, ev, hv⟩ := RpAll.get h2 n d e'
        exact ⟨v, by simpa using ev, hv⟩
theorem RpAll.getV : ∀ {vs : List V} {ds : List PyData}, RpAll K H vs ds → ∀ (i : Nat) (v : V), vs[i]? = some v → ∃ d, ds[i]? = some d ∧ Rp K H v d
  | _, [], h, i, d, e => by cases h; simp at e
  | _, d0 :: ds, h, i, d, e => by
    cases h with
    | cons h1 h2 =>
      cases i with
      | zero =>
        simp at e
        subst e
        exact ⟨_, rfl, h1⟩
      | succ n =>
        obtain ⟨v, ev, hv⟩ := RpAll.getV h2 n d (by simpa using e)
        exact ⟨v, by simpa using ev, hv⟩
theorem RpAll.app : ∀ {vs : List V} {ds : List PyData} {vs' : List V} {ds' : List PyData}, RpAll K H vs ds → RpAll K H vs' ds' → RpAll K H (vs ++ vs') (ds ++ ds')
  | _, [], _, _, h, h' => by cases h; exact h'
  | _, d :: ds, _, _, h, h' => by
    cases h with
    | cons h1 h2 => exact .cons h1 (RpAll.app h2 h')
theorem RpAll.take : ∀ {vs : List V} {ds : List PyData} (n : Nat), RpAll K H vs ds → RpAll K H (vs.take n) (ds.take n)
  | _, _, 0, h => by
    rw [List.take_zero, List.take_zero]
    exact .nil
  | _, [], n + 1, h => by
    cases h
    exact .nil
  | _, d :: ds, n + 1, h => by
    cases h with
    | cons h1 h2 => exact .cons h1 (RpAll.take n h2)
theorem RpAll.drop : ∀ {vs : List V} {ds : List PyData} (n : Nat), RpAll K H vs ds → RpAll K H (vs.drop n) (ds.drop n)
  | _, _, 0, h => h
  | _, [], n + 1, h => by
    cases h
    exact .nil
  | _, d :: ds, n + 1, h => by
    cases h with
    | cons h1 h2 => exact RpAll.drop n h2
theorem RpAll.set : ∀ {vs : List V} {ds : List PyData} (n : Nat) {v : V} {d : PyData}, RpAll K H vs ds → Rp K H v d → RpAll K H (vs.set n v) (ds.set n d)
  | _, [], n, _, _, h, _ => by
    cases h
    exact .nil
  | _, d :: ds, 0, _, _, h, h' => by
    cases h with
    | cons h1 h2 => exact .cons h' h2
  | _, d :: ds, n + 1, _, _, h, h' => by
    cases h with
    | cons h1 h2 => exact .cons h1 (RpAll.set n h2 h')
theorem RpAll.ints : ∀ {vs : List V} {ns : List Int}, RpAll K H vs (ns.map PyData.int) → vs = ns.map V.int
  | _, [], h => by cases h; rfl
  | _, n :: ns, h => by
    cases h with
    | cons h1 h2 =>
      cases h1
      rw [RpAll.ints h2]
      rfl
theorem RpAll.of_ints : ∀ (ns : List Int), RpAll K H (ns.map V.int) (ns.map PyData.int)
  | [] => .nil
  | n :: ns => .cons (.int n) (RpAll.of_ints ns)
theorem RpAll.bls : ∀ {vs : List V} {ns : List Bool}, RpAll K H vs (ns.map PyData.bool) → vs = ns.map V.bl
  | _, [], h => by cases h; rfl
  | _, n :: ns, h => by
    cases h with
    | cons h1 h2 =>
      cases h1
      rw [RpAll.bls h2]
      rfl
theorem RpAll.strs : ∀ {vs : List V} {ns : List Str}, RpAll K H vs (ns.map PyData.str) → vs = ns.map V.str
  | _, [], h => by cases h; rfl
  | _, n :: ns, h => by
    cases h with
    | cons h1 h2 =>
      cases h1
      rw [RpAll.strs h2]
      rfl
theorem RpAll.of_strs : ∀ (ns : List Str), RpAll K H (ns.map V.str) (ns.map PyData.str)
  | [] => .nil
  | n :: ns => .cons (.str n) (RpAll.of_strs ns)
end

/-! ### hidden addresses -/
def Msk (S : List Addr) (H : Hp) : Hp := fun a => if a ∈ S then none else H a
section
variable {S T : List Addr} {H H' : Hp}
theorem msk_in {a : Addr} (h : a ∈ S) : Msk S H a = none := by unfold Msk; rw [if_pos h]
theorem msk_out {a : Addr} (h : ¬ a ∈ S) : Msk S H a = H a := by unfold Msk; rw [if_neg h]
theorem msk_some {a : Addr} {o : HO} (h : Msk S H a = some o) : ¬ a ∈ S ∧ H a = some o := by
  by_cases hs : a ∈ S
  · rw [msk_in hs] at h; cases h
  · rw [msk_out hs] at h; exact ⟨hs, h⟩
theorem msk_le : Ex (Msk S H) H := fun _ _ h => (msk_some h).2
theorem msk_sub (h : ∀ a, a ∈ S → a ∈ T) : Ex (Msk T H) (Msk S H) := fun a o e => by
  obtain ⟨h1, h2⟩ := msk_some e
  rw [msk_out (fun q => h1 (h a q))]
  exact h2
theorem msk_ex (h : Ex (Msk S H) (Msk S H')) (hs : ∀ a, a ∈ S → a ∈ T) : Ex (Msk T H) (Msk T H') := fun a o e => by
  obtain ⟨h1, h2⟩ := msk_some e
  have q : Msk S H a = some o := by rw [msk_out (fun z => h1 (hs a z))]; exact h2
  rw [msk_out h1]
  exact (msk_some (h a o q)).2
theorem ex_msk (h : Ex H H') : Ex (Msk S H) (Msk S H') := fun a o e => by
  obtain ⟨h1, h2⟩ := msk_some e
  rw [msk_out h1]
  exact h a o h2
theorem msk_upd {l : Addr} {o : HO} (h : l ∈ S) : Msk S (upd H l o) = Msk S H := by
  funext a
  by_cases ha : a ∈ S
  · rw [msk_in ha, msk_in ha]
  · rw [msk_out ha, msk_out ha, upd_ne (fun e => ha (by rw [e]; exact h))]
end

/-! ### what a def's names stand for -/
inductive EV
  | un
  | dat (d : PyData)
  | own (ds : List PyData)
  | bag (ds : List PyData)
  | odc (ds : List (PyData × PyData))
abbrev En := List EV
structure Fm where
  B : List Addr
  M : List Addr
def SlotR (K : PySem.W.Frag) (F : Fm) (L : List Addr) (H : Hp) (o : Option (Option V)) : EV → Prop
  | .un => True
  | .dat d => ∃ v, o = some (some v) ∧ Rp K (Msk (F.B ++ L) H) v d
  | .own ds => ∃ l vs, o = some (some (.ref l)) ∧ l ∈ L ∧ H l = some (.lst vs) ∧ RpAll K (Msk (F.B ++ L) H) vs ds
  | .bag ds => ∃ l vs, o = some (some (.ref l)) ∧ l ∈ F.M ∧ H l = some (.lst vs) ∧ RpAll K (Msk (F.B ++ L) H) vs ds
  | .odc ds => ∃ l ks, o = some (some (.ref l)) ∧ l ∈ L ∧ H l = some (.dK ks) ∧ RpKV K (Msk (F.B ++ L) H) ks ds
def EV.mine : EV → Bool
  | .own _ => true
  | .bag _ => true
  | .odc _ => true
  | _ => false
structure EnvR (K : PySem.W.Frag) (F : Fm) (L : List Addr) (σ : St) (H : Hp) (δ : En) : Prop where
  len : σ.length = δ.length
  at_ : ∀ (i : Nat) (e : EV), δ[i]? = some e → SlotR K F L H σ[i]? e
  dis : ∀ (i j : Nat) (l : Addr) (e e' : EV), i ≠ j → δ[i]? = some e → δ[j]? = some e' → e.mine = true → e'.mine = true → σ[i]? = some (some (.ref l)) → σ[j]? = some (some (.ref l)) → False
  al : ∀ a, a ∈ F.B ++ L → H a ≠ none
  mb : ∀ a, a ∈ F.M → a ∈ F.B
  lb : ∀ a, a ∈ L → ¬ a ∈ F.B
/-- only what is this def's own has changed -/
def Stp (F : Fm) (L : List Addr) (H H' : Hp) : Prop := Ex (Msk (F.M ++ L) H) (Msk (F.M ++ L) H')
section
variable {K : PySem.W.Frag} {F : Fm} {L L' : List Addr} {σ : St} {H H' H2 : Hp} {δ δ' : En}
theorem Stp.refl : Stp F L H H := Ex.refl _
theorem Stp.trans (a : Stp F L H H') (b : Stp F L H' H2) : Stp F L H H2 := Ex.trans a b
theorem Stp.of_ex (h : Ex H H') : Stp F L H H' := ex_msk h
theorem EnvR.sub (R : EnvR K F L σ H δ) : ∀ a, a ∈ F.M ++ L → a ∈ F.B ++ L := fun a h => by
  rcases List.mem_append.mp h with h | h
  · exact List.mem_append.mpr (.inl (R.mb a h))
  · exact List.mem_append.mpr (.inr h)
/-- data goes on standing -/
theorem Stp.dat (s : Stp F L H H') (hs : ∀ a, a ∈ F.M ++ L → a ∈ F.B ++ L) {v : V} {d : PyData} (h : Rp K (Msk (F.B ++ L) H) v d) : Rp K (Msk (F.B ++ L) H') v d := Rp.mono (msk_ex s hs) d v h
theorem Stp.kvs (s : Stp F L H H') (hs : ∀ a, a ∈ F.M ++ L → a ∈ F.B ++ L) {v : List (Key × V)} {d : List (PyData × PyData)} (h : RpKV K (Msk (F.B ++ L) H) v d) : RpKV K (Msk (F.B ++ L) H') v d := RpKV.mono (msk_ex s hs) d v h
theorem Stp.all (s : Stp F L H H') (hs : ∀ a, a ∈ F.M ++ L → a ∈ F.B ++ L) {v : List V} {d : List PyData} (h : RpAll K (Msk (F.B ++ L) H) v d) : RpAll K (Msk (F.B ++ L) H') v d := RpAll.mono (msk_ex s hs) d v h
/-- all stands, more is there -/
theorem SlotR.mono {o : Option (Option V)} {e : EV} (x : Ex H H') (h : SlotR K F L H o e) : SlotR K F L H' o e := by
  cases e with
  | un => trivial
  | dat d =>
    obtain ⟨v, h1, h2⟩ := h
    exact ⟨v, h1, Rp.mono (ex_msk x) d v h2⟩
  | own ds =>
    obtain ⟨l, vs, h1, h2, h3, h4⟩ := h
    exact ⟨l, vs, h1, h2, x _ _ h3, RpAll.mono (ex_msk x) ds vs h4⟩
  | bag ds =>
    obtain ⟨l, vs, h1, h2, h3, h4⟩ := h
    exact ⟨l, vs, h1, h2, x _ _ h3, RpAll.mono (ex_msk x) ds vs h4⟩
  | odc ds =>
    obtain ⟨l, vs, h1, h2, h3, h4⟩ := h
    exact ⟨l, vs, h1, h2, x _ _ h3, RpKV.mono (ex_msk x) ds vs h4⟩
theorem ex_live (x : Ex H H') {a : Addr} (h : H a ≠ none) : H' a ≠ none := fun q => by
  cases e : H a with
  | none => exact h e
  | some o =>
    rw [x a o e] at q
    cases q
theorem EnvR.ex (x : Ex H H') (R : EnvR K F L σ H δ) : EnvR K F L σ H' δ := ⟨R.len, fun i e h => (R.at_ i e h).mono x, R.dis, fun a h => ex_live x (R.al a h), R.mb, R.lb⟩
theorem EnvR.fresh (R : EnvR K F L σ H δ) {p : Addr} (h : H p = none) : ¬ p ∈ F.B ++ L := fun q => R.al p q h
/-- a new object is data -/
theorem new_tup (hp : ¬ p ∈ S) {vs : List V} {ds : List PyData} (h : RpAll K (Msk S H) vs ds) (hn : H p = none) : Rp K (Msk S (upd H p (.tup vs))) (.ref p) (.tuple ds) := by
  refine .tup (st_of ?_) (RpAll.mono (ex_msk (Ex.new hn)) ds vs h)
  rw [msk_out hp]
  exact upd_same
theorem new_lst (hp : ¬ p ∈ S) {vs : List V} {ds : List PyData} (h : RpAll K (Msk S H) vs ds) (hn : H p = none) : Rp K (Msk S (upd H p (.lst vs))) (.ref p) (.list ds) := by
  refine .lst ?_ (RpAll.mono (ex_msk (Ex.new hn)) ds vs h)
  rw [msk_out hp]
  exact upd_same
end

section
variable {K : PySem.W.Frag}
theorem msk_congr {S T : List Addr} {H : Hp} (h : ∀ a, a ∈ S ↔ a ∈ T) : Msk S H = Msk T H := by
  funext a
  unfold Msk
  by_cases ha : a ∈ S
  · rw [if_pos ha, if_pos ((h a).mp ha)]
  · rw [if_neg ha, if_neg (fun z => ha ((h a).mpr z))]
/-- one more hidden object -/
abbrev Fm.hide (F : Fm) (D : Addr) : Fm := ⟨D :: F.B, F.M⟩
theorem hide_ex {S : List Addr} {H H' : Hp} (xH : Ex H H') {D : Addr} (hD : H D = none) : Ex (Msk S H) (Msk (D :: S) H') := fun a u e => by
  obtain ⟨h1, h2⟩ := msk_some e
  have ne : a ≠ D := ne_of_none h2 hD
  rw [msk_out (fun z => by
    rcases List.mem_cons.mp z with z | z
    · exact ne z
    · exact h1 z)]
  exact xH a u h2
theorem EnvR.hideX {F : Fm} {L : List Addr} {σ : St} {H H' : Hp} {δ : En} (R : EnvR K F L σ H δ) (xH : Ex H H') {D : Addr} (hD : H D = none) (hD' : H' D ≠ none) : EnvR K (F.hide D) L σ H' δ := by
  have x : Ex (Msk (F.B ++ L) H) (Msk ((F.hide D).B ++ L) H') := hide_ex xH hD
  refine ⟨R.len, fun i e h => ?_, R.dis, fun a ha => ?_, fun a ha => List.mem_cons_of_mem _ (R.mb a ha), fun a ha => ?_⟩
  · have := R.at_ i e h
    cases e with
    | un => trivial
    | dat d =>
      obtain ⟨v, h1, h2⟩ := this
      exact ⟨v, h1, Rp.mono x d v h2⟩
    | own ds =>
      obtain ⟨l, vs, h1, h2, h3, h4⟩ := this
      exact ⟨l, vs, h1, h2, xH _ _ h3, RpAll.mono x ds vs h4⟩
    | bag ds =>
      obtain ⟨l, vs, h1, h2, h3, h4⟩ := this
      exact ⟨l, vs, h1, h2, xH _ _ h3, RpAll.mono x ds vs h4⟩
    | odc ds =>
      obtain ⟨l, vs, h1, h2, h3, h4⟩ := this
      exact ⟨l, vs, h1, h2, xH _ _ h3, RpKV.mono x ds vs h4⟩
  · rcases List.mem_cons.mp ha with z | z
    · subst z
      exact hD'
    · exact ex_live xH (R.al a z)
  · intro z
    rcases List.mem_cons.mp z with z | z
    · subst z
      exact R.fresh hD (List.mem_append.mpr (.inr ha))
    · exact R.lb a ha z
theorem EnvR.hide {F : Fm} {L : List Addr} {σ : St} {H : Hp} {δ : En} (R : EnvR K F L σ H δ) {D : Addr} (hD : H D = none) (o : HO) : EnvR K (F.hide D) L σ (upd H D o) δ := R.hideX (Ex.new hD) hD (by rw [upd_same]; exact fun q => nomatch q)
theorem EnvR.show {F : Fm} {L : List Addr} {σ : St} {H : Hp} {δ : En} {D : Addr} (R : EnvR K (F.hide D) L σ H δ) (mb : ∀ a, a ∈ F.M → a ∈ F.B) : EnvR K F L σ H δ := by
  have x : Ex (Msk ((F.hide D).B ++ L) H) (Msk (F.B ++ L) H) := msk_sub fun a h => List.mem_cons_of_mem _ h
  refine ⟨R.len, fun i e h => ?_, R.dis, fun a ha => R.al a (List.mem_cons_of_mem _ ha), mb, fun a ha z => R.lb a ha (List.mem_cons_of_mem _ z)⟩
  have := R.at_ i e h
  cases e with
  | un => trivial
  | dat d =>
    obtain ⟨v, h1, h2⟩ := this
    exact ⟨v, h1, Rp.mono x d v h2⟩
  | own ds =>
    obtain ⟨l, vs, h1, h2, h3, h4⟩ := this
    exact ⟨l, vs, h1, h2, h3, RpAll.mono x ds vs h4⟩
  | bag ds =>
    obtain ⟨l, vs, h1, h2, h3, h4⟩ := this
    exact ⟨l, vs, h1, h2, h3, RpAll.mono x ds vs h4⟩
  | odc ds =>
    obtain ⟨l, vs, h1, h2, h3, h4⟩ := this
    exact ⟨l, vs, h1, h2, h3, RpKV.mono x ds vs h4⟩
end
/-! ### judgements -/
abbrev FE := En → Option (PyData × En)
abbrev FL := En → Option (List PyData × En)
abbrev FT := En → Option (Bool × En)
abbrev FO := En → Option (Option Int × En)
inductive Out
  | nx (δ : En) | rt (d : PyData) (δ : En) | rl (ds : List PyData) (δ : En) | bk (δ : En) | ct (δ : En)
abbrev FS := En → Option Out

def WE (K : PySem.W.Frag) (te : TE) (φ : FE) : Prop := ∀ (F : Fm) (L : List Addr) (σ : St) (H : Hp) (δ : En) (d : PyData) (δ' : En), φ δ = some (d, δ') → EnvR K F L σ H δ → ∀ Q : VK,
  (∀ v H2, Stp F L H H2 → EnvR K F L σ H2 δ' → Rp K (Msk (F.B ++ L) H2) v d → Q v H2) → te σ H Q
/-- data, or a list of one's own that is read on the spot -/
def Bo (K : PySem.W.Frag) (S : List Addr) (H : Hp) (v : V) (d : PyData) : Prop := Rp K (Msk S H) v d ∨ ∃ a vs ds, v = .ref a ∧ d = .list ds ∧ H a = some (.lst vs) ∧ RpAll K (Msk S H) vs ds
def WB (K : PySem.W.Frag) (te : TE) (φ : FE) : Prop := ∀ (F : Fm) (L : List Addr) (σ : St) (H : Hp) (δ : En) (d : PyData) (δ' : En), φ δ = some (d, δ') → EnvR K F L σ H δ → ∀ Q : VK,
  (∀ v H2, Stp F L H H2 → EnvR K F L σ H2 δ' → Bo K (F.B ++ L) H2 v d → Q v H2) → te σ H Q
/-- a new list -/
def WL (K : PySem.W.Frag) (te : TE) (φ : FL) : Prop := ∀ (F : Fm) (L : List Addr) (σ : St) (H : Hp) (δ : En) (ds : List PyData) (δ' : En), φ δ = some (ds, δ') → EnvR K F L σ H δ → ∀ Q : VK,
  (∀ p vs H2, H p = none → Stp F L H H2 → EnvR K (F.hide p) L σ H2 δ' → H2 p = some (.lst vs) → RpAll K (Msk ((F.hide p).B ++ L) H2) vs ds → Q (.ref p) H2) → te σ H Q
def WT (K : PySem.W.Frag) (tt : TT) (φ : FT) : Prop := ∀ (F : Fm) (L : List Addr) (σ : St) (H : Hp) (δ : En) (b : Bool) (δ' : En), φ δ = some (b, δ') → EnvR K F L σ H δ → ∀ Q : Bool → Hp → Prop,
  (∀ H2, Stp F L H H2 → EnvR K F L σ H2 δ' → Q b H2) → tt σ H Q
def WA (K : PySem.W.Frag) (ta : TA) (φ : FL) : Prop := ∀ (F : Fm) (L : List Addr) (σ : St) (H : Hp) (δ : En) (ds : List PyData) (δ' : En), φ δ = some (ds, δ') → EnvR K F L σ H δ → ∀ Q : List V → Hp → Prop,
  (∀ vs H2, Stp F L H H2 → EnvR K F L σ H2 δ' → RpAll K (Msk (F.B ++ L) H2) vs ds → Q vs H2) → ta σ H Q
def WO (K : PySem.W.Frag) (to : TO) (φ : FO) : Prop := ∀ (F : Fm) (L : List Addr) (σ : St) (H : Hp) (δ : En) (o : Option Int) (δ' : En), φ δ = some (o, δ') → EnvR K F L σ H δ → ∀ Q : Option Int → Hp → Prop,
  (∀ H2, Stp F L H H2 → EnvR K F L σ H2 δ' → Q o H2) → to σ H Q
structure StpS (F : Fm) (L : List Addr) (H : Hp) (L' : List Addr) (H' : Hp) : Prop where
  ex : Ex (Msk (F.M ++ L) H) (Msk (F.M ++ L) H')
  nw : ∀ a, a ∈ L' → a ∈ L ∨ H a = none
  kp : ∀ a, H a ≠ none → H' a ≠ none
/-- ws: the slots that may be stored -/
def Ok (K : PySem.W.Frag) (F : Fm) (L : List Addr) (σ : St) (ws : List Nat) (H : Hp) (D : Ends) : Out → Prop
  | .nx δ' => ∀ L' σ' H', StpS F L H L' H' → EnvR K F L' σ' H' δ' → (∀ j, ¬ j ∈ ws → σ'[j]? = σ[j]?) → D.nx σ' H'
  | .bk δ' => ∀ L' σ' H', StpS F L H L' H' → EnvR K F L' σ' H' δ' → (∀ j, ¬ j ∈ ws → σ'[j]? = σ[j]?) → D.bk σ' H'
  | .ct δ' => ∀ L' σ' H', StpS F L H L' H' → EnvR K F L' σ' H' δ' → (∀ j, ¬ j ∈ ws → σ'[j]? = σ[j]?) → D.ct σ' H'
  | .rt d δ' => ∀ L' σ' H' v, StpS F L H L' H' → EnvR K F L' σ' H' δ' → Rp K (Msk (F.B ++ L') H') v d → D.rt v H'
  | .rl ds δ' => ∀ L' σ' H' p vs, StpS F L H L' H' → EnvR K F L' σ' H' δ' → (p ∈ L ∨ H p = none) → ¬ p ∈ F.B ++ L' → H' p = some (.lst vs) → RpAll K (Msk (p :: (F.B ++ L')) H') vs ds → D.rt (.ref p) H'
def WS (K : PySem.W.Frag) (ts : TS) (ws : List Nat) (φ : FS) : Prop := ∀ (F : Fm) (L : List Addr) (σ : St) (H : Hp) (δ : En) (o : Out), φ δ = some o → EnvR K F L σ H δ → ∀ D : Ends, Ok K F L σ ws H D o → ts D σ H
end Sm
namespace Sm
open PySem L2 Evl

/-! ### expressions -/
section
variable {K : PySem.W.Frag}
def Fresh (S : List Addr) (H : Hp) : Prop := ∀ p, H p = none → ¬ p ∈ S
theorem EnvR.fr {F : Fm} {L : List Addr} {σ : St} {H : Hp} {δ : En} (R : EnvR K F L σ H δ) : Fresh (F.B ++ L) H := fun _ h => R.fresh h

def fVar (i : Nat) : FE := fun δ => match δ[i]? with
  | some (.dat d) => some (d, δ)
  | _ => none
theorem we_var {i : Nat} : WE K (tVar i) (fVar i) := fun F L σ H δ d δ' e R Q q => by
  unfold fVar at e
  split at e
  · next d0 h =>
    cases e
    obtain ⟨v, h1, h2⟩ := R.at_ i _ h
    exact ⟨v, h1, q v H Stp.refl R h2⟩
  · cases e
def fC (d : PyData) : FE := fun δ => some (d, δ)
theorem we_c {v : V} {d : PyData} (h : ∀ H, Rp K H v d) : WE K (tC v) (fC d) := fun F L σ H δ d δ' e R Q q => by
  cases e
  exact q _ H Stp.refl R (h _)
theorem we_int {i : Int} : WE K (tC (.int i)) (fC (.int i)) := we_c fun _ => .int i
theorem we_str {i : Str} : WE K (tC (.str i)) (fC (.str i)) := we_c fun _ => .str i
theorem we_bl {i : Bool} : WE K (tC (.bl i)) (fC (.bool i)) := we_c fun _ => .bl i
theorem we_non : WE K (tC .non) (fC .none) := we_c fun _ => .non
/-- a module's tuple of ints -/
def KTup (K : PySem.W.Frag) (a : Addr) (vs : List V) : Prop := ∃ (o : Obj) (its : Array Value) (n : Nat), K.lookup a = some o ∧ o.cls = .type "tuple" ∧ o.data = .seq its n ∧ its.size ≤ sizeLine ∧ Vals vs its.toList
theorem we_ktup {a : Addr} {vs : List V} {ds : List PyData} (h : KTup K a vs) (hd : ∀ H, RpAll K H vs ds) : WE K (tC (.ref a)) (fC (.tuple ds)) := we_c fun H => .tup (.inr h) (hd H)

/-- two values -/
def RD (K : PySem.W.Frag) (r : R2) (f : PyData → PyData → Option PyData) : Prop := ∀ (S : List Addr) (H : Hp) (x y : V) (a b d : PyData), f a b = some d → Rp K (Msk S H) x a → Rp K (Msk S H) y b → Fresh S H → ∀ Q : VK,
  (∀ v H2, Ex H H2 → Rp K (Msk S H2) v d → Q v H2) → r x y H Q
def fOp (f : PyData → PyData → Option PyData) (φ ψ : FE) : FE := fun δ => match φ δ with
  | some (x, δ1) => match ψ δ1 with
    | some (y, δ2) => match f x y with
      | some z => some (z, δ2)
      | none => none
    | none => none
  | none => none
theorem fOp_some {f : PyData → PyData → Option PyData} {φ ψ : FE} {δ δ' : En} {d : PyData} (e : fOp f φ ψ δ = some (d, δ')) : ∃ x δ1 y, φ δ = some (x, δ1) ∧ ψ δ1 = some (y, δ') ∧ f x y = some d := by
  unfold fOp at e
  split at e
  · next x δ1 h1 =>
    split at e
    · next y δ2 h2 =>
      split at e
      · next z h3 =>
        cases e
        exact ⟨x, δ1, y, h1, h2, h3⟩
      · cases e
    · cases e
  · cases e
theorem we_op {r : R2} {f : PyData → PyData → Option PyData} {ta tb : TE} {φ ψ : FE} (hr : RD K r f) (ha : WE K ta φ) (hb : WE K tb ψ) : WE K (tOp r ta tb) (fOp f φ ψ) := fun F L σ H δ d δ' e R Q q => by
  obtain ⟨x, δ1, y, e1, e2, e3⟩ := fOp_some e
  refine ha F L σ H δ x δ1 e1 R _ fun v H1 s1 R1 d1 => ?_
  refine hb F L σ H1 δ1 y δ' e2 R1 _ fun w H2 s2 R2 d2 => ?_
  refine hr _ H2 v w x y d e3 (s2.dat R1.sub d1) d2 R2.fr Q fun z H3 x3 d3 => ?_
  exact q z H3 ((s1.trans s2).trans (Stp.of_ex x3)) (R2.ex x3) d3
def orF (f g : PyData → PyData → Option PyData) : PyData → PyData → Option PyData := fun a b => match f a b with
  | some d => some d
  | none => g a b
theorem RD.or {r r' : R2} {f g : PyData → PyData → Option PyData} (h : RD K r f) (h' : RD K r' g) : RD K (fun x y H Q => r x y H Q ∨ r' x y H Q) (orF f g) := fun S H x y a b d e ra rb fr Q q => by
  unfold orF at e
  split at e
  · next z hz =>
    cases e
    exact .inl (h S H x y a b _ hz ra rb fr Q q)
  · exact .inr (h' S H x y a b d e ra rb fr Q q)
def fI0 (h : Int → Int → PyData) : PyData → PyData → Option PyData
  | .int i, .int j => some (h i j)
  | _, _ => none
theorem rd_I0 {g : Int → Int → V} {h : Int → Int → PyData} (hg : ∀ H i j, Rp K H (g i j) (h i j)) : RD K (rI0 g) (fI0 h) := fun S H x y a b d e ra rb fr Q q => by
  cases ra <;> cases rb <;> cases e
  exact ⟨_, _, rfl, rfl, q _ H (Ex.refl H) (hg _ _ _)⟩
def fI (c : Int → Int → Bool) (h : Int → Int → PyData) : PyData → PyData → Option PyData
  | .int i, .int j => if c i j = true then some (h i j) else none
  | _, _ => none
theorem rd_I {C : Int → Int → Prop} {c : Int → Int → Bool} {g : Int → Int → V} {h : Int → Int → PyData} (hc : ∀ i j, c i j = true → C i j) (hg : ∀ H i j, Rp K H (g i j) (h i j)) : RD K (rI C g) (fI c h) := fun S H x y a b d e ra rb fr Q q => by
  cases ra <;> cases rb <;> first | cases e | skip
  next i j =>
    have e' : (if c i j = true then some (h i j) else none) = some d := e
    by_cases z : c i j = true
    · rw [if_pos z] at e'
      cases e'
      exact ⟨_, _, rfl, rfl, hc _ _ z, q _ H (Ex.refl H) (hg _ _ _)⟩
    · rw [if_neg z] at e'
      cases e'
abbrev dAddI := fI0 fun i j => .int (i + j)
abbrev dSub := fI0 fun i j => .int (i - j)
theorem rd_add : RD K (rI0 fun i j => .int (i + j)) dAddI := rd_I0 fun _ _ _ => .int _
theorem rd_sub : RD K (rI0 fun i j => .int (i - j)) dSub := rd_I0 fun _ _ _ => .int _
abbrev dLtI := fI0 fun i j => .bool (decide (i < j))
abbrev dLeI := fI0 fun i j => .bool (decide (i ≤ j))
abbrev dGtI := fI0 fun i j => .bool (decide (j < i))
abbrev dGeI := fI0 fun i j => .bool (decide (j ≤ i))
theorem rd_lt : RD K (rI0 fun i j => .bl (decide (i < j))) dLtI := rd_I0 fun _ _ _ => .bl _
theorem rd_le : RD K (rI0 fun i j => .bl (decide (i ≤ j))) dLeI := rd_I0 fun _ _ _ => .bl _
theorem rd_gt : RD K (rI0 fun i j => .bl (decide (j < i))) dGtI := rd_I0 fun _ _ _ => .bl _
theorem rd_ge : RD K (rI0 fun i j => .bl (decide (j ≤ i))) dGeI := rd_I0 fun _ _ _ => .bl _
def cMulB (i j : Int) : Bool := decide (i.natAbs.log2 + j.natAbs.log2 < 1000000)
def cDivB (_ j : Int) : Bool := decide (0 < j) && decide (j.natAbs.log2 < 9000)
def cModB (_ j : Int) : Bool := decide (0 < j)
def cPowB (i j : Int) : Bool := decide (0 ≤ j ∧ j ≤ 1000 ∧ i.natAbs < 2 ^ 64)
abbrev dMul := fI cMulB fun i j => .int (i * j)
abbrev dDiv := fI cDivB fun i j => .int (i / j)
abbrev dMod := fI cModB fun i j => .int (i % j)
abbrev dPow := fI cPowB fun i j => .int (i ^ j.toNat)
theorem rd_mul : RD K (rI CMulW fun i j => .int (i * j)) dMul := rd_I (fun i j h => of_decide_eq_true (p := i.natAbs.log2 + j.natAbs.log2 < 1000000) h) fun _ _ _ => .int _
theorem rd_div : RD K (rI CDivW fun i j => .int (i / j)) dDiv := rd_I (fun _ _ h => by
  unfold cDivB at h
  rw [Bool.and_eq_true] at h
  exact ⟨of_decide_eq_true h.1, of_decide_eq_true h.2⟩) fun _ _ _ => .int _
theorem rd_mod : RD K (rI (fun _ j => 0 < j) fun i j => .int (i % j)) dMod := rd_I (fun _ _ h => of_decide_eq_true h) fun _ _ _ => .int _
theorem rd_pow : RD K (rI CPow fun i j => .int (i ^ j.toNat)) dPow := rd_I (fun _ j h => by
  have h' := of_decide_eq_true h
  exact ⟨h'.1, by omega, h'.2.2⟩) fun _ _ _ => .int _
/-- texts -/
def fS0 (h : Str → Str → PyData) : PyData → PyData → Option PyData
  | .str i, .str j => some (h i j)
  | _, _ => none
theorem rd_ltS : RD K (fun x y H Q => ∃ i j, x = .str i ∧ y = .str j ∧ Q (.bl (decide (i.cps.toList < j.cps.toList))) H) (fS0 fun i j => .bool (decide (i.cps.toList < j.cps.toList))) := fun S H x y a b d e ra rb fr Q q => by
  cases ra <;> cases rb <;> cases e
  exact ⟨_, _, rfl, rfl, q _ H (Ex.refl H) (.bl _)⟩
theorem rd_leS : RD K (fun x y H Q => ∃ i j, x = .str i ∧ y = .str j ∧ Q (.bl (!decide (j.cps.toList < i.cps.toList))) H) (fS0 fun i j => .bool (!decide (j.cps.toList < i.cps.toList))) := fun S H x y a b d e ra rb fr Q q => by
  cases ra <;> cases rb <;> cases e
  exact ⟨_, _, rfl, rfl, q _ H (Ex.refl H) (.bl _)⟩
def dCatS : PyData → PyData → Option PyData
  | .str i, .str j => if i.length + j.length ≤ 100000 then some (.str (i ++ j)) else none
  | _, _ => none
theorem rd_catS : RD K (fun x y H Q => ∃ i j, x = .str i ∧ y = .str j ∧ i.length + j.length ≤ sizeLine ∧ Q (.str (i ++ j)) H) dCatS := fun S H x y a b d e ra rb fr Q q => by
  cases ra <;> cases rb <;> first | cases e | skip
  next i j =>
    unfold dCatS at e
    by_cases z : i.length + j.length ≤ 100000
    · simp only [z, if_true] at e
      cases e
      exact ⟨_, _, rfl, rfl, sz_of z, q _ H (Ex.refl H) (.str _)⟩
    · simp only [z, if_false] at e
      cases e
def dCatL : PyData → PyData → Option PyData
  | .list xs, .list ys => if xs.length + ys.length ≤ 100000 then some (.list (xs ++ ys)) else none
  | _, _ => none
theorem rd_catL : RD K rCat dCatL := fun S H x y a b d e ra rb fr Q q => by
  cases ra <;> cases rb <;> first | cases e | skip
  next l vs ds h1 r1 l' vs' ds' h2 r2 =>
    unfold dCatL at e
    by_cases z : ds.length + ds'.length ≤ 100000
    · simp only [z, if_true] at e
      cases e
      refine ⟨l, l', vs, vs', rfl, rfl, (msk_some h1).2, (msk_some h2).2, sz_of (by rw [r1.len, r2.len]; exact z), fun p hp => ?_⟩
      exact q _ _ (Ex.new hp) (new_lst (fr p hp) (r1.app r2) hp)
    · simp only [z, if_false] at e
      cases e
def dCatT : PyData → PyData → Option PyData
  | .tuple xs, .tuple ys => if xs.length + ys.length ≤ 100000 then some (.tuple (xs ++ ys)) else none
  | _, _ => none
theorem rd_catT : RD K (rCatA K) dCatT := fun S H x y a b d e ra rb fr Q q => by
  cases ra <;> cases rb <;> first | cases e | skip
  next l vs ds h1 r1 l' vs' ds' h2 r2 =>
    unfold dCatT at e
    by_cases z : ds.length + ds'.length ≤ 100000
    · simp only [z, if_true] at e
      cases e
      refine ⟨l, l', vs, vs', rfl, rfl, ex_t msk_le h1, ex_t msk_le h2, sz_of (by rw [r1.len, r2.len]; exact z), ?_, ?_, ?_⟩
      · intro e0
        subst e0
        cases r1
        exact q _ H (Ex.refl H) (.tup h2 r2)
      · intro _ e0
        subst e0
        cases r2
        rw [List.append_nil] at q
        exact q _ H (Ex.refl H) (.tup h1 r1)
      · intro _ _ p hp
        exact q _ _ (Ex.new hp) (new_tup (fr p hp) (r1.app r2) hp)
    · simp only [z, if_false] at e
      cases e
/-- + of all kinds -/
abbrev rAddA (K : PySem.W.Frag) : R2 := fun x y H Q => rI0 (fun i j => .int (i + j)) x y H Q ∨ ((∃ i j, x = .str i ∧ y = .str j ∧ i.length + j.length ≤ sizeLine ∧ Q (.str (i ++ j)) H) ∨ (rCat x y H Q ∨ rCatA K x y H Q))
abbrev dAdd := orF dAddI (orF dCatS (orF dCatL dCatT))
theorem op_addA {X : Cx} : OpR X (binaryOp .Add) (rAddA X.K) := op_add.or (op_add_str.or (op_cat.or op_catA))
theorem rd_addA : RD K (rAddA K) dAdd := rd_add.or (rd_catS.or (rd_catL.or rd_catT))
abbrev rLtA : R2 := fun x y H Q => rI0 (fun i j => .bl (decide (i < j))) x y H Q ∨ (∃ i j, x = .str i ∧ y = .str j ∧ Q (.bl (decide (i.cps.toList < j.cps.toList))) H)
abbrev dLt := orF dLtI (fS0 fun i j => .bool (decide (i.cps.toList < j.cps.toList)))
theorem op_ltA {X : Cx} : OpR X (compareOp .Lt) rLtA := op_lt.or op_lt_str
theorem rd_ltA : RD K rLtA dLt := rd_lt.or rd_ltS
abbrev rLeA : R2 := fun x y H Q => rI0 (fun i j => .bl (decide (i ≤ j))) x y H Q ∨ (∃ i j, x = .str i ∧ y = .str j ∧ Q (.bl (!decide (j.cps.toList < i.cps.toList))) H)
abbrev dLe := orF dLeI (fS0 fun i j => .bool (!decide (j.cps.toList < i.cps.toList)))
theorem op_leA {X : Cx} : OpR X (compareOp .LtE) rLeA := op_le.or op_le_str
theorem rd_leA : RD K rLeA dLe := rd_le.or rd_leS
/-- == -/
def scD : PyData → PyData → Option Bool
  | .int i, .int j => some (decide (i = j))
  | .bool i, .bool j => some (decide (i = j))
  | .str i, .str j => some (decide (i = j))
  | .none, .none => some true
  | _, _ => none
def dEqS (a b : PyData) : Option PyData := (scD a b).map .bool
def dNeS (a b : PyData) : Option PyData := (scD a b).map fun x => .bool (!x)
theorem rd_eqS : RD K rEq dEqS := fun S H x y a b d e ra rb fr Q q => by
  cases ra <;> cases rb <;> first | (cases e; done) | skip
  all_goals (cases e; refine ⟨rfl, ?_⟩)
  · exact q _ H (Ex.refl H) (.bl _)
  · rw [show ∀ i j : Bool, decide (V.bl i = V.bl j) = decide (i = j) from fun i j => by rw [Bool.eq_iff_iff]; simp]
    exact q _ H (Ex.refl H) (.bl _)
  · rw [show ∀ i j : Int, decide (V.int i = V.int j) = decide (i = j) from fun i j => by rw [Bool.eq_iff_iff]; simp]
    exact q _ H (Ex.refl H) (.bl _)
  · rw [show ∀ i j : Str, decide (V.str i = V.str j) = decide (i = j) from fun i j => by rw [Bool.eq_iff_iff]; simp]
    exact q _ H (Ex.refl H) (.bl _)
theorem rd_neS : RD K rNe dNeS := fun S H x y a b d e ra rb fr Q q => by
  cases ra <;> cases rb <;> first | (cases e; done) | skip
  all_goals (cases e; refine ⟨rfl, ?_⟩)
  · exact q _ H (Ex.refl H) (.bl _)
  · rw [show ∀ i j : Bool, decide (V.bl i = V.bl j) = decide (i = j) from fun i j => by rw [Bool.eq_iff_iff]; simp]
    exact q _ H (Ex.refl H) (.bl _)
  · rw [show ∀ i j : Int, decide (V.int i = V.int j) = decide (i = j) from fun i j => by rw [Bool.eq_iff_iff]; simp]
    exact q _ H (Ex.refl H) (.bl _)
  · rw [show ∀ i j : Str, decide (V.str i = V.str j) = decide (i = j) from fun i j => by rw [Bool.eq_iff_iff]; simp]
    exact q _ H (Ex.refl H) (.bl _)
def dEqD (a b : PyData) : Option PyData := if SeqAt.shaped a = true ∧ SeqAt.shaped b = true then some (.bool (PyData.eqv a b)) else none
def dNeD (a b : PyData) : Option PyData := if SeqAt.shaped a = true ∧ SeqAt.shaped b = true then some (.bool (!PyData.eqv a b)) else none
theorem rd_eqD : RD K (rEqD K) dEqD := fun S H x y a b d e ra rb fr Q q => by
  unfold dEqD at e
  by_cases z : SeqAt.shaped a = true ∧ SeqAt.shaped b = true
  · rw [if_pos z] at e
    cases e
    exact ⟨a, b, Rp.dp a x (SeqAt.canLay_of_shaped z.1) (Rp.mono msk_le a x ra), Rp.dp b y (SeqAt.canLay_of_shaped z.2) (Rp.mono msk_le b y rb), z.1, z.2, q _ H (Ex.refl H) (.bl _)⟩
  · rw [if_neg z] at e
    cases e
theorem rd_neD : RD K (rNeD K) dNeD := fun S H x y a b d e ra rb fr Q q => by
  unfold dNeD at e
  by_cases z : SeqAt.shaped a = true ∧ SeqAt.shaped b = true
  · rw [if_pos z] at e
    cases e
    exact ⟨a, b, Rp.dp a x (SeqAt.canLay_of_shaped z.1) (Rp.mono msk_le a x ra), Rp.dp b y (SeqAt.canLay_of_shaped z.2) (Rp.mono msk_le b y rb), z.1, z.2, q _ H (Ex.refl H) (.bl _)⟩
  · rw [if_neg z] at e
    cases e
abbrev rEqA (K : PySem.W.Frag) : R2 := fun x y H Q => rEq x y H Q ∨ rEqD K x y H Q
abbrev rNeA (K : PySem.W.Frag) : R2 := fun x y H Q => rNe x y H Q ∨ rNeD K x y H Q
abbrev dEq := orF dEqS dEqD
abbrev dNe := orF dNeS dNeD
theorem op_eqA {X : Cx} (hu : X.A.units + 64 < cLine) : OpR X (compareOp .Eq) (rEqA X.K) := op_eq.or (op_eqD hu)
theorem op_neA {X : Cx} (hu : X.A.units + 64 < cLine) : OpR X (compareOp .NotEq) (rNeA X.K) := op_ne.or (op_neD hu)
theorem rd_eqA : RD K (rEqA K) dEq := rd_eqS.or rd_eqD
theorem rd_neA : RD K (rNeA K) dNe := rd_neS.or rd_neD
/-- in, flat -/
def flatD : PyData → Bool
  | .none => true
  | .bool _ => true
  | .int _ => true
  | .str _ => true
  | _ => false
theorem flat_of {S : List Addr} {H : Hp} {v : V} {d : PyData} (h : Rp K (Msk S H) v d) (f : flatD d = true) : flatV v = true := by
  cases h <;> first | rfl | cases f
theorem flat_all {H : Hp} : ∀ {vs : List V} {ds : List PyData}, RpAll K H vs ds → ds.all flatD = true → vs.all flatV = true
  | _, [], h, _ => by cases h; rfl
  | _, d :: ds, h, f => by
    cases h with
    | cons h1 h2 =>
      rw [List.all_cons, Bool.and_eq_true] at f
      rw [List.all_cons, Bool.and_eq_true]
      refine ⟨?_, flat_all h2 f.2⟩
      cases h1 <;> first | rfl | exact absurd f.1 Bool.false_ne_true
theorem eqV_of {H : Hp} {v w : V} {d e : PyData} (h : Rp K H v d) (h' : Rp K H w e) (f : flatD d = true) (f' : flatD e = true) : eqV v w = PyData.eqv d e := by
  cases h <;> cases h' <;> first | rfl | cases f | cases f'
theorem inV_of {H : Hp} {x : V} {c : PyData} (hx : Rp K H x c) (fx : flatD c = true) : ∀ {vs : List V} {ds : List PyData}, RpAll K H vs ds → ds.all flatD = true → inV x vs = ds.any fun d => PyData.eqv d c
  | _, [], h, _ => by cases h; rfl
  | _, d :: ds, h, f => by
    cases h with
    | cons h1 h2 =>
      rw [List.all_cons, Bool.and_eq_true] at f
      show (eqV _ x || inV x _) = (PyData.eqv d c || ds.any fun d => PyData.eqv d c)
      rw [eqV_of h1 hx f.1 fx, inV_of hx fx h2 f.2]
def seqOf : PyData → Option (List PyData)
  | .list ds => some ds
  | .tuple ds => some ds
  | _ => none
def dIn (neg : Bool) (a b : PyData) : Option PyData := match seqOf b with
  | some ds => if flatD a = true ∧ ds.all flatD = true then some (.bool (if neg then !(ds.any fun d => PyData.eqv d a) else ds.any fun d => PyData.eqv d a)) else none
  | none => none
theorem seq_rd {S : List Addr} {H : Hp} {v : V} {d : PyData} {ds : List PyData} (h : Rp K (Msk S H) v d) (e : seqOf d = some ds) : ∃ p vs, v = .ref p ∧ (SqL K H p vs ∨ SqT K H p vs) ∧ RpAll K (Msk S H) vs ds := by
  cases h <;> cases e
  · next l vs h1 r => exact ⟨l, vs, rfl, .inl (sq_of (msk_some h1).2), r⟩
  · next l vs h1 r => exact ⟨l, vs, rfl, .inr (ex_t msk_le h1), r⟩
theorem rd_in {neg : Bool} : RD K (rIn K neg) (dIn neg) := fun S H x y a b d e ra rb fr Q q => by
  unfold dIn at e
  split at e
  · next ds hs =>
    by_cases z : flatD a = true ∧ ds.all flatD = true
    · rw [if_pos z] at e
      cases e
      obtain ⟨p, vs, rfl, h1, h2⟩ := seq_rd rb hs
      refine ⟨p, vs, rfl, h1, flat_of ra z.1, flat_all h2 z.2, ?_⟩
      rw [inV_of ra z.1 h2 z.2]
      exact q _ H (Ex.refl H) (.bl _)
    · rw [if_neg z] at e
      cases e
  · cases e
/-- x[i] -/
def dIx : PyData → PyData → Option PyData
  | .list ds, .int i => atI ds i
  | .tuple ds, .int i => atI ds i
  | .dict ((.none, _) :: kvs), .int i => atI (kvs.map (·.1)) i
  | .str z, .int i => if z.length ≤ 100000 then (atI z.cps.toList i).map fun c => .str ⟨#[c]⟩ else none
  | _, _ => none
theorem atI_of {H : Hp} {vs : List V} {ds : List PyData} (r : RpAll K H vs ds) {i : Int} {d : PyData} (e : atI ds i = some d) : ∃ v, atI vs i = some v ∧ Rp K H v d := by
  unfold atI at e ⊢
  rw [r.len]
  cases h : ixN ds.length i with
  | none =>
    rw [h] at e
    cases e
  | some j =>
    rw [h] at e
    exact r.get j d e
theorem dIx_dic {H : Hp} {ks : List (Key × V)} {ds : List (PyData × PyData)} (h : RpKV K H ks ds) (b : PyData) : dIx (.dict ds) b = none := by
  cases h with
  | nil => cases b <;> rfl
  | @cons k _ _ _ _ _ _ => cases k <;> cases b <;> rfl
theorem rd_ix : RD K (rIx K) dIx := fun S H x y a b d e ra rb fr Q q => by
  cases ra <;> cases rb <;> first | (cases e; done) | skip
  · next z i =>
    unfold dIx at e
    by_cases hz : z.length ≤ 100000
    · simp only [hz, if_true] at e
      cases hc : atI z.cps.toList i with
      | none =>
        rw [hc] at e
        cases e
      | some c =>
        rw [hc] at e
        cases e
        exact .inr (.inr ⟨z, i, c, rfl, rfl, sz_of hz, hc, q _ H (Ex.refl H) (.str _)⟩)
    · simp only [hz, if_false] at e
      cases e
  · next l vs ds h1 r i =>
    obtain ⟨v, hv, rv⟩ := atI_of r e
    exact .inl ⟨l, vs, i, v, rfl, rfl, sq_of (msk_some h1).2, hv, q v H (Ex.refl H) rv⟩
  · next l vs ds h1 r i =>
    obtain ⟨v, hv, rv⟩ := atI_of r e
    exact .inr (.inl ⟨l, vs, i, v, rfl, rfl, ex_t msk_le h1, hv, q v H (Ex.refl H) rv⟩)
  · next l ns h1 i =>
    have e' : atI ((ns.map fun n => (PyData.int n, PyData.none)).map (·.1)) i = some d := e
    rw [List.map_map] at e'
    obtain ⟨v, hv, rv⟩ := atI_of (K := K) (H := Msk S H) (RpAll.of_ints ns) e'
    exact .inl ⟨l, _, i, v, rfl, rfl, ex_l msk_le h1, hv, q v H (Ex.refl H) rv⟩
  all_goals (rw [dIx_dic (by assumption)] at e; cases e)
/-- -x -/
def fUn (f : PyData → Option PyData) (φ : FE) : FE := fun δ => match φ δ with
  | some (x, δ1) => match f x with
    | some z => some (z, δ1)
    | none => none
  | none => none
theorem fUn_some {f : PyData → Option PyData} {φ : FE} {δ δ' : En} {d : PyData} (e : fUn f φ δ = some (d, δ')) : ∃ x, φ δ = some (x, δ') ∧ f x = some d := by
  unfold fUn at e
  split at e
  · next x δ1 h1 =>
    split at e
    · next z h2 =>
      cases e
      exact ⟨x, h1, h2⟩
    · cases e
  · cases e
def dNeg : PyData → Option PyData
  | .int i => some (.int (-i))
  | _ => none
theorem we_neg {ta : TE} {φ : FE} (ha : WE K ta φ) : WE K (tUn (rU fun i => .int (-i)) ta) (fUn dNeg φ) := fun F L σ H δ d δ' e R Q q => by
  obtain ⟨x, e1, e2⟩ := fUn_some e
  refine ha F L σ H δ x δ' e1 R _ fun v H1 s1 R1 d1 => ?_
  cases d1 <;> cases e2
  exact ⟨_, rfl, q _ H1 s1 R1 (.int _)⟩
/-- displays, arguments -/
def fNil : FL := fun δ => some ([], δ)
def fCons (φ : FE) (ψ : FL) : FL := fun δ => match φ δ with
  | some (x, δ1) => match ψ δ1 with
    | some (xs, δ2) => some (x :: xs, δ2)
    | none => none
  | none => none
theorem fCons_some {φ : FE} {ψ : FL} {δ δ' : En} {ds : List PyData} (e : fCons φ ψ δ = some (ds, δ')) : ∃ x δ1 xs, φ δ = some (x, δ1) ∧ ψ δ1 = some (xs, δ') ∧ ds = x :: xs := by
  unfold fCons at e
  split at e
  · next x δ1 h1 =>
    split at e
    · next xs δ2 h2 =>
      cases e
      exact ⟨x, δ1, xs, h1, h2, rfl⟩
    · cases e
  · cases e
theorem wa_nil : WA K tNil fNil := fun F L σ H δ d δ' e R Q q => by
  cases e
  exact q [] H Stp.refl R .nil
theorem wa_cons {ta : TE} {tr : TA} {φ : FE} {ψ : FL} (ha : WE K ta φ) (hr : WA K tr ψ) : WA K (tCons ta tr) (fCons φ ψ) := fun F L σ H δ d δ' e R Q q => by
  obtain ⟨x, δ1, xs, e1, e2, rfl⟩ := fCons_some e
  refine ha F L σ H δ x δ1 e1 R _ fun v H1 s1 R1 d1 => ?_
  refine hr F L σ H1 δ1 xs δ' e2 R1 _ fun vs H2 s2 R2 d2 => ?_
  exact q _ H2 (s1.trans s2) R2 (.cons (s2.dat R1.sub d1) d2)
def fTup (φ : FL) : FE := fun δ => match φ δ with
  | some (xs, δ1) => if xs.length ≤ 100000 then some (.tuple xs, δ1) else none
  | none => none
theorem we_tup {ta : TA} {φ : FL} (ha : WA K ta φ) : WE K (tTup ta) (fTup φ) := fun F L σ H δ d δ' e R Q q => by
  unfold fTup at e
  split at e
  · next xs δ1 h1 =>
    by_cases z : xs.length ≤ 100000
    · rw [if_pos z] at e
      cases e
      refine ha F L σ H δ xs _ h1 R _ fun vs H1 s1 R1 d1 => ⟨sz_of (by rw [d1.len]; exact z), fun p hp => ?_⟩
      exact q _ _ (s1.trans (Stp.of_ex (Ex.new hp))) (R1.ex (Ex.new hp)) (new_tup (R1.fresh hp) d1 hp)
    · rw [if_neg z] at e
      cases e
  · cases e
def fLst (φ : FL) : FL := fun δ => match φ δ with
  | some (xs, δ1) => if xs.length ≤ 100000 then some (xs, δ1) else none
  | none => none
theorem new_live {F : Fm} {L : List Addr} {σ : St} {H H1 : Hp} {δ δ1 : En} (R : EnvR K F L σ H δ) (R1 : EnvR K F L σ H1 δ1) (s : Stp F L H H1) {p : Addr} (hp : H1 p = none) : H p = none := by
  cases h : H p with
  | none => rfl
  | some o =>
    exfalso
    by_cases hm : p ∈ F.M ++ L
    · exact R1.fresh hp (R.sub p hm)
    · have := s p o (by rw [msk_out hm]; exact h)
      rw [msk_out hm, hp] at this
      cases this
theorem wl_lst {ta : TA} {φ : FL} (ha : WA K ta φ) : WL K (tLst ta) (fLst φ) := fun F L σ H δ d δ' e R Q q => by
  unfold fLst at e
  split at e
  · next xs δ1 h1 =>
    by_cases z : xs.length ≤ 100000
    · rw [if_pos z] at e
      cases e
      refine ha F L σ H δ d _ h1 R _ fun vs H1 s1 R1 d1 => ⟨sz_of (by rw [d1.len]; exact z), fun p hp => ?_⟩
      exact q p vs _ (new_live R R1 s1 hp) (s1.trans (Stp.of_ex (Ex.new hp))) (R1.hide hp _) upd_same (RpAll.mono (hide_ex (Ex.new hp) hp) _ _ d1)
    · rw [if_neg z] at e
      cases e
  · cases e
/-- a new list as data -/
def fOfL (φ : FL) : FE := fun δ => match φ δ with
  | some (xs, δ1) => some (.list xs, δ1)
  | none => none
theorem WL.we {te : TE} {φ : FL} (h : WL K te φ) : WE K te (fOfL φ) := fun F L σ H δ d δ' e R Q q => by
  unfold fOfL at e
  split at e
  · next xs δ1 h1 =>
    cases e
    refine h F L σ H δ xs _ h1 R _ fun p vs H2 hp s R2 h2 d2 => ?_
    refine q _ H2 s (R2.show R.mb) (.lst ?_ (RpAll.mono (msk_sub fun a h => List.mem_cons_of_mem _ h) _ _ d2))
    rw [msk_out (R.fresh hp)]
    exact h2
  · cases e
/-- tests, and, or, not, if -/
def fTest (φ : FE) : FT := fun δ => match φ δ with
  | some (.bool b, δ1) => some (b, δ1)
  | _ => none
theorem wt_test {te : TE} {φ : FE} (h : WE K te φ) : WT K (tTest te) (fTest φ) := fun F L σ H δ d δ' e R Q q => by
  unfold fTest at e
  split at e
  · next b δ1 h1 =>
    cases e
    refine h F L σ H δ _ _ h1 R _ fun v H1 s1 R1 d1 => ?_
    cases d1
    exact ⟨_, rfl, q H1 s1 R1⟩
  · cases e
theorem wt_B {te : TE} {φ : FE} (h : WE K te φ) : WT K (tB te) (fTest φ) := wt_test h
def fAnd (φ ψ : FT) : FT := fun δ => match φ δ with
  | some (true, δ1) => ψ δ1
  | some (false, δ1) => some (false, δ1)
  | none => none
def fOr (φ ψ : FT) : FT := fun δ => match φ δ with
  | some (true, δ1) => some (true, δ1)
  | some (false, δ1) => ψ δ1
  | none => none
def fNot (φ : FT) : FT := fun δ => match φ δ with
  | some (b, δ1) => some (!b, δ1)
  | none => none
theorem wt_and {t u : TT} {φ ψ : FT} (h : WT K t φ) (h' : WT K u ψ) : WT K (tAnd t u) (fAnd φ ψ) := fun F L σ H δ d δ' e R Q q => by
  unfold fAnd at e
  split at e
  · next δ1 h1 =>
    refine h F L σ H δ true δ1 h1 R _ fun H1 s1 R1 => ?_
    rw [if_pos rfl]
    exact h' F L σ H1 δ1 d δ' e R1 _ fun H2 s2 R2 => q H2 (s1.trans s2) R2
  · next δ1 h1 =>
    cases e
    refine h F L σ H δ false _ h1 R _ fun H1 s1 R1 => ?_
    rw [if_neg Bool.false_ne_true]
    exact q H1 s1 R1
  · cases e
theorem wt_or {t u : TT} {φ ψ : FT} (h : WT K t φ) (h' : WT K u ψ) : WT K (tOr t u) (fOr φ ψ) := fun F L σ H δ d δ' e R Q q => by
  unfold fOr at e
  split at e
  · next δ1 h1 =>
    cases e
    refine h F L σ H δ true _ h1 R _ fun H1 s1 R1 => ?_
    rw [if_pos rfl]
    exact q H1 s1 R1
  · next δ1 h1 =>
    refine h F L σ H δ false δ1 h1 R _ fun H1 s1 R1 => ?_
    rw [if_neg Bool.false_ne_true]
    exact h' F L σ H1 δ1 d δ' e R1 _ fun H2 s2 R2 => q H2 (s1.trans s2) R2
  · cases e
theorem wt_not {t : TT} {φ : FT} (h : WT K t φ) : WT K (tNot t) (fNot φ) := fun F L σ H δ d δ' e R Q q => by
  unfold fNot at e
  split at e
  · next b δ1 h1 =>
    cases e
    exact h F L σ H δ _ _ h1 R _ fun H1 s1 R1 => q H1 s1 R1
  · cases e
def fBool (φ : FT) : FE := fun δ => match φ δ with
  | some (b, δ1) => some (.bool b, δ1)
  | none => none
theorem we_andV {ta tb : TE} {φ ψ : FE} (h : WE K ta φ) (h' : WE K tb ψ) : WE K (tAndV ta tb) (fBool (fAnd (fTest φ) (fTest ψ))) := fun F L σ H δ d δ' e R Q q => by
  unfold fBool at e
  split at e
  · next b δ1 h1 =>
    cases e
    unfold fAnd at h1
    split at h1
    · next δ2 h2 =>
      unfold fTest at h2
      split at h2
      · next b2 δ3 h3 =>
        cases h2
        refine h F L σ H δ _ _ h3 R _ fun v H1 s1 R1 d1 => ?_
        cases d1
        refine ⟨true, rfl, ?_⟩
        rw [if_pos rfl]
        unfold fTest at h1
        split at h1
        · next b4 δ4 h4 =>
          cases h1
          exact h' F L σ H1 _ _ _ h4 R1 _ fun w H2 s2 R2 d2 => q w H2 (s1.trans s2) R2 d2
        · cases h1
      · cases h2
    · next δ2 h2 =>
      cases h1
      unfold fTest at h2
      split at h2
      · next b2 δ3 h3 =>
        cases h2
        refine h F L σ H δ _ _ h3 R _ fun v H1 s1 R1 d1 => ?_
        cases d1
        refine ⟨false, rfl, ?_⟩
        rw [if_neg Bool.false_ne_true]
        exact q _ H1 s1 R1 (.bl _)
      · cases h2
    · cases h1
  · cases e
theorem we_notV {ta : TE} {φ : FE} (h : WE K ta φ) : WE K (tNotV ta) (fBool (fNot (fTest φ))) := fun F L σ H δ d δ' e R Q q => by
  unfold fBool at e
  split at e
  · next b δ1 h1 =>
    cases e
    unfold fNot at h1
    split at h1
    · next b2 δ2 h2 =>
      cases h1
      unfold fTest at h2
      split at h2
      · next b3 δ3 h3 =>
        cases h2
        refine h F L σ H δ _ _ h3 R _ fun v H1 s1 R1 d1 => ?_
        cases d1
        exact ⟨_, rfl, q _ H1 s1 R1 (.bl _)⟩
      · cases h2
    · cases h1
  · cases e
def fIf (φ : FT) (ψ χ : FE) : FE := fun δ => match φ δ with
  | some (true, δ1) => ψ δ1
  | some (false, δ1) => χ δ1
  | none => none
theorem we_if {t : TT} {ta tb : TE} {φ : FT} {ψ χ : FE} (h : WT K t φ) (h1 : WE K ta ψ) (h2 : WE K tb χ) : WE K (tIf t ta tb) (fIf φ ψ χ) := fun F L σ H δ d δ' e R Q q => by
  unfold fIf at e
  split at e
  · next δ1 e1 =>
    refine h F L σ H δ true δ1 e1 R _ fun H1 s1 R1 => ?_
    rw [if_pos rfl]
    exact h1 F L σ H1 δ1 d δ' e R1 _ fun v H2 s2 R2 d2 => q v H2 (s1.trans s2) R2 d2
  · next δ1 e1 =>
    refine h F L σ H δ false δ1 e1 R _ fun H1 s1 R1 => ?_
    rw [if_neg Bool.false_ne_true]
    exact h2 F L σ H1 δ1 d δ' e R1 _ fun v H2 s2 R2 d2 => q v H2 (s1.trans s2) R2 d2
  · cases e
/-- a < b < c -/
def fChain (f g : PyData → PyData → Option PyData) (φ ψ χ : FE) : FE := fun δ => match φ δ with
  | some (x, δ1) => match ψ δ1 with
    | some (y, δ2) => match f x y with
      | some (.bool true) => match χ δ2 with
        | some (z, δ3) => match g y z with
          | some (.bool b) => some (.bool b, δ3)
          | _ => none
        | none => none
      | some (.bool false) => some (.bool false, δ2)
      | _ => none
    | none => none
  | none => none
theorem we_chain {r r' : R2} {f g : PyData → PyData → Option PyData} {ta tb tc : TE} {φ ψ χ : FE} (hr : RD K r f) (hr' : RD K r' g) (ha : WE K ta φ) (hb : WE K tb ψ) (hc : WE K tc χ) : WE K (tChain r r' ta tb tc) (fChain f g φ ψ χ) := fun F L σ H δ d δ' e R Q q => by
  unfold fChain at e
  split at e
  · next x δ1 e1 =>
    split at e
    · next y δ2 e2 =>
      refine ha F L σ H δ x δ1 e1 R _ fun v H1 s1 R1 d1 => ?_
      refine hb F L σ H1 δ1 y δ2 e2 R1 _ fun w H2 s2 R2 d2 => ?_
      split at e
      · next e3 =>
        refine hr _ H2 v w x y _ e3 (s2.dat R1.sub d1) d2 R2.fr _ fun z H3 x3 d3 => ?_
        cases d3
        refine ⟨true, rfl, ?_⟩
        rw [if_pos rfl]
        split at e
        · next z δ3 e4 =>
          refine hc F L σ H3 δ2 z δ3 e4 (R2.ex x3) _ fun u H4 s4 R4 d4 => ?_
          split at e
          · next b e5 =>
            cases e
            refine hr' _ H4 w u y z _ e5 (s4.dat R1.sub (Rp.mono (ex_msk x3) _ _ d2)) d4 R4.fr _ fun t H5 x5 d5 => ?_
            exact q t H5 ((((s1.trans s2).trans (Stp.of_ex x3)).trans s4).trans (Stp.of_ex x5)) (R4.ex x5) d5
          · cases e
        · cases e
      · next e3 =>
        cases e
        refine hr _ H2 v w x y _ e3 (s2.dat R1.sub d1) d2 R2.fr _ fun z H3 x3 d3 => ?_
        cases d3
        refine ⟨false, rfl, ?_⟩
        rw [if_neg Bool.false_ne_true]
        exact q _ H3 ((s1.trans s2).trans (Stp.of_ex x3)) (R2.ex x3) (.bl _)
      · cases e
    · cases e
  · cases e
end
end Sm
namespace Sm
open PySem L2 Evl

section
variable {K : PySem.W.Frag}
/-! ### built-in calls -/
/-- one argument, that may be a list of one's own -/
def R1 (K : PySem.W.Frag) (r : List V → Hp → VK → Prop) (f : PyData → Option PyData) : Prop := ∀ (S : List Addr) (H : Hp) (x : V) (a d : PyData), f a = some d → Bo K S H x a → Fresh S H → ∀ Q : VK,
  (∀ v H2, Ex H H2 → Rp K (Msk S H2) v d → Q v H2) → r [x] H Q
def R1L (K : PySem.W.Frag) (r : List V → Hp → VK → Prop) (f : PyData → Option (List PyData)) : Prop := ∀ (S : List Addr) (H : Hp) (x : V) (a : PyData) (ds : List PyData), f a = some ds → Bo K S H x a → Fresh S H → ∀ Q : VK,
  (∀ p vs H2, H p = none → Ex H H2 → H2 p = some (.lst vs) → RpAll K (Msk (p :: S) H2) vs ds → Q (.ref p) H2) → r [x] H Q
def R1.or {r r' : List V → Hp → VK → Prop} {f g : PyData → Option PyData} (h : R1 K r f) (h' : R1 K r' g) : R1 K (fun xs H Q => r xs H Q ∨ r' xs H Q) (fun a => match f a with
    | some d => some d
    | none => g a) := fun S H x a d e b fr Q q => by
  dsimp only at e
  split at e
  · next z hz =>
    cases e
    exact .inl (h S H x a _ hz b fr Q q)
  · exact .inr (h' S H x a d e b fr Q q)
theorem WE.wb {te : TE} {φ : FE} (h : WE K te φ) : WB K te φ := fun F L σ H δ d δ' e R Q q => h F L σ H δ d δ' e R Q fun v H2 s R2 d2 => q v H2 s R2 (.inl d2)
def fVarB (i : Nat) : FE := fun δ => match δ[i]? with
  | some (.dat d) => some (d, δ)
  | some (.own ds) => some (.list ds, δ)
  | some (.bag ds) => some (.list ds, δ)
  | _ => none
theorem wb_var {i : Nat} : WB K (tVar i) (fVarB i) := fun F L σ H δ d δ' e R Q q => by
  unfold fVarB at e
  split at e
  · next d0 h =>
    cases e
    obtain ⟨v, h1, h2⟩ := R.at_ i _ h
    exact ⟨v, h1, q v H Stp.refl R (.inl h2)⟩
  · next ds h =>
    cases e
    obtain ⟨l, vs, h1, h2, h3, h4⟩ := R.at_ i _ h
    exact ⟨_, h1, q _ H Stp.refl R (.inr ⟨l, vs, ds, rfl, rfl, h3, h4⟩)⟩
  · next ds h =>
    cases e
    obtain ⟨l, vs, h1, h2, h3, h4⟩ := R.at_ i _ h
    exact ⟨_, h1, q _ H Stp.refl R (.inr ⟨l, vs, ds, rfl, rfl, h3, h4⟩)⟩
  · cases e
theorem we_c1 {r : List V → Hp → VK → Prop} {f : PyData → Option PyData} {te : TE} {φ : FE} (hr : R1 K r f) (h : WB K te φ) : WE K (tCB r (tCons te tNil)) (fUn f φ) := fun F L σ H δ d δ' e R Q q => by
  obtain ⟨x, e1, e2⟩ := fUn_some e
  refine h F L σ H δ x δ' e1 R _ fun v H1 s1 R1 b1 => ?_
  exact hr _ H1 v x d e2 b1 R1.fr Q fun w H2 x2 d2 => q w H2 (s1.trans (Stp.of_ex x2)) (R1.ex x2) d2
def fUnL (f : PyData → Option (List PyData)) (φ : FE) : FL := fun δ => match φ δ with
  | some (x, δ1) => match f x with
    | some z => some (z, δ1)
    | none => none
  | none => none
theorem wl_c1 {r : List V → Hp → VK → Prop} {f : PyData → Option (List PyData)} {te : TE} {φ : FE} (hr : R1L K r f) (h : WB K te φ) : WL K (tCB r (tCons te tNil)) (fUnL f φ) := fun F L σ H δ d δ' e R Q q => by
  unfold fUnL at e
  split at e
  · next x δ1 e1 =>
    split at e
    · next z e2 =>
      cases e
      refine h F L σ H δ x _ e1 R _ fun v H1 s1 R1 b1 => ?_
      exact hr _ H1 v x _ e2 b1 R1.fr Q fun p vs H2 hp x2 h2 d2 => q p vs H2 (new_live R R1 s1 hp) (s1.trans (Stp.of_ex x2)) (R1.hideX x2 hp (by rw [h2]; exact fun z => nomatch z)) h2 d2
    · cases e
  · cases e
/-- what a borrowed sequence is -/
theorem Bo.seq {S : List Addr} {H : Hp} {v : V} {d : PyData} {ds : List PyData} (h : Bo K S H v d) (e : seqOf d = some ds) : ∃ p vs, v = .ref p ∧ (SqL K H p vs ∨ SqT K H p vs) ∧ RpAll K (Msk S H) vs ds := by
  rcases h with h | ⟨a, vs, ds', rfl, rfl, h1, h2⟩
  · exact seq_rd h e
  · cases e
    exact ⟨a, vs, rfl, .inl (sq_of h1), h2⟩
theorem Bo.lst {S : List Addr} {H : Hp} {v : V} {ds : List PyData} (h : Bo K S H v (.list ds)) : ∃ p vs, v = .ref p ∧ H p = some (.lst vs) ∧ RpAll K (Msk S H) vs ds := by
  rcases h with h | ⟨a, vs, ds', rfl, e, h1, h2⟩
  · cases h with
    | lst h1 h2 => exact ⟨_, _, rfl, (msk_some h1).2, h2⟩
  · cases e
    exact ⟨a, vs, rfl, h1, h2⟩
def dLen : PyData → Option PyData
  | .str z => if z.length ≤ 100000 then some (.int z.length) else none
  | .list ds => some (.int ds.length)
  | .tuple ds => some (.int ds.length)
  | .dict ((.none, _) :: kvs) => some (.int kvs.length)
  | _ => none
abbrev rLen (K : PySem.W.Frag) : List V → Hp → VK → Prop := fun xs H Q => ∃ x n, xs = [x] ∧ LenV K x H n ∧ Q (.int n) H
theorem r1_len : R1 K (rLen K) dLen := fun S H x a d e b fr Q q => by
  cases a with
  | str z =>
    have e' : (if z.length ≤ 100000 then some (PyData.int z.length) else none) = some d := e
    by_cases hz : z.length ≤ 100000
    · rw [if_pos hz] at e'
      cases e'
      rcases b with b | ⟨_, _, _, _, q0, _⟩
      · cases b
        exact ⟨_, z.length, rfl, ⟨sz_of hz, rfl⟩, q _ H (Ex.refl H) (.int _)⟩
      · cases q0
    · rw [if_neg hz] at e'
      cases e'
  | list ds =>
    cases e
    obtain ⟨p, vs, rfl, h1, h2⟩ := b.lst
    refine ⟨_, ds.length, rfl, .inl ⟨vs, sq_of h1, h2.len.symm⟩, q _ H (Ex.refl H) (.int _)⟩
  | tuple ds =>
    cases e
    rcases b with b | ⟨_, _, _, _, q0, _⟩
    · cases b with
      | tup h1 h2 => exact ⟨_, ds.length, rfl, .inr ⟨_, ex_t msk_le h1, h2.len.symm⟩, q _ H (Ex.refl H) (.int _)⟩
    · cases q0
  | dict kvs =>
    rcases b with b | ⟨_, _, _, _, q0, _⟩
    · cases b with
      | @dic l ks ds h1 h2 =>
        exfalso
        cases h2 with
        | nil => cases e
        | @cons k _ _ _ _ _ _ => cases k <;> cases e
      | @scr l ns h1 =>
        cases e
        refine ⟨_, ns.length, rfl, .inl ⟨_, ex_l msk_le h1, (List.length_map _).symm⟩, q _ H (Ex.refl H) ?_⟩
        rw [List.length_map]
        exact .int _
    · cases q0
  | _ => cases e
def dAbs : PyData → Option PyData
  | .int i => some (.int (if i < 0 then -i else i))
  | _ => none
theorem Bo.int {S : List Addr} {H : Hp} {v : V} {i : Int} (h : Bo K S H v (.int i)) : v = .int i := by
  rcases h with h | ⟨_, _, _, _, q0, _⟩
  · cases h
    rfl
  · cases q0
theorem r1_abs : R1 K (fun xs H Q => ∃ i, xs = [.int i] ∧ Q (.int (if i < 0 then -i else i)) H) dAbs := fun S H x a d e b fr Q q => by
  cases a with
  | int i =>
    cases e
    cases b.int
    exact ⟨i, rfl, q _ H (Ex.refl H) (.int _)⟩
  | _ => cases e
def intsOf : List PyData → Option (List Int)
  | [] => some []
  | .int i :: ds => (intsOf ds).map (i :: ·)
  | _ :: _ => none
theorem intsOf_some : ∀ {ds : List PyData} {ns : List Int}, intsOf ds = some ns → ds = ns.map PyData.int
  | [], _, e => by cases e; rfl
  | d :: ds, ns, e => by
    cases d with
    | int i =>
      have e' : (intsOf ds).map (i :: ·) = some ns := e
      cases h : intsOf ds with
      | none =>
        rw [h] at e'
        cases e'
      | some ms =>
        rw [h] at e'
        cases e'
        rw [intsOf_some h]
        rfl
    | _ => cases e
theorem intsOf_map (ns : List Int) : intsOf (ns.map PyData.int) = some ns := by
  induction ns with
  | nil => rfl
  | cons n ns ih =>
    show (intsOf (ns.map PyData.int)).map (n :: ·) = _
    rw [ih]
    rfl
def dSum : PyData → Option PyData
  | .list ds => (intsOf ds).map fun ns => .int ns.sum
  | _ => none
theorem r1_sum : R1 K (rSum K) dSum := fun S H x a d e b fr Q q => by
  cases a with
  | list ds =>
    have e' : (intsOf ds).map (fun ns => PyData.int ns.sum) = some d := e
    cases h : intsOf ds with
    | none =>
      rw [h] at e'
      cases e'
    | some ns =>
      rw [h] at e'
      cases e'
      have hd := intsOf_some h
      subst hd
      obtain ⟨p, vs, rfl, h1, h2⟩ := b.lst
      have := h2.ints
      subst this
      exact ⟨p, ns, rfl, sq_of h1, q _ H (Ex.refl H) (.int _)⟩
  | _ => cases e
def boolsOf : List PyData → Option (List Bool)
  | [] => some []
  | .bool i :: ds => (boolsOf ds).map (i :: ·)
  | _ :: _ => none
theorem boolsOf_some : ∀ {ds : List PyData} {ns : List Bool}, boolsOf ds = some ns → ds = ns.map PyData.bool
  | [], _, e => by cases e; rfl
  | d :: ds, ns, e => by
    cases d with
    | bool i =>
      have e' : (boolsOf ds).map (i :: ·) = some ns := e
      cases h : boolsOf ds with
      | none =>
        rw [h] at e'
        cases e'
      | some ms =>
        rw [h] at e'
        cases e'
        rw [boolsOf_some h]
        rfl
    | _ => cases e
theorem boolsOf_map (ns : List Bool) : boolsOf (ns.map PyData.bool) = some ns := by
  induction ns with
  | nil => rfl
  | cons n ns ih =>
    show (boolsOf (ns.map PyData.bool)).map (n :: ·) = _
    rw [ih]
    rfl
def dAll : PyData → Option PyData
  | .list ds => (boolsOf ds).map fun ns => .bool (ns.all id)
  | _ => none
theorem r1_all : R1 K (rAll K) dAll := fun S H x a d e b fr Q q => by
  cases a with
  | list ds =>
    have e' : (boolsOf ds).map (fun ns => PyData.bool (ns.all id)) = some d := e
    cases h : boolsOf ds with
    | none =>
      rw [h] at e'
      cases e'
    | some ns =>
      rw [h] at e'
      cases e'
      have hd := boolsOf_some h
      subst hd
      obtain ⟨p, vs, rfl, h1, h2⟩ := b.lst
      have := h2.bls
      subst this
      exact ⟨p, ns, rfl, sq_of h1, q _ H (Ex.refl H) (.bl _)⟩
  | _ => cases e
def dTuple : PyData → Option PyData
  | .list ds => some (.tuple ds)
  | .tuple ds => some (.tuple ds)
  | _ => none
abbrev rTuple (K : PySem.W.Frag) : List V → Hp → VK → Prop := fun xs H Q => ∃ p ys, xs = [.ref p] ∧ ((SqL K H p ys ∧ ∀ l, H l = none → Q (.ref l) (upd H l (.tup ys))) ∨ (SqT K H p ys ∧ Q (.ref p) H))
theorem r1_tuple : R1 K (rTuple K) dTuple := fun S H x a d e b fr Q q => by
  cases a with
  | list ds =>
    cases e
    obtain ⟨p, vs, rfl, h1, h2⟩ := b.lst
    exact ⟨p, vs, rfl, .inl ⟨sq_of h1, fun l hl => q _ _ (Ex.new hl) (new_tup (fr l hl) h2 hl)⟩⟩
  | tuple ds =>
    cases e
    rcases b with b | ⟨_, _, _, _, q0, _⟩
    · cases b with
      | tup h1 h2 => exact ⟨_, _, rfl, .inr ⟨ex_t msk_le h1, q _ H (Ex.refl H) (.tup h1 h2)⟩⟩
    · cases q0
  | _ => cases e
abbrev rList (K : PySem.W.Frag) : List V → Hp → VK → Prop := fun xs H Q => ∃ p ys, xs = [.ref p] ∧ (SqL K H p ys ∨ SqT K H p ys) ∧ ∀ l, H l = none → Q (.ref l) (upd H l (.lst ys))
theorem r1_list : R1L K (rList K) seqOf := fun S H x a d e b fr Q q => by
  obtain ⟨p, vs, rfl, h1, h2⟩ := b.seq e
  exact ⟨p, vs, rfl, h1, fun l hl => q l vs _ hl (Ex.new hl) upd_same (RpAll.mono (hide_ex (Ex.new hl) hl) _ _ h2)⟩
/-- min(a, b) -/
def fMin (φ ψ : FE) : FE := fOp (fI0 fun i j => .int (if j < i then j else i)) φ ψ
theorem we_min {ta tb : TE} {φ ψ : FE} (ha : WE K ta φ) (hb : WE K tb ψ) : WE K (tCB (fun xs H Q => ∃ i j, xs = [.int i, .int j] ∧ Q (.int (if j < i then j else i)) H) (tCons ta (tCons tb tNil))) (fMin φ ψ) := fun F L σ H δ d δ' e R Q q => by
  obtain ⟨x, δ1, y, e1, e2, e3⟩ := fOp_some e
  refine ha F L σ H δ x δ1 e1 R _ fun v H1 s1 R1 d1 => ?_
  refine hb F L σ H1 δ1 y δ' e2 R1 _ fun w H2 s2 R2 d2 => ?_
  cases d1 <;> cases d2 <;> cases e3
  exact ⟨_, _, rfl, q _ H2 (s1.trans s2) R2 (.int _)⟩
/-- isinstance -/
def tyN : PyData → String
  | .none => "NoneType"
  | .bool _ => "bool"
  | .int _ => "int"
  | .str _ => "str"
  | .list _ => "list"
  | .tuple _ => "tuple"
  | .dict _ => "dict"
def isiD (T : String) (d : PyData) : Option PyData := match d with
  | .dict _ => none
  | d => (kitB (tyN d) T).map .bool
theorem ty_of {S : List Addr} {H : Hp} {v : V} {d : PyData} (h : Rp K (Msk S H) v d) (hd : ∀ k, d ≠ .dict k) : TyX K H v (.type (tyN d)) := by
  cases h with
  | non => exact .base .non
  | bl b => exact .base (.bl b)
  | int i => exact .base (.int i)
  | str i => exact .base (.str i)
  | lst h1 h2 => exact .base (.lst (msk_some h1).2)
  | tup h1 h2 =>
    rcases h1 with (h | ⟨o, h⟩) | ⟨o, its, n, h, hc, _⟩
    · exact .base (.tup (msk_some h).2)
    · exact .fTuple (msk_some h).2
    · exact .kTuple h hc
  | scr h1 => exact absurd rfl (hd _)
  | dic h1 h2 => exact absurd rfl (hd _)
theorem we_isi {T : String} {te : TE} {φ : FE} (h : WE K te φ) : WE K (tCB (rIsi K) (tCons te (tCons (tC (.ty T)) tNil))) (fUn (isiD T) φ) := fun F L σ H δ d δ' e R Q q => by
  obtain ⟨x, e1, e2⟩ := fUn_some e
  refine h F L σ H δ x δ' e1 R _ fun v H1 s1 R1 d1 => ?_
  have hx : ∀ k, x ≠ .dict k := fun k z => by
    subst z
    cases e2
  have e3 : (kitB (tyN x) T).map PyData.bool = some d := by
    cases x <;> first | exact e2 | exact absurd rfl (hx _)
  cases hb : kitB (tyN x) T with
  | none =>
    rw [hb] at e3
    cases e3
  | some b =>
    rw [hb] at e3
    cases e3
    exact ⟨v, .ty T, _, .type T, b, rfl, .ty T, ty_of d1 hx, kit_ty hb, q _ H1 s1 R1 (.bl _)⟩
/-- isinstance(x, (T, U)) -/
def isiD2 (T U : String) (d : PyData) : Option PyData := match d with
  | .dict _ => none
  | d => match kitB (tyN d) T with
    | some true => some (.bool true)
    | some false => (kitB (tyN d) U).map .bool
    | none => none
theorem we_isi2 {T U : String} {te : TE} {φ : FE} (h : WE K te φ) : WE K (tCB (rIsiT K) (tCons te (tCons (tTup (tCons (tC (.ty T)) (tCons (tC (.ty U)) tNil))) tNil))) (fUn (isiD2 T U) φ) := fun F L σ H δ d δ' e R Q q => by
  obtain ⟨x, e1, e2⟩ := fUn_some e
  refine h F L σ H δ x δ' e1 R _ fun v H1 s1 R1 d1 => ?_
  have hx : ∀ k, x ≠ .dict k := fun k z => by
    subst z
    cases e2
  refine ⟨by show 2 ≤ sizeLine; decide, fun p hp => ?_⟩
  have x2 : Ex H1 (upd H1 p (.tup [.ty T, .ty U])) := Ex.new hp
  have tx : TyX K (upd H1 p (.tup [.ty T, .ty U])) v (.type (tyN x)) := ty_of (Rp.mono (ex_msk x2) _ _ d1) hx
  have e3 : (match kitB (tyN x) T with
    | some true => some (PyData.bool true)
    | some false => (kitB (tyN x) U).map PyData.bool
    | none => none) = some d := by
    cases x <;> first | exact e2 | exact absurd rfl (hx _)
  split at e3
  · next hb =>
    cases e3
    exact ⟨v, p, _, _, [.type T, .type U], true, rfl, upd_same, .cons (.ty T) (.cons (.ty U) .nil), tx, kitAny_cons (kit_ty hb) (fun z => nomatch z) fun _ => rfl, q _ _ (s1.trans (Stp.of_ex x2)) (R1.ex x2) (.bl _)⟩
  · next hb =>
    cases hc : kitB (tyN x) U with
    | none =>
      rw [hc] at e3
      cases e3
    | some b =>
      rw [hc] at e3
      cases e3
      exact ⟨v, p, _, _, [.type T, .type U], b, rfl, upd_same, .cons (.ty T) (.cons (.ty U) .nil), tx, kitAny_cons (kit_ty hb) (fun _ => kitAny_cons (kit_ty hc) (fun z => z ▸ kitAny_nil) fun z => z) (fun z => nomatch z), q _ _ (s1.trans (Stp.of_ex x2)) (R1.ex x2) (.bl _)⟩
  · cases e3
/-! ### slices -/
def fNoPart : FO := fun δ => some (none, δ)
def fPart (φ : FE) : FO := fun δ => match φ δ with
  | some (.int i, δ1) => some (some i, δ1)
  | _ => none
theorem wo_none : WO K tNoPart fNoPart := fun F L σ H δ d δ' e R Q q => by
  cases e
  exact q H Stp.refl R
theorem wo_some {te : TE} {φ : FE} (h : WE K te φ) : WO K (tPart te) (fPart φ) := fun F L σ H δ d δ' e R Q q => by
  unfold fPart at e
  split at e
  · next i δ1 h1 =>
    cases e
    refine h F L σ H δ _ _ h1 R _ fun v H1 s1 R1 d1 => ?_
    cases d1
    exact ⟨i, rfl, q H1 s1 R1⟩
  · cases e
def cutD (xs : List PyData) (lo hi : Option Int) : List PyData := (xs.drop (HT.sIx xs.length 0 lo)).take (HT.sIx xs.length xs.length hi - HT.sIx xs.length 0 lo)
theorem cut_of {H : Hp} {vs : List V} {ds : List PyData} (r : RpAll K H vs ds) (lo hi : Option Int) : RpAll K H (cutV vs lo hi) (cutD ds lo hi) := by
  unfold cutV cutD
  rw [r.len]
  exact (r.drop _).take _
def dSl (a : PyData) (lo hi : Option Int) : Option PyData := match a with
  | .list ds => some (.list (cutD ds lo hi))
  | .tuple ds => some (.tuple (cutD ds lo hi))
  | .str z => if z.length ≤ 100000 then some (.str (cutS z lo hi)) else none
  | _ => none
def fSl (φ : FE) (lo hi : FO) : FE := fun δ => match φ δ with
  | some (x, δ1) => match lo δ1 with
    | some (l, δ2) => match hi δ2 with
      | some (h, δ3) => match dSl x l h with
        | some d => some (d, δ3)
        | none => none
      | none => none
    | none => none
  | none => none
abbrev rSlA3 (K : PySem.W.Frag) : V → Option Int → Option Int → Hp → VK → Prop := fun x lo hi H Q => rSlL K x lo hi H Q ∨ (rSlA K x lo hi H Q ∨ rSlS x lo hi H Q)
theorem sl_any {X : Cx} : SlR X (rSlA3 X.K) := sl_list.or (sl_tupA.or sl_str)
theorem we_sl {te : TE} {tl th : TO} {φ : FE} {lo hi : FO} (h : WE K te φ) (hl : WO K tl lo) (hh : WO K th hi) : WE K (tSl (rSlA3 K) te tl th) (fSl φ lo hi) := fun F L σ H δ d δ' e R Q q => by
  unfold fSl at e
  split at e
  · next x δ1 e1 =>
    split at e
    · next l δ2 e2 =>
      split at e
      · next u δ3 e3 =>
        split at e
        · next z e4 =>
          cases e
          refine h F L σ H δ x δ1 e1 R _ fun v H1 s1 R1 d1 => ?_
          refine hl F L σ H1 δ1 l δ2 e2 R1 _ fun H2 s2 R2 => ?_
          refine hh F L σ H2 δ2 u _ e3 R2 _ fun H3 s3 R3 => ?_
          have d3 := s3.dat R1.sub (s2.dat R1.sub d1)
          cases d3 with
          | @lst a vs ds h1 h2 =>
            cases e4
            refine .inl ⟨a, vs, rfl, sq_of (msk_some h1).2, fun p hp => ?_⟩
            exact q _ _ (((s1.trans s2).trans s3).trans (Stp.of_ex (Ex.new hp))) (R3.ex (Ex.new hp)) (new_lst (R3.fresh hp) (cut_of h2 _ _) hp)
          | @tup a vs ds h1 h2 =>
            cases e4
            refine .inr (.inl ⟨a, vs, rfl, ex_t msk_le h1, fun hw => ?_, fun _ p hp => ?_⟩)
            · have ew : cutD ds l u = ds := by
                unfold cutD
                rw [h2.len] at hw
                rw [hw.1, hw.2, List.drop_zero, Nat.sub_zero, List.take_length]
              refine q _ H3 ((s1.trans s2).trans s3) R3 ?_
              rw [ew]
              exact .tup h1 h2
            · exact q _ _ (((s1.trans s2).trans s3).trans (Stp.of_ex (Ex.new hp))) (R3.ex (Ex.new hp)) (new_tup (R3.fresh hp) (cut_of h2 _ _) hp)
          | @str z =>
            have e5 : (if z.length ≤ 100000 then some (PyData.str (cutS z l u)) else none) = some d := e4
            by_cases hz : z.length ≤ 100000
            · rw [if_pos hz] at e5
              cases e5
              exact .inr (.inr ⟨z, rfl, sz_of hz, q _ H3 ((s1.trans s2).trans s3) R3 (.str _)⟩)
            · rw [if_neg hz] at e5
              cases e5
          | _ => cases e4
        · cases e
      · cases e
    · cases e
  · cases e
end
end Sm
namespace Sm
open PySem L2 Evl RZ

section
variable {K : PySem.W.Frag}
/-! ### names stored -/
theorem get_set {α : Type} (l : List α) (i j : Nat) (a : α) : (l.set i a)[j]? = if i = j then (if j < l.length then some a else none) else l[j]? := by
  rw [List.getElem?_set]
  by_cases h : i = j
  · subst h
    simp
  · rw [if_neg h, if_neg h]
theorem SlotR.un (F : Fm) (L : List Addr) (H : Hp) (o : Option (Option V)) : SlotR K F L H o .un := trivial
/-- a slot stored that is not one's own -/
theorem EnvR.set {F : Fm} {L : List Addr} {σ : St} {H : Hp} {δ : En} (R : EnvR K F L σ H δ) (i : Nat) {v : Option V} {e : EV} (he : SlotR K F L H (some v) e) (hm : e.mine = false) : EnvR K F L (σ.set i v) H (δ.set i e) where
  len := by rw [List.length_set, List.length_set, R.len]
  at_ := fun j e' h => by
    rw [get_set] at h ⊢
    by_cases hij : i = j
    · rw [if_pos hij] at h ⊢
      by_cases hl : j < δ.length
      · rw [if_pos hl] at h
        rw [if_pos (by rw [R.len]; exact hl)]
        cases h
        exact he
      · rw [if_neg hl] at h
        cases h
    · rw [if_neg hij] at h ⊢
      exact R.at_ j e' h
  dis := fun a b l e1 e2 hab h1 h2 m1 m2 s1 s2 => by
    rw [get_set] at h1 h2 s1 s2
    by_cases ha : i = a
    · rw [if_pos ha] at h1
      split at h1
      · cases h1
        rw [hm] at m1
        cases m1
      · cases h1
    · by_cases hb : i = b
      · rw [if_pos hb] at h2
        split at h2
        · cases h2
          rw [hm] at m2
          cases m2
        · cases h2
      · rw [if_neg ha] at h1 s1
        rw [if_neg hb] at h2 s2
        exact R.dis a b l e1 e2 hab h1 h2 m1 m2 s1 s2
  al := R.al
  mb := R.mb
  lb := R.lb
theorem EnvR.put {F : Fm} {L : List Addr} {σ : St} {H : Hp} {δ : En} (R : EnvR K F L σ H δ) (i : Nat) {v : V} {d : PyData} (h : Rp K (Msk (F.B ++ L) H) v d) : EnvR K F L (σ.set i (some v)) H (δ.set i (.dat d)) := R.set i ⟨v, rfl, h⟩ rfl

/-! ### targets -/
abbrev FG := PyData → En → Option En
abbrev FGs := List PyData → En → Option En
/-- js: the slots that it stores -/
def WG (K : PySem.W.Frag) (g : TG) (js : List Nat) (γ : FG) : Prop := ∀ (F : Fm) (L : List Addr) (σ : St) (H : Hp) (δ : En) (v : V) (d : PyData) (δ' : En), γ d δ = some δ' → EnvR K F L σ H δ → Rp K (Msk (F.B ++ L) H) v d → ∀ Q : St → Hp → Prop,
  (∀ σ', σ'.length = σ.length → (∀ i, ¬ i ∈ js → σ'[i]? = σ[i]?) → EnvR K F L σ' H δ' → Q σ' H) → g v σ H Q
def WGs (K : PySem.W.Frag) (g : TGs) (js : List Nat) (γ : FGs) : Prop := ∀ (F : Fm) (L : List Addr) (σ : St) (H : Hp) (δ : En) (vs : List V) (ds : List PyData) (δ' : En), γ ds δ = some δ' → EnvR K F L σ H δ → RpAll K (Msk (F.B ++ L) H) vs ds → ∀ Q : St → Hp → Prop,
  (∀ σ', σ'.length = σ.length → (∀ i, ¬ i ∈ js → σ'[i]? = σ[i]?) → EnvR K F L σ' H δ' → Q σ' H) → g vs σ H Q
def gN (i : Nat) : FG := fun d δ => some (δ.set i (.dat d))
theorem wg_name {i : Nat} : WG K (gName i) [i] (gN i) := fun F L σ H δ v d δ' e R r Q q => by
  cases e
  refine q _ (List.length_set) (fun j hj => ?_) (R.put i r)
  rw [get_set, if_neg (fun z => hj (by rw [z]; exact List.mem_singleton.mpr rfl))]
def gNl : FGs := fun ds δ => match ds with
  | [] => some δ
  | _ => none
def gCs (γ : FG) (η : FGs) : FGs := fun ds δ => match ds with
  | d :: ds => match γ d δ with
    | some δ1 => η ds δ1
    | none => none
  | [] => none
theorem wgs_nil : WGs K gNil [] gNl := fun F L σ H δ vs ds δ' e R r Q q => by
  cases r with
  | nil =>
    cases e
    exact ⟨rfl, q σ rfl (fun _ _ => rfl) R⟩
  | cons _ _ => cases e
theorem wgs_cons {g : TG} {gs : TGs} {js ks : List Nat} {γ : FG} {η : FGs} (h : WG K g js γ) (hs : WGs K gs ks η) : WGs K (gCons g gs) (js ++ ks) (gCs γ η) := fun F L σ H δ vs ds δ' e R r Q q => by
  cases r with
  | nil => cases e
  | @cons v vs' d ds' r1 r2 =>
    have e' : (match γ d δ with
      | some δ1 => η ds' δ1
      | none => none) = some δ' := e
    split at e'
    · next δ1 e1 =>
      refine ⟨v, vs', rfl, h F L σ H δ v d δ1 e1 R r1 _ fun σ1 l1 k1 R1 => ?_⟩
      refine hs F L σ1 H δ1 vs' ds' δ' e' R1 r2 _ fun σ2 l2 k2 R2 => ?_
      refine q σ2 (l2.trans l1) (fun i hi => ?_) R2
      rw [List.mem_append] at hi
      rw [k2 i (fun z => hi (.inr z)), k1 i (fun z => hi (.inl z))]
    · cases e'
def gTp (n : Nat) (η : FGs) : FG := fun d δ => match d with
  | .tuple ds => if ds.length = n then η ds δ else none
  | _ => none
theorem wg_tup {n : Nat} {gs : TGs} {js : List Nat} {η : FGs} (h : WGs K gs js η) : WG K (gTup K n gs) js (gTp n η) := fun F L σ H δ v d δ' e R r Q q => by
  cases r with
  | @tup a vs ds h1 h2 =>
    have e' : (if ds.length = n then η ds δ else none) = some δ' := e
    by_cases hn : ds.length = n
    · rw [if_pos hn] at e'
      exact ⟨a, vs, rfl, ex_t msk_le h1, by rw [h2.len]; exact hn, h F L σ H δ vs ds δ' e' R h2 Q q⟩
    · rw [if_neg hn] at e'
      cases e'
  | _ => cases e

/-! ### what is walked -/
structure Iter (K : PySem.W.Frag) (F : Fm) (L : List Addr) (H0 : Hp) (J : It) (ds : List PyData) : Prop where
  go : ∀ (L' : List Addr) (H : Hp), Ex (Msk (F.B ++ L) H0) (Msk (F.B ++ L') H) → Fresh (F.B ++ L') H → ∀ (i : Nat) (d : PyData), ds[i]? = some d → J.go i H ∧ ∀ x H', J.yld i H x H' → Ex H H' ∧ Rp K (Msk (F.B ++ L') H') x d
  stop : ∀ (L' : List Addr) (H : Hp), Ex (Msk (F.B ++ L) H0) (Msk (F.B ++ L') H) → ∀ i : Nat, ds.length ≤ i → J.stop i H
def WI (K : PySem.W.Frag) (wi : TI) (φ : FL) : Prop := ∀ (F : Fm) (L : List Addr) (σ : St) (H : Hp) (δ : En) (ds : List PyData) (δ' : En), φ δ = some (ds, δ') → EnvR K F L σ H δ → ∀ R : It → Hp → Prop,
  (∀ J H2, Stp F L H H2 → EnvR K F L σ H2 δ' → Iter K F L H2 J ds → R J H2) → wi σ H R
theorem pi_or {X : Cx} {tg it : Expr} {w w' : TI} (h : PI X tg it w) (h' : PI X tg it w') : PI X tg it (fun σ H R => w σ H R ∨ w' σ H R) := ⟨fun pins s σ H R I q => by
  rcases q with q | q
  · exact h.run pins s σ H R I q
  · exact h'.run pins s σ H R I q⟩
abbrev iAny (K : PySem.W.Frag) (t : TE) : TI := fun σ H R => iList K t σ H R ∨ (iTup K t σ H R ∨ iStr t σ H R)
theorem pi_any {X : Cx} {tg l : Expr} {t : TE} (h : PE X l t) : PI X tg l (iAny X.K t) := pi_or (pi_list h) (pi_or (pi_tup h) (pi_str h))
def signs (z : Str) : List PyData := z.cps.toList.map fun c => .str ⟨#[c]⟩
def itemsOf : PyData → Option (List PyData)
  | .list ds => some ds
  | .tuple ds => some ds
  | .str z => some (signs z)
  | _ => none
def fItems (φ : FE) : FL := fUnL itemsOf φ
theorem fUnL_some {f : PyData → Option (List PyData)} {φ : FE} {δ δ' : En} {d : List PyData} (e : fUnL f φ δ = some (d, δ')) : ∃ x, φ δ = some (x, δ') ∧ f x = some d := by
  unfold fUnL at e
  split at e
  · next x δ1 h1 =>
    split at e
    · next z h2 =>
      cases e
      exact ⟨x, h1, h2⟩
    · cases e
  · cases e
theorem iter_list {F : Fm} {L : List Addr} {H0 : Hp} {a : Addr} {vs : List V} {ds : List PyData} (h1 : Msk (F.B ++ L) H0 a = some (.lst vs)) (h2 : RpAll K (Msk (F.B ++ L) H0) vs ds) : Iter K F L H0 (Itl K a) ds where
  go := fun L' H x fr i d hd => by
    obtain ⟨v, hv, rv⟩ := h2.get i d hd
    have hs : SqL K H a vs := sq_of (msk_some (x a _ h1)).2
    refine ⟨⟨vs, v, hs, hv⟩, fun y H' hy => ?_⟩
    obtain ⟨rfl, hy⟩ := hy
    have e := hy vs hs
    rw [hv] at e
    cases e
    exact ⟨Ex.refl _, Rp.mono x _ _ rv⟩
  stop := fun L' H x i hi => ⟨vs, sq_of (msk_some (x a _ h1)).2, by rw [h2.len]; exact hi⟩
theorem iter_tup {F : Fm} {L : List Addr} {H0 : Hp} {a : Addr} {vs : List V} {ds : List PyData} (h1 : SqT K (Msk (F.B ++ L) H0) a vs) (h2 : RpAll K (Msk (F.B ++ L) H0) vs ds) : Iter K F L H0 (Itt K a) ds where
  go := fun L' H x fr i d hd => by
    obtain ⟨v, hv, rv⟩ := h2.get i d hd
    have hs : SqT K H a vs := ex_t msk_le (ex_t x h1)
    refine ⟨⟨vs, v, hs, hv⟩, fun y H' hy => ?_⟩
    obtain ⟨rfl, hy⟩ := hy
    have e := hy vs hs
    rw [hv] at e
    cases e
    exact ⟨Ex.refl _, Rp.mono x _ _ rv⟩
  stop := fun L' H x i hi => ⟨vs, ex_t msk_le (ex_t x h1), by rw [h2.len]; exact hi⟩
theorem signs_get {z : Str} {i : Nat} {d : PyData} (h : (signs z)[i]? = some d) : ∃ c, z.cps[i]? = some c ∧ d = .str ⟨#[c]⟩ := by
  unfold signs at h
  rw [List.getElem?_map] at h
  cases e : z.cps.toList[i]? with
  | none =>
    rw [e] at h
    cases h
  | some c =>
    rw [e] at h
    cases h
    exact ⟨c, by simpa using e, rfl⟩
theorem iter_str {F : Fm} {L : List Addr} {H0 : Hp} {z : Str} : Iter K F L H0 (Its z) (signs z) where
  go := fun L' H x fr i d hd => by
    obtain ⟨c, hc, rfl⟩ := signs_get hd
    refine ⟨?_, fun y H' hy => ?_⟩
    · show i < z.cps.size
      exact (Array.getElem?_eq_some_iff.mp hc).1
    · obtain ⟨rfl, c', hc', rfl⟩ := hy
      rw [hc] at hc'
      cases hc'
      exact ⟨Ex.refl _, .str _⟩
  stop := fun L' H x i hi => by
    show z.cps.size ≤ i
    unfold signs at hi
    rw [List.length_map, Array.length_toList] at hi
    exact hi
theorem wi_any {te : TE} {φ : FE} (h : WE K te φ) : WI K (iAny K te) (fItems φ) := fun F L σ H δ ds δ' e R Q q => by
  obtain ⟨x, e1, e2⟩ := fUnL_some e
  cases x with
  | list xs =>
    cases e2
    refine .inl (h F L σ H δ _ δ' e1 R _ fun v H1 s1 R1 d1 => ?_)
    cases d1 with
    | lst h1 h2 => exact ⟨_, rfl, ⟨_, sq_of (msk_some h1).2⟩, q _ H1 s1 R1 (iter_list h1 h2)⟩
  | tuple xs =>
    cases e2
    refine .inr (.inl (h F L σ H δ _ δ' e1 R _ fun v H1 s1 R1 d1 => ?_))
    cases d1 with
    | tup h1 h2 => exact ⟨_, rfl, ⟨_, ex_t msk_le h1⟩, q _ H1 s1 R1 (iter_tup h1 h2)⟩
  | str z =>
    cases e2
    refine .inr (.inr (h F L σ H δ _ δ' e1 R _ fun v H1 s1 R1 d1 => ?_))
    cases d1
    exact ⟨z, rfl, q _ H1 s1 R1 iter_str⟩
  | _ => cases e2
def upto (n : Int) : List PyData := (List.range n.toNat).map fun i => .int (i : Nat)
def fRange (φ : FE) : FL := fUnL (fun d => match d with
  | .int n => if n ≤ 100000 ∧ -100000 ≤ n then some (upto n) else none
  | _ => none) φ
theorem iter_rng {F : Fm} {L : List Addr} {H0 : Hp} {n : Int} : Iter K F L H0 (Itr 0 n.toNat) (upto n) where
  go := fun L' H x fr i d hd => by
    unfold upto at hd
    rw [List.getElem?_map] at hd
    cases e : (List.range n.toNat)[i]? with
    | none =>
      rw [e] at hd
      cases hd
    | some c =>
      rw [e] at hd
      cases hd
      have hi := (List.getElem?_eq_some_iff.mp e)
      obtain ⟨h1, h2⟩ := hi
      rw [List.getElem_range] at h2
      subst h2
      rw [List.length_range] at h1
      refine ⟨h1, fun y H' hy => ?_⟩
      obtain ⟨rfl, rfl⟩ := hy
      refine ⟨Ex.refl _, ?_⟩
      rw [Int.zero_add]
      exact .int _
  stop := fun L' H x i hi => by
    unfold upto at hi
    rw [List.length_map, List.length_range] at hi
    exact hi
theorem wi_range {te : TE} {φ : FE} (h : WE K te φ) : WI K (iRng1 (tCons te tNil)) (fRange φ) := fun F L σ H δ ds δ' e R Q q => by
  obtain ⟨x, e1, e2⟩ := fUnL_some e
  cases x with
  | int n =>
    have e3 : (if n ≤ 100000 ∧ -100000 ≤ n then some (upto n) else none) = some ds := e2
    by_cases hn : n ≤ 100000 ∧ -100000 ≤ n
    · rw [if_pos hn] at e3
      cases e3
      refine h F L σ H δ _ δ' e1 R _ fun v H1 s1 R1 d1 => ?_
      cases d1
      exact ⟨n, rfl, by omega, by omega, q _ H1 s1 R1 iter_rng⟩
    · rw [if_neg hn] at e3
      cases e3
  | _ => cases e2
/-- zip of two lists, of two tuples -/
def zipD (a b : PyData) : Option (List PyData) := match a, b with
  | .list xs, .list ys => some (List.zipWith (fun x y => .tuple [x, y]) xs ys)
  | .tuple xs, .tuple ys => some (List.zipWith (fun x y => .tuple [x, y]) xs ys)
  | _, _ => none
def fZip (φ ψ : FE) : FL := fun δ => match φ δ with
  | some (x, δ1) => match ψ δ1 with
    | some (y, δ2) => match zipD x y with
      | some z => some (z, δ2)
      | none => none
    | none => none
  | none => none
theorem zw_get {xs ys : List PyData} {i : Nat} {d : PyData} (h : (List.zipWith (fun x y => PyData.tuple [x, y]) xs ys)[i]? = some d) : ∃ x y, xs[i]? = some x ∧ ys[i]? = some y ∧ d = .tuple [x, y] := by
  rw [List.getElem?_zipWith] at h
  split at h
  · next x y h1 h2 =>
    cases h
    exact ⟨x, y, h1, h2, rfl⟩
  · cases h
theorem iter_zipL {F : Fm} {L : List Addr} {H0 : Hp} {a b : Addr} {vs ws : List V} {xs ys : List PyData} (h1 : Msk (F.B ++ L) H0 a = some (.lst vs)) (h2 : RpAll K (Msk (F.B ++ L) H0) vs xs) (k1 : Msk (F.B ++ L) H0 b = some (.lst ws)) (k2 : RpAll K (Msk (F.B ++ L) H0) ws ys) :
    Iter K F L H0 (Itz K a b) (List.zipWith (fun x y => PyData.tuple [x, y]) xs ys) where
  go := fun L' H e fr i d hd => by
    obtain ⟨x, y, hx, hy, rfl⟩ := zw_get hd
    obtain ⟨v, hv, rv⟩ := h2.get i x hx
    obtain ⟨w, hw, rw'⟩ := k2.get i y hy
    have sa : SqL K H a vs := sq_of (msk_some (e a _ h1)).2
    have sb : SqL K H b ws := sq_of (msk_some (e b _ k1)).2
    refine ⟨⟨vs, ws, v, w, sa, sb, hv, hw⟩, fun z H' hz => ?_⟩
    obtain ⟨T, x1, y1, rfl, hT, rfl, f1, f2⟩ := hz
    have e1 := f1 vs sa
    have e2 := f2 ws sb
    rw [hv] at e1
    rw [hw] at e2
    cases e1
    cases e2
    exact ⟨Ex.new hT, new_tup (fr T hT) (.cons (Rp.mono e _ _ rv) (.cons (Rp.mono e _ _ rw') .nil)) hT⟩
  stop := fun L' H e i hi => by
    refine ⟨vs, ws, sq_of (msk_some (e a _ h1)).2, sq_of (msk_some (e b _ k1)).2, ?_⟩
    rw [List.length_zipWith] at hi
    rw [h2.len, k2.len]
    omega
theorem iter_zipT {F : Fm} {L : List Addr} {H0 : Hp} {a b : Addr} {vs ws : List V} {xs ys : List PyData} (h1 : SqT K (Msk (F.B ++ L) H0) a vs) (h2 : RpAll K (Msk (F.B ++ L) H0) vs xs) (k1 : SqT K (Msk (F.B ++ L) H0) b ws) (k2 : RpAll K (Msk (F.B ++ L) H0) ws ys) :
    Iter K F L H0 (ItzT K a b) (List.zipWith (fun x y => PyData.tuple [x, y]) xs ys) where
  go := fun L' H e fr i d hd => by
    obtain ⟨x, y, hx, hy, rfl⟩ := zw_get hd
    obtain ⟨v, hv, rv⟩ := h2.get i x hx
    obtain ⟨w, hw, rw'⟩ := k2.get i y hy
    have sa : SqT K H a vs := ex_t msk_le (ex_t e h1)
    have sb : SqT K H b ws := ex_t msk_le (ex_t e k1)
    refine ⟨⟨vs, ws, v, w, sa, sb, hv, hw⟩, fun z H' hz => ?_⟩
    obtain ⟨T, x1, y1, rfl, hT, rfl, f1, f2⟩ := hz
    have e1 := f1 vs sa
    have e2 := f2 ws sb
    rw [hv] at e1
    rw [hw] at e2
    cases e1
    cases e2
    exact ⟨Ex.new hT, new_tup (fr T hT) (.cons (Rp.mono e _ _ rv) (.cons (Rp.mono e _ _ rw') .nil)) hT⟩
  stop := fun L' H e i hi => by
    refine ⟨vs, ws, ex_t msk_le (ex_t e h1), ex_t msk_le (ex_t e k1), ?_⟩
    rw [List.length_zipWith] at hi
    rw [h2.len, k2.len]
    omega
theorem wi_zip {ta tb : TE} {φ ψ : FE} (ha : WE K ta φ) (hb : WE K tb ψ) : WI K (iZipA K (tCons ta (tCons tb tNil))) (fZip φ ψ) := fun F L σ H δ ds δ' e R Q q => by
  unfold fZip at e
  split at e
  · next x δ1 e1 =>
    split at e
    · next y δ2 e2 =>
      split at e
      · next z e3 =>
        cases e
        refine ha F L σ H δ x δ1 e1 R _ fun v H1 s1 R1 d1 => ?_
        refine hb F L σ H1 δ1 y _ e2 R1 _ fun w H2 s2 R2 d2 => ?_
        have d1' := s2.dat R1.sub d1
        cases d1' <;> cases d2 <;> first | (cases e3; done) | skip
        · next h1 h2 _ _ _ k1 k2 =>
          cases e3
          exact ⟨_, _, _, _, rfl, .inl ⟨sq_of (msk_some h1).2, sq_of (msk_some k1).2, q _ H2 (s1.trans s2) R2 (iter_zipL h1 h2 k1 k2)⟩⟩
        · next h1 h2 _ _ _ k1 k2 =>
          cases e3
          exact ⟨_, _, _, _, rfl, .inr ⟨ex_t msk_le h1, ex_t msk_le k1, q _ H2 (s1.trans s2) R2 (iter_zipT h1 h2 k1 k2)⟩⟩
      · cases e
    · cases e
  · cases e
end
end Sm
namespace Sm
open PySem L2 Evl RZ

section
variable {K : PySem.W.Frag}
/-! ### comprehensions -/
theorem wipe_get (σ : St) : ∀ (vs : List Nat) (i : Nat), (wipe σ vs)[i]? = if i ∈ vs then σ[i]?.map (fun _ => none) else σ[i]?
  | [], i => by simp [wipe]
  | v :: vs, i => by
    unfold wipe
    rw [get_set, wipe_length, wipe_get σ vs i]
    by_cases h : v = i
    · subst h
      rw [if_pos rfl, if_pos (List.mem_cons_self)]
      by_cases hl : v < σ.length
      · rw [if_pos hl, List.getElem?_eq_getElem hl]
        rfl
      · rw [if_neg hl, List.getElem?_eq_none (by omega)]
        rfl
    · rw [if_neg h]
      by_cases h2 : i ∈ vs
      · rw [if_pos h2, if_pos (List.mem_cons_of_mem _ h2)]
      · rw [if_neg h2, if_neg (fun z => by
          rcases List.mem_cons.mp z with z | z
          · exact h z.symm
          · exact h2 z)]
theorem wipe_eq {σ σ2 : St} {vs js : List Nat} (hl : σ2.length = (wipe σ vs).length) (hk : ∀ i, ¬ i ∈ js → σ2[i]? = (wipe σ vs)[i]?) (hj : ∀ j, j ∈ js → j ∈ vs) : wipe σ2 vs = wipe σ vs := by
  rw [wipe_length] at hl
  apply List.ext_getElem?
  intro i
  rw [wipe_get, wipe_get]
  by_cases h : i ∈ vs
  · rw [if_pos h, if_pos h]
    by_cases hi : i < σ.length
    · rw [List.getElem?_eq_getElem hi, List.getElem?_eq_getElem (by omega)]
      rfl
    · rw [List.getElem?_eq_none (by omega), List.getElem?_eq_none (by omega)]
  · rw [if_neg h, if_neg h, hk i (fun z => h (hj i z)), wipe_get, if_neg h]
def wipeE (δ : En) : List Nat → En
  | [] => δ
  | v :: vs => (wipeE δ vs).set v .un
theorem EnvR.wipe {F : Fm} {L : List Addr} {σ : St} {H : Hp} {δ : En} (R : EnvR K F L σ H δ) : ∀ vs : List Nat, EnvR K F L (L2.wipe σ vs) H (wipeE δ vs)
  | [] => R
  | v :: vs => (EnvR.wipe R vs).set v trivial rfl
def backE (vs : List Nat) : Nat → En → En → En
  | _, [], _ => []
  | k, e :: δ, [] => (if e.mine = true then .un else e) :: backE vs (k + 1) δ []
  | k, e :: δ, e4 :: δ4 => (if e.mine = true then (if vs.contains k = true then .un else e4) else e) :: backE vs (k + 1) δ δ4
theorem backE_len (vs : List Nat) : ∀ (k : Nat) (δ δ4 : En), (backE vs k δ δ4).length = δ.length
  | _, [], _ => rfl
  | k, e :: δ, [] => by
    unfold backE
    rw [List.length_cons, List.length_cons, backE_len]
  | k, e :: δ, e4 :: δ4 => by
    unfold backE
    rw [List.length_cons, List.length_cons, backE_len]
theorem backE_get (vs : List Nat) : ∀ (k : Nat) (δ δ4 : En) (i : Nat) (x : EV), (backE vs k δ δ4)[i]? = some x → x = .un ∨ (x.mine = false ∧ δ[i]? = some x) ∨ (¬ (k + i) ∈ vs ∧ δ4[i]? = some x ∧ ∃ y, δ[i]? = some y ∧ y.mine = true)
  | _, [], _, i, x, h => by simp [backE] at h
  | k, e :: δ, [], i, x, h => by
    unfold backE at h
    cases i with
    | zero =>
      rw [List.getElem?_cons_zero] at h
      by_cases hm : e.mine = true
      · rw [if_pos hm] at h
        cases h
        exact .inl rfl
      · rw [if_neg hm] at h
        cases h
        exact .inr (.inl ⟨by simpa using hm, rfl⟩)
    | succ n =>
      rw [List.getElem?_cons_succ] at h
      rcases backE_get vs (k + 1) δ [] n x h with z | z | ⟨z1, z2, z3⟩
      · exact .inl z
      · exact .inr (.inl (by simpa using z))
      · simp at z2
  | k, e :: δ, e4 :: δ4, i, x, h => by
    unfold backE at h
    cases i with
    | zero =>
      rw [List.getElem?_cons_zero] at h
      by_cases hm : e.mine = true
      · rw [if_pos hm] at h
        by_cases hv : vs.contains k = true
        · rw [if_pos hv] at h
          cases h
          exact .inl rfl
        · rw [if_neg hv] at h
          cases h
          exact .inr (.inr ⟨by simpa using hv, rfl, e, rfl, hm⟩)
      · rw [if_neg hm] at h
        cases h
        exact .inr (.inl ⟨by simpa using hm, rfl⟩)
    | succ n =>
      rw [List.getElem?_cons_succ] at h
      rcases backE_get vs (k + 1) δ δ4 n x h with z | z | ⟨z1, z2, z3⟩
      · exact .inl z
      · exact .inr (.inl (by simpa using z))
      · exact .inr (.inr ⟨by rw [show k + (n + 1) = k + 1 + n by omega]; exact z1, by simpa using z2, by simpa using z3⟩)
/-- what was not one's own stands on -/
theorem SlotR.stp {F : Fm} {L : List Addr} {H H' : Hp} {o : Option (Option V)} {e : EV} (hs : ∀ a, a ∈ F.M ++ L → a ∈ F.B ++ L) (s : Stp F L H H') (hm : e.mine = false) (h : SlotR K F L H o e) : SlotR K F L H' o e := by
  cases e with
  | un => trivial
  | dat d =>
    obtain ⟨v, h1, h2⟩ := h
    exact ⟨v, h1, s.dat hs h2⟩
  | own ds => cases hm
  | bag ds => cases hm
  | odc ds => cases hm
theorem EnvR.back {F : Fm} {L : List Addr} {σ σ2 : St} {H H4 : Hp} {δ δ4 : En} {vs : List Nat} (R : EnvR K F L σ H δ) (s : Stp F L H H4) (R4 : EnvR K F L σ2 H4 δ4) (hk : ∀ i, ¬ i ∈ vs → σ2[i]? = σ[i]?) : EnvR K F L σ H4 (backE vs 0 δ δ4) where
  len := by rw [backE_len, R.len]
  at_ := fun i e h => by
    rcases backE_get vs 0 δ δ4 i e h with rfl | ⟨hm, h1⟩ | ⟨h1, h2, _⟩
    · trivial
    · exact (R.at_ i e h1).stp R.sub s hm
    · rw [Nat.zero_add] at h1
      have := R4.at_ i e h2
      rw [hk i h1] at this
      exact this
  dis := fun i j l e e' hij h h' m m' s1 s2 => by
    rcases backE_get vs 0 δ δ4 i e h with rfl | ⟨hm, _⟩ | ⟨h1, h2, _⟩
    · cases m
    · rw [hm] at m
      cases m
    · rcases backE_get vs 0 δ δ4 j e' h' with rfl | ⟨hm, _⟩ | ⟨k1, k2, _⟩
      · cases m'
      · rw [hm] at m'
        cases m'
      · rw [Nat.zero_add] at h1 k1
        exact R4.dis i j l e e' hij h2 k2 m m' (by rw [hk i h1]; exact s1) (by rw [hk j k1]; exact s2)
  al := R4.al
  mb := R.mb
  lb := R.lb
/-- a hidden object that is no name's own is stored -/
theorem EnvR.updD {F : Fm} {L : List Addr} {σ : St} {H : Hp} {δ : En} {D : Addr} (R : EnvR K F L σ H δ) (hD : D ∈ F.B) (hm : ¬ D ∈ F.M) (o : HO) : EnvR K F L σ (upd H D o) δ := by
  have e0 : Msk (F.B ++ L) (upd H D o) = Msk (F.B ++ L) H := msk_upd (List.mem_append.mpr (.inl hD))
  refine ⟨R.len, fun i e h => ?_, R.dis, fun a ha => ?_, R.mb, R.lb⟩
  · have := R.at_ i e h
    cases e with
    | un => trivial
    | dat d =>
      obtain ⟨v, h1, h2⟩ := this
      exact ⟨v, h1, by rw [e0]; exact h2⟩
    | own ds =>
      obtain ⟨l, vs, h1, h2, h3, h4⟩ := this
      exact ⟨l, vs, h1, h2, by rw [upd_ne (fun z => R.lb l h2 (by rw [z]; exact hD))]; exact h3, by rw [e0]; exact h4⟩
    | odc ds =>
      obtain ⟨l, vs, h1, h2, h3, h4⟩ := this
      exact ⟨l, vs, h1, h2, by rw [upd_ne (fun z => R.lb l h2 (by rw [z]; exact hD))]; exact h3, by rw [e0]; exact h4⟩
    | bag ds =>
      obtain ⟨l, vs, h1, h2, h3, h4⟩ := this
      exact ⟨l, vs, h1, h2, by rw [upd_ne (fun z => hm (by rw [← z]; exact h2))]; exact h3, by rw [e0]; exact h4⟩
  · by_cases z : a = D
    · rw [z, upd_same]
      exact fun q => nomatch q
    · rw [upd_ne z]
      exact R.al a ha
def compL (vs : List Nat) (γ : FG) (τ : FT) (ε : FE) : List PyData → En → Option (List PyData × En)
  | [], δ => some ([], δ)
  | d :: ds, δ => match γ d (wipeE δ vs) with
    | some δ2 => match τ δ2 with
      | some (true, δ3) => match ε δ3 with
        | some (y, δ4) => match compL vs γ τ ε ds (backE vs 0 δ δ4) with
          | some (ys, δ5) => some (y :: ys, δ5)
          | none => none
        | none => none
      | some (false, δ3) => compL vs γ τ ε ds (backE vs 0 δ δ3)
      | none => none
    | none => none
def fLc (φ : FL) (vs : List Nat) (γ : FG) (τ : FT) (ε : FE) : FL := fun δ => match φ δ with
  | some (ds, δ1) => if ds.length ≤ 40000 then compL vs γ τ ε ds δ1 else none
  | none => none
def fYes : FT := fun δ => some (true, δ)
theorem wt_yes : WT K tYes fYes := fun F L σ H δ d δ' e R Q q => by
  cases e
  exact q H Stp.refl R
theorem wl_lc {wi : TI} {g : TG} {tt : TT} {te : TE} {vs js : List Nat} {φ : FL} {γ : FG} {τ : FT} {ε : FE} (hi : WI K wi φ) (hg : WG K g js γ) (hj : ∀ j, j ∈ js → j ∈ vs) (ht : WT K tt τ) (he : WE K te ε) : WL K (tLc wi g tt te vs) (fLc φ vs γ τ ε) := fun F L σ H δ res δ' e R Q q => by
  unfold fLc at e
  split at e
  · next ds δ1 e1 =>
    by_cases hz : ds.length ≤ 40000
    · rw [if_pos hz] at e
      refine hi F L σ H δ ds δ1 e1 R _ fun J H1 s1 R1 it => fun D hD => ?_
      have hDm : ¬ D ∈ F.M := fun z => R1.fresh hD (List.mem_append.mpr (.inl (R.mb D z)))
      have hDl : ¬ D ∈ L := fun z => R1.fresh hD (List.mem_append.mpr (.inr z))
      have hDml : ¬ D ∈ F.M ++ L := fun z => by
        rcases List.mem_append.mp z with z | z
        · exact hDm z
        · exact hDl z
      refine ⟨fun i m H' => m = ds.length - i ∧ ∃ accV accD rest δi, Ex (Msk (F.M ++ L) H1) (Msk (F.M ++ L) H') ∧ EnvR K (F.hide D) L σ H' δi ∧ H' D = some (.lst accV) ∧ RpAll K (Msk ((F.hide D).B ++ L) H') accV accD ∧ compL vs γ τ ε (ds.drop i) δi = some (rest, δ') ∧ res = accD ++ rest ∧ accD.length ≤ i,
        ⟨ds.length, by omega, [], [], res, δ1, ex_msk (Ex.new hD), R1.hide hD _, upd_same, .nil, by rw [List.drop_zero]; exact e, rfl, Nat.zero_le _⟩, ?_⟩
      rintro i m H' ⟨rfl, accV, accD, rest, δi, x, Ri, hD', ra, ec, er, hl⟩
      have xx : Ex (Msk (F.B ++ L) H1) (Msk (F.B ++ (D :: L)) H') := fun a o ea => by
        obtain ⟨h1, h2⟩ := msk_some ea
        have ne : a ≠ D := ne_of_none h2 hD
        rw [msk_out (fun z => by
          rcases List.mem_append.mp z with z | z
          · exact h1 (List.mem_append.mpr (.inl z))
          · rcases List.mem_cons.mp z with z | z
            · exact ne z
            · exact h1 (List.mem_append.mpr (.inr z)))]
        have nm : ¬ a ∈ F.M ++ L := fun z => h1 (R1.sub a z)
        have := x a o (by rw [msk_out nm]; exact h2)
        rw [msk_out nm] at this
        exact this
      have cg : ∀ a, a ∈ F.B ++ (D :: L) ↔ a ∈ (F.hide D).B ++ L := fun a => by
        show _ ↔ a ∈ D :: (F.B ++ L)
        simp only [List.mem_append, List.mem_cons]
        constructor
        · rintro (h | h | h)
          · exact .inr (.inl h)
          · exact .inl h
          · exact .inr (.inr h)
        · rintro (h | h | h)
          · exact .inr (.inl h)
          · exact .inl h
          · exact .inr (.inr h)
      by_cases hi : i < ds.length
      · have hd : ds[i]? = some ds[i] := List.getElem?_eq_getElem hi
        have frD : Fresh (F.B ++ (D :: L)) H' := fun p hp z => Ri.fresh hp ((cg p).mp z)
        obtain ⟨go, yl⟩ := it.go (D :: L) H' xx frD i _ hd
        rw [List.drop_eq_getElem_cons hi] at ec
        refine .inr ⟨go, fun H5 => ∃ accV accD rest δi, Ex (Msk (F.M ++ L) H1) (Msk (F.M ++ L) H5) ∧ EnvR K (F.hide D) L σ H5 δi ∧ H5 D = some (.lst accV) ∧ RpAll K (Msk ((F.hide D).B ++ L) H5) accV accD ∧ compL vs γ τ ε (ds.drop (i + 1)) δi = some (rest, δ') ∧ res = accD ++ rest ∧ accD.length ≤ i + 1, fun H5 hN => ⟨ds.length - (i + 1), by omega, rfl, hN⟩, fun y H2 hy => ?_⟩
        obtain ⟨x2, ry⟩ := yl y H2 hy
        rw [msk_congr cg] at ry
        unfold compL at ec
        split at ec
        · next δ2 eg =>
          refine hg (F.hide D) L (wipe σ vs) H2 (wipeE δi vs) y _ δ2 eg ((Ri.ex x2).wipe vs) ry _ fun σ2 hl2 hk2 Rg => ⟨wipe_eq hl2 hk2 hj, ?_⟩
          have hk : ∀ j, ¬ j ∈ vs → σ2[j]? = σ[j]? := fun j hjv => by rw [hk2 j (fun z => hjv (hj j z)), wipe_get, if_neg hjv]
          split at ec
          · next δ3 et =>
            refine ht (F.hide D) L σ2 H2 δ2 true δ3 et Rg _ fun H3 s3 R3 => ?_
            rw [if_pos rfl]
            split at ec
            · next w δ4 ee =>
              refine he (F.hide D) L σ2 H3 δ3 w δ4 ee R3 _ fun u H4 s4 R4 rw4 => ?_
              have hD4 : H4 D = some (.lst accV) := by
                have := s4 D _ (by rw [msk_out hDml]; exact (msk_some (s3 D _ (by rw [msk_out hDml]; exact x2 D _ hD'))).2)
                exact (msk_some this).2
              refine ⟨accV, hD4, sz_lt (by rw [ra.len]; omega), ?_⟩
              split at ec
              · next ys δ5 ecc =>
                cases ec
                have s24 : Stp (F.hide D) L H' H4 := (Stp.of_ex x2).trans (s3.trans s4)
                have e0 : Msk ((F.hide D).B ++ L) (upd H4 D (.lst (accV ++ [u]))) = Msk ((F.hide D).B ++ L) H4 := msk_upd (List.mem_cons_self)
                refine ⟨accV ++ [u], accD ++ [w], ys, backE vs 0 δi δ4, ?_, ((Ri.back s24 R4 hk).updD (List.mem_cons_self) hDm _), upd_same, ?_, ecc, by rw [er, List.append_assoc]; rfl, by rw [List.length_append]; show _ + 1 ≤ _; omega⟩
                · intro a o ea
                  have h5 := msk_some (x a o ea)
                  have h6 := s24 a o (by rw [msk_out h5.1]; exact h5.2)
                  have ne : a ≠ D := ne_of_none (msk_some ea).2 hD
                  rw [msk_out h5.1, upd_ne ne]
                  exact (msk_some h6).2
                · rw [e0]
                  exact (s24.all Ri.sub ra).app (.cons rw4 .nil)
              · cases ec
            · cases ec
          · next δ3 et =>
            refine ht (F.hide D) L σ2 H2 δ2 false δ3 et Rg _ fun H3 s3 R3 => ?_
            rw [if_neg Bool.false_ne_true]
            have s24 : Stp (F.hide D) L H' H3 := (Stp.of_ex x2).trans s3
            refine ⟨accV, accD, rest, backE vs 0 δi δ3, ?_, Ri.back s24 R3 hk, ?_, s24.all Ri.sub ra, ec, er, by omega⟩
            · intro a o ea
              have h5 := msk_some (x a o ea)
              have h6 := s24 a o (by rw [msk_out h5.1]; exact h5.2)
              rw [msk_out h5.1]
              exact (msk_some h6).2
            · exact (msk_some (s24 D _ (by rw [msk_out hDml]; exact hD'))).2
          · cases ec
        · cases ec
      · rw [List.drop_eq_nil_of_le (by omega)] at ec
        cases ec
        rw [List.append_nil] at er
        subst er
        refine .inl ⟨it.stop (D :: L) H' xx i (by omega), ?_⟩
        exact q D accV H' (new_live R R1 s1 hD) (s1.trans x) Ri hD' ra
    · rw [if_neg hz] at e
      cases e
  · cases e
end
end Sm
namespace Sm
open PySem L2 Evl RZ

section
variable {K : PySem.W.Frag}
/-! ### statements -/
section
variable {F : Fm} {L L1 L2' : List Addr} {H H1 H2 : Hp}
theorem StpS.refl : StpS F L H L H := ⟨Ex.refl _, fun _ h => .inl h, fun _ h => h⟩
theorem StpS.trans (a : StpS F L H L1 H1) (b : StpS F L1 H1 L2' H2) (hm : ∀ a, a ∈ F.M ++ L → H a ≠ none) : StpS F L H L2' H2 where
  ex := fun x o e => by
    obtain ⟨h1, h2⟩ := msk_some e
    have e1 := (msk_some (a.ex x o e)).2
    have n1 : ¬ x ∈ F.M ++ L1 := fun z => by
      rcases List.mem_append.mp z with z | z
      · exact h1 (List.mem_append.mpr (.inl z))
      · rcases a.nw x z with q | q
        · exact h1 (List.mem_append.mpr (.inr q))
        · rw [h2] at q
          cases q
    have e2 := b.ex x o (by rw [msk_out n1]; exact e1)
    rw [msk_out h1]
    exact (msk_some e2).2
  nw := fun x hx => by
    rcases b.nw x hx with h | h
    · exact a.nw x h
    · cases e : H x with
      | none => exact .inr rfl
      | some o => exact absurd h (a.kp x (by rw [e]; exact fun z => nomatch z))
  kp := fun x hx => b.kp x (a.kp x hx)
theorem EnvR.live {σ : St} {δ : En} (R : EnvR K F L σ H δ) : ∀ a, a ∈ F.M ++ L → H a ≠ none := fun a h => R.al a (R.sub a h)
theorem Stp.s {σ σ1 : St} {δ δ1 : En} (s : Stp F L H H1) (R : EnvR K F L σ H δ) (R1 : EnvR K F L σ1 H1 δ1) : StpS F L H L H1 := ⟨s, fun _ h => .inl h, fun a ha q => by
  by_cases hm : a ∈ F.M ++ L
  · exact R1.live a hm q
  · cases e : H a with
    | none => exact ha e
    | some o =>
      have := s a o (by rw [msk_out hm]; exact e)
      rw [msk_out hm, q] at this
      cases this⟩
/-- what is wanted behind goes back over a first step -/
theorem Ok.back {σ σ1 : St} {δ : En} {D : Ends} {o : Out} {ws ws1 ws2 : List Nat} (R : EnvR K F L σ H δ) (s : StpS F L H L1 H1) (hk : ∀ j, ¬ j ∈ ws1 → σ1[j]? = σ[j]?) (h1 : ∀ j, j ∈ ws1 → j ∈ ws) (h2 : ∀ j, j ∈ ws2 → j ∈ ws) (h : Ok K F L σ ws H D o) : Ok K F L1 σ1 ws2 H1 D o := by
  have kk : ∀ {σ' : St}, (∀ j, ¬ j ∈ ws2 → σ'[j]? = σ1[j]?) → ∀ j, ¬ j ∈ ws → σ'[j]? = σ[j]? := fun z j hj => (z j fun q => hj (h2 j q)).trans (hk j fun q => hj (h1 j q))
  cases o with
  | nx δ' => exact fun L' σ' H' s' R' z => h L' σ' H' (s.trans s' R.live) R' (kk z)
  | bk δ' => exact fun L' σ' H' s' R' z => h L' σ' H' (s.trans s' R.live) R' (kk z)
  | ct δ' => exact fun L' σ' H' s' R' z => h L' σ' H' (s.trans s' R.live) R' (kk z)
  | rt d δ' => exact fun L' σ' H' v s' R' r => h L' σ' H' v (s.trans s' R.live) R' r
  | rl ds δ' => exact fun L' σ' H' p vs s' R' hp hn h' r => h L' σ' H' p vs (s.trans s' R.live) R' (by
      rcases hp with hp | hp
      · exact s.nw p hp
      · cases e : H p with
        | none => exact .inr rfl
        | some o => exact absurd hp (s.kp p (by rw [e]; exact fun z => nomatch z))) hn h' r
/-- .. over a step that stores no slot -/
theorem Ok.bk0 {σ : St} {δ : En} {D : Ends} {o : Out} {ws ws2 : List Nat} (R : EnvR K F L σ H δ) (s : StpS F L H L1 H1) (h2 : ∀ j, j ∈ ws2 → j ∈ ws) (h : Ok K F L σ ws H D o) : Ok K F L1 σ ws2 H1 D o := Ok.back (ws1 := []) R s (fun _ _ => rfl) (fun _ z => by simp at z) h2 h
end
def sNx : FS := fun δ => some (.nx δ)
theorem ws_next : WS K tNext [] sNx := fun F L σ H δ o e R D k => by
  cases e
  exact k L σ H StpS.refl R fun _ _ => rfl
theorem in_l {ws vs : List Nat} : ∀ j, j ∈ ws → j ∈ ws ++ vs := fun _ h => List.mem_append.mpr (.inl h)
theorem in_r {ws vs : List Nat} : ∀ j, j ∈ vs → j ∈ ws ++ vs := fun _ h => List.mem_append.mpr (.inr h)
def sSeq (φ ψ : FS) : FS := fun δ => match φ δ with
  | some (.nx δ1) => ψ δ1
  | some (.rt d δ1) => some (.rt d δ1)
  | some (.rl d δ1) => some (.rl d δ1)
  | some (.bk δ1) => some (.bk δ1)
  | some (.ct δ1) => some (.ct δ1)
  | none => none
theorem ws_seq {t u : TS} {ws vs : List Nat} {φ ψ : FS} (h : WS K t ws φ) (h' : WS K u vs ψ) : WS K (tSeq t u) (ws ++ vs) (sSeq φ ψ) := fun F L σ H δ o e R D k => by
  unfold sSeq at e
  split at e
  · next δ1 e1 =>
    refine h F L σ H δ _ e1 R _ fun L1 σ1 H1 s1 R1 k1 => ?_
    exact h' F L1 σ1 H1 δ1 o e R1 D (Ok.back R s1 k1 in_l in_r k)
  · next e1 =>
    cases e
    exact h F L σ H δ _ e1 R _ k
  · next e1 =>
    cases e
    exact h F L σ H δ _ e1 R _ k
  · next δ1 e1 =>
    cases e
    have k' := Ok.bk0 (ws2 := ws) R StpS.refl in_l k
    exact h F L σ H δ (.bk δ1) e1 R { D with nx := u D } k'
  · next δ1 e1 =>
    cases e
    have k' := Ok.bk0 (ws2 := ws) R StpS.refl in_l k
    exact h F L σ H δ (.ct δ1) e1 R { D with nx := u D } k'
  · cases e
def sAsg (φ : FE) (γ : FG) : FS := fun δ => match φ δ with
  | some (d, δ1) => match γ d δ1 with
    | some δ2 => some (.nx δ2)
    | none => none
  | none => none
theorem ws_asg {te : TE} {g : TG} {js : List Nat} {φ : FE} {γ : FG} (h : WE K te φ) (hg : WG K g js γ) : WS K (tAsg te g) js (sAsg φ γ) := fun F L σ H δ o e R D k => by
  unfold sAsg at e
  split at e
  · next d δ1 e1 =>
    split at e
    · next δ2 e2 =>
      cases e
      refine h F L σ H δ d δ1 e1 R _ fun v H1 s1 R1 d1 => ?_
      exact hg F L σ H1 δ1 v d δ2 e2 R1 d1 _ fun σ2 _ kk R2 => k L σ2 H1 (s1.s R R1) R2 kk
    · cases e
  · cases e
/-- x = a new list, x's own -/
def sOwn (i : Nat) (φ : FL) : FS := fun δ => match φ δ with
  | some (ds, δ1) => if i < δ1.length then some (.nx (δ1.set i (.own ds))) else none
  | none => none
theorem hide_cg {F : Fm} {L : List Addr} {p : Addr} : ∀ a, a ∈ (F.hide p).B ++ L ↔ a ∈ F.B ++ (p :: L) := fun a => by
  show a ∈ p :: (F.B ++ L) ↔ _
  simp only [List.mem_append, List.mem_cons]
  constructor
  · rintro (h | h | h)
    · exact .inr (.inl h)
    · exact .inl h
    · exact .inr (.inr h)
  · rintro (h | h | h)
    · exact .inr (.inl h)
    · exact .inl h
    · exact .inr (.inr h)
theorem EnvR.putOwn {F : Fm} {L : List Addr} {σ : St} {H : Hp} {δ : En} {p : Addr} {vs : List V} {ds : List PyData} {i : Nat} (R : EnvR K (F.hide p) L σ H δ) (mb : ∀ a, a ∈ F.M → a ∈ F.B) (hpB : ¬ p ∈ F.B) (hp : H p = some (.lst vs)) (hr : RpAll K (Msk ((F.hide p).B ++ L) H) vs ds) (hi : i < δ.length) :
    EnvR K F (p :: L) (σ.set i (some (.ref p))) H (δ.set i (.own ds)) := by
  have npl : ∀ a, a ∈ L → a ≠ p := fun a ha z => R.lb a ha (by rw [z]; exact List.mem_cons_self)
  have npm : ∀ a, a ∈ F.M → a ≠ p := fun a ha z => hpB (by rw [← z]; exact mb a ha)
  have old : ∀ (j : Nat) (e : EV), δ[j]? = some e → SlotR K F (p :: L) H σ[j]? e ∧ (e.mine = true → σ[j]? ≠ some (some (.ref p))) := fun j e h => by
    have := R.at_ j e h
    cases e with
    | un => exact ⟨trivial, fun z => nomatch z⟩
    | dat d =>
      obtain ⟨v, h1, h2⟩ := this
      rw [msk_congr hide_cg] at h2
      exact ⟨⟨v, h1, h2⟩, fun z => nomatch z⟩
    | own ds =>
      obtain ⟨l, vs, h1, h2, h3, h4⟩ := this
      rw [msk_congr hide_cg] at h4
      refine ⟨⟨l, vs, h1, List.mem_cons_of_mem _ h2, h3, h4⟩, fun _ z => ?_⟩
      rw [h1] at z
      cases z
      exact npl _ h2 rfl
    | odc ds =>
      obtain ⟨l, vs, h1, h2, h3, h4⟩ := this
      rw [msk_congr hide_cg] at h4
      refine ⟨⟨l, vs, h1, List.mem_cons_of_mem _ h2, h3, h4⟩, fun _ z => ?_⟩
      rw [h1] at z
      cases z
      exact npl _ h2 rfl
    | bag ds =>
      obtain ⟨l, vs, h1, h2, h3, h4⟩ := this
      rw [msk_congr hide_cg] at h4
      refine ⟨⟨l, vs, h1, h2, h3, h4⟩, fun _ z => ?_⟩
      rw [h1] at z
      cases z
      exact npm _ h2 rfl
  refine ⟨by rw [List.length_set, List.length_set, R.len], fun j e h => ?_, fun a b l e1 e2 hab h1 h2 m1 m2 s1 s2 => ?_, fun a ha => R.al a ((hide_cg a).mpr ha), mb, fun a ha => ?_⟩
  · rw [get_set] at h ⊢
    by_cases hij : i = j
    · rw [if_pos hij] at h ⊢
      subst hij
      rw [if_pos hi] at h
      rw [if_pos (by rw [R.len]; exact hi)]
      cases h
      rw [msk_congr hide_cg] at hr
      exact ⟨p, vs, rfl, List.mem_cons_self, hp, hr⟩
    · rw [if_neg hij] at h ⊢
      exact (old j e h).1
  · rw [get_set] at h1 h2 s1 s2
    by_cases ha : i = a
    · have hb : ¬ i = b := fun z => hab (ha.symm.trans z)
      rw [if_neg hb] at h2 s2
      rw [if_pos ha] at s1
      split at s1
      · cases s1
        exact (old b e2 h2).2 m2 s2
      · cases s1
    · rw [if_neg ha] at h1 s1
      by_cases hb : i = b
      · rw [if_pos hb] at s2
        split at s2
        · cases s2
          exact (old a e1 h1).2 m1 s1
        · cases s2
      · rw [if_neg hb] at h2 s2
        exact R.dis a b l e1 e2 hab h1 h2 m1 m2 s1 s2
  · rcases List.mem_cons.mp ha with z | z
    · rw [z]
      exact hpB
    · exact fun q => R.lb a z (List.mem_cons_of_mem _ q)
theorem ws_own {te : TE} {i : Nat} {φ : FL} (h : WL K te φ) : WS K (tAsg te (gName i)) [i] (sOwn i φ) := fun F L σ H δ o e R D k => by
  unfold sOwn at e
  split at e
  · next ds δ1 e1 =>
    by_cases hi : i < δ1.length
    · rw [if_pos hi] at e
      cases e
      refine h F L σ H δ ds δ1 e1 R _ fun p vs H2 hp s R2 h2 d2 => ?_
      have hn := R.fresh hp
      have hpB : ¬ p ∈ F.B := fun z => hn (List.mem_append.mpr (.inl z))
      refine k (p :: L) _ H2 ⟨s, fun a ha => ?_, (s.s R (R2.show R.mb)).kp⟩ (R2.putOwn R.mb hpB h2 d2 hi) (fun j hj => by rw [get_set, if_neg (fun z => hj (by rw [z]; exact List.mem_singleton.mpr rfl))])
      rcases List.mem_cons.mp ha with z | z
      · rw [z]
        exact .inr hp
      · exact .inl z
    · rw [if_neg hi] at e
      cases e
  · cases e
def EV.cont : EV → Option (List PyData)
  | .own ds => some ds
  | .bag ds => some ds
  | _ => none
def EV.lm : EV → Bool
  | .own _ => true
  | .bag _ => true
  | _ => false
theorem EV.lm_mine : ∀ {e : EV}, e.lm = true → e.mine = true
  | .own _, _ => rfl
  | .bag _, _ => rfl
  | .un, h => nomatch h
  | .dat _, h => nomatch h
  | .odc _, h => nomatch h
def EV.with : EV → List PyData → EV
  | .own _, ds => .own ds
  | .bag _, ds => .bag ds
  | e, _ => e
def ownAt (δ : En) (i : Nat) : Option (List PyData) := match δ[i]? with
  | some e => e.cont
  | none => none
def setOwn (δ : En) (i : Nat) (ds : List PyData) : En := match δ[i]? with
  | some e => δ.set i (e.with ds)
  | none => δ
theorem own_at {F : Fm} {L : List Addr} {σ : St} {H : Hp} {δ : En} (R : EnvR K F L σ H δ) {i : Nat} {ds : List PyData} (h : ownAt δ i = some ds) : ∃ e l vs, δ[i]? = some e ∧ e.lm = true ∧ σ[i]? = some (some (.ref l)) ∧ l ∈ F.M ++ L ∧ H l = some (.lst vs) ∧ RpAll K (Msk (F.B ++ L) H) vs ds := by
  unfold ownAt at h
  split at h
  · next e he =>
    have := R.at_ i e he
    cases e with
    | own ds' =>
      cases h
      obtain ⟨l, vs, h1, h2, h3, h4⟩ := this
      exact ⟨_, l, vs, he, rfl, h1, List.mem_append.mpr (.inr h2), h3, h4⟩
    | bag ds' =>
      cases h
      obtain ⟨l, vs, h1, h2, h3, h4⟩ := this
      exact ⟨_, l, vs, he, rfl, h1, List.mem_append.mpr (.inl h2), h3, h4⟩
    | _ => cases h
  · cases h
/-- an own list has changed, and perhaps more is there -/
theorem EnvR.updOwn {F : Fm} {L : List Addr} {σ : St} {H H' : Hp} {δ : En} {i : Nat} {l : Addr} {e : EV} {vs : List V} {ds : List PyData} (R : EnvR K F L σ H δ) (he : δ[i]? = some e) (hm0 : e.lm = true) (hs : σ[i]? = some (some (.ref l))) (hl : l ∈ F.M ++ L)
    (x : Ex (Msk [l] H) (Msk [l] H')) (h' : H' l = some (.lst vs)) (hr : RpAll K (Msk (F.B ++ L) H') vs ds) : EnvR K F L σ H' (setOwn δ i ds) ∧ Stp F L H H' := by
  have hm : e.mine = true := EV.lm_mine hm0
  have st : Stp F L H H' := msk_ex x (fun a ha => by rw [List.mem_singleton.mp ha]; exact hl)
  have eo : setOwn δ i ds = δ.set i (e.with ds) := by
    unfold setOwn
    rw [he]
  have hil : i < δ.length := (List.getElem?_eq_some_iff.mp he).1
  have xa : ∀ a o, a ≠ l → H a = some o → H' a = some o := fun a o ne ho => by
    have nm : ¬ a ∈ [l] := fun z => ne (List.mem_singleton.mp z)
    have := x a o (by rw [msk_out nm]; exact ho)
    exact (msk_some this).2
  refine ⟨?_, st⟩
  rw [eo]
  refine ⟨by rw [List.length_set]; exact R.len, fun j e' h => ?_, fun a b l' e1 e2 hab h1 h2 m1 m2 s1 s2 => ?_, fun a ha => ?_, R.mb, R.lb⟩
  · rw [get_set] at h
    by_cases hij : i = j
    · subst hij
      rw [if_pos rfl, if_pos hil] at h
      have ha := R.at_ i e he
      cases e with
      | own ds' =>
        cases h
        obtain ⟨l2, vs2, k1, k2, k3, k4⟩ := ha
        rw [hs] at k1
        cases k1
        exact ⟨l, vs, hs, k2, h', hr⟩
      | bag ds' =>
        cases h
        obtain ⟨l2, vs2, k1, k2, k3, k4⟩ := ha
        rw [hs] at k1
        cases k1
        exact ⟨l, vs, hs, k2, h', hr⟩
      | _ => cases hm0
    · rw [if_neg hij] at h
      have ha := R.at_ j e' h
      cases e' with
      | un => trivial
      | dat d =>
        obtain ⟨v, k1, k2⟩ := ha
        exact ⟨v, k1, st.dat R.sub k2⟩
      | own ds' =>
        obtain ⟨l2, vs2, k1, k2, k3, k4⟩ := ha
        have ne : l2 ≠ l := fun z => by
          subst z
          exact R.dis i j l2 e _ hij he h hm rfl hs k1
        exact ⟨l2, vs2, k1, k2, xa _ _ ne k3, st.all R.sub k4⟩
      | odc ds' =>
        obtain ⟨l2, vs2, k1, k2, k3, k4⟩ := ha
        have ne : l2 ≠ l := fun z => by
          subst z
          exact R.dis i j l2 e _ hij he h hm rfl hs k1
        exact ⟨l2, vs2, k1, k2, xa _ _ ne k3, st.kvs R.sub k4⟩
      | bag ds' =>
        obtain ⟨l2, vs2, k1, k2, k3, k4⟩ := ha
        have ne : l2 ≠ l := fun z => by
          subst z
          exact R.dis i j l2 e _ hij he h hm rfl hs k1
        exact ⟨l2, vs2, k1, k2, xa _ _ ne k3, st.all R.sub k4⟩
  · rw [get_set] at h1 h2
    have back : ∀ (c : Nat) (ec : EV), (if i = c then if c < δ.length then some (e.with ds) else none else δ[c]?) = some ec → ec.mine = true → ∃ ec', δ[c]? = some ec' ∧ ec'.mine = true := fun c ec hc mc => by
      by_cases z : i = c
      · subst z
        exact ⟨e, he, hm⟩
      · rw [if_neg z] at hc
        exact ⟨ec, hc, mc⟩
    obtain ⟨f1, g1, n1⟩ := back a e1 h1 m1
    obtain ⟨f2, g2, n2⟩ := back b e2 h2 m2
    exact R.dis a b l' f1 f2 hab g1 g2 n1 n2 s1 s2
  · by_cases z : a = l
    · rw [z, h']
      exact fun q => nomatch q
    · cases q : H a with
      | none => exact absurd q (R.al a ha)
      | some o =>
        rw [xa a o z q]
        exact fun q => nomatch q
theorem upd_ex1 {H : Hp} {l : Addr} {o : HO} : Ex (Msk [l] H) (Msk [l] (upd H l o)) := by
  rw [msk_upd (List.mem_singleton.mpr rfl)]
  exact Ex.refl _
theorem EnvR.upd1 {F : Fm} {L : List Addr} {σ : St} {H : Hp} {δ : En} {i : Nat} {l : Addr} {e : EV} {vs : List V} {ds : List PyData} (R : EnvR K F L σ H δ) (he : δ[i]? = some e) (hm0 : e.lm = true) (hs : σ[i]? = some (some (.ref l))) (hl : l ∈ F.M ++ L)
    (hr : RpAll K (Msk (F.B ++ L) H) vs ds) : EnvR K F L σ (upd H l (.lst vs)) (setOwn δ i ds) ∧ Stp F L H (upd H l (.lst vs)) :=
  R.updOwn he hm0 hs hl upd_ex1 upd_same (by rw [msk_upd (R.sub l hl)]; exact hr)
/-- xs.append(e) -/
def sApp (i : Nat) (φ : FE) : FS := fun δ => match ownAt δ i with
  | some _ => match φ δ with
    | some (d, δ1) => match ownAt δ1 i with
      | some ds => if ds.length < 50000 then some (.nx (setOwn δ1 i (ds ++ [d]))) else none
      | none => none
    | none => none
  | none => none
theorem ws_app {te : TE} {i : Nat} {φ : FE} (h : WE K te φ) : WS K (tDrop (tBM K "list" rAppend (tVar i) (tCons te tNil))) [] (sApp i φ) := fun F L σ H δ o e R D k => by
  unfold sApp at e
  split at e
  · next ds0 e0 =>
    split at e
    · next d δ1 e1 =>
      split at e
      · next ds e2 =>
        by_cases hz : ds.length < 50000
        · rw [if_pos hz] at e
          cases e
          obtain ⟨ev, l, vs, he, hm, hs, hl, h1, hr⟩ := own_at R e0
          refine ⟨_, hs, .inl ⟨rfl, vs, sq_of h1⟩, h F L σ H δ d δ1 e1 R _ fun v H1 s1 R1 d1 => ?_⟩
          obtain ⟨ev', l', vs', he', hm', hs', hl', h1', hr'⟩ := own_at R1 e2
          rw [hs] at hs'
          cases hs'
          obtain ⟨R2, s2⟩ := R1.upd1 he' hm' hs hl' (hr'.app (.cons d1 .nil))
          refine ⟨l, vs', v, rfl, rfl, h1', sz_lt (by rw [hr'.len]; omega), k L σ _ ((s1.trans s2).s R R2) R2 fun _ _ => rfl⟩
        · rw [if_neg hz] at e
          cases e
      · cases e
    · cases e
  · cases e
/-- xs.extend(e) -/
def sExt (i : Nat) (φ : FE) : FS := fun δ => match ownAt δ i with
  | some _ => match φ δ with
    | some (.list zs, δ1) => match ownAt δ1 i with
      | some ds => if ds.length + zs.length < 50000 then some (.nx (setOwn δ1 i (ds ++ zs))) else none
      | none => none
    | _ => none
  | none => none
theorem ws_ext {te : TE} {i : Nat} {φ : FE} (h : WE K te φ) : WS K (tDrop (tBM K "list" rExtend (tVar i) (tCons te tNil))) [] (sExt i φ) := fun F L σ H δ o e R D k => by
  unfold sExt at e
  split at e
  · next ds0 e0 =>
    split at e
    · next zs δ1 e1 =>
      split at e
      · next ds e2 =>
        by_cases hz : ds.length + zs.length < 50000
        · rw [if_pos hz] at e
          cases e
          obtain ⟨ev, l, vs, he, hm, hs, hl, h1, hr⟩ := own_at R e0
          refine ⟨_, hs, .inl ⟨rfl, vs, sq_of h1⟩, h F L σ H δ _ δ1 e1 R _ fun v H1 s1 R1 d1 => ?_⟩
          obtain ⟨ev', l', vs', he', hm', hs', hl', h1', hr'⟩ := own_at R1 e2
          rw [hs] at hs'
          cases hs'
          cases d1 with
          | @lst b ws _ k1 k2 =>
            obtain ⟨R2, s2⟩ := R1.upd1 he' hm' hs hl' (hr'.app k2)
            refine ⟨l, b, vs', ws, rfl, rfl, h1', (msk_some k1).2, sz_of (by rw [hr'.len, k2.len]; omega), k L σ _ ((s1.trans s2).s R R2) R2 fun _ _ => rfl⟩
        · rw [if_neg hz] at e
          cases e
      · cases e
    · cases e
  · cases e
/-- xs.insert(i, e) -/
abbrev rIns : V → List V → Hp → VK → Prop := fun x vs H Q => ∃ (l : Addr) (xs : List V) (i : Int) (y : V), x = .ref l ∧ vs = [.int i, y] ∧ H l = some (.lst xs) ∧ xs.length < sizeLine ∧ 0 ≤ i ∧ i < 2 ^ 63 ∧
    Q .non (upd H l (.lst (xs.take i.toNat ++ [y] ++ xs.drop i.toNat)))
def sIns (i : Nat) (φ ψ : FE) : FS := fun δ => match ownAt δ i with
  | some _ => match φ δ with
    | some (.int j, δ1) => match ψ δ1 with
      | some (d, δ2) => match ownAt δ2 i with
        | some ds => if ds.length < 50000 ∧ 0 ≤ j ∧ j < 50000 then some (.nx (setOwn δ2 i (ds.take j.toNat ++ [d] ++ ds.drop j.toNat))) else none
        | none => none
      | none => none
    | _ => none
  | none => none
theorem ws_ins {ta tb : TE} {i : Nat} {φ ψ : FE} (h : WE K ta φ) (h' : WE K tb ψ) : WS K (tDrop (tBM K "list" rIns (tVar i) (tCons ta (tCons tb tNil)))) [] (sIns i φ ψ) := fun F L σ H δ o e R D k => by
  unfold sIns at e
  split at e
  · next ds0 e0 =>
    split at e
    · next j δ1 e1 =>
      split at e
      · next d δ2 e2 =>
        split at e
        · next ds e3 =>
          by_cases hz : ds.length < 50000 ∧ 0 ≤ j ∧ j < 50000
          · rw [if_pos hz] at e
            cases e
            obtain ⟨ev, l, vs, he, hm, hs, hl, h1, hr⟩ := own_at R e0
            refine ⟨_, hs, .inl ⟨rfl, vs, sq_of h1⟩, h F L σ H δ _ δ1 e1 R _ fun v H1 s1 R1 d1 => ?_⟩
            refine h' F L σ H1 δ1 d δ2 e2 R1 _ fun w H2 s2 R2 d2 => ?_
            obtain ⟨ev', l', vs', he', hm', hs', hl', h1', hr'⟩ := own_at R2 e3
            rw [hs] at hs'
            cases hs'
            cases d1
            obtain ⟨R3, s3⟩ := R2.upd1 he' hm' hs hl' (((hr'.take j.toNat).app (.cons d2 .nil)).app (hr'.drop j.toNat))
            exact ⟨l, vs', j, w, rfl, rfl, h1', sz_lt (by rw [hr'.len]; omega), hz.2.1, by omega, k L σ _ (((s1.trans s2).trans s3).s R R3) R3 fun _ _ => rfl⟩
          · rw [if_neg hz] at e
            cases e
        · cases e
      · cases e
    · cases e
  · cases e
/-- xs[i] = e -/
def sSetIx (i : Nat) (φ ψ : FE) : FS := fun δ => match φ δ with
  | some (d, δ1) => match ownAt δ1 i with
    | some _ => match ψ δ1 with
      | some (.int j, δ2) => match ownAt δ2 i with
        | some ds => match ixN ds.length j with
          | some n => some (.nx (setOwn δ2 i (ds.set n d)))
          | none => none
        | none => none
      | _ => none
    | none => none
  | none => none
theorem ws_setIx {te ti : TE} {i : Nat} {φ ψ : FE} (h : WE K te φ) (h' : WE K ti ψ) : WS K (tAsg te (gSub (tVar i) ti rSetL)) [] (sSetIx i φ ψ) := fun F L σ H δ o e R D k => by
  unfold sSetIx at e
  split at e
  · next d δ1 e1 =>
    split at e
    · next ds0 e0 =>
      split at e
      · next j δ2 e2 =>
        split at e
        · next ds e3 =>
          split at e
          · next n e4 =>
            cases e
            refine h F L σ H δ d δ1 e1 R _ fun v H1 s1 R1 d1 => ?_
            obtain ⟨ev, l, vs, he, hm, hs, hl, h1, hr⟩ := own_at R1 e0
            refine ⟨_, hs, h' F L σ H1 δ1 _ δ2 e2 R1 _ fun w H2 s2 R2 d2 => ?_⟩
            obtain ⟨ev', l', vs', he', hm', hs', hl', h1', hr'⟩ := own_at R2 e3
            rw [hs] at hs'
            cases hs'
            cases d2
            obtain ⟨R3, s3⟩ := R2.upd1 he' hm' hs hl' (hr'.set n (s2.dat R1.sub d1))
            exact ⟨l, vs', j, n, rfl, rfl, h1', by rw [hr'.len]; exact e4, k L σ _ (((s1.trans s2).trans s3).s R R3) R3 fun _ _ => rfl⟩
          · cases e
        · cases e
      · cases e
    · cases e
  · cases e
/-- xs[e] of an own list, xs[a:b] -/
def fIxO (i : Nat) (φ : FE) : FE := fun δ => match ownAt δ i with
  | some _ => match φ δ with
    | some (.int j, δ1) => match ownAt δ1 i with
      | some ds => match atI ds j with
        | some d => some (d, δ1)
        | none => none
      | none => none
    | _ => none
  | none => none
theorem we_ixO {ti : TE} {i : Nat} {φ : FE} (h : WE K ti φ) : WE K (tOp (rIx K) (tVar i) ti) (fIxO i φ) := fun F L σ H δ d δ' e R Q q => by
  unfold fIxO at e
  split at e
  · next ds0 e0 =>
    split at e
    · next j δ1 e1 =>
      split at e
      · next ds e2 =>
        split at e
        · next d' e3 =>
          cases e
          obtain ⟨ev, l, vs, he, hm, hs, hl, h1, hr⟩ := own_at R e0
          refine ⟨_, hs, h F L σ H δ _ _ e1 R _ fun v H1 s1 R1 d1 => ?_⟩
          obtain ⟨ev', l', vs', he', hm', hs', hl', h1', hr'⟩ := own_at R1 e2
          rw [hs] at hs'
          cases hs'
          cases d1
          obtain ⟨v, hv, rv⟩ := atI_of hr' e3
          exact .inl ⟨l, vs', j, v, rfl, rfl, sq_of h1', hv, q v H1 s1 R1 rv⟩
        · cases e
      · cases e
    · cases e
  · cases e
def fSlO (i : Nat) (lo hi : FO) : FE := fun δ => match ownAt δ i with
  | some _ => match lo δ with
    | some (l, δ1) => match hi δ1 with
      | some (u, δ2) => match ownAt δ2 i with
        | some ds => some (.list (cutD ds l u), δ2)
        | none => none
      | none => none
    | none => none
  | none => none
theorem we_slO {tl th : TO} {i : Nat} {lo hi : FO} (hl : WO K tl lo) (hh : WO K th hi) : WE K (tSl (rSlA3 K) (tVar i) tl th) (fSlO i lo hi) := fun F L σ H δ d δ' e R Q q => by
  unfold fSlO at e
  split at e
  · next ds0 e0 =>
    split at e
    · next a δ1 e1 =>
      split at e
      · next b δ2 e2 =>
        split at e
        · next ds e3 =>
          cases e
          obtain ⟨ev, l, vs, he, hm, hs, hl', h1, hr⟩ := own_at R e0
          refine ⟨_, hs, hl F L σ H δ _ _ e1 R _ fun H1 s1 R1 => ?_⟩
          refine hh F L σ H1 δ1 _ _ e2 R1 _ fun H2 s2 R2 => ?_
          obtain ⟨ev', l', vs', he', hm', hs', hl'', h1', hr'⟩ := own_at R2 e3
          rw [hs] at hs'
          cases hs'
          refine .inl ⟨l, vs', rfl, sq_of h1', fun p hp => ?_⟩
          exact q _ _ ((s1.trans s2).trans (Stp.of_ex (Ex.new hp))) (R2.ex (Ex.new hp)) (new_lst (R2.fresh hp) (cut_of hr' _ _) hp)
        · cases e
      · cases e
    · cases e
  · cases e
end
end Sm
namespace Sm
open PySem L2 Evl RZ

section
variable {K : PySem.W.Frag}
def sRet (φ : FE) : FS := fun δ => match φ δ with
  | some (d, δ1) => some (.rt d δ1)
  | none => none
theorem ws_ret {te : TE} {φ : FE} (h : WE K te φ) : WS K (tRet te) [] (sRet φ) := fun F L σ H δ o e R D k => by
  unfold sRet at e
  split at e
  · next d δ1 e1 =>
    cases e
    exact h F L σ H δ d δ1 e1 R _ fun v H1 s1 R1 d1 => k L σ H1 v (s1.s R R1) R1 d1
  · cases e
/-- a new list is handed back -/
def sRetL (φ : FL) : FS := fun δ => match φ δ with
  | some (d, δ1) => some (.rl d δ1)
  | none => none
theorem ws_retL {te : TE} {φ : FL} (h : WL K te φ) : WS K (tRet te) [] (sRetL φ) := fun F L σ H δ o e R D k => by
  unfold sRetL at e
  split at e
  · next d δ1 e1 =>
    cases e
    refine h F L σ H δ d δ1 e1 R _ fun p vs H1 hp s1 R1 h1 d1 => ?_
    have R1' := R1.show R.mb
    exact k L σ H1 p vs (s1.s R R1') R1' (.inr hp) (R.fresh hp) h1 d1
  · cases e
/-- an own list is handed back -/
def sRetO (i : Nat) : FS := fun δ => match δ[i]? with
  | some (.own ds) => some (.rl ds (δ.set i .un))
  | _ => none
theorem filt_sub {L : List Addr} {l a : Addr} (h : a ∈ L.filter (· != l)) : a ∈ L ∧ a ≠ l := by
  rw [List.mem_filter] at h
  exact ⟨h.1, by simpa using h.2⟩
theorem filt_in {L : List Addr} {l a : Addr} (h : a ∈ L) (hn : a ≠ l) : a ∈ L.filter (· != l) := by
  rw [List.mem_filter]
  exact ⟨h, by simpa using hn⟩
/-- an own list becomes data -/
theorem EnvR.freeze {F : Fm} {L : List Addr} {σ : St} {H : Hp} {δ : En} (R : EnvR K F L σ H δ) {i : Nat} {ds : List PyData} (h : δ[i]? = some (.own ds)) : ∃ l vs, σ[i]? = some (some (.ref l)) ∧ l ∈ L ∧ H l = some (.lst vs) ∧ RpAll K (Msk (l :: (F.B ++ L.filter (· != l))) H) vs ds ∧ ¬ l ∈ F.B ++ L.filter (· != l) ∧
    ∀ e : EV, e.mine = false → SlotR K F (L.filter (· != l)) H (some (some (.ref l))) e → EnvR K F (L.filter (· != l)) σ H (δ.set i e) := by
  obtain ⟨l, vs, h1, h2, h3, h4⟩ := R.at_ i _ h
  have hil : i < δ.length := (List.getElem?_eq_some_iff.mp h).1
  have cg : ∀ a, a ∈ F.B ++ L ↔ a ∈ l :: (F.B ++ L.filter (· != l)) := fun a => by
    simp only [List.mem_append, List.mem_cons]
    constructor
    · rintro (z | z)
      · exact .inr (.inl z)
      · by_cases q : a = l
        · exact .inl q
        · exact .inr (.inr (filt_in z q))
    · rintro (z | z | z)
      · rw [z]
        exact .inr h2
      · exact .inl z
      · exact .inr (filt_sub z).1
  have nl : ¬ l ∈ F.B ++ L.filter (· != l) := fun z => by
    rcases List.mem_append.mp z with z | z
    · exact R.lb l h2 z
    · exact (filt_sub z).2 rfl
  have xm : Ex (Msk (F.B ++ L) H) (Msk (F.B ++ L.filter (· != l)) H) := msk_sub fun a ha => by
    rcases List.mem_append.mp ha with z | z
    · exact List.mem_append.mpr (.inl z)
    · exact List.mem_append.mpr (.inr (filt_sub z).1)
  refine ⟨l, vs, h1, h2, h3, by rw [← msk_congr cg]; exact h4, nl, fun e hm he => ⟨by rw [List.length_set]; exact R.len, fun j e' hj => ?_, fun a b l' e1 e2 hab k1 k2 m1 m2 s1 s2 => ?_, fun a ha => ?_, R.mb, fun a ha => R.lb a (filt_sub ha).1⟩⟩
  · rw [get_set] at hj
    by_cases hij : i = j
    · subst hij
      rw [if_pos rfl, if_pos hil] at hj
      cases hj
      rw [h1]
      exact he
    · rw [if_neg hij] at hj
      have ha := R.at_ j e' hj
      cases e' with
      | un => trivial
      | dat d =>
        obtain ⟨v, k1, k2⟩ := ha
        exact ⟨v, k1, Rp.mono xm _ _ k2⟩
      | own ds' =>
        obtain ⟨l2, vs2, k1, k2, k3, k4⟩ := ha
        have ne : l2 ≠ l := fun z => by
          subst z
          exact R.dis i j l2 _ _ hij h hj rfl rfl h1 k1
        exact ⟨l2, vs2, k1, filt_in k2 ne, k3, RpAll.mono xm _ _ k4⟩
      | odc ds' =>
        obtain ⟨l2, vs2, k1, k2, k3, k4⟩ := ha
        have ne : l2 ≠ l := fun z => by
          subst z
          exact R.dis i j l2 _ _ hij h hj rfl rfl h1 k1
        exact ⟨l2, vs2, k1, filt_in k2 ne, k3, RpKV.mono xm _ _ k4⟩
      | bag ds' =>
        obtain ⟨l2, vs2, k1, k2, k3, k4⟩ := ha
        exact ⟨l2, vs2, k1, k2, k3, RpAll.mono xm _ _ k4⟩
  · rw [get_set] at k1 k2
    by_cases ha : i = a
    · rw [if_pos ha] at k1
      split at k1
      · cases k1
        rw [hm] at m1
        cases m1
      · cases k1
    · by_cases hb : i = b
      · rw [if_pos hb] at k2
        split at k2
        · cases k2
          rw [hm] at m2
          cases m2
        · cases k2
      · rw [if_neg ha] at k1
        rw [if_neg hb] at k2
        exact R.dis a b l' e1 e2 hab k1 k2 m1 m2 s1 s2
  · exact R.al a (by
      rcases List.mem_append.mp ha with z | z
      · exact List.mem_append.mpr (.inl z)
      · exact List.mem_append.mpr (.inr (filt_sub z).1))
theorem ws_retO {i : Nat} : WS K (tRet (tVar i)) [] (sRetO i) := fun F L σ H δ o e R D k => by
  unfold sRetO at e
  split at e
  · next ds h =>
    cases e
    obtain ⟨l, vs, h1, h2, h3, h4, h5, h6⟩ := R.freeze h
    exact ⟨_, h1, k (L.filter (· != l)) σ H l vs ⟨Ex.refl _, fun a ha => .inl (filt_sub ha).1, fun _ z => z⟩ (h6 .un rfl trivial) (.inl h2) h5 h3 h4⟩
  · cases e
/-- from here on an own list is data -/
def sFrz (i : Nat) (φ : FS) : FS := fun δ => match δ[i]? with
  | some (.own ds) => φ (δ.set i (.dat (.list ds)))
  | _ => none
theorem ws_frz {t : TS} {ws : List Nat} {i : Nat} {φ : FS} (h : WS K t ws φ) : WS K t ws (sFrz i φ) := fun F L σ H δ o e R D k => by
  unfold sFrz at e
  split at e
  · next ds hd =>
    obtain ⟨l, vs, h1, h2, h3, h4, h5, h6⟩ := R.freeze hd
    have s : StpS F L H (L.filter (· != l)) H := ⟨Ex.refl _, fun a ha => .inl (filt_sub ha).1, fun _ z => z⟩
    refine h F _ σ H _ o e (h6 (.dat (.list ds)) rfl ⟨_, rfl, .lst (by rw [msk_out h5]; exact h3) (RpAll.mono (msk_sub fun a ha => List.mem_cons_of_mem _ ha) _ _ h4)⟩) D (Ok.bk0 R s (fun _ z => z) k)
  · cases e
def sDrop (φ : FE) : FS := fun δ => match φ δ with
  | some (_, δ1) => some (.nx δ1)
  | none => none
theorem ws_drop {te : TE} {φ : FE} (h : WE K te φ) : WS K (tDrop te) [] (sDrop φ) := fun F L σ H δ o e R D k => by
  unfold sDrop at e
  split at e
  · next d δ1 e1 =>
    cases e
    exact h F L σ H δ d δ1 e1 R _ fun v H1 s1 R1 d1 => k L σ H1 (s1.s R R1) R1 fun _ _ => rfl
  · cases e
def sIf (τ : FT) (φ ψ : FS) : FS := fun δ => match τ δ with
  | some (true, δ1) => φ δ1
  | some (false, δ1) => ψ δ1
  | none => none
theorem ws_if {tt : TT} {t u : TS} {ws vs : List Nat} {τ : FT} {φ ψ : FS} (h : WT K tt τ) (h1 : WS K t ws φ) (h2 : WS K u vs ψ) : WS K (tIfS tt t u) (ws ++ vs) (sIf τ φ ψ) := fun F L σ H δ o e R D k => by
  unfold sIf at e
  split at e
  · next δ1 e1 =>
    refine h F L σ H δ true δ1 e1 R _ fun H1 s1 R1 => ?_
    rw [if_pos rfl]
    exact h1 F L σ H1 δ1 o e R1 D (Ok.bk0 R (s1.s R R1) in_l k)
  · next δ1 e1 =>
    refine h F L σ H δ false δ1 e1 R _ fun H1 s1 R1 => ?_
    rw [if_neg Bool.false_ne_true]
    exact h2 F L σ H1 δ1 o e R1 D (Ok.bk0 R (s1.s R R1) in_r k)
  · cases e
/-- a, b = e, f -/
def sPar (i j : Nat) (φ : FL) : FS := fun δ => match φ δ with
  | some ([x, y], δ1) => some (.nx ((δ1.set i (.dat x)).set j (.dat y)))
  | _ => none
theorem ws_par {ta : TA} {i j : Nat} {φ : FL} (h : WA K ta φ) : WS K (tPar i j ta) [i, j] (sPar i j φ) := fun F L σ H δ o e R D k => by
  unfold sPar at e
  split at e
  · next x y δ1 e1 =>
    cases e
    refine h F L σ H δ _ δ1 e1 R _ fun vs H1 s1 R1 d1 => ?_
    cases d1 with
    | cons r1 r2 =>
      cases r2 with
      | cons r3 r4 =>
        cases r4
        exact ⟨_, _, rfl, k L _ H1 (s1.s R R1) ((R1.put i r1).put j r3) fun m hm => by rw [get_set, if_neg (fun z => hm (by rw [z]; simp)), get_set, if_neg (fun z => hm (by rw [z]; simp))]⟩
  · cases e
/-! ### loops -/
def loopF (γ : FG) (β : FS) : List PyData → En → Option Out
  | [], δ => some (.nx δ)
  | d :: ds, δ => match γ d δ with
    | some δ2 => match β δ2 with
      | some (.nx δ3) => loopF γ β ds δ3
      | some (.ct δ3) => loopF γ β ds δ3
      | some (.bk δ3) => some (.nx δ3)
      | some (.rt v δ3) => some (.rt v δ3)
      | some (.rl v δ3) => some (.rl v δ3)
      | none => none
    | none => none
def sFor (φ : FL) (γ : FG) (β : FS) : FS := fun δ => match φ δ with
  | some (ds, δ1) => loopF γ β ds δ1
  | none => none
theorem ws_for {wi : TI} {g : TG} {tb : TS} {js ws : List Nat} {φ : FL} {γ : FG} {β : FS} (hi : WI K wi φ) (hg : WG K g js γ) (hb : WS K tb ws β) : WS K (tFor wi g tb) (js ++ ws) (sFor φ γ β) := fun F L σ H δ o e R D k => by
  unfold sFor at e
  split at e
  · next ds δ1 e1 =>
    refine hi F L σ H δ ds δ1 e1 R _ fun J H1 s1 R1 it => ?_
    have k1 := Ok.bk0 (ws2 := js ++ ws) R (s1.s R R1) (fun _ z => z) k
    refine ⟨fun i m σ' H' => m = ds.length - i ∧ ∃ L' δ', StpS F L H1 L' H' ∧ EnvR K F L' σ' H' δ' ∧ loopF γ β (ds.drop i) δ' = some o ∧ ∀ j, ¬ j ∈ js ++ ws → σ'[j]? = σ[j]?, ⟨ds.length, by omega, L, δ1, StpS.refl, R1, by rw [List.drop_zero]; exact e, fun _ _ => rfl⟩, ?_⟩
    rintro i m σ' H' ⟨rfl, L', δ', s, R', el, kk⟩
    have xx : Ex (Msk (F.B ++ L) H1) (Msk (F.B ++ L') H') := fun a u ea => by
      obtain ⟨h1, h2⟩ := msk_some ea
      have nm : ¬ a ∈ F.M ++ L := fun z => h1 (R1.sub a z)
      have h3 := (msk_some (s.ex a u (by rw [msk_out nm]; exact h2))).2
      rw [msk_out (fun z => by
        rcases List.mem_append.mp z with z | z
        · exact h1 (List.mem_append.mpr (.inl z))
        · rcases s.nw a z with q | q
          · exact h1 (List.mem_append.mpr (.inr q))
          · rw [h2] at q
            cases q)]
      exact h3
    by_cases hlt : i < ds.length
    · have hd : ds[i]? = some ds[i] := List.getElem?_eq_getElem hlt
      obtain ⟨go, yl⟩ := it.go L' H' xx R'.fr i _ hd
      rw [List.drop_eq_getElem_cons hlt] at el
      refine .inr ⟨go, fun σ5 H5 => ∃ L' δ', StpS F L H1 L' H5 ∧ EnvR K F L' σ5 H5 δ' ∧ loopF γ β (ds.drop (i + 1)) δ' = some o ∧ ∀ j, ¬ j ∈ js ++ ws → σ5[j]? = σ[j]?, fun σ5 H5 hN => ⟨ds.length - (i + 1), by omega, rfl, hN⟩, fun y H2 hy => ?_⟩
      obtain ⟨x2, ry⟩ := yl y H2 hy
      have s2 : StpS F L H1 L' H2 := s.trans ((Stp.of_ex x2).s R' (R'.ex x2)) R1.live
      unfold loopF at el
      split at el
      · next δ2 eg =>
        refine hg F L' σ' H2 δ' y _ δ2 eg (R'.ex x2) ry _ fun σ2 _ kg Rg => ?_
        have kk2 : ∀ j, ¬ j ∈ js ++ ws → σ2[j]? = σ[j]? := fun j hj => (kg j fun z => hj (in_l j z)).trans (kk j hj)
        have kk3 : ∀ {σ3 : St}, (∀ j, ¬ j ∈ ws → σ3[j]? = σ2[j]?) → ∀ j, ¬ j ∈ js ++ ws → σ3[j]? = σ[j]? := fun z j hj => (z j fun q => hj (in_r j q)).trans (kk2 j hj)
        split at el
        · next δ3 eb =>
          exact hb F L' σ2 H2 δ2 _ eb Rg _ fun L3 σ3 H3 s3 R3 z3 => ⟨L3, δ3, s2.trans s3 R1.live, R3, el, kk3 z3⟩
        · next δ3 eb =>
          exact hb F L' σ2 H2 δ2 _ eb Rg _ fun L3 σ3 H3 s3 R3 z3 => ⟨L3, δ3, s2.trans s3 R1.live, R3, el, kk3 z3⟩
        · next δ3 eb =>
          cases el
          exact hb F L' σ2 H2 δ2 _ eb Rg _ fun L3 σ3 H3 s3 R3 z3 => k1 L3 σ3 H3 (s2.trans s3 R1.live) R3 (kk3 z3)
        · next v δ3 eb =>
          cases el
          exact hb F L' σ2 H2 δ2 _ eb Rg _ (Ok.back (o := .rt v δ3) R1 s2 kk2 (fun _ z => z) in_r k1)
        · next v δ3 eb =>
          cases el
          exact hb F L' σ2 H2 δ2 _ eb Rg _ (Ok.back (o := .rl v δ3) R1 s2 kk2 (fun _ z => z) in_r k1)
        · cases el
      · cases el
    · rw [List.drop_eq_nil_of_le (by omega)] at el
      cases el
      exact .inl ⟨it.stop L' H' xx i (by omega), k1 L' σ' H' s R' kk⟩
  · cases e
def whl (τ : FT) (β : FS) : Nat → En → Option Out
  | 0, _ => none
  | n + 1, δ => match τ δ with
    | some (false, δ1) => some (.nx δ1)
    | some (true, δ1) => match β δ1 with
      | some (.nx δ2) => whl τ β n δ2
      | some (.ct δ2) => whl τ β n δ2
      | some (.bk δ2) => some (.nx δ2)
      | some (.rt v δ2) => some (.rt v δ2)
      | some (.rl v δ2) => some (.rl v δ2)
      | none => none
    | none => none
theorem whl_mono {τ : FT} {β : FS} : ∀ (n m : Nat) (δ : En) (o : Out), whl τ β n δ = some o → n ≤ m → whl τ β m δ = some o
  | 0, _, _, _, h, _ => by cases h
  | n + 1, 0, _, _, h, hm => by omega
  | n + 1, m + 1, δ, o, h, hm => by
    unfold whl at h ⊢
    split at h
    · next δ1 e => exact h
    · next δ1 e =>
      split at h
      · next δ2 e2 => exact whl_mono n m δ2 o h (by omega)
      · next δ2 e2 => exact whl_mono n m δ2 o h (by omega)
      · next δ2 e2 => exact h
      · next v δ2 e2 => exact h
      · next v δ2 e2 => exact h
      · cases h
    · cases h
open Classical in
noncomputable def sWhile (τ : FT) (β : FS) : FS := fun δ => if h : ∃ o n, whl τ β n δ = some o then some h.choose else none
theorem sWhile_of {τ : FT} {β : FS} {n : Nat} {δ : En} {o : Out} (h : whl τ β n δ = some o) : sWhile τ β δ = some o := by
  unfold sWhile
  have hx : ∃ o n, whl τ β n δ = some o := ⟨o, n, h⟩
  rw [dif_pos hx]
  obtain ⟨m, hm⟩ := hx.choose_spec
  have h1 := whl_mono n (max n m) δ o h (by omega)
  have h2 := whl_mono m (max n m) δ _ hm (by omega)
  rw [h1] at h2
  exact congrArg some (Option.some.inj h2).symm
theorem sWhile_some {τ : FT} {β : FS} {δ : En} {o : Out} (h : sWhile τ β δ = some o) : ∃ n, whl τ β n δ = some o := by
  unfold sWhile at h
  split at h
  · next hx =>
    cases h
    exact hx.choose_spec
  · cases h
theorem ws_while {tt : TT} {tb : TS} {ws : List Nat} {τ : FT} {β : FS} (ht : WT K tt τ) (hb : WS K tb ws β) : WS K (tWhile tt tb) ws (sWhile τ β) := fun F L σ H δ o e R D k => by
  obtain ⟨n, en⟩ := sWhile_some e
  refine ⟨fun m σ' H' => ∃ L' δ', StpS F L H L' H' ∧ EnvR K F L' σ' H' δ' ∧ whl τ β m δ' = some o ∧ ∀ j, ¬ j ∈ ws → σ'[j]? = σ[j]?, ⟨n, L, δ, StpS.refl, R, en, fun _ _ => rfl⟩, ?_⟩
  rintro m σ' H' ⟨L', δ', s, R', ew, kk⟩
  cases m with
  | zero => cases ew
  | succ m =>
    unfold whl at ew
    split at ew
    · next δ1 et =>
      cases ew
      refine ht F L' σ' H' δ' false δ1 et R' _ fun H1 s1 R1 => ?_
      rw [if_neg Bool.false_ne_true]
      exact k L' σ' H1 (s.trans (s1.s R' R1) R.live) R1 kk
    · next δ1 et =>
      refine ht F L' σ' H' δ' true δ1 et R' _ fun H1 s1 R1 => ?_
      rw [if_pos rfl]
      have s2 := s.trans (s1.s R' R1) R.live
      refine ⟨fun σ5 H5 => ∃ L' δ', StpS F L H L' H5 ∧ EnvR K F L' σ5 H5 δ' ∧ whl τ β m δ' = some o ∧ ∀ j, ¬ j ∈ ws → σ5[j]? = σ[j]?, fun σ5 H5 hN => ⟨m, by omega, hN⟩, ?_⟩
      split at ew
      · next δ2 eb => exact hb F L' σ' H1 δ1 _ eb R1 _ fun L3 σ3 H3 s3 R3 z3 => ⟨L3, δ2, s2.trans s3 R.live, R3, ew, fun j hj => (z3 j hj).trans (kk j hj)⟩
      · next δ2 eb => exact hb F L' σ' H1 δ1 _ eb R1 _ fun L3 σ3 H3 s3 R3 z3 => ⟨L3, δ2, s2.trans s3 R.live, R3, ew, fun j hj => (z3 j hj).trans (kk j hj)⟩
      · next δ2 eb =>
        cases ew
        exact hb F L' σ' H1 δ1 _ eb R1 _ fun L3 σ3 H3 s3 R3 z3 => k L3 σ3 H3 (s2.trans s3 R.live) R3 fun j hj => (z3 j hj).trans (kk j hj)
      · next v δ2 eb =>
        cases ew
        exact hb F L' σ' H1 δ1 _ eb R1 _ (Ok.back (o := .rt v δ2) R s2 kk (fun _ z => z) (fun _ z => z) k)
      · next v δ2 eb =>
        cases ew
        exact hb F L' σ' H1 δ1 _ eb R1 _ (Ok.back (o := .rl v δ2) R s2 kk (fun _ z => z) (fun _ z => z) k)
      · cases ew
    · cases ew

/-! ### defs and calls -/
/-- a def of data that hands back data -/
def spD (K : PySem.W.Frag) (n : Nat) (f : List PyData → Option PyData) : Sp := fun vs H Q _ => ∃ (S : List Addr) (ds : List PyData) (d : PyData), vs.length = n ∧ RpAll K (Msk S H) vs ds ∧ (∀ a, a ∈ S → H a ≠ none) ∧ f ds = some d ∧ ∀ v H', Ex H H' → Rp K (Msk S H') v d → Q v H'
/-- .. a new list -/
def spL (K : PySem.W.Frag) (n : Nat) (f : List PyData → Option (List PyData)) : Sp := fun vs H Q _ => ∃ (S : List Addr) (ds : List PyData) (rs : List PyData), vs.length = n ∧ RpAll K (Msk S H) vs ds ∧ (∀ a, a ∈ S → H a ≠ none) ∧ f ds = some rs ∧
  ∀ p us H', H p = none → Ex H H' → H' p = some (.lst us) → RpAll K (Msk (p :: S) H') us rs → Q (.ref p) H'
/-- a def whose first parameter is a list that it changes -/
def spB (K : PySem.W.Frag) (n : Nat) (f : List PyData → List PyData → Option (PyData × List PyData)) : Sp := fun vs H Q _ => ∃ (S : List Addr) (b : Addr) (us : List V) (bg : List PyData) (ws : List V) (ds : List PyData) (d : PyData) (bg' : List PyData), vs = .ref b :: ws ∧ vs.length = n ∧ b ∈ S ∧ H b = some (.lst us) ∧ RpAll K (Msk S H) us bg ∧
  RpAll K (Msk S H) ws ds ∧ (∀ a, a ∈ S → H a ≠ none) ∧ f bg ds = some (d, bg') ∧ ∀ v H' us', Ex (Msk [b] H) (Msk [b] H') → H' b = some (.lst us') → RpAll K (Msk S H') us' bg' → Rp K (Msk S H') v d → Q v H'
def runD (n : Nat) (φ : FS) : List PyData → Option PyData := fun ds => match φ (ds.map EV.dat ++ List.replicate n .un) with
  | some (.rt d _) => some d
  | some (.rl rs _) => some (.list rs)
  | some (.nx _) => some .none
  | _ => none
def runL (n : Nat) (φ : FS) : List PyData → Option (List PyData) := fun ds => match φ (ds.map EV.dat ++ List.replicate n .un) with
  | some (.rl rs _) => some rs
  | _ => none
def runB (n : Nat) (φ : FS) : List PyData → List PyData → Option (PyData × List PyData) := fun bg ds => match φ (.bag bg :: (ds.map EV.dat ++ List.replicate n .un)) with
  | some (.rt d (.bag bg' :: _)) => some (d, bg')
  | some (.rl rs (.bag bg' :: _)) => some (.list rs, bg')
  | some (.nx (.bag bg' :: _)) => some (.none, bg')
  | _ => none
theorem start_env {S M : List Addr} {H : Hp} {N : List Str} {vs : List V} {ds : List PyData} {n : Nat} (hN : N.length = vs.length + n) (r : RpAll K (Msk S H) vs ds) (al : ∀ a, a ∈ S → H a ≠ none) (hM : ∀ a, a ∈ M → a ∈ S) : EnvR K ⟨S, M⟩ [] (start N vs) H (ds.map EV.dat ++ List.replicate n .un) := by
  have e0 : N.length - vs.length = n := by omega
  unfold L2.start
  rw [e0]
  have rl := r.len
  refine ⟨by simp [rl], fun i e h => ?_, fun i j l e e' _ h _ m _ _ _ => ?_, fun a ha => al a (by simpa using ha), hM, fun a ha => by simp at ha⟩
  · by_cases hi : i < ds.length
    · rw [List.getElem?_append_left (by rw [List.length_map]; exact hi), List.getElem?_map] at h
      rw [List.getElem?_append_left (by rw [List.length_map, rl]; exact hi), List.getElem?_map]
      cases hd : ds[i]? with
      | none =>
        rw [hd] at h
        cases h
      | some d =>
        rw [hd] at h
        cases h
        obtain ⟨v, hv, rv⟩ := r.get i d hd
        rw [hv]
        refine ⟨v, rfl, ?_⟩
        rw [List.append_nil]
        exact rv
    · rw [List.getElem?_append_right (by rw [List.length_map]; omega), List.getElem?_replicate] at h
      split at h
      · cases h
        trivial
      · cases h
  · by_cases hi : i < ds.length
    · rw [List.getElem?_append_left (by rw [List.length_map]; exact hi), List.getElem?_map] at h
      cases hd : ds[i]? with
      | none =>
        rw [hd] at h
        cases h
      | some d =>
        rw [hd] at h
        cases h
        cases m
    · rw [List.getElem?_append_right (by rw [List.length_map]; omega), List.getElem?_replicate] at h
      split at h
      · cases h
        cases m
      · cases h
theorem msk_nil {H : Hp} : Msk [] H = H := by
  funext a
  exact msk_out (by simp)
theorem body_D {t : TS} {sl : List Nat} {φ : FS} {N : List Str} {n k : Nat} {vs : List V} {H : Hp} {Q : VK} {E : XK} (h : WS K t sl φ) (hN : N.length = k + n) (q : spD K k (runD n φ) vs H Q E) : t { nx := fun _ H' => Q .non H', rt := Q } (start N vs) H := by
  obtain ⟨S, ds, d, hl, r, al, e, q⟩ := q
  have R := start_env (M := []) (n := n) (hN.trans (by rw [hl])) r al (fun a ha => by simp at ha)
  have xH : ∀ {L' H'}, StpS ⟨S, []⟩ [] H L' H' → Ex H H' := fun s => by
    have := s.ex
    rw [List.append_nil, msk_nil, msk_nil] at this
    exact this
  have sub : ∀ {L' : List Addr} {H' : Hp}, Ex (Msk (S ++ L') H') (Msk S H') := msk_sub fun a ha => List.mem_append.mpr (.inl ha)
  unfold runD at e
  split at e
  · next d0 δ1 e1 =>
    cases e
    exact h _ _ _ _ _ _ e1 R _ fun L' σ' H' v s R' rv => q v H' (xH s) (Rp.mono sub _ _ rv)
  · next rs δ1 e1 =>
    cases e
    refine h _ _ _ _ _ _ e1 R _ fun L' σ' H' p us s R' hp hn h' ru => q _ H' (xH s) (.lst (xs := us) ?_ (RpAll.mono (msk_sub fun a ha => List.mem_cons_of_mem _ (List.mem_append.mpr (.inl ha))) _ _ ru))
    rw [msk_out (fun z => hn (List.mem_append.mpr (.inl z)))]
    exact h'
  · next δ1 e1 =>
    cases e
    exact h _ _ _ _ _ _ e1 R _ fun L' σ' H' s R' _ => q _ H' (xH s) .non
  · cases e
theorem body_L {t : TS} {sl : List Nat} {φ : FS} {N : List Str} {n k : Nat} {vs : List V} {H : Hp} {Q : VK} {E : XK} (h : WS K t sl φ) (hN : N.length = k + n) (q : spL K k (runL n φ) vs H Q E) : t { nx := fun _ H' => Q .non H', rt := Q } (start N vs) H := by
  obtain ⟨S, ds, d, hl, r, al, e, q⟩ := q
  have R := start_env (M := []) (n := n) (hN.trans (by rw [hl])) r al (fun a ha => by simp at ha)
  have xH : ∀ {L' H'}, StpS ⟨S, []⟩ [] H L' H' → Ex H H' := fun s => by
    have := s.ex
    rw [List.append_nil, msk_nil, msk_nil] at this
    exact this
  unfold runL at e
  split at e
  · next rs δ1 e1 =>
    cases e
    refine h _ _ _ _ _ _ e1 R _ fun L' σ' H' p us s R' hp hn h' ru => q p us H' ?_ (xH s) h' (RpAll.mono (msk_sub fun a ha => ?_) _ _ ru)
    · rcases hp with hp | hp
      · simp at hp
      · exact hp
    · rcases List.mem_cons.mp ha with z | z
      · rw [z]
        exact List.mem_cons_self
      · exact List.mem_cons_of_mem _ (List.mem_append.mpr (.inl z))
  · cases e
theorem body_B {t : TS} {sl : List Nat} {φ : FS} {N : List Str} {n k : Nat} {vs : List V} {H : Hp} {Q : VK} {E : XK} (h : WS K t sl φ) (hN : N.length = k + n) (q : spB K k (runB n φ) vs H Q E) : t { nx := fun _ H' => Q .non H', rt := Q } (start N vs) H := by
  obtain ⟨S, b, us, bg, ws, ds, d, bg', rfl, hl, hb, hH, ru, rw', al, e, q⟩ := q
  have hN' : N.length = ws.length + 1 + n := by rw [hN, ← hl]; rfl
  -- the rest of the slots as if the first name were not there
  have R0 : EnvR K ⟨S, [b]⟩ [] (ws.map some ++ List.replicate n none) H (ds.map EV.dat ++ List.replicate n .un) := by
    have := start_env (K := K) (S := S) (M := [b]) (H := H) (N := N.tail) (vs := ws) (ds := ds) (n := n) (by rw [List.length_tail, hN']; omega) rw' al (fun a ha => by rw [List.mem_singleton.mp ha]; exact hb)
    unfold L2.start at this
    rw [show N.tail.length - ws.length = n by rw [List.length_tail, hN']; omega] at this
    exact this
  have nomine : ∀ (j : Nat) (e : EV), (ds.map EV.dat ++ List.replicate n EV.un)[j]? = some e → e.mine = false := fun j e h => by
    have := List.mem_of_getElem? h
    rcases List.mem_append.mp this with z | z
    · rw [List.mem_map] at z
      obtain ⟨d, _, rfl⟩ := z
      rfl
    · rw [List.mem_replicate] at z
      rw [z.2]
      rfl
  have es : start N (.ref b :: ws) = some (.ref b) :: (ws.map some ++ List.replicate n none) := by
    unfold L2.start
    rw [show N.length - (V.ref b :: ws).length = n by rw [List.length_cons, hN']; omega]
    rfl
  have R : EnvR K ⟨S, [b]⟩ [] (start N (.ref b :: ws)) H (.bag bg :: (ds.map EV.dat ++ List.replicate n .un)) := by
    rw [es]
    refine ⟨by rw [List.length_cons, List.length_cons, R0.len], fun i e h => ?_, fun i j l e e' hij h h' m m' s1 s2 => ?_, R0.al, R0.mb, R0.lb⟩
    · cases i with
      | zero =>
        cases h
        exact ⟨b, us, rfl, List.mem_singleton.mpr rfl, hH, by rw [List.append_nil]; exact ru⟩
      | succ i =>
        rw [List.getElem?_cons_succ] at h ⊢
        exact R0.at_ i e h
    · cases i with
      | zero =>
        cases j with
        | zero => exact hij rfl
        | succ j =>
          rw [List.getElem?_cons_succ] at h'
          rw [nomine j e' h'] at m'
          cases m'
      | succ i =>
        rw [List.getElem?_cons_succ] at h
        rw [nomine i e h] at m
        cases m
  have xH : ∀ {L' H'}, StpS ⟨S, [b]⟩ [] H L' H' → Ex (Msk [b] H) (Msk [b] H') := fun s => by
    have := s.ex
    rw [List.append_nil] at this
    exact this
  have sub : ∀ {L' : List Addr} {H' : Hp}, Ex (Msk (S ++ L') H') (Msk S H') := msk_sub fun a ha => List.mem_append.mpr (.inl ha)
  have bag : ∀ {L' : List Addr} {H' : Hp} {σ' : St} {δ1 : En}, EnvR K ⟨S, [b]⟩ L' σ' H' (.bag bg' :: δ1) → ∃ us', H' b = some (.lst us') ∧ RpAll K (Msk S H') us' bg' := fun R' => by
    obtain ⟨l, us', h1, h2, h3, h4⟩ := R'.at_ 0 _ rfl
    cases List.mem_singleton.mp h2
    exact ⟨us', h3, RpAll.mono sub _ _ h4⟩
  unfold runB at e
  split at e
  · next d0 bg0 δ1 e1 =>
    cases e
    refine h _ _ _ _ _ _ e1 R _ fun L' σ' H' v s R' rv => ?_
    obtain ⟨us', h1, h2⟩ := bag R'
    exact q v H' us' (xH s) h1 h2 (Rp.mono sub _ _ rv)
  · next rs bg0 δ1 e1 =>
    cases e
    refine h _ _ _ _ _ _ e1 R _ fun L' σ' H' p us2 s R' hp hn h' ru => ?_
    obtain ⟨us', h1, h2⟩ := bag R'
    refine q _ H' us' (xH s) h1 h2 (.lst (xs := us2) ?_ (RpAll.mono (msk_sub fun a ha => List.mem_cons_of_mem _ (List.mem_append.mpr (.inl ha))) _ _ ru))
    rw [msk_out (fun z => hn (List.mem_append.mpr (.inl z)))]
    exact h'
  · next bg0 δ1 e1 =>
    cases e
    refine h _ _ _ _ _ _ e1 R _ fun L' σ' H' s R' _ => ?_
    obtain ⟨us', h1, h2⟩ := bag R'
    exact q _ H' us' (xH s) h1 h2 .non
  · cases e
/-- calls -/
def ArN (φ : FL) (n : Nat) : Prop := ∀ δ ds δ', φ δ = some (ds, δ') → ds.length = n
theorem arn_nil : ArN fNil 0 := fun δ ds δ' e => by cases e; rfl
theorem arn_cons {φ : FE} {ψ : FL} {n : Nat} (h : ArN ψ n) : ArN (fCons φ ψ) (n + 1) := fun δ ds δ' e => by
  obtain ⟨x, δ1, xs, e1, e2, rfl⟩ := fCons_some e
  rw [List.length_cons, h _ _ _ e2]
def fCall (f : List PyData → Option PyData) (φ : FL) : FE := fun δ => match φ δ with
  | some (ds, δ1) => match f ds with
    | some d => some (d, δ1)
    | none => none
  | none => none
theorem we_call {n : Nat} {f : List PyData → Option PyData} {ta : TA} {φ : FL} {E : XK} (h : WA K ta φ) (hn : ArN φ n) : WE K (tCall (spD K n f) [] E ta) (fCall f φ) := fun F L σ H δ d δ' e R Q q => by
  unfold fCall at e
  split at e
  · next ds δ1 e1 =>
    split at e
    · next d0 e2 =>
      cases e
      refine h F L σ H δ ds _ e1 R _ fun vs H1 s1 R1 d1 => ?_
      rw [List.append_nil]
      exact ⟨F.B ++ L, ds, _, by rw [d1.len]; exact hn _ _ _ e1, d1, R1.al, e2, fun v H2 x2 rv => q v H2 (s1.trans (Stp.of_ex x2)) (R1.ex x2) rv⟩
    · cases e
  · cases e
def fCallL (f : List PyData → Option (List PyData)) (φ : FL) : FL := fun δ => match φ δ with
  | some (ds, δ1) => match f ds with
    | some d => some (d, δ1)
    | none => none
  | none => none
theorem wl_call {n : Nat} {f : List PyData → Option (List PyData)} {ta : TA} {φ : FL} {E : XK} (h : WA K ta φ) (hn : ArN φ n) : WL K (tCall (spL K n f) [] E ta) (fCallL f φ) := fun F L σ H δ d δ' e R Q q => by
  unfold fCallL at e
  split at e
  · next ds δ1 e1 =>
    split at e
    · next d0 e2 =>
      cases e
      refine h F L σ H δ ds _ e1 R _ fun vs H1 s1 R1 d1 => ?_
      rw [List.append_nil]
      exact ⟨F.B ++ L, ds, _, by rw [d1.len]; exact hn _ _ _ e1, d1, R1.al, e2, fun p us H2 hp x2 h2 ru => q p us H2 (new_live R R1 s1 hp) (s1.trans (Stp.of_ex x2)) (R1.hideX x2 hp (by rw [h2]; exact fun z => nomatch z)) h2 ru⟩
    · cases e
  · cases e
def fCallB (f : List PyData → List PyData → Option (PyData × List PyData)) (i : Nat) (φ : FL) : FE := fun δ => match ownAt δ i with
  | some _ => match φ δ with
    | some (ds, δ1) => match ownAt δ1 i with
      | some bg => match f bg ds with
        | some (d, bg') => some (d, setOwn δ1 i bg')
        | none => none
      | none => none
    | none => none
  | none => none
theorem we_callB {n : Nat} {f : List PyData → List PyData → Option (PyData × List PyData)} {i : Nat} {ta : TA} {φ : FL} {E : XK} (h : WA K ta φ) (hn : ArN φ n) : WE K (tCall (spB K (n + 1) f) [] E (tCons (tVar i) ta)) (fCallB f i φ) := fun F L σ H δ d δ' e R Q q => by
  unfold fCallB at e
  split at e
  · next bg0 e0 =>
    split at e
    · next ds δ1 e1 =>
      split at e
      · next bg e2 =>
        split at e
        · next d0 bg' e3 =>
          cases e
          obtain ⟨ev, l, vs, he, hm, hs, hl, h1, hr⟩ := own_at R e0
          refine ⟨_, hs, h F L σ H δ ds δ1 e1 R _ fun ws H1 s1 R1 d1 => ?_⟩
          obtain ⟨ev', l', vs', he', hm', hs', hl', h1', hr'⟩ := own_at R1 e2
          rw [hs] at hs'
          cases hs'
          rw [List.append_nil]
          refine ⟨F.B ++ L, l, vs', bg, ws, ds, _, bg', rfl, by rw [List.length_cons, d1.len, hn _ _ _ e1], R1.sub l hl', h1', hr', d1, R1.al, e3, fun v H2 us2 x2 h2 ru rv => ?_⟩
          obtain ⟨R2, s2⟩ := R1.updOwn he' hm' hs hl' x2 h2 ru
          exact q v H2 (s1.trans s2) R2 rv
        · cases e
      · cases e
    · cases e
  · cases e
end
end Sm
namespace Sm
open PySem L2 Evl RZ
abbrev rAbs : List V → Hp → VK → Prop := fun xs H Q => ∃ i, xs = [.int i] ∧ Q (.int (if i < 0 then -i else i)) H
abbrev rMin2 : List V → Hp → VK → Prop := fun xs H Q => ∃ i j, xs = [.int i, .int j] ∧ Q (.int (if j < i then j else i)) H
abbrev rInA (K : PySem.W.Frag) (neg : Bool) : R2 := rIn K neg
abbrev dInA (neg : Bool) := dIn neg
theorem op_inA {X : Cx} : OpR X (compareOp .In) (rInA X.K false) := op_in_seq
theorem op_notInA {X : Cx} : OpR X (compareOp .NotIn) (rInA X.K true) := op_notIn_seq
theorem rd_inA {K : PySem.W.Frag} : RD K (rInA K false) (dInA false) := rd_in
theorem rd_notInA {K : PySem.W.Frag} : RD K (rInA K true) (dInA true) := rd_in
end Sm
set_option maxHeartbeats 1000000
namespace Sm
open PySem L2 Evl RZ PyProof.Rows
/-! ### sorted of alike data -/
def leD (x y : PyData) : Bool := PySem.W.sortLe (listOrd PyProof.Rows.itemOrd) false PySem.W.keyToks x y
def leP (p q : V × PyData) : Bool := PySem.W.sortLe (listOrd PyProof.Rows.itemOrd) false (fun p : V × PyData => PySem.W.keyToks p.2) p q
def sortP (xs : List V) (ds : List PyData) : List (V × PyData) := (xs.zip ds).mergeSort leP
theorem sortP_snd (xs : List V) (ds : List PyData) (h : xs.length = ds.length) : (sortP xs ds).map Prod.snd = ds.mergeSort leD := by
  unfold sortP
  rw [PySem.W.sort_maps (r := leP) (s := leD) Prod.snd (fun a _ b _ => rfl), List.map_snd_zip (by omega)]
theorem sortP_mem {xs : List V} {ds : List PyData} {p : V × PyData} (h : p ∈ sortP xs ds) : p ∈ xs.zip ds := (List.mergeSort_perm _ _).mem_iff.mp h
theorem sortP_len (xs : List V) (ds : List PyData) (h : xs.length = ds.length) : (sortP xs ds).length = xs.length := by
  unfold sortP
  rw [(List.mergeSort_perm _ _).length_eq, List.length_zip, h, Nat.min_self]
def rSortedD (K : PySem.W.Frag) : List V → Hp → VK → Prop := fun vs H Q => ∃ (a : Addr) (xs : List V) (ds : List PyData), vs = [V.ref a] ∧ SqL K H a xs ∧ DpAll K H xs ds ∧ PySem.W.AllAlike ds ∧ PySem.W.Sortable ds ∧ (∀ d, d ∈ ds → d.depth ≤ 60) ∧
  ∀ p, H p = none → Q (.ref p) (upd H p (.lst ((sortP xs ds).map Prod.fst)))
theorem each_of {h : Heap} : ∀ {us : List Value} {ds : List PyData} {as : List Addr}, ReadsAll h us ds as → PySem.W.EachIs (fun v d => ∃ as, Reads h v d as) us ds
  | _, _, _, .nil => .nil
  | _, _, _, .cons h1 h2 => .cons ⟨_, h1⟩ (each_of h2)
theorem each_zip {h : Heap} : ∀ {xs : List V} {us : List Value} {ds : List PyData}, Vals xs us → PySem.W.EachIs (fun v d => ∃ as, Reads h v d as) us ds → PySem.W.EachIs (fun (u : Value) (p : V × PyData) => RelV p.1 u ∧ ∃ as, Reads h u p.2 as) us (xs.zip ds)
  | _, _, _, .nil, .nil => .nil
  | _, _, _, .cons r1 r2, .cons e1 e2 => .cons ⟨r1, e1⟩ (each_zip r2 e2)
theorem vals_each {h : Heap} : ∀ {us : List Value} {ps : List (V × PyData)}, PySem.W.EachIs (fun (u : Value) (p : V × PyData) => RelV p.1 u ∧ ∃ as, Reads h u p.2 as) us ps → Vals (ps.map Prod.fst) us
  | _, _, .nil => .nil
  | _, _, .cons e1 e2 => .cons e1.1 (vals_each e2)
section
variable {X : Cx}
/-- the one argument is a list: its items as values, and where they lie -/
theorem list_arg {pins : List (Addr × Obj)} {s : Shared} {σ : L2.St} {H : Hp} {a : Addr} {xs : List V} {us : List Value} (I : Inv X pins σ H s) (hs : SqL X.K H a xs) (r : Vals [V.ref a] us) :
    us = [Value.ref a] ∧ ∃ its : List Value, Vals xs its ∧ s.heap.IsList a its.toArray ∧ its.length = xs.length ∧ xs.length ≤ sizeLine := by
  refine ⟨?_, ?_⟩
  · cases r with
    | cons r1 r2 =>
      cases r2
      cases r1
      rfl
  · exact (I.list hs).elim fun its h => ⟨its, h.1, h.2.1.isList, h.1.length.symm, h.2.2⟩
theorem cr_sortedD (hu : X.A.units + 64 < cLine) : CallR X (.builtin "sorted") (rSortedD X.K) := fun pins s σ H vs us Q I r ⟨a, xs, ds, ev, hs, hd, hal, hso, hdp, q⟩ => by
  subst ev
  obtain ⟨eu, its, rv, hI, hlen, hz⟩ := list_arg I hs r
  subst eu
  obtain ⟨as, hr⟩ := Dp.readsAll I ds xs its hd rv
  have hlen2 : xs.length = ds.length := by
    have := SeqAt.ReadsAll.length ds its as hr
    omega
  have kh : ∀ b o, s.heap.get? b = some o → (PySem.W.sortingHeap (PySem.W.copyHeap s.heap its) (s.heap.objs.size + 1) its).get? b = some o := fun b o e => by
    refine PySem.W.sortingHeap_old ?_ (PySem.W.copyHeap_old e)
    have := Heap.lt_size e
    exact Nat.ne_of_lt (Nat.lt_succ_of_lt this)
  have e0 : PySem.W.EachIs (fun v d => ∃ as, Reads (PySem.W.sortingHeap (PySem.W.copyHeap s.heap its) (s.heap.objs.size + 1) its) v d as) its ds := (each_of hr).mono fun v d ⟨as, z⟩ => ⟨as, Reads.keeps kh z⟩
  refine PySem.W.sorted_vals (κ := PySem.W.dataKind _ ds) hI (PySem.W.SortsAt.data e0 hal hso fun d hm => ?_) (by rw [hlen]; exact hz) ?_
  · have := hdp d hm
    show X.A.units + 1 + 1 + d.depth < cLine
    omega
  · generalize hH : PySem.W.sortingHeap (PySem.W.copyHeap s.heap its) (s.heap.objs.size + 1) its = Hh at e0 ⊢
    have e1 := each_zip rv e0
    have ek : PySem.W.EachIs (fun v (p : V × PyData) => (PySem.W.dataKind Hh ds).keyOf v = some (PySem.W.keyToks p.2)) its (xs.zip ds) := by
      refine PySem.W.EachIs.of_zip (by rw [List.length_zip, hlen, hlen2, Nat.min_self]) fun p hp => ?_
      obtain ⟨_, as', hr'⟩ := e1.zip p hp
      have hm := (List.of_mem_zip (List.of_mem_zip hp).2).2
      exact PySem.W.dataKind_some hal hm hr'
    have es := PySem.W.sortVals_each (κ := PySem.W.dataKind Hh ds) (rev := false) (fun p : V × PyData => PySem.W.keyToks p.2) e1 ek
    have hv : Vals ((sortP xs ds).map Prod.fst) (PySem.W.sortVals (PySem.W.dataKind Hh ds) false its its) := vals_each es
    obtain ⟨n, hn⟩ := sortedAll_at s.heap its (PySem.W.sortVals (PySem.W.dataKind Hh ds) false its its).toArray
    have hd' : s.heap.objs.size ≤ s.heap.objs.size + 1 := Nat.le_succ _
    refine ⟨.ref (s.heap.objs.size + 1), upd H (s.heap.objs.size + 1) (.lst ((sortP xs ds).map Prod.fst)), I.laid (t' := s.toks) (fun b o e => sortedAll_old e) hd' ⟨?_, _, n, hv, hn⟩, rfl, q _ (I.hok.fresh hd')⟩
    rw [List.length_map, sortP_len xs ds hlen2]
    exact hz
end
section
variable {K : PySem.W.Frag}
def alikeB (ds : List PyData) : Bool := ds.all fun d => ds.all fun e => PySem.W.alike d e
def tupNe : PyData → Bool
  | .tuple (_ :: _) => true
  | _ => false
def notTup : PyData → Bool
  | .tuple _ => false
  | .none => false
  | _ => true
def sortOk (ds : List PyData) : Bool := alikeB ds && (ds.all tupNe || ds.all notTup) && ds.all fun d => decide (d.depth ≤ 60) && PyData.canLay0 d
theorem canAll : ∀ {ds : List PyData}, (∀ d, d ∈ ds → PyData.canLay0 d = true) → PyData.canLayAll0 ds = true
  | [], _ => by simp [PyData.canLayAll0]
  | d :: ds, h => by
    rw [PyData.canLayAll0, Bool.and_eq_true]
    exact ⟨h d List.mem_cons_self, canAll fun e he => h e (List.mem_cons_of_mem _ he)⟩
def dSorted : PyData → Option (List PyData)
  | .list ds => if sortOk ds = true then some (ds.mergeSort leD) else none
  | _ => none
theorem RpAll.zip {H : Hp} : ∀ {vs : List V} {ds : List PyData}, RpAll K H vs ds → ∀ p, p ∈ vs.zip ds → Rp K H p.1 p.2
  | _, [], h, p, hp => by cases h; simp at hp
  | _, d :: ds, h, p, hp => by
    cases h with
    | cons h1 h2 =>
      rw [List.zip_cons_cons] at hp
      rcases List.mem_cons.mp hp with rfl | hp
      · exact h1
      · exact RpAll.zip h2 p hp
theorem RpAll.of_pairs {H : Hp} : ∀ {ps : List (V × PyData)}, (∀ p, p ∈ ps → Rp K H p.1 p.2) → RpAll K H (ps.map Prod.fst) (ps.map Prod.snd)
  | [], _ => .nil
  | p :: ps, h => .cons (h p List.mem_cons_self) (RpAll.of_pairs fun q hq => h q (List.mem_cons_of_mem _ hq))
theorem r1_sorted : R1L K (rSortedD K) dSorted := fun S H x a ds e b fr Q q => by
  cases a with
  | list es =>
    have e' : (if sortOk es = true then some (es.mergeSort leD) else none) = some ds := e
    by_cases hk : sortOk es = true
    · rw [if_pos hk] at e'
      cases e'
      obtain ⟨p, vs, rfl, h1, h2⟩ := b.lst
      unfold sortOk at hk
      rw [Bool.and_eq_true, Bool.and_eq_true] at hk
      obtain ⟨⟨k1, k2⟩, k3⟩ := hk
      unfold alikeB at k1
      simp only [List.all_eq_true] at k1 k3
      have k3' : ∀ d, d ∈ es → d.depth ≤ 60 ∧ PyData.canLay0 d = true := fun d hd => by
        have := k3 d hd
        rw [Bool.and_eq_true] at this
        exact ⟨of_decide_eq_true this.1, this.2⟩
      refine ⟨p, vs, es, rfl, sq_of h1, RpAll.dp es vs (canAll fun d hd => (k3' d hd).2) (RpAll.mono msk_le es vs h2), fun d hd d' hd' => k1 d hd d' hd', ?_, fun d hd => (k3' d hd).1, fun l hl => ?_⟩
      · rw [Bool.or_eq_true] at k2
        simp only [List.all_eq_true] at k2
        rcases k2 with k2 | k2
        · refine .inl fun d hd => ?_
          have := k2 d hd
          unfold tupNe at this
          split at this
          · exact ⟨_, _, rfl⟩
          · cases this
        · refine .inr fun d hd => ?_
          have := k2 d hd
          refine ⟨fun z => ?_, fun xs z => ?_⟩
          · rw [z] at this
            cases this
          · rw [z] at this
            cases this
      · have hz := RpAll.zip (RpAll.mono (hide_ex (Ex.new (o := .lst ((sortP vs es).map Prod.fst)) hl) hl) es vs h2)
        have := RpAll.of_pairs (ps := sortP vs es) fun q hq => hz q (sortP_mem hq)
        rw [sortP_snd vs es h2.len] at this
        exact q l _ _ hl (Ex.new hl) upd_same this
    · rw [if_neg hk] at e'
      cases e'
  | _ => cases e
end
end Sm
namespace Sm
open PySem L2 Evl RZ
section
variable {K : PySem.W.Frag}
/-! ### dicts as data -/
def keyOf : PyData → Option Key
  | .int i => some (.inl i)
  | .str x => some (.inr x)
  | _ => none
theorem keyOf_keyD (k : Key) : keyOf (keyD k) = some k := by cases k <;> rfl
theorem keyOf_some {d : PyData} {k : Key} (h : keyOf d = some k) : d = keyD k := by
  cases d <;> cases h <;> rfl
theorem kV_of {H : Hp} {v : V} {k : Key} (h : Rp K H v (keyD k)) : v = kV k := by
  cases k <;> cases h <;> rfl
def lookD (kvs : List (PyData × PyData)) (k : Key) : Option PyData := (kvs.find? fun kv => decide (keyOf kv.1 = some k)).map (·.2)
def putD (kvs : List (PyData × PyData)) (k : Key) (d : PyData) : List (PyData × PyData) :=
  if (kvs.any fun kv => decide (keyOf kv.1 = some k)) = true then kvs.map (fun kv => if keyOf kv.1 = some k then (kv.1, d) else kv) else kvs ++ [(keyD k, d)]
theorem RpKV.look {H : Hp} (k : Key) : ∀ {ks : List (Key × V)} {ds : List (PyData × PyData)}, RpKV K H ks ds → (valV ks k = none ∧ lookD ds k = none) ∨ ∃ v d, valV ks k = some v ∧ lookD ds k = some d ∧ Rp K H v d
  | [], _, h => by cases h; exact .inl ⟨rfl, rfl⟩
  | (k', v) :: ks, _, h => by
    cases h with
    | @cons _ _ _ d ds h1 h2 =>
      unfold valV lookD
      by_cases e : k' = k
      · subst e
        right
        refine ⟨v, d, ?_, ?_, h1⟩
        · rw [List.find?_cons_of_pos (by simp)]
          rfl
        · rw [List.find?_cons_of_pos (by simp [keyOf_keyD])]
          rfl
      · rw [List.find?_cons_of_neg (by simpa using e), List.find?_cons_of_neg (by simp [keyOf_keyD]; exact e)]
        exact RpKV.look k h2
theorem RpKV.any {H : Hp} (k : Key) : ∀ {ks : List (Key × V)} {ds : List (PyData × PyData)}, RpKV K H ks ds → (ks.any fun kv => decide (kv.1 = k)) = (ds.any fun kv => decide (keyOf kv.1 = some k))
  | [], _, h => by cases h; rfl
  | (k', v) :: ks, _, h => by
    cases h with
    | @cons _ _ _ d ds h1 h2 =>
      rw [List.any_cons, List.any_cons, RpKV.any k h2]
      congr 1
      simp [keyOf_keyD]
theorem RpKV.map {H : Hp} (k : Key) {w : V} {e : PyData} (hw : Rp K H w e) : ∀ {ks : List (Key × V)} {ds : List (PyData × PyData)}, RpKV K H ks ds → RpKV K H (ks.map fun kv => if kv.1 = k then (kv.1, w) else kv) (ds.map fun kv => if keyOf kv.1 = some k then (kv.1, e) else kv)
  | [], _, h => by cases h; exact .nil
  | (k', v) :: ks, _, h => by
    cases h with
    | @cons _ _ _ d ds h1 h2 =>
      rw [List.map_cons, List.map_cons]
      by_cases q : k' = k
      · rw [if_pos q, if_pos (by rw [keyOf_keyD, q])]
        exact .cons hw (RpKV.map k hw h2)
      · rw [if_neg q, if_neg (by rw [keyOf_keyD]; exact fun z => q (Option.some.inj z))]
        exact .cons h1 (RpKV.map k hw h2)
theorem RpKV.app {H : Hp} : ∀ {ks ls : List (Key × V)} {ds es : List (PyData × PyData)}, RpKV K H ks ds → RpKV K H ls es → RpKV K H (ks ++ ls) (ds ++ es)
  | [], _, _, _, h, h' => by cases h; exact h'
  | (k', v) :: ks, _, _, _, h, h' => by
    cases h with
    | cons h1 h2 => exact .cons h1 (RpKV.app h2 h')
theorem RpKV.put {H : Hp} (k : Key) {w : V} {e : PyData} (hw : Rp K H w e) {ks : List (Key × V)} {ds : List (PyData × PyData)} (h : RpKV K H ks ds) : RpKV K H (putK ks k w) (putD ds k e) := by
  unfold putK putD
  rw [h.any k]
  split
  · exact h.map k hw
  · exact h.app (.cons hw .nil)
theorem RpKV.len {H : Hp} : ∀ {ks : List (Key × V)} {ds : List (PyData × PyData)}, RpKV K H ks ds → ks.length = ds.length
  | [], _, h => by cases h; rfl
  | (k', v) :: ks, _, h => by
    cases h with
    | cons h1 h2 => rw [List.length_cons, List.length_cons, h2.len]
theorem putD_len (kvs : List (PyData × PyData)) (k : Key) (d : PyData) : (putD kvs k d).length ≤ kvs.length + 1 := by
  unfold putD
  split
  · rw [List.length_map]
    omega
  · rw [List.length_append]
    exact Nat.le_refl _
def dictOf : PyData → Option (List (PyData × PyData))
  | .dict ((.none, _) :: _) => none
  | .dict kvs => some kvs
  | _ => none
theorem dict_of {S : List Addr} {H : Hp} {v : V} {d : PyData} {kvs : List (PyData × PyData)} (h : Rp K (Msk S H) v d) (e : dictOf d = some kvs) : ∃ a ks, v = .ref a ∧ H a = some (.dK ks) ∧ RpKV K (Msk S H) ks kvs := by
  cases h with
  | scr h => cases e
  | @dic a ks ds h1 h2 =>
    have : ds = kvs := by
      unfold dictOf at e
      split at e
      · cases e
      · next z =>
        cases z
        exact Option.some.inj e
      · cases e
    subst this
    exact ⟨a, ks, rfl, (msk_some h1).2, h2⟩
  | _ => cases e
/-- d[k] -/
def dGet (a b : PyData) : Option PyData := match dictOf a, keyOf b with
  | some kvs, some k => lookD kvs k
  | _, _ => none
theorem we_dget {td ty : TE} {φ ψ : FE} (h : WE K td φ) (h' : WE K ty ψ) : WE K (tDGet td ty) (fOp dGet φ ψ) := fun F L σ H δ d δ' e R Q q => by
  obtain ⟨x, δ1, y, e1, e2, e3⟩ := fOp_some e
  refine h F L σ H δ x δ1 e1 R _ fun v H1 s1 R1 d1 => ?_
  refine h' F L σ H1 δ1 y δ' e2 R1 _ fun w H2 s2 R2 d2 => ?_
  unfold dGet at e3
  split at e3
  · next kvs k hx hy =>
    obtain ⟨a, ks, rfl, h1, h2⟩ := dict_of (s2.dat R1.sub d1) hx
    have hyk := keyOf_some hy
    subst hyk
    cases kV_of d2
    rcases h2.look k with ⟨_, z⟩ | ⟨u, d0, z1, z2, z3⟩
    · rw [z] at e3
      cases e3
    · rw [z2] at e3
      cases e3
      refine ⟨a, u, rfl, ?_, q u H2 (s1.trans s2) R2 z3⟩
      rw [← z1]
      exact DGet.k h1
  · cases e3
/-- k in d -/
def dHas (b a : PyData) : Option PyData := match dictOf a, keyOf b with
  | some kvs, some k => some (.bool (lookD kvs k).isSome)
  | _, _ => none
theorem we_din {td ty : TE} {φ ψ : FE} (h' : WE K ty ψ) (h : WE K td φ) : WE K (tDIn ty td) (fOp dHas ψ φ) := fun F L σ H δ d δ' e R Q q => by
  obtain ⟨y, δ1, x, e1, e2, e3⟩ := fOp_some e
  refine h' F L σ H δ y δ1 e1 R _ fun w H1 s1 R1 d1 => ?_
  refine h F L σ H1 δ1 x δ' e2 R1 _ fun v H2 s2 R2 d2 => ?_
  unfold dHas at e3
  split at e3
  · next kvs k hx hy =>
    cases e3
    obtain ⟨a, ks, rfl, h1, h2⟩ := dict_of d2 hx
    have hyk := keyOf_some hy
    subst hyk
    cases kV_of d1
    rcases h2.look k with ⟨z0, z⟩ | ⟨u, d0, z1, z2, z3⟩
    · refine ⟨a, none, rfl, ?_, q _ H2 (s1.trans s2) R2 (by rw [z]; exact .bl _)⟩
      rw [← z0]
      exact DGet.k h1
    · refine ⟨a, some u, rfl, ?_, q _ H2 (s1.trans s2) R2 (by rw [z2]; exact .bl _)⟩
      rw [← z1]
      exact DGet.k h1
  · cases e3
/-- {k: v for ..} -/
def compD (vs : List Nat) (γ : FG) (τ : FT) (κ ε : FE) : List PyData → En → List (PyData × PyData) → Option (List (PyData × PyData) × En)
  | [], δ, acc => some (acc, δ)
  | d :: ds, δ, acc => match γ d (wipeE δ vs) with
    | some δ2 => match τ δ2 with
      | some (true, δ3) => match κ δ3 with
        | some (y, δ4) => match keyOf y with
          | some k => match ε δ4 with
            | some (z, δ5) => compD vs γ τ κ ε ds (backE vs 0 δ δ5) (putD acc k z)
            | none => none
          | none => none
        | none => none
      | some (false, δ3) => compD vs γ τ κ ε ds (backE vs 0 δ δ3) acc
      | none => none
    | none => none
def fDc (φ : FL) (vs : List Nat) (γ : FG) (τ : FT) (κ ε : FE) : FE := fun δ => match φ δ with
  | some (ds, δ1) => if ds.length ≤ 40000 then (match compD vs γ τ κ ε ds δ1 [] with
    | some (kvs, δ2) => some (.dict kvs, δ2)
    | none => none) else none
  | none => none
theorem we_dc {wi : TI} {g : TG} {tt : TT} {tk te : TE} {vs js : List Nat} {φ : FL} {γ : FG} {τ : FT} {κ ε : FE} (hi : WI K wi φ) (hg : WG K g js γ) (hj : ∀ j, j ∈ js → j ∈ vs) (ht : WT K tt τ) (hk : WE K tk κ) (he : WE K te ε) : WE K (tDc wi g tt tk te vs) (fDc φ vs γ τ κ ε) := fun F L σ H δ res δ' e R Q q => by
  unfold fDc at e
  split at e
  · next ds δ1 e1 =>
    by_cases hz : ds.length ≤ 40000
    · rw [if_pos hz] at e
      split at e
      · next kvs δe ee =>
        cases e
        refine hi F L σ H δ ds δ1 e1 R _ fun J H1 s1 R1 it => fun D hD => ?_
        have hDm : ¬ D ∈ F.M := fun z => R1.fresh hD (List.mem_append.mpr (.inl (R.mb D z)))
        have hDl : ¬ D ∈ L := fun z => R1.fresh hD (List.mem_append.mpr (.inr z))
        have hDml : ¬ D ∈ F.M ++ L := fun z => by
          rcases List.mem_append.mp z with z | z
          · exact hDm z
          · exact hDl z
        refine ⟨fun i m H' => m = ds.length - i ∧ ∃ accV accD δi, Ex (Msk (F.M ++ L) H1) (Msk (F.M ++ L) H') ∧ EnvR K (F.hide D) L σ H' δi ∧ H' D = some (.dK accV) ∧ RpKV K (Msk ((F.hide D).B ++ L) H') accV accD ∧ compD vs γ τ κ ε (ds.drop i) δi accD = some (kvs, δ') ∧ accD.length ≤ i,
          ⟨ds.length, by omega, [], [], δ1, ex_msk (Ex.new hD), R1.hide hD _, upd_same, .nil, by rw [List.drop_zero]; exact ee, Nat.zero_le _⟩, ?_⟩
        rintro i m H' ⟨rfl, accV, accD, δi, x, Ri, hD', ra, ec, hl⟩
        have xx : Ex (Msk (F.B ++ L) H1) (Msk (F.B ++ (D :: L)) H') := fun a o ea => by
          obtain ⟨h1, h2⟩ := msk_some ea
          have ne : a ≠ D := ne_of_none h2 hD
          rw [msk_out (fun z => by
            rcases List.mem_append.mp z with z | z
            · exact h1 (List.mem_append.mpr (.inl z))
            · rcases List.mem_cons.mp z with z | z
              · exact ne z
              · exact h1 (List.mem_append.mpr (.inr z)))]
          have nm : ¬ a ∈ F.M ++ L := fun z => h1 (R1.sub a z)
          have := x a o (by rw [msk_out nm]; exact h2)
          rw [msk_out nm] at this
          exact this
        have cg : ∀ a, a ∈ F.B ++ (D :: L) ↔ a ∈ (F.hide D).B ++ L := fun a => (hide_cg a).symm
        by_cases hi : i < ds.length
        · have hd : ds[i]? = some ds[i] := List.getElem?_eq_getElem hi
          have frD : Fresh (F.B ++ (D :: L)) H' := fun p hp z => Ri.fresh hp ((cg p).mp z)
          obtain ⟨go, yl⟩ := it.go (D :: L) H' xx frD i _ hd
          rw [List.drop_eq_getElem_cons hi] at ec
          refine .inr ⟨go, fun H5 => ∃ accV accD δi, Ex (Msk (F.M ++ L) H1) (Msk (F.M ++ L) H5) ∧ EnvR K (F.hide D) L σ H5 δi ∧ H5 D = some (.dK accV) ∧ RpKV K (Msk ((F.hide D).B ++ L) H5) accV accD ∧ compD vs γ τ κ ε (ds.drop (i + 1)) δi accD = some (kvs, δ') ∧ accD.length ≤ i + 1, fun H5 hN => ⟨ds.length - (i + 1), by omega, rfl, hN⟩, fun y H2 hy => ?_⟩
          obtain ⟨x2, ry⟩ := yl y H2 hy
          rw [msk_congr cg] at ry
          unfold compD at ec
          split at ec
          · next δ2 eg =>
            refine hg (F.hide D) L (wipe σ vs) H2 (wipeE δi vs) y _ δ2 eg ((Ri.ex x2).wipe vs) ry _ fun σ2 hl2 hk2 Rg => ⟨wipe_eq hl2 hk2 hj, ?_⟩
            have hkk : ∀ j, ¬ j ∈ vs → σ2[j]? = σ[j]? := fun j hjv => by rw [hk2 j (fun z => hjv (hj j z)), wipe_get, if_neg hjv]
            split at ec
            · next δ3 et =>
              refine ht (F.hide D) L σ2 H2 δ2 true δ3 et Rg _ fun H3 s3 R3 => ?_
              rw [if_pos rfl]
              split at ec
              · next w δ4 ek =>
                refine hk (F.hide D) L σ2 H3 δ3 w δ4 ek R3 _ fun u H4 s4 R4 rw4 => ?_
                split at ec
                · next k hk' =>
                  split at ec
                  · next z δ5 ez =>
                    refine he (F.hide D) L σ2 H4 δ4 z δ5 ez R4 _ fun t H6 s6 R6 rt6 => ?_
                    have hw := keyOf_some hk'
                    subst hw
                    cases kV_of rw4
                    have s26 : Stp (F.hide D) L H' H6 := (Stp.of_ex x2).trans (s3.trans (s4.trans s6))
                    have hD6 : H6 D = some (.dK accV) := (msk_some (s26 D _ (by rw [msk_out hDml]; exact hD'))).2
                    refine ⟨accV, k, rfl, hD6, sz_lt (by rw [ra.len]; omega), ?_⟩
                    have e0 : Msk ((F.hide D).B ++ L) (upd H6 D (.dK (putK accV k t))) = Msk ((F.hide D).B ++ L) H6 := msk_upd (List.mem_cons_self)
                    refine ⟨putK accV k t, putD accD k z, backE vs 0 δi δ5, ?_, ((Ri.back s26 R6 hkk).updD (List.mem_cons_self) hDm _), upd_same, ?_, ec, ?_⟩
                    · intro a o ea
                      have h5 := msk_some (x a o ea)
                      have h6 := s26 a o (by rw [msk_out h5.1]; exact h5.2)
                      have ne : a ≠ D := ne_of_none (msk_some ea).2 hD
                      rw [msk_out h5.1, upd_ne ne]
                      exact (msk_some h6).2
                    · rw [e0]
                      exact RpKV.put k rt6 (RpKV.mono (msk_ex s26 Ri.sub) _ _ ra)
                    · have := putD_len accD k z
                      omega
                  · cases ec
                · cases ec
              · cases ec
            · next δ3 et =>
              refine ht (F.hide D) L σ2 H2 δ2 false δ3 et Rg _ fun H3 s3 R3 => ?_
              rw [if_neg Bool.false_ne_true]
              have s24 : Stp (F.hide D) L H' H3 := (Stp.of_ex x2).trans s3
              refine ⟨accV, accD, backE vs 0 δi δ3, ?_, Ri.back s24 R3 hkk, ?_, RpKV.mono (msk_ex s24 Ri.sub) _ _ ra, ec, by omega⟩
              · intro a o ea
                have h5 := msk_some (x a o ea)
                have h6 := s24 a o (by rw [msk_out h5.1]; exact h5.2)
                rw [msk_out h5.1]
                exact (msk_some h6).2
              · exact (msk_some (s24 D _ (by rw [msk_out hDml]; exact hD'))).2
            · cases ec
          · cases ec
        · rw [List.drop_eq_nil_of_le (by omega)] at ec
          cases ec
          refine .inl ⟨it.stop (D :: L) H' xx i (by omega), ?_⟩
          refine q _ H' (s1.trans x) (Ri.show R.mb) (.dic (ks := accV) ?_ (RpKV.mono (msk_sub fun a h => List.mem_cons_of_mem _ h) _ _ ra))
          rw [msk_out (R1.fresh hD)]
          exact hD'
      · cases e
    · rw [if_neg hz] at e
      cases e
  · cases e
/-- dict(ps), ps a list of pairs -/
def pairsD : List PyData → Option (List (Key × PyData))
  | [] => some []
  | .tuple [k, d] :: r => match keyOf k, pairsD r with
    | some k, some kvs => some ((k, d) :: kvs)
    | _, _ => none
  | _ :: _ => none
def mergeD (acc : List (PyData × PyData)) (kvs : List (Key × PyData)) : List (PyData × PyData) := kvs.foldl (fun acc kv => putD acc kv.1 kv.2) acc
def dDict : PyData → Option PyData
  | .list ds => match pairsD ds with
    | some kvs => some (.dict (mergeD [] kvs))
    | none => none
  | _ => none
theorem pairs_of {H : Hp} : ∀ {vs : List V} {ds : List PyData} {kvs : List (Key × PyData)}, RpAll K H vs ds → pairsD ds = some kvs → ∃ (ps : List Addr) (ks : List (Key × V)), vs = ps.map V.ref ∧ Paired (fun p kv => SqT K H p [kV kv.1, kv.2]) ps ks ∧ ks.map (·.1) = kvs.map (·.1) ∧ RpAll K H (ks.map (·.2)) (kvs.map (·.2))
  | _, [], kvs, h, e => by
    cases h
    cases e
    exact ⟨[], [], rfl, .nil, rfl, .nil⟩
  | _, d :: ds, kvs, h, e => by
    cases h with
    | @cons v vs _ _ h1 h2 =>
      unfold pairsD at e
      split at e
      · next heq =>
        cases heq
      · next k d' r heq =>
        cases heq
        split at e
        · next kk kvs' hk hr =>
          cases e
          obtain ⟨ps, ks, rfl, hp, e1, e2⟩ := pairs_of h2 hr
          cases h1 with
          | @tup a xs _ ha hx =>
            cases hx with
            | cons x1 x2 =>
              cases x2 with
              | @cons w _ _ _ x3 x4 =>
                cases x4
                have hk' := keyOf_some hk
                subst hk'
                cases kV_of x1
                exact ⟨a :: ps, (kk, w) :: ks, rfl, .cons ha hp, by rw [List.map_cons, List.map_cons, e1], .cons x3 e2⟩
        · cases e
      · cases e
theorem merge_of {H : Hp} : ∀ {ks : List (Key × V)} {kvs : List (Key × PyData)} {acc : List (Key × V)} {accD : List (PyData × PyData)}, ks.map (·.1) = kvs.map (·.1) → RpAll K H (ks.map (·.2)) (kvs.map (·.2)) → RpKV K H acc accD → RpKV K H (mergeK acc ks) (mergeD accD kvs)
  | [], [], _, _, _, _, h => h
  | [], _ :: _, _, _, e, _, _ => by cases e
  | _ :: _, [], _, _, e, _, _ => by cases e
  | (k, v) :: ks, (k', d) :: kvs, acc, accD, e, r, h => by
    rw [List.map_cons, List.map_cons] at e r
    have e1 := (List.cons.inj e).1
    have e2 := (List.cons.inj e).2
    dsimp only at e1
    subst e1
    cases r with
    | cons r1 r2 =>
      show RpKV K H (mergeK (putK acc k v) ks) (mergeD (putD accD k d) kvs)
      exact merge_of e2 r2 (h.put k r1)
abbrev rDictP (K : PySem.W.Frag) : List V → Hp → VK → Prop := fun xs H Q => ∃ (a : Addr) (ps : List Addr) (kvs : List (Key × V)), xs = [.ref a] ∧ SqL K H a (ps.map V.ref) ∧ Paired (fun p kv => SqT K H p [kV kv.1, kv.2]) ps kvs ∧
    ∀ p, H p = none → Q (.ref p) (upd H p (.dK (mergeK [] kvs)))
theorem paired_mono {α β : Type} {R R' : α → β → Prop} (h : ∀ a b, R a b → R' a b) : ∀ {as : List α} {bs : List β}, Paired R as bs → Paired R' as bs
  | _, _, .nil => .nil
  | _, _, .cons a b => .cons (h _ _ a) (paired_mono h b)
theorem r1_dict : R1 K (rDictP K) dDict := fun S H x a d e b fr Q q => by
  cases a with
  | list ds =>
    have e' : (match pairsD ds with
      | some kvs => some (PyData.dict (mergeD [] kvs))
      | none => none) = some d := e
    split at e'
    · next kvs hk =>
      cases e'
      obtain ⟨p, vs, rfl, h1, h2⟩ := b.lst
      obtain ⟨ps, ks, rfl, hp, e1, e2⟩ := pairs_of h2 hk
      refine ⟨p, ps, ks, rfl, sq_of h1, paired_mono (fun _ _ z => ex_t msk_le z) hp, fun l hl => ?_⟩
      refine q _ _ (Ex.new hl) (.dic (ks := mergeK [] ks) ?_ (RpKV.mono (ex_msk (Ex.new hl)) _ _ (merge_of e1 e2 .nil)))
      rw [msk_out (fr l hl)]
      exact upd_same
    · cases e'
  | _ => cases e
end
end Sm
namespace Sm
open PySem L2 Evl RZ
section
variable {K : PySem.W.Frag}
/-! ### walks over a list of one's own that stands meanwhile -/
open Classical in
noncomputable def compLO (i0 : Nat) (all : List PyData) (vs : List Nat) (γ : FG) (τ : FT) (ε : FE) : List PyData → En → Option (List PyData × En)
  | [], δ => if ownAt δ i0 = some all then some ([], δ) else none
  | d :: ds, δ => if ownAt δ i0 = some all then (match γ d (wipeE δ vs) with
    | some δ2 => match τ δ2 with
      | some (true, δ3) => match ε δ3 with
        | some (y, δ4) => match compLO i0 all vs γ τ ε ds (backE vs 0 δ δ4) with
          | some (ys, δ5) => some (y :: ys, δ5)
          | none => none
        | none => none
      | some (false, δ3) => compLO i0 all vs γ τ ε ds (backE vs 0 δ δ3)
      | none => none
    | none => none) else none
noncomputable def fLcO (i0 : Nat) (vs : List Nat) (γ : FG) (τ : FT) (ε : FE) : FL := fun δ => match ownAt δ i0 with
  | some ds => if ds.length ≤ 40000 then compLO i0 ds vs γ τ ε ds δ else none
  | none => none
theorem wl_lcO {i0 : Nat} {g : TG} {tt : TT} {te : TE} {vs js : List Nat} {γ : FG} {τ : FT} {ε : FE} (hg : WG K g js γ) (hj : ∀ j, j ∈ js → j ∈ vs) (ht : WT K tt τ) (he : WE K te ε) : WL K (tLc (iAny K (tVar i0)) g tt te vs) (fLcO i0 vs γ τ ε) := fun F L σ H δ res δ' e R Q q => by
  unfold fLcO at e
  split at e
  · next ds e1 =>
    by_cases hz : ds.length ≤ 40000
    · rw [if_pos hz] at e
      obtain ⟨ev0, l0, vs0, he0, hm0, hs0, hl0, h10, hr0⟩ := own_at R e1
      refine .inl ⟨_, hs0, l0, rfl, ⟨_, sq_of h10⟩, fun D hD => ?_⟩
      have R1 := R
      have hDm : ¬ D ∈ F.M := fun z => R1.fresh hD (List.mem_append.mpr (.inl (R.mb D z)))
      have hDl : ¬ D ∈ L := fun z => R1.fresh hD (List.mem_append.mpr (.inr z))
      have hDml : ¬ D ∈ F.M ++ L := fun z => by
        rcases List.mem_append.mp z with z | z
        · exact hDm z
        · exact hDl z
      refine ⟨fun i m H' => m = ds.length - i ∧ ∃ accV accD rest δi, Ex (Msk (F.M ++ L) H) (Msk (F.M ++ L) H') ∧ EnvR K (F.hide D) L σ H' δi ∧ H' D = some (.lst accV) ∧ RpAll K (Msk ((F.hide D).B ++ L) H') accV accD ∧ compLO i0 ds vs γ τ ε (ds.drop i) δi = some (rest, δ') ∧ res = accD ++ rest ∧ accD.length ≤ i,
        ⟨ds.length, by omega, [], [], res, δ, ex_msk (Ex.new hD), R1.hide hD _, upd_same, .nil, by rw [List.drop_zero]; exact e, rfl, Nat.zero_le _⟩, ?_⟩
      rintro i m H' ⟨rfl, accV, accD, rest, δi, x, Ri, hD', ra, ec, er, hl⟩
      have own0 : ∀ δ2 : En, EnvR K (F.hide D) L σ H' δ2 → ownAt δ2 i0 = some ds → ∃ vs2, H' l0 = some (.lst vs2) ∧ RpAll K (Msk ((F.hide D).B ++ L) H') vs2 ds := fun δ2 R2 e2 => by
        obtain ⟨_, l2, vs2, _, _, hs2, _, h12, hr2⟩ := own_at R2 e2
        rw [hs0] at hs2
        cases hs2
        exact ⟨vs2, h12, hr2⟩
      by_cases hi : i < ds.length
      · have hd : ds[i]? = some ds[i] := List.getElem?_eq_getElem hi
        rw [List.drop_eq_getElem_cons hi] at ec
        unfold compLO at ec
        by_cases hown : ownAt δi i0 = some ds
        case neg =>
          rw [if_neg hown] at ec
          cases ec
        rw [if_pos hown] at ec
        obtain ⟨vs2, h12, hr2⟩ := own0 δi Ri hown
        obtain ⟨v2, hv2, rv2⟩ := hr2.get i _ hd
        refine .inr ⟨⟨vs2, v2, sq_of h12, hv2⟩, fun H5 => ∃ accV accD rest δi, Ex (Msk (F.M ++ L) H) (Msk (F.M ++ L) H5) ∧ EnvR K (F.hide D) L σ H5 δi ∧ H5 D = some (.lst accV) ∧ RpAll K (Msk ((F.hide D).B ++ L) H5) accV accD ∧ compLO i0 ds vs γ τ ε (ds.drop (i + 1)) δi = some (rest, δ') ∧ res = accD ++ rest ∧ accD.length ≤ i + 1, fun H5 hN => ⟨ds.length - (i + 1), by omega, rfl, hN⟩, fun y H2 hy => ?_⟩
        obtain ⟨rfl, hy⟩ := hy
        have hy2 := hy vs2 (sq_of h12)
        rw [hv2] at hy2
        cases hy2
        have x2 : Ex H2 H2 := Ex.refl _
        have ry := rv2
        split at ec
        · next δ2 eg =>
          refine hg (F.hide D) L (wipe σ vs) H2 (wipeE δi vs) v2 _ δ2 eg ((Ri.ex x2).wipe vs) ry _ fun σ2 hl2 hk2 Rg => ⟨wipe_eq hl2 hk2 hj, ?_⟩
          have hk : ∀ j, ¬ j ∈ vs → σ2[j]? = σ[j]? := fun j hjv => by rw [hk2 j (fun z => hjv (hj j z)), wipe_get, if_neg hjv]
          split at ec
          · next δ3 et =>
            refine ht (F.hide D) L σ2 H2 δ2 true δ3 et Rg _ fun H3 s3 R3 => ?_
            rw [if_pos rfl]
            split at ec
            · next w δ4 ee =>
              refine he (F.hide D) L σ2 H3 δ3 w δ4 ee R3 _ fun u H4 s4 R4 rw4 => ?_
              have hD4 : H4 D = some (.lst accV) := by
                have := s4 D _ (by rw [msk_out hDml]; exact (msk_some (s3 D _ (by rw [msk_out hDml]; exact x2 D _ hD'))).2)
                exact (msk_some this).2
              refine ⟨accV, hD4, sz_lt (by rw [ra.len]; omega), ?_⟩
              split at ec
              · next ys δ5 ecc =>
                cases ec
                have s24 : Stp (F.hide D) L H2 H4 := (Stp.of_ex x2).trans (s3.trans s4)
                have e0 : Msk ((F.hide D).B ++ L) (upd H4 D (.lst (accV ++ [u]))) = Msk ((F.hide D).B ++ L) H4 := msk_upd (List.mem_cons_self)
                refine ⟨accV ++ [u], accD ++ [w], ys, backE vs 0 δi δ4, ?_, ((Ri.back s24 R4 hk).updD (List.mem_cons_self) hDm _), upd_same, ?_, ecc, by rw [er, List.append_assoc]; rfl, by rw [List.length_append]; show _ + 1 ≤ _; omega⟩
                · intro a o ea
                  have h5 := msk_some (x a o ea)
                  have h6 := s24 a o (by rw [msk_out h5.1]; exact h5.2)
                  have ne : a ≠ D := ne_of_none (msk_some ea).2 hD
                  rw [msk_out h5.1, upd_ne ne]
                  exact (msk_some h6).2
                · rw [e0]
                  exact (s24.all Ri.sub ra).app (.cons rw4 .nil)
              · cases ec
            · cases ec
          · next δ3 et =>
            refine ht (F.hide D) L σ2 H2 δ2 false δ3 et Rg _ fun H3 s3 R3 => ?_
            rw [if_neg Bool.false_ne_true]
            have s24 : Stp (F.hide D) L H2 H3 := (Stp.of_ex x2).trans s3
            refine ⟨accV, accD, rest, backE vs 0 δi δ3, ?_, Ri.back s24 R3 hk, ?_, s24.all Ri.sub ra, ec, er, by omega⟩
            · intro a o ea
              have h5 := msk_some (x a o ea)
              have h6 := s24 a o (by rw [msk_out h5.1]; exact h5.2)
              rw [msk_out h5.1]
              exact (msk_some h6).2
            · exact (msk_some (s24 D _ (by rw [msk_out hDml]; exact hD'))).2
          · cases ec
        · cases ec
      · rw [List.drop_eq_nil_of_le (by omega)] at ec
        unfold compLO at ec
        by_cases hown : ownAt δi i0 = some ds
        case neg =>
          rw [if_neg hown] at ec
          cases ec
        rw [if_pos hown] at ec
        cases ec
        rw [List.append_nil] at er
        subst er
        obtain ⟨vs2, h12, hr2⟩ := own0 _ Ri hown
        refine .inl ⟨⟨vs2, sq_of h12, by rw [hr2.len]; omega⟩, ?_⟩
        exact q D accV H' (hD) (x) Ri hD' ra
    · rw [if_neg hz] at e
      cases e
  · cases e
open Classical in
noncomputable def loopO (i0 : Nat) (all : List PyData) (γ : FG) (β : FS) : List PyData → En → Option Out
  | [], δ => if ownAt δ i0 = some all then some (.nx δ) else none
  | d :: ds, δ => if ownAt δ i0 = some all then (match γ d δ with
    | some δ2 => match β δ2 with
      | some (.nx δ3) => loopO i0 all γ β ds δ3
      | some (.ct δ3) => loopO i0 all γ β ds δ3
      | some (.bk δ3) => some (.nx δ3)
      | some (.rt v δ3) => some (.rt v δ3)
      | some (.rl v δ3) => some (.rl v δ3)
      | none => none
    | none => none) else none
noncomputable def sForO (i0 : Nat) (γ : FG) (β : FS) : FS := fun δ => match ownAt δ i0 with
  | some ds => loopO i0 ds γ β ds δ
  | none => none
theorem ws_forO {i0 : Nat} {g : TG} {tb : TS} {js ws : List Nat} {γ : FG} {β : FS} (hg : WG K g js γ) (hb : WS K tb ws β) (hi0 : ¬ i0 ∈ js ++ ws) : WS K (tFor (iAny K (tVar i0)) g tb) (js ++ ws) (sForO i0 γ β) := fun F L σ H δ o e R D k => by
  unfold sForO at e
  split at e
  · next ds e1 =>
    obtain ⟨ev0, l0, vs0, he0, hm0, hs0, hl0, h10, hr0⟩ := own_at R e1
    refine .inl ⟨_, hs0, l0, rfl, ⟨_, sq_of h10⟩, ?_⟩
    have k1 := k
    have R1 := R
    refine ⟨fun i m σ' H' => m = ds.length - i ∧ ∃ L' δ', StpS F L H L' H' ∧ EnvR K F L' σ' H' δ' ∧ loopO i0 ds γ β (ds.drop i) δ' = some o ∧ ∀ j, ¬ j ∈ js ++ ws → σ'[j]? = σ[j]?, ⟨ds.length, by omega, L, δ, StpS.refl, R1, by rw [List.drop_zero]; exact e, fun _ _ => rfl⟩, ?_⟩
    rintro i m σ' H' ⟨rfl, L', δ', s, R', el, kk⟩
    have own0 : ownAt δ' i0 = some ds → ∃ vs2, H' l0 = some (.lst vs2) ∧ RpAll K (Msk (F.B ++ L') H') vs2 ds := fun e2 => by
      obtain ⟨_, l2, vs2, _, _, hs2, _, h12, hr2⟩ := own_at R' e2
      rw [kk i0 hi0, hs0] at hs2
      cases hs2
      exact ⟨vs2, h12, hr2⟩
    by_cases hlt : i < ds.length
    · have hd : ds[i]? = some ds[i] := List.getElem?_eq_getElem hlt
      rw [List.drop_eq_getElem_cons hlt] at el
      unfold loopO at el
      by_cases hown : ownAt δ' i0 = some ds
      case neg =>
        rw [if_neg hown] at el
        cases el
      rw [if_pos hown] at el
      obtain ⟨vs2, h12, hr2⟩ := own0 hown
      obtain ⟨v2, hv2, rv2⟩ := hr2.get i _ hd
      refine .inr ⟨⟨vs2, v2, sq_of h12, hv2⟩, fun σ5 H5 => ∃ L' δ', StpS F L H L' H5 ∧ EnvR K F L' σ5 H5 δ' ∧ loopO i0 ds γ β (ds.drop (i + 1)) δ' = some o ∧ ∀ j, ¬ j ∈ js ++ ws → σ5[j]? = σ[j]?, fun σ5 H5 hN => ⟨ds.length - (i + 1), by omega, rfl, hN⟩, fun y H2 hy => ?_⟩
      obtain ⟨rfl, hy⟩ := hy
      have hy2 := hy vs2 (sq_of h12)
      rw [hv2] at hy2
      cases hy2
      have x2 : Ex H2 H2 := Ex.refl _
      have ry := rv2
      have s2 : StpS F L H L' H2 := s.trans ((Stp.of_ex x2).s R' (R'.ex x2)) R1.live
      split at el
      · next δ2 eg =>
        refine hg F L' σ' H2 δ' v2 _ δ2 eg (R'.ex x2) ry _ fun σ2 _ kg Rg => ?_
        have kk2 : ∀ j, ¬ j ∈ js ++ ws → σ2[j]? = σ[j]? := fun j hj => (kg j fun z => hj (in_l j z)).trans (kk j hj)
        have kk3 : ∀ {σ3 : St}, (∀ j, ¬ j ∈ ws → σ3[j]? = σ2[j]?) → ∀ j, ¬ j ∈ js ++ ws → σ3[j]? = σ[j]? := fun z j hj => (z j fun q => hj (in_r j q)).trans (kk2 j hj)
        split at el
        · next δ3 eb =>
          exact hb F L' σ2 H2 δ2 _ eb Rg _ fun L3 σ3 H3 s3 R3 z3 => ⟨L3, δ3, s2.trans s3 R1.live, R3, el, kk3 z3⟩
        · next δ3 eb =>
          exact hb F L' σ2 H2 δ2 _ eb Rg _ fun L3 σ3 H3 s3 R3 z3 => ⟨L3, δ3, s2.trans s3 R1.live, R3, el, kk3 z3⟩
        · next δ3 eb =>
          cases el
          exact hb F L' σ2 H2 δ2 _ eb Rg _ fun L3 σ3 H3 s3 R3 z3 => k1 L3 σ3 H3 (s2.trans s3 R1.live) R3 (kk3 z3)
        · next v δ3 eb =>
          cases el
          exact hb F L' σ2 H2 δ2 _ eb Rg _ (Ok.back (o := .rt v δ3) R1 s2 kk2 (fun _ z => z) in_r k1)
        · next v δ3 eb =>
          cases el
          exact hb F L' σ2 H2 δ2 _ eb Rg _ (Ok.back (o := .rl v δ3) R1 s2 kk2 (fun _ z => z) in_r k1)
        · cases el
      · cases el
    · rw [List.drop_eq_nil_of_le (by omega)] at el
      unfold loopO at el
      by_cases hown : ownAt δ' i0 = some ds
      case neg =>
        rw [if_neg hown] at el
        cases el
      rw [if_pos hown] at el
      cases el
      obtain ⟨vs2, h12, hr2⟩ := own0 hown
      exact .inl ⟨⟨vs2, sq_of h12, by rw [hr2.len]; omega⟩, k1 L' σ' H' s R' kk⟩
  · cases e
/-! ### a, b = two new lists, own -/
def sParO (i j : Nat) (φ ψ : FL) : FS := fun δ => match φ δ with
  | some (xs, δ1) => match ψ δ1 with
    | some (ys, δ2) => if i < δ2.length ∧ j < δ2.length then some (.nx ((δ2.set j (.own ys)).set i (.own xs))) else none
    | none => none
  | none => none
theorem ws_parO {ta tb : TE} {i j : Nat} {φ ψ : FL} (hij : i ≠ j) (h : WL K ta φ) (h' : WL K tb ψ) : WS K (tPar i j (tCons ta (tCons tb tNil))) [i, j] (sParO i j φ ψ) := fun F L σ H δ o e R D k => by
  unfold sParO at e
  split at e
  · next xs δ1 e1 =>
    split at e
    · next ys δ2 e2 =>
      by_cases hl : i < δ2.length ∧ j < δ2.length
      · rw [if_pos hl] at e
        cases e
        refine h F L σ H δ xs δ1 e1 R _ fun p us H1 hp s1 R1 h1 d1 => ?_
        refine h' (F.hide p) L σ H1 δ1 ys δ2 e2 R1 _ fun q ws H2 hq s2 R2 h2 d2 => ?_
        have hn := R.fresh hp
        have hpB : ¬ p ∈ F.B := fun z => hn (List.mem_append.mpr (.inl z))
        have hpm : ¬ p ∈ (F.hide p).M ++ L := fun z => hn (R.sub p z)
        have h12 : H2 p = some (.lst us) := (msk_some (s2 p _ (by rw [msk_out hpm]; exact h1))).2
        have hnq := R1.fresh hq
        have hqB : ¬ q ∈ (F.hide p).B := fun z => hnq (List.mem_append.mpr (.inl z))
        have hqp : q ≠ p := fun z => hqB (by rw [z]; exact List.mem_cons_self)
        have d1' : RpAll K (Msk ((F.hide p).B ++ L) H2) us xs := s2.all R1.sub d1
        have R3 := R2.putOwn R1.mb hqB h2 d2 hl.2
        have e0 : Ex (Msk ((F.hide p).B ++ L) H1) (Msk ((F.hide p).B ++ (q :: L)) H2) := fun a o ea => by
          obtain ⟨z1, z2⟩ := msk_some ea
          have nm : ¬ a ∈ (F.hide p).M ++ L := fun z => z1 (R1.sub a z)
          have z3 := (msk_some (s2 a o (by rw [msk_out nm]; exact z2))).2
          have ne : a ≠ q := ne_of_none z2 hq
          rw [msk_out (fun z => by
            rcases List.mem_append.mp z with z | z
            · exact z1 (List.mem_append.mpr (.inl z))
            · rcases List.mem_cons.mp z with z | z
              · exact ne z
              · exact z1 (List.mem_append.mpr (.inr z)))]
          exact z3
        have R4 := R3.putOwn (i := i) R.mb hpB h12 (RpAll.mono e0 _ _ d1) (by rw [List.length_set]; exact hl.1)
        have hc : (σ.set j (some (.ref q))).set i (some (.ref p)) = (σ.set i (some (.ref p))).set j (some (.ref q)) := List.set_comm _ _ hij.symm
        rw [hc] at R4
        refine ⟨_, _, rfl, k (p :: q :: L) _ H2 ⟨fun a o ea => ?_, fun a ha => ?_, fun a ha => ?_⟩ R4 fun m hm => ?_⟩
        · have z := msk_some (s1 a o ea)
          have z2 := s2 a o (by rw [msk_out z.1]; exact z.2)
          exact z2
        · rcases List.mem_cons.mp ha with z | z
          · rw [z]
            exact .inr hp
          · rcases List.mem_cons.mp z with z | z
            · right
              rw [z]
              cases eq0 : H q with
              | none => rfl
              | some o =>
                exfalso
                by_cases hm : q ∈ F.M ++ L
                · exact hnq (List.mem_cons_of_mem _ (R.sub q hm))
                · have := (msk_some (s1 q o (by rw [msk_out hm]; exact eq0))).2
                  rw [hq] at this
                  cases this
            · exact .inl z
        · have z1 := (s1.s R (R1.show R.mb)).kp a ha
          exact (s2.s R1 (R2.show R1.mb)).kp a z1
        · rw [get_set, if_neg (fun z => hm (by rw [z]; simp)), get_set, if_neg (fun z => hm (by rw [z]; simp))]
      · rw [if_neg hl] at e
        cases e
    · cases e
  · cases e
/-! ### a comparison whose left side is a list of one's own -/
def fOpO (f : PyData → PyData → Option PyData) (i : Nat) (ψ : FE) : FE := fun δ => match ownAt δ i with
  | some _ => match ψ δ with
    | some (y, δ2) => match ownAt δ2 i with
      | some ds => match f (.list ds) y with
        | some (.bool b) => some (.bool b, δ2)
        | _ => none
      | none => none
    | none => none
  | none => none
theorem we_opO {r : R2} {f : PyData → PyData → Option PyData} {tb : TE} {i : Nat} {ψ : FE} (hr : RD K r f) (hb : WE K tb ψ) : WE K (tOp r (tVar i) tb) (fOpO f i ψ) := fun F L σ H δ d δ' e R Q q => by
  unfold fOpO at e
  split at e
  · next ds0 e0 =>
    split at e
    · next y δ2 e1 =>
      split at e
      · next ds e2 =>
        split at e
        · next b e3 =>
          cases e
          obtain ⟨_, l, vs, _, _, hs, _, h1, _⟩ := own_at R e0
          refine ⟨_, hs, hb F L σ H δ y _ e1 R _ fun w H2 s2 R2 d2 => ?_⟩
          obtain ⟨_, l', vs', _, _, hs', _, h1', hr'⟩ := own_at R2 e2
          rw [hs] at hs'
          cases hs'
          refine hr [] H2 (.ref l) w _ y _ e3 ?_ ?_ (fun _ _ z => by simp at z) Q fun v H3 x3 d3 => ?_
          · rw [msk_nil]
            exact .lst h1' (RpAll.mono msk_le _ _ hr')
          · rw [msk_nil]
            exact Rp.mono msk_le _ _ d2
          · cases d3
            exact q _ H3 (s2.trans (Stp.of_ex x3)) (R2.ex x3) (.bl _)
        · cases e
      · cases e
    · cases e
  · cases e
end
end Sm
namespace Sm
open PySem L2 Evl RZ
section
variable {K : PySem.W.Frag}
/-! ### own dicts -/
abbrev FD := En → Option (List (PyData × PyData) × En)
/-- a new dict, nobody's yet -/
def WD (K : PySem.W.Frag) (te : TE) (φ : FD) : Prop := ∀ (F : Fm) (L : List Addr) (σ : St) (H : Hp) (δ : En) (ds : List (PyData × PyData)) (δ' : En), φ δ = some (ds, δ') → EnvR K F L σ H δ → ∀ Q : VK,
  (∀ p ks H2, H p = none → Stp F L H H2 → EnvR K (F.hide p) L σ H2 δ' → H2 p = some (.dK ks) → RpKV K (Msk ((F.hide p).B ++ L) H2) ks ds → Q (.ref p) H2) → te σ H Q
theorem EnvR.putMine {F : Fm} {L : List Addr} {σ : St} {H : Hp} {δ : En} {p : Addr} {en : EV} {i : Nat} (R : EnvR K (F.hide p) L σ H δ) (mb : ∀ a, a ∈ F.M → a ∈ F.B) (hpB : ¬ p ∈ F.B) (hn : SlotR K F (p :: L) H (some (some (.ref p))) en) (hi : i < δ.length) :
    EnvR K F (p :: L) (σ.set i (some (.ref p))) H (δ.set i en) := by
  have npl : ∀ a, a ∈ L → a ≠ p := fun a ha z => R.lb a ha (by rw [z]; exact List.mem_cons_self)
  have npm : ∀ a, a ∈ F.M → a ≠ p := fun a ha z => hpB (by rw [← z]; exact mb a ha)
  have old : ∀ (j : Nat) (e : EV), δ[j]? = some e → SlotR K F (p :: L) H σ[j]? e ∧ (e.mine = true → σ[j]? ≠ some (some (.ref p))) := fun j e h => by
    have := R.at_ j e h
    cases e with
    | un => exact ⟨trivial, fun z => nomatch z⟩
    | dat d =>
      obtain ⟨v, h1, h2⟩ := this
      rw [msk_congr hide_cg] at h2
      exact ⟨⟨v, h1, h2⟩, fun z => nomatch z⟩
    | own ds =>
      obtain ⟨l, vs, h1, h2, h3, h4⟩ := this
      rw [msk_congr hide_cg] at h4
      refine ⟨⟨l, vs, h1, List.mem_cons_of_mem _ h2, h3, h4⟩, fun _ z => ?_⟩
      rw [h1] at z
      cases z
      exact npl _ h2 rfl
    | odc ds =>
      obtain ⟨l, vs, h1, h2, h3, h4⟩ := this
      rw [msk_congr hide_cg] at h4
      refine ⟨⟨l, vs, h1, List.mem_cons_of_mem _ h2, h3, h4⟩, fun _ z => ?_⟩
      rw [h1] at z
      cases z
      exact npl _ h2 rfl
    | bag ds =>
      obtain ⟨l, vs, h1, h2, h3, h4⟩ := this
      rw [msk_congr hide_cg] at h4
      refine ⟨⟨l, vs, h1, h2, h3, h4⟩, fun _ z => ?_⟩
      rw [h1] at z
      cases z
      exact npm _ h2 rfl
  refine ⟨by rw [List.length_set, List.length_set, R.len], fun j e h => ?_, fun a b l e1 e2 hab h1 h2 m1 m2 s1 s2 => ?_, fun a ha => R.al a ((hide_cg a).mpr ha), mb, fun a ha => ?_⟩
  · rw [get_set] at h ⊢
    by_cases hij : i = j
    · rw [if_pos hij] at h ⊢
      subst hij
      rw [if_pos hi] at h
      rw [if_pos (by rw [R.len]; exact hi)]
      cases h
      exact hn
    · rw [if_neg hij] at h ⊢
      exact (old j e h).1
  · rw [get_set] at h1 h2 s1 s2
    by_cases ha : i = a
    · have hb : ¬ i = b := fun z => hab (ha.symm.trans z)
      rw [if_neg hb] at h2 s2
      rw [if_pos ha] at s1
      split at s1
      · cases s1
        exact (old b e2 h2).2 m2 s2
      · cases s1
    · rw [if_neg ha] at h1 s1
      by_cases hb : i = b
      · rw [if_pos hb] at s2
        split at s2
        · cases s2
          exact (old a e1 h1).2 m1 s1
        · cases s2
      · rw [if_neg hb] at h2 s2
        exact R.dis a b l e1 e2 hab h1 h2 m1 m2 s1 s2
  · rcases List.mem_cons.mp ha with z | z
    · rw [z]
      exact hpB
    · exact fun q => R.lb a z (List.mem_cons_of_mem _ q)
/-- x = a new dict, x's own -/
def sOwnD (i : Nat) (φ : FD) : FS := fun δ => match φ δ with
  | some (ds, δ1) => if i < δ1.length then some (.nx (δ1.set i (.odc ds))) else none
  | none => none
theorem ws_ownD {te : TE} {i : Nat} {φ : FD} (h : WD K te φ) : WS K (tAsg te (gName i)) [i] (sOwnD i φ) := fun F L σ H δ o e R D k => by
  unfold sOwnD at e
  split at e
  · next ds δ1 e1 =>
    by_cases hi : i < δ1.length
    · rw [if_pos hi] at e
      cases e
      refine h F L σ H δ ds δ1 e1 R _ fun p vs H2 hp s R2 h2 d2 => ?_
      have hn := R.fresh hp
      have hpB : ¬ p ∈ F.B := fun z => hn (List.mem_append.mpr (.inl z))
      refine k (p :: L) _ H2 ⟨s, fun a ha => ?_, (s.s R (R2.show R.mb)).kp⟩ (R2.putMine R.mb hpB ⟨p, vs, rfl, List.mem_cons_self, h2, by rw [← msk_congr hide_cg]; exact d2⟩ hi) (fun j hj => by rw [get_set, if_neg (fun z => hj (by rw [z]; exact List.mem_singleton.mpr rfl))])
      rcases List.mem_cons.mp ha with z | z
      · rw [z]
        exact .inr hp
      · exact .inl z
    · rw [if_neg hi] at e
      cases e
  · cases e
/-- {} -/
def fNewD : FD := fun δ => some ([], δ)
theorem wd_new : WD K tDNewK fNewD := fun F L σ H δ d δ' e R Q q => by
  cases e
  intro p hp
  exact q p [] _ hp (Stp.of_ex (Ex.new hp)) (R.hide hp _) upd_same .nil
/-- dict(..) of a list of pairs -/
def fDictD (φ : FE) : FD := fun δ => match φ δ with
  | some (.list ds, δ1) => match pairsD ds with
    | some kvs => some (mergeD [] kvs, δ1)
    | none => none
  | _ => none
theorem wd_dict {te : TE} {φ : FE} (h : WB K te φ) : WD K (tCB (rDictP K) (tCons te tNil)) (fDictD φ) := fun F L σ H δ d δ' e R Q q => by
  unfold fDictD at e
  split at e
  · next ds δ1 e1 =>
    split at e
    · next kvs hk =>
      cases e
      refine h F L σ H δ _ _ e1 R _ fun v H1 s1 R1 b1 => ?_
      obtain ⟨p, vs, rfl, h1, h2⟩ := b1.lst
      obtain ⟨ps, ks, rfl, hp, k1, k2⟩ := pairs_of h2 hk
      refine ⟨p, ps, ks, rfl, sq_of h1, paired_mono (fun _ _ z => ex_t msk_le z) hp, fun l hl => ?_⟩
      refine q l (mergeK [] ks) _ ?_ (s1.trans (Stp.of_ex (Ex.new hl))) (R1.hide hl _) upd_same (RpKV.mono (hide_ex (Ex.new hl) hl) _ _ (merge_of k1 k2 .nil))
      cases z : H l with
      | none => rfl
      | some o => exact absurd hl ((s1.s R R1).kp l (by rw [z]; exact fun q => nomatch q))
    · cases e
  · cases e
def dicAt (δ : En) (i : Nat) : Option (List (PyData × PyData)) := match δ[i]? with
  | some (.odc ds) => some ds
  | _ => none
theorem dic_at {F : Fm} {L : List Addr} {σ : St} {H : Hp} {δ : En} (R : EnvR K F L σ H δ) {i : Nat} {ds : List (PyData × PyData)} (h : dicAt δ i = some ds) : δ[i]? = some (.odc ds) ∧ ∃ l ks, σ[i]? = some (some (.ref l)) ∧ l ∈ L ∧ H l = some (.dK ks) ∧ RpKV K (Msk (F.B ++ L) H) ks ds := by
  unfold dicAt at h
  split at h
  · next ds' he =>
    cases h
    exact ⟨he, R.at_ i _ he⟩
  · cases h
/-- an own dict has changed -/
theorem EnvR.updDic {F : Fm} {L : List Addr} {σ : St} {H : Hp} {δ : En} {i : Nat} {l : Addr} {ds0 ds : List (PyData × PyData)} {ks : List (Key × V)} (R : EnvR K F L σ H δ) (he : δ[i]? = some (.odc ds0)) (hs : σ[i]? = some (some (.ref l))) (hl : l ∈ L)
    (hr : RpKV K (Msk (F.B ++ L) H) ks ds) : EnvR K F L σ (upd H l (.dK ks)) (δ.set i (.odc ds)) ∧ Stp F L H (upd H l (.dK ks)) := by
  have hlm : l ∈ F.M ++ L := List.mem_append.mpr (.inr hl)
  have st : Stp F L H (upd H l (.dK ks)) := msk_ex upd_ex1 (fun a ha => by rw [List.mem_singleton.mp ha]; exact hlm)
  have hil : i < δ.length := (List.getElem?_eq_some_iff.mp he).1
  have e0 : Msk (F.B ++ L) (upd H l (.dK ks)) = Msk (F.B ++ L) H := msk_upd (R.sub l hlm)
  refine ⟨?_, st⟩
  refine ⟨by rw [List.length_set]; exact R.len, fun j e' h => ?_, fun a b l' e1 e2 hab h1 h2 m1 m2 s1 s2 => ?_, fun a ha => ?_, R.mb, R.lb⟩
  · rw [get_set] at h
    by_cases hij : i = j
    · subst hij
      rw [if_pos rfl, if_pos hil] at h
      cases h
      exact ⟨l, ks, hs, hl, upd_same, by rw [e0]; exact hr⟩
    · rw [if_neg hij] at h
      have ha := R.at_ j e' h
      cases e' with
      | un => trivial
      | dat d =>
        obtain ⟨v, k1, k2⟩ := ha
        exact ⟨v, k1, st.dat R.sub k2⟩
      | own ds' =>
        obtain ⟨l2, vs2, k1, k2, k3, k4⟩ := ha
        have ne : l2 ≠ l := fun z => by
          subst z
          exact R.dis i j l2 _ _ hij he h rfl rfl hs k1
        exact ⟨l2, vs2, k1, k2, by rw [upd_ne ne]; exact k3, st.all R.sub k4⟩
      | odc ds' =>
        obtain ⟨l2, vs2, k1, k2, k3, k4⟩ := ha
        have ne : l2 ≠ l := fun z => by
          subst z
          exact R.dis i j l2 _ _ hij he h rfl rfl hs k1
        exact ⟨l2, vs2, k1, k2, by rw [upd_ne ne]; exact k3, st.kvs R.sub k4⟩
      | bag ds' =>
        obtain ⟨l2, vs2, k1, k2, k3, k4⟩ := ha
        have ne : l2 ≠ l := fun z => by
          subst z
          exact R.dis i j l2 _ _ hij he h rfl rfl hs k1
        exact ⟨l2, vs2, k1, k2, by rw [upd_ne ne]; exact k3, st.all R.sub k4⟩
  · rw [get_set] at h1 h2
    have back : ∀ (c : Nat) (ec : EV), (if i = c then if c < δ.length then some (EV.odc ds) else none else δ[c]?) = some ec → ec.mine = true → ∃ ec', δ[c]? = some ec' ∧ ec'.mine = true := fun c ec hc mc => by
      by_cases z : i = c
      · subst z
        exact ⟨_, he, rfl⟩
      · rw [if_neg z] at hc
        exact ⟨ec, hc, mc⟩
    obtain ⟨f1, g1, n1⟩ := back a e1 h1 m1
    obtain ⟨f2, g2, n2⟩ := back b e2 h2 m2
    exact R.dis a b l' f1 f2 hab g1 g2 n1 n2 s1 s2
  · by_cases z : a = l
    · rw [z, upd_same]
      exact fun q => nomatch q
    · rw [upd_ne z]
      exact R.al a ha
/-- d[k] = v -/
def sDPutO (i : Nat) (ψ φ : FE) : FS := fun δ => match φ δ with
  | some (d, δ1) => match dicAt δ1 i with
    | some _ => match ψ δ1 with
      | some (y, δ2) => match keyOf y, dicAt δ2 i with
        | some k, some ds => if ds.length < 40000 then some (.nx (δ2.set i (.odc (putD ds k d)))) else none
        | _, _ => none
      | none => none
    | none => none
  | none => none
theorem ws_dput {ty tv : TE} {i : Nat} {ψ φ : FE} (h' : WE K ty ψ) (h : WE K tv φ) : WS K (sDPut (tVar i) ty tv) [] (sDPutO i ψ φ) := fun F L σ H δ o e R D k => by
  unfold sDPutO at e
  split at e
  · next d δ1 e1 =>
    split at e
    · next ds0 e0 =>
      split at e
      · next y δ2 e2 =>
        split at e
        · next kk ds hk e3 =>
          by_cases hl : ds.length < 40000
          · rw [if_pos hl] at e
            cases e
            refine h F L σ H δ d δ1 e1 R _ fun v H1 s1 R1 d1 => ?_
            obtain ⟨he0, l, ks0, g1, g2, g3, g4⟩ := dic_at R1 e0
            refine ⟨_, g1, ?_⟩
            refine h' F L σ H1 δ1 y δ2 e2 R1 _ fun w H2 s2 R2 d2 => ?_
            obtain ⟨he, l', ks, k1, k2, k3, k4⟩ := dic_at R2 e3
            rw [g1] at k1
            cases k1
            have hyk := keyOf_some hk
            subst hyk
            cases kV_of d2
            obtain ⟨R3, s3⟩ := R2.updDic (ds := putD ds kk d) (ks := putK ks kk v) he g1 k2 (k4.put kk (s2.dat R1.sub d1))
            refine ⟨l, _, rfl, DPut.k k3 (by rw [k4.len, sizeLine_eq]; omega), ?_⟩
            exact k L σ _ (((s1.trans s2).trans s3).s R R3) R3 fun _ _ => rfl
          · rw [if_neg hl] at e
            cases e
        · cases e
      · cases e
    · cases e
  · cases e
/-- d[k], d one's own -/
def fDGetO (i : Nat) (ψ : FE) : FE := fun δ => match dicAt δ i with
  | some _ => match ψ δ with
    | some (y, δ1) => match keyOf y, dicAt δ1 i with
      | some k, some ds => match lookD ds k with
        | some d => some (d, δ1)
        | none => none
      | _, _ => none
    | none => none
  | none => none
theorem we_dgetO {ty : TE} {i : Nat} {ψ : FE} (h' : WE K ty ψ) : WE K (tDGet (tVar i) ty) (fDGetO i ψ) := fun F L σ H δ d δ' e R Q q => by
  unfold fDGetO at e
  split at e
  · next ds0 e0 =>
    obtain ⟨he0, l, ks0, g1, g2, g3, g4⟩ := dic_at R e0
    split at e
    · next y δ1 e1 =>
      split at e
      · next kk ds hk e3 =>
        split at e
        · next d' hd =>
          cases e
          refine ⟨_, g1, ?_⟩
          refine h' F L σ H δ y _ e1 R _ fun w H2 s2 R2 d2 => ?_
          obtain ⟨he, l', ks, k1, k2, k3, k4⟩ := dic_at R2 e3
          rw [g1] at k1
          cases k1
          have hyk := keyOf_some hk
          subst hyk
          cases kV_of d2
          rcases k4.look kk with ⟨_, z⟩ | ⟨u, d0, z1, z2, z3⟩
          · rw [z] at hd
            cases hd
          · rw [z2] at hd
            cases hd
            refine ⟨l, u, rfl, ?_, q u H2 s2 R2 z3⟩
            rw [← z1]
            exact DGet.k k3
        · cases e
      · cases e
    · cases e
  · cases e
/-- d.get(k, x), d data -/
def fDGet2 (φ ψ χ : FE) : FE := fun δ => match φ δ with
  | some (x, δ1) => match ψ δ1 with
    | some (y, δ2) => match χ δ2 with
      | some (z, δ3) => match dictOf x, keyOf y with
        | some kvs, some k => some ((lookD kvs k).getD z, δ3)
        | _, _ => none
      | none => none
    | none => none
  | none => none
theorem we_dget2 {td ty tx : TE} {φ ψ χ : FE} (h : WE K td φ) (h' : WE K ty ψ) (h'' : WE K tx χ) : WE K (tDGet2 td ty tx) (fDGet2 φ ψ χ) := fun F L σ H δ d δ' e R Q q => by
  unfold fDGet2 at e
  split at e
  · next x δ1 e1 =>
    split at e
    · next y δ2 e2 =>
      split at e
      · next z δ3 e3 =>
        split at e
        · next kvs k hx hy =>
          cases e
          refine h F L σ H δ x δ1 e1 R _ fun v H1 s1 R1 d1 => ?_
          obtain ⟨a, ks, rfl, g1, g2⟩ := dict_of d1 hx
          refine ⟨a, rfl, .inl ⟨ks, .inl g1⟩, ?_⟩
          refine h' F L σ H1 δ1 y δ2 e2 R1 _ fun w H2 s2 R2 d2 => ?_
          refine h'' F L σ H2 δ2 z δ' e3 R2 _ fun u H3 s3 R3 d3 => ?_
          obtain ⟨a', ks', ea, h1, h2⟩ := dict_of (s3.dat R2.sub (s2.dat R1.sub d1)) hx
          cases ea
          have hyk := keyOf_some hy
          subst hyk
          cases kV_of d2
          rcases h2.look k with ⟨z0, z⟩ | ⟨u', d0, z1, z2, z3⟩
          · refine ⟨none, ?_, q _ H3 ((s1.trans s2).trans s3) R3 (by rw [z]; exact d3)⟩
            rw [← z0]
            exact DGet.k h1
          · refine ⟨some u', ?_, q _ H3 ((s1.trans s2).trans s3) R3 (by rw [z2]; exact z3)⟩
            rw [← z1]
            exact DGet.k h1
        · cases e
      · cases e
    · cases e
  · cases e
end
end Sm
namespace Sm
open PySem L2 Evl RZ
section
variable {K : PySem.W.Frag}
/-- an own dict becomes data -/
theorem EnvR.freezeD {F : Fm} {L : List Addr} {σ : St} {H : Hp} {δ : En} (R : EnvR K F L σ H δ) {i : Nat} {ds : List (PyData × PyData)} (h : δ[i]? = some (.odc ds)) : ∃ l vs, σ[i]? = some (some (.ref l)) ∧ l ∈ L ∧ H l = some (.dK vs) ∧ RpKV K (Msk (l :: (F.B ++ L.filter (· != l))) H) vs ds ∧ ¬ l ∈ F.B ++ L.filter (· != l) ∧
    ∀ e : EV, e.mine = false → SlotR K F (L.filter (· != l)) H (some (some (.ref l))) e → EnvR K F (L.filter (· != l)) σ H (δ.set i e) := by
  obtain ⟨l, vs, h1, h2, h3, h4⟩ := R.at_ i _ h
  have hil : i < δ.length := (List.getElem?_eq_some_iff.mp h).1
  have cg : ∀ a, a ∈ F.B ++ L ↔ a ∈ l :: (F.B ++ L.filter (· != l)) := fun a => by
    simp only [List.mem_append, List.mem_cons]
    constructor
    · rintro (z | z)
      · exact .inr (.inl z)
      · by_cases q : a = l
        · exact .inl q
        · exact .inr (.inr (filt_in z q))
    · rintro (z | z | z)
      · rw [z]
        exact .inr h2
      · exact .inl z
      · exact .inr (filt_sub z).1
  have nl : ¬ l ∈ F.B ++ L.filter (· != l) := fun z => by
    rcases List.mem_append.mp z with z | z
    · exact R.lb l h2 z
    · exact (filt_sub z).2 rfl
  have xm : Ex (Msk (F.B ++ L) H) (Msk (F.B ++ L.filter (· != l)) H) := msk_sub fun a ha => by
    rcases List.mem_append.mp ha with z | z
    · exact List.mem_append.mpr (.inl z)
    · exact List.mem_append.mpr (.inr (filt_sub z).1)
  refine ⟨l, vs, h1, h2, h3, by rw [← msk_congr cg]; exact h4, nl, fun e hm he => ⟨by rw [List.length_set]; exact R.len, fun j e' hj => ?_, fun a b l' e1 e2 hab k1 k2 m1 m2 s1 s2 => ?_, fun a ha => ?_, R.mb, fun a ha => R.lb a (filt_sub ha).1⟩⟩
  · rw [get_set] at hj
    by_cases hij : i = j
    · subst hij
      rw [if_pos rfl, if_pos hil] at hj
      cases hj
      rw [h1]
      exact he
    · rw [if_neg hij] at hj
      have ha := R.at_ j e' hj
      cases e' with
      | un => trivial
      | dat d =>
        obtain ⟨v, k1, k2⟩ := ha
        exact ⟨v, k1, Rp.mono xm _ _ k2⟩
      | own ds' =>
        obtain ⟨l2, vs2, k1, k2, k3, k4⟩ := ha
        have ne : l2 ≠ l := fun z => by
          subst z
          exact R.dis i j l2 _ _ hij h hj rfl rfl h1 k1
        exact ⟨l2, vs2, k1, filt_in k2 ne, k3, RpAll.mono xm _ _ k4⟩
      | odc ds' =>
        obtain ⟨l2, vs2, k1, k2, k3, k4⟩ := ha
        have ne : l2 ≠ l := fun z => by
          subst z
          exact R.dis i j l2 _ _ hij h hj rfl rfl h1 k1
        exact ⟨l2, vs2, k1, filt_in k2 ne, k3, RpKV.mono xm _ _ k4⟩
      | bag ds' =>
        obtain ⟨l2, vs2, k1, k2, k3, k4⟩ := ha
        exact ⟨l2, vs2, k1, k2, k3, RpAll.mono xm _ _ k4⟩
  · rw [get_set] at k1 k2
    by_cases ha : i = a
    · rw [if_pos ha] at k1
      split at k1
      · cases k1
        rw [hm] at m1
        cases m1
      · cases k1
    · by_cases hb : i = b
      · rw [if_pos hb] at k2
        split at k2
        · cases k2
          rw [hm] at m2
          cases m2
        · cases k2
      · rw [if_neg ha] at k1
        rw [if_neg hb] at k2
        exact R.dis a b l' e1 e2 hab k1 k2 m1 m2 s1 s2
  · exact R.al a (by
      rcases List.mem_append.mp ha with z | z
      · exact List.mem_append.mpr (.inl z)
      · exact List.mem_append.mpr (.inr (filt_sub z).1))
/-- from here on an own dict is data -/
def sFrzD (i : Nat) (φ : FS) : FS := fun δ => match δ[i]? with
  | some (.odc ds) => φ (δ.set i (.dat (.dict ds)))
  | _ => none
theorem ws_frzD {t : TS} {ws : List Nat} {i : Nat} {φ : FS} (h : WS K t ws φ) : WS K t ws (sFrzD i φ) := fun F L σ H δ o e R D k => by
  unfold sFrzD at e
  split at e
  · next ds hd =>
    obtain ⟨l, vs, h1, h2, h3, h4, h5, h6⟩ := R.freezeD hd
    have s : StpS F L H (L.filter (· != l)) H := ⟨Ex.refl _, fun a ha => .inl (filt_sub ha).1, fun _ z => z⟩
    refine h F _ σ H _ o e (h6 (.dat (.dict ds)) rfl ⟨_, rfl, .dic (by rw [msk_out h5]; exact h3) (RpKV.mono (msk_sub fun a ha => List.mem_cons_of_mem _ ha) _ _ h4)⟩) D (Ok.bk0 R s (fun _ z => z) k)
  · cases e
/-! ### sorted(d), d's keys whole numbers -/
def keyInts : List (PyData × PyData) → Option (List Int)
  | [] => some []
  | (.int i, _) :: r => match keyInts r with
    | some ns => some (i :: ns)
    | none => none
  | _ :: _ => none
theorem RpKV.ints {H : Hp} : ∀ {ks : List (Key × V)} {ds : List (PyData × PyData)} {ns : List Int}, RpKV K H ks ds → keyInts ds = some ns → ks.map (·.1) = ns.map Sum.inl
  | _, [], ns, h, e => by
    cases h
    cases e
    rfl
  | _, d :: ds, ns, h, e => by
    cases h with
    | @cons k v vs d' _ h1 h2 =>
      cases k with
      | inr x => cases e
      | inl i =>
        have e' : (match keyInts ds with
          | some ns => some (i :: ns)
          | none => none) = some ns := e
        split at e'
        · next ns' hn =>
          cases e'
          rw [List.map_cons, List.map_cons, RpKV.ints h2 hn]
        · cases e'
def leI (a b : Int) : Bool := decide (a ≤ b)
theorem sort_eq {ys ks : List Int} (p : ys.Perm ks) (h : ys.Pairwise (· ≤ ·)) : ys = ks.mergeSort leI := by
  refine List.Perm.eq_of_pairwise (le := fun a b => a ≤ b) (fun a b _ _ h1 h2 => Int.le_antisymm h1 h2) h ?_ (p.trans (List.mergeSort_perm _ _).symm)
  have := List.pairwise_mergeSort (le := leI) (fun a b c h1 h2 => by simp [leI] at *; omega) (fun a b => by simp [leI]; omega) ks
  exact this.imp fun h => by simpa [leI] using h
def dSortDI (d : PyData) : Option (List PyData) := match dictOf d with
  | some kvs => match keyInts kvs with
    | some ns => if ns.length < 64 then some ((ns.mergeSort leI).map PyData.int) else none
    | none => none
  | none => none
abbrev rSortDI : List V → Hp → VK → Prop := fun xs H Q => ∃ (a : Addr) (kvs : List (Key × V)) (ks : List Int), xs = [.ref a] ∧ Rd H a (.dK kvs) ∧ kvs.map (·.1) = ks.map Sum.inl ∧ ks.length < 64 ∧
    ∀ (ys : List Int) (p : Addr), ys.Perm ks → ys.Pairwise (· ≤ ·) → H p = none → Q (.ref p) (upd H p (.lst (ys.map V.int)))
theorem bo_dict {S : List Addr} {H : Hp} {v : V} {d : PyData} {kvs : List (PyData × PyData)} (b : Bo K S H v d) (e : dictOf d = some kvs) : Rp K (Msk S H) v d := by
  rcases b with b | ⟨a, vs, ds, rfl, rfl, _, _⟩
  · exact b
  · cases e
theorem r1_sortDI : R1L K rSortDI dSortDI := fun S H x a ds e b fr Q q => by
  unfold dSortDI at e
  split at e
  · next kvs hd =>
    split at e
    · next ns hn =>
      by_cases hl : ns.length < 64
      · rw [if_pos hl] at e
        cases e
        obtain ⟨p, ks, rfl, h1, h2⟩ := dict_of (bo_dict b hd) hd
        refine ⟨p, ks, ns, rfl, .inl h1, h2.ints hn, hl, fun ys l hp hw hln => ?_⟩
        cases sort_eq hp hw
        exact q l _ _ hln (Ex.new hln) upd_same (RpAll.of_ints _)
      · rw [if_neg hl] at e
        cases e
    · cases e
  · cases e
/-! ### enumerate -/
def numD : Nat → List PyData → List PyData
  | _, [] => []
  | n, d :: ds => .tuple [.int n, d] :: numD (n + 1) ds
theorem numD_len : ∀ (n : Nat) (ds : List PyData), (numD n ds).length = ds.length
  | _, [] => rfl
  | n, d :: ds => by
    show (numD (n + 1) ds).length + 1 = ds.length + 1
    rw [numD_len]
theorem numD_get : ∀ (n : Nat) (ds : List PyData) (i : Nat) (d : PyData), (numD n ds)[i]? = some d → ∃ x, ds[i]? = some x ∧ d = .tuple [.int ((n + i : Nat) : Int), x]
  | n, [], i, d, h => by
    rw [show numD n [] = [] from rfl, List.getElem?_nil] at h
    cases h
  | n, x :: xs, 0, d, h => by
    cases h
    exact ⟨x, rfl, rfl⟩
  | n, x :: xs, i + 1, d, h => by
    obtain ⟨y, hy, e⟩ := numD_get (n + 1) xs i d (by simpa [numD] using h)
    exact ⟨y, by simpa using hy, by rw [e, show n + 1 + i = n + (i + 1) by omega]⟩
theorem iter_enum {F : Fm} {L : List Addr} {H0 : Hp} {a : Addr} {vs : List V} {xs : List PyData} (h1 : Msk (F.B ++ L) H0 a = some (.lst vs)) (h2 : RpAll K (Msk (F.B ++ L) H0) vs xs) :
    Iter K F L H0 (Ite K a) (numD 0 xs) where
  go := fun L' H e fr i d hd => by
    obtain ⟨x, hx, rfl⟩ := numD_get 0 xs i d hd
    obtain ⟨v, hv, rv⟩ := h2.get i x hx
    have sa : SqL K H a vs := sq_of (msk_some (e a _ h1)).2
    refine ⟨⟨vs, v, sa, hv⟩, fun z H' hz => ?_⟩
    obtain ⟨T, x1, rfl, hT, rfl, f1⟩ := hz
    have e1 := f1 vs sa
    rw [hv] at e1
    cases e1
    rw [Nat.zero_add]
    exact ⟨Ex.new hT, new_tup (fr T hT) (.cons (.int _) (.cons (Rp.mono e _ _ rv) .nil)) hT⟩
  stop := fun L' H e i hi => by
    rw [numD_len] at hi
    exact ⟨vs, sq_of (msk_some (e a _ h1)).2, by rw [h2.len]; exact hi⟩
def numOf : PyData → Option (List PyData)
  | .list ds => some (numD 0 ds)
  | _ => none
theorem wi_enum {te : TE} {φ : FE} (h : WE K te φ) : WI K (iEnum K (tCons te tNil)) (fUnL numOf φ) := fun F L σ H δ ds δ' e R Q q => by
  obtain ⟨x, e1, e2⟩ := fUnL_some e
  refine h F L σ H δ x δ' e1 R _ fun v H1 s1 R1 d1 => ?_
  cases x with
  | list es =>
    cases e2
    cases d1 with
    | lst h1 h2 => exact ⟨_, _, rfl, sq_of (msk_some h1).2, q _ H1 s1 R1 (iter_enum h1 h2)⟩
  | _ => cases e2
end
end Sm
namespace Sm
open PySem L2 Evl RZ
section
variable {K : PySem.W.Frag}
/-- a, b, c = e, f, g -/
def sPar3 (i j l : Nat) (φ : FL) : FS := fun δ => match φ δ with
  | some ([x, y, z], δ1) => some (.nx (((δ1.set i (.dat x)).set j (.dat y)).set l (.dat z)))
  | _ => none
theorem ws_par3 {ta : TA} {i j l : Nat} {φ : FL} (h : WA K ta φ) : WS K (tPar3 i j l ta) [i, j, l] (sPar3 i j l φ) := fun F L σ H δ o e R D k => by
  unfold sPar3 at e
  split at e
  · next x y z δ1 e1 =>
    cases e
    refine h F L σ H δ _ δ1 e1 R _ fun vs H1 s1 R1 d1 => ?_
    cases d1 with
    | cons r1 r2 =>
      cases r2 with
      | cons r3 r4 =>
        cases r4 with
        | cons r5 r6 =>
          cases r6
          exact ⟨_, _, _, rfl, k L _ H1 (s1.s R R1) (((R1.put i r1).put j r3).put l r5) fun m hm => by rw [get_set, if_neg (fun z => hm (by rw [z]; simp)), get_set, if_neg (fun z => hm (by rw [z]; simp)), get_set, if_neg (fun z => hm (by rw [z]; simp))]⟩
  · cases e
end
end Sm
namespace Sm
open PySem L2 Evl RZ
section
variable {K : PySem.W.Frag}
/-! ### is None, is not None -/
def nonB : PyData → Bool
  | .none => true
  | _ => false
def dIsNone (a b : PyData) : Option PyData := match b with
  | .none => some (.bool (nonB a))
  | _ => none
def dNotNone (a b : PyData) : Option PyData := match b with
  | .none => some (.bool (!nonB a))
  | _ => none
abbrev rIsNone : R2 := fun x y H Q => y = .non ∧ Q (.bl (decide (x = .non))) H
abbrev rNotNone : R2 := fun x y H Q => y = .non ∧ Q (.bl (!decide (x = .non))) H
theorem non_iff {H : Hp} {v : V} {d : PyData} (h : Rp K H v d) : decide (v = .non) = nonB d := by
  cases h <;> first | rfl | exact decide_eq_false (fun z => nomatch z)
theorem rd_isN : RD K rIsNone dIsNone := fun S H x y a b d e ra rb fr Q q => by
  unfold dIsNone at e
  split at e
  · cases e
    cases rb
    exact ⟨rfl, by rw [non_iff ra]; exact q _ H (Ex.refl H) (.bl _)⟩
  · cases e
theorem rd_notN : RD K rNotNone dNotNone := fun S H x y a b d e ra rb fr Q q => by
  unfold dNotNone at e
  split at e
  · cases e
    cases rb
    exact ⟨rfl, by rw [non_iff ra]; exact q _ H (Ex.refl H) (.bl _)⟩
  · cases e
end
end Sm
/-! zip of two sequences, each a list or a tuple -/
namespace Sm
open PySem PySem.Spec PyProof.Rows L2 Evl RZ
/-- a list (true) or a tuple (false), as the heap of trees has it -/
def SqB (K : PySem.W.Frag) (k : Bool) (H : Hp) (a : Addr) (xs : List V) : Prop := if k = true then SqL K H a xs else SqT K H a xs
/-- the same, as the machine's heap has it; and an iterator over it -/
def IsB (k : Bool) (h : Heap) (a : Addr) (its : Array Value) : Prop := if k = true then h.IsList a its else h.IsTuple a its
def IterB (k : Bool) (h : Heap) (it a : Addr) (i : Nat) : Prop := if k = true then h.IsListIter it a i else h.IsTupleIter it a i
def iterO (k : Bool) (a : Addr) : Obj := { cls := .type (if k = true then "list_iterator" else "tuple_iterator"), data := .fields #[.ref a, .int 0 0] }
theorem IterB.live {k : Bool} {h : Heap} {it a : Addr} {i : Nat} (st : IterB k h it a i) : ∃ o, h.get? it = some o ∧ ∀ v, o.data ≠ .cell v := by
  cases k <;> exact Exists.elim st fun o q => ⟨o, q.1, fun v z => by have := q.2.2; rw [z] at this; cases this⟩
theorem IterB.keep {k : Bool} {h h' : Heap} {it a : Addr} {i : Nat} (st : IterB k h it a i) (q : ∀ o, h.get? it = some o → h'.get? it = some o) : IterB k h' it a i := by
  cases k
  · exact Heap.IsTupleIter.at st q
  · exact Heap.IsListIter.at st q
theorem IsB.keep {k : Bool} {h h' : Heap} {a : Addr} {its : Array Value} (st : IsB k h a its) (q : ∀ o, h.get? a = some o → h'.get? a = some o) : IsB k h' a its := by
  cases k
  · exact Heap.IsTuple.at st q
  · exact Heap.IsList.at st q
theorem IsB.lt {k : Bool} {h : Heap} {a : Addr} {its : Array Value} (st : IsB k h a its) : a < h.objs.size := by
  cases k <;> exact Exists.elim st fun o q => Heap.lt_size q.1
/-- what it draws while items are left -/
theorem draws_b {prog : Program} {w : World} {A : Around} (hh : A.handled = none) (k : Bool) (it a : Addr) (ne : a ≠ it) (its : Array Value) : Draws prog w A it [it, a] its.size (fun i v => its[i]? = some v) (fun i h => IterB k h it a i ∧ IsB k h a its) := by
  cases k
  · exact Draws.tuple hh it a ne its
  · exact Draws.list hh it a ne its
/-- at a place i where none is left it draws nothing -/
theorem draws_end {prog : Program} {w : World} {A : Around} (hh : A.handled = none) (k : Bool) (it a : Addr) (its : Array Value) (i : Nat) (hi : its[i]? = none) : Draws prog w A it [it, a] i (fun _ _ => False) (fun j h => j = i ∧ IterB k h it a i ∧ IsB k h a its) where
  live := fun j h st => st.2.1.live.elim fun o q => ⟨o, q.1⟩
  frame := fun j h h' st kp => ⟨st.1, st.2.1.keep fun o e => kp it (by simp) o e, st.2.2.keep fun o e => kp a (by simp) o e⟩
  item := fun j s Q E hj st _ => absurd st.1 (Nat.ne_of_lt hj)
  done := fun s Q E st hE => by
    cases k
    · exact wpAny_nextOf_tuple_end hh st.2.1 st.2.2 hi hE
    · exact wpAny_nextOf_list_end hh st.2.1 st.2.2 hi hE
theorem begins_b (k : Bool) (a : Addr) (its : Array Value) : Begins (.ref a) (iterO k a) fun h => IsB k h a its := by
  cases k
  · exact begins_tuple a its
  · exact begins_list a its
theorem iterO_at {k : Bool} {h : Heap} {it a : Addr} (e : h.get? it = some (iterO k a)) : IterB k h it a 0 := by
  cases k <;> exact ⟨_, e, rfl, rfl⟩
section
variable {X : Cx} {pins : List (Addr × Obj)} {σ : L2.St} {H : Hp} {s : Shared}
theorem sq_b (I : Inv X pins σ H s) {k : Bool} {a : Addr} {xs : List V} (h : SqB X.K k H a xs) : ∃ its : List Value, Vals xs its ∧ IsB k s.heap a its.toArray := by
  cases k
  · exact (I.tuple h).elim fun its q => ⟨its, q.1, q.2.1⟩
  · exact (I.list h).elim fun its q => ⟨its, q.1, q.2.1.isList⟩
theorem sq_inj (I : Inv X pins σ H s) {k : Bool} {a : Addr} {xs ys : List V} (h : SqB X.K k H a xs) (h' : SqB X.K k H a ys) : xs = ys := by
  cases k
  · exact I.tuple_inj h h'
  · exact I.list_inj h h'
end
/-- both as they stand at each turn, the items in new pairs -/
def ItzB (K : PySem.W.Frag) (k l : Bool) (a b : Addr) : It where
  go := fun i H => ∃ (xs ys : List V) (x y : V), SqB K k H a xs ∧ SqB K l H b ys ∧ xs[i]? = some x ∧ ys[i]? = some y
  yld := fun i H v H' => ∃ (T : Addr) (x y : V), v = .ref T ∧ H T = none ∧ H' = upd H T (.tup [x, y]) ∧ (∀ xs, SqB K k H a xs → xs[i]? = some x) ∧ ∀ ys, SqB K l H b ys → ys[i]? = some y
  stop := fun i H => ∃ xs ys : List V, SqB K k H a xs ∧ SqB K l H b ys ∧ (xs.length ≤ i ∨ ys.length ≤ i)
/-- the five cells of a zip -/
structure ZCells (k l : Bool) (z TI TO i1 i2 a b : Addr) (i : Nat) (h : Heap) : Prop where
  z : IsZip h z TI TO .none
  ti : IsTupOf2 h TI (.ref i1) (.ref i2)
  to : ∃ x y, IsTupOf2 h TO x y
  l1 : IterB k h i1 a i
  l2 : IterB l h i2 b i
theorem in5 {z TI TO i1 i2 c : Addr} (h : c ∈ [z, TI, TO, i1, i2]) : c = z ∨ c = TI ∨ c = TO ∨ c = i1 ∨ c = i2 := by simpa using h
theorem turn_zipB {P : Program} {w : World} {K : PySem.W.Frag} {elts : List Expr} {kk : Nat} {tpos : Pos} {k l : Bool} {a b z TI TO i1 i2 : Addr} (S : ZipSep2 z TI TO i1 i2 [i1, a] [i2, b]) (n1 : a ≠ i1) (n2 : b ≠ i2) :
    Turn P w K (.Tuple elts kk tpos) (ItzB K k l a b) [z, TI, TO, i1, i2] z (ZCells k l z TI TO i1 i2 a b) where
  mem := List.mem_cons_self
  obj := fun i h st c hc => by
    obtain ⟨x, y, ho⟩ := st.to
    rcases in5 hc with e | e | e | e | e <;> subst e
    · exact ⟨_, st.z, fun v q => by cases q⟩
    · exact ⟨_, st.ti, fun v q => by cases q⟩
    · exact ⟨_, ho, fun v q => by cases q⟩
    · exact st.l1.live
    · exact st.l2.live
  keep := fun i h h' st kp => ⟨kp z (by simp) _ st.z, kp TI (by simp) _ st.ti, st.to.elim fun x q => q.elim fun y q => ⟨x, y, kp TO (by simp) _ q⟩, st.l1.keep (kp i1 (by simp)), st.l2.keep (kp i2 (by simp))⟩
  item := fun X hP hw hK hc i pins s σ H E I hf st hg => by
    subst hP hw hK
    obtain ⟨xs, ys, x, y, sx, sy, ex, ey⟩ := hg
    obtain ⟨x0, y0, ho⟩ := st.to
    obtain ⟨ps, vp, pa⟩ := sq_b I sx
    obtain ⟨qs, vq, pb⟩ := sq_b I sy
    obtain ⟨u, eu, ru⟩ := vp.get ex
    obtain ⟨v, ev, rv⟩ := vq.get ey
    have lu : i < ps.toArray.size := by simpa using (List.getElem?_eq_some_iff.mp eu).1
    have lv : i < qs.toArray.size := by simpa using (List.getElem?_eq_some_iff.mp ev).1
    have hh : X.A.in1.handled = none := I.ok.hd hc
    refine wpAny_pyNext_zipD2_item S (draws_b hh k i1 a n1 ps.toArray) (draws_b hh l i2 b n2 qs.toArray) st.z st.ti ho ⟨st.l1, pa⟩ ⟨st.l2, pb⟩ lu lv fun x1 x2 h1 tk e1 e2 z1 o1 s1 s2 t1 sz kp => ?_
    have q1 : x1 = u := Option.some.inj (e1.symm.trans (by simpa using eu))
    have q2 : x2 = v := Option.some.inj (e2.symm.trans (by simpa using ev))
    subst q1 q2
    refine ⟨_, rfl, wpAny_letOwnedTupleGo_zip (s := { s with heap := h1, toks := tk }) z1 fun h2 z2 sb => ?_⟩
    have new : ∀ c, c ∈ [z, TI, TO, i1, i2] → c < s.heap.objs.size := fun c hcm => by
      rcases in5 hcm with e | e | e | e | e <;> subst e
      · exact Heap.lt_size st.z
      · exact Heap.lt_size st.ti
      · exact Heap.lt_size ho
      · exact st.l1.live.elim fun o q => Heap.lt_size q.1
      · exact st.l2.live.elim fun o q => Heap.lt_size q.1
    have t2 : IsTupOf2 h2 s.heap.objs.size x1 x2 := (sb.2 _ (Nat.ne_of_gt (new z (by simp)))).trans t1
    have J : Inv X pins σ (upd H s.heap.objs.size (.tup [x, y])) { s with heap := h2, toks := tk } := I.turnedNew (ch := [z, TI, TO, i1, i2]) (fun c o nc e => by
      have ne : ∀ d, d ∈ [z, TI, TO, i1, i2] → c ≠ d := fun d hd q => nc (q ▸ hd)
      exact (sb.2 c (ne z (by simp))).trans (kp c o (ne z (by simp)) (ne TO (by simp)) (ne i1 (by simp)) (ne i2 (by simp)) e)) hf (Nat.le_refl _) ⟨(by decide : 2 ≤ sizeLine), [x1, x2], .cons ru (.cons rv .nil), _, t2, rfl, _, rfl⟩
    refine ⟨.ref s.heap.objs.size, _, J, rfl, ⟨_, x, y, rfl, I.hok.fresh (Nat.le_refl _), rfl, fun zs hz => sq_inj I hz sx ▸ ex, fun zs hz => sq_inj I hz sy ▸ ey⟩, ⟨z2, ?_, ⟨x1, x2, ?_⟩, ?_, ?_⟩, fun c hcm => ?_⟩
    · exact (sb.2 _ S.TIz).trans (kp _ _ S.TIz S.TITO S.TIi1 S.TIi2 st.ti)
    · exact (sb.2 _ S.TOz).trans o1
    · exact s1.1.keep fun o e => (sb.2 _ S.zi1.symm).trans e
    · exact s2.1.keep fun o e => (sb.2 _ S.zi2.symm).trans e
    · rw [upd_ne (Nat.ne_of_lt (new c hcm))]
      exact (hf c hcm).1
  done := fun X hP hw hK hc i pins s σ H E I hf st hg => by
    subst hP hw hK
    obtain ⟨xs, ys, sx, sy, he⟩ := hg
    obtain ⟨x0, y0, ho⟩ := st.to
    obtain ⟨ps, vp, pa⟩ := sq_b I sx
    obtain ⟨qs, vq, pb⟩ := sq_b I sy
    have l1 := vp.length
    have l2 := vq.length
    have hh : X.A.in1.handled = none := I.ok.hd hc
    have fin : ∀ h' tk, (∀ c o, c ≠ z → c ≠ TO → c ≠ i1 → c ≠ i2 → s.heap.get? c = some o → h'.get? c = some o) → (none : Option Value) = none ∧ Inv X pins σ H { s with heap := h', toks := tk } := fun h' tk kp => ⟨rfl, I.turnedL (ch := [z, TI, TO, i1, i2]) (fun c o nc e => by
      have ne : ∀ d, d ∈ [z, TI, TO, i1, i2] → c ≠ d := fun d hd q => nc (q ▸ hd)
      exact kp c o (ne z (by simp)) (ne TO (by simp)) (ne i1 (by simp)) (ne i2 (by simp)) e) hf⟩
    by_cases g1 : xs.length ≤ i
    · have d1 := draws_end (prog := X.prog) (w := X.w) hh k i1 a ps.toArray i (by simp; omega)
      by_cases g2 : ys.length ≤ i
      · exact wpAny_pyNext_zipD2_end S d1 (draws_end (prog := X.prog) (w := X.w) hh l i2 b qs.toArray i (by simp; omega)) st.z st.ti ho ⟨rfl, st.l1, pa⟩ ⟨rfl, st.l2, pb⟩ (Nat.le_refl _) (Nat.le_refl _) (.inl rfl) fin
      · exact wpAny_pyNext_zipD2_end S d1 (draws_b hh l i2 b n2 qs.toArray) st.z st.ti ho ⟨rfl, st.l1, pa⟩ ⟨st.l2, pb⟩ (Nat.le_refl _) (by simp; omega) (.inl rfl) fin
    · exact wpAny_pyNext_zipD2_end S (draws_b hh k i1 a n1 ps.toArray) (draws_end (prog := X.prog) (w := X.w) hh l i2 b qs.toArray i (by simp; omega)) st.z st.ti ho ⟨st.l1, pa⟩ ⟨rfl, st.l2, pb⟩ (by simp; omega) (Nat.le_refl _) (.inr rfl) fin
  self := fun A i s Q E st h => wpAny_pyIter_zip st.z h
/-- five cells beyond all that is there lie apart -/
theorem sep5 {n a b : Nat} (ha : a < n) (hb : b < n) : ZipSep2 (n + 4) (n + 2) (n + 3) n (n + 1) [n, a] [n + 1, b] := by
  have nin : ∀ {x y z : Nat}, x ≠ y → x ≠ z → ¬ x ∈ [y, z] := fun h1 h2 h => by
    rcases List.mem_cons.mp h with e | e
    · exact h1 e
    · exact h2 (List.mem_singleton.mp e)
  exact {
    TIz := show (n + 2 : Nat) ≠ n + 4 by omega
    TOz := show (n + 3 : Nat) ≠ n + 4 by omega
    TITO := show (n + 2 : Nat) ≠ n + 3 by omega
    TIi1 := show (n + 2 : Nat) ≠ n by omega
    mem1 := List.mem_cons_self
    zf1 := nin (by omega) (by omega)
    Tf1 := nin (by omega) (by omega)
    TIi2 := show (n + 2 : Nat) ≠ n + 1 by omega
    mem2 := List.mem_cons_self
    zf2 := nin (by omega) (by omega)
    Tf2 := nin (by omega) (by omega)
    sep1_2 := nin (by omega) (by omega)
    sep2_1 := nin (by omega) (by omega) }
def iZipB (K : PySem.W.Frag) (ta : TA) : TI := fun σ H R => ta σ H fun vs H1 => ∃ (k l : Bool) (a b : Addr) (xs ys : List V), vs = [.ref a, .ref b] ∧ SqB K k H1 a xs ∧ SqB K l H1 b ys ∧ R (ItzB K k l a b) H1
theorem pi_zipB {X : Cx} {e e2 : Expr} {ta : TA} {p pos tpos : Pos} {elts : List Expr} {kk : Nat} (hg : Gl X "zip") (hm : X.mg "zip" = none) (ha : PA X [e, e2] ta)
    (hs : starEach [e, e2] X.env = (false, eval e X.env) :: starEach [e2] X.env := by rfl) (hpl : (backTo pos (starEach [e2] X.env)).any (·.1) = false := by rfl) :
    PI X (.Tuple elts kk tpos) (.Call (.Name "zip" p) [e, e2] [] pos) (iZipB X.K ta) where
  run := fun pins s σ H R I h => Call_ <| ld_blt I hg hm PyProof.Rows.boot_zip <| PyProof.Rows.callWith_type1 (he := hs) (hplain := hpl) <| thn (ha.run pos pins s σ H _ I h) fun us s1 ⟨vs, H1, J, r, k, l, a, b, xs, ys, ev, sa, sb, q⟩ => by
    subst ev
    obtain ⟨ps, _, pa⟩ := sq_b J sa
    obtain ⟨qs, _, pb⟩ := sq_b J sb
    cases r with
    | cons ra r =>
      cases r with
      | cons rb r =>
        cases r
        cases ra
        cases rb
        refine zip_begins2 (begins_b k a ps.toArray) (begins_b l b qs.toArray) pa pb fun h' hz hTI hTO g1 g2 sz kp => wpAny_pyIter_zip hz ?_
        refine ⟨_, _, _, _, H1, rfl, J.kept kp, turn_zipB (sep5 pa.lt pb.lt) (Nat.ne_of_lt pa.lt) (Nat.ne_of_lt (Nat.lt_succ_of_lt pb.lt)), ⟨hz, hTI, ⟨_, _, hTO⟩, iterO_at g1, iterO_at g2⟩, fun c hc => ?_, q⟩
        have le : s1.heap.objs.size ≤ c := by
          rcases in5 hc with e | e | e | e | e <;> rw [e] <;> first | exact Nat.le_refl _ | exact Nat.le_add_right _ _
        exact J.fpOk le (J.hok.fresh le)
section
variable {K : PySem.W.Frag}
/-- the pairs of two sequences -/
def zipAny (a b : PyData) : Option (List PyData) := match seqOf a, seqOf b with
  | some xs, some ys => some (List.zipWith (fun x y => .tuple [x, y]) xs ys)
  | _, _ => none
def fZipB (φ ψ : FE) : FL := fun δ => match φ δ with
  | some (x, δ1) => match ψ δ1 with
    | some (y, δ2) => match zipAny x y with
      | some z => some (z, δ2)
      | none => none
    | none => none
  | none => none
theorem fZipB_some {φ ψ : FE} {δ δ' : En} {ds : List PyData} (e : fZipB φ ψ δ = some (ds, δ')) : ∃ x δ1 y xs ys, φ δ = some (x, δ1) ∧ ψ δ1 = some (y, δ') ∧ seqOf x = some xs ∧ seqOf y = some ys ∧ ds = List.zipWith (fun x y => .tuple [x, y]) xs ys := by
  unfold fZipB at e
  split at e
  · next x δ1 h1 =>
    split at e
    · next y δ2 h2 =>
      unfold zipAny at e
      split at e
      · next z hz =>
        cases e
        split at hz
        · next xs ys h3 h4 =>
          cases hz
          exact ⟨x, δ1, y, xs, ys, h1, h2, h3, h4, rfl⟩
        · cases hz
      · cases e
    · cases e
  · cases e
/-- a sequence among data is one of the two kinds, and stays so while the heap grows -/
theorem seq_b {S : List Addr} {H : Hp} {v : V} {d : PyData} {ds : List PyData} (h : Rp K (Msk S H) v d) (e : seqOf d = some ds) : ∃ (k : Bool) (a : Addr) (vs : List V), v = .ref a ∧ SqB K k (Msk S H) a vs ∧ RpAll K (Msk S H) vs ds := by
  cases h with
  | lst h1 h2 =>
    cases e
    exact ⟨true, _, _, rfl, sq_of h1, h2⟩
  | tup h1 h2 =>
    cases e
    exact ⟨false, _, _, rfl, h1, h2⟩
  | scr h1 => cases e
  | dic h1 h2 => cases e
  | _ => cases e
theorem SqB.ex {k : Bool} {H H' : Hp} {a : Addr} {vs : List V} (x : Ex H H') (h : SqB K k H a vs) : SqB K k H' a vs := by
  cases k
  · exact ex_t x h
  · exact ex_l x h
theorem iter_zipB {F : Fm} {L : List Addr} {H0 : Hp} {k l : Bool} {a b : Addr} {vs ws : List V} {xs ys : List PyData} (h1 : SqB K k (Msk (F.B ++ L) H0) a vs) (h2 : RpAll K (Msk (F.B ++ L) H0) vs xs) (k1 : SqB K l (Msk (F.B ++ L) H0) b ws) (k2 : RpAll K (Msk (F.B ++ L) H0) ws ys) :
    Iter K F L H0 (ItzB K k l a b) (List.zipWith (fun x y => PyData.tuple [x, y]) xs ys) where
  go := fun L' H e fr i d hd => by
    obtain ⟨x, y, hx, hy, rfl⟩ := zw_get hd
    obtain ⟨v, hv, rv⟩ := h2.get i x hx
    obtain ⟨u, hu, ru⟩ := k2.get i y hy
    have sa : SqB K k H a vs := (h1.ex e).ex msk_le
    have sb : SqB K l H b ws := (k1.ex e).ex msk_le
    refine ⟨⟨vs, ws, v, u, sa, sb, hv, hu⟩, fun z H' hz => ?_⟩
    obtain ⟨T, p, q, rfl, hT, rfl, f1, f2⟩ := hz
    have e1 := (f1 vs sa).symm.trans hv
    have e2 := (f2 ws sb).symm.trans hu
    cases e1
    cases e2
    exact ⟨Ex.new hT, new_tup (fr T hT) (.cons (Rp.mono e _ _ rv) (.cons (Rp.mono e _ _ ru) .nil)) hT⟩
  stop := fun L' H e i hi => by
    refine ⟨vs, ws, (h1.ex e).ex msk_le, (k1.ex e).ex msk_le, ?_⟩
    rw [List.length_zipWith, ← h2.len, ← k2.len] at hi
    omega
theorem wi_zipB {ta tb : TE} {φ ψ : FE} (ha : WE K ta φ) (hb : WE K tb ψ) : WI K (iZipB K (tCons ta (tCons tb tNil))) (fZipB φ ψ) := fun F L σ H δ ds δ' e R Q q => by
  obtain ⟨x, δ1, y, xs, ys, e1, e2, e3, e4, rfl⟩ := fZipB_some e
  refine ha F L σ H δ x δ1 e1 R _ fun v H1 s1 R1 d1 => hb F L σ H1 δ1 y δ' e2 R1 _ fun w H2 s2 R2 d2 => ?_
  obtain ⟨k, a, vs, rfl, h1, h2⟩ := seq_b (s2.dat R1.sub d1) e3
  obtain ⟨l, b, ws, rfl, k1, k2⟩ := seq_b d2 e4
  exact ⟨k, l, a, b, vs, ws, rfl, h1.ex msk_le, k1.ex msk_le, q _ H2 (s1.trans s2) R2 (iter_zipB h1 h2 k1 k2)⟩
end
end Sm
/-! list(zip(xs, ys)) of two lists -/
namespace Sm
open PySem PySem.Spec PyProof.Rows L2 Evl RZ
abbrev lstO (acc : Array Value) (c : Nat) : Obj := { cls := .type "list", dict := none, data := .seq acc c, slots := #[] }
section
variable {prog : Program} {w : World} {A : Around} {E : Value → Shared → Prop} {s : Shared}
/-- list(i), i an iterator with no length and no hint of one: the loop that draws it is left -/
theorem list_iter {z : Addr} {o : Obj} {T : String} {Q : Value → Shared → Prop} (hz : s.heap.get? z = some o) (hc : o.cls = .type T) (nl : (Value.type T == Value.type "list") = false) (nt : (Value.type T == Value.type "tuple") = false)
    (len : typeLookup (.type T) "__len__" = pure none) (hint : typeLookup (.type T) "__length_hint__" = pure none)
    (self : ∀ (B : Around) (s' : Shared) (Q' : Value → Shared → Prop) (E' : Value → Shared → Prop), s'.heap.get? z = some o → Q' (.ref z) s' → wpAny (model prog w) B (pyIter (.ref z)) Q' E' s')
    (loop : ∀ (h : Heap) (c : Nat), h.get? s.heap.objs.size = some (lstO #[] c) → (∀ b u, s.heap.get? b = some u → h.get? b = some u) →
      codeAny (model prog w) A.in1 (.builtin "list.extend.loop" ⟨[.ref s.heap.objs.size, .ref z, .none], []⟩) (wants (fun r s₂ => r = .none ∧ Q (.ref s.heap.objs.size) s₂) E) { s with heap := h }) :
    wpAny (model prog w) A (call (.type "list") [.ref z]) Q E s := by
  have ne : s.heap.objs.size ≠ z := Nat.ne_of_gt (Heap.lt_size hz)
  refine callType_codes (Q₁ := fun v s1 => v = .ref s.heap.objs.size ∧ s1 = { s with heap := s.heap.push (lstO #[] 0) }) F.called_list (F.typeCall_list_1 _) F.entry_list_init (code_list_new _ ⟨rfl, rfl⟩) ?_
  intro v s1 ⟨e1, e2⟩
  subst e1 e2
  have g0 : (s.heap.push (lstO #[] 0)).get? s.heap.objs.size = some (lstO #[] 0) := Heap.get?_push_size _ rfl
  have k0 : ∀ b u, s.heap.get? b = some u → (s.heap.push (lstO #[] 0)).get? b = some u := fun b u e => Heap.get?_push_of_some _ e
  refine ⟨⟨_, g0, rfl⟩, F.args_list_init_2 _ _, ?_⟩
  unfold Builtin.«list.__init__»
  wp_walk
  have same : Builtin.List.listSameRef (.ref s.heap.objs.size) (.ref z) = false := beq_eq_false_iff_ne.mpr ne
  rw [same, hc, nl, nt, if_neg (fun x => nomatch x)]
  have g1 := Heap.get?_update_self (Obj.mapSeq fun _ => (#[] : Array Value)) g0 rfl
  have k1 : ∀ b u, s.heap.get? b = some u → ((s.heap.push (lstO #[] 0)).update s.heap.objs.size (Obj.mapSeq fun _ => (#[] : Array Value))).get? b = some u := fun b u e => (Heap.get?_update_other _ _ (Nat.ne_of_gt (Heap.lt_size e))).trans (k0 b u e)
  generalize (s.heap.push (lstO #[] 0)).update s.heap.objs.size (Obj.mapSeq fun _ => (#[] : Array Value)) = h1 at g1 k1
  have ty : Shared.TypeIs { s with heap := h1 } (.ref z) T := ⟨o, k1 z o hz, hc⟩
  refine wpAny_bind (self _ _ _ _ (k1 z o hz) (wpAny_bind (wpAny_holding ?_)))
  unfold Builtin.List.listLengthHint
  refine wpAny_bind (wpAny_specialOf ty len ?_)
  dsimp only
  refine wpAny_bind (wpAny_specialOf ty hint ?_)
  dsimp only
  refine wpAny_pure ?_
  rw [Bool.true_or, if_pos rfl]
  refine wpAny_bind (wpAny_rule ?_)
  unfold Builtin.List.listTouch
  refine wpAny_bind (wpAny_bind ?_)
  refine wpAny_updateSeq g1 rfl ?_
  have g2 := Heap.get?_update_self (Obj.mapSeq (·.push Value.none)) g1 rfl
  refine wpAny_updateSeq (hz := by seq_fits) g2 rfl ?_
  have g3 := Heap.get?_update_self (Obj.mapSeq (·.pop)) g2 rfl
  refine wpAny_pure ⟨plainId_quiet F.plain_extend_loop _, loop _ _ g3 fun b u e => ?_⟩
  have nb : s.heap.objs.size ≠ b := Nat.ne_of_gt (Heap.lt_size e)
  exact (Heap.get?_update_other _ _ nb).trans ((Heap.get?_update_other _ _ nb).trans (k1 b u e))
/-- the state when i pairs are drawn into the list at S; z, TI, TO, i1, i2: the zip's cells -/
structure Drawn (z TI TO i1 i2 l1 l2 S : Addr) (xs ys : Array Value) (h0 : Heap) (i : Nat) (acc : Array Value) (h : Heap) : Prop where
  lst : ∃ c, h.get? S = some (lstO acc c)
  sz : acc.size = i
  zip : IsZip h z TI TO .none ∨ ∃ T f o, IsZipHeld h z TI TO T f ∧ h.get? T = some o ∧ S < T
  ti : IsPair h TI (.ref i1) (.ref i2)
  to : ∃ x y, IsPair h TO x y
  a1 : h.IsListIter i1 l1 i
  a2 : h.IsListIter i2 l2 i
  b1 : h.IsList l1 xs
  b2 : h.IsList l2 ys
  its : ∀ j x y, j < i → xs[j]? = some x → ys[j]? = some y → ∃ T, acc[j]? = some (Value.ref T) ∧ IsPair h T x y ∧ S < T
  bnd : ∀ (j : Nat) (T : Addr), acc[j]? = some (Value.ref T) → T < h.objs.size
  ord : ∀ (j k : Nat) (T U : Addr), j < k → acc[j]? = some (Value.ref T) → acc[k]? = some (Value.ref U) → T < U
  old : ∀ c o, c ≠ z → c ≠ TO → c ≠ i1 → c ≠ i2 → c ≠ S → h0.get? c = some o → h.get? c = some o
/-- what is left of it when all are drawn -/
structure DrawnAll (z TO i1 i2 S : Addr) (xs ys : Array Value) (h0 : Heap) (n : Nat) (acc : Array Value) (h : Heap) : Prop where
  lst : ∃ c, h.get? S = some (lstO acc c)
  sz : acc.size = n
  its : ∀ (j : Nat) (x y : Value), xs[j]? = some x → ys[j]? = some y → ∃ T, acc[j]? = some (Value.ref T) ∧ IsPair h T x y ∧ S < T
  ord : ∀ (j k : Nat) (T U : Addr), j < k → acc[j]? = some (Value.ref T) → acc[k]? = some (Value.ref U) → T < U
  old : ∀ c o, c ≠ z → c ≠ TO → c ≠ i1 → c ≠ i2 → c ≠ S → h0.get? c = some o → h.get? c = some o
variable {z TI TO i1 i2 l1 l2 S : Addr} {xs ys : Array Value} {h0 : Heap} {res : Value} {R : Result → Shared → Prop}
theorem ne_up {a b : Addr} (h : a < b) : b ≠ a := Nat.ne_of_gt h
/-- one pair more: T is the new one -/
theorem Drawn.next {i : Nat} {acc : Array Value} {h h1 : Heap} {x y : Value} {T : Addr} (D : Drawn z TI TO i1 i2 l1 l2 S xs ys h0 i acc h) (P : ZipApart z TI TO i1 i2 l1 l2) (lo : ∀ c, c = z ∨ c = TI ∨ c = TO ∨ c = i1 ∨ c = i2 ∨ c = l1 ∨ c = l2 → c < S)
    (hT : S < T) (eT : T = h.objs.size) (sz1 : h1.objs.size = h.objs.size + 1) (ex : xs[i]? = some x) (ey : ys[i]? = some y) (zp : ∃ T f o, IsZipHeld h1 z TI TO T f ∧ h1.get? T = some o ∧ S < T) (to : ∃ x y, IsPair h1 TO x y) (a1 : h1.IsListIter i1 l1 (i + 1)) (a2 : h1.IsListIter i2 l2 (i + 1)) (nw : IsPair h1 T x y)
    (kp : ∀ c o, c ≠ z → c ≠ TO → c ≠ i1 → c ≠ i2 → h.get? c = some o → h1.get? c = some o) : Drawn z TI TO i1 i2 l1 l2 S xs ys h0 (i + 1) (acc.push (.ref T)) (h1.update S (Obj.mapSeq (·.push (.ref T)))) := by
  have low : ∀ {c : Addr}, c < S → (h1.update S (Obj.mapSeq (·.push (.ref T)))).get? c = h1.get? c := fun hc => Heap.get?_update_other _ _ (ne_up hc)
  have up : ∀ {c : Addr}, S < c → (h1.update S (Obj.mapSeq (·.push (.ref T)))).get? c = h1.get? c := fun hc => Heap.get?_update_other _ _ (Nat.ne_of_lt hc)
  have far : ∀ {c : Addr}, S ≤ c → c ≠ z ∧ c ≠ TO ∧ c ≠ i1 ∧ c ≠ i2 := fun hc => ⟨ne_up (Nat.lt_of_lt_of_le (lo z (by simp)) hc), ne_up (Nat.lt_of_lt_of_le (lo TO (by simp)) hc), ne_up (Nat.lt_of_lt_of_le (lo i1 (by simp)) hc), ne_up (Nat.lt_of_lt_of_le (lo i2 (by simp)) hc)⟩
  have kf : ∀ {c : Addr} {o : Obj}, S ≤ c → h.get? c = some o → h1.get? c = some o := fun hc e => kp _ _ (far hc).1 (far hc).2.1 (far hc).2.2.1 (far hc).2.2.2 e
  obtain ⟨c, hS⟩ := D.lst
  refine ⟨⟨_, Heap.get?_update_self _ (kf (Nat.le_refl _) hS) rfl⟩, by rw [Array.size_push, D.sz], .inr ?_, ?_, ?_, ?_, ?_, ?_, ?_, fun j x' y' hj hx hy => ?_, fun j U e => ?_, fun j k U W hjk e1 e2 => ?_, fun c o n1 n2 n3 n4 n5 e => ?_⟩
  · obtain ⟨T', f, o, q1, q2, q3⟩ := zp
    exact ⟨T', f, o, (low (lo z (by simp))).trans q1, (up q3).trans q2, q3⟩
  · exact (low (lo TI (by simp))).trans (kp _ _ P.TIz P.TITO P.TIi1 P.TIi2 D.ti)
  · obtain ⟨p, q, e⟩ := to
    exact ⟨p, q, (low (lo TO (by simp))).trans e⟩
  · exact a1.at fun o e => (low (lo i1 (by simp))).trans e
  · exact a2.at fun o e => (low (lo i2 (by simp))).trans e
  · exact D.b1.at fun o e => (low (lo l1 (by simp))).trans (kp _ _ P.l1z P.l1TO P.l1i1 P.l1i2 e)
  · exact D.b2.at fun o e => (low (lo l2 (by simp))).trans (kp _ _ P.l2z P.l2TO P.l2i1 P.l2i2 e)
  · by_cases hji : j < i
    · obtain ⟨T', e1, e2, e3⟩ := D.its j x' y' hji hx hy
      refine ⟨T', ?_, (up e3).trans (kf (Nat.le_of_lt e3) e2), e3⟩
      rw [Array.getElem?_push, if_neg (by rw [D.sz]; omega)]
      exact e1
    · have hj2 : j = i := by omega
      subst hj2
      rw [ex] at hx
      rw [ey] at hy
      cases hx
      cases hy
      refine ⟨T, ?_, (up hT).trans nw, hT⟩
      rw [Array.getElem?_push, if_pos D.sz.symm]
  · rw [Heap.size_update, sz1]
    rw [Array.getElem?_push] at e
    split at e
    · cases e
      rw [eT]
      exact Nat.lt_succ_self _
    · exact Nat.lt_succ_of_lt (D.bnd j U e)
  · rw [Array.getElem?_push] at e1 e2
    have hk2 := D.sz
    split at e2
    · next hk =>
      rw [if_neg (by omega)] at e1
      cases e2
      rw [eT]
      exact D.bnd j U e1
    · next hk =>
      have hkl := (Array.getElem?_eq_some_iff.mp e2).1
      rw [if_neg (by omega)] at e1
      exact D.ord j k U W hjk e1 e2
  · exact (Heap.get?_update_other _ _ (Ne.symm n5)).trans (kp c o n1 n2 n3 n4 (D.old c o n1 n2 n3 n4 n5 e))
theorem draw_zip (P : ZipApart z TI TO i1 i2 l1 l2) (lo : ∀ c, c = z ∨ c = TI ∨ c = TO ∨ c = i1 ∨ c = i2 ∨ c = l1 ∨ c = l2 → c < S) (hh : A.handled = none) (hn : min xs.size ys.size ≤ sizeLine)
    (hR : ∀ acc h, DrawnAll z TO i1 i2 S xs ys h0 (min xs.size ys.size) acc h → R (.ok (.ret res)) { s with heap := h }) :
    ∀ (k i : Nat) (acc : Array Value) (h : Heap), min xs.size ys.size - i = k → i ≤ min xs.size ys.size → Drawn z TI TO i1 i2 l1 l2 S xs ys h0 i acc h →
      codeAny (model prog w) A (.builtin "list.extend.loop" ⟨[.ref S, .ref z, res], []⟩) R { s with heap := h } := by
  intro k
  induction k with
  | zero =>
    intro i acc h hk hi D
    refine codeAny_builtin F.entry_extend_loop ?_
    rw [Around.under_plainId F.plain_extend_loop]
    have he : xs[i]? = none ∨ ys[i]? = none := by
      by_cases hx : xs.size ≤ i
      · exact .inl (Array.getElem?_eq_none hx)
      · exact .inr (Array.getElem?_eq_none (by omega))
    have fin : ∀ h', (∀ c o, c ≠ z → c ≠ TO → c ≠ i1 → c ≠ i2 → h.get? c = some o → h'.get? c = some o) → R (.ok (.ret res)) { s with heap := h' } := fun h' kp => by
      have kf : ∀ {c : Addr} {o : Obj}, S ≤ c → h.get? c = some o → h'.get? c = some o := fun hc e => kp _ _ (ne_up (Nat.lt_of_lt_of_le (lo z (by simp)) hc)) (ne_up (Nat.lt_of_lt_of_le (lo TO (by simp)) hc)) (ne_up (Nat.lt_of_lt_of_le (lo i1 (by simp)) hc)) (ne_up (Nat.lt_of_lt_of_le (lo i2 (by simp)) hc)) e
      refine hR acc h' ⟨D.lst.elim fun c e => ⟨c, kf (Nat.le_refl _) e⟩, by have := D.sz; omega, fun j x y hx hy => ?_, D.ord, fun c o n1 n2 n3 n4 n5 e => kp c o n1 n2 n3 n4 (D.old c o n1 n2 n3 n4 n5 e)⟩
      have l1' := (Array.getElem?_eq_some_iff.mp hx).1
      have l2' := (Array.getElem?_eq_some_iff.mp hy).1
      obtain ⟨T, e1, e2, e3⟩ := D.its j x y (by omega) hx hy
      exact ⟨T, e1, kf (Nat.le_of_lt e3) e2, e3⟩
    obtain ⟨x0, y0, ho⟩ := D.to
    refine wpAny_bind ?_
    rcases D.zip with q | ⟨T, f, o, q1, q2, q3⟩
    · exact wpAny_pyNext_zip_end (s := { s with heap := h }) hh P q D.ti ho D.a1 D.a2 D.b1 D.b2 he fun h' kp => wpAny_pure (fin h' kp)
    · exact wpAny_pyNext_zip_end_held (s := { s with heap := h }) hh P q1 q2 D.ti D.a1 D.a2 D.b1 D.b2 he fun h' kp => wpAny_pure (fin h' fun c o n1 _ n3 n4 e => kp c o n1 n3 n4 e)
  | succ k ih =>
    intro i acc h hk hi D
    refine codeAny_builtin F.entry_extend_loop ?_
    rw [Around.under_plainId F.plain_extend_loop]
    have hx : i < xs.size := by omega
    have hy : i < ys.size := by omega
    have ex : xs[i]? = some xs[i] := Array.getElem?_eq_getElem hx
    have ey : ys[i]? = some ys[i] := Array.getElem?_eq_getElem hy
    obtain ⟨x0, y0, ho⟩ := D.to
    obtain ⟨c, hS⟩ := D.lst
    have hST : S < h.objs.size := Heap.lt_size hS
    have go : ∀ h1, (∃ T f o, IsZipHeld h1 z TI TO T f ∧ h1.get? T = some o ∧ S < T) → (∃ x y, IsPair h1 TO x y) → h1.IsListIter i1 l1 (i + 1) → h1.IsListIter i2 l2 (i + 1) → IsPair h1 h.objs.size xs[i] ys[i] → h1.objs.size = h.objs.size + 1 →
        (∀ c o, c ≠ z → c ≠ TO → c ≠ i1 → c ≠ i2 → h.get? c = some o → h1.get? c = some o) → wpAny (model prog w) A.in1 (updateSeq S (·.push (.ref h.objs.size)) >>= fun _ => again (.builtin "list.extend.loop" ⟨[.ref S, .ref z, res], []⟩))
          (fun fin s' => match fin with
            | .done f => R (.ok f) s'
            | .again c' => c'.quiet = true ∧ codeAny (model prog w) A c' R s') (fun e s' => R (.error e) s') { s with heap := h1 } := fun h1 zp to a1 a2 nw sz kp => by
      have hS1 : h1.get? S = some (lstO acc c) := kp S _ (ne_up (lo z (by simp))) (ne_up (lo TO (by simp))) (ne_up (lo i1 (by simp))) (ne_up (lo i2 (by simp))) hS
      have as := D.sz
      refine wpAny_bind (wpAny_updateSeq hS1 rfl (wpAny_pure ⟨plainId_quiet F.plain_extend_loop _, ih (i + 1) _ _ (by omega) (by omega) (D.next P lo hST rfl sz ex ey zp to a1 a2 nw kp)⟩) (by omega) (by rw [Array.size_push]; omega))
    refine wpAny_bind ?_
    rcases D.zip with q | ⟨T, f, o, q1, q2, q3⟩
    · exact wpAny_pyNext_zip_item (s := { s with heap := h }) P q D.ti ho D.a1 D.a2 D.b1 D.b2 ex ey fun h1 z1 o1 a1 a2 nw sz kp => go h1 ⟨_, false, _, z1, nw, hST⟩ ⟨_, _, o1⟩ a1 a2 nw sz kp
    · exact wpAny_pyNext_zip_item_held (s := { s with heap := h }) P q1 q2 D.ti D.a1 D.a2 D.b1 D.b2 ex ey fun h1 z1 a1 a2 nw sz kp => go h1 ⟨T, true, o, z1, kp T o (ne_up (Nat.lt_trans (lo z (by simp)) q3)) (ne_up (Nat.lt_trans (lo i1 (by simp)) q3)) (ne_up (Nat.lt_trans (lo i2 (by simp)) q3)) q2, q3⟩
        ⟨x0, y0, kp TO _ P.TOz P.TOi1 P.TOi2 ho⟩ a1 a2 nw sz fun c o n1 _ n3 n4 e => kp c o n1 n3 n4 e
end
end Sm
namespace Sm
open PySem PySem.Spec PyProof.Rows L2 Evl RZ
section
variable {X : Cx} {pins : List (Addr × Obj)} {σ : L2.St} {H H2 : Hp} {s : Shared} {h' : Heap}
/-- many objects laid at once, all beyond what was there -/
theorem laid_many {t' : Nat} (I : Inv X pins σ H s) (k : ∀ b u, s.heap.get? b = some u → h'.get? b = some u) (lo : ∀ c, c < s.heap.objs.size → H2 c = H c) (hi : ∀ c o, s.heap.objs.size ≤ c → H2 c = some o → ObjOk X.prog X.w H2 h' c o) : Inv X pins σ H2 { s with heap := h', toks := t' } := by
  have same : ∀ b o, H b = some o → H2 b = some o := fun b o e => by rw [lo b (I.hok b o e).lt]; exact e
  refine I.un ⟨fun b o e _ _ _ => k b o e, fun b o e _ _ _ => ⟨o.slots, k b o e⟩, fun b o e n _ => by rw [lo b (Heap.lt_size e)]; exact n, fun b o e _ => ⟨o, k b o e⟩, fun b xs e => same b _ e, fun b o u e => same b _ e, fun b ps e => ⟨#[], by rw [same b _ e]; simp⟩⟩ fun b o e => ?_
  by_cases hb : b < s.heap.objs.size
  · rw [lo b hb] at e
    exact (I.hok b o e).stay (fun c u _ q => k c u q) (fun c q => same c _ q) fun c xs q => same c _ q
  · exact hi b o (Nat.le_of_not_lt hb) e
end
/-- the heap of trees behind list(zip(..)): the list at S, its pairs at ts -/
def zipH (H : Hp) (S : Addr) (ts : List Addr) (ps : List (V × V)) : Hp := fun c => if c = S then some (.lst (ts.map V.ref)) else match (ts.zip ps).find? (fun p => p.1 == c) with
  | some p => some (.tup [p.2.1, p.2.2])
  | none => H c
theorem zipH_S {H : Hp} {S : Addr} {ts : List Addr} {ps : List (V × V)} : zipH H S ts ps S = some (.lst (ts.map V.ref)) := if_pos rfl
theorem zipH_out {H : Hp} {S : Addr} {ts : List Addr} {ps : List (V × V)} {c : Addr} (h1 : c ≠ S) (h2 : ¬ c ∈ ts) : zipH H S ts ps c = H c := by
  unfold zipH
  rw [if_neg h1]
  have : (ts.zip ps).find? (fun p => p.1 == c) = none := List.find?_eq_none.mpr fun p hp z => h2 (by
    have := (List.of_mem_zip hp).1
    rw [← (beq_iff_eq.mp z)]
    exact this)
  rw [this]
theorem zipH_at {H : Hp} {S : Addr} {c : Addr} (hc : c ≠ S) : ∀ {ts : List Addr} {ps : List (V × V)} {j : Nat} {p : V × V}, ts.Nodup → ts[j]? = some c → ps[j]? = some p → zipH H S ts ps c = some (.tup [p.1, p.2])
  | [], _, _, _, _, e, _ => by simp at e
  | _ :: _, [], _, _, _, _, e => by simp at e
  | t :: ts, q :: ps, 0, p, nd, e1, e2 => by
    cases e1
    cases e2
    unfold zipH
    rw [if_neg hc, List.zip_cons_cons, List.find?_cons_of_pos (by simp)]
  | t :: ts, q :: ps, j + 1, p, nd, e1, e2 => by
    have ih := zipH_at (H := H) hc (ts := ts) (ps := ps) (j := j) (p := p) (List.nodup_cons.mp nd).2 (by simpa using e1) (by simpa using e2)
    have ne : t ≠ c := fun z => (List.nodup_cons.mp nd).1 (by rw [z]; exact List.mem_of_getElem? (by simpa using e1))
    unfold zipH at ih ⊢
    rw [if_neg hc] at ih ⊢
    rw [List.zip_cons_cons, List.find?_cons_of_neg (by simpa using ne)]
    exact ih
def tListZip (K : PySem.W.Frag) (ta : TA) : TE := fun σ H Q => ta σ H fun vs H1 => ∃ (a b : Addr) (xs ys : List V), vs = [.ref a, .ref b] ∧ SqL K H1 a xs ∧ SqL K H1 b ys ∧
  ∀ (S : Addr) (ts : List Addr), H1 S = none → (∀ t, t ∈ ts → H1 t = none ∧ t ≠ S) → ts.Nodup → ts.length = min xs.length ys.length → Q (.ref S) (zipH H1 S ts (xs.zip ys))
theorem zip_no_len : typeLookup (.type "zip") "__len__" = pure none := am_miss_of_fast (by decide +kernel)
theorem zip_no_hint : typeLookup (.type "zip") "__length_hint__" = pure none := am_miss_of_fast (by decide +kernel)
def adr : Value → Addr
  | .ref a => a
  | _ => 0
theorem vals_refs : ∀ ts : List Addr, Vals (ts.map V.ref) (ts.map Value.ref)
  | [] => .nil
  | t :: ts => .cons rfl (vals_refs ts)
theorem vals_at {xs : List V} {us : List Value} (h : Vals xs us) {j : Nat} {x : V} (e : xs[j]? = some x) : ∃ u, us[j]? = some u ∧ RelV x u := h.get e
theorem pe_listZip {X : Cx} {e e2 : Expr} {ta : TA} {p p2 pos pos2 : Pos} (hc : X.calm = true) (hl : Gl X "list") (ml : X.mg "list" = none) (hg : Gl X "zip") (hm : X.mg "zip" = none) (ha : PA X [e, e2] ta)
    (hs : starEach [e, e2] X.env = (false, eval e X.env) :: starEach [e2] X.env := by rfl) (hpl : (backTo pos2 (starEach [e2] X.env)).any (·.1) = false := by rfl)
    (na : starEach [Expr.Call (.Name "zip" p2) [e, e2] [] pos2] X.env = (false, eval (.Call (.Name "zip" p2) [e, e2] [] pos2) X.env) :: starEach [] X.env := by rfl) :
    PE X (.Call (.Name "list" p) [.Call (.Name "zip" p2) [e, e2] [] pos2] [] pos) (tListZip X.K ta) where
  run := fun pins s σ H Q I h => by
    refine Call_ (ld_blt I hl ml boot_list (callWith_type1 (args_cons ?_ na) na))
    refine Call_ (ld_blt I hg hm boot_zip (callWith_type1 (he := hs) (hplain := hpl) (thn (ha.run pos2 pins s σ H _ I h) fun us s1 ⟨vs, H1, J, r, a, b, xs, ys, ev, sa, sb, q⟩ => ?_)))
    subst ev
    obtain ⟨ps, vp, pa, zx⟩ := J.list sa
    obtain ⟨qs, vq, pb, zy⟩ := J.list sb
    have l1 := vp.length
    have l2 := vq.length
    cases r with
    | cons ra r =>
      cases r with
      | cons rb r =>
        cases r
        cases ra
        cases rb
        refine call_zip_2 pa.isList pb.isList fun h' hz hTI hTO a1 a2 sz kp => args_nil ?_
        have la : a < s1.heap.objs.size := pa.lt
        have lb : b < s1.heap.objs.size := pb.lt
        refine list_iter (s := { s1 with heap := h' }) hz rfl (by decide) (by decide) zip_no_len zip_no_hint (fun B s' Q' E' e q => wpAny_pyIter_zip e q) fun h c g k => ?_
        have hS : (Shared.heap { s1 with heap := h' }).objs.size = s1.heap.objs.size + 5 := sz
        rw [hS] at g ⊢
        have lo : ∀ c : Addr, c = s1.heap.objs.size + 4 ∨ c = s1.heap.objs.size + 2 ∨ c = s1.heap.objs.size + 3 ∨ c = s1.heap.objs.size ∨ c = s1.heap.objs.size + 1 ∨ c = a ∨ c = b → c < s1.heap.objs.size + 5 := fun c hc => by
          have hc' : @Eq Nat c (s1.heap.objs.size + 4) ∨ @Eq Nat c (s1.heap.objs.size + 2) ∨ @Eq Nat c (s1.heap.objs.size + 3) ∨ @Eq Nat c s1.heap.objs.size ∨ @Eq Nat c (s1.heap.objs.size + 1) ∨ @Eq Nat c a ∨ @Eq Nat c b := hc
          have la' : @LT.lt Nat _ a s1.heap.objs.size := la
          have lb' : @LT.lt Nat _ b s1.heap.objs.size := lb
          show @LT.lt Nat _ c (s1.heap.objs.size + 5)
          omega
        refine draw_zip (s := { s1 with heap := h' }) (h0 := h') (xs := ps.toArray) (ys := qs.toArray) (PySem.W.ktu_apart _ a b la lb) lo (show X.A.in1.handled = none from J.ok.hd hc) (by simp; omega) (fun acc h3 D => ⟨rfl, ?_⟩) _ 0 #[] h rfl (Nat.zero_le _)
          ⟨⟨c, g⟩, rfl, .inl (k _ _ hz), k _ _ hTI, ⟨_, _, k _ _ hTO⟩, a1.at fun o e => k _ o e, a2.at fun o e => k _ o e, pa.isList.at fun o e => k _ o (kp _ o e), pb.isList.at fun o e => k _ o (kp _ o e), fun j x y hj => absurd hj (Nat.not_lt_zero j), fun j T e => by simp at e, fun j k T U _ e => by simp at e, fun c o _ _ _ _ _ e => k c o e⟩
        obtain ⟨c3, hL⟩ := D.lst
        have hn : acc.size = min xs.length ys.length := by
          have := D.sz
          simp at this
          omega
        -- the addresses
        have each : ∀ j, j < acc.size → ∃ (T : Addr) (x y : V) (u v : Value), acc[j]? = some (.ref T) ∧ xs[j]? = some x ∧ ys[j]? = some y ∧ RelV x u ∧ RelV y v ∧ IsPair h3 T u v ∧ s1.heap.objs.size + 5 < T := fun j hj => by
          have hx : xs[j]? = some xs[j] := List.getElem?_eq_getElem (by omega)
          have hy : ys[j]? = some ys[j] := List.getElem?_eq_getElem (by omega)
          obtain ⟨u, eu, ru⟩ := vals_at vp hx
          obtain ⟨v, ev, rv⟩ := vals_at vq hy
          obtain ⟨T, e1, e2, e3⟩ := D.its j u v (by simpa using eu) (by simpa using ev)
          exact ⟨T, _, _, u, v, e1, hx, hy, ru, rv, e2, e3⟩
        have accE : acc.toList = (acc.toList.map adr).map Value.ref := by
          rw [List.map_map]
          apply List.ext_getElem?
          intro j
          rw [List.getElem?_map]
          by_cases hj : j < acc.size
          · obtain ⟨T, _, _, _, _, e1, _⟩ := each j hj
            rw [Array.getElem?_toList, e1]
            rfl
          · rw [Array.getElem?_toList, Array.getElem?_eq_none (by omega)]
            rfl
        generalize hts : acc.toList.map adr = ts at accE
        have tsl : ts.length = acc.size := by rw [← hts, List.length_map, Array.length_toList]
        have tsj : ∀ {j : Nat} {T : Addr}, ts[j]? = some T ↔ acc[j]? = some (Value.ref T) := fun {j T} => by
          rw [← Array.getElem?_toList, accE, List.getElem?_map]
          cases ts[j]? with
          | none => simp
          | some U => simp
        have tsb : ∀ t, t ∈ ts → s1.heap.objs.size + 5 < t := fun t ht => by
          obtain ⟨j, hj⟩ := List.getElem?_of_mem ht
          have hja := tsj.mp hj
          obtain ⟨T, _, _, _, _, e1, _, _, _, _, _, e3⟩ := each j (Array.getElem?_eq_some_iff.mp hja).1
          rw [e1] at hja
          cases hja
          exact e3
        have nd : ts.Nodup := by
          rw [List.nodup_iff_pairwise_ne, List.pairwise_iff_getElem]
          intro i j hi hj hij
          exact Nat.ne_of_lt (D.ord i j _ _ hij (tsj.mp (List.getElem?_eq_getElem hi)) (tsj.mp (List.getElem?_eq_getElem hj)))
        have far : ∀ {c : Addr}, c < s1.heap.objs.size → ∀ m : Nat, c ≠ s1.heap.objs.size + m := fun hc m => Nat.ne_of_lt (Nat.lt_of_lt_of_le hc (Nat.le_add_right _ _))
        refine ⟨.ref (s1.heap.objs.size + 5), zipH H1 (s1.heap.objs.size + 5) ts (xs.zip ys), laid_many (s := s1) (t' := s1.toks) J (fun b u e => D.old b u (far (Heap.lt_size e) 4) (far (Heap.lt_size e) 3) (far (Heap.lt_size e) 0) (far (Heap.lt_size e) 1) (far (Heap.lt_size e) 5) (kp b u e)) (fun c hc => zipH_out (far hc 5) fun hm => Nat.lt_irrefl _ (Nat.lt_trans (Nat.lt_of_lt_of_le hc (Nat.le_add_right _ 5)) (tsb c hm))) (fun c o hle e => ?_), rfl,
          q _ ts (J.hok.fresh (Nat.le_add_right _ _)) (fun t ht => ⟨J.hok.fresh (Nat.le_trans (Nat.le_add_right _ 5) (Nat.le_of_lt (tsb t ht))), Nat.ne_of_gt (tsb t ht)⟩) nd (by rw [tsl, hn])⟩
        by_cases hcS : c = s1.heap.objs.size + 5
        · subst hcS
          rw [zipH_S] at e
          cases e
          refine ⟨by rw [List.length_map, tsl, hn]; omega, ts.map Value.ref, c3, vals_refs ts, ?_⟩
          rw [hL, ← accE]
        · by_cases hct : c ∈ ts
          · obtain ⟨j, hj⟩ := List.getElem?_of_mem hct
            have hja := tsj.mp hj
            obtain ⟨T, x, y, u, v, e1, ex, ey, ru, rv, e2, e3⟩ := each j (Array.getElem?_eq_some_iff.mp hja).1
            rw [e1] at hja
            cases hja
            rw [zipH_at (p := (x, y)) hcS nd hj (by rw [List.getElem?_zip_eq_some]; exact ⟨ex, ey⟩)] at e
            cases e
            exact ⟨(by decide : 2 ≤ sizeLine), [u, v], .cons ru (.cons rv .nil), _, e2, rfl, _, rfl⟩
          · rw [zipH_out hcS hct, J.hok.fresh hle] at e
            cases e
section
variable {K : PySem.W.Frag}
def pairsOf (xs ys : List PyData) : List PyData := List.zipWith (fun x y => .tuple [x, y]) xs ys
def fListZip (φ ψ : FE) : FL := fun δ => match φ δ with
  | some (.list xs, δ1) => match ψ δ1 with
    | some (.list ys, δ2) => some (pairsOf xs ys, δ2)
    | _ => none
  | _ => none
theorem RpAll.of_get {H : Hp} : ∀ {vs : List V} {ds : List PyData}, vs.length = ds.length → (∀ (j : Nat) (v : V) (d : PyData), vs[j]? = some v → ds[j]? = some d → Rp K H v d) → RpAll K H vs ds
  | [], [], _, _ => .nil
  | [], _ :: _, h, _ => by cases h
  | _ :: _, [], h, _ => by cases h
  | v :: vs, d :: ds, h, g => .cons (g 0 v d rfl rfl) (RpAll.of_get (Nat.succ.inj h) fun j v d e1 e2 => g (j + 1) v d (by simpa using e1) (by simpa using e2))
theorem wl_listZip {ta tb : TE} {φ ψ : FE} (ha : WE K ta φ) (hb : WE K tb ψ) : WL K (tListZip K (tCons ta (tCons tb tNil))) (fListZip φ ψ) := fun F L σ H δ ds δ' e R Q q => by
  unfold fListZip at e
  split at e
  · next xs δ1 e1 =>
    split at e
    · next ys δ2 e2 =>
      cases e
      refine ha F L σ H δ _ δ1 e1 R _ fun v H1 s1 R1 d1 => hb F L σ H1 δ1 _ δ' e2 R1 _ fun w H2 s2 R2 d2 => ?_
      have d1' := s2.dat R1.sub d1
      cases d1' with
      | @lst a vs _ h1 h2 =>
        cases d2 with
        | @lst b ws _ k1 k2 =>
          refine ⟨a, b, vs, ws, rfl, sq_of (msk_some h1).2, sq_of (msk_some k1).2, fun S ts hS hts nd hl => ?_⟩
          have x3 : Ex H2 (zipH H2 S ts (vs.zip ws)) := fun c o ec => by
            rw [zipH_out (fun z => by rw [z, hS] at ec; cases ec) (fun z => by rw [(hts c z).1] at ec; cases ec)]
            exact ec
          have hd : RpAll K (Msk (S :: (F.B ++ L)) (zipH H2 S ts (vs.zip ws))) (ts.map V.ref) (pairsOf xs ys) := by
            have lx := h2.len
            have ly := k2.len
            refine RpAll.of_get (by unfold pairsOf; rw [List.length_map, hl, List.length_zipWith, lx, ly]) fun j v d ev ed => ?_
            rw [List.getElem?_map] at ev
            cases ht : ts[j]? with
            | none =>
              rw [ht] at ev
              cases ev
            | some T =>
              rw [ht] at ev
              cases ev
              obtain ⟨x, y, ex, ey, rfl⟩ := zw_get ed
              obtain ⟨u1, g1, r1⟩ := h2.get j x ex
              obtain ⟨u2, g2, r2⟩ := k2.get j y ey
              have hT := hts T (List.mem_of_getElem? ht)
              have nm : ¬ T ∈ S :: (F.B ++ L) := fun z => by
                rcases List.mem_cons.mp z with z | z
                · exact hT.2 z
                · exact R2.fr T hT.1 z
              have at_ : Msk (S :: (F.B ++ L)) (zipH H2 S ts (vs.zip ws)) T = some (.tup [u1, u2]) := by
                rw [msk_out nm]
                exact zipH_at (p := (u1, u2)) hT.2 nd ht (by rw [List.getElem?_zip_eq_some]; exact ⟨g1, g2⟩)
              have mv : Ex (Msk (F.B ++ L) H2) (Msk (S :: (F.B ++ L)) (zipH H2 S ts (vs.zip ws))) := hide_ex x3 hS
              exact .tup (.inl (.inl at_)) (.cons (Rp.mono mv _ _ r1) (.cons (Rp.mono mv _ _ r2) .nil))
          have ne : zipH H2 S ts (vs.zip ws) S ≠ none := by rw [zipH_S]; exact fun z => nomatch z
          exact q S _ _ (new_live R R2 (s1.trans s2) hS) ((s1.trans s2).trans (Stp.of_ex x3)) (R2.hideX x3 hS ne) zipH_S hd
    · cases e
  · cases e
end
end Sm
namespace Sm
open PySem L2 Evl RZ
section
variable {K : PySem.W.Frag}
/-- xs + ys, both lists: a new list -/
def fAddL (φ ψ : FE) : FL := fun δ => match φ δ with
  | some (.list xs, δ1) => match ψ δ1 with
    | some (.list ys, δ2) => if xs.length + ys.length ≤ 100000 then some (xs ++ ys, δ2) else none
    | _ => none
  | _ => none
theorem wl_addL {ta tb : TE} {φ ψ : FE} (ha : WE K ta φ) (hb : WE K tb ψ) : WL K (tOp (rAddA K) ta tb) (fAddL φ ψ) := fun F L σ H δ ds δ' e R Q q => by
  unfold fAddL at e
  split at e
  · next xs δ1 e1 =>
    split at e
    · next ys δ2 e2 =>
      by_cases hn : xs.length + ys.length ≤ 100000
      · rw [if_pos hn] at e
        cases e
        refine ha F L σ H δ _ δ1 e1 R _ fun v H1 s1 R1 d1 => hb F L σ H1 δ1 _ δ' e2 R1 _ fun w H2 s2 R2 d2 => ?_
        have d1' := s2.dat R1.sub d1
        cases d1' with
        | @lst a vs _ h1 h2 =>
          cases d2 with
          | @lst b ws _ k1 k2 =>
            refine .inr (.inr (.inl ⟨a, b, vs, ws, rfl, rfl, (msk_some h1).2, (msk_some k1).2, sz_of (by rw [h2.len, k2.len]; exact hn), fun p hp => ?_⟩))
            exact q p _ _ (new_live R R2 (s1.trans s2) hp) ((s1.trans s2).trans (Stp.of_ex (Ex.new hp))) (R2.hideX (Ex.new hp) hp (by rw [upd_same]; exact fun z => nomatch z)) upd_same (RpAll.mono (hide_ex (Ex.new hp) hp) _ _ (h2.app k2))
      · rw [if_neg hn] at e
        cases e
    · cases e
  · cases e
end
end Sm
namespace Sm
open PySem L2 Evl RZ
theorem e_fVar (i : Nat) (δ : En) : fVar i δ = (match δ[i]? with
  | some (.dat d) => some (d, δ)
  | _ => none) := rfl
theorem e_fC (d : PyData) (δ : En) : fC d δ = (some (d, δ)) := rfl
theorem e_fOp (f : PyData → PyData → Option PyData) (φ ψ : FE) (δ : En) : fOp f φ ψ δ = (match φ δ with
  | some (x, δ1) => match ψ δ1 with
    | some (y, δ2) => match f x y with
      | some z => some (z, δ2)
      | none => none
    | none => none
  | none => none) := rfl
theorem e_fUn (f : PyData → Option PyData) (φ : FE) (δ : En) : fUn f φ δ = (match φ δ with
  | some (x, δ1) => match f x with
    | some z => some (z, δ1)
    | none => none
  | none => none) := rfl
theorem e_fNil (δ : En) : fNil  δ = (some ([], δ)) := rfl
theorem e_fCons (φ : FE) (ψ : FL) (δ : En) : fCons φ ψ δ = (match φ δ with
  | some (x, δ1) => match ψ δ1 with
    | some (xs, δ2) => some (x :: xs, δ2)
    | none => none
  | none => none) := rfl
theorem e_fTup (φ : FL) (δ : En) : fTup φ δ = (match φ δ with
  | some (xs, δ1) => if xs.length ≤ 100000 then some (.tuple xs, δ1) else none
  | none => none) := rfl
theorem e_fLst (φ : FL) (δ : En) : fLst φ δ = (match φ δ with
  | some (xs, δ1) => if xs.length ≤ 100000 then some (xs, δ1) else none
  | none => none) := rfl
theorem e_fOfL (φ : FL) (δ : En) : fOfL φ δ = (match φ δ with
  | some (xs, δ1) => some (.list xs, δ1)
  | none => none) := rfl
theorem e_fTest (φ : FE) (δ : En) : fTest φ δ = (match φ δ with
  | some (.bool b, δ1) => some (b, δ1)
  | _ => none) := rfl
theorem e_fAnd (φ ψ : FT) (δ : En) : fAnd φ ψ δ = (match φ δ with
  | some (true, δ1) => ψ δ1
  | some (false, δ1) => some (false, δ1)
  | none => none) := rfl
theorem e_fOr (φ ψ : FT) (δ : En) : fOr φ ψ δ = (match φ δ with
  | some (true, δ1) => some (true, δ1)
  | some (false, δ1) => ψ δ1
  | none => none) := rfl
theorem e_fNot (φ : FT) (δ : En) : fNot φ δ = (match φ δ with
  | some (b, δ1) => some (!b, δ1)
  | none => none) := rfl
theorem e_fBool (φ : FT) (δ : En) : fBool φ δ = (match φ δ with
  | some (b, δ1) => some (.bool b, δ1)
  | none => none) := rfl
theorem e_fIf (φ : FT) (ψ χ : FE) (δ : En) : fIf φ ψ χ δ = (match φ δ with
  | some (true, δ1) => ψ δ1
  | some (false, δ1) => χ δ1
  | none => none) := rfl
theorem e_fChain (f g : PyData → PyData → Option PyData) (φ ψ χ : FE) (δ : En) : fChain f g φ ψ χ δ = (match φ δ with
  | some (x, δ1) => match ψ δ1 with
    | some (y, δ2) => match f x y with
      | some (.bool true) => match χ δ2 with
        | some (z, δ3) => match g y z with
          | some (.bool b) => some (.bool b, δ3)
          | _ => none
        | none => none
      | some (.bool false) => some (.bool false, δ2)
      | _ => none
    | none => none
  | none => none) := rfl
theorem e_fVarB (i : Nat) (δ : En) : fVarB i δ = (match δ[i]? with
  | some (.dat d) => some (d, δ)
  | some (.own ds) => some (.list ds, δ)
  | some (.bag ds) => some (.list ds, δ)
  | _ => none) := rfl
theorem e_fUnL (f : PyData → Option (List PyData)) (φ : FE) (δ : En) : fUnL f φ δ = (match φ δ with
  | some (x, δ1) => match f x with
    | some z => some (z, δ1)
    | none => none
  | none => none) := rfl
theorem e_fNoPart (δ : En) : fNoPart  δ = (some (none, δ)) := rfl
theorem e_fPart (φ : FE) (δ : En) : fPart φ δ = (match φ δ with
  | some (.int i, δ1) => some (some i, δ1)
  | _ => none) := rfl
theorem e_fSl (φ : FE) (lo hi : FO) (δ : En) : fSl φ lo hi δ = (match φ δ with
  | some (x, δ1) => match lo δ1 with
    | some (l, δ2) => match hi δ2 with
      | some (h, δ3) => match dSl x l h with
        | some d => some (d, δ3)
        | none => none
      | none => none
    | none => none
  | none => none) := rfl
theorem e_gN (i : Nat) (d : PyData) (δ : En) : gN i d δ = (some (δ.set i (.dat d))) := rfl
theorem e_gNl (ds : List PyData) (δ : En) : gNl  ds δ = (match ds with
  | [] => some δ
  | _ => none) := rfl
theorem e_gCs (γ : FG) (η : FGs) (ds : List PyData) (δ : En) : gCs γ η ds δ = (match ds with
  | d :: ds => match γ d δ with
    | some δ1 => η ds δ1
    | none => none
  | [] => none) := rfl
theorem e_gTp (n : Nat) (η : FGs) (d : PyData) (δ : En) : gTp n η d δ = (match d with
  | .tuple ds => if ds.length = n then η ds δ else none
  | _ => none) := rfl
theorem e_fZip (φ ψ : FE) (δ : En) : fZip φ ψ δ = (match φ δ with
  | some (x, δ1) => match ψ δ1 with
    | some (y, δ2) => match zipD x y with
      | some z => some (z, δ2)
      | none => none
    | none => none
  | none => none) := rfl
theorem e_fLc (φ : FL) (vs : List Nat) (γ : FG) (τ : FT) (ε : FE) (δ : En) : fLc φ vs γ τ ε δ = (match φ δ with
  | some (ds, δ1) => if ds.length ≤ 40000 then compL vs γ τ ε ds δ1 else none
  | none => none) := rfl
theorem e_fYes (δ : En) : fYes  δ = (some (true, δ)) := rfl
theorem e_sNx (δ : En) : sNx  δ = (some (.nx δ)) := rfl
theorem e_sSeq (φ ψ : FS) (δ : En) : sSeq φ ψ δ = (match φ δ with
  | some (.nx δ1) => ψ δ1
  | some (.rt d δ1) => some (.rt d δ1)
  | some (.rl d δ1) => some (.rl d δ1)
  | some (.bk δ1) => some (.bk δ1)
  | some (.ct δ1) => some (.ct δ1)
  | none => none) := rfl
theorem e_sAsg (φ : FE) (γ : FG) (δ : En) : sAsg φ γ δ = (match φ δ with
  | some (d, δ1) => match γ d δ1 with
    | some δ2 => some (.nx δ2)
    | none => none
  | none => none) := rfl
theorem e_sOwn (i : Nat) (φ : FL) (δ : En) : sOwn i φ δ = (match φ δ with
  | some (ds, δ1) => if i < δ1.length then some (.nx (δ1.set i (.own ds))) else none
  | none => none) := rfl
theorem e_sApp (i : Nat) (φ : FE) (δ : En) : sApp i φ δ = (match ownAt δ i with
  | some _ => match φ δ with
    | some (d, δ1) => match ownAt δ1 i with
      | some ds => if ds.length < 50000 then some (.nx (setOwn δ1 i (ds ++ [d]))) else none
      | none => none
    | none => none
  | none => none) := rfl
theorem e_sExt (i : Nat) (φ : FE) (δ : En) : sExt i φ δ = (match ownAt δ i with
  | some _ => match φ δ with
    | some (.list zs, δ1) => match ownAt δ1 i with
      | some ds => if ds.length + zs.length < 50000 then some (.nx (setOwn δ1 i (ds ++ zs))) else none
      | none => none
    | _ => none
  | none => none) := rfl
theorem e_sIns (i : Nat) (φ ψ : FE) (δ : En) : sIns i φ ψ δ = (match ownAt δ i with
  | some _ => match φ δ with
    | some (.int j, δ1) => match ψ δ1 with
      | some (d, δ2) => match ownAt δ2 i with
        | some ds => if ds.length < 50000 ∧ 0 ≤ j ∧ j < 50000 then some (.nx (setOwn δ2 i (ds.take j.toNat ++ [d] ++ ds.drop j.toNat))) else none
        | none => none
      | none => none
    | _ => none
  | none => none) := rfl
theorem e_sSetIx (i : Nat) (φ ψ : FE) (δ : En) : sSetIx i φ ψ δ = (match φ δ with
  | some (d, δ1) => match ownAt δ1 i with
    | some _ => match ψ δ1 with
      | some (.int j, δ2) => match ownAt δ2 i with
        | some ds => match ixN ds.length j with
          | some n => some (.nx (setOwn δ2 i (ds.set n d)))
          | none => none
        | none => none
      | _ => none
    | none => none
  | none => none) := rfl
theorem e_fIxO (i : Nat) (φ : FE) (δ : En) : fIxO i φ δ = (match ownAt δ i with
  | some _ => match φ δ with
    | some (.int j, δ1) => match ownAt δ1 i with
      | some ds => match atI ds j with
        | some d => some (d, δ1)
        | none => none
      | none => none
    | _ => none
  | none => none) := rfl
theorem e_fSlO (i : Nat) (lo hi : FO) (δ : En) : fSlO i lo hi δ = (match ownAt δ i with
  | some _ => match lo δ with
    | some (l, δ1) => match hi δ1 with
      | some (u, δ2) => match ownAt δ2 i with
        | some ds => some (.list (cutD ds l u), δ2)
        | none => none
      | none => none
    | none => none
  | none => none) := rfl
theorem e_sRet (φ : FE) (δ : En) : sRet φ δ = (match φ δ with
  | some (d, δ1) => some (.rt d δ1)
  | none => none) := rfl
theorem e_sRetL (φ : FL) (δ : En) : sRetL φ δ = (match φ δ with
  | some (d, δ1) => some (.rl d δ1)
  | none => none) := rfl
theorem e_sRetO (i : Nat) (δ : En) : sRetO i δ = (match δ[i]? with
  | some (.own ds) => some (.rl ds (δ.set i .un))
  | _ => none) := rfl
theorem e_sFrz (i : Nat) (φ : FS) (δ : En) : sFrz i φ δ = (match δ[i]? with
  | some (.own ds) => φ (δ.set i (.dat (.list ds)))
  | _ => none) := rfl
theorem e_sDrop (φ : FE) (δ : En) : sDrop φ δ = (match φ δ with
  | some (_, δ1) => some (.nx δ1)
  | none => none) := rfl
theorem e_sIf (τ : FT) (φ ψ : FS) (δ : En) : sIf τ φ ψ δ = (match τ δ with
  | some (true, δ1) => φ δ1
  | some (false, δ1) => ψ δ1
  | none => none) := rfl
theorem e_sPar (i j : Nat) (φ : FL) (δ : En) : sPar i j φ δ = (match φ δ with
  | some ([x, y], δ1) => some (.nx ((δ1.set i (.dat x)).set j (.dat y)))
  | _ => none) := rfl
theorem e_sFor (φ : FL) (γ : FG) (β : FS) (δ : En) : sFor φ γ β δ = (match φ δ with
  | some (ds, δ1) => loopF γ β ds δ1
  | none => none) := rfl
theorem e_fCall (f : List PyData → Option PyData) (φ : FL) (δ : En) : fCall f φ δ = (match φ δ with
  | some (ds, δ1) => match f ds with
    | some d => some (d, δ1)
    | none => none
  | none => none) := rfl
theorem e_fCallL (f : List PyData → Option (List PyData)) (φ : FL) (δ : En) : fCallL f φ δ = (match φ δ with
  | some (ds, δ1) => match f ds with
    | some d => some (d, δ1)
    | none => none
  | none => none) := rfl
theorem e_fCallB (f : List PyData → List PyData → Option (PyData × List PyData)) (i : Nat) (φ : FL) (δ : En) : fCallB f i φ δ = (match ownAt δ i with
  | some _ => match φ δ with
    | some (ds, δ1) => match ownAt δ1 i with
      | some bg => match f bg ds with
        | some (d, bg') => some (d, setOwn δ1 i bg')
        | none => none
      | none => none
    | none => none
  | none => none) := rfl
theorem e_fDc (φ : FL) (vs : List Nat) (γ : FG) (τ : FT) (κ ε : FE) (δ : En) : fDc φ vs γ τ κ ε δ = (match φ δ with
  | some (ds, δ1) => if ds.length ≤ 40000 then (match compD vs γ τ κ ε ds δ1 [] with
    | some (kvs, δ2) => some (.dict kvs, δ2)
    | none => none) else none
  | none => none) := rfl
theorem e_fLcO (i0 : Nat) (vs : List Nat) (γ : FG) (τ : FT) (ε : FE) (δ : En) : fLcO i0 vs γ τ ε δ = (match ownAt δ i0 with
  | some ds => if ds.length ≤ 40000 then compLO i0 ds vs γ τ ε ds δ else none
  | none => none) := rfl
theorem e_sForO (i0 : Nat) (γ : FG) (β : FS) (δ : En) : sForO i0 γ β δ = (match ownAt δ i0 with
  | some ds => loopO i0 ds γ β ds δ
  | none => none) := rfl
theorem e_sParO (i j : Nat) (φ ψ : FL) (δ : En) : sParO i j φ ψ δ = (match φ δ with
  | some (xs, δ1) => match ψ δ1 with
    | some (ys, δ2) => if i < δ2.length ∧ j < δ2.length then some (.nx ((δ2.set j (.own ys)).set i (.own xs))) else none
    | none => none
  | none => none) := rfl
theorem e_fOpO (f : PyData → PyData → Option PyData) (i : Nat) (ψ : FE) (δ : En) : fOpO f i ψ δ = (match ownAt δ i with
  | some _ => match ψ δ with
    | some (y, δ2) => match ownAt δ2 i with
      | some ds => match f (.list ds) y with
        | some (.bool b) => some (.bool b, δ2)
        | _ => none
      | none => none
    | none => none
  | none => none) := rfl
theorem e_sOwnD (i : Nat) (φ : FD) (δ : En) : sOwnD i φ δ = (match φ δ with
  | some (ds, δ1) => if i < δ1.length then some (.nx (δ1.set i (.odc ds))) else none
  | none => none) := rfl
theorem e_fNewD (δ : En) : fNewD  δ = (some ([], δ)) := rfl
theorem e_fDictD (φ : FE) (δ : En) : fDictD φ δ = (match φ δ with
  | some (.list ds, δ1) => match pairsD ds with
    | some kvs => some (mergeD [] kvs, δ1)
    | none => none
  | _ => none) := rfl
theorem e_sDPutO (i : Nat) (ψ φ : FE) (δ : En) : sDPutO i ψ φ δ = (match φ δ with
  | some (d, δ1) => match dicAt δ1 i with
    | some _ => match ψ δ1 with
      | some (y, δ2) => match keyOf y, dicAt δ2 i with
        | some k, some ds => if ds.length < 40000 then some (.nx (δ2.set i (.odc (putD ds k d)))) else none
        | _, _ => none
      | none => none
    | none => none
  | none => none) := rfl
theorem e_fDGetO (i : Nat) (ψ : FE) (δ : En) : fDGetO i ψ δ = (match dicAt δ i with
  | some _ => match ψ δ with
    | some (y, δ1) => match keyOf y, dicAt δ1 i with
      | some k, some ds => match lookD ds k with
        | some d => some (d, δ1)
        | none => none
      | _, _ => none
    | none => none
  | none => none) := rfl
theorem e_fDGet2 (φ ψ χ : FE) (δ : En) : fDGet2 φ ψ χ δ = (match φ δ with
  | some (x, δ1) => match ψ δ1 with
    | some (y, δ2) => match χ δ2 with
      | some (z, δ3) => match dictOf x, keyOf y with
        | some kvs, some k => some ((lookD kvs k).getD z, δ3)
        | _, _ => none
      | none => none
    | none => none
  | none => none) := rfl
theorem e_sFrzD (i : Nat) (φ : FS) (δ : En) : sFrzD i φ δ = (match δ[i]? with
  | some (.odc ds) => φ (δ.set i (.dat (.dict ds)))
  | _ => none) := rfl
theorem e_sPar3 (i j l : Nat) (φ : FL) (δ : En) : sPar3 i j l φ δ = (match φ δ with
  | some ([x, y, z], δ1) => some (.nx (((δ1.set i (.dat x)).set j (.dat y)).set l (.dat z)))
  | _ => none) := rfl
theorem e_fZipB (φ ψ : FE) (δ : En) : fZipB φ ψ δ = (match φ δ with
  | some (x, δ1) => match ψ δ1 with
    | some (y, δ2) => match zipAny x y with
      | some z => some (z, δ2)
      | none => none
    | none => none
  | none => none) := rfl
theorem e_fListZip (φ ψ : FE) (δ : En) : fListZip φ ψ δ = (match φ δ with
  | some (.list xs, δ1) => match ψ δ1 with
    | some (.list ys, δ2) => some (pairsOf xs ys, δ2)
    | _ => none
  | _ => none) := rfl
theorem e_fAddL (φ ψ : FE) (δ : En) : fAddL φ ψ δ = (match φ δ with
  | some (.list xs, δ1) => match ψ δ1 with
    | some (.list ys, δ2) => if xs.length + ys.length ≤ 100000 then some (xs ++ ys, δ2) else none
    | _ => none
  | _ => none) := rfl
theorem e_fItems (φ : FE) (δ : En) : fItems φ δ = fUnL itemsOf φ δ := rfl
theorem e_fRange (φ : FE) (δ : En) : fRange φ δ = fUnL (fun d => match d with
  | .int n => if n ≤ 100000 ∧ -100000 ≤ n then some (upto n) else none
  | _ => none) φ δ := rfl
theorem e_fMin (φ ψ : FE) (δ : En) : fMin φ ψ δ = fOp (fI0 fun i j => .int (if j < i then j else i)) φ ψ δ := rfl
theorem e_orF (f g : PyData → PyData → Option PyData) (a b : PyData) : orF f g a b = (match f a b with
  | some d => some d
  | none => g a b) := rfl
theorem fLc_of {φ : FL} {vs : List Nat} {γ : FG} {τ : FT} {ε : FE} {δ δ1 : En} {ds : List PyData} {r : List PyData × En} (h1 : φ δ = some (ds, δ1)) (hl : ds.length ≤ 40000) (hc : compL vs γ τ ε ds δ1 = some r) : fLc φ vs γ τ ε δ = some r := by
  unfold fLc
  rw [h1]
  dsimp only
  rw [if_pos hl, hc]
theorem fDc_of {φ : FL} {vs : List Nat} {γ : FG} {τ : FT} {κ ε : FE} {δ δ1 δ2 : En} {ds : List PyData} {r : List (PyData × PyData)} (h1 : φ δ = some (ds, δ1)) (hl : ds.length ≤ 40000) (hc : compD vs γ τ κ ε ds δ1 [] = some (r, δ2)) : fDc φ vs γ τ κ ε δ = some (.dict r, δ2) := by
  unfold fDc
  rw [h1]
  dsimp only
  rw [if_pos hl, hc]
theorem sFor_of {φ : FL} {γ : FG} {β : FS} {δ δ1 : En} {ds : List PyData} {o : Option Out} (h1 : φ δ = some (ds, δ1)) (hc : loopF γ β ds δ1 = o) : sFor φ γ β δ = o := by
  unfold sFor
  rw [h1]
  exact hc
end Sm
namespace Lc
open PySem L2 Evl RZ Sm
noncomputable def b_common_divisor : FS :=
    (sSeq (sPar 0 1 (fCons (fUn dAbs (fVar 0)) (fCons (fUn dAbs (fVar 1)) fNil)))
    (sSeq (sWhile (fTest (fOp dNe (fVar 1) (fC (.int 0)))) (sPar 0 1 (fCons (fVar 1) (fCons (fOp dMod (fVar 0) (fVar 1)) fNil))))
    (sRet (fVar 0))))
noncomputable def fn_common_divisor : List PyData → Option PyData := runD 0 b_common_divisor
noncomputable def b_fraction : FS :=
    (sSeq (sAsg (fCall fn_common_divisor (fCons (fVar 0) (fCons (fVar 1) fNil))) (gN 2))
    (sRet (fTup (fCons (fOp dDiv (fVar 0) (fVar 2)) (fCons (fOp dDiv (fVar 1) (fVar 2)) fNil)))))
noncomputable def fn_fraction : List PyData → Option PyData := runD 1 b_fraction
noncomputable def b_plus : FS :=
    (sRet (fCall fn_fraction (fCons (fOp dAdd (fOp dMul (fOp dIx (fVar 0) (fC (.int 0))) (fOp dIx (fVar 1) (fC (.int 1)))) (fOp dMul (fOp dIx (fVar 1) (fC (.int 0))) (fOp dIx (fVar 0) (fC (.int 1))))) (fCons (fOp dMul (fOp dIx (fVar 0) (fC (.int 1))) (fOp dIx (fVar 1) (fC (.int 1)))) fNil))))
noncomputable def fn_plus : List PyData → Option PyData := runD 0 b_plus
noncomputable def b_plus_whole : FS :=
    (sRet (fTup (fCons (fOp dAdd (fOp dIx (fVar 0) (fC (.int 0))) (fOp dMul (fVar 1) (fOp dIx (fVar 0) (fC (.int 1))))) (fCons (fOp dIx (fVar 0) (fC (.int 1))) fNil))))
noncomputable def fn_plus_whole : List PyData → Option PyData := runD 0 b_plus_whole
noncomputable def b_names_of : FS :=
    (sRet (fUn dTuple (fOfL (fLc (fItems (fVar 0)) [1] (gN 1) fYes (fOp dIx (fVar 1) (fC (.int 0)))))))
noncomputable def fn_names_of : List PyData → Option PyData := runD 1 b_names_of
noncomputable def b_weigh : FS :=
    (sRet (fOp dAdd (fVar 0) (fUn dSum (fOfL (fLc (fItems (fVar 1)) [2, 3, 4] (gTp 3 (gCs (gN 2) (gCs (gN 3) (gCs (gN 4) gNl)))) fYes (fVar 3))))))
noncomputable def fn_weigh : List PyData → Option PyData := runD 3 b_weigh
noncomputable def b_driven : FS :=
    (sSeq (sAsg (fDc (fItems (fVar 3)) [6, 7] (gTp 2 (gCs (gN 6) (gCs (gN 7) gNl))) fYes (fVar 6) (fVar 7)) (gN 4))
    (sSeq (sAsg (fUn dSum (fOfL (fLc (fItems (fVar 1)) [6, 8, 9] (gTp 3 (gCs (gN 6) (gCs (gN 8) (gCs (gN 9) gNl)))) (fTest (fOp dHas (fVar 6) (fVar 4))) (fOp dMul (fOp dMul (fOp dGet (fVar 4) (fVar 6)) (fVar 8)) (fVar 9))))) (gN 5))
    (sRet (fCall fn_plus (fCons (fVar 2) (fCons (fTup (fCons (fUn dNeg (fVar 5)) (fCons (fCall fn_weigh (fCons (fVar 0) (fCons (fVar 1) fNil))) fNil))) fNil))))))
noncomputable def fn_driven : List PyData → Option PyData := runD 6 b_driven
noncomputable def b_still_on : FS :=
    (sSeq (sAsg (fCall fn_names_of (fCons (fVar 1) fNil)) (gN 2))
    (sRet (fUn dTuple (fOfL (fLc (fItems (fVar 0)) [3] (gN 3) (fTest (fOp (dInA true) (fOp dIx (fVar 3) (fC (.int 0))) (fVar 2))) (fVar 3))))))
noncomputable def fn_still_on : List PyData → Option PyData := runD 2 b_still_on
noncomputable def b_speeds : FS :=
    (sSeq (sAsg (fVar 1) (gN 4))
    (sSeq (sAsg (fVar 2) (gN 5))
    (sSeq (sOwn 6 (fLst fNil))
    (sSeq (sFor (fItems (fVar 3)) (gN 7) (sSeq (sAsg (fCall fn_driven (fCons (fVar 0) (fCons (fVar 4) (fCons (fVar 5) (fCons (fVar 7) fNil))))) (gN 5))
    (sSeq (sAsg (fCall fn_still_on (fCons (fVar 4) (fCons (fVar 7) fNil))) (gN 4))
    (sApp 6 (fVar 5)))))
    (sRetO 6)))))
noncomputable def fn_speeds : List PyData → Option (List PyData) := runL 4 b_speeds
noncomputable def b_leap_by_name : FS :=
    (sRet (fDc (fItems (fVar 0)) [1, 2, 3] (gTp 3 (gCs (gN 1) (gCs (gN 2) (gCs (gN 3) gNl)))) fYes (fVar 1) (fVar 3)))
noncomputable def fn_leap_by_name : List PyData → Option PyData := runD 3 b_leap_by_name
noncomputable def b_leaper_speeds : FS :=
    (sRetL (fLc (fItems (fVar 2)) [3, 4] (gTp 2 (gCs (gN 3) (gCs (gN 4) gNl))) fYes (fTup (fCons (fVar 3) (fCons (fCall fn_plus_whole (fCons (fVar 1) (fCons (fOp dMul (fVar 4) (fOp dGet (fVar 0) (fVar 3))) fNil))) fNil)))))
noncomputable def fn_leaper_speeds : List PyData → Option PyData := runD 2 b_leaper_speeds
noncomputable def b_leapers : FS :=
    (sSeq (sAsg (fCall fn_leap_by_name (fCons (fVar 1) fNil)) (gN 4))
    (sSeq (sOwn 5 (fLst fNil))
    (sSeq (sFor (fZip (fOfL (fCallL fn_speeds (fCons (fVar 0) (fCons (fVar 1) (fCons (fVar 2) (fCons (fVar 3) fNil)))))) (fVar 3)) (gTp 2 (gCs (gN 6) (gCs (gN 7) gNl))) (sExt 5 (fCall fn_leaper_speeds (fCons (fVar 4) (fCons (fVar 6) (fCons (fVar 7) fNil))))))
    (sRetL (fUnL dSorted (fVarB 5))))))
noncomputable def fn_leapers : List PyData → Option (List PyData) := runL 4 b_leapers
noncomputable def b__law_bag : FS :=
    (sSeq (sAsg (fC (.int 0)) (gN 2))
    (sSeq (sIf (fTest (fOp dLt (fVar 1) (fUn dLen (fVar 0)))) (sAsg (fUn dAbs (fOp dIx (fVar 0) (fVar 1))) (gN 2)) sNx)
    (sSeq (sIf (fTest (fOp dLt (fVar 2) (fOp dPow (fC (.int 10)) (fC (.int 18))))) (sRetL (fLst (fCons (fC (.int 0)) (fCons (fOp dAdd (fC (.int 1)) (fOp dMod (fOp dAdd (fOp dMul (fVar 2) (fC (.int 7919))) (fOp dMul (fC (.int 104729)) (fVar 1))) (fC (.int 2147483646)))) fNil)))) sNx)
    (sRetL (fLst (fCons (fVar 2) (fCons (fOp dAdd (fC (.int 1)) (fOp dMod (fOp dAdd (fVar 2) (fVar 1)) (fC (.int 2147483646)))) fNil)))))))
noncomputable def fn__law_bag : List PyData → Option (List PyData) := runL 1 b__law_bag
noncomputable def b__law_take : FS :=
    (sSeq (sIf (fTest (fOp dGtI (fIxO 0 (fC (.int 0))) (fC (.int 0)))) (sSeq (sAsg (fOp dMod (fIxO 0 (fC (.int 0))) (fVar 1)) (gN 2))
    (sSeq (sSetIx 0 (fOp dDiv (fIxO 0 (fC (.int 0))) (fVar 1)) (fC (.int 0)))
    (sRet (fVar 2)))) sNx)
    (sSeq (sSetIx 0 (fOp dMod (fOp dMul (fIxO 0 (fC (.int 1))) (fC (.int 48271))) (fC (.int 2147483647))) (fC (.int 1)))
    (sRet (fOp dMod (fOp dDiv (fOp dMod (fOp dMul (fIxO 0 (fC (.int 1))) (fIxO 0 (fC (.int 1)))) (fC (.int 2147483629))) (fC (.int 64))) (fVar 1)))))
noncomputable def fn__law_take : List PyData → List PyData → Option (PyData × List PyData) := runB 1 b__law_take
noncomputable def b__law_lowest : FS :=
    (sSeq (sPar 2 3 (fCons (fUn dAbs (fVar 0)) (fCons (fVar 1) fNil)))
    (sSeq (sWhile (fTest (fOp dGtI (fVar 3) (fC (.int 0)))) (sPar 2 3 (fCons (fVar 3) (fCons (fOp dMod (fVar 2) (fVar 3)) fNil))))
    (sRet (fTup (fCons (fOp dDiv (fVar 0) (fVar 2)) (fCons (fOp dDiv (fVar 1) (fVar 2)) fNil))))))
noncomputable def fn__law_lowest : List PyData → Option PyData := runD 2 b__law_lowest
noncomputable def b__law_plus : FS :=
    (sRet (fCall fn__law_lowest (fCons (fOp dAdd (fOp dMul (fOp dIx (fVar 0) (fC (.int 0))) (fOp dIx (fVar 1) (fC (.int 1)))) (fOp dMul (fOp dIx (fVar 1) (fC (.int 0))) (fOp dIx (fVar 0) (fC (.int 1))))) (fCons (fOp dMul (fOp dIx (fVar 0) (fC (.int 1))) (fOp dIx (fVar 1) (fC (.int 1)))) fNil))))
noncomputable def fn__law_plus : List PyData → Option PyData := runD 0 b__law_plus
noncomputable def b__law_times : FS :=
    (sRet (fCall fn__law_lowest (fCons (fOp dMul (fOp dIx (fVar 0) (fC (.int 0))) (fVar 1)) (fCons (fOp dIx (fVar 0) (fC (.int 1))) fNil))))
noncomputable def fn__law_times : List PyData → Option PyData := runD 0 b__law_times
noncomputable def b__law_cart : FS :=
    (sRet (fOp dAdd (fC (.int 1)) (fCallB fn__law_take 0 (fCons (fOp dIx (fOfL (fLst (fCons (fC (.int 5)) (fCons (fC (.int 60)) (fCons (fC (.int 1000)) fNil))))) (fCallB fn__law_take 0 (fCons (fC (.int 3)) fNil))) fNil))))
noncomputable def fn__law_cart : List PyData → List PyData → Option (PyData × List PyData) := runB 0 b__law_cart
noncomputable def b__law_folk : FS :=
    (sSeq (sOwn 2 (fLst fNil))
    (sSeq (sAsg (fOp dAdd (fC (.int 1)) (fCallB fn__law_take 0 (fCons (fOp dIx (fOfL (fLst (fCons (fC (.int 4)) (fCons (fC (.int 100)) fNil)))) (fCallB fn__law_take 0 (fCons (fC (.int 2)) fNil))) fNil))) (gN 3))
    (sSeq (sAsg (fOp dEq (fCallB fn__law_take 0 (fCons (fC (.int 3)) fNil)) (fC (.int 0))) (gN 4))
    (sSeq (sFor (fItems (fSl (fOfL (fLst (fCons (fC (.str "ann")) (fCons (fC (.str "bo")) (fCons (fC (.str "cy")) (fCons (fC (.str "dee")) (fCons (fC (.str "eli")) (fCons (fC (.str "fay")) (fCons (fC (.str "gus")) fNil))))))))) fNoPart (fPart (fOp dAdd (fC (.int 1)) (fCallB fn__law_take 0 (fCons (fVar 1) fNil)))))) (gN 5) (sSeq (sAsg (fOp dAdd (fC (.int 1)) (fCallB fn__law_take 0 (fCons (fOp dIx (fOfL (fLst (fCons (fC (.int 5)) (fCons (fC (.int 60)) (fCons (fC (.int 200)) fNil))))) (fCallB fn__law_take 0 (fCons (fC (.int 3)) fNil))) fNil))) (gN 6))
    (sApp 2 (fTup (fCons (fVar 5) (fCons (fVar 6) (fCons (fIf (fTest (fVar 4)) (fVar 3) (fOp dAdd (fC (.int 1)) (fCallB fn__law_take 0 (fCons (fOp dIx (fOfL (fLst (fCons (fC (.int 5)) (fCons (fC (.int 100)) fNil)))) (fCallB fn__law_take 0 (fCons (fC (.int 2)) fNil))) fNil)))) fNil)))))))
    (sRet (fUn dTuple (fVarB 2)))))))
noncomputable def fn__law_folk : List PyData → List PyData → Option (PyData × List PyData) := runB 5 b__law_folk
noncomputable def b__law_mixed : FS :=
    (sSeq (sOwn 2 (fLst fNil))
    (sSeq (sFor (fItems (fVar 1)) (gN 3) (sIns 2 (fCallB fn__law_take 0 (fCons (fOp dAdd (fUn dLen (fVarB 2)) (fC (.int 1))) fNil)) (fVar 3)))
    (sRetO 2)))
noncomputable def fn__law_mixed : List PyData → List PyData → Option (PyData × List PyData) := runB 2 b__law_mixed
noncomputable def b__law_leaps : FS :=
    (sSeq (sOwn 2 (fLst fNil))
    (sSeq (sAsg (fSl (fCallB fn__law_mixed 0 (fCons (fVar 1) fNil)) fNoPart (fPart (fCallB fn__law_take 0 (fCons (fOp dAdd (fUn dLen (fVar 1)) (fC (.int 1))) fNil)))) (gN 3))
    (sSeq (sWhile (fTest (fOp dNe (fVar 3) (fOfL (fLst fNil)))) (sSeq (sAsg (fOp dAdd (fC (.int 1)) (fCallB fn__law_take 0 (fCons (fMin (fC (.int 3)) (fUn dLen (fVar 3))) fNil))) (gN 4))
    (sSeq (sAsg (fOfL (fLc (fItems (fSl (fVar 3) fNoPart (fPart (fVar 4)))) [6] (gN 6) fYes (fTup (fCons (fOp dIx (fVar 6) (fC (.int 0))) (fCons (fOp dSub (fC (.int 1)) (fOp dMul (fC (.int 2)) (fCallB fn__law_take 0 (fCons (fC (.int 2)) fNil)))) fNil))))) (gN 5))
    (sSeq (sApp 2 (fUn dTuple (fOfL (fUnL dSorted (fVar 5)))))
    (sAsg (fSl (fVar 3) (fPart (fVar 4)) fNoPart) (gN 3))))))
    (sRetO 2))))
noncomputable def fn__law_leaps : List PyData → List PyData → Option (PyData × List PyData) := runB 5 b__law_leaps
noncomputable def b__law_left : FS :=
    (sRet (fUn dTuple (fOfL (fLc (fItems (fVar 0)) [2] (gN 2) (fTest (fOp (dInA true) (fOp dIx (fVar 2) (fC (.int 0))) (fVar 1))) (fVar 2)))))
noncomputable def fn__law_left : List PyData → Option PyData := runD 1 b__law_left
noncomputable def b__law_weight : FS :=
    (sRet (fOp dAdd (fVar 0) (fUn dSum (fOfL (fLc (fItems (fVar 1)) [2] (gN 2) fYes (fOp dIx (fVar 2) (fC (.int 1))))))))
noncomputable def fn__law_weight : List PyData → Option PyData := runD 1 b__law_weight
noncomputable def b__law_behind : FS :=
    (sSeq (sAsg (fUn dDict (fOfL (fLc (fItems (fVar 1)) [8] (gN 8) fYes (fTup (fCons (fOp dIx (fVar 8) (fC (.int 0))) (fCons (fVar 8) fNil)))))) (gN 4))
    (sSeq (sAsg (fCall fn__law_times (fCons (fVar 2) (fCons (fCall fn__law_weight (fCons (fVar 0) (fCons (fVar 1) fNil))) fNil))) (gN 5))
    (sSeq (sFor (fItems (fVar 3)) (gTp 2 (gCs (gN 6) (gCs (gN 7) gNl))) (sAsg (fCall fn__law_plus (fCons (fVar 5) (fCons (fTup (fCons (fOp dSub (fC (.int 0)) (fOp dMul (fOp dMul (fOp dIx (fOp dGet (fVar 4) (fVar 6)) (fC (.int 1))) (fOp dIx (fOp dGet (fVar 4) (fVar 6)) (fC (.int 2)))) (fVar 7))) (fCons (fC (.int 1)) fNil))) fNil))) (gN 5)))
    (sRet (fCall fn__law_lowest (fCons (fOp dIx (fVar 5) (fC (.int 0))) (fCons (fOp dMul (fOp dIx (fVar 5) (fC (.int 1))) (fCall fn__law_weight (fCons (fVar 0) (fCons (fVar 1) fNil)))) fNil)))))))
noncomputable def fn__law_behind : List PyData → Option PyData := runD 5 b__law_behind
noncomputable def b__law_run : FS :=
    (sSeq (sOwn 4 (fLst fNil))
    (sSeq (sFor (fItems (fVar 3)) (gN 5) (sSeq (sAsg (fCall fn__law_behind (fCons (fVar 0) (fCons (fVar 1) (fCons (fVar 2) (fCons (fVar 5) fNil))))) (gN 2))
    (sSeq (sOwn 6 (fLst fNil))
    (sSeq (sFor (fItems (fVar 5)) (gTp 2 (gCs (gN 7) (gCs (gN 8) gNl))) (sSeq (sAsg (fOp dIx (fOfL (fLc (fItems (fVar 1)) [10] (gN 10) (fTest (fOp dEq (fOp dIx (fVar 10) (fC (.int 0))) (fVar 7))) (fOp dIx (fVar 10) (fC (.int 2))))) (fC (.int 0))) (gN 9))
    (sApp 6 (fTup (fCons (fVar 7) (fCons (fCall fn__law_plus (fCons (fVar 2) (fCons (fTup (fCons (fOp dMul (fVar 9) (fVar 8)) (fCons (fC (.int 1)) fNil))) fNil))) fNil))))))
    (sSeq (sFrz 6 (sApp 4 (fTup (fCons (fVar 2) (fCons (fVar 6) fNil)))))
    (sAsg (fCall fn__law_left (fCons (fVar 1) (fCons (fOfL (fLc (fItems (fVar 5)) [7, 8] (gTp 2 (gCs (gN 7) (gCs (gN 8) gNl))) fYes (fVar 7))) fNil))) (gN 1)))))))
    (sRetO 4)))
noncomputable def fn__law_run : List PyData → Option PyData := runD 7 b__law_run
noncomputable def b_times : FS :=
    (sRet (fCall fn_fraction (fCons (fOp dMul (fOp dIx (fVar 0) (fC (.int 0))) (fOp dIx (fVar 1) (fC (.int 0)))) (fCons (fOp dMul (fOp dIx (fVar 0) (fC (.int 1))) (fOp dIx (fVar 1) (fC (.int 1)))) fNil))))
noncomputable def fn_times : List PyData → Option PyData := runD 0 b_times
noncomputable def b_run_on : FS :=
    (sRet (fCall fn_plus (fCons (fVar 0) (fCons (fCall fn_times (fCons (fVar 1) (fCons (fCall fn_plus_whole (fCons (fVar 3) (fCons (fUn dNeg (fVar 2)) fNil))) fNil))) fNil))))
noncomputable def fn_run_on : List PyData → Option PyData := runD 0 b_run_on
noncomputable def b_places : FS :=
    (sSeq (sAsg (fOfL (fLc (fItems (fVar 2)) [11, 12] (gTp 2 (gCs (gN 11) (gCs (gN 12) gNl))) (fTest (fOp dLe (fOp dMul (fVar 11) (fOp dIx (fVar 3) (fC (.int 1)))) (fOp dIx (fVar 3) (fC (.int 0))))) (fTup (fCons (fVar 11) (fCons (fVar 12) fNil))))) (gN 4))
    (sSeq (sAsg (fOfL (fCallL fn_speeds (fCons (fVar 0) (fCons (fVar 1) (fCons (fC (.tuple [.int (0), .int (1)])) (fCons (fOfL (fLc (fItems (fVar 4)) [11, 12] (gTp 2 (gCs (gN 11) (gCs (gN 12) gNl))) fYes (fVar 12))) fNil)))))) (gN 5))
    (sSeq (sAsg (fCall fn_leap_by_name (fCons (fVar 1) fNil)) (gN 6))
    (sSeq (sAsg (fC (.tuple [.int (0), .int (1)])) (gN 7))
    (sSeq (sAsg (fC (.tuple [.int (0), .int (1)])) (gN 8))
    (sSeq (sAsg (fC (.int 0)) (gN 9))
    (sSeq (sOwnD 10 fNewD)
    (sSeq (sFor (fZip (fVar 4) (fVar 5)) (gTp 2 (gCs (gTp 2 (gCs (gN 11) (gCs (gN 12) gNl))) (gCs (gN 13) gNl))) (sSeq (sAsg (fCall fn_run_on (fCons (fVar 7) (fCons (fVar 8) (fCons (fVar 9) (fCons (fTup (fCons (fVar 11) (fCons (fC (.int 1)) fNil))) fNil))))) (gN 7))
    (sSeq (sFor (fItems (fCall fn_leaper_speeds (fCons (fVar 6) (fCons (fVar 13) (fCons (fVar 12) fNil))))) (gTp 2 (gCs (gN 14) (gCs (gN 15) gNl))) (sDPutO 10 (fVar 14) (fCall fn_run_on (fCons (fVar 7) (fCons (fVar 15) (fCons (fVar 11) (fCons (fVar 3) fNil)))))))
    (sSeq (sAsg (fVar 13) (gN 8))
    (sAsg (fVar 11) (gN 9))))))
    (sSeq (sAsg (fCall fn_run_on (fCons (fVar 7) (fCons (fVar 8) (fCons (fVar 9) (fCons (fVar 3) fNil))))) (gN 7))
    (sFrzD 10 (sRetL (fAddL (fOfL (fLst (fCons (fTup (fCons (fC (.str "")) (fCons (fVar 7) fNil))) fNil))) (fOfL (fLc (fItems (fCall fn_names_of (fCons (fVar 1) fNil))) [14] (gN 14) fYes (fTup (fCons (fVar 14) (fCons (fDGet2 (fVar 10) (fVar 14) (fVar 7)) fNil)))))))))))))))))
noncomputable def fn_places : List PyData → Option (List PyData) := runL 12 b_places
noncomputable def b__law_less : FS :=
    (sRet (fOp dLt (fOp dMul (fOp dIx (fVar 0) (fC (.int 0))) (fOp dIx (fVar 1) (fC (.int 1)))) (fOp dMul (fOp dIx (fVar 1) (fC (.int 0))) (fOp dIx (fVar 0) (fC (.int 1))))))
noncomputable def fn__law_less : List PyData → Option PyData := runD 0 b__law_less
noncomputable def b__law_timed : FS :=
    (sSeq (sOwnD 2 fNewD)
    (sSeq (sAsg (fCallB fn__law_leaps 0 (fCons (fVar 1) fNil)) (gN 3))
    (sSeq (sFor (fItems (fVar 3)) (gN 4) (sDPutO 2 (fCallB fn__law_take 0 (fCons (fOp dIx (fOfL (fLst (fCons (fC (.int 9)) (fCons (fC (.int 60)) (fCons (fC (.int 1001)) fNil))))) (fCallB fn__law_take 0 (fCons (fC (.int 3)) fNil))) fNil)) (fC (.bool true))))
    (sSeq (sFrzD 2 (sAsg (fOfL (fUnL dSortDI (fVar 2))) (gN 5)))
    (sRetL (fListZip (fVar 5) (fSl (fVar 3) fNoPart (fPart (fUn dLen (fVar 5))))))))))
noncomputable def fn__law_timed : List PyData → List PyData → Option (PyData × List PyData) := runB 4 b__law_timed
noncomputable def b__law_places : FS :=
    (sSeq (sAsg (fOfL (fLc (fItems (fVar 2)) [20] (gN 20) (fNot (fTest (fCall fn__law_less (fCons (fVar 3) (fCons (fTup (fCons (fOp dIx (fVar 20) (fC (.int 0))) (fCons (fC (.int 1)) fNil))) fNil))))) (fVar 20))) (gN 4))
    (sSeq (sAsg (fCall fn__law_run (fCons (fVar 0) (fCons (fVar 1) (fCons (fTup (fCons (fC (.int 0)) (fCons (fC (.int 1)) fNil))) (fCons (fOfL (fLc (fItems (fVar 4)) [20] (gN 20) fYes (fOp dIx (fVar 20) (fC (.int 1))))) fNil))))) (gN 5))
    (sSeq (sAsg (fOp dAdd (fOfL (fLc (fItems (fSl (fVar 4) (fPart (fC (.int 1))) fNoPart)) [20] (gN 20) fYes (fTup (fCons (fOp dIx (fVar 20) (fC (.int 0))) (fCons (fC (.int 1)) fNil))))) (fOfL (fLst (fCons (fVar 3) fNil)))) (gN 6))
    (sSeq (sOwnD 7 (fDictD (fOfL (fLc (fItems (fVar 1)) [18] (gN 18) fYes (fTup (fCons (fOp dIx (fVar 18) (fC (.int 0))) (fCons (fTup (fCons (fC (.int 0)) (fCons (fC (.int 1)) fNil))) fNil)))))))
    (sSeq (sOwnD 8 (fDictD (fOfL (fLc (fItems (fVar 1)) [18] (gN 18) fYes (fTup (fCons (fOp dIx (fVar 18) (fC (.int 0))) (fCons (fTup (fCons (fC (.int 0)) (fCons (fC (.int 1)) fNil))) fNil)))))))
    (sSeq (sPar3 9 10 11 (fCons (fTup (fCons (fC (.int 0)) (fCons (fC (.int 1)) fNil))) (fCons (fTup (fCons (fC (.int 0)) (fCons (fC (.int 1)) fNil))) (fCons (fOfL (fLst fNil)) fNil))))
    (sSeq (sFor (fUnL numOf (fVar 4)) (gTp 2 (gCs (gN 12) (gCs (gTp 2 (gCs (gN 13) (gCs (gN 14) gNl))) gNl))) (sSeq (sAsg (fOp dIx (fOp dIx (fVar 5) (fVar 12)) (fC (.int 0))) (gN 9))
    (sSeq (sAsg (fOp dAdd (fVar 11) (fOfL (fLc (fItems (fVar 14)) [15, 21] (gTp 2 (gCs (gN 15) (gCs (gN 21) gNl))) fYes (fVar 15)))) (gN 11))
    (sSeq (sFor (fItems (fOp dIx (fOp dIx (fVar 5) (fVar 12)) (fC (.int 1)))) (gTp 2 (gCs (gN 15) (gCs (gN 16) gNl))) (sDPutO 7 (fVar 15) (fVar 16)))
    (sSeq (sAsg (fCall fn__law_plus (fCons (fOp dIx (fVar 6) (fVar 12)) (fCons (fTup (fCons (fOp dSub (fC (.int 0)) (fVar 13)) (fCons (fC (.int 1)) fNil))) fNil))) (gN 17))
    (sSeq (sAsg (fCall fn__law_plus (fCons (fVar 10) (fCons (fCall fn__law_lowest (fCons (fOp dMul (fOp dIx (fVar 9) (fC (.int 0))) (fOp dIx (fVar 17) (fC (.int 0)))) (fCons (fOp dMul (fOp dIx (fVar 9) (fC (.int 1))) (fOp dIx (fVar 17) (fC (.int 1)))) fNil))) fNil))) (gN 10))
    (sFor (fItems (fVar 1)) (gN 18) (sSeq (sAsg (fIf (fTest (fOp (dInA false) (fOp dIx (fVar 18) (fC (.int 0))) (fVar 11))) (fDGetO 7 (fOp dIx (fVar 18) (fC (.int 0)))) (fVar 9)) (gN 19))
    (sDPutO 8 (fOp dIx (fVar 18) (fC (.int 0))) (fCall fn__law_plus (fCons (fDGetO 8 (fOp dIx (fVar 18) (fC (.int 0)))) (fCons (fCall fn__law_lowest (fCons (fOp dMul (fOp dIx (fVar 19) (fC (.int 0))) (fOp dIx (fVar 17) (fC (.int 0)))) (fCons (fOp dMul (fOp dIx (fVar 19) (fC (.int 1))) (fOp dIx (fVar 17) (fC (.int 1)))) fNil))) fNil))))))))))))
    (sRetL (fAddL (fOfL (fLst (fCons (fTup (fCons (fC (.str "")) (fCons (fVar 10) fNil))) fNil))) (fOfL (fLc (fItems (fVar 1)) [18] (gN 18) fYes (fTup (fCons (fOp dIx (fVar 18) (fC (.int 0))) (fCons (fDGetO 8 (fOp dIx (fVar 18) (fC (.int 0)))) fNil))))))))))))))
noncomputable def fn__law_places : List PyData → Option (List PyData) := runL 18 b__law_places
noncomputable def b_row_of : FS :=
    (sRet (fOp dIx (fOfL (fLc (fItems (fVar 0)) [2] (gN 2) (fTest (fOp dEq (fOp dIx (fVar 2) (fC (.int 0))) (fVar 1))) (fVar 2))) (fC (.int 0))))
noncomputable def fn_row_of : List PyData → Option PyData := runD 1 b_row_of
noncomputable def b_others : FS :=
    (sRet (fUn dTuple (fOfL (fLc (fItems (fVar 0)) [2] (gN 2) (fTest (fOp dNe (fOp dIx (fVar 2) (fC (.int 0))) (fVar 1))) (fVar 2)))))
noncomputable def fn_others : List PyData → Option PyData := runD 1 b_others
noncomputable def b_heavy_by : FS :=
    (sSeq (sAsg (fOp dIx (fCall fn_row_of (fCons (fVar 1) (fCons (fVar 2) fNil))) (fC (.int 2))) (gN 4))
    (sSeq (sAsg (fCall fn_weigh (fCons (fVar 0) (fCons (fCall fn_others (fCons (fVar 1) (fCons (fVar 2) fNil))) fNil))) (gN 5))
    (sSeq (sAsg (fVar 3) (gTp 2 (gCs (gN 6) (gCs (gN 7) gNl))))
    (sSeq (sIf (fTest (fOp dGeI (fVar 6) (fOp dMul (fVar 4) (fVar 7)))) (sRet (fC .none)) sNx)
    (sRet (fCall fn_fraction (fCons (fOp dMul (fVar 6) (fVar 5)) (fCons (fOp dSub (fOp dMul (fVar 4) (fVar 7)) (fVar 6)) fNil))))))))
noncomputable def fn_heavy_by : List PyData → Option PyData := runD 4 b_heavy_by
noncomputable def b_leap_by : FS :=
    (sSeq (sAsg (fOp dIx (fCall fn_row_of (fCons (fVar 1) (fCons (fVar 2) fNil))) (fC (.int 1))) (gN 4))
    (sSeq (sAsg (fVar 3) (gTp 2 (gCs (gN 5) (gCs (gN 6) gNl))))
    (sRet (fCall fn_fraction (fCons (fOp dMul (fVar 5) (fCall fn_weigh (fCons (fVar 0) (fCons (fVar 1) fNil)))) (fCons (fOp dMul (fVar 4) (fVar 6)) fNil))))))
noncomputable def fn_leap_by : List PyData → Option PyData := runD 3 b_leap_by
end Lc
namespace Lc
open PySem L2 Evl RZ Sm
/-! ### items by place -/
theorem ix_t0 {a : PyData} {r : List PyData} : dIx (.tuple (a :: r)) (.int 0) = some a := atI_nat (j := 0) rfl
theorem ix_t1 {a b : PyData} {r : List PyData} : dIx (.tuple (a :: b :: r)) (.int 1) = some b := atI_nat (j := 1) rfl
theorem ix_t2 {a b c : PyData} {r : List PyData} : dIx (.tuple (a :: b :: c :: r)) (.int 2) = some c := atI_nat (j := 2) rfl
theorem ix_l0 {a : PyData} {r : List PyData} : dIx (.list (a :: r)) (.int 0) = some a := atI_nat (j := 0) rfl
theorem ix_l1 {a b : PyData} {r : List PyData} : dIx (.list (a :: b :: r)) (.int 1) = some b := atI_nat (j := 1) rfl
/-! ### sizes -/
theorem mulB {i j : Int} (hi : i.natAbs < 2 ^ 8000) (hj : j.natAbs < 2 ^ 8000) : cMulB i j = true := by
  unfold cMulB
  have h : ∀ x : Int, x.natAbs < 2 ^ 8000 → x.natAbs.log2 < 8000 := fun x hx => by
    by_cases h0 : x.natAbs = 0
    · rw [h0]
      decide
    · exact (Nat.log2_lt h0).mpr hx
  have h1 := h i hi
  have h2 := h j hj
  exact decide_eq_true (by omega)
theorem divB {i j : Int} (h0 : 0 < j) (hj : j.natAbs < 2 ^ 8000) : cDivB i j = true := by
  unfold cDivB
  have h1 : j.natAbs.log2 < 8000 := (Nat.log2_lt (by omega)).mpr hj
  rw [Bool.and_eq_true]
  exact ⟨decide_eq_true h0, decide_eq_true (by omega)⟩
theorem modB {i j : Int} (h0 : 0 < j) : cModB i j = true := decide_eq_true h0
/-! ### the common divisor -/
def tt2 (a b : Int) : En := [.dat (.int a), .dat (.int b)]
theorem gcd_whl : ∀ (n : Nat) (a b : Int), 0 ≤ a → 0 ≤ b → b.toNat < n → whl (fTest (fOp dNe (fVar 1) (fC (.int 0)))) (sPar 0 1 (fCons (fVar 1) (fCons (fOp dMod (fVar 0) (fVar 1)) fNil))) (n + 1) [.dat (.int a), .dat (.int b)] = some (.nx [.dat (.int (Int.gcd a b)), .dat (.int 0)])
  | 0, _, _, _, _, h => by omega
  | n + 1, a, b, ha, hb, h => by
    unfold whl
    by_cases h0 : b = 0
    · subst h0
      simp only [sSeq, sAsg, sRet, sRetL, sRetO, sIf, sPar, sParO, sOwn, sApp, sExt, sIns, sSetIx, sNx, sDrop, sFrz, sFor, fVar, fVarB, fC, fOp, fUn, fUnL, fNil, fCons, fTup, fLst, fOfL, fTest, fAnd, fOr, fNot, fBool, fIf, fChain, fCall, fCallL, fCallB, fItems, fRange, fZip, fSl, fSlO, fIxO, fOpO, fPart, fNoPart, fMin, fLc, fDc, fYes, gN, gTp, gCs, gNl, runD, runL, runB, orF, fI0, fI, fS0, dNeg, dAbs, dLen, dSum, dTuple, ix_t0, ix_t1, ix_t2, ix_l0, ix_l1, dGet, dHas, dictOf, Sm.keyOf, ownAt, setOwn, EV.cont, EV.with, seqOf, itemsOf, List.map_cons, List.map_nil, List.cons_append, List.nil_append, List.replicate_succ, List.replicate_zero, List.getElem?_cons_zero, List.getElem?_cons_succ, List.getElem?_nil, List.set_cons_zero, List.set_cons_succ, List.length_cons, List.length_nil, wipeE, backE, EV.mine, dNeS, scD, Option.map, decide_true, Bool.not_true]
      rw [Int.gcd_zero_right]
      congr 5
      omega
    · have hm := modB (i := a) (j := b) (by omega)
      simp only [sSeq, sAsg, sRet, sRetL, sRetO, sIf, sPar, sParO, sOwn, sApp, sExt, sIns, sSetIx, sNx, sDrop, sFrz, sFor, fVar, fVarB, fC, fOp, fUn, fUnL, fNil, fCons, fTup, fLst, fOfL, fTest, fAnd, fOr, fNot, fBool, fIf, fChain, fCall, fCallL, fCallB, fItems, fRange, fZip, fSl, fSlO, fIxO, fOpO, fPart, fNoPart, fMin, fLc, fDc, fYes, gN, gTp, gCs, gNl, runD, runL, runB, orF, fI0, fI, fS0, dNeg, dAbs, dLen, dSum, dTuple, ix_t0, ix_t1, ix_t2, ix_l0, ix_l1, dGet, dHas, dictOf, Sm.keyOf, ownAt, setOwn, EV.cont, EV.with, seqOf, itemsOf, List.map_cons, List.map_nil, List.cons_append, List.nil_append, List.replicate_succ, List.replicate_zero, List.getElem?_cons_zero, List.getElem?_cons_succ, List.getElem?_nil, List.set_cons_zero, List.set_cons_succ, List.length_cons, List.length_nil, wipeE, backE, EV.mine, dNeS, scD, Option.map, h0, decide_false, Bool.not_false, hm, if_true]
      have hlt : a % b < b := Int.emod_lt_of_pos a (by omega)
      have hge : 0 ≤ a % b := Int.emod_nonneg a h0
      rw [gcd_whl n b (a % b) hb hge (by omega)]
      have : Int.gcd b (a % b) = Int.gcd a b := by
        obtain ⟨m, rfl⟩ := Int.eq_ofNat_of_zero_le ha
        obtain ⟨k, rfl⟩ := Int.eq_ofNat_of_zero_le hb
        show Nat.gcd k ((m : Int) % (k : Int)).natAbs = Nat.gcd m k
        rw [show ((m : Int) % (k : Int)).natAbs = m % k by omega]
        rw [Nat.gcd_comm k, ← Nat.gcd_rec, Nat.gcd_comm]
      rw [this]
theorem fn_gcd (a b : Int) : fn_common_divisor [.int a, .int b] = some (.int (Int.gcd a b)) := by
  have h := sWhile_of (gcd_whl (b.natAbs + 1) (a.natAbs : Int) (b.natAbs : Int) (by omega) (by omega) (by omega))
  have e : ∀ x : Int, (if x < 0 then -x else x) = (x.natAbs : Int) := fun x => by split <;> omega
  unfold fn_common_divisor b_common_divisor
  simp only [sSeq, sAsg, sRet, sRetL, sRetO, sIf, sPar, sParO, sOwn, sApp, sExt, sIns, sSetIx, sNx, sDrop, sFrz, sFor, fVar, fVarB, fC, fOp, fUn, fUnL, fNil, fCons, fTup, fLst, fOfL, fTest, fAnd, fOr, fNot, fBool, fIf, fChain, fCall, fCallL, fCallB, fItems, fRange, fZip, fSl, fSlO, fIxO, fOpO, fPart, fNoPart, fMin, fLc, fDc, fYes, gN, gTp, gCs, gNl, runD, runL, runB, orF, fI0, fI, fS0, dNeg, dAbs, dLen, dSum, dTuple, ix_t0, ix_t1, ix_t2, ix_l0, ix_l1, dGet, dHas, dictOf, Sm.keyOf, ownAt, setOwn, EV.cont, EV.with, seqOf, itemsOf, List.map_cons, List.map_nil, List.cons_append, List.nil_append, List.replicate_succ, List.replicate_zero, List.getElem?_cons_zero, List.getElem?_cons_succ, List.getElem?_nil, List.set_cons_zero, List.set_cons_succ, List.length_cons, List.length_nil, wipeE, backE, EV.mine, e, h]
  rfl
end Lc
namespace Lc
open PySem L2 Evl RZ Sm
/-! ### fractions as rationals -/
def frD (q : Rat) : PyData := .tuple [.int q.num, .int q.den]
def Bd (n : Nat) (q : Rat) : Prop := q.num.natAbs < 2 ^ n ∧ q.den < 2 ^ n
theorem mk_num (t : Int) (b : Nat) (hb : b ≠ 0) : (mkRat t b).num = t / (Int.gcd t b : Int) ∧ ((mkRat t b).den : Int) = (b : Int) / (Int.gcd t b : Int) := by
  rw [Rat.mkRat_def, dif_neg hb, Rat.normalize_eq]
  refine ⟨rfl, ?_⟩
  show ((b / t.natAbs.gcd b : Nat) : Int) = _
  rw [Int.natCast_ediv]
  rfl
theorem mk_frD (t b : Int) (hb : 0 < b) : frD (mkRat t b.toNat) = .tuple [.int (t / (Int.gcd t b : Int)), .int (b / (Int.gcd t b : Int))] := by
  have h := mk_num t b.toNat (by omega)
  have e : ((b.toNat : Nat) : Int) = b := by omega
  rw [e] at h
  unfold frD
  rw [h.1, h.2]
theorem natAbs_div_le (t : Int) (g : Nat) : (t / (g : Int)).natAbs ≤ t.natAbs := by
  rcases Nat.eq_zero_or_pos g with h | h
  · subst h
    simp
  · have h2 := Int.natAbs_ediv_le_natAbs t (g : Int)
    exact h2
theorem bd_mk {n : Nat} {t : Int} {b : Nat} (hb : b ≠ 0) (ht : t.natAbs < 2 ^ n) (hb' : b < 2 ^ n) : Bd n (mkRat t b) := by
  have h := mk_num t b hb
  refine ⟨?_, ?_⟩
  · rw [h.1]
    exact Nat.lt_of_le_of_lt (natAbs_div_le t _) ht
  · have h2 := natAbs_div_le (b : Int) (Int.gcd t b)
    rw [← h.2] at h2
    have h3 : (mkRat t b).den ≤ b := by simpa using h2
    omega
theorem mul_lt2 {a b n m : Nat} (ha : a < 2 ^ n) (hb : b < 2 ^ m) : a * b < 2 ^ (n + m) := by
  rw [Nat.pow_add]
  exact Nat.mul_lt_mul'' ha hb
theorem bd_le {n m : Nat} {q : Rat} (h : Bd n q) (hm : n ≤ m) : Bd m q := by
  have := Nat.pow_le_pow_right (n := 2) (by decide) hm
  exact ⟨Nat.lt_of_lt_of_le h.1 this, Nat.lt_of_lt_of_le h.2 this⟩
theorem bd_sum {n m : Nat} {p q : Rat} (hp : Bd n p) (hq : Bd m q) : (p.num * q.den + q.num * p.den).natAbs < 2 ^ (n + m + 1) ∧ p.den * q.den < 2 ^ (n + m + 1) := by
  have h1 := mul_lt2 hp.1 hq.2
  have h2 := mul_lt2 hq.1 hp.2
  have h3 := mul_lt2 hp.2 hq.2
  rw [Nat.add_comm m n] at h2
  have h4 : 2 ^ (n + m + 1) = 2 ^ (n + m) + 2 ^ (n + m) := by rw [Nat.pow_succ]; omega
  have a1 : (p.num * q.den).natAbs = p.num.natAbs * q.den := by rw [Int.natAbs_mul]; rfl
  have a2 : (q.num * p.den).natAbs = q.num.natAbs * p.den := by rw [Int.natAbs_mul]; rfl
  have a3 := Int.natAbs_add_le (p.num * q.den) (q.num * p.den)
  refine ⟨by omega, by omega⟩
theorem bd_add {n m : Nat} {p q : Rat} (hp : Bd n p) (hq : Bd m q) : Bd (n + m + 1) (p + q) := by
  rw [Rat.add_def']
  have h := bd_sum hp hq
  exact bd_mk (Nat.mul_ne_zero p.den_nz q.den_nz) h.1 h.2
theorem bd_mul {n m : Nat} {p q : Rat} (hp : Bd n p) (hq : Bd m q) : Bd (n + m) (p * q) := by
  rw [Rat.mul_def']
  have h1 := mul_lt2 hp.1 hq.1
  have h3 := mul_lt2 hp.2 hq.2
  have a1 : (p.num * q.num).natAbs = p.num.natAbs * q.num.natAbs := Int.natAbs_mul _ _
  exact bd_mk (Nat.mul_ne_zero p.den_nz q.den_nz) (by omega) h3
theorem bd_int {n : Nat} {i : Int} (h : i.natAbs < 2 ^ n) (h1 : 1 ≤ n) : Bd n (i : Rat) := by
  refine ⟨h, ?_⟩
  show 1 < 2 ^ n
  have := Nat.pow_le_pow_right (n := 2) (by decide) h1
  omega
theorem gcd_pos (t : Int) {b : Int} (hb : 0 < b) : 0 < (Int.gcd t b : Int) := by
  have : 0 < Int.gcd t b := Int.gcd_pos_iff.mpr (.inr (by omega))
  omega
theorem gcd_le (t : Int) {b : Int} (hb : 0 < b) : (Int.gcd t b : Int).natAbs ≤ b.natAbs := by
  have : Int.gcd t b ≤ b.natAbs := Nat.le_of_dvd (by omega) (Int.gcd_dvd_natAbs_right t b)
  simpa using this
theorem fn_fraction_eq (t b : Int) (hb : 0 < b) (hs : b.natAbs < 2 ^ 8000) : fn_fraction [.int t, .int b] = some (frD (mkRat t b.toNat)) := by
  have hg : ∀ x : Int, cDivB x (Int.gcd t b : Int) = true := fun x => divB (gcd_pos t hb) (Nat.lt_of_le_of_lt (gcd_le t hb) hs)
  unfold fn_fraction b_fraction
  simp only [sSeq, sAsg, sRet, sRetL, sRetO, sIf, sPar, sParO, sOwn, sApp, sExt, sIns, sSetIx, sNx, sDrop, sFrz, sFor, fVar, fVarB, fC, fOp, fUn, fUnL, fNil, fCons, fTup, fLst, fOfL, fTest, fAnd, fOr, fNot, fBool, fIf, fChain, fCall, fCallL, fCallB, fItems, fRange, fZip, fSl, fSlO, fIxO, fOpO, fPart, fNoPart, fMin, fLc, fDc, fYes, gN, gTp, gCs, gNl, runD, runL, runB, orF, fI0, fI, fS0, dNeg, dAbs, dLen, dSum, dTuple, ix_t0, ix_t1, ix_t2, ix_l0, ix_l1, dGet, dHas, dictOf, Sm.keyOf, ownAt, setOwn, EV.cont, EV.with, seqOf, itemsOf, List.map_cons, List.map_nil, List.cons_append, List.nil_append, List.replicate_succ, List.replicate_zero, List.getElem?_cons_zero, List.getElem?_cons_succ, List.getElem?_nil, List.set_cons_zero, List.set_cons_succ, List.length_cons, List.length_nil, wipeE, backE, EV.mine, fn_gcd, hg, if_true]
  rw [if_pos (by decide), mk_frD t b hb]
theorem w38 {x : Nat} (h : x < 2 ^ 3000) : x < 2 ^ 8000 := Nat.lt_of_lt_of_le h (Nat.pow_le_pow_right (by decide) (by decide))
/-- pairs that may have a common divisor -/
theorem fn_plus_pair {a c : Int} {b d : Nat} (hb : 0 < b) (hd : 0 < d) (sa : a.natAbs < 2 ^ 3000) (sb : b < 2 ^ 3000) (sc : c.natAbs < 2 ^ 3000) (sd : d < 2 ^ 3000) : fn_plus [.tuple [.int a, .int b], .tuple [.int c, .int d]] = some (frD (mkRat a b + mkRat c d)) := by
  have w2 : 2 ^ (3000 + 3000) ≤ 2 ^ 8000 := Nat.pow_le_pow_right (by decide) (by decide)
  have d0 : 0 < b * d := Nat.mul_pos hb hd
  have m1 : cMulB a (d : Int) = true := mulB (w38 sa) (w38 sd)
  have m2 : cMulB c (b : Int) = true := mulB (w38 sc) (w38 sb)
  have m3 : cMulB (b : Int) (d : Int) = true := mulB (w38 sb) (w38 sd)
  have e1 : ((b : Int) * (d : Int)) = ((b * d : Nat) : Int) := by rw [Int.natCast_mul]
  have hf := fn_fraction_eq (a * d + c * b) ((b : Int) * (d : Int)) (by rw [e1]; omega) (by rw [e1]; exact Nat.lt_of_lt_of_le (mul_lt2 sb sd) w2)
  unfold fn_plus b_plus
  simp only [sSeq, sAsg, sRet, sRetL, sRetO, sIf, sPar, sParO, sOwn, sApp, sExt, sIns, sSetIx, sNx, sDrop, sFrz, sFor, fVar, fVarB, fC, fOp, fUn, fUnL, fNil, fCons, fTup, fLst, fOfL, fTest, fAnd, fOr, fNot, fBool, fIf, fChain, fCall, fCallL, fCallB, fItems, fRange, fZip, fSl, fSlO, fIxO, fOpO, fPart, fNoPart, fMin, fLc, fDc, fYes, gN, gTp, gCs, gNl, runD, runL, runB, orF, fI0, fI, fS0, dNeg, dAbs, dLen, dSum, dTuple, ix_t0, ix_t1, ix_t2, ix_l0, ix_l1, dGet, dHas, dictOf, Sm.keyOf, ownAt, setOwn, EV.cont, EV.with, seqOf, itemsOf, List.map_cons, List.map_nil, List.cons_append, List.nil_append, List.replicate_succ, List.replicate_zero, List.getElem?_cons_zero, List.getElem?_cons_succ, List.getElem?_nil, List.set_cons_zero, List.set_cons_succ, List.length_cons, List.length_nil, wipeE, backE, EV.mine, m1, m2, m3, if_true, hf]
  rw [Rat.mkRat_add_mkRat _ _ (by omega) (by omega), e1]
  rfl
theorem fn_plus_eq {p q : Rat} (hp : Bd 3000 p) (hq : Bd 3000 q) : fn_plus [frD p, frD q] = some (frD (p + q)) := by
  have h := fn_plus_pair p.den_pos q.den_pos hp.1 hp.2 hq.1 hq.2
  rw [Rat.mkRat_self, Rat.mkRat_self] at h
  exact h
theorem add_int (q : Rat) (i : Int) : (q + (i : Rat)).num = q.num + i * q.den ∧ (q + (i : Rat)).den = q.den := by
  have e : q + (i : Rat) = mkRat (q.num + i * q.den) q.den := by
    rw [Rat.add_def', Rat.num_intCast, Rat.den_intCast]
    show mkRat (q.num * (1 : Int) + i * q.den) (q.den * 1) = _
    rw [Int.mul_one, Nat.mul_one]
  have h := mk_num (q.num + i * q.den) q.den q.den_nz
  have g : Int.gcd (q.num + i * q.den) q.den = 1 := by
    rw [Int.gcd_add_mul_right_left]
    exact q.reduced
  rw [g] at h
  rw [e]
  refine ⟨by rw [h.1]; exact Int.ediv_one _, ?_⟩
  have := h.2
  rw [show ((1 : Nat) : Int) = 1 from rfl, Int.ediv_one] at this
  exact Int.ofNat.inj this
theorem plus_whole_eq {q : Rat} {i : Int} (hq : Bd 3000 q) (hi : i.natAbs < 2 ^ 3000) : fn_plus_whole [frD q, .int i] = some (frD (q + (i : Rat))) := by
  have m1 : cMulB i (q.den : Int) = true := mulB (w38 hi) (w38 hq.2)
  have h := add_int q i
  unfold fn_plus_whole b_plus_whole frD
  rw [h.1, h.2]
  simp only [sSeq, sAsg, sRet, sRetL, sRetO, sIf, sPar, sParO, sOwn, sApp, sExt, sIns, sSetIx, sNx, sDrop, sFrz, sFor, fVar, fVarB, fC, fOp, fUn, fUnL, fNil, fCons, fTup, fLst, fOfL, fTest, fAnd, fOr, fNot, fBool, fIf, fChain, fCall, fCallL, fCallB, fItems, fRange, fZip, fSl, fSlO, fIxO, fOpO, fPart, fNoPart, fMin, fLc, fDc, fYes, gN, gTp, gCs, gNl, runD, runL, runB, orF, fI0, fI, fS0, dNeg, dAbs, dLen, dSum, dTuple, ix_t0, ix_t1, ix_t2, ix_l0, ix_l1, dGet, dHas, dictOf, Sm.keyOf, ownAt, setOwn, EV.cont, EV.with, seqOf, itemsOf, List.map_cons, List.map_nil, List.cons_append, List.nil_append, List.replicate_succ, List.replicate_zero, List.getElem?_cons_zero, List.getElem?_cons_succ, List.getElem?_nil, List.set_cons_zero, List.set_cons_succ, List.length_cons, List.length_nil, wipeE, backE, EV.mine, m1, if_true]
  rw [if_pos (by decide)]
theorem times_eq {p q : Rat} (hp : Bd 3000 p) (hq : Bd 3000 q) : fn_times [frD p, frD q] = some (frD (p * q)) := by
  have w2 : 2 ^ (3000 + 3000) ≤ 2 ^ 8000 := Nat.pow_le_pow_right (by decide) (by decide)
  have d0 : 0 < p.den * q.den := Nat.mul_pos p.den_pos q.den_pos
  have m1 : cMulB p.num q.num = true := mulB (w38 hp.1) (w38 hq.1)
  have m3 : cMulB (p.den : Int) (q.den : Int) = true := mulB (w38 hp.2) (w38 hq.2)
  have e1 : ((p.den : Int) * (q.den : Int)) = ((p.den * q.den : Nat) : Int) := by rw [Int.natCast_mul]
  have hf := fn_fraction_eq (p.num * q.num) ((p.den : Int) * (q.den : Int)) (by rw [e1]; omega) (by rw [e1]; exact Nat.lt_of_lt_of_le (mul_lt2 hp.2 hq.2) w2)
  unfold fn_times b_times frD
  simp only [sSeq, sAsg, sRet, sRetL, sRetO, sIf, sPar, sParO, sOwn, sApp, sExt, sIns, sSetIx, sNx, sDrop, sFrz, sFor, fVar, fVarB, fC, fOp, fUn, fUnL, fNil, fCons, fTup, fLst, fOfL, fTest, fAnd, fOr, fNot, fBool, fIf, fChain, fCall, fCallL, fCallB, fItems, fRange, fZip, fSl, fSlO, fIxO, fOpO, fPart, fNoPart, fMin, fLc, fDc, fYes, gN, gTp, gCs, gNl, runD, runL, runB, orF, fI0, fI, fS0, dNeg, dAbs, dLen, dSum, dTuple, ix_t0, ix_t1, ix_t2, ix_l0, ix_l1, dGet, dHas, dictOf, Sm.keyOf, ownAt, setOwn, EV.cont, EV.with, seqOf, itemsOf, List.map_cons, List.map_nil, List.cons_append, List.nil_append, List.replicate_succ, List.replicate_zero, List.getElem?_cons_zero, List.getElem?_cons_succ, List.getElem?_nil, List.set_cons_zero, List.set_cons_succ, List.length_cons, List.length_nil, wipeE, backE, EV.mine, m1, m3, if_true, hf]
  rw [Rat.mul_def', e1]
  rfl
end Lc
set_option exponentiation.threshold 10000
namespace Lc
open PySem L2 Evl RZ Sm
/-! ### the law's own fractions -/
theorem low_whl (x y : PyData) : ∀ (n : Nat) (a b : Int), 0 ≤ a → 0 ≤ b → b.toNat < n → whl (fTest (fOp dGtI (fVar 3) (fC (.int 0)))) (sPar 2 3 (fCons (fVar 3) (fCons (fOp dMod (fVar 2) (fVar 3)) fNil))) (n + 1) [.dat x, .dat y, .dat (.int a), .dat (.int b)] = some (.nx [.dat x, .dat y, .dat (.int (Int.gcd a b)), .dat (.int 0)])
  | 0, _, _, _, _, h => by omega
  | n + 1, a, b, ha, hb, h => by
    unfold whl
    by_cases h0 : b = 0
    · subst h0
      simp only [sSeq, sAsg, sRet, sRetL, sRetO, sIf, sPar, sParO, sOwn, sApp, sExt, sIns, sSetIx, sNx, sDrop, sFrz, sFor, fVar, fVarB, fC, fOp, fUn, fUnL, fNil, fCons, fTup, fLst, fOfL, fTest, fAnd, fOr, fNot, fBool, fIf, fChain, fCall, fCallL, fCallB, fItems, fRange, fZip, fSl, fSlO, fIxO, fOpO, fPart, fNoPart, fMin, fLc, fDc, fYes, gN, gTp, gCs, gNl, runD, runL, runB, orF, fI0, fI, fS0, dNeg, dAbs, dLen, dSum, dTuple, ix_t0, ix_t1, ix_t2, ix_l0, ix_l1, dGet, dHas, dictOf, Sm.keyOf, ownAt, setOwn, EV.cont, EV.with, seqOf, itemsOf, List.map_cons, List.map_nil, List.cons_append, List.nil_append, List.replicate_succ, List.replicate_zero, List.getElem?_cons_zero, List.getElem?_cons_succ, List.getElem?_nil, List.set_cons_zero, List.set_cons_succ, List.length_cons, List.length_nil, wipeE, backE, EV.mine, Int.lt_irrefl, decide_false]
      rw [Int.gcd_zero_right]
      congr 7
      omega
    · have hm := modB (i := a) (j := b) (by omega)
      have hp : (0 < b) = True := eq_true (by omega)
      simp only [sSeq, sAsg, sRet, sRetL, sRetO, sIf, sPar, sParO, sOwn, sApp, sExt, sIns, sSetIx, sNx, sDrop, sFrz, sFor, fVar, fVarB, fC, fOp, fUn, fUnL, fNil, fCons, fTup, fLst, fOfL, fTest, fAnd, fOr, fNot, fBool, fIf, fChain, fCall, fCallL, fCallB, fItems, fRange, fZip, fSl, fSlO, fIxO, fOpO, fPart, fNoPart, fMin, fLc, fDc, fYes, gN, gTp, gCs, gNl, runD, runL, runB, orF, fI0, fI, fS0, dNeg, dAbs, dLen, dSum, dTuple, ix_t0, ix_t1, ix_t2, ix_l0, ix_l1, dGet, dHas, dictOf, Sm.keyOf, ownAt, setOwn, EV.cont, EV.with, seqOf, itemsOf, List.map_cons, List.map_nil, List.cons_append, List.nil_append, List.replicate_succ, List.replicate_zero, List.getElem?_cons_zero, List.getElem?_cons_succ, List.getElem?_nil, List.set_cons_zero, List.set_cons_succ, List.length_cons, List.length_nil, wipeE, backE, EV.mine, hp, decide_true, hm, if_true]
      have hlt : a % b < b := Int.emod_lt_of_pos a (by omega)
      have hge : 0 ≤ a % b := Int.emod_nonneg a h0
      rw [low_whl x y n b (a % b) hb hge (by omega)]
      have : Int.gcd b (a % b) = Int.gcd a b := by
        obtain ⟨m, rfl⟩ := Int.eq_ofNat_of_zero_le ha
        obtain ⟨k, rfl⟩ := Int.eq_ofNat_of_zero_le hb
        show Nat.gcd k ((m : Int) % (k : Int)).natAbs = Nat.gcd m k
        rw [show ((m : Int) % (k : Int)).natAbs = m % k by omega]
        rw [Nat.gcd_comm k, ← Nat.gcd_rec, Nat.gcd_comm]
      rw [this]
theorem low_eq (t b : Int) (hb : 0 < b) (hs : b.natAbs < 2 ^ 8000) : fn__law_lowest [.int t, .int b] = some (frD (mkRat t b.toNat)) := by
  have h := sWhile_of (low_whl (.int t) (.int b) (b.toNat + 1) (t.natAbs : Int) b (by omega) (by omega) (by omega))
  have e : ∀ x : Int, (if x < 0 then -x else x) = (x.natAbs : Int) := fun x => by split <;> omega
  have eg : Int.gcd (t.natAbs : Int) b = Int.gcd t b := by
    show Nat.gcd (t.natAbs : Int).natAbs b.natAbs = Nat.gcd t.natAbs b.natAbs
    rfl
  rw [eg] at h
  have hg : ∀ x : Int, cDivB x (Int.gcd t b : Int) = true := fun x => divB (gcd_pos t hb) (Nat.lt_of_le_of_lt (gcd_le t hb) hs)
  unfold fn__law_lowest b__law_lowest
  simp only [sSeq, sAsg, sRet, sRetL, sRetO, sIf, sPar, sParO, sOwn, sApp, sExt, sIns, sSetIx, sNx, sDrop, sFrz, sFor, fVar, fVarB, fC, fOp, fUn, fUnL, fNil, fCons, fTup, fLst, fOfL, fTest, fAnd, fOr, fNot, fBool, fIf, fChain, fCall, fCallL, fCallB, fItems, fRange, fZip, fSl, fSlO, fIxO, fOpO, fPart, fNoPart, fMin, fLc, fDc, fYes, gN, gTp, gCs, gNl, runD, runL, runB, orF, fI0, fI, fS0, dNeg, dAbs, dLen, dSum, dTuple, ix_t0, ix_t1, ix_t2, ix_l0, ix_l1, dGet, dHas, dictOf, Sm.keyOf, ownAt, setOwn, EV.cont, EV.with, seqOf, itemsOf, List.map_cons, List.map_nil, List.cons_append, List.nil_append, List.replicate_succ, List.replicate_zero, List.getElem?_cons_zero, List.getElem?_cons_succ, List.getElem?_nil, List.set_cons_zero, List.set_cons_succ, List.length_cons, List.length_nil, wipeE, backE, EV.mine, e, h, hg, if_true]
  rw [if_pos (by decide), mk_frD t b hb]
theorem lplus_eq {p q : Rat} (hp : Bd 3000 p) (hq : Bd 3000 q) : fn__law_plus [frD p, frD q] = some (frD (p + q)) := by
  have h := bd_sum hp hq
  have w2 : 2 ^ (3000 + 3000 + 1) ≤ 2 ^ 8000 := Nat.pow_le_pow_right (by decide) (by decide)
  have d0 : 0 < p.den * q.den := Nat.mul_pos p.den_pos q.den_pos
  have m1 : cMulB p.num (q.den : Int) = true := mulB (w38 hp.1) (w38 hq.2)
  have m2 : cMulB q.num (p.den : Int) = true := mulB (w38 hq.1) (w38 hp.2)
  have m3 : cMulB (p.den : Int) (q.den : Int) = true := mulB (w38 hp.2) (w38 hq.2)
  have e1 : ((p.den : Int) * (q.den : Int)) = ((p.den * q.den : Nat) : Int) := by rw [Int.natCast_mul]
  have hf := low_eq (p.num * q.den + q.num * p.den) ((p.den : Int) * (q.den : Int)) (by rw [e1]; omega) (by rw [e1]; exact Nat.lt_of_lt_of_le h.2 w2)
  unfold fn__law_plus b__law_plus frD
  simp only [sSeq, sAsg, sRet, sRetL, sRetO, sIf, sPar, sParO, sOwn, sApp, sExt, sIns, sSetIx, sNx, sDrop, sFrz, sFor, fVar, fVarB, fC, fOp, fUn, fUnL, fNil, fCons, fTup, fLst, fOfL, fTest, fAnd, fOr, fNot, fBool, fIf, fChain, fCall, fCallL, fCallB, fItems, fRange, fZip, fSl, fSlO, fIxO, fOpO, fPart, fNoPart, fMin, fLc, fDc, fYes, gN, gTp, gCs, gNl, runD, runL, runB, orF, fI0, fI, fS0, dNeg, dAbs, dLen, dSum, dTuple, ix_t0, ix_t1, ix_t2, ix_l0, ix_l1, dGet, dHas, dictOf, Sm.keyOf, ownAt, setOwn, EV.cont, EV.with, seqOf, itemsOf, List.map_cons, List.map_nil, List.cons_append, List.nil_append, List.replicate_succ, List.replicate_zero, List.getElem?_cons_zero, List.getElem?_cons_succ, List.getElem?_nil, List.set_cons_zero, List.set_cons_succ, List.length_cons, List.length_nil, wipeE, backE, EV.mine, m1, m2, m3, if_true, hf]
  rw [Rat.add_def', e1]
  rfl
theorem ltimes_eq {q : Rat} {i : Int} (hq : Bd 3000 q) (hi : i.natAbs < 2 ^ 3000) : fn__law_times [frD q, .int i] = some (frD (q * i)) := by
  have m1 : cMulB q.num i = true := mulB (w38 hq.1) (w38 hi)
  have d0 := q.den_pos
  have hf := low_eq (q.num * i) (q.den : Int) (by omega) (w38 hq.2)
  unfold fn__law_times b__law_times frD
  simp only [sSeq, sAsg, sRet, sRetL, sRetO, sIf, sPar, sParO, sOwn, sApp, sExt, sIns, sSetIx, sNx, sDrop, sFrz, sFor, fVar, fVarB, fC, fOp, fUn, fUnL, fNil, fCons, fTup, fLst, fOfL, fTest, fAnd, fOr, fNot, fBool, fIf, fChain, fCall, fCallL, fCallB, fItems, fRange, fZip, fSl, fSlO, fIxO, fOpO, fPart, fNoPart, fMin, fLc, fDc, fYes, gN, gTp, gCs, gNl, runD, runL, runB, orF, fI0, fI, fS0, dNeg, dAbs, dLen, dSum, dTuple, ix_t0, ix_t1, ix_t2, ix_l0, ix_l1, dGet, dHas, dictOf, Sm.keyOf, ownAt, setOwn, EV.cont, EV.with, seqOf, itemsOf, List.map_cons, List.map_nil, List.cons_append, List.nil_append, List.replicate_succ, List.replicate_zero, List.getElem?_cons_zero, List.getElem?_cons_succ, List.getElem?_nil, List.set_cons_zero, List.set_cons_succ, List.length_cons, List.length_nil, wipeE, backE, EV.mine, m1, if_true, hf]
  rw [Rat.mul_def', Rat.num_intCast]
  show some (frD (mkRat (q.num * i) q.den)) = some (frD (mkRat (q.num * i) (q.den * 1)))
  rw [Nat.mul_one]
/-! ### comprehensions and loops over data -/
theorem compL_enc {α : Type} (enc : α → PyData) {vs : List Nat} {γ : FG} {τ : FT} {ε : FE} {δ : En} (η : α → En) (t : α → Bool) (f : α → PyData) : ∀ (xs : List α), (∀ x, x ∈ xs → γ (enc x) (wipeE δ vs) = some (η x) ∧ τ (η x) = some (t x, η x) ∧ (t x = true → ε (η x) = some (f x, η x)) ∧ backE vs 0 δ (η x) = δ) →
    compL vs γ τ ε (xs.map enc) δ = some ((xs.filter t).map f, δ)
  | [], _ => rfl
  | x :: xs, h => by
    obtain ⟨h1, h2, h3, h4⟩ := h x List.mem_cons_self
    have ih := compL_enc enc η t f xs fun y hy => h y (List.mem_cons_of_mem _ hy)
    rw [List.map_cons]
    unfold compL
    rw [h1]
    dsimp only
    rw [h2]
    cases ht : t x with
    | true =>
      dsimp only
      rw [h3 ht]
      dsimp only
      rw [h4, ih, List.filter_cons_of_pos ht]
      rfl
    | false =>
      dsimp only
      rw [h4, ih, List.filter_cons_of_neg (by rw [ht]; decide)]
theorem compD_enc {α : Type} (enc : α → PyData) {vs : List Nat} {γ : FG} {κ ε : FE} {δ : En} (η : α → En) (k : α → Str) (f : α → PyData) : ∀ (xs : List α) (acc : List (PyData × PyData)), (∀ x, x ∈ xs → γ (enc x) (wipeE δ vs) = some (η x) ∧ κ (η x) = some (.str (k x), η x) ∧ ε (η x) = some (f x, η x) ∧ backE vs 0 δ (η x) = δ) →
    compD vs γ fYes κ ε (xs.map enc) δ acc = some (xs.foldl (fun acc x => putD acc (.inr (k x)) (f x)) acc, δ)
  | [], _, _ => rfl
  | x :: xs, acc, h => by
    obtain ⟨h1, h2, h3, h4⟩ := h x List.mem_cons_self
    have ih := compD_enc enc η k f xs (putD acc (.inr (k x)) (f x)) fun y hy => h y (List.mem_cons_of_mem _ hy)
    rw [List.map_cons]
    unfold compD
    rw [h1]
    dsimp only [fYes]
    rw [h2]
    dsimp only [Sm.keyOf]
    rw [h3]
    dsimp only
    rw [h4, ih]
    rfl
/-- R: what the names stand for between two turns -/
theorem loop_rel {α β : Type} (enc : α → PyData) {γ : FG} {b : FS} (R : β → En → Prop) (step : β → α → β) : ∀ (xs : List α) (s : β) (δ : En), (∀ (s : β) (x : α) (δ : En), x ∈ xs → R s δ → ∃ δ2 δ3, γ (enc x) δ = some δ2 ∧ b δ2 = some (.nx δ3) ∧ R (step s x) δ3) → R s δ →
    ∃ δ', loopF γ b (xs.map enc) δ = some (.nx δ') ∧ R (xs.foldl step s) δ'
  | [], s, δ, _, h => ⟨δ, rfl, h⟩
  | x :: xs, s, δ, hs, h => by
    obtain ⟨δ2, δ3, e1, e2, h3⟩ := hs s x δ List.mem_cons_self h
    obtain ⟨δ', e, h'⟩ := loop_rel enc R step xs (step s x) δ3 (fun s y δ hy => hs s y δ (List.mem_cons_of_mem _ hy)) h3
    refine ⟨δ', ?_, h'⟩
    rw [List.map_cons]
    unfold loopF
    rw [e1]
    dsimp only
    rw [e2]
    exact e
/-! ### dicts with text keys -/
def dkv (ps : List (Str × PyData)) : List (PyData × PyData) := ps.map fun p => (.str p.1, p.2)
theorem put_new {ps : List (Str × PyData)} {n : Str} {d : PyData} (h : ¬ n ∈ ps.map (·.1)) : putD (dkv ps) (.inr n) d = dkv (ps ++ [(n, d)]) := by
  unfold putD
  have : ((dkv ps).any fun kv => decide (Sm.keyOf kv.1 = some (Sum.inr n))) = false := by
    rw [List.any_eq_false]
    intro kv hkv
    unfold dkv at hkv
    obtain ⟨p, hp, rfl⟩ := List.mem_map.mp hkv
    intro z
    have z' := of_decide_eq_true z
    have : p.1 = n := Sum.inr.inj (Option.some.inj z')
    exact h (by rw [← this]; exact List.mem_map.mpr ⟨p, hp, rfl⟩)
  rw [this]
  unfold dkv
  rw [List.map_append]
  rfl
theorem put_all {α : Type} (k : α → Str) (f : α → PyData) : ∀ (xs : List α) (ps : List (Str × PyData)), (ps.map (·.1) ++ xs.map k).Nodup → xs.foldl (fun acc x => putD acc (.inr (k x)) (f x)) (dkv ps) = dkv (ps ++ xs.map fun x => (k x, f x))
  | [], ps, _ => by rw [List.map_nil, List.append_nil]; rfl
  | x :: xs, ps, h => by
    rw [List.foldl_cons, put_new, put_all k f xs]
    · rw [List.append_assoc]
      rfl
    · rw [List.map_append, List.append_assoc]
      exact h
    · intro z
      rw [List.nodup_append] at h
      exact h.2.2 _ z _ (by rw [List.map_cons]; exact List.mem_cons_self) rfl
theorem look_dkv (n : Str) : ∀ (ps : List (Str × PyData)), lookD (dkv ps) (.inr n) = (ps.find? fun p => decide (p.1 = n)).map (·.2)
  | [] => rfl
  | p :: ps => by
    have ih := look_dkv n ps
    unfold lookD dkv at ih ⊢
    rw [List.map_cons]
    by_cases h : p.1 = n
    · rw [List.find?_cons_of_pos (by simp [Sm.keyOf, h]), List.find?_cons_of_pos (by simp [h])]
      rfl
    · rw [List.find?_cons_of_neg (by simp [Sm.keyOf, h]), List.find?_cons_of_neg (by simp [h])]
      exact ih
theorem dictOf_dkv (ps : List (Str × PyData)) : dictOf (.dict (dkv ps)) = some (dkv ps) := by
  cases ps <;> rfl
end Lc
set_option exponentiation.threshold 10000
namespace Lc
open PySem L2 Evl RZ Sm
/-! ### folk and leaps as data -/
abbrev Fk := Str × Int × Int
def encF (p : Fk) : PyData := .tuple [.str p.1, .int p.2.1, .int p.2.2]
def folkD (fs : List Fk) : PyData := .tuple (fs.map encF)
abbrev Lp := Str × Int
def encL (p : Lp) : PyData := .tuple [.str p.1, .int p.2]
def onceD (ls : List Lp) : PyData := .tuple (ls.map encL)
def strsD (ns : List Str) : List PyData := ns.map .str
structure OkF (fs : List Fk) : Prop where
  len : fs.length ≤ 7
  hv : ∀ p, p ∈ fs → 1 ≤ p.2.1 ∧ p.2.1 ≤ 200 ∧ 1 ≤ p.2.2 ∧ p.2.2 ≤ 100
  nd : (fs.map (·.1)).Nodup
structure OkL (fs : List Fk) (ls : List Lp) : Prop where
  len : ls.length ≤ 7
  nm : ∀ p, p ∈ ls → p.1 ∈ fs.map (·.1)
  wy : ∀ p, p ∈ ls → p.2 = 1 ∨ p.2 = -1
  nd : (ls.map (·.1)).Nodup
def wgt (c : Int) (fs : List Fk) : Int := c + (fs.map (·.2.1)).sum
theorem filter_true {α : Type} (l : List α) : l.filter (fun _ => true) = l := List.filter_eq_self.mpr fun _ _ => rfl
theorem weigh_eq (c : Int) (fs : List Fk) (hl : fs.length ≤ 7) : fn_weigh [.int c, folkD fs] = some (.int (wgt c fs)) := by
  have hc := compL_enc encF (vs := [2, 3, 4]) (γ := gTp 3 (gCs (gN 2) (gCs (gN 3) (gCs (gN 4) gNl)))) (τ := fYes) (ε := fVar 3) (δ := [.dat (.int c), .dat (folkD fs), .un, .un, .un])
    (fun p => [.dat (.int c), .dat (folkD fs), .dat (.str p.1), .dat (.int p.2.1), .dat (.int p.2.2)]) (fun _ => true) (fun p => .int p.2.1) fs fun p _ => ⟨rfl, rfl, fun _ => rfl, rfl⟩
  rw [filter_true] at hc
  have h1 := fLc_of (φ := fItems (fVar 1)) (δ := [.dat (.int c), .dat (folkD fs), .un, .un, .un]) rfl (by rw [List.length_map]; omega) hc
  have h2 : intsOf (fs.map fun p => PyData.int p.2.1) = some (fs.map (·.2.1)) := by
    rw [show (fs.map fun p => PyData.int p.2.1) = (fs.map (·.2.1)).map PyData.int by rw [List.map_map]; rfl, intsOf_map]
  unfold fn_weigh b_weigh
  simp only [runD, e_sOwnD, e_fNewD, e_fDictD, e_sDPutO, e_fDGetO, e_fDGet2, e_sFrzD, e_sPar3, e_fVar, e_fC, e_fOp, e_fUn, e_fNil, e_fCons, e_fTup, e_fLst, e_fOfL, e_fTest, e_fAnd, e_fOr, e_fNot, e_fBool, e_fIf, e_fChain, e_fVarB, e_fUnL, e_fNoPart, e_fPart, e_fSl, e_gN, e_gNl, e_gCs, e_gTp, e_fZip, e_fYes, e_sNx, e_sSeq, e_sAsg, e_sOwn, e_sApp, e_sExt, e_sIns, e_sSetIx, e_fIxO, e_fSlO, e_sRet, e_sRetL, e_sRetO, e_sFrz, e_sDrop, e_sIf, e_sPar, e_fCall, e_fCallL, e_fCallB, e_sParO, e_fOpO, e_fItems, e_fRange, e_fMin, e_orF, fI0, fI, fS0, dNeg, dAbs, dLen, dSum, dTuple, ix_t0, ix_t1, ix_t2, ix_l0, ix_l1, ownAt, setOwn, EV.cont, EV.with, seqOf, itemsOf, List.map_cons, List.map_nil, List.cons_append, List.nil_append, List.replicate_succ, List.replicate_zero, List.getElem?_cons_zero, List.getElem?_cons_succ, List.getElem?_nil, List.set_cons_zero, List.set_cons_succ, List.length_cons, List.length_nil, h1, h2, Option.map]
  rfl
theorem lweight_eq (c : Int) (fs : List Fk) (hl : fs.length ≤ 7) : fn__law_weight [.int c, folkD fs] = some (.int (wgt c fs)) := by
  have hc := compL_enc encF (vs := [2]) (γ := gN 2) (τ := fYes) (ε := fOp dIx (fVar 2) (fC (.int 1))) (δ := [.dat (.int c), .dat (folkD fs), .un])
    (fun p => [.dat (.int c), .dat (folkD fs), .dat (encF p)]) (fun _ => true) (fun p => .int p.2.1) fs fun p _ => ⟨rfl, rfl, fun _ => rfl, rfl⟩
  rw [filter_true] at hc
  have h1 := fLc_of (φ := fItems (fVar 1)) (δ := [.dat (.int c), .dat (folkD fs), .un]) rfl (by rw [List.length_map]; omega) hc
  have h2 : intsOf (fs.map fun p => PyData.int p.2.1) = some (fs.map (·.2.1)) := by
    rw [show (fs.map fun p => PyData.int p.2.1) = (fs.map (·.2.1)).map PyData.int by rw [List.map_map]; rfl, intsOf_map]
  unfold fn__law_weight b__law_weight
  simp only [runD, e_sOwnD, e_fNewD, e_fDictD, e_sDPutO, e_fDGetO, e_fDGet2, e_sFrzD, e_sPar3, e_fVar, e_fC, e_fOp, e_fUn, e_fNil, e_fCons, e_fTup, e_fLst, e_fOfL, e_fTest, e_fAnd, e_fOr, e_fNot, e_fBool, e_fIf, e_fChain, e_fVarB, e_fUnL, e_fNoPart, e_fPart, e_fSl, e_gN, e_gNl, e_gCs, e_gTp, e_fZip, e_fYes, e_sNx, e_sSeq, e_sAsg, e_sOwn, e_sApp, e_sExt, e_sIns, e_sSetIx, e_fIxO, e_fSlO, e_sRet, e_sRetL, e_sRetO, e_sFrz, e_sDrop, e_sIf, e_sPar, e_fCall, e_fCallL, e_fCallB, e_sParO, e_fOpO, e_fItems, e_fRange, e_fMin, e_orF, fI0, fI, fS0, dNeg, dAbs, dLen, dSum, dTuple, ix_t0, ix_t1, ix_t2, ix_l0, ix_l1, ownAt, setOwn, EV.cont, EV.with, seqOf, itemsOf, List.map_cons, List.map_nil, List.cons_append, List.nil_append, List.replicate_succ, List.replicate_zero, List.getElem?_cons_zero, List.getElem?_cons_succ, List.getElem?_nil, List.set_cons_zero, List.set_cons_succ, List.length_cons, List.length_nil, h1, h2, Option.map]
  rfl
theorem names_eq (ls : List Lp) (hl : ls.length ≤ 7) : fn_names_of [onceD ls] = some (.tuple (strsD (ls.map (·.1)))) := by
  have hc := compL_enc encL (vs := [1]) (γ := gN 1) (τ := fYes) (ε := fOp dIx (fVar 1) (fC (.int 0))) (δ := [.dat (onceD ls), .un])
    (fun p => [.dat (onceD ls), .dat (encL p)]) (fun _ => true) (fun p => .str p.1) ls fun p _ => ⟨rfl, rfl, fun _ => rfl, rfl⟩
  rw [filter_true] at hc
  have h1 := fLc_of (φ := fItems (fVar 0)) (δ := [.dat (onceD ls), .un]) rfl (by rw [List.length_map]; omega) hc
  unfold fn_names_of b_names_of
  simp only [runD, e_sOwnD, e_fNewD, e_fDictD, e_sDPutO, e_fDGetO, e_fDGet2, e_sFrzD, e_sPar3, e_fVar, e_fC, e_fOp, e_fUn, e_fNil, e_fCons, e_fTup, e_fLst, e_fOfL, e_fTest, e_fAnd, e_fOr, e_fNot, e_fBool, e_fIf, e_fChain, e_fVarB, e_fUnL, e_fNoPart, e_fPart, e_fSl, e_gN, e_gNl, e_gCs, e_gTp, e_fZip, e_fYes, e_sNx, e_sSeq, e_sAsg, e_sOwn, e_sApp, e_sExt, e_sIns, e_sSetIx, e_fIxO, e_fSlO, e_sRet, e_sRetL, e_sRetO, e_sFrz, e_sDrop, e_sIf, e_sPar, e_fCall, e_fCallL, e_fCallB, e_sParO, e_fOpO, e_fItems, e_fRange, e_fMin, e_orF, fI0, fI, fS0, dNeg, dAbs, dLen, dSum, dTuple, ix_t0, ix_t1, ix_t2, ix_l0, ix_l1, ownAt, setOwn, EV.cont, EV.with, seqOf, itemsOf, List.map_cons, List.map_nil, List.cons_append, List.nil_append, List.replicate_succ, List.replicate_zero, List.getElem?_cons_zero, List.getElem?_cons_succ, List.getElem?_nil, List.set_cons_zero, List.set_cons_succ, List.length_cons, List.length_nil, h1]
  unfold strsD
  rw [List.map_map]
  rfl
def left (fs : List Fk) (ns : List Str) : List Fk := fs.filter fun p => !ns.contains p.1
theorem in_strs (n : Str) (ns : List Str) : (strsD ns).any (fun d => PyData.eqv d (.str n)) = ns.contains n := by
  unfold strsD
  rw [List.any_map]
  rw [Bool.eq_iff_iff, List.any_eq_true, List.contains_iff_mem]
  constructor
  · rintro ⟨x, hx, e⟩
    have : x = n := by simpa [PyData.eqv] using e
    rw [← this]
    exact hx
  · intro h
    exact ⟨n, h, by simp [PyData.eqv]⟩
theorem flat_strs (ns : List Str) : (strsD ns).all flatD = true := by
  unfold strsD
  rw [List.all_map, List.all_eq_true]
  intro x _
  rfl
theorem notin_eq (n : Str) (ns : List Str) (d : PyData) (h : d = .tuple (strsD ns) ∨ d = .list (strsD ns)) : dIn true (.str n) d = some (.bool (!ns.contains n)) := by
  have e : seqOf d = some (strsD ns) := by
    rcases h with h | h <;> (rw [h]; rfl)
  unfold dIn
  rw [e]
  dsimp only
  rw [if_pos ⟨rfl, flat_strs ns⟩, in_strs]
  rfl
theorem lleft_eq (fs : List Fk) (ns : List Str) (hl : fs.length ≤ 7) : fn__law_left [folkD fs, .list (strsD ns)] = some (folkD (left fs ns)) := by
  have hc := compL_enc encF (vs := [2]) (γ := gN 2) (τ := fTest (fOp (dInA true) (fOp dIx (fVar 2) (fC (.int 0))) (fVar 1))) (ε := fVar 2) (δ := [.dat (folkD fs), .dat (.list (strsD ns)), .un])
    (fun p => [.dat (folkD fs), .dat (.list (strsD ns)), .dat (encF p)]) (fun p => !ns.contains p.1) encF fs fun p _ => ⟨rfl, by
      unfold encF
      simp only [e_sOwnD, e_fNewD, e_fDictD, e_sDPutO, e_fDGetO, e_fDGet2, e_sFrzD, e_sPar3, e_fVar, e_fC, e_fOp, e_fUn, e_fNil, e_fCons, e_fTup, e_fLst, e_fOfL, e_fTest, e_fAnd, e_fOr, e_fNot, e_fBool, e_fIf, e_fChain, e_fVarB, e_fUnL, e_fNoPart, e_fPart, e_fSl, e_gN, e_gNl, e_gCs, e_gTp, e_fZip, e_fYes, e_sNx, e_sSeq, e_sAsg, e_sOwn, e_sApp, e_sExt, e_sIns, e_sSetIx, e_fIxO, e_fSlO, e_sRet, e_sRetL, e_sRetO, e_sFrz, e_sDrop, e_sIf, e_sPar, e_fCall, e_fCallL, e_fCallB, e_sParO, e_fOpO, e_fItems, e_fRange, e_fMin, e_orF, fI0, fI, fS0, dNeg, dAbs, dLen, dSum, dTuple, ix_t0, ix_t1, ix_t2, ix_l0, ix_l1, ownAt, setOwn, EV.cont, EV.with, seqOf, itemsOf, List.map_cons, List.map_nil, List.cons_append, List.nil_append, List.replicate_succ, List.replicate_zero, List.getElem?_cons_zero, List.getElem?_cons_succ, List.getElem?_nil, List.set_cons_zero, List.set_cons_succ, List.length_cons, List.length_nil, notin_eq p.1 ns _ (.inr rfl)], fun _ => rfl, rfl⟩
  have h1 := fLc_of (φ := fItems (fVar 0)) (δ := [.dat (folkD fs), .dat (.list (strsD ns)), .un]) rfl (by rw [List.length_map]; omega) hc
  unfold fn__law_left b__law_left
  simp only [runD, e_sOwnD, e_fNewD, e_fDictD, e_sDPutO, e_fDGetO, e_fDGet2, e_sFrzD, e_sPar3, e_fVar, e_fC, e_fOp, e_fUn, e_fNil, e_fCons, e_fTup, e_fLst, e_fOfL, e_fTest, e_fAnd, e_fOr, e_fNot, e_fBool, e_fIf, e_fChain, e_fVarB, e_fUnL, e_fNoPart, e_fPart, e_fSl, e_gN, e_gNl, e_gCs, e_gTp, e_fZip, e_fYes, e_sNx, e_sSeq, e_sAsg, e_sOwn, e_sApp, e_sExt, e_sIns, e_sSetIx, e_fIxO, e_fSlO, e_sRet, e_sRetL, e_sRetO, e_sFrz, e_sDrop, e_sIf, e_sPar, e_fCall, e_fCallL, e_fCallB, e_sParO, e_fOpO, e_fItems, e_fRange, e_fMin, e_orF, fI0, fI, fS0, dNeg, dAbs, dLen, dSum, dTuple, ix_t0, ix_t1, ix_t2, ix_l0, ix_l1, ownAt, setOwn, EV.cont, EV.with, seqOf, itemsOf, List.map_cons, List.map_nil, List.cons_append, List.nil_append, List.replicate_succ, List.replicate_zero, List.getElem?_cons_zero, List.getElem?_cons_succ, List.getElem?_nil, List.set_cons_zero, List.set_cons_succ, List.length_cons, List.length_nil, h1]
  rfl
theorem still_eq (fs : List Fk) (ls : List Lp) (hl : fs.length ≤ 7) (hl2 : ls.length ≤ 7) : fn_still_on [folkD fs, onceD ls] = some (folkD (left fs (ls.map (·.1)))) := by
  have hc := compL_enc encF (vs := [3]) (γ := gN 3) (τ := fTest (fOp (dInA true) (fOp dIx (fVar 3) (fC (.int 0))) (fVar 2))) (ε := fVar 3) (δ := [.dat (folkD fs), .dat (onceD ls), .dat (.tuple (strsD (ls.map (·.1)))), .un])
    (fun p => [.dat (folkD fs), .dat (onceD ls), .dat (.tuple (strsD (ls.map (·.1)))), .dat (encF p)]) (fun p => !(ls.map (·.1)).contains p.1) encF fs fun p _ => ⟨rfl, by
      unfold encF
      simp only [e_sOwnD, e_fNewD, e_fDictD, e_sDPutO, e_fDGetO, e_fDGet2, e_sFrzD, e_sPar3, e_fVar, e_fC, e_fOp, e_fUn, e_fNil, e_fCons, e_fTup, e_fLst, e_fOfL, e_fTest, e_fAnd, e_fOr, e_fNot, e_fBool, e_fIf, e_fChain, e_fVarB, e_fUnL, e_fNoPart, e_fPart, e_fSl, e_gN, e_gNl, e_gCs, e_gTp, e_fZip, e_fYes, e_sNx, e_sSeq, e_sAsg, e_sOwn, e_sApp, e_sExt, e_sIns, e_sSetIx, e_fIxO, e_fSlO, e_sRet, e_sRetL, e_sRetO, e_sFrz, e_sDrop, e_sIf, e_sPar, e_fCall, e_fCallL, e_fCallB, e_sParO, e_fOpO, e_fItems, e_fRange, e_fMin, e_orF, fI0, fI, fS0, dNeg, dAbs, dLen, dSum, dTuple, ix_t0, ix_t1, ix_t2, ix_l0, ix_l1, ownAt, setOwn, EV.cont, EV.with, seqOf, itemsOf, List.map_cons, List.map_nil, List.cons_append, List.nil_append, List.replicate_succ, List.replicate_zero, List.getElem?_cons_zero, List.getElem?_cons_succ, List.getElem?_nil, List.set_cons_zero, List.set_cons_succ, List.length_cons, List.length_nil, notin_eq p.1 _ _ (.inl rfl)], fun _ => rfl, rfl⟩
  have h1 := fLc_of (φ := fItems (fVar 0)) (δ := [.dat (folkD fs), .dat (onceD ls), .dat (.tuple (strsD (ls.map (·.1)))), .un]) rfl (by rw [List.length_map]; omega) hc
  unfold fn_still_on b_still_on
  simp only [runD, e_sOwnD, e_fNewD, e_fDictD, e_sDPutO, e_fDGetO, e_fDGet2, e_sFrzD, e_sPar3, e_fVar, e_fC, e_fOp, e_fUn, e_fNil, e_fCons, e_fTup, e_fLst, e_fOfL, e_fTest, e_fAnd, e_fOr, e_fNot, e_fBool, e_fIf, e_fChain, e_fVarB, e_fUnL, e_fNoPart, e_fPart, e_fSl, e_gN, e_gNl, e_gCs, e_gTp, e_fZip, e_fYes, e_sNx, e_sSeq, e_sAsg, e_sOwn, e_sApp, e_sExt, e_sIns, e_sSetIx, e_fIxO, e_fSlO, e_sRet, e_sRetL, e_sRetO, e_sFrz, e_sDrop, e_sIf, e_sPar, e_fCall, e_fCallL, e_fCallB, e_sParO, e_fOpO, e_fItems, e_fRange, e_fMin, e_orF, fI0, fI, fS0, dNeg, dAbs, dLen, dSum, dTuple, ix_t0, ix_t1, ix_t2, ix_l0, ix_l1, ownAt, setOwn, EV.cont, EV.with, seqOf, itemsOf, List.map_cons, List.map_nil, List.cons_append, List.nil_append, List.replicate_succ, List.replicate_zero, List.getElem?_cons_zero, List.getElem?_cons_succ, List.getElem?_nil, List.set_cons_zero, List.set_cons_succ, List.length_cons, List.length_nil, names_eq ls hl2, h1]
  rfl
theorem left_ok {fs : List Fk} (h : OkF fs) (ns : List Str) : OkF (left fs ns) := by
  have hs : (left fs ns).Sublist fs := List.filter_sublist
  exact ⟨Nat.le_trans hs.length_le h.len, fun p hp => h.hv p (hs.subset hp), (hs.map _).nodup h.nd⟩
end Lc
set_option exponentiation.threshold 10000
namespace Lc
open PySem L2 Evl RZ Sm
/-! ### one tuple of leaps -/
theorem loop_idx {α β : Type} (enc : α → PyData) {γ : FG} {b : FS} (R : Nat → β → En → Prop) (step : β → α → β) : ∀ (xs : List α) (k : Nat) (s : β) (δ : En), (∀ (i : Nat) (s : β) (x : α) (δ : En), xs[i]? = some x → R (k + i) s δ → ∃ δ2 δ3, γ (enc x) δ = some δ2 ∧ b δ2 = some (.nx δ3) ∧ R (k + i + 1) (step s x) δ3) → R k s δ →
    ∃ δ', loopF γ b (xs.map enc) δ = some (.nx δ') ∧ R (k + xs.length) (xs.foldl step s) δ'
  | [], k, s, δ, _, h => ⟨δ, rfl, h⟩
  | x :: xs, k, s, δ, hs, h => by
    obtain ⟨δ2, δ3, e1, e2, h3⟩ := hs 0 s x δ rfl h
    obtain ⟨δ', e, h'⟩ := loop_idx enc R step xs (k + 1) (step s x) δ3 (fun i s y δ hy hR => by
      have := hs (i + 1) s y δ (by simpa using hy) (by rw [show k + (i + 1) = k + 1 + i by omega]; exact hR)
      rw [show k + (i + 1) + 1 = k + 1 + i + 1 by omega] at this
      exact this) h3
    refine ⟨δ', ?_, ?_⟩
    · rw [List.map_cons]
      unfold loopF
      rw [e1]
      dsimp only
      rw [e2]
      exact e
    · rw [List.length_cons, show k + (xs.length + 1) = k + 1 + xs.length by omega]
      exact h'
def wayOf (ls : List Lp) (n : Str) : Option Int := (ls.find? fun p => decide (p.1 = n)).map (·.2)
def val (ls : List Lp) (p : Fk) : Int := (wayOf ls p.1).getD 0 * p.2.1 * p.2.2
def push (fs : List Fk) (ls : List Lp) : Int := (fs.map (val ls)).sum
theorem wayOf_mem {ls : List Lp} {n : Str} {w : Int} (h : wayOf ls n = some w) : (n, w) ∈ ls := by
  unfold wayOf at h
  cases e : ls.find? fun p => decide (p.1 = n) with
  | none =>
    rw [e] at h
    cases h
  | some p =>
    rw [e] at h
    cases h
    have h1 := List.mem_of_find?_eq_some e
    have h2 := List.find?_some e
    have h3 : p.1 = n := of_decide_eq_true h2
    rw [← h3]
    exact h1
theorem push_filter (ls : List Lp) : ∀ fs : List Fk, ((fs.filter fun p => (wayOf ls p.1).isSome).map (val ls)).sum = push fs ls
  | [] => rfl
  | p :: fs => by
    have ih := push_filter ls fs
    unfold push at ih ⊢
    rw [List.map_cons, List.sum_cons]
    cases h : wayOf ls p.1 with
    | none =>
      rw [List.filter_cons_of_neg (by rw [h]; decide), ih]
      unfold val
      rw [h]
      simp
    | some w =>
      rw [List.filter_cons_of_pos (by rw [h]; rfl), List.map_cons, List.sum_cons, ih]
theorem val_le {ls : List Lp} {p : Fk} (hw : ∀ q, q ∈ ls → q.2 = 1 ∨ q.2 = -1) (hp : 1 ≤ p.2.1 ∧ p.2.1 ≤ 200 ∧ 1 ≤ p.2.2 ∧ p.2.2 ≤ 100) : (val ls p).natAbs ≤ 20000 := by
  unfold val
  have h1 : p.2.1 * p.2.2 ≤ 200 * 100 := Int.mul_le_mul hp.2.1 hp.2.2.2 (by omega) (by omega)
  have h2 : 0 ≤ p.2.1 * p.2.2 := Int.mul_nonneg (by omega) (by omega)
  cases h : wayOf ls p.1 with
  | none => simp
  | some w =>
    have := hw _ (wayOf_mem h)
    dsimp only at this
    rw [Option.getD_some, Int.mul_assoc]
    rcases this with e | e
    · rw [e]
      omega
    · rw [e]
      omega
theorem push_le {ls : List Lp} (hw : ∀ q, q ∈ ls → q.2 = 1 ∨ q.2 = -1) : ∀ (fs : List Fk), (∀ p, p ∈ fs → 1 ≤ p.2.1 ∧ p.2.1 ≤ 200 ∧ 1 ≤ p.2.2 ∧ p.2.2 ≤ 100) → (push fs ls).natAbs ≤ 20000 * fs.length
  | [], _ => by simp [push]
  | p :: fs, h => by
    have ih := push_le hw fs fun q hq => h q (List.mem_cons_of_mem _ hq)
    have hv := val_le hw (h p List.mem_cons_self)
    unfold push at ih ⊢
    rw [List.map_cons, List.sum_cons, List.length_cons]
    omega
theorem wgt_le (c : Int) (hc : 1 ≤ c ∧ c ≤ 1000) : ∀ (fs : List Fk), (∀ p, p ∈ fs → 1 ≤ p.2.1 ∧ p.2.1 ≤ 200 ∧ 1 ≤ p.2.2 ∧ p.2.2 ≤ 100) → 1 ≤ wgt c fs ∧ wgt c fs ≤ 1000 + 200 * fs.length
  | [], _ => by simp [wgt]; omega
  | p :: fs, h => by
    have ih := wgt_le c hc fs fun q hq => h q (List.mem_cons_of_mem _ hq)
    have hv := h p List.mem_cons_self
    unfold wgt at ih ⊢
    rw [List.map_cons, List.sum_cons, List.length_cons]
    omega
/-- the cart's speed behind a tuple of leaps -/
def dr (c : Int) (fs : List Fk) (q : Rat) (ls : List Lp) : Rat := q + mkRat (-push fs ls) (wgt c fs).toNat
theorem pow20 {x : Nat} (h : x ≤ 140000) (n : Nat) (hn : 20 ≤ n) : x < 2 ^ n := Nat.lt_of_lt_of_le (show x < 2 ^ 20 by omega) (Nat.pow_le_pow_right (by decide) hn)
section
variable {c : Int} {fs : List Fk} {ls : List Lp} {q : Rat}
theorem dr_part (hc : 1 ≤ c ∧ c ≤ 1000) (hf : OkF fs) (hw : ∀ p, p ∈ ls → p.2 = 1 ∨ p.2 = -1) : Bd 20 (mkRat (-push fs ls) (wgt c fs).toNat) := by
  have h1 := push_le hw fs hf.hv
  have h2 := wgt_le c hc fs hf.hv
  have h3 := hf.len
  exact bd_mk (by omega) (pow20 (by omega) 20 (by omega)) (pow20 (by omega) 20 (by omega))
theorem dr_bd {n : Nat} (hc : 1 ≤ c ∧ c ≤ 1000) (hf : OkF fs) (hw : ∀ p, p ∈ ls → p.2 = 1 ∨ p.2 = -1) (hq : Bd n q) : Bd (n + 21) (dr c fs q ls) := bd_add hq (dr_part hc hf hw)
theorem find_int (n : Str) : ∀ ls : List Lp, ((ls.map fun p => (p.1, PyData.int p.2)).find? fun p => decide (p.1 = n)).map (·.2) = (wayOf ls n).map PyData.int
  | [] => rfl
  | p :: ls => by
    have ih := find_int n ls
    unfold wayOf at ih ⊢
    rw [List.map_cons]
    by_cases h : p.1 = n
    · rw [List.find?_cons_of_pos (by simpa using h), List.find?_cons_of_pos (by simpa using h)]
      rfl
    · rw [List.find?_cons_of_neg (by simpa using h), List.find?_cons_of_neg (by simpa using h)]
      exact ih
theorem driven_eq (hc : 1 ≤ c ∧ c ≤ 1000) (hf : OkF fs) (hl : OkL fs ls) (hq : Bd 2900 q) : fn_driven [.int c, folkD fs, frD q, onceD ls] = some (frD (dr c fs q ls)) := by
  have hd := compD_enc encL (vs := [6, 7]) (γ := gTp 2 (gCs (gN 6) (gCs (gN 7) gNl))) (κ := fVar 6) (ε := fVar 7) (δ := [.dat (.int c), .dat (folkD fs), .dat (frD q), .dat (onceD ls), .un, .un, .un, .un, .un, .un])
    (fun p => [.dat (.int c), .dat (folkD fs), .dat (frD q), .dat (onceD ls), .un, .un, .dat (.str p.1), .dat (.int p.2), .un, .un]) (fun p => p.1) (fun p => .int p.2) ls [] fun p _ => ⟨rfl, rfl, rfl, rfl⟩
  rw [show ([] : List (PyData × PyData)) = dkv [] from rfl, put_all _ _ ls [] (by simpa using hl.nd), List.nil_append] at hd
  have h0 := fDc_of (φ := fItems (fVar 3)) (δ := [.dat (.int c), .dat (folkD fs), .dat (frD q), .dat (onceD ls), .un, .un, .un, .un, .un, .un]) rfl (by rw [List.length_map]; have := hl.len; omega) hd
  generalize hD : PyData.dict (dkv (ls.map fun p => (p.1, PyData.int p.2))) = Dc at h0
  have hHas : ∀ n : Str, dHas (.str n) Dc = some (.bool (wayOf ls n).isSome) := fun n => by
    rw [← hD]
    unfold dHas
    rw [dictOf_dkv]
    dsimp only [Sm.keyOf]
    rw [look_dkv, find_int, Option.isSome_map]
  have hGet : ∀ (n : Str) (w : Int), wayOf ls n = some w → dGet Dc (.str n) = some (.int w) := fun n w h => by
    rw [← hD]
    unfold dGet
    rw [dictOf_dkv]
    dsimp only [Sm.keyOf]
    rw [look_dkv, find_int, h]
    rfl
  have hcc := compL_enc encF (vs := [6, 8, 9]) (γ := gTp 3 (gCs (gN 6) (gCs (gN 8) (gCs (gN 9) gNl)))) (τ := fTest (fOp dHas (fVar 6) (fVar 4))) (ε := fOp dMul (fOp dMul (fOp dGet (fVar 4) (fVar 6)) (fVar 8)) (fVar 9)) (δ := [.dat (.int c), .dat (folkD fs), .dat (frD q), .dat (onceD ls), .dat Dc, .un, .un, .un, .un, .un])
    (fun p => [.dat (.int c), .dat (folkD fs), .dat (frD q), .dat (onceD ls), .dat Dc, .un, .dat (.str p.1), .un, .dat (.int p.2.1), .dat (.int p.2.2)]) (fun p => (wayOf ls p.1).isSome) (fun p => .int (val ls p)) fs fun p hp => ⟨rfl, by simp only [e_sOwnD, e_fNewD, e_fDictD, e_sDPutO, e_fDGetO, e_fDGet2, e_sFrzD, e_sPar3, e_fVar, e_fC, e_fOp, e_fUn, e_fNil, e_fCons, e_fTup, e_fLst, e_fOfL, e_fTest, e_fAnd, e_fOr, e_fNot, e_fBool, e_fIf, e_fChain, e_fVarB, e_fUnL, e_fNoPart, e_fPart, e_fSl, e_gN, e_gNl, e_gCs, e_gTp, e_fZip, e_fYes, e_sNx, e_sSeq, e_sAsg, e_sOwn, e_sApp, e_sExt, e_sIns, e_sSetIx, e_fIxO, e_fSlO, e_sRet, e_sRetL, e_sRetO, e_sFrz, e_sDrop, e_sIf, e_sPar, e_fCall, e_fCallL, e_fCallB, e_sParO, e_fOpO, e_fItems, e_fRange, e_fMin, e_orF, fI0, fI, fS0, dNeg, dAbs, dLen, dSum, dTuple, ix_t0, ix_t1, ix_t2, ix_l0, ix_l1, ownAt, setOwn, EV.cont, EV.with, seqOf, itemsOf, List.map_cons, List.map_nil, List.cons_append, List.nil_append, List.replicate_succ, List.replicate_zero, List.getElem?_cons_zero, List.getElem?_cons_succ, List.getElem?_nil, List.set_cons_zero, List.set_cons_succ, List.length_cons, List.length_nil, hHas], fun ht => by
      obtain ⟨w, hw⟩ := Option.isSome_iff_exists.mp ht
      have hb := hf.hv p hp
      have hww := hl.wy _ (wayOf_mem hw)
      dsimp only at hww
      have m1 : cMulB w p.2.1 = true := mulB (pow20 (by omega) 8000 (by omega)) (pow20 (by omega) 8000 (by omega))
      have m2 : cMulB (w * p.2.1) p.2.2 = true := mulB (pow20 (by rcases hww with e | e <;> (rw [e]; omega)) 8000 (by omega)) (pow20 (by omega) 8000 (by omega))
      simp only [e_sOwnD, e_fNewD, e_fDictD, e_sDPutO, e_fDGetO, e_fDGet2, e_sFrzD, e_sPar3, e_fVar, e_fC, e_fOp, e_fUn, e_fNil, e_fCons, e_fTup, e_fLst, e_fOfL, e_fTest, e_fAnd, e_fOr, e_fNot, e_fBool, e_fIf, e_fChain, e_fVarB, e_fUnL, e_fNoPart, e_fPart, e_fSl, e_gN, e_gNl, e_gCs, e_gTp, e_fZip, e_fYes, e_sNx, e_sSeq, e_sAsg, e_sOwn, e_sApp, e_sExt, e_sIns, e_sSetIx, e_fIxO, e_fSlO, e_sRet, e_sRetL, e_sRetO, e_sFrz, e_sDrop, e_sIf, e_sPar, e_fCall, e_fCallL, e_fCallB, e_sParO, e_fOpO, e_fItems, e_fRange, e_fMin, e_orF, fI0, fI, fS0, dNeg, dAbs, dLen, dSum, dTuple, ix_t0, ix_t1, ix_t2, ix_l0, ix_l1, ownAt, setOwn, EV.cont, EV.with, seqOf, itemsOf, List.map_cons, List.map_nil, List.cons_append, List.nil_append, List.replicate_succ, List.replicate_zero, List.getElem?_cons_zero, List.getElem?_cons_succ, List.getElem?_nil, List.set_cons_zero, List.set_cons_succ, List.length_cons, List.length_nil, hGet _ _ hw, m1, m2, if_true]
      unfold val
      rw [hw]
      rfl, rfl⟩
  have h1 := fLc_of (φ := fItems (fVar 1)) (δ := [.dat (.int c), .dat (folkD fs), .dat (frD q), .dat (onceD ls), .dat Dc, .un, .un, .un, .un, .un]) rfl (by rw [List.length_map]; have := hf.len; omega) hcc
  have h2 : intsOf ((fs.filter fun p => (wayOf ls p.1).isSome).map fun p => PyData.int (val ls p)) = some ((fs.filter fun p => (wayOf ls p.1).isSome).map (val ls)) := by
    rw [show ((fs.filter fun p => (wayOf ls p.1).isSome).map fun p => PyData.int (val ls p)) = ((fs.filter fun p => (wayOf ls p.1).isSome).map (val ls)).map PyData.int by rw [List.map_map]; rfl, intsOf_map]
  have hw := wgt_le c hc fs hf.hv
  have hlen := hf.len
  have w0 := wgt_le c hc fs hf.hv
  have hpu := push_le hl.wy fs hf.hv
  have h4 := fn_plus_pair (a := q.num) (b := q.den) (c := -push fs ls) (d := (wgt c fs).toNat) q.den_pos (by omega) (bd_le hq (show 2900 ≤ 3000 by omega)).1 (bd_le hq (show 2900 ≤ 3000 by omega)).2 (pow20 (by omega) 3000 (by omega)) (pow20 (by omega) 3000 (by omega))
  rw [Rat.mkRat_self, show (((wgt c fs).toNat : Nat) : Int) = wgt c fs by omega] at h4
  have h5 : fn_plus [frD q, .tuple [.int (-push fs ls), .int (wgt c fs)]] = some (frD (dr c fs q ls)) := h4
  unfold fn_driven b_driven
  simp only [runD, e_sOwnD, e_fNewD, e_fDictD, e_sDPutO, e_fDGetO, e_fDGet2, e_sFrzD, e_sPar3, e_fVar, e_fC, e_fOp, e_fUn, e_fNil, e_fCons, e_fTup, e_fLst, e_fOfL, e_fTest, e_fAnd, e_fOr, e_fNot, e_fBool, e_fIf, e_fChain, e_fVarB, e_fUnL, e_fNoPart, e_fPart, e_fSl, e_gN, e_gNl, e_gCs, e_gTp, e_fZip, e_fYes, e_sNx, e_sSeq, e_sAsg, e_sOwn, e_sApp, e_sExt, e_sIns, e_sSetIx, e_fIxO, e_fSlO, e_sRet, e_sRetL, e_sRetO, e_sFrz, e_sDrop, e_sIf, e_sPar, e_fCall, e_fCallL, e_fCallB, e_sParO, e_fOpO, e_fItems, e_fRange, e_fMin, e_orF, fI0, fI, fS0, dNeg, dAbs, dLen, dSum, dTuple, ix_t0, ix_t1, ix_t2, ix_l0, ix_l1, ownAt, setOwn, EV.cont, EV.with, seqOf, itemsOf, List.map_cons, List.map_nil, List.cons_append, List.nil_append, List.replicate_succ, List.replicate_zero, List.getElem?_cons_zero, List.getElem?_cons_succ, List.getElem?_nil, List.set_cons_zero, List.set_cons_succ, List.length_cons, List.length_nil, h0, h1, h2, Option.map, push_filter, weigh_eq c fs hf.len]
  rw [if_pos (by decide)]
  simp only [e_sOwnD, e_fNewD, e_fDictD, e_sDPutO, e_fDGetO, e_fDGet2, e_sFrzD, e_sPar3, e_fVar, e_fC, e_fOp, e_fUn, e_fNil, e_fCons, e_fTup, e_fLst, e_fOfL, e_fTest, e_fAnd, e_fOr, e_fNot, e_fBool, e_fIf, e_fChain, e_fVarB, e_fUnL, e_fNoPart, e_fPart, e_fSl, e_gN, e_gNl, e_gCs, e_gTp, e_fZip, e_fYes, e_sNx, e_sSeq, e_sAsg, e_sOwn, e_sApp, e_sExt, e_sIns, e_sSetIx, e_fIxO, e_fSlO, e_sRet, e_sRetL, e_sRetO, e_sFrz, e_sDrop, e_sIf, e_sPar, e_fCall, e_fCallL, e_fCallB, e_sParO, e_fOpO, e_fItems, e_fRange, e_fMin, e_orF, fI0, fI, fS0, dNeg, dAbs, dLen, dSum, dTuple, ix_t0, ix_t1, ix_t2, ix_l0, ix_l1, ownAt, setOwn, EV.cont, EV.with, seqOf, itemsOf, List.map_cons, List.map_nil, List.cons_append, List.nil_append, List.replicate_succ, List.replicate_zero, List.getElem?_cons_zero, List.getElem?_cons_succ, List.getElem?_nil, List.set_cons_zero, List.set_cons_succ, List.length_cons, List.length_nil, h5]
end
end Lc
set_option exponentiation.threshold 10000
namespace Lc
open PySem L2 Evl RZ Sm
/-! ### the law's own way of one tuple of leaps -/
def entry (fs : List Fk) (n : Str) : Option Fk := fs.find? fun p => decide (p.1 = n)
def tm (fs : List Fk) (p : Lp) : Int := match entry fs p.1 with
  | some e => e.2.1 * e.2.2 * p.2
  | none => 0
theorem entry_some {fs : List Fk} {n : Str} (h : n ∈ fs.map (·.1)) : ∃ e, entry fs n = some e ∧ e ∈ fs ∧ e.1 = n := by
  obtain ⟨p, hp, e⟩ := List.mem_map.mp h
  unfold entry
  cases hf : fs.find? fun p => decide (p.1 = n) with
  | none =>
    have := List.find?_eq_none.mp hf p hp
    simp [e] at this
  | some x =>
    have h2 := List.find?_some hf
    exact ⟨x, rfl, List.mem_of_find?_eq_some hf, of_decide_eq_true h2⟩
theorem single_sum (n : Str) (w : Int) : ∀ (fs : List Fk) (e : Fk), (fs.map (·.1)).Nodup → entry fs n = some e → (fs.map fun p => if p.1 = n then w * p.2.1 * p.2.2 else 0).sum = w * e.2.1 * e.2.2
  | [], _, _, h => by cases h
  | p :: fs, e, hn, h => by
    rw [List.map_cons, List.nodup_cons] at hn
    rw [List.map_cons, List.sum_cons]
    unfold entry at h
    by_cases hp : p.1 = n
    · rw [List.find?_cons_of_pos (by simpa using hp)] at h
      cases h
      rw [if_pos hp]
      have : (fs.map fun q => if q.1 = n then w * q.2.1 * q.2.2 else 0) = fs.map fun _ => 0 := List.map_congr_left fun q hq => by
        rw [if_neg (fun z => hn.1 (by rw [hp, ← z]; exact List.mem_map.mpr ⟨q, hq, rfl⟩))]
      rw [this]
      have z : ∀ l : List Fk, (l.map fun _ => (0 : Int)).sum = 0 := fun l => by
        induction l with
        | nil => rfl
        | cons a l ih => rw [List.map_cons, List.sum_cons, ih]; rfl
      rw [z]
      omega
    · rw [List.find?_cons_of_neg (by simpa using hp)] at h
      rw [if_neg hp, single_sum n w fs e hn.2 h]
      omega
theorem sum_add {α : Type} (f g : α → Int) : ∀ l : List α, (l.map fun x => f x + g x).sum = (l.map f).sum + (l.map g).sum
  | [] => rfl
  | x :: l => by
    rw [List.map_cons, List.map_cons, List.map_cons, List.sum_cons, List.sum_cons, List.sum_cons, sum_add f g l]
    omega
theorem push_swap {fs : List Fk} (hf : (fs.map (·.1)).Nodup) : ∀ (ls : List Lp), (ls.map (·.1)).Nodup → (∀ p, p ∈ ls → p.1 ∈ fs.map (·.1)) → push fs ls = (ls.map (tm fs)).sum
  | [], _, _ => by
    unfold push
    have : fs.map (val []) = fs.map fun _ => 0 := List.map_congr_left fun p _ => by
      unfold val wayOf
      simp
    rw [this]
    have z : ∀ l : List Fk, (l.map fun _ => (0 : Int)).sum = 0 := fun l => by
      induction l with
      | nil => rfl
      | cons a l ih => rw [List.map_cons, List.sum_cons, ih]; rfl
    exact z fs
  | (n, w) :: ls, hn, hm => by
    rw [List.map_cons, List.nodup_cons] at hn
    have ih := push_swap hf ls hn.2 fun p hp => hm p (List.mem_cons_of_mem _ hp)
    obtain ⟨e, he, _, _⟩ := entry_some (hm (n, w) List.mem_cons_self)
    rw [List.map_cons, List.sum_cons, ← ih]
    have hv : ∀ p : Fk, val ((n, w) :: ls) p = val ls p + (if p.1 = n then w * p.2.1 * p.2.2 else 0) := fun p => by
      unfold val wayOf
      by_cases hp : p.1 = n
      · rw [List.find?_cons_of_pos (by simpa using hp.symm), if_pos hp]
        have : (ls.find? fun q => decide (q.1 = p.1)) = none := List.find?_eq_none.mpr fun q hq z => hn.1 (by
          have z' := of_decide_eq_true z
          show n ∈ ls.map (·.1)
          rw [← hp, ← z']
          exact List.mem_map.mpr ⟨q, hq, rfl⟩)
        rw [this]
        simp
      · rw [List.find?_cons_of_neg (by simpa using fun z => hp z.symm), if_neg hp]
        omega
    unfold push
    rw [List.map_congr_left (fun p _ => hv p), sum_add, single_sum n w fs e hf he]
    unfold tm
    rw [he]
    dsimp only
    rw [Int.mul_assoc w, Int.mul_comm w]
    omega
theorem tm_le {fs : List Fk} (hf : OkF fs) {p : Lp} (hw : p.2 = 1 ∨ p.2 = -1) (hn : p.1 ∈ fs.map (·.1)) : (tm fs p).natAbs ≤ 20000 := by
  obtain ⟨e, he, hm, _⟩ := entry_some hn
  have hp := hf.hv e hm
  have h1 : e.2.1 * e.2.2 ≤ 200 * 100 := Int.mul_le_mul hp.2.1 hp.2.2.2 (by omega) (by omega)
  have h2 : 0 ≤ e.2.1 * e.2.2 := Int.mul_nonneg (by omega) (by omega)
  unfold tm
  rw [he]
  dsimp only
  rcases hw with z | z <;> (rw [z]; omega)
/-- a dict of the folk by their names -/
theorem dict_folk (fs : List Fk) (f : Fk → PyData) (hn : (fs.map (·.1)).Nodup) : dDict (.list (fs.map fun p => .tuple [.str p.1, f p])) = some (.dict (dkv (fs.map fun p => (p.1, f p)))) := by
  have h1 : ∀ fs : List Fk, pairsD (fs.map fun p => .tuple [.str p.1, f p]) = some (fs.map fun p => (Sum.inr p.1, f p)) := fun fs => by
    induction fs with
    | nil => rfl
    | cons p fs ih =>
      rw [List.map_cons]
      unfold pairsD
      rw [ih]
      rfl
  unfold dDict
  dsimp only
  rw [h1]
  dsimp only
  congr 2
  unfold mergeD
  rw [List.foldl_map]
  exact (put_all (fun p : Fk => p.1) f fs [] (by simpa using hn)).trans (by rw [List.nil_append])
theorem get_folk (fs : List Fk) (f : Fk → PyData) {n : Str} {e : Fk} (h : entry fs n = some e) : dGet (.dict (dkv (fs.map fun p => (p.1, f p)))) (.str n) = some (f e) := by
  unfold dGet
  rw [dictOf_dkv]
  dsimp only [Sm.keyOf]
  rw [look_dkv]
  have : ∀ fs : List Fk, ((fs.map fun p => (p.1, f p)).find? fun p => decide (p.1 = n)).map (·.2) = (entry fs n).map f := fun fs => by
    unfold entry
    induction fs with
    | nil => rfl
    | cons p fs ih =>
      rw [List.map_cons]
      by_cases h : p.1 = n
      · rw [List.find?_cons_of_pos (by simpa using h), List.find?_cons_of_pos (by simpa using h)]
        rfl
      · rw [List.find?_cons_of_neg (by simpa using h), List.find?_cons_of_neg (by simpa using h)]
        exact ih
  rw [this, h]
  rfl
theorem sum_rat : ∀ (xs : List Int) (s : Rat), xs.foldl (fun s x => s + ((0 - x : Int) : Rat)) s = s + ((-xs.sum : Int) : Rat)
  | [], s => by
    rw [List.foldl_nil, List.sum_nil]
    exact (Rat.add_zero s).symm
  | x :: xs, s => by
    rw [List.foldl_cons, sum_rat xs, List.sum_cons, Rat.add_assoc, ← Rat.intCast_add]
    congr 2
    omega
theorem mk_inv {w : Int} (hw : 0 < w) : (w : Rat) * mkRat 1 w.toNat = 1 := by
  rw [Rat.mul_def', Rat.num_intCast]
  have hn := mk_num 1 w.toNat (by omega)
  have e : ((w.toNat : Nat) : Int) = w := by omega
  have g1 : Int.gcd 1 (w.toNat : Int) = 1 := by simp
  rw [g1] at hn
  have h1 : (mkRat 1 w.toNat).num = 1 := by rw [hn.1]; rfl
  have h2 : (mkRat 1 w.toNat).den = w.toNat := by
    have := hn.2
    omega
  rw [h1, h2]
  show mkRat (w * 1) (1 * w.toNat) = 1
  rw [Int.mul_one, Nat.one_mul]
  have : mkRat ((w.toNat : Int) * 1) (w.toNat * 1) = mkRat 1 1 := Rat.mkRat_mul_left (by omega)
  rw [Int.mul_one, Nat.mul_one, e] at this
  rw [this]
  rfl
theorem mk_split (t : Int) {w : Int} (hw : 0 < w) : mkRat t w.toNat = (t : Rat) * mkRat 1 w.toNat := by
  have : (t : Rat) = mkRat t 1 := (Rat.mkRat_self (t : Rat)).symm
  rw [this, Rat.mkRat_mul_mkRat, Int.mul_one, Nat.one_mul]
section
variable {c : Int} {fs : List Fk} {ls : List Lp} {q : Rat}
theorem behind_alg (hc : 1 ≤ c ∧ c ≤ 1000) (hf : OkF fs) (hl : OkL fs ls) : mkRat ((q * (wgt c fs : Int)) + ((-(ls.map (tm fs)).sum : Int) : Rat)).num (((q * (wgt c fs : Int)) + ((-(ls.map (tm fs)).sum : Int) : Rat)).den * (wgt c fs).toNat) = dr c fs q ls := by
  have hw := (wgt_le c hc fs hf.hv).1
  have h0 : 0 < wgt c fs := by omega
  generalize hS : (q * (wgt c fs : Int)) + ((-(ls.map (tm fs)).sum : Int) : Rat) = S
  have e1 : mkRat S.num (S.den * (wgt c fs).toNat) = S * mkRat 1 (wgt c fs).toNat := by
    conv => rhs; rw [← Rat.mkRat_self S]
    rw [Rat.mkRat_mul_mkRat, Int.mul_one]
  unfold dr
  rw [e1, mk_split (-push fs ls) h0, ← hS, Rat.add_mul, Rat.mul_assoc, mk_inv h0, Rat.mul_one, push_swap hf.nd ls hl.nd hl.nm]
theorem behind_eq (hc : 1 ≤ c ∧ c ≤ 1000) (hf : OkF fs) (hl : OkL fs ls) (hq : Bd 2000 q) : fn__law_behind [.int c, folkD fs, frD q, onceD ls] = some (frD (dr c fs q ls)) := by
  have hw := wgt_le c hc fs hf.hv
  have hlen := hf.len
  have hll := hl.len
  have hk := compL_enc encF (vs := [8]) (γ := gN 8) (τ := fYes) (ε := fTup (fCons (fOp dIx (fVar 8) (fC (.int 0))) (fCons (fVar 8) fNil))) (δ := [.dat (.int c), .dat (folkD fs), .dat (frD q), .dat (onceD ls), .un, .un, .un, .un, .un])
    (fun p => [.dat (.int c), .dat (folkD fs), .dat (frD q), .dat (onceD ls), .un, .un, .un, .un, .dat (encF p)]) (fun _ => true) (fun p => .tuple [.str p.1, encF p]) fs fun p _ => ⟨rfl, rfl, fun _ => by
      have : dIx (encF p) (.int 0) = some (.str p.1) := ix_t0
      simp only [e_sOwnD, e_fNewD, e_fDictD, e_sDPutO, e_fDGetO, e_fDGet2, e_sFrzD, e_sPar3, e_fVar, e_fC, e_fOp, e_fUn, e_fNil, e_fCons, e_fTup, e_fLst, e_fOfL, e_fTest, e_fAnd, e_fOr, e_fNot, e_fBool, e_fIf, e_fChain, e_fVarB, e_fUnL, e_fNoPart, e_fPart, e_fSl, e_gN, e_gNl, e_gCs, e_gTp, e_fZip, e_fYes, e_sNx, e_sSeq, e_sAsg, e_sOwn, e_sApp, e_sExt, e_sIns, e_sSetIx, e_fIxO, e_fSlO, e_sRet, e_sRetL, e_sRetO, e_sFrz, e_sDrop, e_sIf, e_sPar, e_fCall, e_fCallL, e_fCallB, e_sParO, e_fOpO, e_fItems, e_fRange, e_fMin, e_orF, fI0, fI, fS0, dNeg, dAbs, dLen, dSum, dTuple, ix_t0, ix_t1, ix_t2, ix_l0, ix_l1, ownAt, setOwn, EV.cont, EV.with, seqOf, itemsOf, List.map_cons, List.map_nil, List.cons_append, List.nil_append, List.replicate_succ, List.replicate_zero, List.getElem?_cons_zero, List.getElem?_cons_succ, List.getElem?_nil, List.set_cons_zero, List.set_cons_succ, List.length_cons, List.length_nil, this]
      rw [if_pos (by decide)], rfl⟩
  rw [filter_true] at hk
  have h1 := fLc_of (φ := fItems (fVar 1)) (δ := [.dat (.int c), .dat (folkD fs), .dat (frD q), .dat (onceD ls), .un, .un, .un, .un, .un]) rfl (by rw [List.length_map]; omega) hk
  have h2 := dict_folk fs encF hf.nd
  have hgF : ∀ {n : Str} {e : Fk}, entry fs n = some e → dGet (.dict (dkv (fs.map fun p => (p.1, encF p)))) (.str n) = some (encF e) := fun h => get_folk fs encF h
  generalize hD : PyData.dict (dkv (fs.map fun p => (p.1, encF p))) = Dc at h2 hgF
  have hwb : Bd 12 ((wgt c fs : Int) : Rat) := bd_int (by have : (2 : Nat) ^ 12 = 4096 := by decide
                                                          omega) (by omega)
  have hqW : Bd 2012 (q * (wgt c fs : Int)) := bd_mul hq hwb
  have h3 := ltimes_eq (q := q) (i := wgt c fs) (bd_le hq (by omega)) (pow20 (by omega) 3000 (by omega))
  obtain ⟨δ', hloop, hR1, x6, x7, hR2⟩ := loop_idx encL (γ := gTp 2 (gCs (gN 6) (gCs (gN 7) gNl)))
    (b := sAsg (fCall fn__law_plus (fCons (fVar 5) (fCons (fTup (fCons (fOp dSub (fC (.int 0)) (fOp dMul (fOp dMul (fOp dIx (fOp dGet (fVar 4) (fVar 6)) (fC (.int 1))) (fOp dIx (fOp dGet (fVar 4) (fVar 6)) (fC (.int 2)))) (fVar 7))) (fCons (fC (.int 1)) fNil))) fNil))) (gN 5))
    (fun (i : Nat) (s : Rat) (δ : En) => Bd (2012 + 21 * i) s ∧ ∃ x6 x7, δ = [.dat (.int c), .dat (folkD fs), .dat (frD q), .dat (onceD ls), .dat Dc, .dat (frD s), x6, x7, .un]) (fun s p => s + ((0 - tm fs p : Int) : Rat)) ls 0 (q * (wgt c fs : Int)) [.dat (.int c), .dat (folkD fs), .dat (frD q), .dat (onceD ls), .dat Dc, .dat (frD (q * (wgt c fs : Int))), .un, .un, .un]
    (fun i s p δ hp ⟨hb, x6, x7, hδ⟩ => by
      subst hδ
      have hi : i < ls.length := (List.getElem?_eq_some_iff.mp hp).1
      have hpm : p ∈ ls := List.mem_of_getElem? hp
      obtain ⟨e, he, hem, hen⟩ := entry_some (hl.nm p hpm)
      have hev := hf.hv e hem
      have hpw := hl.wy p hpm
      have ht := tm_le hf hpw (hl.nm p hpm)
      have hbi : Bd 20 ((0 - tm fs p : Int) : Rat) := bd_int (pow20 (by omega) 20 (by omega)) (by omega)
      have hadd := bd_add hb hbi
      have m1 : cMulB e.2.1 e.2.2 = true := mulB (pow20 (by omega) 8000 (by omega)) (pow20 (by omega) 8000 (by omega))
      have h9 : (e.2.1 * e.2.2).natAbs ≤ 20000 := by
        have h1 : e.2.1 * e.2.2 ≤ 200 * 100 := Int.mul_le_mul hev.2.1 hev.2.2.2 (by omega) (by omega)
        have h2 : 0 ≤ e.2.1 * e.2.2 := Int.mul_nonneg (by omega) (by omega)
        omega
      have m2 : cMulB (e.2.1 * e.2.2) p.2 = true := mulB (pow20 (by omega) 8000 (by omega)) (pow20 (by omega) 8000 (by omega))
      have et : tm fs p = e.2.1 * e.2.2 * p.2 := by
        unfold tm
        rw [he]
      have hpl := lplus_eq (bd_le hb (by omega)) (bd_le hbi (show 20 ≤ 3000 by omega))
      have hfi : frD ((0 - tm fs p : Int) : Rat) = .tuple [.int (0 - e.2.1 * e.2.2 * p.2), .int 1] := by
        rw [et]
        rfl
      rw [hfi] at hpl
      have i1 : dIx (encF e) (.int 1) = some (.int e.2.1) := ix_t1
      have i2 : dIx (encF e) (.int 2) = some (.int e.2.2) := ix_t2
      refine ⟨[.dat (.int c), .dat (folkD fs), .dat (frD q), .dat (onceD ls), .dat Dc, .dat (frD s), .dat (.str p.1), .dat (.int p.2), .un], [.dat (.int c), .dat (folkD fs), .dat (frD q), .dat (onceD ls), .dat Dc, .dat (frD (s + ((0 - tm fs p : Int) : Rat))), .dat (.str p.1), .dat (.int p.2), .un], rfl, ?_, ?_, _, _, rfl⟩
      · simp only [e_sOwnD, e_fNewD, e_fDictD, e_sDPutO, e_fDGetO, e_fDGet2, e_sFrzD, e_sPar3, e_fVar, e_fC, e_fOp, e_fUn, e_fNil, e_fCons, e_fTup, e_fLst, e_fOfL, e_fTest, e_fAnd, e_fOr, e_fNot, e_fBool, e_fIf, e_fChain, e_fVarB, e_fUnL, e_fNoPart, e_fPart, e_fSl, e_gN, e_gNl, e_gCs, e_gTp, e_fZip, e_fYes, e_sNx, e_sSeq, e_sAsg, e_sOwn, e_sApp, e_sExt, e_sIns, e_sSetIx, e_fIxO, e_fSlO, e_sRet, e_sRetL, e_sRetO, e_sFrz, e_sDrop, e_sIf, e_sPar, e_fCall, e_fCallL, e_fCallB, e_sParO, e_fOpO, e_fItems, e_fRange, e_fMin, e_orF, fI0, fI, fS0, dNeg, dAbs, dLen, dSum, dTuple, ix_t0, ix_t1, ix_t2, ix_l0, ix_l1, ownAt, setOwn, EV.cont, EV.with, seqOf, itemsOf, List.map_cons, List.map_nil, List.cons_append, List.nil_append, List.replicate_succ, List.replicate_zero, List.getElem?_cons_zero, List.getElem?_cons_succ, List.getElem?_nil, List.set_cons_zero, List.set_cons_succ, List.length_cons, List.length_nil, hgF he, i1, i2, m1, m2, if_true]
        rw [if_pos (by decide)]
        simp only [e_sOwnD, e_fNewD, e_fDictD, e_sDPutO, e_fDGetO, e_fDGet2, e_sFrzD, e_sPar3, e_fVar, e_fC, e_fOp, e_fUn, e_fNil, e_fCons, e_fTup, e_fLst, e_fOfL, e_fTest, e_fAnd, e_fOr, e_fNot, e_fBool, e_fIf, e_fChain, e_fVarB, e_fUnL, e_fNoPart, e_fPart, e_fSl, e_gN, e_gNl, e_gCs, e_gTp, e_fZip, e_fYes, e_sNx, e_sSeq, e_sAsg, e_sOwn, e_sApp, e_sExt, e_sIns, e_sSetIx, e_fIxO, e_fSlO, e_sRet, e_sRetL, e_sRetO, e_sFrz, e_sDrop, e_sIf, e_sPar, e_fCall, e_fCallL, e_fCallB, e_sParO, e_fOpO, e_fItems, e_fRange, e_fMin, e_orF, fI0, fI, fS0, dNeg, dAbs, dLen, dSum, dTuple, ix_t0, ix_t1, ix_t2, ix_l0, ix_l1, ownAt, setOwn, EV.cont, EV.with, seqOf, itemsOf, List.map_cons, List.map_nil, List.cons_append, List.nil_append, List.replicate_succ, List.replicate_zero, List.getElem?_cons_zero, List.getElem?_cons_succ, List.getElem?_nil, List.set_cons_zero, List.set_cons_succ, List.length_cons, List.length_nil, hpl]
      · rw [show 2012 + 21 * (0 + i + 1) = 2012 + 21 * (0 + i) + 20 + 1 by omega]
        exact hadd) ⟨hqW, _, _, rfl⟩
  have hfold : ls.foldl (fun s p => s + ((0 - tm fs p : Int) : Rat)) (q * (wgt c fs : Int)) = (q * (wgt c fs : Int)) + ((-(ls.map (tm fs)).sum : Int) : Rat) := by
    rw [← sum_rat, List.foldl_map]
  rw [hfold] at hR1 hR2
  have halg := behind_alg (q := q) hc hf hl
  generalize hS : (q * (wgt c fs : Int)) + ((-(ls.map (tm fs)).sum : Int) : Rat) = S at hR1 hR2 halg
  have hSb : Bd 2500 S := bd_le hR1 (by omega)
  have d0 := S.den_pos
  have m4 : cMulB (S.den : Int) (wgt c fs) = true := mulB (Nat.lt_of_lt_of_le hSb.2 (Nat.pow_le_pow_right (by decide) (by omega))) (pow20 (by omega) 8000 (by omega))
  have e5 : (S.den : Int) * wgt c fs = ((S.den * (wgt c fs).toNat : Nat) : Int) := by
    rw [Int.natCast_mul]
    congr 1
    omega
  have hpos : 0 < S.den * (wgt c fs).toNat := Nat.mul_pos d0 (by omega)
  have h6 := low_eq S.num ((S.den : Int) * wgt c fs) (by rw [e5]; omega) (by
    rw [e5]
    show S.den * (wgt c fs).toNat < _
    have := mul_lt2 hSb.2 (pow20 (x := (wgt c fs).toNat) (by omega) 20 (by omega))
    exact Nat.lt_of_lt_of_le this (Nat.pow_le_pow_right (by decide) (by omega)))
  have e7 : ((S.den : Int) * wgt c fs).toNat = S.den * (wgt c fs).toNat := by
    rw [e5]
    rfl
  rw [e7, halg] at h6
  have h8 := sFor_of (φ := fItems (fVar 3)) (δ := [.dat (.int c), .dat (folkD fs), .dat (frD q), .dat (onceD ls), .dat Dc, .dat (frD (q * (wgt c fs : Int))), .un, .un, .un]) rfl hloop
  have i3 : dIx (frD S) (.int 0) = some (.int S.num) := ix_t0
  have i4 : dIx (frD S) (.int 1) = some (.int S.den) := ix_t1
  unfold fn__law_behind b__law_behind
  simp only [runD, e_sOwnD, e_fNewD, e_fDictD, e_sDPutO, e_fDGetO, e_fDGet2, e_sFrzD, e_sPar3, e_fVar, e_fC, e_fOp, e_fUn, e_fNil, e_fCons, e_fTup, e_fLst, e_fOfL, e_fTest, e_fAnd, e_fOr, e_fNot, e_fBool, e_fIf, e_fChain, e_fVarB, e_fUnL, e_fNoPart, e_fPart, e_fSl, e_gN, e_gNl, e_gCs, e_gTp, e_fZip, e_fYes, e_sNx, e_sSeq, e_sAsg, e_sOwn, e_sApp, e_sExt, e_sIns, e_sSetIx, e_fIxO, e_fSlO, e_sRet, e_sRetL, e_sRetO, e_sFrz, e_sDrop, e_sIf, e_sPar, e_fCall, e_fCallL, e_fCallB, e_sParO, e_fOpO, e_fItems, e_fRange, e_fMin, e_orF, fI0, fI, fS0, dNeg, dAbs, dLen, dSum, dTuple, ix_t0, ix_t1, ix_t2, ix_l0, ix_l1, ownAt, setOwn, EV.cont, EV.with, seqOf, itemsOf, List.map_cons, List.map_nil, List.cons_append, List.nil_append, List.replicate_succ, List.replicate_zero, List.getElem?_cons_zero, List.getElem?_cons_succ, List.getElem?_nil, List.set_cons_zero, List.set_cons_succ, List.length_cons, List.length_nil, h1, h2, lweight_eq c fs hlen, h3, h8, hR2, i3, i4, m4, if_true, h6]
end
end Lc
set_option exponentiation.threshold 10000
namespace Lc
open PySem L2 Evl RZ Sm
/-! ### whole runs -/
def leapOf (fs : List Fk) (n : Str) : Int := match entry fs n with
  | some e => e.2.2
  | none => 0
/-- the speeds of those of a tuple -/
def own (fs : List Fk) (b : Rat) (ls : List Lp) : List (Str × Rat) := ls.map fun p => (p.1, b + ((p.2 * leapOf fs p.1 : Int) : Rat))
def encO (p : Str × Rat) : PyData := .tuple [.str p.1, frD p.2]
section
variable {c : Int} {fs : List Fk} {ls : List Lp} {q b : Rat}
theorem leap_le (hf : OkF fs) {p : Lp} (hw : p.2 = 1 ∨ p.2 = -1) (hn : p.1 ∈ fs.map (·.1)) : ∃ e, entry fs p.1 = some e ∧ leapOf fs p.1 = e.2.2 ∧ (p.2 * leapOf fs p.1).natAbs ≤ 100 ∧ 1 ≤ e.2.2 ∧ e.2.2 ≤ 100 := by
  obtain ⟨e, he, hm, _⟩ := entry_some hn
  have hv := hf.hv e hm
  have : leapOf fs p.1 = e.2.2 := by
    unfold leapOf
    rw [he]
  refine ⟨e, he, this, ?_, hv.2.2.1, hv.2.2.2⟩
  rw [this]
  rcases hw with z | z <;> (rw [z]; omega)
/-- how fast everybody leaps -/
def leapD (fs : List Fk) : PyData := .dict (dkv (fs.map fun p => (p.1, PyData.int p.2.2)))
theorem byname_eq (hf : OkF fs) : fn_leap_by_name [folkD fs] = some (leapD fs) := by
  have hlen := hf.len
  have hd := compD_enc encF (vs := [1, 2, 3]) (γ := gTp 3 (gCs (gN 1) (gCs (gN 2) (gCs (gN 3) gNl)))) (κ := fVar 1) (ε := fVar 3) (δ := [.dat (folkD fs), .un, .un, .un])
    (fun p => [.dat (folkD fs), .dat (.str p.1), .dat (.int p.2.1), .dat (.int p.2.2)]) (fun p => p.1) (fun p => .int p.2.2) fs [] fun p _ => ⟨rfl, rfl, rfl, rfl⟩
  rw [show ([] : List (PyData × PyData)) = dkv [] from rfl, put_all _ _ fs [] (by simpa using hf.nd), List.nil_append] at hd
  have h0 := fDc_of (φ := fItems (fVar 0)) (δ := [.dat (folkD fs), .un, .un, .un]) rfl (by rw [List.length_map]; omega) hd
  unfold fn_leap_by_name b_leap_by_name
  simp only [runD, e_sOwnD, e_fNewD, e_fDictD, e_sDPutO, e_fDGetO, e_fDGet2, e_sFrzD, e_sPar3, e_fVar, e_fC, e_fOp, e_fUn, e_fNil, e_fCons, e_fTup, e_fLst, e_fOfL, e_fTest, e_fAnd, e_fOr, e_fNot, e_fBool, e_fIf, e_fChain, e_fVarB, e_fUnL, e_fNoPart, e_fPart, e_fSl, e_gN, e_gNl, e_gCs, e_gTp, e_fZip, e_fYes, e_sNx, e_sSeq, e_sAsg, e_sOwn, e_sApp, e_sExt, e_sIns, e_sSetIx, e_fIxO, e_fSlO, e_sRet, e_sRetL, e_sRetO, e_sFrz, e_sDrop, e_sIf, e_sPar, e_fCall, e_fCallL, e_fCallB, e_sParO, e_fOpO, e_fItems, e_fRange, e_fMin, e_orF, fI0, fI, fS0, dNeg, dAbs, dLen, dSum, dTuple, ix_t0, ix_t1, ix_t2, ix_l0, ix_l1, ownAt, setOwn, EV.cont, EV.with, seqOf, itemsOf, List.map_cons, List.map_nil, List.cons_append, List.nil_append, List.replicate_succ, List.replicate_zero, List.getElem?_cons_zero, List.getElem?_cons_succ, List.getElem?_nil, List.set_cons_zero, List.set_cons_succ, List.length_cons, List.length_nil, h0]
  rfl
theorem leaper_eq (hf : OkF fs) (hl : OkL fs ls) (hb : Bd 2900 b) : fn_leaper_speeds [leapD fs, frD b, onceD ls] = some (.list ((own fs b ls).map encO)) := by
  have hlen := hf.len
  have hll := hl.len
  have hg : ∀ {n : Str} {e : Fk}, entry fs n = some e → dGet (leapD fs) (.str n) = some (.int e.2.2) := fun h => get_folk fs (fun p => PyData.int p.2.2) h
  generalize leapD fs = Dc at hg
  have hcc := compL_enc encL (vs := [3, 4]) (γ := gTp 2 (gCs (gN 3) (gCs (gN 4) gNl))) (τ := fYes) (ε := fTup (fCons (fVar 3) (fCons (fCall fn_plus_whole (fCons (fVar 1) (fCons (fOp dMul (fVar 4) (fOp dGet (fVar 0) (fVar 3))) fNil))) fNil))) (δ := [.dat Dc, .dat (frD b), .dat (onceD ls), .un, .un])
    (fun p => [.dat Dc, .dat (frD b), .dat (onceD ls), .dat (.str p.1), .dat (.int p.2)]) (fun _ => true) (fun p => encO (p.1, b + ((p.2 * leapOf fs p.1 : Int) : Rat))) ls fun p hp => ⟨rfl, rfl, fun _ => by
      obtain ⟨e, he, hle, hn, h1, h2⟩ := leap_le hf (hl.wy p hp) (hl.nm p hp)
      have hw := hl.wy p hp
      have m1 : cMulB p.2 e.2.2 = true := mulB (pow20 (by omega) 8000 (by omega)) (pow20 (by omega) 8000 (by omega))
      have hpl := plus_whole_eq (i := p.2 * leapOf fs p.1) (bd_le hb (show 2900 ≤ 3000 by omega)) (pow20 (by omega) 3000 (by omega))
      rw [show PyData.int (p.2 * leapOf fs p.1) = PyData.int (p.2 * e.2.2) by rw [hle]] at hpl
      simp only [e_sOwnD, e_fNewD, e_fDictD, e_sDPutO, e_fDGetO, e_fDGet2, e_sFrzD, e_sPar3, e_fVar, e_fC, e_fOp, e_fUn, e_fNil, e_fCons, e_fTup, e_fLst, e_fOfL, e_fTest, e_fAnd, e_fOr, e_fNot, e_fBool, e_fIf, e_fChain, e_fVarB, e_fUnL, e_fNoPart, e_fPart, e_fSl, e_gN, e_gNl, e_gCs, e_gTp, e_fZip, e_fYes, e_sNx, e_sSeq, e_sAsg, e_sOwn, e_sApp, e_sExt, e_sIns, e_sSetIx, e_fIxO, e_fSlO, e_sRet, e_sRetL, e_sRetO, e_sFrz, e_sDrop, e_sIf, e_sPar, e_fCall, e_fCallL, e_fCallB, e_sParO, e_fOpO, e_fItems, e_fRange, e_fMin, e_orF, fI0, fI, fS0, dNeg, dAbs, dLen, dSum, dTuple, ix_t0, ix_t1, ix_t2, ix_l0, ix_l1, ownAt, setOwn, EV.cont, EV.with, seqOf, itemsOf, List.map_cons, List.map_nil, List.cons_append, List.nil_append, List.replicate_succ, List.replicate_zero, List.getElem?_cons_zero, List.getElem?_cons_succ, List.getElem?_nil, List.set_cons_zero, List.set_cons_succ, List.length_cons, List.length_nil, hg he, m1, if_true, hpl]
      rw [if_pos (by decide)]
      rfl, rfl⟩
  rw [filter_true] at hcc
  have h1 := fLc_of (φ := fItems (fVar 2)) (δ := [.dat Dc, .dat (frD b), .dat (onceD ls), .un, .un]) rfl (by rw [List.length_map]; omega) hcc
  unfold fn_leaper_speeds b_leaper_speeds
  simp only [runD, e_sOwnD, e_fNewD, e_fDictD, e_sDPutO, e_fDGetO, e_fDGet2, e_sFrzD, e_sPar3, e_fVar, e_fC, e_fOp, e_fUn, e_fNil, e_fCons, e_fTup, e_fLst, e_fOfL, e_fTest, e_fAnd, e_fOr, e_fNot, e_fBool, e_fIf, e_fChain, e_fVarB, e_fUnL, e_fNoPart, e_fPart, e_fSl, e_gN, e_gNl, e_gCs, e_gTp, e_fZip, e_fYes, e_sNx, e_sSeq, e_sAsg, e_sOwn, e_sApp, e_sExt, e_sIns, e_sSetIx, e_fIxO, e_fSlO, e_sRet, e_sRetL, e_sRetO, e_sFrz, e_sDrop, e_sIf, e_sPar, e_fCall, e_fCallL, e_fCallB, e_sParO, e_fOpO, e_fItems, e_fRange, e_fMin, e_orF, fI0, fI, fS0, dNeg, dAbs, dLen, dSum, dTuple, ix_t0, ix_t1, ix_t2, ix_l0, ix_l1, ownAt, setOwn, EV.cont, EV.with, seqOf, itemsOf, List.map_cons, List.map_nil, List.cons_append, List.nil_append, List.replicate_succ, List.replicate_zero, List.getElem?_cons_zero, List.getElem?_cons_succ, List.getElem?_nil, List.set_cons_zero, List.set_cons_succ, List.length_cons, List.length_nil, h1]
  unfold own
  rw [List.map_map]
  rfl
end
def OkLs : List Fk → List (List Lp) → Prop
  | _, [] => True
  | fs, ls :: r => OkL fs ls ∧ OkLs (left fs (ls.map (·.1))) r
def go (c : Int) : List Fk → Rat → List (List Lp) → List Rat
  | _, _, [] => []
  | fs, q, ls :: r => dr c fs q ls :: go c (left fs (ls.map (·.1))) (dr c fs q ls) r
/-- the speeds of all who leapt, in the order of the leaps -/
def outs (c : Int) : List Fk → Rat → List (List Lp) → List (Str × Rat)
  | _, _, [] => []
  | fs, q, ls :: r => own fs (dr c fs q ls) ls ++ outs c (left fs (ls.map (·.1))) (dr c fs q ls) r
theorem go_cons (c : Int) (fs : List Fk) (q : Rat) (ls : List Lp) (r : List (List Lp)) : go c fs q (ls :: r) = dr c fs q ls :: go c (left fs (ls.map (·.1))) (dr c fs q ls) r := rfl
theorem outs_cons (c : Int) (fs : List Fk) (q : Rat) (ls : List Lp) (r : List (List Lp)) : outs c fs q (ls :: r) = own fs (dr c fs q ls) ls ++ outs c (left fs (ls.map (·.1))) (dr c fs q ls) r := rfl
theorem go_len (c : Int) : ∀ (lss : List (List Lp)) (fs : List Fk) (q : Rat), (go c fs q lss).length = lss.length
  | [], _, _ => rfl
  | _ :: r, fs, q => by
    unfold go
    rw [List.length_cons, List.length_cons, go_len c r]
theorem speeds_loop {c : Int} (hc : 1 ≤ c ∧ c ≤ 1000) (F0 Q0 L0 : PyData) : ∀ (lss : List (List Lp)) (fs : List Fk) (q : Rat) (n : Nat) (acc : List PyData) (x : EV), OkF fs → OkLs fs lss → Bd n q → n + 21 * lss.length ≤ 2000 → acc.length + lss.length ≤ 1000 →
    ∃ fs' q' x', loopF (gN 7) (sSeq (sAsg (fCall fn_driven (fCons (fVar 0) (fCons (fVar 4) (fCons (fVar 5) (fCons (fVar 7) fNil))))) (gN 5)) (sSeq (sAsg (fCall fn_still_on (fCons (fVar 4) (fCons (fVar 7) fNil))) (gN 4)) (sApp 6 (fVar 5)))) (lss.map onceD) [.dat (.int c), .dat F0, .dat Q0, .dat L0, .dat (folkD fs), .dat (frD q), .own acc, x] =
      some (.nx [.dat (.int c), .dat F0, .dat Q0, .dat L0, .dat (folkD fs'), .dat (frD q'), .own (acc ++ (go c fs q lss).map frD), x'])
  | [], fs, q, n, acc, x, _, _, _, _, _ => ⟨fs, q, x, by simp only [go, List.map_nil, List.append_nil, loopF]⟩
  | ls :: r, fs, q, n, acc, x, hf, hl, hq, hn, ha => by
    rw [List.length_cons] at hn ha
    have h1 := driven_eq hc hf hl.1 (bd_le hq (show n ≤ 2900 by omega))
    have h2 := still_eq fs ls hf.len hl.1.len
    obtain ⟨fs', q', x', ih⟩ := speeds_loop hc F0 Q0 L0 r (left fs (ls.map (·.1))) (dr c fs q ls) (n + 21) (acc ++ [frD (dr c fs q ls)]) (.dat (onceD ls)) (left_ok hf _) hl.2 (dr_bd hc hf hl.1.wy hq) (by omega) (by rw [List.length_append]; show acc.length + 1 + r.length ≤ 1000; omega)
    refine ⟨fs', q', x', ?_⟩
    rw [List.map_cons]
    unfold loopF
    have hz : acc.length < 50000 := by omega
    simp only [e_sOwnD, e_fNewD, e_fDictD, e_sDPutO, e_fDGetO, e_fDGet2, e_sFrzD, e_sPar3, e_fVar, e_fC, e_fOp, e_fUn, e_fNil, e_fCons, e_fTup, e_fLst, e_fOfL, e_fTest, e_fAnd, e_fOr, e_fNot, e_fBool, e_fIf, e_fChain, e_fVarB, e_fUnL, e_fNoPart, e_fPart, e_fSl, e_gN, e_gNl, e_gCs, e_gTp, e_fZip, e_fYes, e_sNx, e_sSeq, e_sAsg, e_sOwn, e_sApp, e_sExt, e_sIns, e_sSetIx, e_fIxO, e_fSlO, e_sRet, e_sRetL, e_sRetO, e_sFrz, e_sDrop, e_sIf, e_sPar, e_fCall, e_fCallL, e_fCallB, e_sParO, e_fOpO, e_fItems, e_fRange, e_fMin, e_orF, fI0, fI, fS0, dNeg, dAbs, dLen, dSum, dTuple, ix_t0, ix_t1, ix_t2, ix_l0, ix_l1, ownAt, setOwn, EV.cont, EV.with, seqOf, itemsOf, List.map_cons, List.map_nil, List.cons_append, List.nil_append, List.replicate_succ, List.replicate_zero, List.getElem?_cons_zero, List.getElem?_cons_succ, List.getElem?_nil, List.set_cons_zero, List.set_cons_succ, List.length_cons, List.length_nil, h1, h2, hz, if_true]
    rw [ih, go_cons, List.append_assoc, List.map_cons]
    rfl
theorem speeds_eq {c : Int} {fs : List Fk} {q : Rat} {lss : List (List Lp)} (hc : 1 ≤ c ∧ c ≤ 1000) (hf : OkF fs) (hl : OkLs fs lss) (hq : Bd 100 q) (hn : lss.length ≤ 7) : fn_speeds [.int c, folkD fs, frD q, .list (lss.map onceD)] = some ((go c fs q lss).map frD) := by
  obtain ⟨fs', q', x', h⟩ := speeds_loop hc (folkD fs) (frD q) (.list (lss.map onceD)) lss fs q 100 [] .un hf hl hq (by omega) (by rw [List.length_nil]; omega)
  have h8 := sFor_of (φ := fItems (fVar 3)) (δ := [.dat (.int c), .dat (folkD fs), .dat (frD q), .dat (.list (lss.map onceD)), .dat (folkD fs), .dat (frD q), .own [], .un]) rfl h
  unfold fn_speeds b_speeds
  simp only [runL, e_sOwnD, e_fNewD, e_fDictD, e_sDPutO, e_fDGetO, e_fDGet2, e_sFrzD, e_sPar3, e_fVar, e_fC, e_fOp, e_fUn, e_fNil, e_fCons, e_fTup, e_fLst, e_fOfL, e_fTest, e_fAnd, e_fOr, e_fNot, e_fBool, e_fIf, e_fChain, e_fVarB, e_fUnL, e_fNoPart, e_fPart, e_fSl, e_gN, e_gNl, e_gCs, e_gTp, e_fZip, e_fYes, e_sNx, e_sSeq, e_sAsg, e_sOwn, e_sApp, e_sExt, e_sIns, e_sSetIx, e_fIxO, e_fSlO, e_sRet, e_sRetL, e_sRetO, e_sFrz, e_sDrop, e_sIf, e_sPar, e_fCall, e_fCallL, e_fCallB, e_sParO, e_fOpO, e_fItems, e_fRange, e_fMin, e_orF, fI0, fI, fS0, dNeg, dAbs, dLen, dSum, dTuple, ix_t0, ix_t1, ix_t2, ix_l0, ix_l1, ownAt, setOwn, EV.cont, EV.with, seqOf, itemsOf, List.map_cons, List.map_nil, List.cons_append, List.nil_append, List.replicate_succ, List.replicate_zero, List.getElem?_cons_zero, List.getElem?_cons_succ, List.getElem?_nil, List.set_cons_zero, List.set_cons_succ, List.length_cons, List.length_nil]
  rw [if_pos (by decide)]
  simp only [e_sOwnD, e_fNewD, e_fDictD, e_sDPutO, e_fDGetO, e_fDGet2, e_sFrzD, e_sPar3, e_fVar, e_fC, e_fOp, e_fUn, e_fNil, e_fCons, e_fTup, e_fLst, e_fOfL, e_fTest, e_fAnd, e_fOr, e_fNot, e_fBool, e_fIf, e_fChain, e_fVarB, e_fUnL, e_fNoPart, e_fPart, e_fSl, e_gN, e_gNl, e_gCs, e_gTp, e_fZip, e_fYes, e_sNx, e_sSeq, e_sAsg, e_sOwn, e_sApp, e_sExt, e_sIns, e_sSetIx, e_fIxO, e_fSlO, e_sRet, e_sRetL, e_sRetO, e_sFrz, e_sDrop, e_sIf, e_sPar, e_fCall, e_fCallL, e_fCallB, e_sParO, e_fOpO, e_fItems, e_fRange, e_fMin, e_orF, fI0, fI, fS0, dNeg, dAbs, dLen, dSum, dTuple, ix_t0, ix_t1, ix_t2, ix_l0, ix_l1, ownAt, setOwn, EV.cont, EV.with, seqOf, itemsOf, List.map_cons, List.map_nil, List.cons_append, List.nil_append, List.replicate_succ, List.replicate_zero, List.getElem?_cons_zero, List.getElem?_cons_succ, List.getElem?_nil, List.set_cons_zero, List.set_cons_succ, List.length_cons, List.length_nil]
  rw [if_pos (by decide)]
  simp only [e_sOwnD, e_fNewD, e_fDictD, e_sDPutO, e_fDGetO, e_fDGet2, e_sFrzD, e_sPar3, e_fVar, e_fC, e_fOp, e_fUn, e_fNil, e_fCons, e_fTup, e_fLst, e_fOfL, e_fTest, e_fAnd, e_fOr, e_fNot, e_fBool, e_fIf, e_fChain, e_fVarB, e_fUnL, e_fNoPart, e_fPart, e_fSl, e_gN, e_gNl, e_gCs, e_gTp, e_fZip, e_fYes, e_sNx, e_sSeq, e_sAsg, e_sOwn, e_sApp, e_sExt, e_sIns, e_sSetIx, e_fIxO, e_fSlO, e_sRet, e_sRetL, e_sRetO, e_sFrz, e_sDrop, e_sIf, e_sPar, e_fCall, e_fCallL, e_fCallB, e_sParO, e_fOpO, e_fItems, e_fRange, e_fMin, e_orF, fI0, fI, fS0, dNeg, dAbs, dLen, dSum, dTuple, ix_t0, ix_t1, ix_t2, ix_l0, ix_l1, ownAt, setOwn, EV.cont, EV.with, seqOf, itemsOf, List.map_cons, List.map_nil, List.cons_append, List.nil_append, List.replicate_succ, List.replicate_zero, List.getElem?_cons_zero, List.getElem?_cons_succ, List.getElem?_nil, List.set_cons_zero, List.set_cons_succ, List.length_cons, List.length_nil, h8]
/-- who is not among them has the same entry -/
theorem entry_left (fs : List Fk) (ns : List Str) (n : Str) (h : ¬ n ∈ ns) : entry (left fs ns) n = entry fs n := by
  unfold entry left
  induction fs with
  | nil => rfl
  | cons p fs ih =>
    by_cases hp : p.1 = n
    · have hq : (!ns.contains p.1) = true := by
        rw [hp]
        simpa using h
      rw [List.filter_cons_of_pos (p := fun p : Fk => !ns.contains p.1) hq, List.find?_cons_of_pos (by simpa using hp), List.find?_cons_of_pos (by simpa using hp)]
    · rw [List.find?_cons_of_neg (by simpa using hp)]
      by_cases hc : (!ns.contains p.1) = true
      · rw [List.filter_cons_of_pos (p := fun p : Fk => !ns.contains p.1) hc, List.find?_cons_of_neg (by simpa using hp), ih]
      · rw [List.filter_cons_of_neg (p := fun p : Fk => !ns.contains p.1) hc, ih]
theorem left_names {fs : List Fk} {ns : List Str} {n : Str} (h : n ∈ (left fs ns).map (·.1)) : n ∈ fs.map (·.1) ∧ ¬ n ∈ ns := by
  obtain ⟨p, hp, rfl⟩ := List.mem_map.mp h
  unfold left at hp
  rw [List.mem_filter] at hp
  refine ⟨List.mem_map.mpr ⟨p, hp.1, rfl⟩, ?_⟩
  simpa using hp.2
/-- F: the folk at first, of whom fs are left -/
def Rest (F fs : List Fk) : Prop := ∀ n, n ∈ fs.map (·.1) → n ∈ F.map (·.1) ∧ entry fs n = entry F n
theorem Rest.left {F fs : List Fk} (h : Rest F fs) (ns : List Str) : Rest F (left fs ns) := fun n hn => by
  obtain ⟨h1, h2⟩ := left_names hn
  obtain ⟨h3, h4⟩ := h n h1
  exact ⟨h3, (entry_left fs ns n h2).trans h4⟩
theorem Rest.own {F fs : List Fk} (h : Rest F fs) {ls : List Lp} (hl : OkL fs ls) (b : Rat) : own F b ls = own fs b ls := by
  unfold Lc.own
  refine List.map_congr_left fun p hp => ?_
  have := (h p.1 (hl.nm p hp)).2
  unfold leapOf
  rw [this]
theorem OkL.up {F fs : List Fk} (h : Rest F fs) {ls : List Lp} (hl : OkL fs ls) : OkL F ls := ⟨hl.len, fun p hp => (h p.1 (hl.nm p hp)).1, hl.wy, hl.nd⟩
theorem outs_len (c : Int) : ∀ (lss : List (List Lp)) (fs : List Fk) (q : Rat), (outs c fs q lss).length = (lss.map List.length).sum
  | [], _, _ => rfl
  | ls :: r, fs, q => by
    unfold outs
    rw [List.length_append, outs_len c r, List.map_cons, List.sum_cons]
    unfold own
    rw [List.length_map]
theorem zip_map {c : Int} : ∀ (lss : List (List Lp)) (rs : List Rat), List.zipWith (fun x y => PyData.tuple [x, y]) (rs.map frD) (lss.map onceD) = (rs.zip lss).map fun p => .tuple [frD p.1, onceD p.2]
  | [], rs => by cases rs <;> rfl
  | ls :: r, [] => rfl
  | ls :: r, q :: rs => by
    rw [List.map_cons, List.map_cons, List.zipWith_cons_cons, List.zip_cons_cons, List.map_cons, zip_map (c := c) r rs]
theorem leapers_loop {c : Int} (hc : 1 ≤ c ∧ c ≤ 1000) {F : List Fk} (hF : OkF F) (Q0 L0 : PyData) : ∀ (lss : List (List Lp)) (fs : List Fk) (q : Rat) (n : Nat) (acc : List PyData) (x y : EV), OkF fs → Rest F fs → OkLs fs lss → Bd n q → n + 21 * lss.length ≤ 2000 → acc.length + (lss.map List.length).sum ≤ 1000 →
    ∃ x' y', loopF (gTp 2 (gCs (gN 6) (gCs (gN 7) gNl))) (sExt 5 (fCall fn_leaper_speeds (fCons (fVar 4) (fCons (fVar 6) (fCons (fVar 7) fNil))))) (((go c fs q lss).zip lss).map fun p => .tuple [frD p.1, onceD p.2]) [.dat (.int c), .dat (folkD F), .dat Q0, .dat L0, .dat (leapD F), .own acc, x, y] =
      some (.nx [.dat (.int c), .dat (folkD F), .dat Q0, .dat L0, .dat (leapD F), .own (acc ++ (outs c fs q lss).map encO), x', y'])
  | [], fs, q, n, acc, x, y, _, _, _, _, _, _ => ⟨x, y, by simp only [go, outs, List.zip_nil_right, List.map_nil, List.append_nil, loopF]⟩
  | ls :: r, fs, q, n, acc, x, y, hf, hr, hl, hq, hn, ha => by
    rw [List.length_cons] at hn
    rw [List.map_cons, List.sum_cons] at ha
    have hb := dr_bd hc hf hl.1.wy hq
    have h1 := leaper_eq hF (hl.1.up hr) (bd_le hb (show n + 21 ≤ 2900 by omega))
    rw [hr.own hl.1] at h1
    have hlo : ((own fs (dr c fs q ls) ls).map encO).length = ls.length := by
      unfold own
      rw [List.length_map, List.length_map]
    obtain ⟨x', y', ih⟩ := leapers_loop hc hF Q0 L0 r (left fs (ls.map (·.1))) (dr c fs q ls) (n + 21) (acc ++ (own fs (dr c fs q ls) ls).map encO) (.dat (frD (dr c fs q ls))) (.dat (onceD ls)) (left_ok hf _) (hr.left _) hl.2 hb (by omega) (by
      rw [List.length_append, hlo]
      omega)
    refine ⟨x', y', ?_⟩
    rw [go_cons, List.zip_cons_cons, List.map_cons]
    unfold loopF
    have hz : acc.length + ((own fs (dr c fs q ls) ls).map encO).length < 50000 := by
      rw [hlo]
      omega
    simp only [e_sOwnD, e_fNewD, e_fDictD, e_sDPutO, e_fDGetO, e_fDGet2, e_sFrzD, e_sPar3, e_fVar, e_fC, e_fOp, e_fUn, e_fNil, e_fCons, e_fTup, e_fLst, e_fOfL, e_fTest, e_fAnd, e_fOr, e_fNot, e_fBool, e_fIf, e_fChain, e_fVarB, e_fUnL, e_fNoPart, e_fPart, e_fSl, e_gN, e_gNl, e_gCs, e_gTp, e_fZip, e_fYes, e_sNx, e_sSeq, e_sAsg, e_sOwn, e_sApp, e_sExt, e_sIns, e_sSetIx, e_fIxO, e_fSlO, e_sRet, e_sRetL, e_sRetO, e_sFrz, e_sDrop, e_sIf, e_sPar, e_fCall, e_fCallL, e_fCallB, e_sParO, e_fOpO, e_fItems, e_fRange, e_fMin, e_orF, fI0, fI, fS0, dNeg, dAbs, dLen, dSum, dTuple, ix_t0, ix_t1, ix_t2, ix_l0, ix_l1, ownAt, setOwn, EV.cont, EV.with, seqOf, itemsOf, List.map_cons, List.map_nil, List.cons_append, List.nil_append, List.replicate_succ, List.replicate_zero, List.getElem?_cons_zero, List.getElem?_cons_succ, List.getElem?_nil, List.set_cons_zero, List.set_cons_succ, List.length_cons, List.length_nil, if_true, h1, hz]
    rw [ih, outs_cons, List.append_assoc, List.map_append]
end Lc
set_option exponentiation.threshold 10000
namespace Lc
open PySem L2 Evl RZ Sm
/-! ### the law's own run -/
def rows (c : Int) : List Fk → Rat → List (List Lp) → List (Rat × List (Str × Rat))
  | _, _, [] => []
  | fs, q, ls :: r => (dr c fs q ls, own fs (dr c fs q ls) ls) :: rows c (left fs (ls.map (·.1))) (dr c fs q ls) r
theorem rows_cons (c : Int) (fs : List Fk) (q : Rat) (ls : List Lp) (r : List (List Lp)) : rows c fs q (ls :: r) = (dr c fs q ls, own fs (dr c fs q ls) ls) :: rows c (left fs (ls.map (·.1))) (dr c fs q ls) r := rfl
def encR (p : Rat × List (Str × Rat)) : PyData := .tuple [frD p.1, .list (p.2.map encO)]
theorem dEq_str (a b : Str) : dEq (.str a) (.str b) = some (.bool (decide (a = b))) := rfl
theorem inner_loop {fs : List Fk} (hf : OkF fs) {b : Rat} (hb : Bd 2900 b) (C L0 O : PyData) (acc4 : List PyData) : ∀ (ls : List Lp) (acc : List PyData) (x7 x8 x9 : EV), x7.mine = false → x8.mine = false → (∀ p, p ∈ ls → p.1 ∈ fs.map (·.1) ∧ (p.2 = 1 ∨ p.2 = -1)) → acc.length + ls.length ≤ 1000 →
    ∃ y7 y8 y9, y7.mine = false ∧ y8.mine = false ∧ loopF (gTp 2 (gCs (gN 7) (gCs (gN 8) gNl))) (sSeq (sAsg (fOp dIx (fOfL (fLc (fItems (fVar 1)) [10] (gN 10) (fTest (fOp dEq (fOp dIx (fVar 10) (fC (.int 0))) (fVar 7))) (fOp dIx (fVar 10) (fC (.int 2))))) (fC (.int 0))) (gN 9)) (sApp 6 (fTup (fCons (fVar 7) (fCons (fCall fn__law_plus (fCons (fVar 2) (fCons (fTup (fCons (fOp dMul (fVar 9) (fVar 8)) (fCons (fC (.int 1)) fNil))) fNil))) fNil)))))
      (ls.map encL) [.dat C, .dat (folkD fs), .dat (frD b), .dat L0, .own acc4, .dat O, .own acc, x7, x8, x9, .un] = some (.nx [.dat C, .dat (folkD fs), .dat (frD b), .dat L0, .own acc4, .dat O, .own (acc ++ (own fs b ls).map encO), y7, y8, y9, .un])
  | [], acc, x7, x8, x9, hx7, hx8, _, _ => ⟨x7, x8, x9, hx7, hx8, by simp only [own, List.map_nil, List.append_nil, loopF]⟩
  | p :: ls, acc, x7, x8, x9, hx7, hx8, h, hn => by
    rw [List.length_cons] at hn
    obtain ⟨hpn, hpw⟩ := h p List.mem_cons_self
    obtain ⟨e, he, hle, hna, h1, h2⟩ := leap_le hf hpw hpn
    have hlen := hf.len
    have hcc := compL_enc encF (vs := [10]) (γ := gN 10) (τ := fTest (fOp dEq (fOp dIx (fVar 10) (fC (.int 0))) (fVar 7))) (ε := fOp dIx (fVar 10) (fC (.int 2))) (δ := [.dat C, .dat (folkD fs), .dat (frD b), .dat L0, .own acc4, .dat O, .own acc, .dat (.str p.1), .dat (.int p.2), x9, .un])
      (fun r => [.dat C, .dat (folkD fs), .dat (frD b), .dat L0, .own acc4, .dat O, .own acc, .dat (.str p.1), .dat (.int p.2), x9, .dat (encF r)]) (fun r => decide (r.1 = p.1)) (fun r => .int r.2.2) fs fun r _ => ⟨rfl, by
        have : dIx (encF r) (.int 0) = some (.str r.1) := ix_t0
        simp only [e_fTest, e_fOp, e_fVar, e_fC, List.getElem?_cons_zero, List.getElem?_cons_succ, this, dEq_str], fun _ => by
        have : dIx (encF r) (.int 2) = some (.int r.2.2) := ix_t2
        simp only [e_sOwnD, e_fNewD, e_fDictD, e_sDPutO, e_fDGetO, e_fDGet2, e_sFrzD, e_sPar3, e_fVar, e_fC, e_fOp, e_fUn, e_fNil, e_fCons, e_fTup, e_fLst, e_fOfL, e_fTest, e_fAnd, e_fOr, e_fNot, e_fBool, e_fIf, e_fChain, e_fVarB, e_fUnL, e_fNoPart, e_fPart, e_fSl, e_gN, e_gNl, e_gCs, e_gTp, e_fZip, e_fYes, e_sNx, e_sSeq, e_sAsg, e_sOwn, e_sApp, e_sExt, e_sIns, e_sSetIx, e_fIxO, e_fSlO, e_sRet, e_sRetL, e_sRetO, e_sFrz, e_sDrop, e_sIf, e_sPar, e_fCall, e_fCallL, e_fCallB, e_sParO, e_fOpO, e_fItems, e_fRange, e_fMin, e_orF, fI0, fI, fS0, dNeg, dAbs, dLen, dSum, dTuple, ix_t0, ix_t1, ix_t2, ix_l0, ix_l1, ownAt, setOwn, EV.cont, EV.with, seqOf, itemsOf, List.map_cons, List.map_nil, List.cons_append, List.nil_append, List.replicate_succ, List.replicate_zero, List.getElem?_cons_zero, List.getElem?_cons_succ, List.getElem?_nil, List.set_cons_zero, List.set_cons_succ, List.length_cons, List.length_nil, this], by cases x9 <;> rfl⟩
    have hh : ∃ tl, (fs.filter fun r => decide (r.1 = p.1)) = e :: tl := by
      have := List.head?_filter (p := fun r : Fk => decide (r.1 = p.1)) (l := fs)
      have he' : fs.find? (fun r => decide (r.1 = p.1)) = some e := he
      rw [he'] at this
      cases hfl : fs.filter fun r => decide (r.1 = p.1) with
      | nil =>
        rw [hfl] at this
        cases this
      | cons a tl =>
        rw [hfl] at this
        cases this
        exact ⟨tl, rfl⟩
    obtain ⟨tl, htl⟩ := hh
    rw [htl, List.map_cons] at hcc
    have hL := fLc_of (φ := fItems (fVar 1)) (δ := [.dat C, .dat (folkD fs), .dat (frD b), .dat L0, .own acc4, .dat O, .own acc, .dat (.str p.1), .dat (.int p.2), x9, .un]) rfl (by rw [List.length_map]; omega) hcc
    have m1 : cMulB e.2.2 p.2 = true := mulB (pow20 (by omega) 8000 (by omega)) (pow20 (by omega) 8000 (by omega))
    have hpl := lplus_eq (bd_le hb (show 2900 ≤ 3000 by omega)) (bd_int (i := p.2 * leapOf fs p.1) (pow20 (by omega) 3000 (by omega)) (by omega))
    have hfi : frD ((p.2 * leapOf fs p.1 : Int) : Rat) = .tuple [.int (e.2.2 * p.2), .int 1] := by
      rw [hle, Int.mul_comm]
      rfl
    rw [hfi] at hpl
    obtain ⟨y7, y8, y9, hy7, hy8, ih⟩ := inner_loop hf hb C L0 O acc4 ls (acc ++ [encO (p.1, b + ((p.2 * leapOf fs p.1 : Int) : Rat))]) (.dat (.str p.1)) (.dat (.int p.2)) (.dat (.int e.2.2)) rfl rfl (fun r hr => h r (List.mem_cons_of_mem _ hr)) (by rw [List.length_append]; show acc.length + 1 + ls.length ≤ 1000; omega)
    refine ⟨y7, y8, y9, hy7, hy8, ?_⟩
    have hz : acc.length < 50000 := by omega
    rw [List.map_cons]
    unfold loopF
    have hg : gTp 2 (gCs (gN 7) (gCs (gN 8) gNl)) (encL p) [.dat C, .dat (folkD fs), .dat (frD b), .dat L0, .own acc4, .dat O, .own acc, x7, x8, x9, .un] = some [.dat C, .dat (folkD fs), .dat (frD b), .dat L0, .own acc4, .dat O, .own acc, .dat (.str p.1), .dat (.int p.2), x9, .un] := rfl
    rw [hg]
    dsimp only
    have hb1 : sSeq (sAsg (fOp dIx (fOfL (fLc (fItems (fVar 1)) [10] (gN 10) (fTest (fOp dEq (fOp dIx (fVar 10) (fC (.int 0))) (fVar 7))) (fOp dIx (fVar 10) (fC (.int 2))))) (fC (.int 0))) (gN 9)) (sApp 6 (fTup (fCons (fVar 7) (fCons (fCall fn__law_plus (fCons (fVar 2) (fCons (fTup (fCons (fOp dMul (fVar 9) (fVar 8)) (fCons (fC (.int 1)) fNil))) fNil))) fNil)))) [.dat C, .dat (folkD fs), .dat (frD b), .dat L0, .own acc4, .dat O, .own acc, .dat (.str p.1), .dat (.int p.2), x9, .un] =
        some (.nx [.dat C, .dat (folkD fs), .dat (frD b), .dat L0, .own acc4, .dat O, .own (acc ++ [encO (p.1, b + ((p.2 * leapOf fs p.1 : Int) : Rat))]), .dat (.str p.1), .dat (.int p.2), .dat (.int e.2.2), .un]) := by
      simp only [e_sOwnD, e_fNewD, e_fDictD, e_sDPutO, e_fDGetO, e_fDGet2, e_sFrzD, e_sPar3, e_fVar, e_fC, e_fOp, e_fUn, e_fNil, e_fCons, e_fTup, e_fLst, e_fOfL, e_fTest, e_fAnd, e_fOr, e_fNot, e_fBool, e_fIf, e_fChain, e_fVarB, e_fUnL, e_fNoPart, e_fPart, e_fSl, e_gN, e_gNl, e_gCs, e_gTp, e_fZip, e_fYes, e_sNx, e_sSeq, e_sAsg, e_sOwn, e_sApp, e_sExt, e_sIns, e_sSetIx, e_fIxO, e_fSlO, e_sRet, e_sRetL, e_sRetO, e_sFrz, e_sDrop, e_sIf, e_sPar, e_fCall, e_fCallL, e_fCallB, e_sParO, e_fOpO, e_fItems, e_fRange, e_fMin, e_orF, fI0, fI, fS0, dNeg, dAbs, dLen, dSum, dTuple, ix_t0, ix_t1, ix_t2, ix_l0, ix_l1, ownAt, setOwn, EV.cont, EV.with, seqOf, itemsOf, List.map_cons, List.map_nil, List.cons_append, List.nil_append, List.replicate_succ, List.replicate_zero, List.getElem?_cons_zero, List.getElem?_cons_succ, List.getElem?_nil, List.set_cons_zero, List.set_cons_succ, List.length_cons, List.length_nil, hL, m1, if_true]
      rw [if_pos (by decide)]
      simp only [e_sOwnD, e_fNewD, e_fDictD, e_sDPutO, e_fDGetO, e_fDGet2, e_sFrzD, e_sPar3, e_fVar, e_fC, e_fOp, e_fUn, e_fNil, e_fCons, e_fTup, e_fLst, e_fOfL, e_fTest, e_fAnd, e_fOr, e_fNot, e_fBool, e_fIf, e_fChain, e_fVarB, e_fUnL, e_fNoPart, e_fPart, e_fSl, e_gN, e_gNl, e_gCs, e_gTp, e_fZip, e_fYes, e_sNx, e_sSeq, e_sAsg, e_sOwn, e_sApp, e_sExt, e_sIns, e_sSetIx, e_fIxO, e_fSlO, e_sRet, e_sRetL, e_sRetO, e_sFrz, e_sDrop, e_sIf, e_sPar, e_fCall, e_fCallL, e_fCallB, e_sParO, e_fOpO, e_fItems, e_fRange, e_fMin, e_orF, fI0, fI, fS0, dNeg, dAbs, dLen, dSum, dTuple, ix_t0, ix_t1, ix_t2, ix_l0, ix_l1, ownAt, setOwn, EV.cont, EV.with, seqOf, itemsOf, List.map_cons, List.map_nil, List.cons_append, List.nil_append, List.replicate_succ, List.replicate_zero, List.getElem?_cons_zero, List.getElem?_cons_succ, List.getElem?_nil, List.set_cons_zero, List.set_cons_succ, List.length_cons, List.length_nil, hpl]
      rw [if_pos (by decide)]
      simp only [e_sOwnD, e_fNewD, e_fDictD, e_sDPutO, e_fDGetO, e_fDGet2, e_sFrzD, e_sPar3, e_fVar, e_fC, e_fOp, e_fUn, e_fNil, e_fCons, e_fTup, e_fLst, e_fOfL, e_fTest, e_fAnd, e_fOr, e_fNot, e_fBool, e_fIf, e_fChain, e_fVarB, e_fUnL, e_fNoPart, e_fPart, e_fSl, e_gN, e_gNl, e_gCs, e_gTp, e_fZip, e_fYes, e_sNx, e_sSeq, e_sAsg, e_sOwn, e_sApp, e_sExt, e_sIns, e_sSetIx, e_fIxO, e_fSlO, e_sRet, e_sRetL, e_sRetO, e_sFrz, e_sDrop, e_sIf, e_sPar, e_fCall, e_fCallL, e_fCallB, e_sParO, e_fOpO, e_fItems, e_fRange, e_fMin, e_orF, fI0, fI, fS0, dNeg, dAbs, dLen, dSum, dTuple, ix_t0, ix_t1, ix_t2, ix_l0, ix_l1, ownAt, setOwn, EV.cont, EV.with, seqOf, itemsOf, List.map_cons, List.map_nil, List.cons_append, List.nil_append, List.replicate_succ, List.replicate_zero, List.getElem?_cons_zero, List.getElem?_cons_succ, List.getElem?_nil, List.set_cons_zero, List.set_cons_succ, List.length_cons, List.length_nil, hz, if_true]
      rfl
    rw [hb1]
    dsimp only
    rw [ih]
    unfold own
    rw [List.map_cons, List.map_cons, List.append_assoc]
    rfl
theorem run_loop {c : Int} (hc : 1 ≤ c ∧ c ≤ 1000) (L0 : PyData) : ∀ (lss : List (List Lp)) (fs : List Fk) (q : Rat) (n : Nat) (acc : List PyData) (x5 x6 x7 x8 x9 : EV), x7.mine = false → x8.mine = false → OkF fs → OkLs fs lss → Bd n q → n + 21 * lss.length ≤ 1900 → acc.length + lss.length ≤ 1000 →
    ∃ f' q' y5 y6 y7 y8 y9, loopF (gN 5) (sSeq (sAsg (fCall fn__law_behind (fCons (fVar 0) (fCons (fVar 1) (fCons (fVar 2) (fCons (fVar 5) fNil))))) (gN 2))
    (sSeq (sOwn 6 (fLst fNil))
    (sSeq (sFor (fItems (fVar 5)) (gTp 2 (gCs (gN 7) (gCs (gN 8) gNl))) (sSeq (sAsg (fOp dIx (fOfL (fLc (fItems (fVar 1)) [10] (gN 10) (fTest (fOp dEq (fOp dIx (fVar 10) (fC (.int 0))) (fVar 7))) (fOp dIx (fVar 10) (fC (.int 2))))) (fC (.int 0))) (gN 9))
    (sApp 6 (fTup (fCons (fVar 7) (fCons (fCall fn__law_plus (fCons (fVar 2) (fCons (fTup (fCons (fOp dMul (fVar 9) (fVar 8)) (fCons (fC (.int 1)) fNil))) fNil))) fNil))))))
    (sSeq (sFrz 6 (sApp 4 (fTup (fCons (fVar 2) (fCons (fVar 6) fNil)))))
    (sAsg (fCall fn__law_left (fCons (fVar 1) (fCons (fOfL (fLc (fItems (fVar 5)) [7, 8] (gTp 2 (gCs (gN 7) (gCs (gN 8) gNl))) fYes (fVar 7))) fNil))) (gN 1)))))) (lss.map onceD) [.dat (.int c), .dat (folkD fs), .dat (frD q), .dat L0, .own acc, x5, x6, x7, x8, x9, .un] =
      some (.nx [.dat (.int c), .dat f', .dat q', .dat L0, .own (acc ++ (rows c fs q lss).map encR), y5, y6, y7, y8, y9, .un])
  | [], fs, q, n, acc, x5, x6, x7, x8, x9, _, _, _, _, _, _, _ => ⟨_, _, x5, x6, x7, x8, x9, by simp only [rows, List.map_nil, List.append_nil, loopF]; rfl⟩
  | ls :: r, fs, q, n, acc, x5, x6, x7, x8, x9, hx7, hx8, hf, hl, hq, hn, ha => by
    rw [List.length_cons] at hn ha
    have hll := hl.1.len
    have h1 := behind_eq hc hf hl.1 (bd_le hq (show n ≤ 2000 by omega))
    have hb := dr_bd hc hf hl.1.wy hq
    obtain ⟨y7, y8, y9, hy7, hy8, h2⟩ := inner_loop hf (bd_le hb (show n + 21 ≤ 2900 by omega)) (.int c) L0 (onceD ls) acc ls [] x7 x8 x9 hx7 hx8 (fun p hp => ⟨hl.1.nm p hp, hl.1.wy p hp⟩) (by rw [List.length_nil]; omega)
    have h3 := sFor_of (φ := fItems (fVar 5)) (δ := [.dat (.int c), .dat (folkD fs), .dat (frD (dr c fs q ls)), .dat L0, .own acc, .dat (onceD ls), .own [], x7, x8, x9, .un]) rfl h2
    rw [List.nil_append] at h3
    have hcc := compL_enc encL (vs := [7, 8]) (γ := gTp 2 (gCs (gN 7) (gCs (gN 8) gNl))) (τ := fYes) (ε := fVar 7) (δ := [.dat (.int c), .dat (folkD fs), .dat (frD (dr c fs q ls)), .dat L0, .own (acc ++ [encR (dr c fs q ls, own fs (dr c fs q ls) ls)]), .dat (onceD ls), .dat (.list ((own fs (dr c fs q ls) ls).map encO)), y7, y8, y9, .un])
      (fun p => [.dat (.int c), .dat (folkD fs), .dat (frD (dr c fs q ls)), .dat L0, .own (acc ++ [encR (dr c fs q ls, own fs (dr c fs q ls) ls)]), .dat (onceD ls), .dat (.list ((own fs (dr c fs q ls) ls).map encO)), .dat (.str p.1), .dat (.int p.2), y9, .un]) (fun _ => true) (fun p => .str p.1) ls fun p _ => ⟨rfl, rfl, fun _ => rfl, by
        cases y7 <;> first | cases hy7 | skip
        all_goals (cases y8 <;> first | cases hy8 | skip)
        all_goals (cases y9 <;> rfl)⟩
    rw [filter_true] at hcc
    have h4 := fLc_of (φ := fItems (fVar 5)) (δ := [.dat (.int c), .dat (folkD fs), .dat (frD (dr c fs q ls)), .dat L0, .own (acc ++ [encR (dr c fs q ls, own fs (dr c fs q ls) ls)]), .dat (onceD ls), .dat (.list ((own fs (dr c fs q ls) ls).map encO)), y7, y8, y9, .un]) rfl (by rw [List.length_map]; omega) hcc
    have h5 := lleft_eq fs (ls.map (·.1)) hf.len
    have e5 : strsD (ls.map (·.1)) = ls.map fun p => .str p.1 := by
      unfold strsD
      rw [List.map_map]
      rfl
    rw [e5] at h5
    obtain ⟨f', q', z5, z6, z7, z8, z9, ih⟩ := run_loop hc L0 r (left fs (ls.map (·.1))) (dr c fs q ls) (n + 21) (acc ++ [encR (dr c fs q ls, own fs (dr c fs q ls) ls)]) (.dat (onceD ls)) (.dat (.list ((own fs (dr c fs q ls) ls).map encO))) y7 y8 y9 hy7 hy8 (left_ok hf _) hl.2 hb (by omega) (by rw [List.length_append]; show acc.length + 1 + r.length ≤ 1000; omega)
    refine ⟨f', q', z5, z6, z7, z8, z9, ?_⟩
    have hz : acc.length < 50000 := by omega
    rw [List.map_cons, rows_cons, List.map_cons]
    unfold loopF
    rw [show gN 5 (onceD ls) [.dat (.int c), .dat (folkD fs), .dat (frD q), .dat L0, .own acc, x5, x6, x7, x8, x9, .un] = some [.dat (.int c), .dat (folkD fs), .dat (frD q), .dat L0, .own acc, .dat (onceD ls), x6, x7, x8, x9, .un] from rfl]
    dsimp only
    rw [e_sSeq]
    rw [show sAsg (fCall fn__law_behind (fCons (fVar 0) (fCons (fVar 1) (fCons (fVar 2) (fCons (fVar 5) fNil))))) (gN 2) [.dat (.int c), .dat (folkD fs), .dat (frD q), .dat L0, .own acc, .dat (onceD ls), x6, x7, x8, x9, .un] = some (.nx [.dat (.int c), .dat (folkD fs), .dat (frD (dr c fs q ls)), .dat L0, .own acc, .dat (onceD ls), x6, x7, x8, x9, .un]) by simp only [e_sOwnD, e_fNewD, e_fDictD, e_sDPutO, e_fDGetO, e_fDGet2, e_sFrzD, e_sPar3, e_fVar, e_fC, e_fOp, e_fUn, e_fNil, e_fCons, e_fTup, e_fLst, e_fOfL, e_fTest, e_fAnd, e_fOr, e_fNot, e_fBool, e_fIf, e_fChain, e_fVarB, e_fUnL, e_fNoPart, e_fPart, e_fSl, e_gN, e_gNl, e_gCs, e_gTp, e_fZip, e_fYes, e_sNx, e_sSeq, e_sAsg, e_sOwn, e_sApp, e_sExt, e_sIns, e_sSetIx, e_fIxO, e_fSlO, e_sRet, e_sRetL, e_sRetO, e_sFrz, e_sDrop, e_sIf, e_sPar, e_fCall, e_fCallL, e_fCallB, e_sParO, e_fOpO, e_fItems, e_fRange, e_fMin, e_orF, fI0, fI, fS0, dNeg, dAbs, dLen, dSum, dTuple, ix_t0, ix_t1, ix_t2, ix_l0, ix_l1, ownAt, setOwn, EV.cont, EV.with, seqOf, itemsOf, List.map_cons, List.map_nil, List.cons_append, List.nil_append, List.replicate_succ, List.replicate_zero, List.getElem?_cons_zero, List.getElem?_cons_succ, List.getElem?_nil, List.set_cons_zero, List.set_cons_succ, List.length_cons, List.length_nil, h1]]
    dsimp only
    rw [e_sSeq]
    rw [show sOwn 6 (fLst fNil) [.dat (.int c), .dat (folkD fs), .dat (frD (dr c fs q ls)), .dat L0, .own acc, .dat (onceD ls), x6, x7, x8, x9, .un] = some (.nx [.dat (.int c), .dat (folkD fs), .dat (frD (dr c fs q ls)), .dat L0, .own acc, .dat (onceD ls), .own [], x7, x8, x9, .un]) from rfl]
    dsimp only
    rw [e_sSeq, h3]
    dsimp only
    rw [e_sSeq]
    rw [show sFrz 6 (sApp 4 (fTup (fCons (fVar 2) (fCons (fVar 6) fNil)))) [.dat (.int c), .dat (folkD fs), .dat (frD (dr c fs q ls)), .dat L0, .own acc, .dat (onceD ls), .own ((own fs (dr c fs q ls) ls).map encO), y7, y8, y9, .un] = some (.nx [.dat (.int c), .dat (folkD fs), .dat (frD (dr c fs q ls)), .dat L0, .own (acc ++ [encR (dr c fs q ls, own fs (dr c fs q ls) ls)]), .dat (onceD ls), .dat (.list ((own fs (dr c fs q ls) ls).map encO)), y7, y8, y9, .un]) by
      simp only [e_sOwnD, e_fNewD, e_fDictD, e_sDPutO, e_fDGetO, e_fDGet2, e_sFrzD, e_sPar3, e_fVar, e_fC, e_fOp, e_fUn, e_fNil, e_fCons, e_fTup, e_fLst, e_fOfL, e_fTest, e_fAnd, e_fOr, e_fNot, e_fBool, e_fIf, e_fChain, e_fVarB, e_fUnL, e_fNoPart, e_fPart, e_fSl, e_gN, e_gNl, e_gCs, e_gTp, e_fZip, e_fYes, e_sNx, e_sSeq, e_sAsg, e_sOwn, e_sApp, e_sExt, e_sIns, e_sSetIx, e_fIxO, e_fSlO, e_sRet, e_sRetL, e_sRetO, e_sFrz, e_sDrop, e_sIf, e_sPar, e_fCall, e_fCallL, e_fCallB, e_sParO, e_fOpO, e_fItems, e_fRange, e_fMin, e_orF, fI0, fI, fS0, dNeg, dAbs, dLen, dSum, dTuple, ix_t0, ix_t1, ix_t2, ix_l0, ix_l1, ownAt, setOwn, EV.cont, EV.with, seqOf, itemsOf, List.map_cons, List.map_nil, List.cons_append, List.nil_append, List.replicate_succ, List.replicate_zero, List.getElem?_cons_zero, List.getElem?_cons_succ, List.getElem?_nil, List.set_cons_zero, List.set_cons_succ, List.length_cons, List.length_nil]
      rw [if_pos (by decide)]
      simp only [e_sOwnD, e_fNewD, e_fDictD, e_sDPutO, e_fDGetO, e_fDGet2, e_sFrzD, e_sPar3, e_fVar, e_fC, e_fOp, e_fUn, e_fNil, e_fCons, e_fTup, e_fLst, e_fOfL, e_fTest, e_fAnd, e_fOr, e_fNot, e_fBool, e_fIf, e_fChain, e_fVarB, e_fUnL, e_fNoPart, e_fPart, e_fSl, e_gN, e_gNl, e_gCs, e_gTp, e_fZip, e_fYes, e_sNx, e_sSeq, e_sAsg, e_sOwn, e_sApp, e_sExt, e_sIns, e_sSetIx, e_fIxO, e_fSlO, e_sRet, e_sRetL, e_sRetO, e_sFrz, e_sDrop, e_sIf, e_sPar, e_fCall, e_fCallL, e_fCallB, e_sParO, e_fOpO, e_fItems, e_fRange, e_fMin, e_orF, fI0, fI, fS0, dNeg, dAbs, dLen, dSum, dTuple, ix_t0, ix_t1, ix_t2, ix_l0, ix_l1, ownAt, setOwn, EV.cont, EV.with, seqOf, itemsOf, List.map_cons, List.map_nil, List.cons_append, List.nil_append, List.replicate_succ, List.replicate_zero, List.getElem?_cons_zero, List.getElem?_cons_succ, List.getElem?_nil, List.set_cons_zero, List.set_cons_succ, List.length_cons, List.length_nil, hz, if_true]
      rfl]
    dsimp only
    rw [show sAsg (fCall fn__law_left (fCons (fVar 1) (fCons (fOfL (fLc (fItems (fVar 5)) [7, 8] (gTp 2 (gCs (gN 7) (gCs (gN 8) gNl))) fYes (fVar 7))) fNil))) (gN 1) [.dat (.int c), .dat (folkD fs), .dat (frD (dr c fs q ls)), .dat L0, .own (acc ++ [encR (dr c fs q ls, own fs (dr c fs q ls) ls)]), .dat (onceD ls), .dat (.list ((own fs (dr c fs q ls) ls).map encO)), y7, y8, y9, .un] = some (.nx [.dat (.int c), .dat (folkD (left fs (ls.map (·.1)))), .dat (frD (dr c fs q ls)), .dat L0, .own (acc ++ [encR (dr c fs q ls, own fs (dr c fs q ls) ls)]), .dat (onceD ls), .dat (.list ((own fs (dr c fs q ls) ls).map encO)), y7, y8, y9, .un]) by simp only [e_sOwnD, e_fNewD, e_fDictD, e_sDPutO, e_fDGetO, e_fDGet2, e_sFrzD, e_sPar3, e_fVar, e_fC, e_fOp, e_fUn, e_fNil, e_fCons, e_fTup, e_fLst, e_fOfL, e_fTest, e_fAnd, e_fOr, e_fNot, e_fBool, e_fIf, e_fChain, e_fVarB, e_fUnL, e_fNoPart, e_fPart, e_fSl, e_gN, e_gNl, e_gCs, e_gTp, e_fZip, e_fYes, e_sNx, e_sSeq, e_sAsg, e_sOwn, e_sApp, e_sExt, e_sIns, e_sSetIx, e_fIxO, e_fSlO, e_sRet, e_sRetL, e_sRetO, e_sFrz, e_sDrop, e_sIf, e_sPar, e_fCall, e_fCallL, e_fCallB, e_sParO, e_fOpO, e_fItems, e_fRange, e_fMin, e_orF, fI0, fI, fS0, dNeg, dAbs, dLen, dSum, dTuple, ix_t0, ix_t1, ix_t2, ix_l0, ix_l1, ownAt, setOwn, EV.cont, EV.with, seqOf, itemsOf, List.map_cons, List.map_nil, List.cons_append, List.nil_append, List.replicate_succ, List.replicate_zero, List.getElem?_cons_zero, List.getElem?_cons_succ, List.getElem?_nil, List.set_cons_zero, List.set_cons_succ, List.length_cons, List.length_nil, h4, h5]]
    dsimp only
    rw [ih, List.append_assoc]
    rfl
theorem run_eq {c : Int} {fs : List Fk} {q : Rat} {lss : List (List Lp)} (hc : 1 ≤ c ∧ c ≤ 1000) (hf : OkF fs) (hl : OkLs fs lss) (hq : Bd 100 q) (hn : lss.length ≤ 7) : fn__law_run [.int c, folkD fs, frD q, .list (lss.map onceD)] = some (.list ((rows c fs q lss).map encR)) := by
  obtain ⟨f', q', y5, y6, y7, y8, y9, h⟩ := run_loop hc (.list (lss.map onceD)) lss fs q 100 [] .un .un .un .un .un rfl rfl hf hl hq (by omega) (by rw [List.length_nil]; omega)
  have h8 := sFor_of (φ := fItems (fVar 3)) (δ := [.dat (.int c), .dat (folkD fs), .dat (frD q), .dat (.list (lss.map onceD)), .own [], .un, .un, .un, .un, .un, .un]) rfl h
  unfold fn__law_run b__law_run
  simp only [runD, e_sOwnD, e_fNewD, e_fDictD, e_sDPutO, e_fDGetO, e_fDGet2, e_sFrzD, e_sPar3, e_fVar, e_fC, e_fOp, e_fUn, e_fNil, e_fCons, e_fTup, e_fLst, e_fOfL, e_fTest, e_fAnd, e_fOr, e_fNot, e_fBool, e_fIf, e_fChain, e_fVarB, e_fUnL, e_fNoPart, e_fPart, e_fSl, e_gN, e_gNl, e_gCs, e_gTp, e_fZip, e_fYes, e_sNx, e_sSeq, e_sAsg, e_sOwn, e_sApp, e_sExt, e_sIns, e_sSetIx, e_fIxO, e_fSlO, e_sRet, e_sRetL, e_sRetO, e_sFrz, e_sDrop, e_sIf, e_sPar, e_fCall, e_fCallL, e_fCallB, e_sParO, e_fOpO, e_fItems, e_fRange, e_fMin, e_orF, fI0, fI, fS0, dNeg, dAbs, dLen, dSum, dTuple, ix_t0, ix_t1, ix_t2, ix_l0, ix_l1, ownAt, setOwn, EV.cont, EV.with, seqOf, itemsOf, List.map_cons, List.map_nil, List.cons_append, List.nil_append, List.replicate_succ, List.replicate_zero, List.getElem?_cons_zero, List.getElem?_cons_succ, List.getElem?_nil, List.set_cons_zero, List.set_cons_succ, List.length_cons, List.length_nil]
  rw [if_pos (by decide)]
  simp only [e_sOwnD, e_fNewD, e_fDictD, e_sDPutO, e_fDGetO, e_fDGet2, e_sFrzD, e_sPar3, e_fVar, e_fC, e_fOp, e_fUn, e_fNil, e_fCons, e_fTup, e_fLst, e_fOfL, e_fTest, e_fAnd, e_fOr, e_fNot, e_fBool, e_fIf, e_fChain, e_fVarB, e_fUnL, e_fNoPart, e_fPart, e_fSl, e_gN, e_gNl, e_gCs, e_gTp, e_fZip, e_fYes, e_sNx, e_sSeq, e_sAsg, e_sOwn, e_sApp, e_sExt, e_sIns, e_sSetIx, e_fIxO, e_fSlO, e_sRet, e_sRetL, e_sRetO, e_sFrz, e_sDrop, e_sIf, e_sPar, e_fCall, e_fCallL, e_fCallB, e_sParO, e_fOpO, e_fItems, e_fRange, e_fMin, e_orF, fI0, fI, fS0, dNeg, dAbs, dLen, dSum, dTuple, ix_t0, ix_t1, ix_t2, ix_l0, ix_l1, ownAt, setOwn, EV.cont, EV.with, seqOf, itemsOf, List.map_cons, List.map_nil, List.cons_append, List.nil_append, List.replicate_succ, List.replicate_zero, List.getElem?_cons_zero, List.getElem?_cons_succ, List.getElem?_nil, List.set_cons_zero, List.set_cons_succ, List.length_cons, List.length_nil]
  rw [if_pos (by decide)]
  simp only [e_sOwnD, e_fNewD, e_fDictD, e_sDPutO, e_fDGetO, e_fDGet2, e_sFrzD, e_sPar3, e_fVar, e_fC, e_fOp, e_fUn, e_fNil, e_fCons, e_fTup, e_fLst, e_fOfL, e_fTest, e_fAnd, e_fOr, e_fNot, e_fBool, e_fIf, e_fChain, e_fVarB, e_fUnL, e_fNoPart, e_fPart, e_fSl, e_gN, e_gNl, e_gCs, e_gTp, e_fZip, e_fYes, e_sNx, e_sSeq, e_sAsg, e_sOwn, e_sApp, e_sExt, e_sIns, e_sSetIx, e_fIxO, e_fSlO, e_sRet, e_sRetL, e_sRetO, e_sFrz, e_sDrop, e_sIf, e_sPar, e_fCall, e_fCallL, e_fCallB, e_sParO, e_fOpO, e_fItems, e_fRange, e_fMin, e_orF, fI0, fI, fS0, dNeg, dAbs, dLen, dSum, dTuple, ix_t0, ix_t1, ix_t2, ix_l0, ix_l1, ownAt, setOwn, EV.cont, EV.with, seqOf, itemsOf, List.map_cons, List.map_nil, List.cons_append, List.nil_append, List.replicate_succ, List.replicate_zero, List.getElem?_cons_zero, List.getElem?_cons_succ, List.getElem?_nil, List.set_cons_zero, List.set_cons_succ, List.length_cons, List.length_nil, h8]
end Lc
set_option exponentiation.threshold 10000
namespace Lc
open PySem L2 Evl RZ Sm
theorem seq_of {φ ψ : FS} {δ δ1 : En} (h : φ δ = some (.nx δ1)) : sSeq φ ψ δ = ψ δ1 := by
  rw [e_sSeq, h]
/-! ### draws -/
def Bg (b : List PyData) : Prop := ∃ c s : Int, b = [.int c, .int s] ∧ 0 ≤ c ∧ 0 ≤ s ∧ s < 2147483648
theorem at0 {a b : PyData} : atI [a, b] 0 = some a := rfl
theorem at1 {a b : PyData} : atI [a, b] 1 = some b := rfl
theorem ix20 : ixN (0 + 1 + 1) 0 = some 0 := rfl
theorem ix21 : ixN (0 + 1 + 1) 1 = some 1 := rfl
theorem take_ok {b : List PyData} {m : Int} (hb : Bg b) (h1 : 1 ≤ m) (h2 : m ≤ 2000) : ∃ r b', fn__law_take b [.int m] = some (.int r, b') ∧ 0 ≤ r ∧ r < m ∧ Bg b' := by
  obtain ⟨c, s, rfl, hc, hs, hs2⟩ := hb
  by_cases h0 : 0 < c
  · refine ⟨c % m, [.int (c / m), .int s], ?_, Int.emod_nonneg c (by omega), Int.emod_lt_of_pos c (by omega), _, _, rfl, Int.ediv_nonneg hc (by omega), hs, hs2⟩
    have m1 := modB (i := c) (j := m) (by omega)
    have m2 : cDivB c m = true := divB (by omega) (pow20 (by omega) 8000 (by omega))
    unfold fn__law_take b__law_take
    simp only [runB, e_sOwnD, e_fNewD, e_fDictD, e_sDPutO, e_fDGetO, e_fDGet2, e_sFrzD, e_sPar3, e_fVar, e_fC, e_fOp, e_fUn, e_fNil, e_fCons, e_fTup, e_fLst, e_fOfL, e_fTest, e_fAnd, e_fOr, e_fNot, e_fBool, e_fIf, e_fChain, e_fVarB, e_fUnL, e_fNoPart, e_fPart, e_fSl, e_gN, e_gNl, e_gCs, e_gTp, e_fZip, e_fYes, e_sNx, e_sSeq, e_sAsg, e_sOwn, e_sApp, e_sExt, e_sIns, e_sSetIx, e_fIxO, e_fSlO, e_sRet, e_sRetL, e_sRetO, e_sFrz, e_sDrop, e_sIf, e_sPar, e_fCall, e_fCallL, e_fCallB, e_sParO, e_fOpO, e_fItems, e_fRange, e_fMin, e_orF, fI0, fI, fS0, dNeg, dAbs, dLen, dSum, dTuple, ix_t0, ix_t1, ix_t2, ix_l0, ix_l1, ownAt, setOwn, EV.cont, EV.with, seqOf, itemsOf, List.map_cons, List.map_nil, List.cons_append, List.nil_append, List.replicate_succ, List.replicate_zero, List.getElem?_cons_zero, List.getElem?_cons_succ, List.getElem?_nil, List.set_cons_zero, List.set_cons_succ, List.length_cons, List.length_nil, at0, h0, decide_true, m1, m2, if_true, ix20]
  · have e0 : c = 0 := by omega
    have m1 : cMulB s 48271 = true := mulB (Nat.lt_of_lt_of_le (show s.natAbs < 2 ^ 31 by omega) (Nat.pow_le_pow_right (by decide) (by omega))) (pow20 (by decide) 8000 (by omega))
    have hs3 : 0 ≤ s * 48271 % 2147483647 := Int.emod_nonneg _ (by decide)
    have hs4 : s * 48271 % 2147483647 < 2147483647 := Int.emod_lt_of_pos _ (by decide)
    have m2 := modB (i := s * 48271) (j := 2147483647) (by decide)
    generalize hg : s * 48271 % 2147483647 = t at hs3 hs4
    have m3 : cMulB t t = true := mulB (Nat.lt_of_lt_of_le (show t.natAbs < 2 ^ 31 by omega) (Nat.pow_le_pow_right (by decide) (by omega))) (Nat.lt_of_lt_of_le (show t.natAbs < 2 ^ 31 by omega) (Nat.pow_le_pow_right (by decide) (by omega)))
    have m4 := modB (i := t * t) (j := 2147483629) (by decide)
    have m5 : cDivB (t * t % 2147483629) 64 = true := divB (by decide) (pow20 (by decide) 8000 (by omega))
    have m6 := modB (i := t * t % 2147483629 / 64) (j := m) (by omega)
    refine ⟨t * t % 2147483629 / 64 % m, [.int c, .int t], ?_, Int.emod_nonneg _ (by omega), Int.emod_lt_of_pos _ (by omega), _, _, rfl, hc, hs3, by omega⟩
    unfold fn__law_take b__law_take
    simp only [runB, e_sOwnD, e_fNewD, e_fDictD, e_sDPutO, e_fDGetO, e_fDGet2, e_sFrzD, e_sPar3, e_fVar, e_fC, e_fOp, e_fUn, e_fNil, e_fCons, e_fTup, e_fLst, e_fOfL, e_fTest, e_fAnd, e_fOr, e_fNot, e_fBool, e_fIf, e_fChain, e_fVarB, e_fUnL, e_fNoPart, e_fPart, e_fSl, e_gN, e_gNl, e_gCs, e_gTp, e_fZip, e_fYes, e_sNx, e_sSeq, e_sAsg, e_sOwn, e_sApp, e_sExt, e_sIns, e_sSetIx, e_fIxO, e_fSlO, e_sRet, e_sRetL, e_sRetO, e_sFrz, e_sDrop, e_sIf, e_sPar, e_fCall, e_fCallL, e_fCallB, e_sParO, e_fOpO, e_fItems, e_fRange, e_fMin, e_orF, fI0, fI, fS0, dNeg, dAbs, dLen, dSum, dTuple, ix_t0, ix_t1, ix_t2, ix_l0, ix_l1, ownAt, setOwn, EV.cont, EV.with, seqOf, itemsOf, List.map_cons, List.map_nil, List.cons_append, List.nil_append, List.replicate_succ, List.replicate_zero, List.getElem?_cons_zero, List.getElem?_cons_succ, List.getElem?_nil, List.set_cons_zero, List.set_cons_succ, List.length_cons, List.length_nil, at0, at1, h0, decide_false, m1, m2, if_true, ix21, hg, m3, m4, m5, m6]
theorem call_take {b : List PyData} {m : Int} {φ : FL} {i : Nat} {δ δ1 : En} (hb : Bg b) (h1 : 1 ≤ m) (h2 : m ≤ 2000) {b0 : List PyData} (e0 : ownAt δ i = some b0) (e1 : φ δ = some ([.int m], δ1)) (e2 : ownAt δ1 i = some b) : ∃ r b', fCallB fn__law_take i φ δ = some (.int r, setOwn δ1 i b') ∧ 0 ≤ r ∧ r < m ∧ Bg b' := by
  obtain ⟨r, b', h, hr1, hr2, hb'⟩ := take_ok hb h1 h2
  refine ⟨r, b', ?_, hr1, hr2, hb'⟩
  rw [e_fCallB, e0]
  dsimp only
  rw [e1]
  dsimp only
  rw [e2]
  dsimp only
  rw [h]
theorem cart_ok {b : List PyData} (hb : Bg b) : ∃ r b', fn__law_cart b [] = some (.int r, b') ∧ 1 ≤ r ∧ r ≤ 1000 ∧ Bg b' := by
  obtain ⟨j, b1, h1, hj0, hj3, hb1⟩ := take_ok (m := 3) hb (by decide) (by decide)
  obtain ⟨m, hm, hm1, hm2⟩ : ∃ m, dIx (.list [.int 5, .int 60, .int 1000]) (.int j) = some (.int m) ∧ 1 ≤ m ∧ m ≤ 1000 := by
    have : j = 0 ∨ j = 1 ∨ j = 2 := by omega
    rcases this with rfl | rfl | rfl
    · exact ⟨5, rfl, by decide, by decide⟩
    · exact ⟨60, rfl, by decide, by decide⟩
    · exact ⟨1000, rfl, by decide, by decide⟩
  obtain ⟨r, b2, h2, hr0, hr1, hb2⟩ := take_ok (m := m) hb1 hm1 (by omega)
  refine ⟨1 + r, b2, ?_, by omega, by omega, hb2⟩
  unfold fn__law_cart b__law_cart
  simp only [runB, e_sOwnD, e_fNewD, e_fDictD, e_sDPutO, e_fDGetO, e_fDGet2, e_sFrzD, e_sPar3, e_fVar, e_fC, e_fOp, e_fUn, e_fNil, e_fCons, e_fTup, e_fLst, e_fOfL, e_fTest, e_fAnd, e_fOr, e_fNot, e_fBool, e_fIf, e_fChain, e_fVarB, e_fUnL, e_fNoPart, e_fPart, e_fSl, e_gN, e_gNl, e_gCs, e_gTp, e_fZip, e_fYes, e_sNx, e_sSeq, e_sAsg, e_sOwn, e_sApp, e_sExt, e_sIns, e_sSetIx, e_fIxO, e_fSlO, e_sRet, e_sRetL, e_sRetO, e_sFrz, e_sDrop, e_sIf, e_sPar, e_fCall, e_fCallL, e_fCallB, e_sParO, e_fOpO, e_fItems, e_fRange, e_fMin, e_orF, fI0, fI, fS0, dNeg, dAbs, dLen, dSum, dTuple, ix_t0, ix_t1, ix_t2, ix_l0, ix_l1, ownAt, setOwn, EV.cont, EV.with, seqOf, itemsOf, List.map_cons, List.map_nil, List.cons_append, List.nil_append, List.replicate_succ, List.replicate_zero, List.getElem?_cons_zero, List.getElem?_cons_succ, List.getElem?_nil, List.set_cons_zero, List.set_cons_succ, List.length_cons, List.length_nil]
  rw [if_pos (by decide)]
  simp only [e_sOwnD, e_fNewD, e_fDictD, e_sDPutO, e_fDGetO, e_fDGet2, e_sFrzD, e_sPar3, e_fVar, e_fC, e_fOp, e_fUn, e_fNil, e_fCons, e_fTup, e_fLst, e_fOfL, e_fTest, e_fAnd, e_fOr, e_fNot, e_fBool, e_fIf, e_fChain, e_fVarB, e_fUnL, e_fNoPart, e_fPart, e_fSl, e_gN, e_gNl, e_gCs, e_gTp, e_fZip, e_fYes, e_sNx, e_sSeq, e_sAsg, e_sOwn, e_sApp, e_sExt, e_sIns, e_sSetIx, e_fIxO, e_fSlO, e_sRet, e_sRetL, e_sRetO, e_sFrz, e_sDrop, e_sIf, e_sPar, e_fCall, e_fCallL, e_fCallB, e_sParO, e_fOpO, e_fItems, e_fRange, e_fMin, e_orF, fI0, fI, fS0, dNeg, dAbs, dLen, dSum, dTuple, ix_t0, ix_t1, ix_t2, ix_l0, ix_l1, ownAt, setOwn, EV.cont, EV.with, seqOf, itemsOf, List.map_cons, List.map_nil, List.cons_append, List.nil_append, List.replicate_succ, List.replicate_zero, List.getElem?_cons_zero, List.getElem?_cons_succ, List.getElem?_nil, List.set_cons_zero, List.set_cons_succ, List.length_cons, List.length_nil, h1, hm, h2]
theorem pick3 {j : Int} (x y z : Int) (h0 : 0 ≤ j) (h3 : j < 3) : ∃ m, dIx (.list [.int x, .int y, .int z]) (.int j) = some (.int m) ∧ (m = x ∨ m = y ∨ m = z) := by
  have : j = 0 ∨ j = 1 ∨ j = 2 := by omega
  rcases this with rfl | rfl | rfl
  · exact ⟨x, rfl, .inl rfl⟩
  · exact ⟨y, rfl, .inr (.inl rfl)⟩
  · exact ⟨z, rfl, .inr (.inr rfl)⟩
theorem pick2 {j : Int} (x y : Int) (h0 : 0 ≤ j) (h3 : j < 2) : ∃ m, dIx (.list [.int x, .int y]) (.int j) = some (.int m) ∧ (m = x ∨ m = y) := by
  have : j = 0 ∨ j = 1 := by omega
  rcases this with rfl | rfl
  · exact ⟨x, rfl, .inl rfl⟩
  · exact ⟨y, rfl, .inr rfl⟩
theorem folk_loop {fast : Int} (hfa : 1 ≤ fast ∧ fast ≤ 100) (alike : Bool) : ∀ (ns : List Str) (b : List PyData) (acc : List PyData) (x5 x6 : EV), Bg b → acc.length + ns.length ≤ 1000 →
    ∃ (fs : List Fk) (b' : List PyData) (y5 y6 : EV), loopF (gN 5) (sSeq (sAsg (fOp dAdd (fC (.int 1)) (fCallB fn__law_take 0 (fCons (fOp dIx (fOfL (fLst (fCons (fC (.int 5)) (fCons (fC (.int 60)) (fCons (fC (.int 200)) fNil))))) (fCallB fn__law_take 0 (fCons (fC (.int 3)) fNil))) fNil))) (gN 6))
    (sApp 2 (fTup (fCons (fVar 5) (fCons (fVar 6) (fCons (fIf (fTest (fVar 4)) (fVar 3) (fOp dAdd (fC (.int 1)) (fCallB fn__law_take 0 (fCons (fOp dIx (fOfL (fLst (fCons (fC (.int 5)) (fCons (fC (.int 100)) fNil)))) (fCallB fn__law_take 0 (fCons (fC (.int 2)) fNil))) fNil)))) fNil)))))) (ns.map PyData.str) [.bag b, .dat (.int 7), .own acc, .dat (.int fast), .dat (.bool alike), x5, x6] =
      some (.nx [.bag b', .dat (.int 7), .own (acc ++ fs.map encF), .dat (.int fast), .dat (.bool alike), y5, y6]) ∧ fs.map (·.1) = ns ∧ (∀ p, p ∈ fs → 1 ≤ p.2.1 ∧ p.2.1 ≤ 200 ∧ 1 ≤ p.2.2 ∧ p.2.2 ≤ 100) ∧ Bg b'
  | [], b, acc, x5, x6, hb, _ => ⟨[], b, x5, x6, by simp only [List.map_nil, List.append_nil, loopF], rfl, fun p hp => by simp at hp, hb⟩
  | n :: ns, b, acc, x5, x6, hb, ha => by
    rw [List.length_cons] at ha
    obtain ⟨j, b1, h1, hj0, hj3, hb1⟩ := take_ok (m := 3) hb (by decide) (by decide)
    obtain ⟨m, hm, hm1⟩ := pick3 5 60 200 hj0 hj3
    obtain ⟨r, b2, h2, hr0, hr1, hb2⟩ := take_ok (m := m) hb1 (by omega) (by omega)
    obtain ⟨j', b3, h3, hj0', hj3', hb3⟩ := take_ok (m := 2) hb2 (by decide) (by decide)
    obtain ⟨m', hm', hm1'⟩ := pick2 5 100 hj0' hj3'
    obtain ⟨r', b4, h4, hr0', hr1', hb4⟩ := take_ok (m := m') hb3 (by omega) (by omega)
    have hz : acc.length < 50000 := by omega
    cases alike with
    | true =>
      obtain ⟨fs, b', y5, y6, ih, i1, i2, i3⟩ := folk_loop hfa true ns b2 (acc ++ [encF (n, 1 + r, fast)]) (.dat (.str n)) (.dat (.int (1 + r))) hb2 (by rw [List.length_append]; show acc.length + 1 + ns.length ≤ 1000; omega)
      refine ⟨(n, 1 + r, fast) :: fs, b', y5, y6, ?_, by rw [List.map_cons, i1], fun p hp => ?_, i3⟩
      · rw [List.map_cons]
        unfold loopF
        simp only [e_sOwnD, e_fNewD, e_fDictD, e_sDPutO, e_fDGetO, e_fDGet2, e_sFrzD, e_sPar3, e_fVar, e_fC, e_fOp, e_fUn, e_fNil, e_fCons, e_fTup, e_fLst, e_fOfL, e_fTest, e_fAnd, e_fOr, e_fNot, e_fBool, e_fIf, e_fChain, e_fVarB, e_fUnL, e_fNoPart, e_fPart, e_fSl, e_gN, e_gNl, e_gCs, e_gTp, e_fZip, e_fYes, e_sNx, e_sSeq, e_sAsg, e_sOwn, e_sApp, e_sExt, e_sIns, e_sSetIx, e_fIxO, e_fSlO, e_sRet, e_sRetL, e_sRetO, e_sFrz, e_sDrop, e_sIf, e_sPar, e_fCall, e_fCallL, e_fCallB, e_sParO, e_fOpO, e_fItems, e_fRange, e_fMin, e_orF, fI0, fI, fS0, dNeg, dAbs, dLen, dSum, dTuple, ix_t0, ix_t1, ix_t2, ix_l0, ix_l1, ownAt, setOwn, EV.cont, EV.with, seqOf, itemsOf, List.map_cons, List.map_nil, List.cons_append, List.nil_append, List.replicate_succ, List.replicate_zero, List.getElem?_cons_zero, List.getElem?_cons_succ, List.getElem?_nil, List.set_cons_zero, List.set_cons_succ, List.length_cons, List.length_nil]
        rw [if_pos (by decide)]
        simp only [e_sOwnD, e_fNewD, e_fDictD, e_sDPutO, e_fDGetO, e_fDGet2, e_sFrzD, e_sPar3, e_fVar, e_fC, e_fOp, e_fUn, e_fNil, e_fCons, e_fTup, e_fLst, e_fOfL, e_fTest, e_fAnd, e_fOr, e_fNot, e_fBool, e_fIf, e_fChain, e_fVarB, e_fUnL, e_fNoPart, e_fPart, e_fSl, e_gN, e_gNl, e_gCs, e_gTp, e_fZip, e_fYes, e_sNx, e_sSeq, e_sAsg, e_sOwn, e_sApp, e_sExt, e_sIns, e_sSetIx, e_fIxO, e_fSlO, e_sRet, e_sRetL, e_sRetO, e_sFrz, e_sDrop, e_sIf, e_sPar, e_fCall, e_fCallL, e_fCallB, e_sParO, e_fOpO, e_fItems, e_fRange, e_fMin, e_orF, fI0, fI, fS0, dNeg, dAbs, dLen, dSum, dTuple, ix_t0, ix_t1, ix_t2, ix_l0, ix_l1, ownAt, setOwn, EV.cont, EV.with, seqOf, itemsOf, List.map_cons, List.map_nil, List.cons_append, List.nil_append, List.replicate_succ, List.replicate_zero, List.getElem?_cons_zero, List.getElem?_cons_succ, List.getElem?_nil, List.set_cons_zero, List.set_cons_succ, List.length_cons, List.length_nil, h1, hm, h2]
        rw [if_pos (by decide)]
        simp only [e_sOwnD, e_fNewD, e_fDictD, e_sDPutO, e_fDGetO, e_fDGet2, e_sFrzD, e_sPar3, e_fVar, e_fC, e_fOp, e_fUn, e_fNil, e_fCons, e_fTup, e_fLst, e_fOfL, e_fTest, e_fAnd, e_fOr, e_fNot, e_fBool, e_fIf, e_fChain, e_fVarB, e_fUnL, e_fNoPart, e_fPart, e_fSl, e_gN, e_gNl, e_gCs, e_gTp, e_fZip, e_fYes, e_sNx, e_sSeq, e_sAsg, e_sOwn, e_sApp, e_sExt, e_sIns, e_sSetIx, e_fIxO, e_fSlO, e_sRet, e_sRetL, e_sRetO, e_sFrz, e_sDrop, e_sIf, e_sPar, e_fCall, e_fCallL, e_fCallB, e_sParO, e_fOpO, e_fItems, e_fRange, e_fMin, e_orF, fI0, fI, fS0, dNeg, dAbs, dLen, dSum, dTuple, ix_t0, ix_t1, ix_t2, ix_l0, ix_l1, ownAt, setOwn, EV.cont, EV.with, seqOf, itemsOf, List.map_cons, List.map_nil, List.cons_append, List.nil_append, List.replicate_succ, List.replicate_zero, List.getElem?_cons_zero, List.getElem?_cons_succ, List.getElem?_nil, List.set_cons_zero, List.set_cons_succ, List.length_cons, List.length_nil, hz, if_true]
        rw [show acc ++ [PyData.tuple [PyData.str n, PyData.int (1 + r), PyData.int fast]] = acc ++ [encF (n, 1 + r, fast)] from rfl, ih, List.append_assoc]
        rfl
      · rcases List.mem_cons.mp hp with rfl | hp
        · dsimp only
          omega
        · exact i2 p hp
    | false =>
      obtain ⟨fs, b', y5, y6, ih, i1, i2, i3⟩ := folk_loop hfa false ns b4 (acc ++ [encF (n, 1 + r, 1 + r')]) (.dat (.str n)) (.dat (.int (1 + r))) hb4 (by rw [List.length_append]; show acc.length + 1 + ns.length ≤ 1000; omega)
      refine ⟨(n, 1 + r, 1 + r') :: fs, b', y5, y6, ?_, by rw [List.map_cons, i1], fun p hp => ?_, i3⟩
      · rw [List.map_cons]
        unfold loopF
        simp only [e_sOwnD, e_fNewD, e_fDictD, e_sDPutO, e_fDGetO, e_fDGet2, e_sFrzD, e_sPar3, e_fVar, e_fC, e_fOp, e_fUn, e_fNil, e_fCons, e_fTup, e_fLst, e_fOfL, e_fTest, e_fAnd, e_fOr, e_fNot, e_fBool, e_fIf, e_fChain, e_fVarB, e_fUnL, e_fNoPart, e_fPart, e_fSl, e_gN, e_gNl, e_gCs, e_gTp, e_fZip, e_fYes, e_sNx, e_sSeq, e_sAsg, e_sOwn, e_sApp, e_sExt, e_sIns, e_sSetIx, e_fIxO, e_fSlO, e_sRet, e_sRetL, e_sRetO, e_sFrz, e_sDrop, e_sIf, e_sPar, e_fCall, e_fCallL, e_fCallB, e_sParO, e_fOpO, e_fItems, e_fRange, e_fMin, e_orF, fI0, fI, fS0, dNeg, dAbs, dLen, dSum, dTuple, ix_t0, ix_t1, ix_t2, ix_l0, ix_l1, ownAt, setOwn, EV.cont, EV.with, seqOf, itemsOf, List.map_cons, List.map_nil, List.cons_append, List.nil_append, List.replicate_succ, List.replicate_zero, List.getElem?_cons_zero, List.getElem?_cons_succ, List.getElem?_nil, List.set_cons_zero, List.set_cons_succ, List.length_cons, List.length_nil]
        rw [if_pos (by decide)]
        simp only [e_sOwnD, e_fNewD, e_fDictD, e_sDPutO, e_fDGetO, e_fDGet2, e_sFrzD, e_sPar3, e_fVar, e_fC, e_fOp, e_fUn, e_fNil, e_fCons, e_fTup, e_fLst, e_fOfL, e_fTest, e_fAnd, e_fOr, e_fNot, e_fBool, e_fIf, e_fChain, e_fVarB, e_fUnL, e_fNoPart, e_fPart, e_fSl, e_gN, e_gNl, e_gCs, e_gTp, e_fZip, e_fYes, e_sNx, e_sSeq, e_sAsg, e_sOwn, e_sApp, e_sExt, e_sIns, e_sSetIx, e_fIxO, e_fSlO, e_sRet, e_sRetL, e_sRetO, e_sFrz, e_sDrop, e_sIf, e_sPar, e_fCall, e_fCallL, e_fCallB, e_sParO, e_fOpO, e_fItems, e_fRange, e_fMin, e_orF, fI0, fI, fS0, dNeg, dAbs, dLen, dSum, dTuple, ix_t0, ix_t1, ix_t2, ix_l0, ix_l1, ownAt, setOwn, EV.cont, EV.with, seqOf, itemsOf, List.map_cons, List.map_nil, List.cons_append, List.nil_append, List.replicate_succ, List.replicate_zero, List.getElem?_cons_zero, List.getElem?_cons_succ, List.getElem?_nil, List.set_cons_zero, List.set_cons_succ, List.length_cons, List.length_nil, h1, hm, h2]
        rw [if_pos (by decide)]
        simp only [e_sOwnD, e_fNewD, e_fDictD, e_sDPutO, e_fDGetO, e_fDGet2, e_sFrzD, e_sPar3, e_fVar, e_fC, e_fOp, e_fUn, e_fNil, e_fCons, e_fTup, e_fLst, e_fOfL, e_fTest, e_fAnd, e_fOr, e_fNot, e_fBool, e_fIf, e_fChain, e_fVarB, e_fUnL, e_fNoPart, e_fPart, e_fSl, e_gN, e_gNl, e_gCs, e_gTp, e_fZip, e_fYes, e_sNx, e_sSeq, e_sAsg, e_sOwn, e_sApp, e_sExt, e_sIns, e_sSetIx, e_fIxO, e_fSlO, e_sRet, e_sRetL, e_sRetO, e_sFrz, e_sDrop, e_sIf, e_sPar, e_fCall, e_fCallL, e_fCallB, e_sParO, e_fOpO, e_fItems, e_fRange, e_fMin, e_orF, fI0, fI, fS0, dNeg, dAbs, dLen, dSum, dTuple, ix_t0, ix_t1, ix_t2, ix_l0, ix_l1, ownAt, setOwn, EV.cont, EV.with, seqOf, itemsOf, List.map_cons, List.map_nil, List.cons_append, List.nil_append, List.replicate_succ, List.replicate_zero, List.getElem?_cons_zero, List.getElem?_cons_succ, List.getElem?_nil, List.set_cons_zero, List.set_cons_succ, List.length_cons, List.length_nil, h3, hm', h4]
        rw [if_pos (by decide)]
        simp only [e_sOwnD, e_fNewD, e_fDictD, e_sDPutO, e_fDGetO, e_fDGet2, e_sFrzD, e_sPar3, e_fVar, e_fC, e_fOp, e_fUn, e_fNil, e_fCons, e_fTup, e_fLst, e_fOfL, e_fTest, e_fAnd, e_fOr, e_fNot, e_fBool, e_fIf, e_fChain, e_fVarB, e_fUnL, e_fNoPart, e_fPart, e_fSl, e_gN, e_gNl, e_gCs, e_gTp, e_fZip, e_fYes, e_sNx, e_sSeq, e_sAsg, e_sOwn, e_sApp, e_sExt, e_sIns, e_sSetIx, e_fIxO, e_fSlO, e_sRet, e_sRetL, e_sRetO, e_sFrz, e_sDrop, e_sIf, e_sPar, e_fCall, e_fCallL, e_fCallB, e_sParO, e_fOpO, e_fItems, e_fRange, e_fMin, e_orF, fI0, fI, fS0, dNeg, dAbs, dLen, dSum, dTuple, ix_t0, ix_t1, ix_t2, ix_l0, ix_l1, ownAt, setOwn, EV.cont, EV.with, seqOf, itemsOf, List.map_cons, List.map_nil, List.cons_append, List.nil_append, List.replicate_succ, List.replicate_zero, List.getElem?_cons_zero, List.getElem?_cons_succ, List.getElem?_nil, List.set_cons_zero, List.set_cons_succ, List.length_cons, List.length_nil, hz, if_true]
        rw [show acc ++ [PyData.tuple [PyData.str n, PyData.int (1 + r), PyData.int (1 + r')]] = acc ++ [encF (n, 1 + r, 1 + r')] from rfl, ih, List.append_assoc]
        rfl
      · rcases List.mem_cons.mp hp with rfl | hp
        · dsimp only
          omega
        · exact i2 p hp
def allNames : List Str := ["ann", "bo", "cy", "dee", "eli", "fay", "gus"]
theorem all_nd : allNames.Nodup := by decide +kernel
theorem folk_ok {b : List PyData} (hb : Bg b) : ∃ fs b', fn__law_folk b [.int 7] = some (folkD fs, b') ∧ OkF fs ∧ (∃ k, fs.map (·.1) = allNames.take k) ∧ Bg b' := by
  obtain ⟨j, b1, h1, hj0, hj3, hb1⟩ := take_ok (m := 2) hb (by decide) (by decide)
  obtain ⟨m, hm, hm1⟩ := pick2 4 100 hj0 hj3
  obtain ⟨r, b2, h2, hr0, hr1, hb2⟩ := take_ok (m := m) hb1 (by omega) (by omega)
  obtain ⟨a, b3, h3, ha0, ha3, hb3⟩ := take_ok (m := 3) hb2 (by decide) (by decide)
  obtain ⟨k, b4, h4, hk0, hk7, hb4⟩ := take_ok (m := 7) hb3 (by decide) (by decide)
  have hcut : cutD [.str "ann", .str "bo", .str "cy", .str "dee", .str "eli", .str "fay", .str "gus"] none (some (1 + k)) = (allNames.take (1 + k).toNat).map PyData.str := by
    have : k = 0 ∨ k = 1 ∨ k = 2 ∨ k = 3 ∨ k = 4 ∨ k = 5 ∨ k = 6 := by omega
    rcases this with rfl | rfl | rfl | rfl | rfl | rfl | rfl <;> rfl
  obtain ⟨fs, b5, y5, y6, hloop, i1, i2, i3⟩ := folk_loop (fast := 1 + r) (by omega) (decide (a = 0)) (allNames.take (1 + k).toNat) b4 [] .un .un hb4 (by
    rw [List.length_nil, List.length_take]
    show 0 + min _ 7 ≤ 1000
    omega)
  have hlen : fs.length ≤ 7 := by
    have : (fs.map (·.1)).length ≤ 7 := by
      rw [i1, List.length_take]
      exact Nat.min_le_right _ _
    rw [List.length_map] at this
    exact this
  refine ⟨fs, b5, ?_, ⟨hlen, i2, by rw [i1]; exact List.Nodup.sublist (List.take_sublist _ _) all_nd⟩, ⟨_, i1⟩, i3⟩
  have hE : dEq (.int a) (.int 0) = some (.bool (decide (a = 0))) := rfl
  have hit : fItems (fSl (fOfL (fLst (fCons (fC (.str "ann")) (fCons (fC (.str "bo")) (fCons (fC (.str "cy")) (fCons (fC (.str "dee")) (fCons (fC (.str "eli")) (fCons (fC (.str "fay")) (fCons (fC (.str "gus")) fNil))))))))) fNoPart (fPart (fOp dAdd (fC (.int 1)) (fCallB fn__law_take 0 (fCons (fVar 1) fNil))))) [.bag b3, .dat (.int 7), .own [], .dat (.int (1 + r)), .dat (.bool (decide (a = 0))), .un, .un] = some ((allNames.take (1 + k).toNat).map PyData.str, [.bag b4, .dat (.int 7), .own [], .dat (.int (1 + r)), .dat (.bool (decide (a = 0))), .un, .un]) := by
    simp only [e_sOwnD, e_fNewD, e_fDictD, e_sDPutO, e_fDGetO, e_fDGet2, e_sFrzD, e_sPar3, e_fVar, e_fC, e_fOp, e_fUn, e_fNil, e_fCons, e_fTup, e_fLst, e_fOfL, e_fTest, e_fAnd, e_fOr, e_fNot, e_fBool, e_fIf, e_fChain, e_fVarB, e_fUnL, e_fNoPart, e_fPart, e_fSl, e_gN, e_gNl, e_gCs, e_gTp, e_fZip, e_fYes, e_sNx, e_sSeq, e_sAsg, e_sOwn, e_sApp, e_sExt, e_sIns, e_sSetIx, e_fIxO, e_fSlO, e_sRet, e_sRetL, e_sRetO, e_sFrz, e_sDrop, e_sIf, e_sPar, e_fCall, e_fCallL, e_fCallB, e_sParO, e_fOpO, e_fItems, e_fRange, e_fMin, e_orF, fI0, fI, fS0, dNeg, dAbs, dLen, dSum, dTuple, ix_t0, ix_t1, ix_t2, ix_l0, ix_l1, ownAt, setOwn, EV.cont, EV.with, seqOf, itemsOf, List.map_cons, List.map_nil, List.cons_append, List.nil_append, List.replicate_succ, List.replicate_zero, List.getElem?_cons_zero, List.getElem?_cons_succ, List.getElem?_nil, List.set_cons_zero, List.set_cons_succ, List.length_cons, List.length_nil]
    rw [if_pos (by decide)]
    simp only [e_sOwnD, e_fNewD, e_fDictD, e_sDPutO, e_fDGetO, e_fDGet2, e_sFrzD, e_sPar3, e_fVar, e_fC, e_fOp, e_fUn, e_fNil, e_fCons, e_fTup, e_fLst, e_fOfL, e_fTest, e_fAnd, e_fOr, e_fNot, e_fBool, e_fIf, e_fChain, e_fVarB, e_fUnL, e_fNoPart, e_fPart, e_fSl, e_gN, e_gNl, e_gCs, e_gTp, e_fZip, e_fYes, e_sNx, e_sSeq, e_sAsg, e_sOwn, e_sApp, e_sExt, e_sIns, e_sSetIx, e_fIxO, e_fSlO, e_sRet, e_sRetL, e_sRetO, e_sFrz, e_sDrop, e_sIf, e_sPar, e_fCall, e_fCallL, e_fCallB, e_sParO, e_fOpO, e_fItems, e_fRange, e_fMin, e_orF, fI0, fI, fS0, dNeg, dAbs, dLen, dSum, dTuple, ix_t0, ix_t1, ix_t2, ix_l0, ix_l1, ownAt, setOwn, EV.cont, EV.with, seqOf, itemsOf, List.map_cons, List.map_nil, List.cons_append, List.nil_append, List.replicate_succ, List.replicate_zero, List.getElem?_cons_zero, List.getElem?_cons_succ, List.getElem?_nil, List.set_cons_zero, List.set_cons_succ, List.length_cons, List.length_nil, h4, dSl, hcut]
  have hF := sFor_of hit hloop
  have s2 : sAsg (fOp dAdd (fC (.int 1)) (fCallB fn__law_take 0 (fCons (fOp dIx (fOfL (fLst (fCons (fC (.int 4)) (fCons (fC (.int 100)) fNil)))) (fCallB fn__law_take 0 (fCons (fC (.int 2)) fNil))) fNil))) (gN 3) [.bag b, .dat (.int 7), .own [], .un, .un, .un, .un] = some (.nx [.bag b2, .dat (.int 7), .own [], .dat (.int (1 + r)), .un, .un, .un]) := by
    simp only [e_sOwnD, e_fNewD, e_fDictD, e_sDPutO, e_fDGetO, e_fDGet2, e_sFrzD, e_sPar3, e_fVar, e_fC, e_fOp, e_fUn, e_fNil, e_fCons, e_fTup, e_fLst, e_fOfL, e_fTest, e_fAnd, e_fOr, e_fNot, e_fBool, e_fIf, e_fChain, e_fVarB, e_fUnL, e_fNoPart, e_fPart, e_fSl, e_gN, e_gNl, e_gCs, e_gTp, e_fZip, e_fYes, e_sNx, e_sSeq, e_sAsg, e_sOwn, e_sApp, e_sExt, e_sIns, e_sSetIx, e_fIxO, e_fSlO, e_sRet, e_sRetL, e_sRetO, e_sFrz, e_sDrop, e_sIf, e_sPar, e_fCall, e_fCallL, e_fCallB, e_sParO, e_fOpO, e_fItems, e_fRange, e_fMin, e_orF, fI0, fI, fS0, dNeg, dAbs, dLen, dSum, dTuple, ix_t0, ix_t1, ix_t2, ix_l0, ix_l1, ownAt, setOwn, EV.cont, EV.with, seqOf, itemsOf, List.map_cons, List.map_nil, List.cons_append, List.nil_append, List.replicate_succ, List.replicate_zero, List.getElem?_cons_zero, List.getElem?_cons_succ, List.getElem?_nil, List.set_cons_zero, List.set_cons_succ, List.length_cons, List.length_nil]
    rw [if_pos (by decide)]
    simp only [e_sOwnD, e_fNewD, e_fDictD, e_sDPutO, e_fDGetO, e_fDGet2, e_sFrzD, e_sPar3, e_fVar, e_fC, e_fOp, e_fUn, e_fNil, e_fCons, e_fTup, e_fLst, e_fOfL, e_fTest, e_fAnd, e_fOr, e_fNot, e_fBool, e_fIf, e_fChain, e_fVarB, e_fUnL, e_fNoPart, e_fPart, e_fSl, e_gN, e_gNl, e_gCs, e_gTp, e_fZip, e_fYes, e_sNx, e_sSeq, e_sAsg, e_sOwn, e_sApp, e_sExt, e_sIns, e_sSetIx, e_fIxO, e_fSlO, e_sRet, e_sRetL, e_sRetO, e_sFrz, e_sDrop, e_sIf, e_sPar, e_fCall, e_fCallL, e_fCallB, e_sParO, e_fOpO, e_fItems, e_fRange, e_fMin, e_orF, fI0, fI, fS0, dNeg, dAbs, dLen, dSum, dTuple, ix_t0, ix_t1, ix_t2, ix_l0, ix_l1, ownAt, setOwn, EV.cont, EV.with, seqOf, itemsOf, List.map_cons, List.map_nil, List.cons_append, List.nil_append, List.replicate_succ, List.replicate_zero, List.getElem?_cons_zero, List.getElem?_cons_succ, List.getElem?_nil, List.set_cons_zero, List.set_cons_succ, List.length_cons, List.length_nil, h1, hm, h2]
  have s3 : sAsg (fOp dEq (fCallB fn__law_take 0 (fCons (fC (.int 3)) fNil)) (fC (.int 0))) (gN 4) [.bag b2, .dat (.int 7), .own [], .dat (.int (1 + r)), .un, .un, .un] = some (.nx [.bag b3, .dat (.int 7), .own [], .dat (.int (1 + r)), .dat (.bool (decide (a = 0))), .un, .un]) := by
    simp only [e_sAsg, e_fOp, e_fCallB, e_fCons, e_fNil, e_fC, e_gN, ownAt, setOwn, EV.cont, EV.with, List.getElem?_cons_zero, List.set_cons_zero, List.set_cons_succ, h3, hE]
  unfold fn__law_folk b__law_folk
  simp only [runB, List.map_cons, List.map_nil, List.cons_append, List.nil_append, List.replicate_succ, List.replicate_zero]
  rw [seq_of (δ1 := [.bag b, .dat (.int 7), .own [], .un, .un, .un, .un]) rfl, seq_of s2, seq_of s3, seq_of hF]
  rfl
end Lc
set_option exponentiation.threshold 10000
namespace Lc
open PySem L2 Evl RZ Sm
/-! ### data of a shape -/
def Sh (k : Nat) (d : PyData) : Prop := PyData.canLay0 d = true ∧ d.depth ≤ k
def Nm (n : Str) : Prop := PyData.canLay0 (.str n) = true
theorem sh_int (k : Nat) (i : Int) : Sh k (.int i) := ⟨by simp [PyData.canLay0], by simp [PyData.depth]⟩
theorem sh_str (k : Nat) {n : Str} (h : Nm n) : Sh k (.str n) := ⟨h, by simp [PyData.depth]⟩
theorem depth_all {k : Nat} : ∀ {ds : List PyData}, (∀ d, d ∈ ds → d.depth ≤ k) → PyData.depthAll ds ≤ k
  | [], _ => by simp [PyData.depthAll]
  | d :: ds, h => by
    rw [PyData.depthAll]
    exact Nat.max_le.mpr ⟨h d List.mem_cons_self, depth_all fun e he => h e (List.mem_cons_of_mem _ he)⟩
theorem sh_tup {k : Nat} {ds : List PyData} (h : ∀ d, d ∈ ds → Sh k d) : Sh (k + 1) (.tuple ds) := ⟨by
  rw [PyData.canLay0]
  exact canAll fun d hd => (h d hd).1, by
  rw [PyData.depth]
  exact Nat.succ_le_succ (depth_all fun d hd => (h d hd).2)⟩
theorem sh_lst {k : Nat} {ds : List PyData} (h : ∀ d, d ∈ ds → Sh k d) : Sh (k + 1) (.list ds) := ⟨by
  rw [PyData.canLay0]
  exact canAll fun d hd => (h d hd).1, by
  rw [PyData.depth]
  exact Nat.succ_le_succ (depth_all fun d hd => (h d hd).2)⟩
theorem sh_shaped {k : Nat} {d : PyData} (h : Sh k d) (hk : k ≤ 60) : SeqAt.shaped d = true := by
  unfold SeqAt.shaped
  rw [h.1, Bool.true_and]
  exact decide_eq_true (Nat.le_trans h.2 (by omega))
theorem ne_same {k : Nat} {xs : List PyData} (h : Sh k (.list xs)) (hk : k ≤ 60) : dNe (.list xs) (.list xs) = some (.bool false) := by
  have hs := sh_shaped h hk
  show dNeD (.list xs) (.list xs) = _
  unfold dNeD
  rw [if_pos ⟨hs, hs⟩, SeqAt.eqv_refl _ h.1]
  rfl
theorem ne_sameT {k : Nat} {xs : List PyData} (h : Sh k (.tuple xs)) (hk : k ≤ 60) : dNe (.tuple xs) (.tuple xs) = some (.bool false) := by
  have hs := sh_shaped h hk
  show dNeD (.tuple xs) (.tuple xs) = _
  unfold dNeD
  rw [if_pos ⟨hs, hs⟩, SeqAt.eqv_refl _ h.1]
  rfl
theorem ne_nil {k : Nat} {x : PyData} {xs : List PyData} (h : Sh k (.list (x :: xs))) (hk : k ≤ 60) : dNe (.list (x :: xs)) (.list []) = some (.bool true) := by
  have hs := sh_shaped h hk
  have h0 : SeqAt.shaped (.list []) = true := sh_shaped (k := 1) (sh_lst fun d hd => by simp at hd) (by omega)
  show dNeD (.list (x :: xs)) (.list []) = _
  unfold dNeD
  rw [if_pos ⟨hs, h0⟩]
  simp [PyData.eqv, PyData.eqvAll]
theorem ne_nil0 : dNe (.list []) (.list []) = some (.bool false) := ne_same (k := 1) (sh_lst fun d hd => by simp at hd) (by omega)
theorem sh_encF {p : Fk} (h : Nm p.1) : Sh 1 (encF p) := sh_tup fun d hd => by
  simp only [List.mem_cons, List.not_mem_nil, or_false] at hd
  rcases hd with rfl | rfl | rfl
  · exact sh_str 0 h
  · exact sh_int 0 _
  · exact sh_int 0 _
theorem sh_encL {p : Lp} (h : Nm p.1) : Sh 1 (encL p) := sh_tup fun d hd => by
  simp only [List.mem_cons, List.not_mem_nil, or_false] at hd
  rcases hd with rfl | rfl
  · exact sh_str 0 h
  · exact sh_int 0 _
theorem sh_frD (q : Rat) : Sh 1 (frD q) := sh_tup fun d hd => by
  simp only [List.mem_cons, List.not_mem_nil, or_false] at hd
  rcases hd with rfl | rfl
  · exact sh_int 0 _
  · exact sh_int 0 _
theorem Sh.mono {k m : Nat} {d : PyData} (h : Sh k d) (hm : k ≤ m) : Sh m d := ⟨h.1, Nat.le_trans h.2 hm⟩
theorem sh_encO {p : Str × Rat} (h : Nm p.1) : Sh 2 (encO p) := sh_tup fun d hd => by
  simp only [List.mem_cons, List.not_mem_nil, or_false] at hd
  rcases hd with rfl | rfl
  · exact sh_str 1 h
  · exact sh_frD _
theorem sh_map {α : Type} {k : Nat} {enc : α → PyData} {xs : List α} (h : ∀ x, x ∈ xs → Sh k (enc x)) : ∀ d, d ∈ xs.map enc → Sh k d := fun d hd => by
  obtain ⟨x, hx, rfl⟩ := List.mem_map.mp hd
  exact h x hx
theorem all_nm : ∀ n, n ∈ allNames → Nm n := fun n hn => by
  have : allNames.all (fun n => PyData.canLay0 (.str n)) = true := by decide +kernel
  rw [List.all_eq_true] at this
  exact this n hn
/-! ### sorted -/
theorem sorted_enc {α : Type} (enc : α → PyData) (xs : List α) (h1 : ∀ x, x ∈ xs → ∀ y, y ∈ xs → PySem.W.alike (enc x) (enc y) = true) (h2 : ∀ x, x ∈ xs → tupNe (enc x) = true) (h3 : ∀ x, x ∈ xs → Sh 50 (enc x)) : dSorted (.list (xs.map enc)) = some ((xs.mergeSort fun a b => leD (enc a) (enc b)).map enc) := by
  have hk : sortOk (xs.map enc) = true := by
    unfold sortOk alikeB
    rw [Bool.and_eq_true, Bool.and_eq_true]
    refine ⟨⟨?_, ?_⟩, ?_⟩
    · simp only [List.all_eq_true]
      intro d hd e he
      obtain ⟨x, hx, rfl⟩ := List.mem_map.mp hd
      obtain ⟨y, hy, rfl⟩ := List.mem_map.mp he
      exact h1 x hx y hy
    · rw [Bool.or_eq_true]
      left
      simp only [List.all_eq_true]
      intro d hd
      obtain ⟨x, hx, rfl⟩ := List.mem_map.mp hd
      exact h2 x hx
    · simp only [List.all_eq_true]
      intro d hd
      obtain ⟨x, hx, rfl⟩ := List.mem_map.mp hd
      rw [Bool.and_eq_true]
      exact ⟨decide_eq_true (Nat.le_trans (h3 x hx).2 (by omega)), (h3 x hx).1⟩
  show (if sortOk (xs.map enc) = true then some ((xs.map enc).mergeSort leD) else none) = _
  rw [if_pos hk, PySem.W.sort_maps (r := fun a b => leD (enc a) (enc b)) (s := leD) enc fun _ _ _ _ => rfl]
/-! ### slices -/
theorem cut_to (xs : List PyData) {m : Int} (h0 : 0 ≤ m) : cutD xs none (some m) = xs.take m.toNat := by
  unfold cutD
  rw [HT.sIx_none, List.drop_zero, Nat.sub_zero]
  obtain ⟨k, rfl⟩ := Int.eq_ofNat_of_zero_le h0
  rw [show (some ((k : Nat) : Int)) = some ((k : Nat) : Int) from rfl, HT.sIx_nat]
  show xs.take (min k xs.length) = xs.take k
  by_cases h : k ≤ xs.length
  · rw [Nat.min_eq_left h]
  · rw [Nat.min_eq_right (by omega), List.take_length, List.take_of_length_le (by omega)]
theorem cut_from (xs : List PyData) {m : Int} (h0 : 0 ≤ m) : cutD xs (some m) none = xs.drop m.toNat := by
  unfold cutD
  rw [HT.sIx_none]
  obtain ⟨k, rfl⟩ := Int.eq_ofNat_of_zero_le h0
  rw [HT.sIx_nat]
  show (xs.drop (min k xs.length)).take (xs.length - min k xs.length) = xs.drop k
  by_cases h : k ≤ xs.length
  · rw [Nat.min_eq_left h, List.take_of_length_le (by rw [List.length_drop]; omega)]
  · rw [Nat.min_eq_right (by omega), Nat.sub_self, List.take_zero, List.drop_eq_nil_of_le (by omega)]
theorem cut_last (xs : List PyData) (x : PyData) : cutD (xs ++ [x]) none (some (-1)) = xs := by
  unfold cutD
  rw [HT.sIx_none, List.drop_zero, Nat.sub_zero, List.length_append]
  have : HT.sIx (xs.length + [x].length) (xs.length + [x].length) (some (-1)) = xs.length := by
    show (if (-1 : Int) < 0 then ((-1 : Int) + ((xs.length + 1 : Nat) : Int)).toNat else min (-1 : Int).toNat (xs.length + 1)) = xs.length
    rw [if_pos (by decide)]
    omega
  rw [this]
  simp
/-! ### folk in a drawn order -/
theorem mixed_loop (D : PyData) : ∀ (rest gs : List Fk) (b : List PyData) (x : EV), Bg b → gs.length + rest.length ≤ 7 →
    ∃ (hs : List Fk) (b' : List PyData) (y : EV), loopF (gN 3) (sIns 2 (fCallB fn__law_take 0 (fCons (fOp dAdd (fUn dLen (fVarB 2)) (fC (.int 1))) fNil)) (fVar 3)) (rest.map encF) [.bag b, .dat D, .own (gs.map encF), x] = some (.nx [.bag b', .dat D, .own (hs.map encF), y]) ∧ hs.Perm (gs ++ rest) ∧ Bg b'
  | [], gs, b, x, hb, _ => ⟨gs, b, x, by simp only [List.map_nil, loopF], by rw [List.append_nil], hb⟩
  | p :: rest, gs, b, x, hb, hn => by
    rw [List.length_cons] at hn
    obtain ⟨j, b1, h1, hj0, hj1, hb1⟩ := take_ok (m := ((gs.map encF).length : Int) + 1) hb (by omega) (by rw [List.length_map]; omega)
    rw [List.length_map] at hj1
    obtain ⟨hs, b', y, ih, hp, hb'⟩ := mixed_loop D rest (gs.take j.toNat ++ [p] ++ gs.drop j.toNat) b1 (.dat (encF p)) hb1 (by
      rw [List.length_append, List.length_append, List.length_take, List.length_drop]
      show min _ _ + 1 + _ + _ ≤ 7
      omega)
    refine ⟨hs, b', y, ?_, hp.trans ?_, hb'⟩
    · rw [List.map_cons]
      unfold loopF
      have hz : (gs.map encF).length < 50000 ∧ 0 ≤ j ∧ j < 50000 := ⟨by rw [List.length_map]; omega, hj0, by omega⟩
      simp only [e_sOwnD, e_fNewD, e_fDictD, e_sDPutO, e_fDGetO, e_fDGet2, e_sFrzD, e_sPar3, e_fVar, e_fC, e_fOp, e_fUn, e_fNil, e_fCons, e_fTup, e_fLst, e_fOfL, e_fTest, e_fAnd, e_fOr, e_fNot, e_fBool, e_fIf, e_fChain, e_fVarB, e_fUnL, e_fNoPart, e_fPart, e_fSl, e_gN, e_gNl, e_gCs, e_gTp, e_fZip, e_fYes, e_sNx, e_sSeq, e_sAsg, e_sOwn, e_sApp, e_sExt, e_sIns, e_sSetIx, e_fIxO, e_fSlO, e_sRet, e_sRetL, e_sRetO, e_sFrz, e_sDrop, e_sIf, e_sPar, e_fCall, e_fCallL, e_fCallB, e_sParO, e_fOpO, e_fItems, e_fRange, e_fMin, e_orF, fI0, fI, fS0, dNeg, dAbs, dLen, dSum, dTuple, ix_t0, ix_t1, ix_t2, ix_l0, ix_l1, ownAt, setOwn, EV.cont, EV.with, seqOf, itemsOf, List.map_cons, List.map_nil, List.cons_append, List.nil_append, List.replicate_succ, List.replicate_zero, List.getElem?_cons_zero, List.getElem?_cons_succ, List.getElem?_nil, List.set_cons_zero, List.set_cons_succ, List.length_cons, List.length_nil, h1]
      rw [if_pos hz]
      dsimp only
      rw [← List.map_take, ← List.map_drop, show ([encF p] : List PyData) = [p].map encF from rfl, ← List.map_append, ← List.map_append]
      exact ih
    · have : (gs.take j.toNat ++ [p] ++ gs.drop j.toNat).Perm (gs ++ [p]) := by
        have e1 : (gs.take j.toNat ++ [p] ++ gs.drop j.toNat).Perm (gs.take j.toNat ++ gs.drop j.toNat ++ [p]) := by
          rw [List.append_assoc, List.append_assoc]
          exact List.Perm.append_left _ List.perm_append_comm
        rw [List.take_append_drop] at e1
        exact e1
      have := this.append_right rest
      rw [List.append_assoc gs [p] rest] at this
      exact this
theorem mixed_ok {b : List PyData} (hb : Bg b) {fs : List Fk} (hl : fs.length ≤ 7) : ∃ (hs : List Fk) (b' : List PyData), fn__law_mixed b [folkD fs] = some (.list (hs.map encF), b') ∧ hs.Perm fs ∧ Bg b' := by
  obtain ⟨hs, b', y, h, hp, hb'⟩ := mixed_loop (folkD fs) fs [] b .un hb (by rw [List.length_nil]; omega)
  rw [List.nil_append] at hp
  refine ⟨hs, b', ?_, hp, hb'⟩
  have hF := sFor_of (φ := fItems (fVar 1)) (δ := [.bag b, .dat (folkD fs), .own ([].map encF), .un]) rfl h
  unfold fn__law_mixed b__law_mixed
  simp only [runB, List.map_cons, List.map_nil, List.cons_append, List.nil_append, List.replicate_succ, List.replicate_zero]
  rw [List.map_nil] at hF
  rw [seq_of (δ1 := [.bag b, .dat (folkD fs), .own [], .un]) rfl, seq_of hF]
  rfl
/-! ### leaps -/
theorem ways_comp (F Z M : PyData) (acc : List PyData) : ∀ (hs : List Fk) (b : List PyData) (x5 : EV), x5.mine = false → Bg b → hs.length ≤ 1000 →
    ∃ (ls : List Lp) (b' : List PyData), compL [6] (gN 6) fYes (fTup (fCons (fOp dIx (fVar 6) (fC (.int 0))) (fCons (fOp dSub (fC (.int 1)) (fOp dMul (fC (.int 2)) (fCallB fn__law_take 0 (fCons (fC (.int 2)) fNil)))) fNil))) (hs.map encF) [.bag b, .dat F, .own acc, .dat Z, .dat M, x5, .un] = some (ls.map encL, [.bag b', .dat F, .own acc, .dat Z, .dat M, x5, .un]) ∧ ls.map (·.1) = hs.map (·.1) ∧ (∀ p, p ∈ ls → p.2 = 1 ∨ p.2 = -1) ∧ Bg b'
  | [], b, x5, _, hb, _ => ⟨[], b, rfl, rfl, fun p hp => by simp at hp, hb⟩
  | h :: hs, b, x5, hx, hb, hn => by
    rw [List.length_cons] at hn
    obtain ⟨r, b1, h1, hr0, hr1, hb1⟩ := take_ok (m := 2) hb (by decide) (by decide)
    obtain ⟨ls, b', ih, i1, i2, i3⟩ := ways_comp F Z M acc hs b1 x5 hx hb1 (by omega)
    have hi : dIx (encF h) (.int 0) = some (.str h.1) := ix_t0
    have m1 : cMulB 2 r = true := mulB (pow20 (by decide) 8000 (by omega)) (pow20 (by omega) 8000 (by omega))
    refine ⟨(h.1, 1 - 2 * r) :: ls, b', ?_, by rw [List.map_cons, List.map_cons, i1], fun p hp => ?_, i3⟩
    · rw [List.map_cons]
      unfold compL
      have e1 : gN 6 (encF h) (wipeE [.bag b, .dat F, .own acc, .dat Z, .dat M, x5, .un] [6]) = some [.bag b, .dat F, .own acc, .dat Z, .dat M, x5, .dat (encF h)] := rfl
      have e2 : fTup (fCons (fOp dIx (fVar 6) (fC (.int 0))) (fCons (fOp dSub (fC (.int 1)) (fOp dMul (fC (.int 2)) (fCallB fn__law_take 0 (fCons (fC (.int 2)) fNil)))) fNil)) [.bag b, .dat F, .own acc, .dat Z, .dat M, x5, .dat (encF h)] = some (encL (h.1, 1 - 2 * r), [.bag b1, .dat F, .own acc, .dat Z, .dat M, x5, .dat (encF h)]) := by
        simp only [e_sOwnD, e_fNewD, e_fDictD, e_sDPutO, e_fDGetO, e_fDGet2, e_sFrzD, e_sPar3, e_fVar, e_fC, e_fOp, e_fUn, e_fNil, e_fCons, e_fTup, e_fLst, e_fOfL, e_fTest, e_fAnd, e_fOr, e_fNot, e_fBool, e_fIf, e_fChain, e_fVarB, e_fUnL, e_fNoPart, e_fPart, e_fSl, e_gN, e_gNl, e_gCs, e_gTp, e_fZip, e_fYes, e_sNx, e_sSeq, e_sAsg, e_sOwn, e_sApp, e_sExt, e_sIns, e_sSetIx, e_fIxO, e_fSlO, e_sRet, e_sRetL, e_sRetO, e_sFrz, e_sDrop, e_sIf, e_sPar, e_fCall, e_fCallL, e_fCallB, e_sParO, e_fOpO, e_fItems, e_fRange, e_fMin, e_orF, fI0, fI, fS0, dNeg, dAbs, dLen, dSum, dTuple, ix_t0, ix_t1, ix_t2, ix_l0, ix_l1, ownAt, setOwn, EV.cont, EV.with, seqOf, itemsOf, List.map_cons, List.map_nil, List.cons_append, List.nil_append, List.replicate_succ, List.replicate_zero, List.getElem?_cons_zero, List.getElem?_cons_succ, List.getElem?_nil, List.set_cons_zero, List.set_cons_succ, List.length_cons, List.length_nil, hi, h1, m1, if_true]
        rw [if_pos (by decide)]
        rfl
      have e3 : backE [6] 0 [.bag b, .dat F, .own acc, .dat Z, .dat M, x5, .un] [.bag b1, .dat F, .own acc, .dat Z, .dat M, x5, .dat (encF h)] = [.bag b1, .dat F, .own acc, .dat Z, .dat M, x5, .un] := by
        cases x5 <;> first | rfl | cases hx
      rw [e1]
      dsimp only [fYes]
      rw [e2]
      dsimp only
      rw [e3, ih]
      rfl
    · rcases List.mem_cons.mp hp with rfl | hp
      · dsimp only
        omega
      · exact i2 p hp
theorem OkLs.of_left {fs : List Fk} {ls : List Lp} {lss : List (List Lp)} (h : OkL fs ls) (h' : OkLs (left fs (ls.map (·.1))) lss) : OkLs fs (ls :: lss) := ⟨h, h'⟩
theorem left_mem {fs : List Fk} {ns : List Str} {n : Str} (h : n ∈ fs.map (·.1)) (hn : ¬ n ∈ ns) : n ∈ (left fs ns).map (·.1) := by
  obtain ⟨p, hp, rfl⟩ := List.mem_map.mp h
  refine List.mem_map.mpr ⟨p, ?_, rfl⟩
  unfold left
  rw [List.mem_filter]
  exact ⟨hp, by simpa using hn⟩
def namesOf (lss : List (List Lp)) : List Str := (lss.map fun ls => ls.map (·.1)).flatten
theorem leaps_whl (F : PyData) : ∀ (n : Nat) (hs : List Fk) (b acc : List PyData) (x4 x5 : EV), x5.mine = false → Bg b → hs.length < n → hs.length ≤ 7 → acc.length + hs.length ≤ 1000 → (hs.map (·.1)).Nodup → (∀ p, p ∈ hs → Nm p.1) →
    ∃ (lss : List (List Lp)) (b' : List PyData) (y4 y5 : EV), whl (fTest (fOp dNe (fVar 3) (fOfL (fLst fNil)))) (sSeq (sAsg (fOp dAdd (fC (.int 1)) (fCallB fn__law_take 0 (fCons (fMin (fC (.int 3)) (fUn dLen (fVar 3))) fNil))) (gN 4))
    (sSeq (sAsg (fOfL (fLc (fItems (fSl (fVar 3) fNoPart (fPart (fVar 4)))) [6] (gN 6) fYes (fTup (fCons (fOp dIx (fVar 6) (fC (.int 0))) (fCons (fOp dSub (fC (.int 1)) (fOp dMul (fC (.int 2)) (fCallB fn__law_take 0 (fCons (fC (.int 2)) fNil)))) fNil))))) (gN 5))
    (sSeq (sApp 2 (fUn dTuple (fOfL (fUnL dSorted (fVar 5)))))
    (sAsg (fSl (fVar 3) (fPart (fVar 4)) fNoPart) (gN 3))))) n [.bag b, .dat F, .own acc, .dat (.list (hs.map encF)), x4, x5, .un] = some (.nx [.bag b', .dat F, .own (acc ++ lss.map onceD), .dat (.list []), y4, y5, .un]) ∧
      (∀ fs : List Fk, (∀ p, p ∈ hs → p.1 ∈ fs.map (·.1)) → OkLs fs lss) ∧ lss.length ≤ hs.length ∧ (namesOf lss).Perm (hs.map (·.1)) ∧ Bg b'
  | 0, hs, _, _, _, _, _, _, h, _, _, _, _ => by omega
  | n + 1, [], b, acc, x4, x5, hx, hb, _, _, _, _, _ => ⟨[], b, x4, x5, by
      unfold whl
      have : fTest (fOp dNe (fVar 3) (fOfL (fLst fNil))) [.bag b, .dat F, .own acc, .dat (.list ([].map encF)), x4, x5, .un] = some (false, [.bag b, .dat F, .own acc, .dat (.list []), x4, x5, .un]) := by
        simp only [e_fTest, e_fOp, e_fVar, e_fOfL, e_fLst, e_fNil, List.map_nil, List.getElem?_cons_zero, List.getElem?_cons_succ, List.length_nil]
        rw [if_pos (by decide)]
        simp only [ne_nil0]
      rw [this, List.map_nil, List.append_nil], fun _ _ => trivial, Nat.le_refl _, List.Perm.refl _, hb⟩
  | n + 1, h :: hs, b, acc, x4, x5, hx, hb, hn, h7, ha, hnd, hnm => by
    have hlen : ((h :: hs).map encF).length = (h :: hs).length := List.length_map _
    obtain ⟨r, b1, h1, hr0, hr1, hb1⟩ := take_ok (m := if (((h :: hs).map encF).length : Int) < 3 then (((h :: hs).map encF).length : Int) else 3) hb (by
      rw [hlen, List.length_cons]
      split <;> omega) (by split <;> omega)
    have hm2 : (1 + r).toNat ≤ (h :: hs).length := by
      rw [hlen, List.length_cons] at hr1
      rw [List.length_cons]
      split at hr1 <;> omega
    generalize hmm : (1 + r).toNat = m at hm2
    have hm1 : 1 ≤ m := by omega
    have hsub : ((h :: hs).take m).Sublist (h :: hs) := List.take_sublist _ _
    obtain ⟨ls, b2, h2, i1, i2, hb2⟩ := ways_comp F (.list ((h :: hs).map encF)) (.int (1 + r)) acc ((h :: hs).take m) b1 x5 hx hb1 (by
      rw [List.length_take]
      omega)
    have hL := fLc_of (φ := fItems (fSl (fVar 3) fNoPart (fPart (fVar 4)))) (δ := [.bag b1, .dat F, .own acc, .dat (.list ((h :: hs).map encF)), .dat (.int (1 + r)), x5, .un]) (ds := ((h :: hs).take m).map encF) (δ1 := [.bag b1, .dat F, .own acc, .dat (.list ((h :: hs).map encF)), .dat (.int (1 + r)), x5, .un]) (by
        simp only [e_sOwnD, e_fNewD, e_fDictD, e_sDPutO, e_fDGetO, e_fDGet2, e_sFrzD, e_sPar3, e_fVar, e_fC, e_fOp, e_fUn, e_fNil, e_fCons, e_fTup, e_fLst, e_fOfL, e_fTest, e_fAnd, e_fOr, e_fNot, e_fBool, e_fIf, e_fChain, e_fVarB, e_fUnL, e_fNoPart, e_fPart, e_fSl, e_gN, e_gNl, e_gCs, e_gTp, e_fZip, e_fYes, e_sNx, e_sSeq, e_sAsg, e_sOwn, e_sApp, e_sExt, e_sIns, e_sSetIx, e_fIxO, e_fSlO, e_sRet, e_sRetL, e_sRetO, e_sFrz, e_sDrop, e_sIf, e_sPar, e_fCall, e_fCallL, e_fCallB, e_sParO, e_fOpO, e_fItems, e_fRange, e_fMin, e_orF, fI0, fI, fS0, dNeg, dAbs, dLen, dSum, dTuple, ix_t0, ix_t1, ix_t2, ix_l0, ix_l1, ownAt, setOwn, EV.cont, EV.with, seqOf, itemsOf, List.map_cons, List.map_nil, List.cons_append, List.nil_append, List.replicate_succ, List.replicate_zero, List.getElem?_cons_zero, List.getElem?_cons_succ, List.getElem?_nil, List.set_cons_zero, List.set_cons_succ, List.length_cons, List.length_nil, dSl, cut_to _ (show (0 : Int) ≤ 1 + r by omega), hmm]
        rw [← List.map_cons, List.map_take]) (by
        rw [List.length_map, List.length_take]
        omega) h2
    have hnm1 : ∀ p, p ∈ ls → Nm p.1 := fun p hp => by
      have : p.1 ∈ ((h :: hs).take m).map (·.1) := by
        rw [← i1]
        exact List.mem_map.mpr ⟨p, hp, rfl⟩
      obtain ⟨k, hk, e⟩ := List.mem_map.mp this
      rw [← e]
      exact hnm k (hsub.subset hk)
    have hso := sorted_enc encL ls (fun x _ y _ => by
      show PySem.W.alike (.tuple [.str x.1, .int x.2]) (.tuple [.str y.1, .int y.2]) = true
      simp [PySem.W.alike, PySem.W.alikeAll]) (fun x _ => rfl) (fun x hx => (sh_encL (hnm1 x hx)).mono (by omega))
    generalize hls' : (ls.mergeSort fun a b => leD (encL a) (encL b)) = ls' at hso
    have hperm : ls'.Perm ls := by
      rw [← hls']
      exact List.mergeSort_perm _ _
    have hz : acc.length < 50000 := by omega
    have hdrop : ((h :: hs).drop m).length = (h :: hs).length - m := List.length_drop
    obtain ⟨lss, b', y4, y5, ih, j1, j2, j3, j4⟩ := leaps_whl F n ((h :: hs).drop m) b2 (acc ++ [onceD ls']) (.dat (.int (1 + r))) (.dat (.list (ls.map encL))) rfl hb2 (by omega) (by omega) (by
      rw [List.length_append, hdrop]
      show acc.length + 1 + _ ≤ 1000
      omega) (((List.drop_sublist _ _).map _).nodup hnd) (fun p hp => hnm p ((List.drop_sublist _ _).subset hp))
    refine ⟨ls' :: lss, b', y4, y5, ?_, fun fs hfs => ?_, ?_, ?_, j4⟩
    · unfold whl
      have t0 : fTest (fOp dNe (fVar 3) (fOfL (fLst fNil))) [.bag b, .dat F, .own acc, .dat (.list ((h :: hs).map encF)), x4, x5, .un] = some (true, [.bag b, .dat F, .own acc, .dat (.list ((h :: hs).map encF)), x4, x5, .un]) := by
        have := ne_nil (k := 2) (x := encF h) (xs := hs.map encF) (sh_lst (k := 1) (sh_map (xs := h :: hs) fun p hp => sh_encF (hnm p hp))) (by omega)
        simp only [e_fTest, e_fOp, e_fVar, e_fOfL, e_fLst, e_fNil, List.map_cons, List.getElem?_cons_zero, List.getElem?_cons_succ, List.length_nil]
        rw [if_pos (by decide)]
        simp only [this]
      rw [t0]
      dsimp only
      have s1 : sAsg (fOp dAdd (fC (.int 1)) (fCallB fn__law_take 0 (fCons (fMin (fC (.int 3)) (fUn dLen (fVar 3))) fNil))) (gN 4) [.bag b, .dat F, .own acc, .dat (.list ((h :: hs).map encF)), x4, x5, .un] = some (.nx [.bag b1, .dat F, .own acc, .dat (.list ((h :: hs).map encF)), .dat (.int (1 + r)), x5, .un]) := by
        generalize (h :: hs).map encF = Z at h1
        simp only [e_sOwnD, e_fNewD, e_fDictD, e_sDPutO, e_fDGetO, e_fDGet2, e_sFrzD, e_sPar3, e_fVar, e_fC, e_fOp, e_fUn, e_fNil, e_fCons, e_fTup, e_fLst, e_fOfL, e_fTest, e_fAnd, e_fOr, e_fNot, e_fBool, e_fIf, e_fChain, e_fVarB, e_fUnL, e_fNoPart, e_fPart, e_fSl, e_gN, e_gNl, e_gCs, e_gTp, e_fZip, e_fYes, e_sNx, e_sSeq, e_sAsg, e_sOwn, e_sApp, e_sExt, e_sIns, e_sSetIx, e_fIxO, e_fSlO, e_sRet, e_sRetL, e_sRetO, e_sFrz, e_sDrop, e_sIf, e_sPar, e_fCall, e_fCallL, e_fCallB, e_sParO, e_fOpO, e_fItems, e_fRange, e_fMin, e_orF, fI0, fI, fS0, dNeg, dAbs, dLen, dSum, dTuple, ix_t0, ix_t1, ix_t2, ix_l0, ix_l1, ownAt, setOwn, EV.cont, EV.with, seqOf, itemsOf, List.map_cons, List.map_nil, List.cons_append, List.nil_append, List.replicate_succ, List.replicate_zero, List.getElem?_cons_zero, List.getElem?_cons_succ, List.getElem?_nil, List.set_cons_zero, List.set_cons_succ, List.length_cons, List.length_nil, h1]
      have s2 : sAsg (fOfL (fLc (fItems (fSl (fVar 3) fNoPart (fPart (fVar 4)))) [6] (gN 6) fYes (fTup (fCons (fOp dIx (fVar 6) (fC (.int 0))) (fCons (fOp dSub (fC (.int 1)) (fOp dMul (fC (.int 2)) (fCallB fn__law_take 0 (fCons (fC (.int 2)) fNil)))) fNil))))) (gN 5) [.bag b1, .dat F, .own acc, .dat (.list ((h :: hs).map encF)), .dat (.int (1 + r)), x5, .un] = some (.nx [.bag b2, .dat F, .own acc, .dat (.list ((h :: hs).map encF)), .dat (.int (1 + r)), .dat (.list (ls.map encL)), .un]) := by
        simp only [e_sAsg, e_fOfL, hL, e_gN, List.set_cons_zero, List.set_cons_succ]
      have s3 : sApp 2 (fUn dTuple (fOfL (fUnL dSorted (fVar 5)))) [.bag b2, .dat F, .own acc, .dat (.list ((h :: hs).map encF)), .dat (.int (1 + r)), .dat (.list (ls.map encL)), .un] = some (.nx [.bag b2, .dat F, .own (acc ++ [onceD ls']), .dat (.list ((h :: hs).map encF)), .dat (.int (1 + r)), .dat (.list (ls.map encL)), .un]) := by
        generalize (h :: hs).map encF = Z
        simp only [e_sOwnD, e_fNewD, e_fDictD, e_sDPutO, e_fDGetO, e_fDGet2, e_sFrzD, e_sPar3, e_fVar, e_fC, e_fOp, e_fUn, e_fNil, e_fCons, e_fTup, e_fLst, e_fOfL, e_fTest, e_fAnd, e_fOr, e_fNot, e_fBool, e_fIf, e_fChain, e_fVarB, e_fUnL, e_fNoPart, e_fPart, e_fSl, e_gN, e_gNl, e_gCs, e_gTp, e_fZip, e_fYes, e_sNx, e_sSeq, e_sAsg, e_sOwn, e_sApp, e_sExt, e_sIns, e_sSetIx, e_fIxO, e_fSlO, e_sRet, e_sRetL, e_sRetO, e_sFrz, e_sDrop, e_sIf, e_sPar, e_fCall, e_fCallL, e_fCallB, e_sParO, e_fOpO, e_fItems, e_fRange, e_fMin, e_orF, fI0, fI, fS0, dNeg, dAbs, dLen, dSum, dTuple, ix_t0, ix_t1, ix_t2, ix_l0, ix_l1, ownAt, setOwn, EV.cont, EV.with, seqOf, itemsOf, List.map_cons, List.map_nil, List.cons_append, List.nil_append, List.replicate_succ, List.replicate_zero, List.getElem?_cons_zero, List.getElem?_cons_succ, List.getElem?_nil, List.set_cons_zero, List.set_cons_succ, List.length_cons, List.length_nil, hso, hz, if_true]
        rfl
      have s4 : sAsg (fSl (fVar 3) (fPart (fVar 4)) fNoPart) (gN 3) [.bag b2, .dat F, .own (acc ++ [onceD ls']), .dat (.list ((h :: hs).map encF)), .dat (.int (1 + r)), .dat (.list (ls.map encL)), .un] = some (.nx [.bag b2, .dat F, .own (acc ++ [onceD ls']), .dat (.list (((h :: hs).drop m).map encF)), .dat (.int (1 + r)), .dat (.list (ls.map encL)), .un]) := by
        rw [List.map_drop]
        generalize (h :: hs).map encF = Z
        simp only [e_sOwnD, e_fNewD, e_fDictD, e_sDPutO, e_fDGetO, e_fDGet2, e_sFrzD, e_sPar3, e_fVar, e_fC, e_fOp, e_fUn, e_fNil, e_fCons, e_fTup, e_fLst, e_fOfL, e_fTest, e_fAnd, e_fOr, e_fNot, e_fBool, e_fIf, e_fChain, e_fVarB, e_fUnL, e_fNoPart, e_fPart, e_fSl, e_gN, e_gNl, e_gCs, e_gTp, e_fZip, e_fYes, e_sNx, e_sSeq, e_sAsg, e_sOwn, e_sApp, e_sExt, e_sIns, e_sSetIx, e_fIxO, e_fSlO, e_sRet, e_sRetL, e_sRetO, e_sFrz, e_sDrop, e_sIf, e_sPar, e_fCall, e_fCallL, e_fCallB, e_sParO, e_fOpO, e_fItems, e_fRange, e_fMin, e_orF, fI0, fI, fS0, dNeg, dAbs, dLen, dSum, dTuple, ix_t0, ix_t1, ix_t2, ix_l0, ix_l1, ownAt, setOwn, EV.cont, EV.with, seqOf, itemsOf, List.map_cons, List.map_nil, List.cons_append, List.nil_append, List.replicate_succ, List.replicate_zero, List.getElem?_cons_zero, List.getElem?_cons_succ, List.getElem?_nil, List.set_cons_zero, List.set_cons_succ, List.length_cons, List.length_nil, dSl, cut_from _ (show (0 : Int) ≤ 1 + r by omega), hmm]
      rw [seq_of s1, seq_of s2, seq_of s3, s4]
      dsimp only
      rw [ih, List.append_assoc]
      rfl
    · have hn1 : (ls'.map (·.1)).Perm (((h :: hs).take m).map (·.1)) := by
        rw [← i1]
        exact hperm.map _
      refine ⟨⟨?_, fun p hp => ?_, fun p hp => i2 p (hperm.mem_iff.mp hp), ?_⟩, j1 _ fun p hp => ?_⟩
      · have := hn1.length_eq
        rw [List.length_map, List.length_map, List.length_take] at this
        omega
      · have : p.1 ∈ ((h :: hs).take m).map (·.1) := hn1.mem_iff.mp (List.mem_map.mpr ⟨p, hp, rfl⟩)
        obtain ⟨k, hk, e⟩ := List.mem_map.mp this
        rw [← e]
        exact hfs k (hsub.subset hk)
      · exact hn1.nodup_iff.mpr ((hsub.map _).nodup hnd)
      · refine left_mem (hfs p ((List.drop_sublist _ _).subset hp)) fun z => ?_
        have z1 : p.1 ∈ ((h :: hs).take m).map (·.1) := hn1.mem_iff.mp z
        have z2 : p.1 ∈ ((h :: hs).drop m).map (·.1) := List.mem_map.mpr ⟨p, hp, rfl⟩
        rw [← List.take_append_drop m (h :: hs), List.map_append, List.nodup_append] at hnd
        exact hnd.2.2 _ z1 _ z2 rfl
    · rw [List.length_cons]
      omega
    · have hn1 : (ls'.map (·.1)).Perm (((h :: hs).take m).map (·.1)) := by
        rw [← i1]
        exact hperm.map _
      show ((ls'.map (·.1)) ++ namesOf lss).Perm _
      have := hn1.append j3
      rw [← List.map_append, List.take_append_drop] at this
      exact this
theorem leaps_ok {b : List PyData} (hb : Bg b) {fs : List Fk} (hf : OkF fs) (hnm : ∀ p, p ∈ fs → Nm p.1) : ∃ (lss : List (List Lp)) (b' : List PyData), fn__law_leaps b [folkD fs] = some (.list (lss.map onceD), b') ∧ OkLs fs lss ∧ lss.length ≤ 7 ∧ (∃ k, (namesOf lss).length ≤ 7 ∧ k = 0) ∧ (namesOf lss).Nodup ∧ (∀ n, n ∈ namesOf lss → n ∈ fs.map (·.1)) ∧ Bg b' := by
  have hlen := hf.len
  obtain ⟨gs, b1, h1, hp, hb1⟩ := mixed_ok hb hf.len
  obtain ⟨r, b2, h2, hr0, hr1, hb2⟩ := take_ok (m := ((fs.map encF).length : Int) + 1) hb1 (by omega) (by rw [List.length_map]; omega)
  rw [List.length_map] at hr1
  have hgl := hp.length_eq
  have hsub : (gs.take r.toNat).Sublist gs := List.take_sublist _ _
  have hgn : (gs.map (·.1)).Nodup := (hp.map _).nodup_iff.mpr hf.nd
  obtain ⟨lss, b3, y4, y5, h3, j1, j2, j3, j4⟩ := leaps_whl (folkD fs) 9 (gs.take r.toNat) b2 [] .un .un rfl hb2 (by rw [List.length_take]; omega) (by rw [List.length_take]; omega) (by rw [List.length_nil, List.length_take]; omega) ((hsub.map _).nodup hgn) (fun p hp' => hnm p (hp.mem_iff.mp (hsub.subset hp')))
  have hn : ∀ n, n ∈ namesOf lss → n ∈ fs.map (·.1) := fun n hn => by
    have := j3.mem_iff.mp hn
    obtain ⟨k, hk, e⟩ := List.mem_map.mp this
    rw [← e]
    exact List.mem_map.mpr ⟨k, hp.mem_iff.mp (hsub.subset hk), rfl⟩
  refine ⟨lss, b3, ?_, j1 fs (fun p hp' => List.mem_map.mpr ⟨p, hp.mem_iff.mp (hsub.subset hp'), rfl⟩), by rw [List.length_take] at j2; omega, ⟨0, by rw [j3.length_eq, List.length_map, List.length_take]; omega, rfl⟩, j3.nodup_iff.mpr ((hsub.map _).nodup hgn), hn, j4⟩
  have hW := sWhile_of h3
  have s2 : sAsg (fSl (fCallB fn__law_mixed 0 (fCons (fVar 1) fNil)) fNoPart (fPart (fCallB fn__law_take 0 (fCons (fOp dAdd (fUn dLen (fVar 1)) (fC (.int 1))) fNil)))) (gN 3) [.bag b, .dat (folkD fs), .own [], .un, .un, .un, .un] = some (.nx [.bag b2, .dat (folkD fs), .own [], .dat (.list ((gs.take r.toNat).map encF)), .un, .un, .un]) := by
    have hd : dLen (folkD fs) = some (.int (fs.map encF).length) := rfl
    simp only [e_sAsg, e_fSl, e_fCallB, e_fCons, e_fNil, e_fVar, e_fNoPart, e_fPart, e_fOp, e_fUn, e_fC, e_gN, e_orF, fI0, ownAt, setOwn, EV.cont, EV.with, List.getElem?_cons_zero, List.getElem?_cons_succ, List.set_cons_zero, List.set_cons_succ, hd, h1, h2, dSl, cut_to _ hr0, List.map_take]
  unfold fn__law_leaps b__law_leaps
  simp only [runB, List.map_cons, List.map_nil, List.cons_append, List.nil_append, List.replicate_succ, List.replicate_zero]
  rw [seq_of (δ1 := [.bag b, .dat (folkD fs), .own [], .un, .un, .un, .un]) rfl, seq_of s2, seq_of hW]
  rfl
end Lc
set_option exponentiation.threshold 10000
namespace Lc
open PySem L2 Evl RZ Sm
/-! ### the bag -/
theorem bag_ok (ns : List Int) {k : Int} (h0 : 0 ≤ k) (h1 : k ≤ 40) : ∃ b, fn__law_bag [scrD ns, .int k] = some b ∧ Bg b := by
  have hlen : dLen (scrD ns) = some (.int (ns.length : Nat)) := by
    show some (PyData.int ((ns.map fun n => (PyData.int n, PyData.none)).length : Nat)) = _
    rw [List.length_map]
  have hix : ∀ j : Nat, (hj : j < ns.length) → dIx (scrD ns) (.int (j : Int)) = some (.int ns[j]) := fun j hj => by
    show atI ((ns.map fun n => (PyData.int n, PyData.none)).map (·.1)) (j : Int) = _
    rw [List.map_map]
    refine atI_nat ?_
    rw [List.getElem?_map, List.getElem?_eq_getElem hj]
    rfl
  have hp : cPowB 10 18 = true := by decide +kernel
  have e18 : (10 : Int) ^ (18 : Int).toNat = 1000000000000000000 := by decide
  have fin : ∀ cell : Int, 0 ≤ cell → ∃ b, (match sSeq (sIf (fTest (fOp dLt (fVar 2) (fOp dPow (fC (.int 10)) (fC (.int 18))))) (sRetL (fLst (fCons (fC (.int 0)) (fCons (fOp dAdd (fC (.int 1)) (fOp dMod (fOp dAdd (fOp dMul (fVar 2) (fC (.int 7919))) (fOp dMul (fC (.int 104729)) (fVar 1))) (fC (.int 2147483646)))) fNil)))) sNx)
      (sRetL (fLst (fCons (fVar 2) (fCons (fOp dAdd (fC (.int 1)) (fOp dMod (fOp dAdd (fVar 2) (fVar 1)) (fC (.int 2147483646)))) fNil)))) [.dat (scrD ns), .dat (.int k), .dat (.int cell)] with
      | some (.rl rs _) => some rs
      | _ => none) = some b ∧ Bg b := fun cell hc => by
    by_cases hs : cell < 1000000000000000000
    · have m1 : cMulB cell 7919 = true := mulB (Nat.lt_of_lt_of_le (show cell.natAbs < 2 ^ 60 by omega) (Nat.pow_le_pow_right (by decide) (by omega))) (pow20 (by decide) 8000 (by omega))
      have m2 : cMulB 104729 k = true := mulB (pow20 (by decide) 8000 (by omega)) (pow20 (by omega) 8000 (by omega))
      have m3 := modB (i := cell * 7919 + 104729 * k) (j := 2147483646) (by decide)
      have r1 : 0 ≤ (cell * 7919 + 104729 * k) % 2147483646 := Int.emod_nonneg _ (by decide)
      have r2 : (cell * 7919 + 104729 * k) % 2147483646 < 2147483646 := Int.emod_lt_of_pos _ (by decide)
      refine ⟨[.int 0, .int (1 + (cell * 7919 + 104729 * k) % 2147483646)], ?_, _, _, rfl, by decide, by omega, by omega⟩
      simp only [e_sOwnD, e_fNewD, e_fDictD, e_sDPutO, e_fDGetO, e_fDGet2, e_sFrzD, e_sPar3, e_fVar, e_fC, e_fOp, e_fUn, e_fNil, e_fCons, e_fTup, e_fLst, e_fOfL, e_fTest, e_fAnd, e_fOr, e_fNot, e_fBool, e_fIf, e_fChain, e_fVarB, e_fUnL, e_fNoPart, e_fPart, e_fSl, e_gN, e_gNl, e_gCs, e_gTp, e_fZip, e_fYes, e_sNx, e_sSeq, e_sAsg, e_sOwn, e_sApp, e_sExt, e_sIns, e_sSetIx, e_fIxO, e_fSlO, e_sRet, e_sRetL, e_sRetO, e_sFrz, e_sDrop, e_sIf, e_sPar, e_fCall, e_fCallL, e_fCallB, e_sParO, e_fOpO, e_fItems, e_fRange, e_fMin, e_orF, fI0, fI, fS0, dNeg, dAbs, dLen, dSum, dTuple, ix_t0, ix_t1, ix_t2, ix_l0, ix_l1, ownAt, setOwn, EV.cont, EV.with, seqOf, itemsOf, List.map_cons, List.map_nil, List.cons_append, List.nil_append, List.replicate_succ, List.replicate_zero, List.getElem?_cons_zero, List.getElem?_cons_succ, List.getElem?_nil, List.set_cons_zero, List.set_cons_succ, List.length_cons, List.length_nil, hp, if_true, e18, hs, decide_true, m1, m2, m3]
      rw [if_pos (by decide)]
    · have m3 := modB (i := cell + k) (j := 2147483646) (by decide)
      have r1 : 0 ≤ (cell + k) % 2147483646 := Int.emod_nonneg _ (by decide)
      have r2 : (cell + k) % 2147483646 < 2147483646 := Int.emod_lt_of_pos _ (by decide)
      refine ⟨[.int cell, .int (1 + (cell + k) % 2147483646)], ?_, _, _, rfl, hc, by omega, by omega⟩
      simp only [e_sOwnD, e_fNewD, e_fDictD, e_sDPutO, e_fDGetO, e_fDGet2, e_sFrzD, e_sPar3, e_fVar, e_fC, e_fOp, e_fUn, e_fNil, e_fCons, e_fTup, e_fLst, e_fOfL, e_fTest, e_fAnd, e_fOr, e_fNot, e_fBool, e_fIf, e_fChain, e_fVarB, e_fUnL, e_fNoPart, e_fPart, e_fSl, e_gN, e_gNl, e_gCs, e_gTp, e_fZip, e_fYes, e_sNx, e_sSeq, e_sAsg, e_sOwn, e_sApp, e_sExt, e_sIns, e_sSetIx, e_fIxO, e_fSlO, e_sRet, e_sRetL, e_sRetO, e_sFrz, e_sDrop, e_sIf, e_sPar, e_fCall, e_fCallL, e_fCallB, e_sParO, e_fOpO, e_fItems, e_fRange, e_fMin, e_orF, fI0, fI, fS0, dNeg, dAbs, dLen, dSum, dTuple, ix_t0, ix_t1, ix_t2, ix_l0, ix_l1, ownAt, setOwn, EV.cont, EV.with, seqOf, itemsOf, List.map_cons, List.map_nil, List.cons_append, List.nil_append, List.replicate_succ, List.replicate_zero, List.getElem?_cons_zero, List.getElem?_cons_succ, List.getElem?_nil, List.set_cons_zero, List.set_cons_succ, List.length_cons, List.length_nil, hp, if_true, e18, hs, decide_false, m3]
      rw [if_pos (by decide)]
  unfold fn__law_bag b__law_bag
  simp only [runL, List.map_cons, List.map_nil, List.cons_append, List.nil_append, List.replicate_succ, List.replicate_zero]
  rw [seq_of (δ1 := [.dat (scrD ns), .dat (.int k), .dat (.int 0)]) rfl]
  by_cases hk : k < (ns.length : Int)
  · obtain ⟨j, rfl⟩ := Int.eq_ofNat_of_zero_le h0
    have hj : j < ns.length := by omega
    have hx := hix j hj
    have s2 : sIf (fTest (fOp dLt (fVar 1) (fUn dLen (fVar 0)))) (sAsg (fUn dAbs (fOp dIx (fVar 0) (fVar 1))) (gN 2)) sNx [.dat (scrD ns), .dat (.int (j : Int)), .dat (.int 0)] = some (.nx [.dat (scrD ns), .dat (.int (j : Int)), .dat (.int (if ns[j] < 0 then -ns[j] else ns[j]))]) := by
      simp only [e_sIf, e_fTest, e_fOp, e_fVar, e_fUn, e_orF, fI0, e_sAsg, e_gN, dAbs, List.getElem?_cons_zero, List.getElem?_cons_succ, List.set_cons_zero, List.set_cons_succ, hlen, hk, decide_true, hx]
    rw [seq_of s2]
    exact fin _ (by split <;> omega)
  · have s2 : sIf (fTest (fOp dLt (fVar 1) (fUn dLen (fVar 0)))) (sAsg (fUn dAbs (fOp dIx (fVar 0) (fVar 1))) (gN 2)) sNx [.dat (scrD ns), .dat (.int k), .dat (.int 0)] = some (.nx [.dat (scrD ns), .dat (.int k), .dat (.int 0)]) := by
      simp only [e_sIf, e_fTest, e_fOp, e_fVar, e_fUn, e_orF, fI0, e_sNx, List.getElem?_cons_zero, List.getElem?_cons_succ, hlen, hk, decide_false]
    rw [seq_of s2]
    exact fin 0 (by decide)
/-! ### leapers -/
def srt (xs : List (Str × Rat)) : List (Str × Rat) := xs.mergeSort fun a b => leD (encO a) (encO b)
theorem srt_perm (xs : List (Str × Rat)) : (srt xs).Perm xs := List.mergeSort_perm _ _
theorem sorted_outs (xs : List (Str × Rat)) (h : ∀ p, p ∈ xs → Nm p.1) : dSorted (.list (xs.map encO)) = some ((srt xs).map encO) := sorted_enc encO xs (fun x _ y _ => by
  show PySem.W.alike (.tuple [.str x.1, .tuple [.int x.2.num, .int x.2.den]]) (.tuple [.str y.1, .tuple [.int y.2.num, .int y.2.den]]) = true
  simp [PySem.W.alike, PySem.W.alikeAll]) (fun x _ => rfl) fun x hx => (sh_encO (h x hx)).mono (by omega)
theorem outs_names (c : Int) : ∀ (lss : List (List Lp)) (fs : List Fk) (q : Rat), (outs c fs q lss).map (·.1) = namesOf lss
  | [], _, _ => rfl
  | ls :: r, fs, q => by
    rw [outs_cons, List.map_append, outs_names c r]
    show _ = (ls.map (·.1)) ++ namesOf r
    congr 1
    unfold own
    rw [List.map_map]
    rfl
theorem sum_len : ∀ lss : List (List Lp), (lss.map List.length).sum = (namesOf lss).length
  | [] => rfl
  | ls :: r => by
    show ls.length + (r.map List.length).sum = ((ls.map (·.1)) ++ namesOf r).length
    rw [List.length_append, List.length_map, sum_len r]
theorem rest_refl (F : List Fk) : Rest F F := fun n hn => ⟨hn, rfl⟩
theorem leapers_eq {c : Int} {fs : List Fk} {q : Rat} {lss : List (List Lp)} (hc : 1 ≤ c ∧ c ≤ 1000) (hf : OkF fs) (hl : OkLs fs lss) (hq : Bd 100 q) (hn : lss.length ≤ 7) (h7 : (namesOf lss).length ≤ 7) (hnm : ∀ n, n ∈ namesOf lss → Nm n) : fn_leapers [.int c, folkD fs, frD q, .list (lss.map onceD)] = some ((srt (outs c fs q lss)).map encO) := by
  obtain ⟨x', y', h⟩ := leapers_loop hc hf (frD q) (.list (lss.map onceD)) lss fs q 100 [] .un .un hf (rest_refl fs) hl hq (by omega) (by rw [List.length_nil, sum_len]; omega)
  have hs := speeds_eq hc hf hl hq hn
  have hz : fZip (fOfL (fCallL fn_speeds (fCons (fVar 0) (fCons (fVar 1) (fCons (fVar 2) (fCons (fVar 3) fNil)))))) (fVar 3) [.dat (.int c), .dat (folkD fs), .dat (frD q), .dat (.list (lss.map onceD)), .dat (leapD fs), .own [], .un, .un] = some (((go c fs q lss).zip lss).map (fun p => .tuple [frD p.1, onceD p.2]), [.dat (.int c), .dat (folkD fs), .dat (frD q), .dat (.list (lss.map onceD)), .dat (leapD fs), .own [], .un, .un]) := by
    simp only [e_sOwnD, e_fNewD, e_fDictD, e_sDPutO, e_fDGetO, e_fDGet2, e_sFrzD, e_sPar3, e_fVar, e_fC, e_fOp, e_fUn, e_fNil, e_fCons, e_fTup, e_fLst, e_fOfL, e_fTest, e_fAnd, e_fOr, e_fNot, e_fBool, e_fIf, e_fChain, e_fVarB, e_fUnL, e_fNoPart, e_fPart, e_fSl, e_gN, e_gNl, e_gCs, e_gTp, e_fZip, e_fYes, e_sNx, e_sSeq, e_sAsg, e_sOwn, e_sApp, e_sExt, e_sIns, e_sSetIx, e_fIxO, e_fSlO, e_sRet, e_sRetL, e_sRetO, e_sFrz, e_sDrop, e_sIf, e_sPar, e_fCall, e_fCallL, e_fCallB, e_sParO, e_fOpO, e_fItems, e_fRange, e_fMin, e_orF, fI0, fI, fS0, dNeg, dAbs, dLen, dSum, dTuple, ix_t0, ix_t1, ix_t2, ix_l0, ix_l1, ownAt, setOwn, EV.cont, EV.with, seqOf, itemsOf, List.map_cons, List.map_nil, List.cons_append, List.nil_append, List.replicate_succ, List.replicate_zero, List.getElem?_cons_zero, List.getElem?_cons_succ, List.getElem?_nil, List.set_cons_zero, List.set_cons_succ, List.length_cons, List.length_nil, hs, zipD, zip_map (c := c)]
  have hF := sFor_of hz h
  rw [List.nil_append] at hF
  have hso := sorted_outs (outs c fs q lss) fun p hp => hnm p.1 (by rw [← outs_names c lss fs q]; exact List.mem_map.mpr ⟨p, hp, rfl⟩)
  unfold fn_leapers b_leapers
  simp only [runL, List.map_cons, List.map_nil, List.cons_append, List.nil_append, List.replicate_succ, List.replicate_zero]
  have s1 : sAsg (fCall fn_leap_by_name (fCons (fVar 1) fNil)) (gN 4) [.dat (.int c), .dat (folkD fs), .dat (frD q), .dat (.list (lss.map onceD)), .un, .un, .un, .un] = some (.nx [.dat (.int c), .dat (folkD fs), .dat (frD q), .dat (.list (lss.map onceD)), .dat (leapD fs), .un, .un, .un]) := by
    simp only [e_sOwnD, e_fNewD, e_fDictD, e_sDPutO, e_fDGetO, e_fDGet2, e_sFrzD, e_sPar3, e_fVar, e_fC, e_fOp, e_fUn, e_fNil, e_fCons, e_fTup, e_fLst, e_fOfL, e_fTest, e_fAnd, e_fOr, e_fNot, e_fBool, e_fIf, e_fChain, e_fVarB, e_fUnL, e_fNoPart, e_fPart, e_fSl, e_gN, e_gNl, e_gCs, e_gTp, e_fZip, e_fYes, e_sNx, e_sSeq, e_sAsg, e_sOwn, e_sApp, e_sExt, e_sIns, e_sSetIx, e_fIxO, e_fSlO, e_sRet, e_sRetL, e_sRetO, e_sFrz, e_sDrop, e_sIf, e_sPar, e_fCall, e_fCallL, e_fCallB, e_sParO, e_fOpO, e_fItems, e_fRange, e_fMin, e_orF, fI0, fI, fS0, dNeg, dAbs, dLen, dSum, dTuple, ix_t0, ix_t1, ix_t2, ix_l0, ix_l1, ownAt, setOwn, EV.cont, EV.with, seqOf, itemsOf, List.map_cons, List.map_nil, List.cons_append, List.nil_append, List.replicate_succ, List.replicate_zero, List.getElem?_cons_zero, List.getElem?_cons_succ, List.getElem?_nil, List.set_cons_zero, List.set_cons_succ, List.length_cons, List.length_nil, byname_eq hf]
  rw [seq_of s1, seq_of (δ1 := [.dat (.int c), .dat (folkD fs), .dat (frD q), .dat (.list (lss.map onceD)), .dat (leapD fs), .own [], .un, .un]) rfl, seq_of hF]
  simp only [e_sOwnD, e_fNewD, e_fDictD, e_sDPutO, e_fDGetO, e_fDGet2, e_sFrzD, e_sPar3, e_fVar, e_fC, e_fOp, e_fUn, e_fNil, e_fCons, e_fTup, e_fLst, e_fOfL, e_fTest, e_fAnd, e_fOr, e_fNot, e_fBool, e_fIf, e_fChain, e_fVarB, e_fUnL, e_fNoPart, e_fPart, e_fSl, e_gN, e_gNl, e_gCs, e_gTp, e_fZip, e_fYes, e_sNx, e_sSeq, e_sAsg, e_sOwn, e_sApp, e_sExt, e_sIns, e_sSetIx, e_fIxO, e_fSlO, e_sRet, e_sRetL, e_sRetO, e_sFrz, e_sDrop, e_sIf, e_sPar, e_fCall, e_fCallL, e_fCallB, e_sParO, e_fOpO, e_fItems, e_fRange, e_fMin, e_orF, fI0, fI, fS0, dNeg, dAbs, dLen, dSum, dTuple, ix_t0, ix_t1, ix_t2, ix_l0, ix_l1, ownAt, setOwn, EV.cont, EV.with, seqOf, itemsOf, List.map_cons, List.map_nil, List.cons_append, List.nil_append, List.replicate_succ, List.replicate_zero, List.getElem?_cons_zero, List.getElem?_cons_succ, List.getElem?_nil, List.set_cons_zero, List.set_cons_succ, List.length_cons, List.length_nil, hso]
/-! ### weights times speeds never change -/
def sumR : List Rat → Rat
  | [] => 0
  | x :: xs => x + sumR xs
theorem sumR_app : ∀ xs ys : List Rat, sumR (xs ++ ys) = sumR xs + sumR ys
  | [], ys => (Rat.zero_add _).symm
  | x :: xs, ys => by
    show x + sumR (xs ++ ys) = x + sumR xs + sumR ys
    rw [sumR_app xs ys, Rat.add_assoc]
theorem sumR_perm {xs ys : List Rat} (h : xs.Perm ys) : sumR xs = sumR ys := by
  induction h with
  | nil => rfl
  | cons x _ ih =>
    show x + _ = x + _
    rw [ih]
  | swap x y l =>
    show y + (x + sumR l) = x + (y + sumR l)
    rw [← Rat.add_assoc, ← Rat.add_assoc, Rat.add_comm y x]
  | trans _ _ h1 h2 => rw [h1, h2]
def hvy (fs : List Fk) (n : Str) : Int := match entry fs n with
  | some e => e.2.1
  | none => 0
theorem left_wgt (c : Int) (ns : List Str) : ∀ fs : List Fk, wgt c fs = wgt c (left fs ns) + (fs.map fun p => if ns.contains p.1 then p.2.1 else 0).sum
  | [] => by simp [wgt, left]
  | p :: fs => by
    have ih := left_wgt c ns fs
    unfold wgt left at ih ⊢
    rw [List.map_cons, List.map_cons, List.sum_cons, List.sum_cons]
    by_cases h : ns.contains p.1 = true
    · rw [List.filter_cons_of_neg (p := fun p : Fk => !ns.contains p.1) (by simpa using h), if_pos h]
      omega
    · rw [List.filter_cons_of_pos (p := fun p : Fk => !ns.contains p.1) (by simpa using h), if_neg h, List.map_cons, List.sum_cons]
      omega
theorem hvy_sum {fs : List Fk} (hf : (fs.map (·.1)).Nodup) : ∀ (ns : List Str), ns.Nodup → (∀ n, n ∈ ns → n ∈ fs.map (·.1)) → (fs.map fun p => if ns.contains p.1 then p.2.1 else 0).sum = (ns.map (hvy fs)).sum
  | [], _, _ => by
    have z : ∀ l : List Fk, (l.map fun p => if ([] : List Str).contains p.1 then p.2.1 else 0).sum = 0 := fun l => by
      induction l with
      | nil => rfl
      | cons a l ih =>
        rw [List.map_cons, List.sum_cons, ih]
        rfl
    exact z fs
  | n :: ns, hn, hm => by
    rw [List.nodup_cons] at hn
    have ih := hvy_sum hf ns hn.2 fun m hm' => hm m (List.mem_cons_of_mem _ hm')
    obtain ⟨e, he, _, _⟩ := entry_some (hm n List.mem_cons_self)
    have hs := single_sum n 1 (fs.map fun p => (p.1, p.2.1, 1)) (e.1, e.2.1, 1) (by rw [List.map_map]; exact hf) (by
      unfold entry at he ⊢
      rw [List.find?_map]
      show (fs.find? fun p => decide (p.1 = n)).map _ = _
      rw [he]
      rfl)
    rw [List.map_map] at hs
    rw [List.map_cons, List.sum_cons, ← ih]
    have hv : ∀ p : Fk, (if (n :: ns).contains p.1 then p.2.1 else 0) = (if p.1 = n then 1 * p.2.1 * 1 else 0) + (if ns.contains p.1 then p.2.1 else 0) := fun p => by
      by_cases hp : p.1 = n
      · have h1 : (n :: ns).contains p.1 = true := by simp [hp]
        have h2 : ¬ ns.contains p.1 = true := by
          rw [hp]
          simpa using hn.1
        rw [if_pos h1, if_pos hp, if_neg h2]
        omega
      · have h1 : (n :: ns).contains p.1 = ns.contains p.1 := by simp [hp]
        rw [h1, if_neg hp]
        omega
    rw [List.map_congr_left (fun p _ => hv p), sum_add]
    have hs' : (fs.map fun p => if p.1 = n then 1 * p.2.1 * 1 else 0).sum = 1 * e.2.1 * 1 := hs
    rw [hs']
    unfold hvy
    rw [he]
    dsimp only
    omega
end Lc
set_option exponentiation.threshold 10000
namespace Lc
open PySem L2 Evl RZ Sm
/-! ### conservation -/
def lastQ : Rat → List Rat → Rat
  | q, [] => q
  | _, x :: xs => lastQ x xs
def term (F : List Fk) (p : Str × Rat) : Rat := p.2 * ((hvy F p.1 : Int) : Rat)
theorem left_left (fs : List Fk) (ns ms : List Str) : left (left fs ns) ms = left fs (ns ++ ms) := by
  unfold left
  rw [List.filter_filter]
  refine List.filter_congr fun p _ => ?_
  rw [Bool.eq_iff_iff]
  simp
  constructor
  · rintro ⟨h1, h2⟩
    exact ⟨h2, h1⟩
  · rintro ⟨h1, h2⟩
    exact ⟨h2, h1⟩
theorem left_nil (fs : List Fk) : left fs [] = fs := by
  unfold left
  exact List.filter_eq_self.mpr fun p _ => rfl
theorem cast_sum (xs : List Int) : ((xs.sum : Int) : Rat) = sumR (xs.map fun x : Int => ((x : Int) : Rat)) := by
  induction xs with
  | nil => rfl
  | cons x xs ih =>
    rw [List.sum_cons, Rat.intCast_add, ih]
    rfl
theorem sumR_mul (a : Rat) (xs : List Rat) : a * sumR xs = sumR (xs.map fun x => a * x) := by
  induction xs with
  | nil => exact Rat.mul_zero a
  | cons x xs ih =>
    show a * (x + sumR xs) = a * x + sumR _
    rw [Rat.mul_add, ih]
theorem sumR_add {α : Type} (f g : α → Rat) (xs : List α) : sumR (xs.map fun x => f x + g x) = sumR (xs.map f) + sumR (xs.map g) := by
  induction xs with
  | nil => exact (Rat.add_zero 0).symm
  | cons x xs ih =>
    show f x + g x + sumR _ = (f x + sumR _) + (g x + sumR _)
    rw [ih]
    grind
theorem step_keeps {c : Int} {F fs : List Fk} {ls : List Lp} {q : Rat} (hc : 1 ≤ c ∧ c ≤ 1000) (hf : OkF fs) (hl : OkL fs ls) (hr : Rest F fs) : dr c fs q ls * ((wgt c (left fs (ls.map (·.1))) : Int) : Rat) + sumR ((own fs (dr c fs q ls) ls).map (term F)) = q * ((wgt c fs : Int) : Rat) := by
  have hw := (wgt_le c hc fs hf.hv).1
  have h0 : 0 < wgt c fs := by omega
  generalize hq' : dr c fs q ls = q'
  have e1 : q' * ((wgt c fs : Int) : Rat) = q * ((wgt c fs : Int) : Rat) + ((-push fs ls : Int) : Rat) := by
    rw [← hq']
    unfold dr
    rw [mk_split _ h0, Rat.add_mul, Rat.mul_assoc, Rat.mul_comm (mkRat 1 _), mk_inv h0, Rat.mul_one]
  have e2 : wgt c fs = wgt c (left fs (ls.map (·.1))) + (ls.map fun p => hvy fs p.1).sum := by
    have := left_wgt c (ls.map (·.1)) fs
    rw [hvy_sum hf.nd (ls.map (·.1)) hl.nd (fun n hn => by
      obtain ⟨p, hp, rfl⟩ := List.mem_map.mp hn
      exact hl.nm p hp), List.map_map] at this
    exact this
  have e3 : sumR ((own fs q' ls).map (term F)) = q' * (((ls.map fun p => hvy fs p.1).sum : Int) : Rat) + ((push fs ls : Int) : Rat) := by
    rw [push_swap hf.nd ls hl.nd hl.nm, cast_sum, cast_sum, sumR_mul, List.map_map, List.map_map, List.map_map, ← sumR_add]
    unfold own
    rw [List.map_map]
    congr 1
    refine List.map_congr_left fun p hp => ?_
    obtain ⟨e, he, _, _⟩ := entry_some (hl.nm p hp)
    have hh : hvy F p.1 = hvy fs p.1 := by
      unfold hvy
      rw [(hr p.1 (hl.nm p hp)).2]
    show (q' + ((p.2 * leapOf fs p.1 : Int) : Rat)) * ((hvy F p.1 : Int) : Rat) = q' * ((hvy fs p.1 : Int) : Rat) + ((tm fs p : Int) : Rat)
    rw [hh, Rat.add_mul, ← Rat.intCast_mul]
    congr 2
    unfold leapOf hvy tm
    rw [he]
    dsimp only
    rw [Int.mul_comm, Int.mul_comm p.2, ← Int.mul_assoc]
  rw [e3]
  have e4 : ((wgt c fs : Int) : Rat) = ((wgt c (left fs (ls.map (·.1))) : Int) : Rat) + (((ls.map fun p => hvy fs p.1).sum : Int) : Rat) := by
    rw [← Rat.intCast_add, ← e2]
  rw [Rat.intCast_neg] at e1
  have e5 : q' * ((wgt c fs : Int) : Rat) = q' * ((wgt c (left fs (ls.map (·.1))) : Int) : Rat) + q' * (((ls.map fun p => hvy fs p.1).sum : Int) : Rat) := by
    rw [e4, Rat.mul_add]
  grind
theorem keeps {c : Int} (hc : 1 ≤ c ∧ c ≤ 1000) (F : List Fk) : ∀ (lss : List (List Lp)) (fs : List Fk) (q : Rat), OkF fs → OkLs fs lss → Rest F fs → lastQ q (go c fs q lss) * ((wgt c (left fs (namesOf lss)) : Int) : Rat) + sumR ((outs c fs q lss).map (term F)) = q * ((wgt c fs : Int) : Rat)
  | [], fs, q, _, _, _ => by
    show q * ((wgt c (left fs []) : Int) : Rat) + 0 = _
    rw [left_nil, Rat.add_zero]
  | ls :: r, fs, q, hf, hl, hr => by
    have ih := keeps hc F r (left fs (ls.map (·.1))) (dr c fs q ls) (left_ok hf _) hl.2 (hr.left _)
    have hs := step_keeps (q := q) hc hf hl.1 hr
    rw [outs_cons, List.map_append, sumR_app, go_cons]
    rw [left_left] at ih
    show lastQ (dr c fs q ls) (go c (left fs (ls.map (·.1))) (dr c fs q ls) r) * ((wgt c (left fs (ls.map (·.1) ++ namesOf r)) : Int) : Rat) + (sumR ((own fs (dr c fs q ls) ls).map (term F)) + sumR ((outs c (left fs (ls.map (·.1))) (dr c fs q ls) r).map (term F))) = _
    rw [← hs, ← ih]
    grind
theorem go_bd {c : Int} (hc : 1 ≤ c ∧ c ≤ 1000) : ∀ (lss : List (List Lp)) (fs : List Fk) (q : Rat) (n : Nat), OkF fs → OkLs fs lss → Bd n q → Bd (n + 21 * lss.length) (lastQ q (go c fs q lss))
  | [], _, _, _, _, _, h => h
  | ls :: r, fs, q, n, hf, hl, hq => by
    have := go_bd hc r (left fs (ls.map (·.1))) (dr c fs q ls) (n + 21) (left_ok hf _) hl.2 (dr_bd hc hf hl.1.wy hq)
    rw [List.length_cons, show n + 21 * (r.length + 1) = n + 21 + 21 * r.length by omega]
    exact this
theorem outs_bd {c : Int} (hc : 1 ≤ c ∧ c ≤ 1000) : ∀ (lss : List (List Lp)) (fs : List Fk) (q : Rat) (n : Nat), OkF fs → OkLs fs lss → Bd n q → ∀ p, p ∈ outs c fs q lss → Bd (n + 21 * lss.length + 8) p.2
  | [], _, _, _, _, _, _, p, hp => by simp [outs] at hp
  | ls :: r, fs, q, n, hf, hl, hq, p, hp => by
    have hb := dr_bd hc hf hl.1.wy hq
    rw [outs_cons] at hp
    rw [List.length_cons]
    rcases List.mem_append.mp hp with h | h
    · unfold own at h
      obtain ⟨x, hx, rfl⟩ := List.mem_map.mp h
      obtain ⟨e, _, _, hn, _, _⟩ := leap_le hf (hl.1.wy x hx) (hl.1.nm x hx)
      have := bd_add hb (bd_int (n := 7) (i := x.2 * leapOf fs x.1) (by
        have : (2 : Nat) ^ 7 = 128 := by decide
        omega) (by omega))
      exact bd_le this (by omega)
    · have := outs_bd hc r (left fs (ls.map (·.1))) (dr c fs q ls) (n + 21) (left_ok hf _) hl.2 hb p h
      exact bd_le this (by omega)
end Lc
set_option exponentiation.threshold 10000
namespace Lc
open PySem L2 Evl RZ Sm
/-! ### unseen weights and leaps -/
theorem filter_head {fs : List Fk} {n : Str} {e : Fk} (he : entry fs n = some e) : ∃ tl, (fs.filter fun r => decide (r.1 = n)) = e :: tl := by
  have := List.head?_filter (p := fun r : Fk => decide (r.1 = n)) (l := fs)
  have he' : fs.find? (fun r => decide (r.1 = n)) = some e := he
  rw [he'] at this
  cases hfl : fs.filter fun r => decide (r.1 = n) with
  | nil =>
    rw [hfl] at this
    cases this
  | cons a tl =>
    rw [hfl] at this
    cases this
    exact ⟨tl, rfl⟩
theorem rowof_eq {fs : List Fk} {n : Str} {e : Fk} (hl : fs.length ≤ 7) (he : entry fs n = some e) : fn_row_of [folkD fs, .str n] = some (encF e) := by
  have hcc := compL_enc encF (vs := [2]) (γ := gN 2) (τ := fTest (fOp dEq (fOp dIx (fVar 2) (fC (.int 0))) (fVar 1))) (ε := fVar 2) (δ := [.dat (folkD fs), .dat (.str n), .un])
    (fun r => [.dat (folkD fs), .dat (.str n), .dat (encF r)]) (fun r => decide (r.1 = n)) encF fs fun r _ => ⟨rfl, by
      have : dIx (encF r) (.int 0) = some (.str r.1) := ix_t0
      simp only [e_fTest, e_fOp, e_fVar, e_fC, List.getElem?_cons_zero, List.getElem?_cons_succ, this, dEq_str], fun _ => rfl, rfl⟩
  obtain ⟨tl, htl⟩ := filter_head he
  rw [htl, List.map_cons] at hcc
  have hL := fLc_of (φ := fItems (fVar 0)) (δ := [.dat (folkD fs), .dat (.str n), .un]) rfl (by rw [List.length_map]; omega) hcc
  unfold fn_row_of b_row_of
  simp only [runD, e_sOwnD, e_fNewD, e_fDictD, e_sDPutO, e_fDGetO, e_fDGet2, e_sFrzD, e_sPar3, e_fVar, e_fC, e_fOp, e_fUn, e_fNil, e_fCons, e_fTup, e_fLst, e_fOfL, e_fTest, e_fAnd, e_fOr, e_fNot, e_fBool, e_fIf, e_fChain, e_fVarB, e_fUnL, e_fNoPart, e_fPart, e_fSl, e_gN, e_gNl, e_gCs, e_gTp, e_fZip, e_fYes, e_sNx, e_sSeq, e_sAsg, e_sOwn, e_sApp, e_sExt, e_sIns, e_sSetIx, e_fIxO, e_fSlO, e_sRet, e_sRetL, e_sRetO, e_sFrz, e_sDrop, e_sIf, e_sPar, e_fCall, e_fCallL, e_fCallB, e_sParO, e_fOpO, e_fItems, e_fRange, e_fMin, e_orF, fI0, fI, fS0, dNeg, dAbs, dLen, dSum, dTuple, ix_t0, ix_t1, ix_t2, ix_l0, ix_l1, ownAt, setOwn, EV.cont, EV.with, seqOf, itemsOf, List.map_cons, List.map_nil, List.cons_append, List.nil_append, List.replicate_succ, List.replicate_zero, List.getElem?_cons_zero, List.getElem?_cons_succ, List.getElem?_nil, List.set_cons_zero, List.set_cons_succ, List.length_cons, List.length_nil, hL]
theorem dNe_str (a b : Str) : dNe (.str a) (.str b) = some (.bool (!decide (a = b))) := rfl
theorem others_eq (fs : List Fk) (n : Str) (hl : fs.length ≤ 7) : fn_others [folkD fs, .str n] = some (folkD (left fs [n])) := by
  have hcc := compL_enc encF (vs := [2]) (γ := gN 2) (τ := fTest (fOp dNe (fOp dIx (fVar 2) (fC (.int 0))) (fVar 1))) (ε := fVar 2) (δ := [.dat (folkD fs), .dat (.str n), .un])
    (fun r => [.dat (folkD fs), .dat (.str n), .dat (encF r)]) (fun r => !decide (r.1 = n)) encF fs fun r _ => ⟨rfl, by
      have : dIx (encF r) (.int 0) = some (.str r.1) := ix_t0
      simp only [e_fTest, e_fOp, e_fVar, e_fC, List.getElem?_cons_zero, List.getElem?_cons_succ, this, dNe_str], fun _ => rfl, rfl⟩
  have hL := fLc_of (φ := fItems (fVar 0)) (δ := [.dat (folkD fs), .dat (.str n), .un]) rfl (by rw [List.length_map]; omega) hcc
  have e : (fs.filter fun r => !decide (r.1 = n)) = left fs [n] := by
    unfold left
    refine List.filter_congr fun p _ => ?_
    by_cases h : p.1 = n <;> simp [h]
  rw [e] at hL
  unfold fn_others b_others
  simp only [runD, e_sOwnD, e_fNewD, e_fDictD, e_sDPutO, e_fDGetO, e_fDGet2, e_sFrzD, e_sPar3, e_fVar, e_fC, e_fOp, e_fUn, e_fNil, e_fCons, e_fTup, e_fLst, e_fOfL, e_fTest, e_fAnd, e_fOr, e_fNot, e_fBool, e_fIf, e_fChain, e_fVarB, e_fUnL, e_fNoPart, e_fPart, e_fSl, e_gN, e_gNl, e_gCs, e_gTp, e_fZip, e_fYes, e_sNx, e_sSeq, e_sAsg, e_sOwn, e_sApp, e_sExt, e_sIns, e_sSetIx, e_fIxO, e_fSlO, e_sRet, e_sRetL, e_sRetO, e_sFrz, e_sDrop, e_sIf, e_sPar, e_fCall, e_fCallL, e_fCallB, e_sParO, e_fOpO, e_fItems, e_fRange, e_fMin, e_orF, fI0, fI, fS0, dNeg, dAbs, dLen, dSum, dTuple, ix_t0, ix_t1, ix_t2, ix_l0, ix_l1, ownAt, setOwn, EV.cont, EV.with, seqOf, itemsOf, List.map_cons, List.map_nil, List.cons_append, List.nil_append, List.replicate_succ, List.replicate_zero, List.getElem?_cons_zero, List.getElem?_cons_succ, List.getElem?_nil, List.set_cons_zero, List.set_cons_succ, List.length_cons, List.length_nil, hL]
  rfl
/-- what somebody weighs, if the cart gains q by them -/
def hvBy (f r : Int) (q : Rat) : Rat := mkRat (q.num * r) (f * q.den - q.num).toNat
def lpBy (h w : Int) (q : Rat) : Rat := mkRat (q.num * w) (h * q.den).toNat
section
variable {c : Int} {fs : List Fk} {n : Str} {e : Fk} {q : Rat}
theorem mul_small {a b : Int} {x y : Nat} (ha : a.natAbs < 2 ^ x) (hb : b.natAbs < 2 ^ y) (h : x + y ≤ 100) : (a * b).natAbs < 2 ^ 100 := by
  rw [Int.natAbs_mul]
  exact Nat.lt_of_lt_of_le (mul_lt2 ha hb) (Nat.pow_le_pow_right (by decide) h)
theorem up8000 {x m : Nat} (h : x < 2 ^ m) (hm : m ≤ 8000) : x < 2 ^ 8000 := Nat.lt_of_lt_of_le h (Nat.pow_le_pow_right (by decide) hm)
theorem heavyby_eq (hc : 1 ≤ c ∧ c ≤ 1000) (hf : OkF fs) (he : entry fs n = some e) (hb : 1 ≤ e.2.2 ∧ e.2.2 ≤ 100) (hq : Bd 40 q) (hq0 : 0 < q.num) : fn_heavy_by [.int c, folkD fs, .str n, frD q] = some (if e.2.2 * q.den ≤ q.num then .none else frD (hvBy e.2.2 (wgt c (left fs [n])) q)) := by
  have hfL := left_ok hf [n]
  have w := wgt_le c hc (left fs [n]) hfL.hv
  have wl := hfL.len
  have h1 := rowof_eq hf.len he
  have h2 := others_eq fs n hf.len
  have h3 := weigh_eq c (left fs [n]) hfL.len
  have i2 : dIx (encF e) (.int 2) = some (.int e.2.2) := ix_t2
  have sd : ((q.den : Nat) : Int).natAbs < 2 ^ 40 := hq.2
  have sf : e.2.2.natAbs < 2 ^ 20 := pow20 (by omega) 20 (by omega)
  have sw : (wgt c (left fs [n])).natAbs < 2 ^ 20 := pow20 (by omega) 20 (by omega)
  have m1 : cMulB e.2.2 (q.den : Int) = true := mulB (up8000 sf (by decide)) (up8000 sd (by decide))
  have m2 : cMulB q.num (wgt c (left fs [n])) = true := mulB (up8000 hq.1 (by decide)) (up8000 sw (by decide))
  have sfd := mul_small sf sd (by decide)
  unfold fn_heavy_by b_heavy_by
  by_cases hle : e.2.2 * q.den ≤ q.num
  · rw [if_pos hle]
    unfold frD
    simp only [runD, e_sOwnD, e_fNewD, e_fDictD, e_sDPutO, e_fDGetO, e_fDGet2, e_sFrzD, e_sPar3, e_fVar, e_fC, e_fOp, e_fUn, e_fNil, e_fCons, e_fTup, e_fLst, e_fOfL, e_fTest, e_fAnd, e_fOr, e_fNot, e_fBool, e_fIf, e_fChain, e_fVarB, e_fUnL, e_fNoPart, e_fPart, e_fSl, e_gN, e_gNl, e_gCs, e_gTp, e_fZip, e_fYes, e_sNx, e_sSeq, e_sAsg, e_sOwn, e_sApp, e_sExt, e_sIns, e_sSetIx, e_fIxO, e_fSlO, e_sRet, e_sRetL, e_sRetO, e_sFrz, e_sDrop, e_sIf, e_sPar, e_fCall, e_fCallL, e_fCallB, e_sParO, e_fOpO, e_fItems, e_fRange, e_fMin, e_orF, fI0, fI, fS0, dNeg, dAbs, dLen, dSum, dTuple, ix_t0, ix_t1, ix_t2, ix_l0, ix_l1, ownAt, setOwn, EV.cont, EV.with, seqOf, itemsOf, List.map_cons, List.map_nil, List.cons_append, List.nil_append, List.replicate_succ, List.replicate_zero, List.getElem?_cons_zero, List.getElem?_cons_succ, List.getElem?_nil, List.set_cons_zero, List.set_cons_succ, List.length_cons, List.length_nil, h1, i2, h2, h3, m1, if_true, hle, decide_true]
  · rw [if_neg hle]
    have h4 := fn_fraction_eq (q.num * wgt c (left fs [n])) (e.2.2 * q.den - q.num) (by omega) (by
      have : (e.2.2 * q.den - q.num).natAbs ≤ (e.2.2 * (q.den : Int)).natAbs := by omega
      exact up8000 (Nat.lt_of_le_of_lt this sfd) (by decide))
    unfold frD at h4 ⊢
    simp only [runD, e_sOwnD, e_fNewD, e_fDictD, e_sDPutO, e_fDGetO, e_fDGet2, e_sFrzD, e_sPar3, e_fVar, e_fC, e_fOp, e_fUn, e_fNil, e_fCons, e_fTup, e_fLst, e_fOfL, e_fTest, e_fAnd, e_fOr, e_fNot, e_fBool, e_fIf, e_fChain, e_fVarB, e_fUnL, e_fNoPart, e_fPart, e_fSl, e_gN, e_gNl, e_gCs, e_gTp, e_fZip, e_fYes, e_sNx, e_sSeq, e_sAsg, e_sOwn, e_sApp, e_sExt, e_sIns, e_sSetIx, e_fIxO, e_fSlO, e_sRet, e_sRetL, e_sRetO, e_sFrz, e_sDrop, e_sIf, e_sPar, e_fCall, e_fCallL, e_fCallB, e_sParO, e_fOpO, e_fItems, e_fRange, e_fMin, e_orF, fI0, fI, fS0, dNeg, dAbs, dLen, dSum, dTuple, ix_t0, ix_t1, ix_t2, ix_l0, ix_l1, ownAt, setOwn, EV.cont, EV.with, seqOf, itemsOf, List.map_cons, List.map_nil, List.cons_append, List.nil_append, List.replicate_succ, List.replicate_zero, List.getElem?_cons_zero, List.getElem?_cons_succ, List.getElem?_nil, List.set_cons_zero, List.set_cons_succ, List.length_cons, List.length_nil, h1, i2, h2, h3, m1, m2, if_true, hle, decide_false, h4]
    rfl
theorem leapby_eq (hc : 1 ≤ c ∧ c ≤ 1000) (hf : OkF fs) (he : entry fs n = some e) (hb : 1 ≤ e.2.1 ∧ e.2.1 ≤ 200) (hq : Bd 40 q) : fn_leap_by [.int c, folkD fs, .str n, frD q] = some (frD (lpBy e.2.1 (wgt c fs) q)) := by
  have w := wgt_le c hc fs hf.hv
  have wl := hf.len
  have h1 := rowof_eq hf.len he
  have h3 := weigh_eq c fs hf.len
  have i2 : dIx (encF e) (.int 1) = some (.int e.2.1) := ix_t1
  have sd : ((q.den : Nat) : Int).natAbs < 2 ^ 40 := hq.2
  have sf : e.2.1.natAbs < 2 ^ 20 := pow20 (by omega) 20 (by omega)
  have sw : (wgt c fs).natAbs < 2 ^ 20 := pow20 (by omega) 20 (by omega)
  have m1 : cMulB e.2.1 (q.den : Int) = true := mulB (up8000 sf (by decide)) (up8000 sd (by decide))
  have m2 : cMulB q.num (wgt c fs) = true := mulB (up8000 hq.1 (by decide)) (up8000 sw (by decide))
  have d0 := q.den_pos
  have h4 := fn_fraction_eq (q.num * wgt c fs) (e.2.1 * q.den) (Int.mul_pos (by omega) (by omega)) (up8000 (mul_small sf sd (by decide)) (by decide))
  unfold fn_leap_by b_leap_by
  unfold frD at h4 ⊢
  simp only [runD, e_sOwnD, e_fNewD, e_fDictD, e_sDPutO, e_fDGetO, e_fDGet2, e_sFrzD, e_sPar3, e_fVar, e_fC, e_fOp, e_fUn, e_fNil, e_fCons, e_fTup, e_fLst, e_fOfL, e_fTest, e_fAnd, e_fOr, e_fNot, e_fBool, e_fIf, e_fChain, e_fVarB, e_fUnL, e_fNoPart, e_fPart, e_fSl, e_gN, e_gNl, e_gCs, e_gTp, e_fZip, e_fYes, e_sNx, e_sSeq, e_sAsg, e_sOwn, e_sApp, e_sExt, e_sIns, e_sSetIx, e_fIxO, e_fSlO, e_sRet, e_sRetL, e_sRetO, e_sFrz, e_sDrop, e_sIf, e_sPar, e_fCall, e_fCallL, e_fCallB, e_sParO, e_fOpO, e_fItems, e_fRange, e_fMin, e_orF, fI0, fI, fS0, dNeg, dAbs, dLen, dSum, dTuple, ix_t0, ix_t1, ix_t2, ix_l0, ix_l1, ownAt, setOwn, EV.cont, EV.with, seqOf, itemsOf, List.map_cons, List.map_nil, List.cons_append, List.nil_append, List.replicate_succ, List.replicate_zero, List.getElem?_cons_zero, List.getElem?_cons_succ, List.getElem?_nil, List.set_cons_zero, List.set_cons_succ, List.length_cons, List.length_nil, h1, i2, h3, m1, m2, if_true, h4]
  rfl
end
/-! ### as rationals -/
theorem mk_mul {t b : Int} (hb : 0 < b) : mkRat t b.toNat * (b : Rat) = (t : Rat) := by
  rw [mk_split t hb, Rat.mul_assoc, Rat.mul_comm (mkRat 1 _), mk_inv hb, Rat.mul_one]
theorem den_mul (q : Rat) : q * ((q.den : Int) : Rat) = (q.num : Rat) := by
  have := mk_mul (t := q.num) (b := (q.den : Int)) (by have := q.den_pos; omega)
  rw [show ((q.den : Int)).toNat = q.den from rfl, Rat.mkRat_self] at this
  exact this
theorem cast_pos {i : Int} (h : 0 < i) : (0 : Rat) < (i : Rat) := by
  have := Rat.intCast_lt_intCast.mpr h
  exact this
theorem cast_ne {i : Int} (h : 0 < i) : (i : Rat) ≠ 0 := fun z => by
  have := cast_pos h
  rw [z] at this
  exact absurd this (Rat.lt_irrefl)
theorem hv_alg {f r : Int} {q : Rat} (h : q.num < f * q.den) : hvBy f r q * ((f : Rat) - q) = q * (r : Rat) := by
  have d0 : (0 : Int) < q.den := by have := q.den_pos; omega
  have h1 := mk_mul (t := q.num * r) (b := f * q.den - q.num) (by omega)
  have h2 := den_mul q
  have h3 := cast_ne d0
  rw [Rat.intCast_sub, Rat.intCast_mul, Rat.intCast_mul, ← h2] at h1
  show mkRat (q.num * r) (f * q.den - q.num).toNat * _ = _
  generalize mkRat (q.num * r) (f * q.den - q.num).toNat = T at h1
  generalize ((q.den : Int) : Rat) = D at *
  have e : D * (T * ((f : Rat) - q) - q * (r : Rat)) = 0 := by grind
  rcases Rat.mul_eq_zero.mp e with z | z
  · exact absurd z h3
  · grind
theorem lp_alg {h w : Int} {q : Rat} (hh : 0 < h) : lpBy h w q * (h : Rat) = q * (w : Rat) := by
  have d0 : (0 : Int) < q.den := by have := q.den_pos; omega
  have h1 := mk_mul (t := q.num * w) (b := h * q.den) (Int.mul_pos hh d0)
  have h2 := den_mul q
  have h3 := cast_ne d0
  rw [Rat.intCast_mul, Rat.intCast_mul, ← h2] at h1
  show mkRat (q.num * w) (h * q.den).toNat * _ = _
  generalize mkRat (q.num * w) (h * q.den).toNat = T at h1
  generalize ((q.den : Int) : Rat) = D at *
  have e : D * (T * (h : Rat) - q * (w : Rat)) = 0 := by grind
  rcases Rat.mul_eq_zero.mp e with z | z
  · exact absurd z h3
  · grind
end Lc
set_option exponentiation.threshold 10000
namespace Lc
open PySem L2 Evl RZ Sm
theorem back_n {vs : List Nat} {k : Nat} : backE vs k [] [] = [] := rfl
theorem back_s {vs : List Nat} {k : Nat} {e : EV} {δ δ4 : En} (h : vs.contains k = false) (ih : backE vs (k + 1) δ δ4 = δ) : backE vs k (e :: δ) (e :: δ4) = e :: δ := by
  unfold backE
  rw [ih, h]
  cases e <;> rfl
theorem back_o {vs : List Nat} {k : Nat} {e e4 : EV} {δ δ4 : En} (h : e.mine = false) (ih : backE vs (k + 1) δ δ4 = δ) : backE vs k (e :: δ) (e4 :: δ4) = e :: δ := by
  unfold backE
  rw [ih, h]
  rfl
/-! ### sizes by common bottoms: q times N is whole, q at most B -/
def Fq (N B : Nat) (q : Rat) : Prop := ∃ m : Int, q * ((N : Int) : Rat) = (m : Rat) ∧ m.natAbs ≤ B * N
theorem fq_zero (N B : Nat) : Fq N B 0 := ⟨0, by rw [Rat.zero_mul]; rfl, by simp⟩
theorem fq_int {B : Nat} {i : Int} (h : i.natAbs ≤ B) : Fq 1 B (i : Rat) := ⟨i, by
  show (i : Rat) * ((1 : Int) : Rat) = _
  exact Rat.mul_one _, by omega⟩
theorem fq_add {N B C : Nat} {p q : Rat} (hp : Fq N B p) (hq : Fq N C q) : Fq N (B + C) (p + q) := by
  obtain ⟨m, e1, h1⟩ := hp
  obtain ⟨k, e2, h2⟩ := hq
  refine ⟨m + k, by rw [Rat.add_mul, e1, e2, Rat.intCast_add], ?_⟩
  have := Int.natAbs_add_le m k
  rw [Nat.add_mul]
  omega
theorem fq_neg {N B : Nat} {p : Rat} (hp : Fq N B p) : Fq N B (-p) := by
  obtain ⟨m, e1, h1⟩ := hp
  exact ⟨-m, by rw [Rat.neg_mul, e1, Rat.intCast_neg], by rw [Int.natAbs_neg]; exact h1⟩
theorem fq_sub {N B C : Nat} {p q : Rat} (hp : Fq N B p) (hq : Fq N C q) : Fq N (B + C) (p - q) := by
  rw [Rat.sub_eq_add_neg]
  exact fq_add hp (fq_neg hq)
theorem fq_mul {N M B C : Nat} {p q : Rat} (hp : Fq N B p) (hq : Fq M C q) : Fq (N * M) (B * C) (p * q) := by
  obtain ⟨m, e1, h1⟩ := hp
  obtain ⟨k, e2, h2⟩ := hq
  refine ⟨m * k, ?_, ?_⟩
  · rw [Rat.intCast_mul, ← e1, ← e2, show ((N * M : Nat) : Int) = (N : Int) * (M : Int) from Int.natCast_mul _ _, Rat.intCast_mul]
    grind
  · rw [Int.natAbs_mul]
    have := Nat.mul_le_mul h1 h2
    have e : B * N * (C * M) = B * C * (N * M) := by
      rw [Nat.mul_assoc, Nat.mul_assoc, Nat.mul_left_comm N C M]
    omega
theorem fq_up {N B : Nat} (k : Nat) {p : Rat} (hp : Fq N B p) : Fq (N * k) B p := by
  obtain ⟨m, e1, h1⟩ := hp
  refine ⟨m * k, ?_, ?_⟩
  · rw [Rat.intCast_mul, ← e1, show ((N * k : Nat) : Int) = (N : Int) * (k : Int) from Int.natCast_mul _ _, Rat.intCast_mul]
    grind
  · rw [Int.natAbs_mul, ← Nat.mul_assoc]
    exact Nat.mul_le_mul_right _ h1
theorem fq_le {N B C : Nat} {p : Rat} (hp : Fq N B p) (h : B ≤ C) : Fq N C p := by
  obtain ⟨m, e1, h1⟩ := hp
  exact ⟨m, e1, Nat.le_trans h1 (Nat.mul_le_mul_right _ h)⟩
theorem fq_mk {t : Int} {b : Int} {B : Nat} (hb : 0 < b) (ht : t.natAbs ≤ B) : Fq b.toNat B (mkRat t b.toNat) := by
  refine ⟨t, ?_, ?_⟩
  · rw [show ((b.toNat : Nat) : Int) = b by omega]
    exact mk_mul hb
  · have : 1 ≤ b.toNat := by omega
    exact Nat.le_trans ht (Nat.le_mul_of_pos_right _ this)
theorem fq_bd {N B n : Nat} {q : Rat} (h : Fq N B q) (hN : 0 < N) (h1 : N < 2 ^ n) (h2 : B * N < 2 ^ n) : Bd n q := by
  obtain ⟨m, e, hm⟩ := h
  have hq : q = mkRat m N := by
    have e2 := mk_mul (t := m) (b := (N : Int)) (by omega)
    rw [show ((N : Int)).toNat = N from rfl] at e2
    have h3 := cast_ne (i := (N : Int)) (by omega)
    generalize mkRat m N = T at e2
    have e3 : ((N : Int) : Rat) * (q - T) = 0 := by grind
    rcases Rat.mul_eq_zero.mp e3 with z | z
    · exact absurd z h3
    · grind
  rw [hq]
  exact bd_mk (by omega) (by omega) h1
/-- all weights along a run, multiplied -/
def prodW (c : Int) : List Fk → List (List Lp) → Nat
  | _, [] => 1
  | fs, ls :: r => (wgt c fs).toNat * prodW c (left fs (ls.map (·.1))) r
theorem prodW_pos {c : Int} (hc : 1 ≤ c ∧ c ≤ 1000) : ∀ (lss : List (List Lp)) (fs : List Fk), OkF fs → 0 < prodW c fs lss
  | [], _, _ => Nat.one_pos
  | ls :: r, fs, hf => by
    have := wgt_le c hc fs hf.hv
    exact Nat.mul_pos (by omega) (prodW_pos hc r _ (left_ok hf _))
theorem prodW_lt {c : Int} (hc : 1 ≤ c ∧ c ≤ 1000) : ∀ (lss : List (List Lp)) (fs : List Fk), OkF fs → prodW c fs lss ≤ 2 ^ (12 * lss.length)
  | [], _, _ => by simp [prodW]
  | ls :: r, fs, hf => by
    have h1 := wgt_le c hc fs hf.hv
    have h2 := hf.len
    have ih := prodW_lt hc r _ (left_ok hf (ls.map (·.1)))
    rw [List.length_cons, show 12 * (r.length + 1) = 12 + 12 * r.length by omega, Nat.pow_add]
    exact Nat.mul_le_mul (by have : (2 : Nat) ^ 12 = 4096 := by decide
                             omega) ih
/-! ### dicts of all folk -/
def folkDic (F : List Fk) (g : Str → PyData) : List (PyData × PyData) := dkv (F.map fun p => (p.1, g p.1))
theorem fd_len (F : List Fk) (g : Str → PyData) : (folkDic F g).length = F.length := by
  unfold folkDic dkv
  rw [List.length_map, List.length_map]
theorem fd_put {F : List Fk} {g : Str → PyData} {n : Str} {d : PyData} (h : n ∈ F.map (·.1)) : putD (folkDic F g) (.inr n) d = folkDic F (fun m => if m = n then d else g m) := by
  unfold putD
  have : ((folkDic F g).any fun kv => decide (Sm.keyOf kv.1 = some (Sum.inr n))) = true := by
    obtain ⟨p, hp, rfl⟩ := List.mem_map.mp h
    rw [List.any_eq_true]
    refine ⟨(.str p.1, g p.1), ?_, decide_eq_true rfl⟩
    unfold folkDic dkv
    rw [List.map_map]
    exact List.mem_map.mpr ⟨p, hp, rfl⟩
  rw [if_pos this]
  unfold folkDic dkv
  rw [List.map_map, List.map_map, List.map_map]
  refine List.map_congr_left fun p _ => ?_
  show (if Sm.keyOf (.str p.1) = some (Sum.inr n) then (PyData.str p.1, d) else (.str p.1, g p.1)) = (.str p.1, if p.1 = n then d else g p.1)
  by_cases hp : p.1 = n
  · rw [if_pos (by rw [hp]; rfl), if_pos hp]
  · rw [if_neg (show ¬ Sm.keyOf (.str p.1) = some (Sum.inr n) from fun z => hp (Sum.inr.inj (Option.some.inj z))), if_neg hp]
theorem fd_look {F : List Fk} {g : Str → PyData} {n : Str} (h : n ∈ F.map (·.1)) : lookD (folkDic F g) (.inr n) = some (g n) := by
  unfold folkDic
  rw [look_dkv]
  induction F with
  | nil => cases h
  | cons p F ih =>
    rw [List.map_cons]
    by_cases hp : p.1 = n
    · rw [List.find?_cons_of_pos (by simpa using hp)]
      show some (g p.1) = _
      rw [hp]
    · rw [List.find?_cons_of_neg (by simpa using hp)]
      refine ih ?_
      rw [List.map_cons] at h
      rcases List.mem_cons.mp h with z | z
      · exact absurd z.symm hp
      · exact z
theorem fd_congr {F : List Fk} {g g' : Str → PyData} (h : ∀ p, p ∈ F → g p.1 = g' p.1) : folkDic F g = folkDic F g' := by
  unfold folkDic
  congr 1
  exact List.map_congr_left fun p hp => by rw [h p hp]
/-! ### leaps in whatever part of the rows -/
theorem OkLs.each : ∀ {lss : List (List Lp)} {fs : List Fk}, OkLs fs lss → ∀ ls, ls ∈ lss → ls.length ≤ 7 ∧ (∀ p, p ∈ ls → p.2 = 1 ∨ p.2 = -1)
  | [], _, _, ls, h => by cases h
  | l :: r, fs, hl, ls, h => by
    rcases List.mem_cons.mp h with rfl | h
    · exact ⟨hl.1.len, hl.1.wy⟩
    · exact OkLs.each hl.2 ls h
theorem namesOf_cons (ls : List Lp) (r : List (List Lp)) : namesOf (ls :: r) = ls.map (·.1) ++ namesOf r := rfl
theorem OkLs.all : ∀ {lss : List (List Lp)} {fs : List Fk}, (∀ ls, ls ∈ lss → ls.length ≤ 7 ∧ (∀ p, p ∈ ls → p.2 = 1 ∨ p.2 = -1)) → (namesOf lss).Nodup → (∀ n, n ∈ namesOf lss → n ∈ fs.map (·.1)) → OkLs fs lss
  | [], _, _, _, _ => trivial
  | ls :: r, fs, h, nd, hm => by
    rw [namesOf_cons] at nd hm
    obtain ⟨n1, n2, n3⟩ := List.nodup_append.mp nd
    refine ⟨⟨(h ls List.mem_cons_self).1, fun p hp => hm _ (List.mem_append_left _ (List.mem_map.mpr ⟨p, hp, rfl⟩)), (h ls List.mem_cons_self).2, n1⟩, OkLs.all (fun l hl => h l (List.mem_cons_of_mem _ hl)) n2 fun n hn => ?_⟩
    exact left_mem (hm n (List.mem_append_right _ hn)) fun z => n3 n z n hn rfl
theorem names_sub : ∀ {l k : List (List Lp)}, l.Sublist k → (namesOf l).Sublist (namesOf k)
  | _, _, .slnil => List.Sublist.slnil
  | _, _, .cons a h => by
    rw [namesOf_cons]
    exact (names_sub h).trans (List.sublist_append_right _ _)
  | _, _, .cons_cons a h => by
    rw [namesOf_cons, namesOf_cons]
    exact List.Sublist.append (List.Sublist.refl _) (names_sub h)
end Lc
set_option exponentiation.threshold 10000
namespace Lc
open PySem L2 Evl RZ Sm
/-! ### leaps at hours, drawn -/
abbrev Tm := Int × List Lp
def encT (r : Tm) : PyData := .tuple [.int r.1, onceD r.2]
def intDic (hs : List Int) : List (PyData × PyData) := hs.map fun h => (.int h, .bool true)
theorem id_put (hs : List Int) (h : Int) : putD (intDic hs) (.inl h) (.bool true) = intDic (if h ∈ hs then hs else hs ++ [h]) := by
  unfold putD
  by_cases hm : h ∈ hs
  · have : ((intDic hs).any fun kv => decide (Sm.keyOf kv.1 = some (Sum.inl h))) = true := by
      rw [List.any_eq_true]
      exact ⟨(.int h, .bool true), List.mem_map.mpr ⟨h, hm, rfl⟩, decide_eq_true rfl⟩
    rw [if_pos this, if_pos hm]
    unfold intDic
    rw [List.map_map]
    refine List.map_congr_left fun k _ => ?_
    show (if Sm.keyOf (.int k) = some (Sum.inl h) then (PyData.int k, PyData.bool true) else (.int k, .bool true)) = (.int k, .bool true)
    split <;> rfl
  · have : ¬ ((intDic hs).any fun kv => decide (Sm.keyOf kv.1 = some (Sum.inl h))) = true := fun z => by
      rw [List.any_eq_true] at z
      obtain ⟨kv, hkv, e⟩ := z
      obtain ⟨k, hk, rfl⟩ := List.mem_map.mp hkv
      have e' := of_decide_eq_true e
      have : k = h := Sum.inl.inj (Option.some.inj e')
      exact hm (this ▸ hk)
    rw [if_neg this, if_neg hm]
    unfold intDic
    rw [List.map_append]
    rfl
theorem id_keys : ∀ hs : List Int, keyInts (intDic hs) = some hs
  | [] => rfl
  | h :: hs => by
    show (match keyInts (intDic hs) with
      | some ns => some (h :: ns)
      | none => none) = _
    rw [id_keys hs]
theorem hours_loop (F : PyData) : ∀ (lss : List (List Lp)) (L : PyData) (b : List PyData) (hs : List Int) (x4 : EV), Bg b → hs.Nodup → (∀ h, h ∈ hs → 0 ≤ h ∧ h ≤ 1000) → hs.length + lss.length ≤ 100 →
    ∃ (hs' : List Int) (b' : List PyData) (y4 : EV), loopF (gN 4) (sDPutO 2 (fCallB fn__law_take 0 (fCons (fOp dIx (fOfL (fLst (fCons (fC (.int 9)) (fCons (fC (.int 60)) (fCons (fC (.int 1001)) fNil))))) (fCallB fn__law_take 0 (fCons (fC (.int 3)) fNil))) fNil)) (fC (.bool true))) (lss.map onceD) [.bag b, .dat F, .odc (intDic hs), .dat L, x4, .un] =
      some (.nx [.bag b', .dat F, .odc (intDic hs'), .dat L, y4, .un]) ∧ hs'.Nodup ∧ (∀ h, h ∈ hs' → 0 ≤ h ∧ h ≤ 1000) ∧ hs'.length ≤ hs.length + lss.length ∧ Bg b'
  | [], L, b, hs, x4, hb, h1, h2, _ => ⟨hs, b, x4, rfl, h1, h2, by rw [List.length_nil]; omega, hb⟩
  | ls :: r, L, b, hs, x4, hb, h1, h2, hn => by
    rw [List.length_cons] at hn
    obtain ⟨j, b1, e1, hj0, hj3, hb1⟩ := take_ok (m := 3) hb (by decide) (by decide)
    obtain ⟨m, hm, hm1⟩ := pick3 9 60 1001 hj0 hj3
    obtain ⟨h, b2, e2, hh0, hh1, hb2⟩ := take_ok (m := m) hb1 (by omega) (by omega)
    have hl : (intDic hs).length < 40000 := by
      unfold intDic
      rw [List.length_map]
      omega
    obtain ⟨hs', b', y4, ih, i1, i2, i3, i4⟩ := hours_loop F r L b2 (if h ∈ hs then hs else hs ++ [h]) (.dat (onceD ls)) hb2 (by
      split
      · exact h1
      · next z => exact List.nodup_append.mpr ⟨h1, by simp, fun a ha c hc => by
          rw [List.mem_singleton] at hc
          subst hc
          intro q
          exact z (q ▸ ha)⟩) (fun k hk => by
      split at hk
      · exact h2 k hk
      · rcases List.mem_append.mp hk with q | q
        · exact h2 k q
        · rw [List.mem_singleton] at q
          omega) (by
      split
      · omega
      · rw [List.length_append]
        show hs.length + 1 + r.length ≤ 100
        omega)
    refine ⟨hs', b', y4, ?_, i1, i2, ?_, i4⟩
    · rw [List.map_cons]
      unfold loopF
      simp only [e_gN, List.set_cons_zero, List.set_cons_succ]
      have hs1 : sDPutO 2 (fCallB fn__law_take 0 (fCons (fOp dIx (fOfL (fLst (fCons (fC (.int 9)) (fCons (fC (.int 60)) (fCons (fC (.int 1001)) fNil))))) (fCallB fn__law_take 0 (fCons (fC (.int 3)) fNil))) fNil)) (fC (.bool true)) [.bag b, .dat F, .odc (intDic hs), .dat L, .dat (onceD ls), .un] = some (.nx [.bag b2, .dat F, .odc (putD (intDic hs) (.inl h) (.bool true)), .dat L, .dat (onceD ls), .un]) := by
        simp only [e_sDPutO, e_fAddL, e_fZipB, e_fListZip, e_sOwnD, e_fNewD, e_fDictD, e_sDPutO, e_fDGetO, e_fDGet2, e_sFrzD, e_sPar3, e_fVar, e_fC, e_fOp, e_fUn, e_fNil, e_fCons, e_fTup, e_fLst, e_fOfL, e_fTest, e_fAnd, e_fOr, e_fNot, e_fBool, e_fIf, e_fChain, e_fVarB, e_fUnL, e_fNoPart, e_fPart, e_fSl, e_gN, e_gNl, e_gCs, e_gTp, e_fZip, e_fYes, e_sNx, e_sSeq, e_sAsg, e_sOwn, e_sApp, e_sExt, e_sIns, e_sSetIx, e_fIxO, e_fSlO, e_sRet, e_sRetL, e_sRetO, e_sFrz, e_sDrop, e_sIf, e_sPar, e_fCall, e_fCallL, e_fCallB, e_sParO, e_fOpO, e_fItems, e_fRange, e_fMin, e_orF, fI0, fI, fS0, dNeg, dAbs, dLen, dSum, dTuple, ix_t0, ix_t1, ix_t2, ix_l0, ix_l1, ownAt, setOwn, EV.cont, EV.with, seqOf, itemsOf, List.map_cons, List.map_nil, List.cons_append, List.nil_append, List.replicate_succ, List.replicate_zero, List.getElem?_cons_zero, List.getElem?_cons_succ, List.getElem?_nil, List.set_cons_zero, List.set_cons_succ, List.length_cons, List.length_nil, dicAt]
        rw [if_pos (by decide)]
        simp only [e_fAddL, e_fZipB, e_fListZip, e_sOwnD, e_fNewD, e_fDictD, e_sDPutO, e_fDGetO, e_fDGet2, e_sFrzD, e_sPar3, e_fVar, e_fC, e_fOp, e_fUn, e_fNil, e_fCons, e_fTup, e_fLst, e_fOfL, e_fTest, e_fAnd, e_fOr, e_fNot, e_fBool, e_fIf, e_fChain, e_fVarB, e_fUnL, e_fNoPart, e_fPart, e_fSl, e_gN, e_gNl, e_gCs, e_gTp, e_fZip, e_fYes, e_sNx, e_sSeq, e_sAsg, e_sOwn, e_sApp, e_sExt, e_sIns, e_sSetIx, e_fIxO, e_fSlO, e_sRet, e_sRetL, e_sRetO, e_sFrz, e_sDrop, e_sIf, e_sPar, e_fCall, e_fCallL, e_fCallB, e_sParO, e_fOpO, e_fItems, e_fRange, e_fMin, e_orF, fI0, fI, fS0, dNeg, dAbs, dLen, dSum, dTuple, ix_t0, ix_t1, ix_t2, ix_l0, ix_l1, ownAt, setOwn, EV.cont, EV.with, seqOf, itemsOf, List.map_cons, List.map_nil, List.cons_append, List.nil_append, List.replicate_succ, List.replicate_zero, List.getElem?_cons_zero, List.getElem?_cons_succ, List.getElem?_nil, List.set_cons_zero, List.set_cons_succ, List.length_cons, List.length_nil, e1, hm, e2, Sm.keyOf, hl, if_true]
      rw [hs1, id_put]
      exact ih
    · rw [List.length_cons]
      split at i3
      · omega
      · rw [List.length_append] at i3
        have : [h].length = 1 := rfl
        omega
theorem zip_enc : ∀ (hs : List Int) (lss : List (List Lp)), pairsOf (hs.map PyData.int) (lss.map onceD) = (hs.zip lss).map encT
  | [], lss => by cases lss <;> rfl
  | h :: hs, [] => rfl
  | h :: hs, ls :: r => by
    show PyData.tuple [.int h, onceD ls] :: pairsOf (hs.map PyData.int) (r.map onceD) = _
    rw [zip_enc hs r]
    rfl
structure OkT (fs : List Fk) (tm : List Tm) : Prop where
  len : tm.length ≤ 7
  hr : ∀ r, r ∈ tm → 0 ≤ r.1 ∧ r.1 ≤ 1000
  asc : (tm.map (·.1)).Pairwise (· < ·)
  each : ∀ r, r ∈ tm → r.2.length ≤ 7 ∧ (∀ p, p ∈ r.2 → p.2 = 1 ∨ p.2 = -1)
  nd : (namesOf (tm.map (·.2))).Nodup
  n7 : (namesOf (tm.map (·.2))).length ≤ 7
  nm : ∀ n, n ∈ namesOf (tm.map (·.2)) → n ∈ fs.map (·.1)
theorem OkT.sub {fs : List Fk} {tm tm' : List Tm} (h : OkT fs tm) (s : tm'.Sublist tm) : OkT fs tm' :=
  ⟨Nat.le_trans s.length_le h.len, fun r hr => h.hr r (s.subset hr), h.asc.sublist (s.map _), fun r hr => h.each r (s.subset hr), (names_sub (s.map _)).nodup h.nd, Nat.le_trans (names_sub (s.map _)).length_le h.n7, fun n hn => h.nm n ((names_sub (s.map _)).subset hn)⟩
theorem OkT.ls {fs : List Fk} {tm : List Tm} (h : OkT fs tm) : OkLs fs (tm.map (·.2)) := OkLs.all (fun ls hl => by
  obtain ⟨r, hr, rfl⟩ := List.mem_map.mp hl
  exact h.each r hr) h.nd h.nm
theorem zip_fst {α β : Type} : ∀ (xs : List α) (ys : List β), xs.length ≤ ys.length → (xs.zip ys).map (·.1) = xs
  | [], _, _ => by simp
  | x :: xs, [], h => by simp at h
  | x :: xs, y :: ys, h => by
    rw [List.zip_cons_cons, List.map_cons, zip_fst xs ys (by simpa using h)]
theorem zip_snd {α β : Type} : ∀ (xs : List α) (ys : List β), ys.length ≤ xs.length → (xs.zip ys).map (·.2) = ys
  | _, [], _ => by simp
  | [], y :: ys, h => by simp at h
  | x :: xs, y :: ys, h => by
    rw [List.zip_cons_cons, List.map_cons, zip_snd xs ys (by simpa using h)]
theorem timed_ok {b : List PyData} (hb : Bg b) {fs : List Fk} (hf : OkF fs) (hnm : ∀ p, p ∈ fs → Nm p.1) : ∃ (tm : List Tm) (b' : List PyData), fn__law_timed b [folkD fs] = some (.list (tm.map encT), b') ∧ OkT fs tm ∧ Bg b' := by
  obtain ⟨lss, b1, hl, hok, hln, ⟨_, h7, _⟩, hnd, hin, hb1⟩ := leaps_ok hb hf hnm
  obtain ⟨hs, b2, y4, hlo, h1, h2, h3, hb2⟩ := hours_loop (folkD fs) lss (.list (lss.map onceD)) b1 [] .un hb1 (List.nodup_nil) (fun h hh => by cases hh) (by rw [List.length_nil]; omega)
  rw [List.length_nil, Nat.zero_add] at h3
  have hF := sFor_of (φ := fItems (fVar 3)) (δ := [.bag b1, .dat (folkD fs), .odc (intDic []), .dat (.list (lss.map onceD)), .un, .un]) rfl hlo
  have hperm : (hs.mergeSort leI).Perm hs := List.mergeSort_perm _ _
  have hlen : (hs.mergeSort leI).length = hs.length := hperm.length_eq
  have hsort : dSortDI (.dict (intDic hs)) = some ((hs.mergeSort leI).map PyData.int) := by
    have hd : dictOf (.dict (intDic hs)) = some (intDic hs) := by cases hs <;> rfl
    unfold dSortDI
    rw [hd]
    dsimp only
    rw [id_keys]
    dsimp only
    rw [if_pos (by omega)]
  have hpw : (hs.mergeSort leI).Pairwise (· < ·) := by
    have hle := List.pairwise_mergeSort (le := leI) (fun a b c h1 h2 => by simp [leI] at *; omega) (fun a b => by simp [leI]; omega) hs
    have hne : (hs.mergeSort leI).Pairwise (· ≠ ·) := List.nodup_iff_pairwise_ne.mp (hperm.nodup_iff.mpr h1)
    exact (hle.and hne).imp fun {a b} ⟨q1, q2⟩ => by
      have q1' : a ≤ b := by simpa [leI] using q1
      omega
  generalize hrs : hs.mergeSort leI = rs at hperm hlen hsort hpw
  have ht : (lss.take rs.length).length = rs.length := by
    rw [List.length_take]
    omega
  have hsub : (lss.take rs.length).Sublist lss := List.take_sublist _ _
  refine ⟨rs.zip (lss.take rs.length), b2, ?_, ⟨?_, fun r hr => ?_, ?_, fun r hr => ?_, ?_, ?_, fun n hn => ?_⟩, hb2⟩
  · have hlen2 : (rs.map PyData.int).length = rs.length := List.length_map _
    have hcut := cut_to (lss.map onceD) (m := ((rs.map PyData.int).length : Int)) (by omega)
    rw [hlen2, show ((rs.length : Nat) : Int).toNat = rs.length from rfl, ← List.map_take] at hcut
    unfold fn__law_timed b__law_timed
    simp only [runB, List.map_cons, List.map_nil, List.cons_append, List.nil_append, List.replicate_succ, List.replicate_zero]
    rw [seq_of (δ1 := [.bag b, .dat (folkD fs), .odc (intDic []), .un, .un, .un]) rfl, seq_of (δ1 := [.bag b1, .dat (folkD fs), .odc (intDic []), .dat (.list (lss.map onceD)), .un, .un]) (by simp only [e_fAddL, e_fZipB, e_fListZip, e_sOwnD, e_fNewD, e_fDictD, e_sDPutO, e_fDGetO, e_fDGet2, e_sFrzD, e_sPar3, e_fVar, e_fC, e_fOp, e_fUn, e_fNil, e_fCons, e_fTup, e_fLst, e_fOfL, e_fTest, e_fAnd, e_fOr, e_fNot, e_fBool, e_fIf, e_fChain, e_fVarB, e_fUnL, e_fNoPart, e_fPart, e_fSl, e_gN, e_gNl, e_gCs, e_gTp, e_fZip, e_fYes, e_sNx, e_sSeq, e_sAsg, e_sOwn, e_sApp, e_sExt, e_sIns, e_sSetIx, e_fIxO, e_fSlO, e_sRet, e_sRetL, e_sRetO, e_sFrz, e_sDrop, e_sIf, e_sPar, e_fCall, e_fCallL, e_fCallB, e_sParO, e_fOpO, e_fItems, e_fRange, e_fMin, e_orF, fI0, fI, fS0, dNeg, dAbs, dLen, dSum, dTuple, ix_t0, ix_t1, ix_t2, ix_l0, ix_l1, ownAt, setOwn, EV.cont, EV.with, seqOf, itemsOf, List.map_cons, List.map_nil, List.cons_append, List.nil_append, List.replicate_succ, List.replicate_zero, List.getElem?_cons_zero, List.getElem?_cons_succ, List.getElem?_nil, List.set_cons_zero, List.set_cons_succ, List.length_cons, List.length_nil, hl]), seq_of hF,
      seq_of (δ1 := [.bag b2, .dat (folkD fs), .dat (.dict (intDic hs)), .dat (.list (lss.map onceD)), y4, .dat (.list (rs.map PyData.int))]) (by
        simp only [e_sFrzD, e_sAsg, e_fOfL, e_fUnL, e_fVar, e_gN, List.getElem?_cons_zero, List.getElem?_cons_succ, List.set_cons_zero, List.set_cons_succ, hsort])]
    have hd : dLen (.list (rs.map PyData.int)) = some (.int rs.length) := by
      show some (PyData.int ((rs.map PyData.int).length : Nat)) = _
      rw [hlen2]
    simp only [e_sRetL, e_fListZip, e_fVar, e_fSl, e_fNoPart, e_fPart, e_fUn, List.getElem?_cons_zero, List.getElem?_cons_succ, hd, dSl, hcut, zip_enc]
  · rw [List.length_zip, ht]
    omega
  · have := (List.of_mem_zip hr).1
    exact h2 r.1 (hperm.mem_iff.mp this)
  · rw [zip_fst _ _ (by omega)]
    exact hpw
  · exact hok.each r.2 (hsub.subset (List.of_mem_zip hr).2)
  · rw [zip_snd _ _ (by omega)]
    exact (names_sub hsub).nodup hnd
  · rw [zip_snd _ _ (by omega)]
    exact Nat.le_trans (names_sub hsub).length_le h7
  · rw [zip_snd _ _ (by omega)] at hn
    exact hin n ((names_sub hsub).subset hn)
end Lc
set_option exponentiation.threshold 10000
set_option maxHeartbeats 1000000
namespace Lc
open PySem L2 Evl RZ Sm
/-! ### the rows that are done at an hour -/
structure ZI where
  i : Nat
  a : Int
  ls : List Lp
  v : Rat
  ow : List (Str × Rat)
  e : Rat
def nxt (t : Rat) : List Tm → Rat
  | [] => t
  | r :: _ => (r.1 : Rat)
def zs (c : Int) (t : Rat) : Nat → List Fk → Rat → List Tm → List ZI
  | _, _, _, [] => []
  | i, fs, q, r :: rs => ⟨i, r.1, r.2, dr c fs q r.2, own fs (dr c fs q r.2) r.2, nxt t rs⟩ :: zs c t (i + 1) (left fs (r.2.map (·.1))) (dr c fs q r.2) rs
theorem zs_cons (c : Int) (t : Rat) (i : Nat) (fs : List Fk) (q : Rat) (r : Tm) (rs : List Tm) : zs c t i fs q (r :: rs) = ⟨i, r.1, r.2, dr c fs q r.2, own fs (dr c fs q r.2) r.2, nxt t rs⟩ :: zs c t (i + 1) (left fs (r.2.map (·.1))) (dr c fs q r.2) rs := rfl
theorem zs_go (c : Int) (t : Rat) : ∀ (tm : List Tm) (i : Nat) (fs : List Fk) (q : Rat), (zs c t i fs q tm).map (·.v) = go c fs q (tm.map (·.2))
  | [], _, _, _ => rfl
  | r :: rs, i, fs, q => by
    rw [zs_cons, List.map_cons, List.map_cons, go_cons, zs_go c t rs]
theorem zs_rows (c : Int) (t : Rat) : ∀ (tm : List Tm) (i : Nat) (fs : List Fk) (q : Rat), (zs c t i fs q tm).map (fun z => (z.v, z.ow)) = rows c fs q (tm.map (·.2))
  | [], _, _, _ => rfl
  | r :: rs, i, fs, q => by
    rw [zs_cons, List.map_cons, List.map_cons, rows_cons, zs_rows c t rs]
theorem zs_tm (c : Int) (t : Rat) : ∀ (tm : List Tm) (i : Nat) (fs : List Fk) (q : Rat), (zs c t i fs q tm).map (fun z => (z.a, z.ls)) = tm
  | [], _, _, _ => rfl
  | r :: rs, i, fs, q => by
    rw [zs_cons, List.map_cons, zs_tm c t rs]
theorem zs_len (c : Int) (t : Rat) (tm : List Tm) (i : Nat) (fs : List Fk) (q : Rat) : (zs c t i fs q tm).length = tm.length := by
  have := congrArg List.length (zs_tm c t tm i fs q)
  rw [List.length_map] at this
  exact this
def PB : Nat := 140000
def MB : Nat := 1000000
def VB : Nat := 2000000
theorem mb_vb : MB + 100 ≤ VB := by decide +kernel
structure ZOk (N : Nat) (F : List Fk) (z : ZI) : Prop where
  ha : 0 ≤ z.a ∧ z.a ≤ 1000
  hv : Fq N VB z.v
  ho : ∀ x, x ∈ z.ow → Fq N VB x.2
  eo : z.ow = own F z.v z.ls
  ok : OkL F z.ls
theorem fq_dr {c : Int} {fs : List Fk} {ls : List Lp} {q : Rat} {N B : Nat} (hc : 1 ≤ c ∧ c ≤ 1000) (hf : OkF fs) (hw : ∀ p, p ∈ ls → p.2 = 1 ∨ p.2 = -1) (hq : Fq N B q) : Fq (N * (wgt c fs).toNat) (B + PB) (dr c fs q ls) := by
  have h1 := push_le hw fs hf.hv
  have h2 := wgt_le c hc fs hf.hv
  have h3 := hf.len
  have h4 := fq_up N (fq_mk (t := -push fs ls) (b := wgt c fs) (B := PB) (by omega) (by show _ ≤ 140000; omega))
  rw [Nat.mul_comm] at h4
  exact fq_add (fq_up _ hq) h4
theorem zs_ok {c : Int} (hc : 1 ≤ c ∧ c ≤ 1000) {F : List Fk} (hF : OkF F) (t : Rat) : ∀ (tm : List Tm) (i : Nat) (fs : List Fk) (q : Rat) (N B : Nat), OkF fs → (∀ r, r ∈ tm → 0 ≤ r.1 ∧ r.1 ≤ 1000) → OkLs fs (tm.map (·.2)) → Rest F fs → Fq N B q → B + PB * tm.length ≤ MB → ∀ z, z ∈ zs c t i fs q tm → ZOk (N * prodW c fs (tm.map (·.2))) F z
  | [], _, _, _, _, _, _, _, _, _, _, _, z, hz => by cases hz
  | r :: rs, i, fs, q, N, B, hf, hh, hl, hr, hq, hB, z, hz => by
    rw [List.length_cons, Nat.mul_succ] at hB
    rw [List.map_cons] at hl ⊢
    have hd := fq_dr hc hf hl.1.wy hq
    rw [zs_cons] at hz
    show ZOk (N * ((wgt c fs).toNat * prodW c (left fs (r.2.map (·.1))) (rs.map (·.2)))) F z
    rw [← Nat.mul_assoc]
    rcases List.mem_cons.mp hz with rfl | hz
    · refine ⟨hh r List.mem_cons_self, fq_le (fq_up _ hd) (by have := mb_vb; omega), fun x hx => ?_, (hr.own hl.1 _).symm, hl.1.up hr⟩
      have hx' : x ∈ own fs (dr c fs q r.2) r.2 := hx
      unfold own at hx'
      obtain ⟨p, hp, rfl⟩ := List.mem_map.mp hx'
      obtain ⟨_, _, _, hn, _, _⟩ := leap_le hf (hl.1.wy p hp) (hl.1.nm p hp)
      have hi := fq_up (N * (wgt c fs).toNat * prodW c (left fs (r.2.map (·.1))) (rs.map (·.2))) (fq_int (i := p.2 * leapOf fs p.1) (B := 100) hn)
      rw [Nat.one_mul] at hi
      exact fq_le (fq_add (fq_up _ hd) hi) (by have := mb_vb; omega)
    · exact zs_ok hc hF t rs (i + 1) _ _ _ _ (left_ok hf _) (fun r hr => hh r (List.mem_cons_of_mem _ hr)) hl.2 (hr.left _) hd (by omega) z hz
theorem zs_names (c : Int) (t : Rat) (tm : List Tm) (i : Nat) (fs : List Fk) (q : Rat) : namesOf ((zs c t i fs q tm).map (·.ls)) = namesOf (tm.map (·.2)) := by
  have h := congrArg (List.map (fun r : Tm => r.2)) (zs_tm c t tm i fs q)
  rw [List.map_map] at h
  rw [← h]
  rfl
/-! ### a stretch -/
theorem runon_eq {p v t : Rat} {s : Int} (hp : Bd 1000 p) (hv : Bd 1000 v) (ht : Bd 100 t) (hs : s.natAbs ≤ 1000) : fn_run_on [frD p, frD v, .int s, frD t] = some (frD (p + v * (t - (s : Rat)))) := by
  have hi : Bd 20 (((-s : Int)) : Rat) := bd_int (pow20 (by omega) 20 (by omega)) (by omega)
  have h1 := plus_whole_eq (q := t) (i := -s) (bd_le ht (by omega)) (pow20 (by omega) 3000 (by omega))
  have hb := bd_add ht hi
  have h2 := times_eq (p := v) (bd_le hv (by omega)) (bd_le hb (show 121 ≤ 3000 by omega))
  have hb2 := bd_mul hv hb
  have h3 := fn_plus_eq (bd_le hp (show 1000 ≤ 3000 by omega)) (bd_le hb2 (show 1121 ≤ 3000 by omega))
  have e : t - (s : Rat) = t + ((-s : Int) : Rat) := by rw [Rat.intCast_neg, Rat.sub_eq_add_neg]
  rw [e]
  unfold fn_run_on b_run_on
  simp only [runD, e_fAddL, e_fZipB, e_fListZip, e_sOwnD, e_fNewD, e_fDictD, e_sDPutO, e_fDGetO, e_fDGet2, e_sFrzD, e_sPar3, e_fVar, e_fC, e_fOp, e_fUn, e_fNil, e_fCons, e_fTup, e_fLst, e_fOfL, e_fTest, e_fAnd, e_fOr, e_fNot, e_fBool, e_fIf, e_fChain, e_fVarB, e_fUnL, e_fNoPart, e_fPart, e_fSl, e_gN, e_gNl, e_gCs, e_gTp, e_fZip, e_fYes, e_sNx, e_sSeq, e_sAsg, e_sOwn, e_sApp, e_sExt, e_sIns, e_sSetIx, e_fIxO, e_fSlO, e_sRet, e_sRetL, e_sRetO, e_sFrz, e_sDrop, e_sIf, e_sPar, e_fCall, e_fCallL, e_fCallB, e_sParO, e_fOpO, e_fItems, e_fRange, e_fMin, e_orF, fI0, fI, fS0, dNeg, dAbs, dLen, dSum, dTuple, ix_t0, ix_t1, ix_t2, ix_l0, ix_l1, ownAt, setOwn, EV.cont, EV.with, seqOf, itemsOf, List.map_cons, List.map_nil, List.cons_append, List.nil_append, List.replicate_succ, List.replicate_zero, List.getElem?_cons_zero, List.getElem?_cons_succ, List.getElem?_nil, List.set_cons_zero, List.set_cons_succ, List.length_cons, List.length_nil, h1, h2, h3]
/-! ### the program's places -/
def lookR (LP : List (Str × Rat)) (n : Str) : Option Rat := (LP.find? fun p => decide (p.1 = n)).map (·.2)
def dicR (LP : List (Str × Rat)) : List (PyData × PyData) := dkv (LP.map fun p => (p.1, frD p.2))
theorem dicR_put {LP : List (Str × Rat)} {n : Str} {x : Rat} (h : ¬ n ∈ LP.map (·.1)) : putD (dicR LP) (.inr n) (frD x) = dicR (LP ++ [(n, x)]) := by
  unfold dicR
  rw [put_new (by rw [List.map_map]; exact h), List.map_append]
  rfl
theorem dicR_look (n : Str) : ∀ LP : List (Str × Rat), lookD (dicR LP) (.inr n) = (lookR LP n).map frD := fun LP => by
  unfold dicR lookR
  rw [look_dkv]
  induction LP with
  | nil => rfl
  | cons p LP ih =>
    rw [List.map_cons]
    by_cases h : p.1 = n
    · rw [List.find?_cons_of_pos (by simpa using h), List.find?_cons_of_pos (by simpa using h)]
      rfl
    · rw [List.find?_cons_of_neg (by simpa using h), List.find?_cons_of_neg (by simpa using h)]
      exact ih
theorem dicR_len (LP : List (Str × Rat)) : (dicR LP).length = LP.length := by
  unfold dicR dkv
  rw [List.length_map, List.length_map]
structure PS where
  p : Rat
  now : Rat
  since : Int
  LP : List (Str × Rat)
def lpOf (p t : Rat) (a : Int) (ow : List (Str × Rat)) : List (Str × Rat) := ow.map fun x => (x.1, p + x.2 * (t - (a : Rat)))
def pstep (t : Rat) (s : PS) (z : ZI) : PS := ⟨s.p + s.now * ((z.a : Rat) - (s.since : Rat)), z.v, z.a, s.LP ++ lpOf (s.p + s.now * ((z.a : Rat) - (s.since : Rat))) t z.a z.ow⟩
theorem bd_of {N hd B : Nat} {q : Rat} (h : Fq (N * hd) B q) (h0 : 0 < N) (h1 : N ≤ 2 ^ 84) (h2 : 0 < hd) (h3 : hd ≤ 8) (hB : B ≤ 2 ^ 60) : Bd 200 q := by
  have e : N * hd ≤ 2 ^ 84 * 2 ^ 3 := Nat.mul_le_mul h1 (by omega)
  rw [← Nat.pow_add] at e
  have e2 := Nat.mul_le_mul hB e
  rw [← Nat.pow_add] at e2
  have p1 : (2 : Nat) ^ (84 + 3) < 2 ^ 200 := Nat.pow_lt_pow_right (by decide) (by decide)
  have p2 : (2 : Nat) ^ (60 + (84 + 3)) < 2 ^ 200 := Nat.pow_lt_pow_right (by decide) (by decide)
  exact fq_bd h (Nat.mul_pos h0 h2) (by omega) (by omega)
theorem bd_ofN {N B : Nat} {q : Rat} (h : Fq N B q) (h0 : 0 < N) (h1 : N ≤ 2 ^ 84) (hB : B ≤ 2 ^ 60) : Bd 200 q := bd_of (hd := 1) (by rw [Nat.mul_one]; exact h) h0 h1 (by decide) (by decide) hB
theorem inner_lp {N : Nat} (hN0 : 0 < N) (hN : N ≤ 2 ^ 84) {p t : Rat} {a : Int} (hp : Bd 200 p) (ht : Bd 100 t) (ha : 0 ≤ a ∧ a ≤ 1000) (a0 a1 a2 a4 a5 a6 a8 a9 a12 a13 : EV) : ∀ (ow : List (Str × Rat)) (LP : List (Str × Rat)) (x14 x15 : EV), x14.mine = false → (∀ x, x ∈ ow → Fq N VB x.2) → (LP.map (·.1) ++ ow.map (·.1)).Nodup → LP.length + ow.length ≤ 1000 →
    ∃ y14 y15, y14.mine = false ∧ loopF (gTp 2 (gCs (gN 14) (gCs (gN 15) gNl))) (sDPutO 10 (fVar 14) (fCall fn_run_on (fCons (fVar 7) (fCons (fVar 15) (fCons (fVar 11) (fCons (fVar 3) fNil)))))) (ow.map encO) [a0, a1, a2, .dat (frD t), a4, a5, a6, .dat (frD p), a8, a9, .odc (dicR LP), .dat (.int a), a12, a13, x14, x15] =
      some (.nx [a0, a1, a2, .dat (frD t), a4, a5, a6, .dat (frD p), a8, a9, .odc (dicR (LP ++ lpOf p t a ow)), .dat (.int a), a12, a13, y14, y15])
  | [], LP, x14, x15, h14, _, _, _ => ⟨x14, x15, h14, by simp only [lpOf, List.map_nil, List.append_nil, loopF]⟩
  | x :: ow, LP, x14, x15, h14, hx, nd, hn => by
    rw [List.length_cons] at hn
    rw [List.map_cons] at nd
    obtain ⟨n1, n2, n3⟩ := List.nodup_append.mp nd
    have hnew : ¬ x.1 ∈ LP.map (·.1) := fun z => n3 _ z _ List.mem_cons_self rfl
    have hr := runon_eq (p := p) (v := x.2) (t := t) (s := a) (bd_le hp (by omega)) (bd_le (bd_ofN (hx x List.mem_cons_self) hN0 hN (by decide +kernel)) (by omega)) ht (by omega)
    obtain ⟨y14, y15, g14, ih⟩ := inner_lp hN0 hN hp ht ha a0 a1 a2 a4 a5 a6 a8 a9 a12 a13 ow (LP ++ [(x.1, p + x.2 * (t - (a : Rat)))]) (.dat (.str x.1)) (.dat (frD x.2)) rfl (fun y hy => hx y (List.mem_cons_of_mem _ hy)) (by
      rw [List.map_append, List.append_assoc]
      exact nd) (by
      rw [List.length_append]
      show LP.length + 1 + ow.length ≤ 1000
      omega)
    refine ⟨y14, y15, g14, ?_⟩
    rw [List.map_cons]
    unfold loopF
    have hg : gTp 2 (gCs (gN 14) (gCs (gN 15) gNl)) (encO x) [a0, a1, a2, .dat (frD t), a4, a5, a6, .dat (frD p), a8, a9, .odc (dicR LP), .dat (.int a), a12, a13, x14, x15] = some [a0, a1, a2, .dat (frD t), a4, a5, a6, .dat (frD p), a8, a9, .odc (dicR LP), .dat (.int a), a12, a13, .dat (.str x.1), .dat (frD x.2)] := rfl
    have hlen : (dicR LP).length < 40000 := by
      rw [dicR_len]
      omega
    have hb : sDPutO 10 (fVar 14) (fCall fn_run_on (fCons (fVar 7) (fCons (fVar 15) (fCons (fVar 11) (fCons (fVar 3) fNil))))) [a0, a1, a2, .dat (frD t), a4, a5, a6, .dat (frD p), a8, a9, .odc (dicR LP), .dat (.int a), a12, a13, .dat (.str x.1), .dat (frD x.2)] = some (.nx [a0, a1, a2, .dat (frD t), a4, a5, a6, .dat (frD p), a8, a9, .odc (putD (dicR LP) (.inr x.1) (frD (p + x.2 * (t - (a : Rat))))), .dat (.int a), a12, a13, .dat (.str x.1), .dat (frD x.2)]) := by
      simp only [e_sDPutO, e_fCall, e_fCons, e_fNil, e_fVar, dicAt, Sm.keyOf, List.getElem?_cons_zero, List.getElem?_cons_succ, List.set_cons_zero, List.set_cons_succ, hr, hlen, if_true]
    rw [hg]
    dsimp only
    rw [hb]
    dsimp only
    rw [dicR_put hnew, ih]
    unfold lpOf
    rw [List.map_cons, List.append_assoc]
    rfl
def KB : Nat := 8000000000
theorem kb_up (i : Nat) : i * KB + VB * 1000 ≤ (i + 1) * KB := by
  rw [Nat.succ_mul]
  exact Nat.add_le_add_left (by decide +kernel) _
theorem kb_7 {i : Nat} (h : i ≤ 8) : i * KB ≤ 2 ^ 60 := Nat.le_trans (Nat.mul_le_mul_right KB h) (by decide +kernel)
def encP (z : ZI) : PyData := .tuple [encT (z.a, z.ls), frD z.v]
theorem own_names (F : List Fk) (b : Rat) (ls : List Lp) : (own F b ls).map (·.1) = ls.map (·.1) := by
  unfold own
  rw [List.map_map]
  rfl
theorem lp_names (p t : Rat) (a : Int) (ow : List (Str × Rat)) : (lpOf p t a ow).map (·.1) = ow.map (·.1) := by
  unfold lpOf
  rw [List.map_map]
  rfl
theorem places_loop {N hd : Nat} (hN0 : 0 < N) (hN : N ≤ 2 ^ 84) (hd0 : 0 < hd) (hd8 : hd ≤ 8) {t : Rat} (ht : Bd 100 t) {F : List Fk} (hF : OkF F) (a0 a2 a4 a5 : EV) : ∀ (zl : List ZI) (i : Nat) (s : PS) (x11 x12 x13 x14 x15 : EV), x14.mine = false → (∀ z, z ∈ zl → ZOk N F z) → (s.LP.map (·.1) ++ namesOf (zl.map (·.ls))).Nodup → (s.LP.map (·.1) ++ namesOf (zl.map (·.ls))).length ≤ 7 →
    Fq (N * hd) (i * KB) s.p → Fq N VB s.now → (0 ≤ s.since ∧ s.since ≤ 1000) → i + zl.length ≤ 7 →
    ∃ y11 y12 y13 y14 y15, y14.mine = false ∧ loopF (gTp 2 (gCs (gTp 2 (gCs (gN 11) (gCs (gN 12) gNl))) (gCs (gN 13) gNl))) (sSeq (sAsg (fCall fn_run_on (fCons (fVar 7) (fCons (fVar 8) (fCons (fVar 9) (fCons (fTup (fCons (fVar 11) (fCons (fC (.int 1)) fNil))) fNil))))) (gN 7))
    (sSeq (sFor (fItems (fCall fn_leaper_speeds (fCons (fVar 6) (fCons (fVar 13) (fCons (fVar 12) fNil))))) (gTp 2 (gCs (gN 14) (gCs (gN 15) gNl))) (sDPutO 10 (fVar 14) (fCall fn_run_on (fCons (fVar 7) (fCons (fVar 15) (fCons (fVar 11) (fCons (fVar 3) fNil)))))))
    (sSeq (sAsg (fVar 13) (gN 8))
    (sAsg (fVar 11) (gN 9))))) (zl.map encP) [a0, .dat (folkD F), a2, .dat (frD t), a4, a5, .dat (leapD F), .dat (frD s.p), .dat (frD s.now), .dat (.int s.since), .odc (dicR s.LP), x11, x12, x13, x14, x15] =
      some (.nx [a0, .dat (folkD F), a2, .dat (frD t), a4, a5, .dat (leapD F), .dat (frD (zl.foldl (pstep t) s).p), .dat (frD (zl.foldl (pstep t) s).now), .dat (.int (zl.foldl (pstep t) s).since), .odc (dicR (zl.foldl (pstep t) s).LP), y11, y12, y13, y14, y15]) ∧ Fq (N * hd) ((i + zl.length) * KB) (zl.foldl (pstep t) s).p ∧ Fq N VB (zl.foldl (pstep t) s).now ∧ (0 ≤ (zl.foldl (pstep t) s).since ∧ (zl.foldl (pstep t) s).since ≤ 1000) := by
  intro zl
  induction zl with
  | nil =>
    intro i s x11 x12 x13 x14 x15 h14 _ _ _ hp hn hs _
    rw [List.length_nil, Nat.add_zero, List.foldl_nil]
    exact ⟨x11, x12, x13, x14, x15, h14, by simp only [List.map_nil, loopF], hp, hn, hs⟩
  | cons z zl ih0 =>
    intro i s x11 x12 x13 x14 x15 h14 hz nd n7 hp hn hs hi
    rw [List.length_cons] at hi
    have zk := hz z List.mem_cons_self
    rw [List.map_cons, namesOf_cons] at nd n7
    rw [← List.append_assoc] at nd n7
    obtain ⟨nd1, nd2, nd3⟩ := List.nodup_append.mp nd
    have hpb := bd_of hp hN0 hN hd0 hd8 (kb_7 (by omega))
    have hnb := bd_ofN hn hN0 hN (by decide +kernel)
    have hab : Bd 20 (z.a : Rat) := bd_int (pow20 (by have := zk.ha; omega) 20 (by omega)) (by omega)
    have h1 := runon_eq (p := s.p) (v := s.now) (t := (z.a : Rat)) (s := s.since) (bd_le hpb (by omega)) (bd_le hnb (by omega)) (bd_le hab (by omega)) (by omega)
    have h1' : fn_run_on [frD s.p, frD s.now, .int s.since, .tuple [.int z.a, .int 1]] = some (frD (s.p + s.now * ((z.a : Rat) - (s.since : Rat)))) := h1
    have hfp : Fq (N * hd) ((i + 1) * KB) (s.p + s.now * ((z.a : Rat) - (s.since : Rat))) := by
      have q1 : Fq 1 1000 (((z.a - s.since : Int)) : Rat) := fq_int (by have := zk.ha; omega)
      have q2 := fq_mul hn q1
      rw [Nat.mul_one, Rat.intCast_sub] at q2
      exact fq_le (fq_add hp (fq_up hd q2)) (kb_up i)
    have hpb' := bd_of hfp hN0 hN hd0 hd8 (kb_7 (by omega))
    have h2 := leaper_eq hF zk.ok (bd_le (bd_ofN zk.hv hN0 hN (by decide +kernel)) (show 200 ≤ 2900 by omega))
    rw [← zk.eo] at h2
    have hon : z.ow.map (·.1) = z.ls.map (·.1) := by rw [zk.eo, own_names]
    have hol : z.ow.length = z.ls.length := by
      have := congrArg List.length hon
      rw [List.length_map, List.length_map] at this
      exact this
    obtain ⟨w14, w15, g14, h3⟩ := inner_lp hN0 hN hpb' ht zk.ha a0 (.dat (folkD F)) a2 a4 a5 (.dat (leapD F)) (.dat (frD s.now)) (.dat (.int s.since)) (.dat (onceD z.ls)) (.dat (frD z.v)) z.ow s.LP x14 x15 h14 zk.ho (by rw [hon]; exact nd1) (by
      rw [List.length_append, List.length_append, List.length_map, List.length_map] at n7
      omega)
    have hF3 := sFor_of (φ := fItems (fCall fn_leaper_speeds (fCons (fVar 6) (fCons (fVar 13) (fCons (fVar 12) fNil))))) (δ := [a0, .dat (folkD F), a2, .dat (frD t), a4, a5, .dat (leapD F), .dat (frD (s.p + s.now * ((z.a : Rat) - (s.since : Rat)))), .dat (frD s.now), .dat (.int s.since), .odc (dicR s.LP), .dat (.int z.a), .dat (onceD z.ls), .dat (frD z.v), x14, x15]) (by simp only [e_fAddL, e_fZipB, e_fListZip, e_sOwnD, e_fNewD, e_fDictD, e_sDPutO, e_fDGetO, e_fDGet2, e_sFrzD, e_sPar3, e_fVar, e_fC, e_fOp, e_fUn, e_fNil, e_fCons, e_fTup, e_fLst, e_fOfL, e_fTest, e_fAnd, e_fOr, e_fNot, e_fBool, e_fIf, e_fChain, e_fVarB, e_fUnL, e_fNoPart, e_fPart, e_fSl, e_gN, e_gNl, e_gCs, e_gTp, e_fZip, e_fYes, e_sNx, e_sSeq, e_sAsg, e_sOwn, e_sApp, e_sExt, e_sIns, e_sSetIx, e_fIxO, e_fSlO, e_sRet, e_sRetL, e_sRetO, e_sFrz, e_sDrop, e_sIf, e_sPar, e_fCall, e_fCallL, e_fCallB, e_sParO, e_fOpO, e_fItems, e_fRange, e_fMin, e_orF, fI0, fI, fS0, dNeg, dAbs, dLen, dSum, dTuple, ix_t0, ix_t1, ix_t2, ix_l0, ix_l1, ownAt, setOwn, EV.cont, EV.with, seqOf, itemsOf, List.map_cons, List.map_nil, List.cons_append, List.nil_append, List.replicate_succ, List.replicate_zero, List.getElem?_cons_zero, List.getElem?_cons_succ, List.getElem?_nil, List.set_cons_zero, List.set_cons_succ, List.length_cons, List.length_nil, h2]) h3
    obtain ⟨y11, y12, y13, y14, y15, k14, ih, i1, i2, i3⟩ := ih0 (i + 1) (pstep t s z) (.dat (.int z.a)) (.dat (onceD z.ls)) (.dat (frD z.v)) w14 w15 g14 (fun y hy => hz y (List.mem_cons_of_mem _ hy)) (by
      show ((s.LP ++ lpOf _ t z.a z.ow).map (·.1) ++ _).Nodup
      rw [List.map_append, lp_names, hon]
      exact nd) (by
      show ((s.LP ++ lpOf _ t z.a z.ow).map (·.1) ++ _).length ≤ 7
      rw [List.map_append, lp_names, hon]
      exact n7) hfp zk.hv zk.ha (by omega)
    refine ⟨y11, y12, y13, y14, y15, k14, ?_, ?_, i2, i3⟩
    · rw [List.map_cons, List.foldl_cons]
      unfold loopF
      have hg : gTp 2 (gCs (gTp 2 (gCs (gN 11) (gCs (gN 12) gNl))) (gCs (gN 13) gNl)) (encP z) [a0, .dat (folkD F), a2, .dat (frD t), a4, a5, .dat (leapD F), .dat (frD s.p), .dat (frD s.now), .dat (.int s.since), .odc (dicR s.LP), x11, x12, x13, x14, x15] = some [a0, .dat (folkD F), a2, .dat (frD t), a4, a5, .dat (leapD F), .dat (frD s.p), .dat (frD s.now), .dat (.int s.since), .odc (dicR s.LP), .dat (.int z.a), .dat (onceD z.ls), .dat (frD z.v), x14, x15] := rfl
      rw [hg]
      dsimp only
      have hb : (sSeq (sAsg (fCall fn_run_on (fCons (fVar 7) (fCons (fVar 8) (fCons (fVar 9) (fCons (fTup (fCons (fVar 11) (fCons (fC (.int 1)) fNil))) fNil))))) (gN 7))
    (sSeq (sFor (fItems (fCall fn_leaper_speeds (fCons (fVar 6) (fCons (fVar 13) (fCons (fVar 12) fNil))))) (gTp 2 (gCs (gN 14) (gCs (gN 15) gNl))) (sDPutO 10 (fVar 14) (fCall fn_run_on (fCons (fVar 7) (fCons (fVar 15) (fCons (fVar 11) (fCons (fVar 3) fNil)))))))
    (sSeq (sAsg (fVar 13) (gN 8))
    (sAsg (fVar 11) (gN 9))))) [a0, .dat (folkD F), a2, .dat (frD t), a4, a5, .dat (leapD F), .dat (frD s.p), .dat (frD s.now), .dat (.int s.since), .odc (dicR s.LP), .dat (.int z.a), .dat (onceD z.ls), .dat (frD z.v), x14, x15] = some (.nx [a0, .dat (folkD F), a2, .dat (frD t), a4, a5, .dat (leapD F), .dat (frD (s.p + s.now * ((z.a : Rat) - (s.since : Rat)))), .dat (frD z.v), .dat (.int z.a), .odc (dicR (s.LP ++ lpOf (s.p + s.now * ((z.a : Rat) - (s.since : Rat))) t z.a z.ow)), .dat (.int z.a), .dat (onceD z.ls), .dat (frD z.v), w14, w15]) := by
        rw [seq_of (δ1 := [a0, .dat (folkD F), a2, .dat (frD t), a4, a5, .dat (leapD F), .dat (frD (s.p + s.now * ((z.a : Rat) - (s.since : Rat)))), .dat (frD s.now), .dat (.int s.since), .odc (dicR s.LP), .dat (.int z.a), .dat (onceD z.ls), .dat (frD z.v), x14, x15]) (by
          simp only [e_sAsg, e_fCall, e_fCons, e_fNil, e_fVar, e_fC, e_fTup, e_gN, List.getElem?_cons_zero, List.getElem?_cons_succ, List.set_cons_zero, List.set_cons_succ, List.length_cons, List.length_nil]
          rw [if_pos (by decide)]
          simp only [h1', e_gN, List.set_cons_zero, List.set_cons_succ]), seq_of hF3]
        rfl
      rw [hb]
      exact ih
    · rw [List.length_cons, List.foldl_cons, show i + (zl.length + 1) = i + 1 + zl.length by omega]
      exact i1
end Lc
set_option exponentiation.threshold 10000
set_option maxHeartbeats 1000000
namespace Lc
open PySem L2 Evl RZ Sm
theorem names_folk (fs : List Fk) (hl : fs.length ≤ 7) : fn_names_of [folkD fs] = some (.tuple (strsD (fs.map (·.1)))) := by
  have hc := compL_enc encF (vs := [1]) (γ := gN 1) (τ := fYes) (ε := fOp dIx (fVar 1) (fC (.int 0))) (δ := [.dat (folkD fs), .un])
    (fun p => [.dat (folkD fs), .dat (encF p)]) (fun _ => true) (fun p => .str p.1) fs fun p _ => ⟨rfl, rfl, fun _ => rfl, rfl⟩
  rw [filter_true] at hc
  have h1 := fLc_of (φ := fItems (fVar 0)) (δ := [.dat (folkD fs), .un]) rfl (by rw [List.length_map]; omega) hc
  unfold fn_names_of b_names_of
  simp only [runD, e_fAddL, e_fZipB, e_fListZip, e_sOwnD, e_fNewD, e_fDictD, e_sDPutO, e_fDGetO, e_fDGet2, e_sFrzD, e_sPar3, e_fVar, e_fC, e_fOp, e_fUn, e_fNil, e_fCons, e_fTup, e_fLst, e_fOfL, e_fTest, e_fAnd, e_fOr, e_fNot, e_fBool, e_fIf, e_fChain, e_fVarB, e_fUnL, e_fNoPart, e_fPart, e_fSl, e_gN, e_gNl, e_gCs, e_gTp, e_fZip, e_fYes, e_sNx, e_sSeq, e_sAsg, e_sOwn, e_sApp, e_sExt, e_sIns, e_sSetIx, e_fIxO, e_fSlO, e_sRet, e_sRetL, e_sRetO, e_sFrz, e_sDrop, e_sIf, e_sPar, e_fCall, e_fCallL, e_fCallB, e_sParO, e_fOpO, e_fItems, e_fRange, e_fMin, e_orF, fI0, fI, fS0, dNeg, dAbs, dLen, dSum, dTuple, ix_t0, ix_t1, ix_t2, ix_l0, ix_l1, ownAt, setOwn, EV.cont, EV.with, seqOf, itemsOf, List.map_cons, List.map_nil, List.cons_append, List.nil_append, List.replicate_succ, List.replicate_zero, List.getElem?_cons_zero, List.getElem?_cons_succ, List.getElem?_nil, List.set_cons_zero, List.set_cons_succ, List.length_cons, List.length_nil, h1]
  unfold strsD
  rw [List.map_map]
  rfl
def done (t : Rat) (tm : List Tm) : List Tm := tm.filter fun r => decide (r.1 * t.den ≤ t.num)
def run0 (c : Int) (fs : List Fk) (t : Rat) (tm : List Tm) : List ZI := zs c t 0 fs 0 (done t tm)
def endP (c : Int) (fs : List Fk) (t : Rat) (tm : List Tm) : PS := (run0 c fs t tm).foldl (pstep t) ⟨0, 0, 0, []⟩
def cartP (c : Int) (fs : List Fk) (t : Rat) (tm : List Tm) : Rat := (endP c fs t tm).p + (endP c fs t tm).now * (t - ((endP c fs t tm).since : Rat))
def placesL (c : Int) (fs : List Fk) (t : Rat) (tm : List Tm) : List (Str × Rat) := ("", cartP c fs t tm) :: fs.map fun p => (p.1, (lookR (endP c fs t tm).LP p.1).getD (cartP c fs t tm))
structure HOk (t : Rat) : Prop where
  bd : Bd 20 t
  dn : t.den ≤ 8
  fq : Fq t.den 2000 t
theorem zip_encP : ∀ zl : List ZI, List.zipWith (fun x y => PyData.tuple [x, y]) ((zl.map fun z => (z.a, z.ls)).map encT) ((zl.map (·.v)).map frD) = zl.map encP
  | [] => rfl
  | z :: zl => by
    rw [List.map_cons, List.map_cons, List.map_cons, List.map_cons, List.zipWith_cons_cons, zip_encP zl]
    rfl
theorem run0_ok {c : Int} {fs : List Fk} {tm : List Tm} {t : Rat} (hc : 1 ≤ c ∧ c ≤ 1000) (hf : OkF fs) (hT : OkT fs tm) : 0 < prodW c fs ((done t tm).map (·.2)) ∧ prodW c fs ((done t tm).map (·.2)) ≤ 2 ^ 84 ∧ (∀ z, z ∈ run0 c fs t tm → ZOk (prodW c fs ((done t tm).map (·.2))) fs z) ∧ (namesOf ((run0 c fs t tm).map (·.ls))).Nodup ∧ (namesOf ((run0 c fs t tm).map (·.ls))).length ≤ 7 ∧ (run0 c fs t tm).length ≤ 7 ∧ (∀ n, n ∈ namesOf ((run0 c fs t tm).map (·.ls)) → n ∈ fs.map (·.1)) := by
  have hD : OkT fs (done t tm) := hT.sub List.filter_sublist
  have hl := hD.len
  have h1 := prodW_lt hc ((done t tm).map (·.2)) fs hf
  rw [List.length_map] at h1
  have h2 : (2 : Nat) ^ (12 * (done t tm).length) ≤ 2 ^ 84 := Nat.pow_le_pow_right (by decide) (by omega)
  have hz := zs_ok hc hf t (done t tm) 0 fs 0 1 0 hf hD.hr hD.ls (rest_refl fs) (fq_zero 1 0) (by
    rw [Nat.zero_add]
    exact Nat.le_trans (Nat.mul_le_mul_left PB hl) (by decide +kernel))
  rw [Nat.one_mul] at hz
  have hn := zs_names c t (done t tm) 0 fs 0
  refine ⟨prodW_pos hc _ _ hf, Nat.le_trans h1 h2, hz, ?_, ?_, ?_, ?_⟩
  · show (namesOf ((zs c t 0 fs 0 (done t tm)).map (·.ls))).Nodup
    rw [hn]
    exact hD.nd
  · show (namesOf ((zs c t 0 fs 0 (done t tm)).map (·.ls))).length ≤ 7
    rw [hn]
    exact hD.n7
  · show (zs c t 0 fs 0 (done t tm)).length ≤ 7
    rw [zs_len]
    exact hl
  · show ∀ n, n ∈ namesOf ((zs c t 0 fs 0 (done t tm)).map (·.ls)) → _
    rw [hn]
    exact hD.nm
theorem places_eq {c : Int} {fs : List Fk} {tm : List Tm} {t : Rat} (hc : 1 ≤ c ∧ c ≤ 1000) (hf : OkF fs) (hT : OkT fs tm) (ht : HOk t) : fn_places [.int c, folkD fs, .list (tm.map encT), frD t] = some ((placesL c fs t tm).map encO) := by
  have hD : OkT fs (done t tm) := hT.sub List.filter_sublist
  have hlt := hT.len
  have hld := hD.len
  have hfl := hf.len
  obtain ⟨p0, p1, zk, nd, n7, z7, _⟩ := run0_ok (t := t) hc hf hT
  have htb : Bd 100 t := bd_le ht.bd (by omega)
  have d0 := t.den_pos
  have i0 : dIx (frD t) (.int 0) = some (.int t.num) := ix_t0
  have i1 : dIx (frD t) (.int 1) = some (.int t.den) := ix_t1
  have hc1 := compL_enc encT (vs := [11, 12]) (γ := gTp 2 (gCs (gN 11) (gCs (gN 12) gNl))) (τ := fTest (fOp dLe (fOp dMul (fVar 11) (fOp dIx (fVar 3) (fC (.int 1)))) (fOp dIx (fVar 3) (fC (.int 0))))) (ε := fTup (fCons (fVar 11) (fCons (fVar 12) fNil))) (δ := [.dat (.int c), .dat (folkD fs), .dat (.list (tm.map encT)), .dat (frD t), .un, .un, .un, .un, .un, .un, .un, .un, .un, .un, .un, .un])
    (fun r => [.dat (.int c), .dat (folkD fs), .dat (.list (tm.map encT)), .dat (frD t), .un, .un, .un, .un, .un, .un, .un, .dat (.int r.1), .dat (onceD r.2), .un, .un, .un]) (fun r => decide (r.1 * t.den ≤ t.num)) encT tm fun r hr => ⟨rfl, by
      have hh := hT.hr r hr
      have m1 : cMulB r.1 (t.den : Int) = true := mulB (pow20 (by omega) 8000 (by omega)) (show ((t.den : Nat) : Int).natAbs < _ from Nat.lt_of_lt_of_le ht.bd.2 (Nat.pow_le_pow_right (by decide) (by decide)))
      simp only [e_fTest, e_fOp, e_fVar, e_fC, e_orF, fI0, fI, List.getElem?_cons_zero, List.getElem?_cons_succ, i0, i1, m1, if_true], fun _ => by
      simp only [e_fTup, e_fCons, e_fNil, e_fVar, List.getElem?_cons_zero, List.getElem?_cons_succ, List.length_cons, List.length_nil]
      rw [if_pos (by decide)]
      rfl, rfl⟩
  have hL1 := fLc_of (φ := fItems (fVar 2)) (δ := [.dat (.int c), .dat (folkD fs), .dat (.list (tm.map encT)), .dat (frD t), .un, .un, .un, .un, .un, .un, .un, .un, .un, .un, .un, .un]) rfl (by rw [List.length_map]; omega) hc1
  have hL1' : fLc (fItems (fVar 2)) [11, 12] (gTp 2 (gCs (gN 11) (gCs (gN 12) gNl))) (fTest (fOp dLe (fOp dMul (fVar 11) (fOp dIx (fVar 3) (fC (.int 1)))) (fOp dIx (fVar 3) (fC (.int 0))))) (fTup (fCons (fVar 11) (fCons (fVar 12) fNil))) [.dat (.int c), .dat (folkD fs), .dat (.list (tm.map encT)), .dat (frD t), .un, .un, .un, .un, .un, .un, .un, .un, .un, .un, .un, .un] = some ((done t tm).map encT, [.dat (.int c), .dat (folkD fs), .dat (.list (tm.map encT)), .dat (frD t), .un, .un, .un, .un, .un, .un, .un, .un, .un, .un, .un, .un]) := hL1
  have hc2 := compL_enc encT (vs := [11, 12]) (γ := gTp 2 (gCs (gN 11) (gCs (gN 12) gNl))) (τ := fYes) (ε := fVar 12) (δ := [.dat (.int c), .dat (folkD fs), .dat (.list (tm.map encT)), .dat (frD t), .dat (.list ((done t tm).map encT)), .un, .un, .un, .un, .un, .un, .un, .un, .un, .un, .un])
    (fun r => [.dat (.int c), .dat (folkD fs), .dat (.list (tm.map encT)), .dat (frD t), .dat (.list ((done t tm).map encT)), .un, .un, .un, .un, .un, .un, .dat (.int r.1), .dat (onceD r.2), .un, .un, .un]) (fun _ => true) (fun r => onceD r.2) (done t tm) fun r _ => ⟨rfl, rfl, fun _ => rfl, rfl⟩
  rw [filter_true] at hc2
  have hL2 := fLc_of (φ := fItems (fVar 4)) (δ := [.dat (.int c), .dat (folkD fs), .dat (.list (tm.map encT)), .dat (frD t), .dat (.list ((done t tm).map encT)), .un, .un, .un, .un, .un, .un, .un, .un, .un, .un, .un]) rfl (by rw [List.length_map]; omega) hc2
  have e2 : (done t tm).map (fun r => onceD r.2) = ((done t tm).map (·.2)).map onceD := by rw [List.map_map]; rfl
  rw [e2] at hL2
  have hsp := speeds_eq (q := 0) hc hf hD.ls ⟨by show 0 < 2 ^ 100; exact Nat.pow_pos (by decide), by show 1 < 2 ^ 100; exact Nat.one_lt_two_pow (by decide)⟩ (by rw [List.length_map]; exact hld)
  have hsp' : fn_speeds [.int c, folkD fs, .tuple [.int 0, .int 1], .list (((done t tm).map (·.2)).map onceD)] = some ((go c fs 0 ((done t tm).map (·.2))).map frD) := hsp
  obtain ⟨y11, y12, y13, y14, y15, h14, hlo, q1, q2, q3⟩ := places_loop (N := prodW c fs ((done t tm).map (·.2))) (hd := t.den) p0 p1 d0 ht.dn htb hf (.dat (.int c)) (.dat (.list (tm.map encT))) (.dat (.list ((done t tm).map encT))) (.dat (.list ((go c fs 0 ((done t tm).map (·.2))).map frD))) (run0 c fs t tm) 0 ⟨0, 0, 0, []⟩ .un .un .un .un .un rfl zk (by rw [List.map_nil, List.nil_append]; exact nd) (by rw [List.map_nil, List.nil_append]; exact n7) (fq_zero _ _) (fq_zero _ _) ⟨by decide, by decide⟩ (by omega)
  have ez : List.zipWith (fun x y => PyData.tuple [x, y]) ((done t tm).map encT) ((go c fs 0 ((done t tm).map (·.2))).map frD) = (run0 c fs t tm).map encP := by
    have := zip_encP (zs c t 0 fs 0 (done t tm))
    rw [zs_tm, zs_go] at this
    exact this
  have hF := sFor_of (φ := fZip (fVar 4) (fVar 5)) (δ := [.dat (.int c), .dat (folkD fs), .dat (.list (tm.map encT)), .dat (frD t), .dat (.list ((done t tm).map encT)), .dat (.list ((go c fs 0 ((done t tm).map (·.2))).map frD)), .dat (leapD fs), .dat (frD 0), .dat (frD 0), .dat (.int 0), .odc (dicR []), .un, .un, .un, .un, .un]) (by simp only [e_fZip, e_fVar, List.getElem?_cons_zero, List.getElem?_cons_succ, zipD, ez]) hlo
  have hE : (run0 c fs t tm).foldl (pstep t) ⟨0, 0, 0, []⟩ = endP c fs t tm := rfl
  rw [hE] at hF q1 q2 q3
  have r1 := runon_eq (p := (endP c fs t tm).p) (v := (endP c fs t tm).now) (t := t) (s := (endP c fs t tm).since) (bd_le (bd_of q1 p0 p1 d0 ht.dn (kb_7 (by omega))) (by omega)) (bd_le (bd_ofN q2 p0 p1 (by decide +kernel)) (by omega)) htb (by omega)
  have r1' : fn_run_on [frD (endP c fs t tm).p, frD (endP c fs t tm).now, .int (endP c fs t tm).since, frD t] = some (frD (cartP c fs t tm)) := r1
  have hc3 := compL_enc PyData.str (vs := [14]) (γ := gN 14) (τ := fYes) (ε := fTup (fCons (fVar 14) (fCons (fDGet2 (fVar 10) (fVar 14) (fVar 7)) fNil))) (δ := [.dat (.int c), .dat (folkD fs), .dat (.list (tm.map encT)), .dat (frD t), .dat (.list ((done t tm).map encT)), .dat (.list ((go c fs 0 ((done t tm).map (·.2))).map frD)), .dat (leapD fs), .dat (frD (cartP c fs t tm)), .dat (frD (endP c fs t tm).now), .dat (.int (endP c fs t tm).since), .dat (.dict (dicR (endP c fs t tm).LP)), y11, y12, y13, y14, y15])
    (fun n => [.dat (.int c), .dat (folkD fs), .dat (.list (tm.map encT)), .dat (frD t), .dat (.list ((done t tm).map encT)), .dat (.list ((go c fs 0 ((done t tm).map (·.2))).map frD)), .dat (leapD fs), .dat (frD (cartP c fs t tm)), .dat (frD (endP c fs t tm).now), .dat (.int (endP c fs t tm).since), .dat (.dict (dicR (endP c fs t tm).LP)), y11, y12, y13, .dat (.str n), y15]) (fun _ => true) (fun n => encO (n, (lookR (endP c fs t tm).LP n).getD (cartP c fs t tm))) (fs.map (·.1)) fun n _ => ⟨rfl, rfl, fun _ => by
      have hd : dictOf (.dict (dicR (endP c fs t tm).LP)) = some (dicR (endP c fs t tm).LP) := dictOf_dkv _
      simp only [e_fTup, e_fCons, e_fNil, e_fVar, e_fDGet2, Sm.keyOf, hd, dicR_look, List.getElem?_cons_zero, List.getElem?_cons_succ, List.length_cons, List.length_nil]
      rw [if_pos (by decide)]
      have eg : ((lookR (endP c fs t tm).LP n).map frD).getD (frD (cartP c fs t tm)) = frD ((lookR (endP c fs t tm).LP n).getD (cartP c fs t tm)) := by
        cases lookR (endP c fs t tm).LP n <;> rfl
      rw [eg]
      rfl, by (repeat (first | exact back_n | refine back_s rfl ?_ | refine back_o rfl ?_ | refine back_o (by assumption) ?_))⟩
  rw [filter_true] at hc3
  have hL3 := fLc_of (φ := fItems (fCall fn_names_of (fCons (fVar 1) fNil))) (δ := [.dat (.int c), .dat (folkD fs), .dat (.list (tm.map encT)), .dat (frD t), .dat (.list ((done t tm).map encT)), .dat (.list ((go c fs 0 ((done t tm).map (·.2))).map frD)), .dat (leapD fs), .dat (frD (cartP c fs t tm)), .dat (frD (endP c fs t tm).now), .dat (.int (endP c fs t tm).since), .dat (.dict (dicR (endP c fs t tm).LP)), y11, y12, y13, y14, y15]) (ds := (fs.map (·.1)).map PyData.str) (δ1 := [.dat (.int c), .dat (folkD fs), .dat (.list (tm.map encT)), .dat (frD t), .dat (.list ((done t tm).map encT)), .dat (.list ((go c fs 0 ((done t tm).map (·.2))).map frD)), .dat (leapD fs), .dat (frD (cartP c fs t tm)), .dat (frD (endP c fs t tm).now), .dat (.int (endP c fs t tm).since), .dat (.dict (dicR (endP c fs t tm).LP)), y11, y12, y13, y14, y15]) (by
    simp only [e_fAddL, e_fZipB, e_fListZip, e_sOwnD, e_fNewD, e_fDictD, e_sDPutO, e_fDGetO, e_fDGet2, e_sFrzD, e_sPar3, e_fVar, e_fC, e_fOp, e_fUn, e_fNil, e_fCons, e_fTup, e_fLst, e_fOfL, e_fTest, e_fAnd, e_fOr, e_fNot, e_fBool, e_fIf, e_fChain, e_fVarB, e_fUnL, e_fNoPart, e_fPart, e_fSl, e_gN, e_gNl, e_gCs, e_gTp, e_fZip, e_fYes, e_sNx, e_sSeq, e_sAsg, e_sOwn, e_sApp, e_sExt, e_sIns, e_sSetIx, e_fIxO, e_fSlO, e_sRet, e_sRetL, e_sRetO, e_sFrz, e_sDrop, e_sIf, e_sPar, e_fCall, e_fCallL, e_fCallB, e_sParO, e_fOpO, e_fItems, e_fRange, e_fMin, e_orF, fI0, fI, fS0, dNeg, dAbs, dLen, dSum, dTuple, ix_t0, ix_t1, ix_t2, ix_l0, ix_l1, ownAt, setOwn, EV.cont, EV.with, seqOf, itemsOf, List.map_cons, List.map_nil, List.cons_append, List.nil_append, List.replicate_succ, List.replicate_zero, List.getElem?_cons_zero, List.getElem?_cons_succ, List.getElem?_nil, List.set_cons_zero, List.set_cons_succ, List.length_cons, List.length_nil, names_folk fs hfl]
    rfl) (by rw [List.length_map, List.length_map]; omega) hc3
  unfold fn_places b_places
  simp only [runL, List.map_cons, List.map_nil, List.cons_append, List.nil_append, List.replicate_succ, List.replicate_zero]
  rw [seq_of (δ1 := [.dat (.int c), .dat (folkD fs), .dat (.list (tm.map encT)), .dat (frD t), .dat (.list ((done t tm).map encT)), .un, .un, .un, .un, .un, .un, .un, .un, .un, .un, .un]) (by simp only [e_sAsg, e_fOfL, hL1', e_gN, List.set_cons_zero, List.set_cons_succ]),
    seq_of (δ1 := [.dat (.int c), .dat (folkD fs), .dat (.list (tm.map encT)), .dat (frD t), .dat (.list ((done t tm).map encT)), .dat (.list ((go c fs 0 ((done t tm).map (·.2))).map frD)), .un, .un, .un, .un, .un, .un, .un, .un, .un, .un]) (by simp only [e_sAsg, e_fOfL, e_fCallL, e_fCons, e_fNil, e_fVar, e_fC, hL2, hsp', e_gN, List.getElem?_cons_zero, List.getElem?_cons_succ, List.set_cons_zero, List.set_cons_succ]),
    seq_of (δ1 := [.dat (.int c), .dat (folkD fs), .dat (.list (tm.map encT)), .dat (frD t), .dat (.list ((done t tm).map encT)), .dat (.list ((go c fs 0 ((done t tm).map (·.2))).map frD)), .dat (leapD fs), .un, .un, .un, .un, .un, .un, .un, .un, .un]) (by simp only [e_fAddL, e_fZipB, e_fListZip, e_sOwnD, e_fNewD, e_fDictD, e_sDPutO, e_fDGetO, e_fDGet2, e_sFrzD, e_sPar3, e_fVar, e_fC, e_fOp, e_fUn, e_fNil, e_fCons, e_fTup, e_fLst, e_fOfL, e_fTest, e_fAnd, e_fOr, e_fNot, e_fBool, e_fIf, e_fChain, e_fVarB, e_fUnL, e_fNoPart, e_fPart, e_fSl, e_gN, e_gNl, e_gCs, e_gTp, e_fZip, e_fYes, e_sNx, e_sSeq, e_sAsg, e_sOwn, e_sApp, e_sExt, e_sIns, e_sSetIx, e_fIxO, e_fSlO, e_sRet, e_sRetL, e_sRetO, e_sFrz, e_sDrop, e_sIf, e_sPar, e_fCall, e_fCallL, e_fCallB, e_sParO, e_fOpO, e_fItems, e_fRange, e_fMin, e_orF, fI0, fI, fS0, dNeg, dAbs, dLen, dSum, dTuple, ix_t0, ix_t1, ix_t2, ix_l0, ix_l1, ownAt, setOwn, EV.cont, EV.with, seqOf, itemsOf, List.map_cons, List.map_nil, List.cons_append, List.nil_append, List.replicate_succ, List.replicate_zero, List.getElem?_cons_zero, List.getElem?_cons_succ, List.getElem?_nil, List.set_cons_zero, List.set_cons_succ, List.length_cons, List.length_nil, byname_eq hf]),
    seq_of (δ1 := [.dat (.int c), .dat (folkD fs), .dat (.list (tm.map encT)), .dat (frD t), .dat (.list ((done t tm).map encT)), .dat (.list ((go c fs 0 ((done t tm).map (·.2))).map frD)), .dat (leapD fs), .dat (frD 0), .un, .un, .un, .un, .un, .un, .un, .un]) rfl, seq_of (δ1 := [.dat (.int c), .dat (folkD fs), .dat (.list (tm.map encT)), .dat (frD t), .dat (.list ((done t tm).map encT)), .dat (.list ((go c fs 0 ((done t tm).map (·.2))).map frD)), .dat (leapD fs), .dat (frD 0), .dat (frD 0), .un, .un, .un, .un, .un, .un, .un]) rfl, seq_of (δ1 := [.dat (.int c), .dat (folkD fs), .dat (.list (tm.map encT)), .dat (frD t), .dat (.list ((done t tm).map encT)), .dat (.list ((go c fs 0 ((done t tm).map (·.2))).map frD)), .dat (leapD fs), .dat (frD 0), .dat (frD 0), .dat (.int 0), .un, .un, .un, .un, .un, .un]) rfl, seq_of (δ1 := [.dat (.int c), .dat (folkD fs), .dat (.list (tm.map encT)), .dat (frD t), .dat (.list ((done t tm).map encT)), .dat (.list ((go c fs 0 ((done t tm).map (·.2))).map frD)), .dat (leapD fs), .dat (frD 0), .dat (frD 0), .dat (.int 0), .odc (dicR []), .un, .un, .un, .un, .un]) rfl, seq_of hF,
    seq_of (δ1 := [.dat (.int c), .dat (folkD fs), .dat (.list (tm.map encT)), .dat (frD t), .dat (.list ((done t tm).map encT)), .dat (.list ((go c fs 0 ((done t tm).map (·.2))).map frD)), .dat (leapD fs), .dat (frD (cartP c fs t tm)), .dat (frD (endP c fs t tm).now), .dat (.int (endP c fs t tm).since), .odc (dicR (endP c fs t tm).LP), y11, y12, y13, y14, y15]) (by simp only [e_sAsg, e_fCall, e_fCons, e_fNil, e_fVar, r1', e_gN, List.getElem?_cons_zero, List.getElem?_cons_succ, List.set_cons_zero, List.set_cons_succ])]
  simp only [e_sFrzD, e_sRetL, e_fAddL, e_fOfL, e_fLst, e_fCons, e_fNil, e_fTup, e_fVar, e_fC, List.getElem?_cons_zero, List.getElem?_cons_succ, List.set_cons_zero, List.set_cons_succ, List.length_cons, List.length_nil]
  rw [if_pos (by decide)]
  simp only [e_fLst, e_fCons, e_fNil, e_fVar, List.getElem?_cons_zero, List.getElem?_cons_succ, List.length_cons, List.length_nil]
  rw [if_pos (by decide)]
  simp only [hL3, List.length_cons, List.length_nil, List.length_map]
  rw [if_pos (by omega)]
  unfold placesL
  rw [List.map_cons, List.map_map, List.map_map]
  rfl
end Lc
set_option exponentiation.threshold 10000
set_option maxHeartbeats 1000000
namespace Lc
open PySem L2 Evl RZ Sm
/-! ### the law's own places -/
theorem less_fr {p : Rat} {a b : Int} (hp : Bd 1000 p) (ha : a.natAbs < 2 ^ 1000) (hb : b.natAbs < 2 ^ 1000) : fn__law_less [frD p, .tuple [.int a, .int b]] = some (.bool (decide (p.num * b < a * p.den))) := by
  have w : ∀ {x : Nat}, x < 2 ^ 1000 → x < 2 ^ 8000 := fun h => Nat.lt_of_lt_of_le h (Nat.pow_le_pow_right (by decide) (by decide))
  have m1 : cMulB p.num b = true := mulB (w hp.1) (w hb)
  have m2 : cMulB a (p.den : Int) = true := mulB (w ha) (w hp.2)
  have i0 : dIx (frD p) (.int 0) = some (.int p.num) := ix_t0
  have i1 : dIx (frD p) (.int 1) = some (.int p.den) := ix_t1
  unfold fn__law_less b__law_less
  simp only [runD, e_fAddL, e_fZipB, e_fListZip, e_sOwnD, e_fNewD, e_fDictD, e_sDPutO, e_fDGetO, e_fDGet2, e_sFrzD, e_sPar3, e_fVar, e_fC, e_fOp, e_fUn, e_fNil, e_fCons, e_fTup, e_fLst, e_fOfL, e_fTest, e_fAnd, e_fOr, e_fNot, e_fBool, e_fIf, e_fChain, e_fVarB, e_fUnL, e_fNoPart, e_fPart, e_fSl, e_gN, e_gNl, e_gCs, e_gTp, e_fZip, e_fYes, e_sNx, e_sSeq, e_sAsg, e_sOwn, e_sApp, e_sExt, e_sIns, e_sSetIx, e_fIxO, e_fSlO, e_sRet, e_sRetL, e_sRetO, e_sFrz, e_sDrop, e_sIf, e_sPar, e_fCall, e_fCallL, e_fCallB, e_sParO, e_fOpO, e_fItems, e_fRange, e_fMin, e_orF, fI0, fI, fS0, dNeg, dAbs, dLen, dSum, dTuple, ix_t0, ix_t1, ix_t2, ix_l0, ix_l1, ownAt, setOwn, EV.cont, EV.with, seqOf, itemsOf, List.map_cons, List.map_nil, List.cons_append, List.nil_append, List.replicate_succ, List.replicate_zero, List.getElem?_cons_zero, List.getElem?_cons_succ, List.getElem?_nil, List.set_cons_zero, List.set_cons_succ, List.length_cons, List.length_nil, i0, i1, m1, m2, if_true]
theorem low_mul {p q : Rat} (hp : Bd 1000 p) (hq : Bd 1000 q) : cMulB p.num q.num = true ∧ cMulB (p.den : Int) (q.den : Int) = true ∧ fn__law_lowest [.int (p.num * q.num), .int ((p.den : Int) * (q.den : Int))] = some (frD (p * q)) := by
  have w : ∀ {x : Nat}, x < 2 ^ 1000 → x < 2 ^ 8000 := fun h => Nat.lt_of_lt_of_le h (Nat.pow_le_pow_right (by decide) (by decide))
  have w2 : (2 : Nat) ^ (1000 + 1000) ≤ 2 ^ 8000 := Nat.pow_le_pow_right (by decide) (by decide)
  have d0 : 0 < p.den * q.den := Nat.mul_pos p.den_pos q.den_pos
  have e1 : ((p.den : Int) * (q.den : Int)) = ((p.den * q.den : Nat) : Int) := by rw [Int.natCast_mul]
  refine ⟨mulB (w hp.1) (w hq.1), mulB (w hp.2) (w hq.2), ?_⟩
  have hf := low_eq (p.num * q.num) ((p.den : Int) * (q.den : Int)) (by rw [e1]; omega) (by rw [e1]; exact Nat.lt_of_lt_of_le (mul_lt2 hp.2 hq.2) w2)
  rw [hf, Rat.mul_def', e1]
  rfl
theorem in_eq (n : Str) (ns : List Str) : dIn false (.str n) (.list (strsD ns)) = some (.bool (ns.contains n)) := by
  have e : seqOf (.list (strsD ns)) = some (strsD ns) := rfl
  unfold dIn
  rw [e]
  dsimp only
  rw [if_pos ⟨rfl, flat_strs ns⟩, in_strs]
  rfl
theorem lookR_app (O P : List (Str × Rat)) (n : Str) : lookR (O ++ P) n = (lookR O n).or (lookR P n) := by
  unfold lookR
  rw [List.find?_append]
  cases O.find? fun p => decide (p.1 = n) <;> rfl
theorem lookR_none {O : List (Str × Rat)} {n : Str} : lookR O n = none ↔ ¬ n ∈ O.map (·.1) := by
  unfold lookR
  constructor
  · intro h z
    obtain ⟨p, hp, e⟩ := List.mem_map.mp z
    cases hf : O.find? fun p => decide (p.1 = n) with
    | none =>
      have := List.find?_eq_none.mp hf p hp
      simp [e] at this
    | some q =>
      rw [hf] at h
      cases h
  · intro h
    have : (O.find? fun p => decide (p.1 = n)) = none := List.find?_eq_none.mpr fun p hp z => h (List.mem_map.mpr ⟨p, hp, of_decide_eq_true z⟩)
    rw [this]
    rfl
theorem lookR_mem {O : List (Str × Rat)} {n : Str} {x : Rat} (h : lookR O n = some x) : (n, x) ∈ O := by
  unfold lookR at h
  cases hf : O.find? fun p => decide (p.1 = n) with
  | none =>
    rw [hf] at h
    cases h
  | some q =>
    rw [hf] at h
    cases h
    have h1 := List.mem_of_find?_eq_some hf
    have h2 : q.1 = n := of_decide_eq_true (List.find?_some (p := fun p : Str × Rat => decide (p.1 = n)) hf)
    rw [← h2]
    exact h1
structure LS where
  pace : Rat
  here : Rat
  O : List (Str × Rat)
  g : Str → Rat
def lstep (s : LS) (z : ZI) : LS := ⟨z.v, s.here + z.v * (z.e - (z.a : Rat)), s.O ++ z.ow, fun n => s.g n + (lookR (s.O ++ z.ow) n).getD z.v * (z.e - (z.a : Rat))⟩
def fastD (F : List Fk) (O : List (Str × Rat)) : List (PyData × PyData) := folkDic F fun n => frD ((lookR O n).getD 0)
def atD (F : List Fk) (g : Str → Rat) : List (PyData × PyData) := folkDic F fun n => frD (g n)
theorem fast_put {F : List Fk} {O : List (Str × Rat)} {n : Str} {x : Rat} (hF : n ∈ F.map (·.1)) (hO : ¬ n ∈ O.map (·.1)) : putD (fastD F O) (.inr n) (frD x) = fastD F (O ++ [(n, x)]) := by
  unfold fastD
  rw [fd_put hF]
  refine fd_congr fun p _ => ?_
  rw [lookR_app]
  by_cases h : p.1 = n
  · rw [if_pos h, h, lookR_none.mpr hO]
    have : lookR [(n, x)] n = some x := by
      unfold lookR
      rw [List.find?_cons_of_pos (by simp)]
      rfl
    rw [this]
    rfl
  · rw [if_neg h]
    have : lookR [(n, x)] p.1 = none := lookR_none.mpr (by simpa using h)
    rw [this, Option.or_none]
theorem fast_loop {F : List Fk} (hF : OkF F) (a0 a1 a2 a3 a4 a5 a6 a8 a9 a10 a11 a12 a13 a14 a17 a18 a19 a20 a21 : EV) : ∀ (ow O : List (Str × Rat)) (x15 x16 : EV), x15.mine = false → (∀ x, x ∈ ow → x.1 ∈ F.map (·.1)) → (O.map (·.1) ++ ow.map (·.1)).Nodup →
    ∃ y15 y16, y15.mine = false ∧ loopF (gTp 2 (gCs (gN 15) (gCs (gN 16) gNl))) (sDPutO 7 (fVar 15) (fVar 16)) (ow.map encO) [a0, a1, a2, a3, a4, a5, a6, .odc (fastD F O), a8, a9, a10, a11, a12, a13, a14, x15, x16, a17, a18, a19, a20, a21] = some (.nx [a0, a1, a2, a3, a4, a5, a6, .odc (fastD F (O ++ ow)), a8, a9, a10, a11, a12, a13, a14, y15, y16, a17, a18, a19, a20, a21])
  | [], O, x15, x16, h15, _, _ => ⟨x15, x16, h15, by simp only [List.map_nil, List.append_nil, loopF]⟩
  | x :: ow, O, x15, x16, h15, hx, nd => by
    rw [List.map_cons] at nd
    obtain ⟨n1, n2, n3⟩ := List.nodup_append.mp nd
    have hnew : ¬ x.1 ∈ O.map (·.1) := fun z => n3 _ z _ List.mem_cons_self rfl
    obtain ⟨y15, y16, g15, ih⟩ := fast_loop hF a0 a1 a2 a3 a4 a5 a6 a8 a9 a10 a11 a12 a13 a14 a17 a18 a19 a20 a21 ow (O ++ [x]) (.dat (.str x.1)) (.dat (frD x.2)) rfl (fun y hy => hx y (List.mem_cons_of_mem _ hy)) (by
      rw [List.map_append, List.append_assoc]
      exact nd)
    refine ⟨y15, y16, g15, ?_⟩
    rw [List.map_cons]
    unfold loopF
    have hg : gTp 2 (gCs (gN 15) (gCs (gN 16) gNl)) (encO x) [a0, a1, a2, a3, a4, a5, a6, .odc (fastD F O), a8, a9, a10, a11, a12, a13, a14, x15, x16, a17, a18, a19, a20, a21] = some [a0, a1, a2, a3, a4, a5, a6, .odc (fastD F O), a8, a9, a10, a11, a12, a13, a14, .dat (.str x.1), .dat (frD x.2), a17, a18, a19, a20, a21] := rfl
    have hlen : (fastD F O).length < 40000 := by
      unfold fastD
      rw [fd_len]
      have := hF.len
      omega
    have hb : sDPutO 7 (fVar 15) (fVar 16) [a0, a1, a2, a3, a4, a5, a6, .odc (fastD F O), a8, a9, a10, a11, a12, a13, a14, .dat (.str x.1), .dat (frD x.2), a17, a18, a19, a20, a21] = some (.nx [a0, a1, a2, a3, a4, a5, a6, .odc (putD (fastD F O) (.inr x.1) (frD x.2)), a8, a9, a10, a11, a12, a13, a14, .dat (.str x.1), .dat (frD x.2), a17, a18, a19, a20, a21]) := by
      simp only [e_sDPutO, e_fVar, dicAt, Sm.keyOf, List.getElem?_cons_zero, List.getElem?_cons_succ, List.set_cons_zero, List.set_cons_succ, hlen, if_true]
    rw [hg]
    dsimp only
    rw [hb]
    dsimp only
    rw [fast_put (hx x List.mem_cons_self) hnew, ih, List.append_assoc]
    rfl
theorem at_loop {F : List Fk} (hF : OkF F) {O : List (Str × Rat)} {v L : Rat} (hv : Bd 300 v) (hO : ∀ x, x ∈ O → Bd 300 x.2) (hL : Bd 300 L) (a0 a2 a3 a4 a5 a6 a10 a12 a13 a14 a15 a16 a20 a21 : EV) : ∀ (P : List Fk) (g : Str → Rat) (x18 x19 : EV), x18.mine = false → (∀ p, p ∈ P → p.1 ∈ F.map (·.1)) → (P.map (·.1)).Nodup → (∀ p, p ∈ P → Bd 300 (g p.1)) →
    ∃ (g' : Str → Rat) (y18 y19 : EV), y18.mine = false ∧ (∀ m, m ∈ P.map (·.1) → g' m = g m + (lookR O m).getD v * L) ∧ (∀ m, ¬ m ∈ P.map (·.1) → g' m = g m) ∧ loopF (gN 18) (sSeq (sAsg (fIf (fTest (fOp (dInA false) (fOp dIx (fVar 18) (fC (.int 0))) (fVar 11))) (fDGetO 7 (fOp dIx (fVar 18) (fC (.int 0)))) (fVar 9)) (gN 19))
    (sDPutO 8 (fOp dIx (fVar 18) (fC (.int 0))) (fCall fn__law_plus (fCons (fDGetO 8 (fOp dIx (fVar 18) (fC (.int 0)))) (fCons (fCall fn__law_lowest (fCons (fOp dMul (fOp dIx (fVar 19) (fC (.int 0))) (fOp dIx (fVar 17) (fC (.int 0)))) (fCons (fOp dMul (fOp dIx (fVar 19) (fC (.int 1))) (fOp dIx (fVar 17) (fC (.int 1)))) fNil))) fNil))))) (P.map encF) [a0, .dat (folkD F), a2, a3, a4, a5, a6, .odc (fastD F O), .odc (atD F g), .dat (frD v), a10, .dat (.list (strsD (O.map (·.1)))), a12, a13, a14, a15, a16, .dat (frD L), x18, x19, a20, a21] = some (.nx [a0, .dat (folkD F), a2, a3, a4, a5, a6, .odc (fastD F O), .odc (atD F g'), .dat (frD v), a10, .dat (.list (strsD (O.map (·.1)))), a12, a13, a14, a15, a16, .dat (frD L), y18, y19, a20, a21])
  | [], g, x18, x19, h18, _, _, _ => ⟨g, x18, x19, h18, fun m hm => absurd hm (by simp), fun _ _ => rfl, rfl⟩
  | p :: P, g, x18, x19, h18, hm, nd, hg => by
    rw [List.map_cons, List.nodup_cons] at nd
    have hpm := hm p List.mem_cons_self
    have hsp : Bd 300 ((lookR O p.1).getD v) := by
      cases h : lookR O p.1 with
      | none => exact hv
      | some x => exact hO _ (lookR_mem h)
    obtain ⟨m1, m2, hlow⟩ := low_mul (bd_le hsp (show 300 ≤ 1000 by omega)) (bd_le hL (show 300 ≤ 1000 by omega))
    have hbm := bd_mul hsp hL
    have hpl := lplus_eq (bd_le (hg p List.mem_cons_self) (show 300 ≤ 3000 by omega)) (bd_le hbm (show 600 ≤ 3000 by omega))
    generalize hSP : (lookR O p.1).getD v = sp at hlow hpl m1 m2
    have hput : putD (atD F g) (.inr p.1) (frD (g p.1 + sp * L)) = atD F (fun m => if m = p.1 then g m + (lookR O m).getD v * L else g m) := by
      unfold atD
      rw [fd_put hpm]
      refine fd_congr fun q _ => ?_
      by_cases h : q.1 = p.1
      · rw [if_pos h]
        show _ = frD (if q.1 = p.1 then _ else _)
        rw [if_pos h, h, hSP]
      · rw [if_neg h]
        show _ = frD (if q.1 = p.1 then _ else _)
        rw [if_neg h]
    obtain ⟨g', y18, y19, k18, i1, i2, ih⟩ := at_loop hF hv hO hL a0 a2 a3 a4 a5 a6 a10 a12 a13 a14 a15 a16 a20 a21 P (fun m => if m = p.1 then g m + (lookR O m).getD v * L else g m) (.dat (encF p)) (.dat (frD sp)) rfl (fun q hq => hm q (List.mem_cons_of_mem _ hq)) nd.2 (fun q hq => by
      have ne : ¬ q.1 = p.1 := fun z => nd.1 (by rw [← z]; exact List.mem_map.mpr ⟨q, hq, rfl⟩)
      rw [if_neg ne]
      exact hg q (List.mem_cons_of_mem _ hq))
    refine ⟨g', y18, y19, k18, fun m hmm => ?_, fun m hmm => ?_, ?_⟩
    · rw [List.map_cons] at hmm
      by_cases h : m = p.1
      · rw [i2 m (by rw [h]; exact nd.1), if_pos h]
      · rcases List.mem_cons.mp hmm with z | z
        · exact absurd z h
        · rw [i1 m z, if_neg h]
    · rw [List.map_cons] at hmm
      have h1 : ¬ m = p.1 := fun z => hmm (by rw [z]; exact List.mem_cons_self)
      rw [i2 m (fun z => hmm (List.mem_cons_of_mem _ z)), if_neg h1]
    · rw [List.map_cons]
      unfold loopF
      have hlen : (atD F g).length < 40000 := by
        unfold atD
        rw [fd_len]
        have := hF.len
        omega
      have i0 : dIx (encF p) (.int 0) = some (.str p.1) := ix_t0
      have o0 : dIx (frD sp) (.int 0) = some (.int sp.num) := ix_t0
      have o1 : dIx (frD sp) (.int 1) = some (.int sp.den) := ix_t1
      have l0 : dIx (frD L) (.int 0) = some (.int L.num) := ix_t0
      have l1 : dIx (frD L) (.int 1) = some (.int L.den) := ix_t1
      have hlf : lookD (fastD F O) (.inr p.1) = some (frD ((lookR O p.1).getD 0)) := fd_look hpm
      have hla : lookD (atD F g) (.inr p.1) = some (frD (g p.1)) := fd_look hpm
      have hin := in_eq p.1 (O.map (·.1))
      have hif : fIf (fTest (fOp (dInA false) (fOp dIx (fVar 18) (fC (.int 0))) (fVar 11))) (fDGetO 7 (fOp dIx (fVar 18) (fC (.int 0)))) (fVar 9) [a0, .dat (folkD F), a2, a3, a4, a5, a6, .odc (fastD F O), .odc (atD F g), .dat (frD v), a10, .dat (.list (strsD (O.map (·.1)))), a12, a13, a14, a15, a16, .dat (frD L), .dat (encF p), x19, a20, a21] = some (frD sp, [a0, .dat (folkD F), a2, a3, a4, a5, a6, .odc (fastD F O), .odc (atD F g), .dat (frD v), a10, .dat (.list (strsD (O.map (·.1)))), a12, a13, a14, a15, a16, .dat (frD L), .dat (encF p), x19, a20, a21]) := by
        cases hcn : (O.map (·.1)).contains p.1 with
        | true =>
          rw [hcn] at hin
          have e2 : (lookR O p.1).getD 0 = sp := by
            rw [← hSP]
            cases hl : lookR O p.1 with
            | none => exact absurd (by simpa using hcn) (lookR_none.mp hl)
            | some x => rfl
          rw [e2] at hlf
          simp only [e_fIf, e_fTest, e_fOp, e_fVar, e_fC, e_fDGetO, dicAt, Sm.keyOf, List.getElem?_cons_zero, List.getElem?_cons_succ, i0, hin, hlf]
        | false =>
          rw [hcn] at hin
          have e2 : lookR O p.1 = none := lookR_none.mpr (by simpa using hcn)
          rw [e2] at hSP
          simp only [e_fIf, e_fTest, e_fOp, e_fVar, e_fC, List.getElem?_cons_zero, List.getElem?_cons_succ, i0, hin]
          rw [← hSP]
          rfl
      have hb : (sSeq (sAsg (fIf (fTest (fOp (dInA false) (fOp dIx (fVar 18) (fC (.int 0))) (fVar 11))) (fDGetO 7 (fOp dIx (fVar 18) (fC (.int 0)))) (fVar 9)) (gN 19))
    (sDPutO 8 (fOp dIx (fVar 18) (fC (.int 0))) (fCall fn__law_plus (fCons (fDGetO 8 (fOp dIx (fVar 18) (fC (.int 0)))) (fCons (fCall fn__law_lowest (fCons (fOp dMul (fOp dIx (fVar 19) (fC (.int 0))) (fOp dIx (fVar 17) (fC (.int 0)))) (fCons (fOp dMul (fOp dIx (fVar 19) (fC (.int 1))) (fOp dIx (fVar 17) (fC (.int 1)))) fNil))) fNil))))) [a0, .dat (folkD F), a2, a3, a4, a5, a6, .odc (fastD F O), .odc (atD F g), .dat (frD v), a10, .dat (.list (strsD (O.map (·.1)))), a12, a13, a14, a15, a16, .dat (frD L), .dat (encF p), x19, a20, a21] = some (.nx [a0, .dat (folkD F), a2, a3, a4, a5, a6, .odc (fastD F O), .odc (putD (atD F g) (.inr p.1) (frD (g p.1 + sp * L))), .dat (frD v), a10, .dat (.list (strsD (O.map (·.1)))), a12, a13, a14, a15, a16, .dat (frD L), .dat (encF p), .dat (frD sp), a20, a21]) := by
        rw [seq_of (δ1 := [a0, .dat (folkD F), a2, a3, a4, a5, a6, .odc (fastD F O), .odc (atD F g), .dat (frD v), a10, .dat (.list (strsD (O.map (·.1)))), a12, a13, a14, a15, a16, .dat (frD L), .dat (encF p), .dat (frD sp), a20, a21]) (by simp only [e_sAsg, hif, e_gN, List.set_cons_zero, List.set_cons_succ])]
        simp only [e_sDPutO, e_fCall, e_fCons, e_fNil, e_fOp, e_fVar, e_fC, e_fDGetO, fI, dicAt, Sm.keyOf, List.getElem?_cons_zero, List.getElem?_cons_succ, List.set_cons_zero, List.set_cons_succ, i0, o0, o1, l0, l1, hla, m1, m2, if_true, hlow, hpl, hlen]
      have hgn : gN 18 (encF p) [a0, .dat (folkD F), a2, a3, a4, a5, a6, .odc (fastD F O), .odc (atD F g), .dat (frD v), a10, .dat (.list (strsD (O.map (·.1)))), a12, a13, a14, a15, a16, .dat (frD L), x18, x19, a20, a21] = some [a0, .dat (folkD F), a2, a3, a4, a5, a6, .odc (fastD F O), .odc (atD F g), .dat (frD v), a10, .dat (.list (strsD (O.map (·.1)))), a12, a13, a14, a15, a16, .dat (frD L), .dat (encF p), x19, a20, a21] := rfl
      rw [hgn]
      dsimp only
      rw [hb]
      dsimp only
      rw [hput]
      exact ih
end Lc
set_option exponentiation.threshold 10000
set_option maxHeartbeats 1000000
namespace Lc
open PySem L2 Evl RZ Sm
theorem kb_up3 (i : Nat) : i * KB + VB * 3000 ≤ (i + 1) * KB := by
  rw [Nat.succ_mul]
  exact Nat.add_le_add_left (by decide +kernel) _
def encN (z : ZI) : PyData := .tuple [.int (z.i : Nat), encT (z.a, z.ls)]
structure ZIx (hd : Nat) (RUN ENDS : PyData) (z : ZI) : Prop where
  run : dIx RUN (.int (z.i : Nat)) = some (encR (z.v, z.ow))
  ends : dIx ENDS (.int (z.i : Nat)) = some (frD z.e)
  fe : Fq hd 2000 z.e
theorem lp_loop {N hd : Nat} (hN0 : 0 < N) (hN : N ≤ 2 ^ 84) (hd0 : 0 < hd) (hd8 : hd ≤ 8) {F : List Fk} (hF : OkF F) {RUN ENDS : PyData} (a0 a2 a3 a4 a20 : EV) : ∀ (zl : List ZI) (i : Nat) (s : LS) (x12 x13 x14 x15 x16 x17 x18 x19 x21 : EV), x15.mine = false → x18.mine = false → x21.mine = false → (∀ z, z ∈ zl → ZOk N F z) → (∀ z, z ∈ zl → ZIx hd RUN ENDS z) → (s.O.map (·.1) ++ namesOf (zl.map (·.ls))).Nodup → (s.O.map (·.1) ++ namesOf (zl.map (·.ls))).length ≤ 7 →
    Fq (N * hd) (i * KB) s.here → (∀ p, p ∈ F → Fq (N * hd) (i * KB) (s.g p.1)) → (∀ x, x ∈ s.O → Fq N VB x.2) → i + zl.length ≤ 7 →
    ∃ y12 y13 y14 y15 y16 y17 y18 y19 y21, y18.mine = false ∧ loopF (gTp 2 (gCs (gN 12) (gCs (gTp 2 (gCs (gN 13) (gCs (gN 14) gNl))) gNl))) (sSeq (sAsg (fOp dIx (fOp dIx (fVar 5) (fVar 12)) (fC (.int 0))) (gN 9)) (sSeq (sAsg (fOp dAdd (fVar 11) (fOfL (fLc (fItems (fVar 14)) [15, 21] (gTp 2 (gCs (gN 15) (gCs (gN 21) gNl))) fYes (fVar 15)))) (gN 11)) (sSeq (sFor (fItems (fOp dIx (fOp dIx (fVar 5) (fVar 12)) (fC (.int 1)))) (gTp 2 (gCs (gN 15) (gCs (gN 16) gNl))) (sDPutO 7 (fVar 15) (fVar 16))) (sSeq (sAsg (fCall fn__law_plus (fCons (fOp dIx (fVar 6) (fVar 12)) (fCons (fTup (fCons (fOp dSub (fC (.int 0)) (fVar 13)) (fCons (fC (.int 1)) fNil))) fNil))) (gN 17)) (sSeq (sAsg (fCall fn__law_plus (fCons (fVar 10) (fCons (fCall fn__law_lowest (fCons (fOp dMul (fOp dIx (fVar 9) (fC (.int 0))) (fOp dIx (fVar 17) (fC (.int 0)))) (fCons (fOp dMul (fOp dIx (fVar 9) (fC (.int 1))) (fOp dIx (fVar 17) (fC (.int 1)))) fNil))) fNil))) (gN 10)) (sFor (fItems (fVar 1)) (gN 18) (sSeq (sAsg (fIf (fTest (fOp (dInA false) (fOp dIx (fVar 18) (fC (.int 0))) (fVar 11))) (fDGetO 7 (fOp dIx (fVar 18) (fC (.int 0)))) (fVar 9)) (gN 19))
    (sDPutO 8 (fOp dIx (fVar 18) (fC (.int 0))) (fCall fn__law_plus (fCons (fDGetO 8 (fOp dIx (fVar 18) (fC (.int 0)))) (fCons (fCall fn__law_lowest (fCons (fOp dMul (fOp dIx (fVar 19) (fC (.int 0))) (fOp dIx (fVar 17) (fC (.int 0)))) (fCons (fOp dMul (fOp dIx (fVar 19) (fC (.int 1))) (fOp dIx (fVar 17) (fC (.int 1)))) fNil))) fNil))))))))))) (zl.map encN) [a0, .dat (folkD F), a2, a3, a4, .dat RUN, .dat ENDS, .odc (fastD F s.O), .odc (atD F s.g), .dat (frD s.pace), .dat (frD s.here), .dat (.list (strsD ((s.O).map (·.1)))), x12, x13, x14, x15, x16, x17, x18, x19, a20, x21] = some (.nx [a0, .dat (folkD F), a2, a3, a4, .dat RUN, .dat ENDS, .odc (fastD F (zl.foldl lstep s).O), .odc (atD F (zl.foldl lstep s).g), .dat (frD (zl.foldl lstep s).pace), .dat (frD (zl.foldl lstep s).here), .dat (.list (strsD (((zl.foldl lstep s).O).map (·.1)))), y12, y13, y14, y15, y16, y17, y18, y19, a20, y21]) ∧ Fq (N * hd) ((i + zl.length) * KB) (zl.foldl lstep s).here ∧ (∀ p, p ∈ F → Fq (N * hd) ((i + zl.length) * KB) ((zl.foldl lstep s).g p.1)) := by
  intro zl
  induction zl with
  | nil =>
    intro i s x12 x13 x14 x15 x16 x17 x18 x19 x21 h15 h18 h21 _ _ _ _ hh hg hO _
    rw [List.length_nil, Nat.add_zero, List.foldl_nil]
    exact ⟨x12, x13, x14, x15, x16, x17, x18, x19, x21, h18, by simp only [List.map_nil, loopF], hh, hg⟩
  | cons z zl ih0 =>
    intro i s x12 x13 x14 x15 x16 x17 x18 x19 x21 h15 h18 h21 hz hx nd n7 hh hg hO hi
    rw [List.length_cons] at hi
    have zk := hz z List.mem_cons_self
    have zx := hx z List.mem_cons_self
    have hon : z.ow.map (·.1) = z.ls.map (·.1) := by rw [zk.eo, own_names]
    rw [List.map_cons, namesOf_cons, ← List.append_assoc, ← hon] at nd n7
    obtain ⟨nd1, nd2, nd3⟩ := List.nodup_append.mp nd
    have hll := zk.ok.len
    have hFl := hF.len
    have hvb := bd_le (bd_ofN zk.hv hN0 hN (by decide +kernel)) (show 200 ≤ 300 by omega)
    have hd84 : hd ≤ 2 ^ 84 := Nat.le_trans hd8 (by decide +kernel)
    have heb := bd_ofN zx.fe hd0 hd84 (by decide +kernel)
    have hfL : Fq hd 3000 (z.e - (z.a : Rat)) := by
      have q1 := fq_up hd (fq_int (i := z.a) (B := 1000) (by have := zk.ha; omega))
      rw [Nat.one_mul] at q1
      exact fq_le (fq_sub zx.fe q1) (by decide)
    have hLb := bd_le (bd_ofN hfL hd0 hd84 (by decide +kernel)) (show 200 ≤ 300 by omega)
    have hhb := bd_of hh hN0 hN hd0 hd8 (kb_7 (by omega))
    have hgb : ∀ p, p ∈ F → Bd 300 (s.g p.1) := fun p hp => bd_le (bd_of (hg p hp) hN0 hN hd0 hd8 (kb_7 (by omega))) (by omega)
    have hO' : ∀ x, x ∈ s.O ++ z.ow → Fq N VB x.2 := fun x hx => by
      rcases List.mem_append.mp hx with q | q
      · exact hO x q
      · exact zk.ho x q
    have hOb : ∀ x, x ∈ s.O ++ z.ow → Bd 300 x.2 := fun x hx => bd_le (bd_ofN (hO' x hx) hN0 hN (by decide +kernel)) (by omega)
    -- the names
    have hcc := compL_enc encL (vs := [15, 21]) (γ := gTp 2 (gCs (gN 15) (gCs (gN 21) gNl))) (τ := fYes) (ε := fVar 15) (δ := [a0, .dat (folkD F), a2, a3, a4, .dat RUN, .dat ENDS, .odc (fastD F s.O), .odc (atD F s.g), .dat (frD z.v), .dat (frD s.here), .dat (.list (strsD ((s.O).map (·.1)))), .dat (.int (z.i : Nat)), .dat (.int z.a), .dat (onceD z.ls), x15, x16, x17, x18, x19, a20, x21])
      (fun p => [a0, .dat (folkD F), a2, a3, a4, .dat RUN, .dat ENDS, .odc (fastD F s.O), .odc (atD F s.g), .dat (frD z.v), .dat (frD s.here), .dat (.list (strsD ((s.O).map (·.1)))), .dat (.int (z.i : Nat)), .dat (.int z.a), .dat (onceD z.ls), .dat (.str p.1), x16, x17, x18, x19, a20, .dat (.int p.2)]) (fun _ => true) (fun p => .str p.1) z.ls fun p _ => ⟨rfl, rfl, fun _ => rfl, by (repeat (first | exact back_n | refine back_s rfl ?_ | refine back_o rfl ?_ | refine back_o (by assumption) ?_))⟩
    rw [filter_true] at hcc
    have hLc := fLc_of (φ := fItems (fVar 14)) (δ := [a0, .dat (folkD F), a2, a3, a4, .dat RUN, .dat ENDS, .odc (fastD F s.O), .odc (atD F s.g), .dat (frD z.v), .dat (frD s.here), .dat (.list (strsD ((s.O).map (·.1)))), .dat (.int (z.i : Nat)), .dat (.int z.a), .dat (onceD z.ls), x15, x16, x17, x18, x19, a20, x21]) rfl (by rw [List.length_map]; omega) hcc
    have hadd : dAdd (.list (strsD (s.O.map (·.1)))) (.list (z.ls.map fun p => .str p.1)) = some (.list (strsD ((s.O ++ z.ow).map (·.1)))) := by
      have e1 : strsD (s.O.map (·.1)) ++ (z.ls.map fun p => PyData.str p.1) = strsD ((s.O ++ z.ow).map (·.1)) := by
        unfold strsD
        rw [List.map_append, List.map_append, hon, List.map_map, List.map_map]
        rfl
      have hc : dCatL (.list (strsD (s.O.map (·.1)))) (.list (z.ls.map fun p => .str p.1)) = some (.list (strsD ((s.O ++ z.ow).map (·.1)))) := by
        unfold dCatL
        dsimp only
        rw [if_pos (by
          unfold strsD
          rw [List.length_map, List.length_map, List.length_map]
          rw [List.length_append, List.length_append, List.length_map] at n7
          omega), e1]
      simp only [e_orF, fI0, dCatS, hc]
    -- the speeds of those who leapt
    obtain ⟨w15, w16, g15, hfast⟩ := fast_loop hF (a0) (.dat (folkD F)) (a2) (a3) (a4) (.dat RUN) (.dat ENDS) (.odc (atD F s.g)) (.dat (frD z.v)) (.dat (frD s.here)) (.dat (.list (strsD ((s.O ++ z.ow).map (·.1))))) (.dat (.int (z.i : Nat))) (.dat (.int z.a)) (.dat (onceD z.ls)) (x17) (x18) (x19) (a20) (x21) z.ow s.O x15 x16 h15 (fun x hx => by
      have : x.1 ∈ z.ls.map (·.1) := by
        rw [← hon]
        exact List.mem_map.mpr ⟨x, hx, rfl⟩
      obtain ⟨p, hp, e⟩ := List.mem_map.mp this
      rw [← e]
      exact zk.ok.nm p hp) nd1
    have iR0 : dIx (encR (z.v, z.ow)) (.int 0) = some (frD z.v) := ix_t0
    have iR1 : dIx (encR (z.v, z.ow)) (.int 1) = some (.list (z.ow.map encO)) := ix_t1
    have hF3 := sFor_of (φ := fItems (fOp dIx (fOp dIx (fVar 5) (fVar 12)) (fC (.int 1)))) (δ := [a0, .dat (folkD F), a2, a3, a4, .dat RUN, .dat ENDS, .odc (fastD F s.O), .odc (atD F s.g), .dat (frD z.v), .dat (frD s.here), .dat (.list (strsD ((s.O ++ z.ow).map (·.1)))), .dat (.int (z.i : Nat)), .dat (.int z.a), .dat (onceD z.ls), x15, x16, x17, x18, x19, a20, x21]) (by
      simp only [e_fItems, e_fUnL, e_fOp, e_fVar, e_fC, List.getElem?_cons_zero, List.getElem?_cons_succ, zx.run, iR1, itemsOf]) hfast
    -- the stretch
    have hib : Bd 20 (((0 - z.a : Int)) : Rat) := bd_int (pow20 (by have := zk.ha; omega) 20 (by omega)) (by omega)
    have hpl := lplus_eq (bd_le heb (show 200 ≤ 3000 by omega)) (bd_le hib (show 20 ≤ 3000 by omega))
    have hpl' : fn__law_plus [frD z.e, .tuple [.int (0 - z.a), .int 1]] = some (frD (z.e - (z.a : Rat))) := by
      have e : z.e - (z.a : Rat) = z.e + ((0 - z.a : Int) : Rat) := by
        rw [Rat.intCast_sub]
        show z.e - (z.a : Rat) = z.e + ((0 : Rat) - (z.a : Rat))
        grind
      rw [e]
      exact hpl
    obtain ⟨m1, m2, hlow⟩ := low_mul (bd_le hvb (show 300 ≤ 1000 by omega)) (bd_le hLb (show 300 ≤ 1000 by omega))
    have hpl2 := lplus_eq (bd_le hhb (show 200 ≤ 3000 by omega)) (bd_le (bd_mul hvb hLb) (show 600 ≤ 3000 by omega))
    obtain ⟨g', w18, w19, g18, i1, i2, hat⟩ := at_loop hF hvb hOb hLb (a0) (a2) (a3) (a4) (.dat RUN) (.dat ENDS) (.dat (frD (s.here + z.v * (z.e - (z.a : Rat))))) (.dat (.int (z.i : Nat))) (.dat (.int z.a)) (.dat (onceD z.ls)) (w15) (w16) (a20) (x21) F s.g x18 x19 h18 (fun p hp => List.mem_map.mpr ⟨p, hp, rfl⟩) hF.nd hgb
    have hF6 := sFor_of (φ := fItems (fVar 1)) (δ := [a0, .dat (folkD F), a2, a3, a4, .dat RUN, .dat ENDS, .odc (fastD F (s.O ++ z.ow)), .odc (atD F s.g), .dat (frD z.v), .dat (frD (s.here + z.v * (z.e - (z.a : Rat)))), .dat (.list (strsD ((s.O ++ z.ow).map (·.1)))), .dat (.int (z.i : Nat)), .dat (.int z.a), .dat (onceD z.ls), w15, w16, .dat (frD (z.e - (z.a : Rat))), x18, x19, a20, x21]) rfl hat
    have eg : atD F g' = atD F (lstep s z).g := fd_congr fun p hp => by
      rw [i1 p.1 (List.mem_map.mpr ⟨p, hp, rfl⟩)]
      rfl
    rw [eg] at hF6
    have hh' : Fq (N * hd) ((i + 1) * KB) (lstep s z).here := fq_le (fq_add hh (fq_mul zk.hv hfL)) (kb_up3 i)
    have hg' : ∀ p, p ∈ F → Fq (N * hd) ((i + 1) * KB) ((lstep s z).g p.1) := fun p hp => by
      have hsp : Fq N VB ((lookR (s.O ++ z.ow) p.1).getD z.v) := by
        cases h : lookR (s.O ++ z.ow) p.1 with
        | none => exact zk.hv
        | some x => exact hO' _ (lookR_mem h)
      exact fq_le (fq_add (hg p hp) (fq_mul hsp hfL)) (kb_up3 i)
    obtain ⟨y12, y13, y14, y15, y16, y17, y18, y19, y21, k18, ih, j1, j2⟩ := ih0 (i + 1) (lstep s z) (.dat (.int (z.i : Nat))) (.dat (.int z.a)) (.dat (onceD z.ls)) w15 w16 (.dat (frD (z.e - (z.a : Rat)))) w18 w19 x21 g15 g18 h21 (fun y hy => hz y (List.mem_cons_of_mem _ hy)) (fun y hy => hx y (List.mem_cons_of_mem _ hy)) (by
      show ((s.O ++ z.ow).map (·.1) ++ _).Nodup
      rw [List.map_append]
      exact nd) (by
      show ((s.O ++ z.ow).map (·.1) ++ _).length ≤ 7
      rw [List.map_append]
      exact n7) hh' hg' hO' (by omega)
    refine ⟨y12, y13, y14, y15, y16, y17, y18, y19, y21, k18, ?_, ?_, ?_⟩
    · rw [List.map_cons, List.foldl_cons]
      unfold loopF
      have hgt : (gTp 2 (gCs (gN 12) (gCs (gTp 2 (gCs (gN 13) (gCs (gN 14) gNl))) gNl))) (encN z) [a0, .dat (folkD F), a2, a3, a4, .dat RUN, .dat ENDS, .odc (fastD F s.O), .odc (atD F s.g), .dat (frD s.pace), .dat (frD s.here), .dat (.list (strsD ((s.O).map (·.1)))), x12, x13, x14, x15, x16, x17, x18, x19, a20, x21] = some [a0, .dat (folkD F), a2, a3, a4, .dat RUN, .dat ENDS, .odc (fastD F s.O), .odc (atD F s.g), .dat (frD s.pace), .dat (frD s.here), .dat (.list (strsD ((s.O).map (·.1)))), .dat (.int (z.i : Nat)), .dat (.int z.a), .dat (onceD z.ls), x15, x16, x17, x18, x19, a20, x21] := rfl
      have hb : (sSeq (sAsg (fOp dIx (fOp dIx (fVar 5) (fVar 12)) (fC (.int 0))) (gN 9)) (sSeq (sAsg (fOp dAdd (fVar 11) (fOfL (fLc (fItems (fVar 14)) [15, 21] (gTp 2 (gCs (gN 15) (gCs (gN 21) gNl))) fYes (fVar 15)))) (gN 11)) (sSeq (sFor (fItems (fOp dIx (fOp dIx (fVar 5) (fVar 12)) (fC (.int 1)))) (gTp 2 (gCs (gN 15) (gCs (gN 16) gNl))) (sDPutO 7 (fVar 15) (fVar 16))) (sSeq (sAsg (fCall fn__law_plus (fCons (fOp dIx (fVar 6) (fVar 12)) (fCons (fTup (fCons (fOp dSub (fC (.int 0)) (fVar 13)) (fCons (fC (.int 1)) fNil))) fNil))) (gN 17)) (sSeq (sAsg (fCall fn__law_plus (fCons (fVar 10) (fCons (fCall fn__law_lowest (fCons (fOp dMul (fOp dIx (fVar 9) (fC (.int 0))) (fOp dIx (fVar 17) (fC (.int 0)))) (fCons (fOp dMul (fOp dIx (fVar 9) (fC (.int 1))) (fOp dIx (fVar 17) (fC (.int 1)))) fNil))) fNil))) (gN 10)) (sFor (fItems (fVar 1)) (gN 18) (sSeq (sAsg (fIf (fTest (fOp (dInA false) (fOp dIx (fVar 18) (fC (.int 0))) (fVar 11))) (fDGetO 7 (fOp dIx (fVar 18) (fC (.int 0)))) (fVar 9)) (gN 19))
    (sDPutO 8 (fOp dIx (fVar 18) (fC (.int 0))) (fCall fn__law_plus (fCons (fDGetO 8 (fOp dIx (fVar 18) (fC (.int 0)))) (fCons (fCall fn__law_lowest (fCons (fOp dMul (fOp dIx (fVar 19) (fC (.int 0))) (fOp dIx (fVar 17) (fC (.int 0)))) (fCons (fOp dMul (fOp dIx (fVar 19) (fC (.int 1))) (fOp dIx (fVar 17) (fC (.int 1)))) fNil))) fNil))))))))))) [a0, .dat (folkD F), a2, a3, a4, .dat RUN, .dat ENDS, .odc (fastD F s.O), .odc (atD F s.g), .dat (frD s.pace), .dat (frD s.here), .dat (.list (strsD ((s.O).map (·.1)))), .dat (.int (z.i : Nat)), .dat (.int z.a), .dat (onceD z.ls), x15, x16, x17, x18, x19, a20, x21] = some (.nx [a0, .dat (folkD F), a2, a3, a4, .dat RUN, .dat ENDS, .odc (fastD F (lstep s z).O), .odc (atD F (lstep s z).g), .dat (frD (lstep s z).pace), .dat (frD (lstep s z).here), .dat (.list (strsD (((lstep s z).O).map (·.1)))), .dat (.int (z.i : Nat)), .dat (.int z.a), .dat (onceD z.ls), w15, w16, .dat (frD (z.e - (z.a : Rat))), w18, w19, a20, x21]) := by
        rw [seq_of (δ1 := [a0, .dat (folkD F), a2, a3, a4, .dat RUN, .dat ENDS, .odc (fastD F s.O), .odc (atD F s.g), .dat (frD z.v), .dat (frD s.here), .dat (.list (strsD ((s.O).map (·.1)))), .dat (.int (z.i : Nat)), .dat (.int z.a), .dat (onceD z.ls), x15, x16, x17, x18, x19, a20, x21]) (by simp only [e_sAsg, e_fOp, e_fVar, e_fC, e_gN, List.getElem?_cons_zero, List.getElem?_cons_succ, List.set_cons_zero, List.set_cons_succ, zx.run, iR0]),
          seq_of (δ1 := [a0, .dat (folkD F), a2, a3, a4, .dat RUN, .dat ENDS, .odc (fastD F s.O), .odc (atD F s.g), .dat (frD z.v), .dat (frD s.here), .dat (.list (strsD ((s.O ++ z.ow).map (·.1)))), .dat (.int (z.i : Nat)), .dat (.int z.a), .dat (onceD z.ls), x15, x16, x17, x18, x19, a20, x21]) (by simp only [e_sAsg, e_fOp, e_fVar, e_fOfL, hLc, hadd, e_gN, List.getElem?_cons_zero, List.getElem?_cons_succ, List.set_cons_zero, List.set_cons_succ]),
          seq_of hF3,
          seq_of (δ1 := [a0, .dat (folkD F), a2, a3, a4, .dat RUN, .dat ENDS, .odc (fastD F (s.O ++ z.ow)), .odc (atD F s.g), .dat (frD z.v), .dat (frD s.here), .dat (.list (strsD ((s.O ++ z.ow).map (·.1)))), .dat (.int (z.i : Nat)), .dat (.int z.a), .dat (onceD z.ls), w15, w16, .dat (frD (z.e - (z.a : Rat))), x18, x19, a20, x21]) (by
            simp only [e_sAsg, e_fCall, e_fCons, e_fNil, e_fOp, e_fVar, e_fC, e_fTup, fI0, e_gN, List.getElem?_cons_zero, List.getElem?_cons_succ, List.set_cons_zero, List.set_cons_succ, List.length_cons, List.length_nil, zx.ends]
            rw [if_pos (by decide)]
            simp only [hpl', e_gN, List.set_cons_zero, List.set_cons_succ]),
          seq_of (δ1 := [a0, .dat (folkD F), a2, a3, a4, .dat RUN, .dat ENDS, .odc (fastD F (s.O ++ z.ow)), .odc (atD F s.g), .dat (frD z.v), .dat (frD (s.here + z.v * (z.e - (z.a : Rat)))), .dat (.list (strsD ((s.O ++ z.ow).map (·.1)))), .dat (.int (z.i : Nat)), .dat (.int z.a), .dat (onceD z.ls), w15, w16, .dat (frD (z.e - (z.a : Rat))), x18, x19, a20, x21]) (by
            have v0 : dIx (frD z.v) (.int 0) = some (.int z.v.num) := ix_t0
            have v1 : dIx (frD z.v) (.int 1) = some (.int z.v.den) := ix_t1
            have l0 : dIx (frD (z.e - (z.a : Rat))) (.int 0) = some (.int (z.e - (z.a : Rat)).num) := ix_t0
            have l1 : dIx (frD (z.e - (z.a : Rat))) (.int 1) = some (.int (z.e - (z.a : Rat)).den) := ix_t1
            simp only [e_sAsg, e_fCall, e_fCons, e_fNil, e_fOp, e_fVar, e_fC, fI, e_gN, List.getElem?_cons_zero, List.getElem?_cons_succ, List.set_cons_zero, List.set_cons_succ, v0, v1, l0, l1, m1, m2, if_true, hlow, hpl2])]
        exact hF6
      rw [hgt]
      dsimp only
      rw [hb]
      exact ih
    · rw [List.length_cons, List.foldl_cons, show i + (zl.length + 1) = i + 1 + zl.length by omega]
      exact j1
    · rw [List.length_cons, List.foldl_cons, show i + (zl.length + 1) = i + 1 + zl.length by omega]
      exact j2
end Lc
set_option exponentiation.threshold 10000
set_option maxHeartbeats 1000000
namespace Lc
open PySem L2 Evl RZ Sm
theorem num_zs (c : Int) (t : Rat) : ∀ (tm : List Tm) (i : Nat) (fs : List Fk) (q : Rat), numD i (tm.map encT) = (zs c t i fs q tm).map encN
  | [], _, _, _ => rfl
  | r :: rs, i, fs, q => by
    rw [zs_cons, List.map_cons, List.map_cons]
    show PyData.tuple [.int (i : Nat), encT r] :: numD (i + 1) (rs.map encT) = _
    rw [num_zs c t rs (i + 1) (left fs (r.2.map (·.1))) (dr c fs q r.2)]
    rfl
def endsL (t : Rat) (tm : List Tm) : List Rat := (tm.drop 1).map (fun r => (r.1 : Rat)) ++ [t]
theorem zs_at (c : Int) (t : Rat) : ∀ (tm : List Tm) (i : Nat) (fs : List Fk) (q : Rat) (z : ZI), z ∈ zs c t i fs q tm → ∃ j : Nat, z.i = i + j ∧ (rows c fs q (tm.map (·.2)))[j]? = some (z.v, z.ow) ∧ (endsL t tm)[j]? = some z.e
  | [], _, _, _, z, h => by cases h
  | r :: rs, i, fs, q, z, h => by
    rw [zs_cons] at h
    rcases List.mem_cons.mp h with rfl | h
    · refine ⟨0, rfl, rfl, ?_⟩
      cases rs <;> rfl
    · obtain ⟨j, e1, e2, e3⟩ := zs_at c t rs (i + 1) _ _ z h
      refine ⟨j + 1, by omega, by rw [List.map_cons, rows_cons, List.getElem?_cons_succ]; exact e2, ?_⟩
      cases rs with
      | nil => cases h
      | cons r' rs' => exact e3
theorem zs_e {t : Rat} (c : Int) (ht : Fq t.den 2000 t) : ∀ (tm : List Tm) (i : Nat) (fs : List Fk) (q : Rat), (∀ r, r ∈ tm → 0 ≤ r.1 ∧ r.1 ≤ 1000) → ∀ z, z ∈ zs c t i fs q tm → Fq t.den 2000 z.e
  | [], _, _, _, _, z, h => by cases h
  | r :: rs, i, fs, q, hh, z, h => by
    rw [zs_cons] at h
    rcases List.mem_cons.mp h with rfl | h
    · cases rs with
      | nil => exact ht
      | cons r' rs' =>
        have h1 := hh r' (List.mem_cons_of_mem _ List.mem_cons_self)
        have := fq_up t.den (fq_int (i := r'.1) (B := 2000) (by omega))
        rw [Nat.one_mul] at this
        exact this
    · exact zs_e c ht rs (i + 1) _ _ (fun r hr => hh r (List.mem_cons_of_mem _ hr)) z h
def endL (c : Int) (fs : List Fk) (t : Rat) (tm : List Tm) : LS := (run0 c fs t tm).foldl lstep ⟨0, 0, [], fun _ => 0⟩
def placesLL (c : Int) (fs : List Fk) (t : Rat) (tm : List Tm) : List (Str × Rat) := ("", (endL c fs t tm).here) :: fs.map fun p => (p.1, (endL c fs t tm).g p.1)
theorem dic0 (fs : List Fk) (hn : (fs.map (·.1)).Nodup) : ∃ kvs, pairsD (fs.map fun p => PyData.tuple [.str p.1, .tuple [.int 0, .int 1]]) = some kvs ∧ mergeD [] kvs = folkDic fs fun _ => frD 0 := by
  have h1 : ∀ fs : List Fk, pairsD (fs.map fun p => PyData.tuple [.str p.1, .tuple [.int 0, .int 1]]) = some (fs.map fun p => (Sum.inr p.1, frD 0)) := fun fs => by
    induction fs with
    | nil => rfl
    | cons p fs ih =>
      rw [List.map_cons]
      unfold pairsD
      rw [ih]
      rfl
  refine ⟨_, h1 fs, ?_⟩
  unfold mergeD
  rw [List.foldl_map]
  exact (put_all (fun p : Fk => p.1) (fun _ => frD 0) fs [] (by simpa using hn)).trans (by rw [List.nil_append]; rfl)
theorem lawplaces_eq {c : Int} {fs : List Fk} {tm : List Tm} {t : Rat} (hc : 1 ≤ c ∧ c ≤ 1000) (hf : OkF fs) (hT : OkT fs tm) (ht : HOk t) : fn__law_places [.int c, folkD fs, .list (tm.map encT), frD t] = some ((placesLL c fs t tm).map encO) ∧ Fq (prodW c fs ((done t tm).map (·.2)) * t.den) (8 * KB) (endL c fs t tm).here ∧ (∀ p, p ∈ fs → Fq (prodW c fs ((done t tm).map (·.2)) * t.den) (8 * KB) ((endL c fs t tm).g p.1)) := by
  have hD : OkT fs (done t tm) := hT.sub List.filter_sublist
  have hlt := hT.len
  have hld := hD.len
  have hfl := hf.len
  obtain ⟨p0, p1, zk, nd, n7, z7, _⟩ := run0_ok (t := t) hc hf hT
  have d0 := t.den_pos
  have htb : Bd 1000 t := bd_le ht.bd (by omega)
  have hc1 := compL_enc encT (vs := [20]) (γ := gN 20) (τ := fNot (fTest (fCall fn__law_less (fCons (fVar 3) (fCons (fTup (fCons (fOp dIx (fVar 20) (fC (.int 0))) (fCons (fC (.int 1)) fNil))) fNil))))) (ε := fVar 20) (δ := [.dat (.int c), .dat (folkD fs), .dat (.list (tm.map encT)), .dat (frD t), .un, .un, .un, .un, .un, .un, .un, .un, .un, .un, .un, .un, .un, .un, .un, .un, .un, .un])
    (fun r => [.dat (.int c), .dat (folkD fs), .dat (.list (tm.map encT)), .dat (frD t), .un, .un, .un, .un, .un, .un, .un, .un, .un, .un, .un, .un, .un, .un, .un, .un, .dat (encT r), .un]) (fun r => decide (r.1 * t.den ≤ t.num)) encT tm fun r hr => ⟨rfl, by
      have hh := hT.hr r hr
      have i0 : dIx (encT r) (.int 0) = some (.int r.1) := ix_t0
      have hl := less_fr (p := t) (a := r.1) (b := 1) htb (pow20 (by omega) 1000 (by omega)) (pow20 (by decide) 1000 (by omega))
      simp only [e_fNot, e_fTest, e_fCall, e_fCons, e_fNil, e_fTup, e_fOp, e_fVar, e_fC, List.getElem?_cons_zero, List.getElem?_cons_succ, List.length_cons, List.length_nil, i0]
      rw [if_pos (by decide)]
      simp only [hl]
      congr 2
      rw [Int.mul_one]
      by_cases h : r.1 * t.den ≤ t.num
      · rw [decide_eq_true h, decide_eq_false (by omega)]
        rfl
      · rw [decide_eq_false h, decide_eq_true (by omega)]
        rfl, fun _ => rfl, rfl⟩
  have hL1 := fLc_of (φ := fItems (fVar 2)) (δ := [.dat (.int c), .dat (folkD fs), .dat (.list (tm.map encT)), .dat (frD t), .un, .un, .un, .un, .un, .un, .un, .un, .un, .un, .un, .un, .un, .un, .un, .un, .un, .un]) rfl (by rw [List.length_map]; omega) hc1
  have hL1' : fLc (fItems (fVar 2)) [20] (gN 20) (fNot (fTest (fCall fn__law_less (fCons (fVar 3) (fCons (fTup (fCons (fOp dIx (fVar 20) (fC (.int 0))) (fCons (fC (.int 1)) fNil))) fNil))))) (fVar 20) [.dat (.int c), .dat (folkD fs), .dat (.list (tm.map encT)), .dat (frD t), .un, .un, .un, .un, .un, .un, .un, .un, .un, .un, .un, .un, .un, .un, .un, .un, .un, .un] = some ((done t tm).map encT, [.dat (.int c), .dat (folkD fs), .dat (.list (tm.map encT)), .dat (frD t), .un, .un, .un, .un, .un, .un, .un, .un, .un, .un, .un, .un, .un, .un, .un, .un, .un, .un]) := hL1
  have hc2 := compL_enc encT (vs := [20]) (γ := gN 20) (τ := fYes) (ε := fOp dIx (fVar 20) (fC (.int 1))) (δ := [.dat (.int c), .dat (folkD fs), .dat (.list (tm.map encT)), .dat (frD t), .dat (.list ((done t tm).map encT)), .un, .un, .un, .un, .un, .un, .un, .un, .un, .un, .un, .un, .un, .un, .un, .un, .un])
    (fun r => [.dat (.int c), .dat (folkD fs), .dat (.list (tm.map encT)), .dat (frD t), .dat (.list ((done t tm).map encT)), .un, .un, .un, .un, .un, .un, .un, .un, .un, .un, .un, .un, .un, .un, .un, .dat (encT r), .un]) (fun _ => true) (fun r => onceD r.2) (done t tm) fun r _ => ⟨rfl, rfl, fun _ => by
      have i0 : dIx (encT r) (.int 1) = some (onceD r.2) := ix_t1
      simp only [e_fOp, e_fVar, e_fC, List.getElem?_cons_zero, List.getElem?_cons_succ, i0], rfl⟩
  rw [filter_true] at hc2
  have hL2 := fLc_of (φ := fItems (fVar 4)) (δ := [.dat (.int c), .dat (folkD fs), .dat (.list (tm.map encT)), .dat (frD t), .dat (.list ((done t tm).map encT)), .un, .un, .un, .un, .un, .un, .un, .un, .un, .un, .un, .un, .un, .un, .un, .un, .un]) rfl (by rw [List.length_map]; omega) hc2
  have e2 : (done t tm).map (fun r => onceD r.2) = ((done t tm).map (·.2)).map onceD := by rw [List.map_map]; rfl
  rw [e2] at hL2
  have hrun := run_eq (q := 0) hc hf hD.ls ⟨by show 0 < 2 ^ 100; exact Nat.pow_pos (by decide), by show 1 < 2 ^ 100; exact Nat.one_lt_two_pow (by decide)⟩ (by rw [List.length_map]; exact hld)
  have hrun' : fn__law_run [.int c, folkD fs, .tuple [.int 0, .int 1], .list (((done t tm).map (·.2)).map onceD)] = some (.list ((rows c fs 0 ((done t tm).map (·.2))).map encR)) := hrun
  have hcut := cut_from ((done t tm).map encT) (m := 1) (by decide)
  rw [show (1 : Int).toNat = 1 from rfl, ← List.map_drop] at hcut
  have hc3 := compL_enc encT (vs := [20]) (γ := gN 20) (τ := fYes) (ε := fTup (fCons (fOp dIx (fVar 20) (fC (.int 0))) (fCons (fC (.int 1)) fNil))) (δ := [.dat (.int c), .dat (folkD fs), .dat (.list (tm.map encT)), .dat (frD t), .dat (.list ((done t tm).map encT)), .dat (.list ((rows c fs 0 ((done t tm).map (·.2))).map encR)), .un, .un, .un, .un, .un, .un, .un, .un, .un, .un, .un, .un, .un, .un, .un, .un])
    (fun r => [.dat (.int c), .dat (folkD fs), .dat (.list (tm.map encT)), .dat (frD t), .dat (.list ((done t tm).map encT)), .dat (.list ((rows c fs 0 ((done t tm).map (·.2))).map encR)), .un, .un, .un, .un, .un, .un, .un, .un, .un, .un, .un, .un, .un, .un, .dat (encT r), .un]) (fun _ => true) (fun r => frD (r.1 : Rat)) ((done t tm).drop 1) fun r _ => ⟨rfl, rfl, fun _ => by
      have i0 : dIx (encT r) (.int 0) = some (.int r.1) := ix_t0
      simp only [e_fTup, e_fCons, e_fNil, e_fOp, e_fVar, e_fC, List.getElem?_cons_zero, List.getElem?_cons_succ, List.length_cons, List.length_nil, i0]
      rw [if_pos (by decide)]
      rfl, rfl⟩
  rw [filter_true] at hc3
  have hL3 := fLc_of (φ := fItems (fSl (fVar 4) (fPart (fC (.int 1))) fNoPart)) (δ := [.dat (.int c), .dat (folkD fs), .dat (.list (tm.map encT)), .dat (frD t), .dat (.list ((done t tm).map encT)), .dat (.list ((rows c fs 0 ((done t tm).map (·.2))).map encR)), .un, .un, .un, .un, .un, .un, .un, .un, .un, .un, .un, .un, .un, .un, .un, .un]) (δ1 := [.dat (.int c), .dat (folkD fs), .dat (.list (tm.map encT)), .dat (frD t), .dat (.list ((done t tm).map encT)), .dat (.list ((rows c fs 0 ((done t tm).map (·.2))).map encR)), .un, .un, .un, .un, .un, .un, .un, .un, .un, .un, .un, .un, .un, .un, .un, .un]) (ds := ((done t tm).drop 1).map encT) (by simp only [e_fItems, e_fUnL, e_fSl, e_fPart, e_fNoPart, e_fVar, e_fC, List.getElem?_cons_zero, List.getElem?_cons_succ, dSl, hcut, itemsOf]) (by rw [List.length_map, List.length_drop]; omega) hc3
  have hends : dAdd (.list (((done t tm).drop 1).map fun r => frD (r.1 : Rat))) (.list [frD t]) = some (.list ((endsL t (done t tm)).map frD)) := by
    have e1 : (((done t tm).drop 1).map fun r => frD (r.1 : Rat)) ++ [frD t] = (endsL t (done t tm)).map frD := by
      unfold endsL
      rw [List.map_append, List.map_map]
      rfl
    have hcl : dCatL (.list (((done t tm).drop 1).map fun r => frD (r.1 : Rat))) (.list [frD t]) = some (.list ((endsL t (done t tm)).map frD)) := by
      unfold dCatL
      dsimp only
      rw [if_pos (by
        rw [List.length_map, List.length_drop]
        show _ + 1 ≤ _
        omega), e1]
    simp only [e_orF, fI0, dCatS, hcl]
  have hck : ∀ x7 : EV, compL [18] (gN 18) fYes (fTup (fCons (fOp dIx (fVar 18) (fC (.int 0))) (fCons (fTup (fCons (fC (.int 0)) (fCons (fC (.int 1)) fNil))) fNil))) (fs.map encF) [.dat (.int c), .dat (folkD fs), .dat (.list (tm.map encT)), .dat (frD t), .dat (.list ((done t tm).map encT)), .dat (.list ((rows c fs 0 ((done t tm).map (·.2))).map encR)), .dat (.list ((endsL t (done t tm)).map frD)), x7, .un, .un, .un, .un, .un, .un, .un, .un, .un, .un, .un, .un, .un, .un] = some (fs.map (fun p => .tuple [.str p.1, .tuple [.int 0, .int 1]]), [.dat (.int c), .dat (folkD fs), .dat (.list (tm.map encT)), .dat (frD t), .dat (.list ((done t tm).map encT)), .dat (.list ((rows c fs 0 ((done t tm).map (·.2))).map encR)), .dat (.list ((endsL t (done t tm)).map frD)), x7, .un, .un, .un, .un, .un, .un, .un, .un, .un, .un, .un, .un, .un, .un]) := fun x7 => by
    have h := compL_enc encF (vs := [18]) (γ := gN 18) (τ := fYes) (ε := fTup (fCons (fOp dIx (fVar 18) (fC (.int 0))) (fCons (fTup (fCons (fC (.int 0)) (fCons (fC (.int 1)) fNil))) fNil))) (δ := [.dat (.int c), .dat (folkD fs), .dat (.list (tm.map encT)), .dat (frD t), .dat (.list ((done t tm).map encT)), .dat (.list ((rows c fs 0 ((done t tm).map (·.2))).map encR)), .dat (.list ((endsL t (done t tm)).map frD)), x7, .un, .un, .un, .un, .un, .un, .un, .un, .un, .un, .un, .un, .un, .un])
      (fun p => [.dat (.int c), .dat (folkD fs), .dat (.list (tm.map encT)), .dat (frD t), .dat (.list ((done t tm).map encT)), .dat (.list ((rows c fs 0 ((done t tm).map (·.2))).map encR)), .dat (.list ((endsL t (done t tm)).map frD)), x7, .un, .un, .un, .un, .un, .un, .un, .un, .un, .un, .dat (encF p), .un, .un, .un]) (fun _ => true) (fun p => .tuple [.str p.1, .tuple [.int 0, .int 1]]) fs fun p _ => ⟨rfl, rfl, fun _ => by
        have i0 : dIx (encF p) (.int 0) = some (.str p.1) := ix_t0
        simp only [e_fTup, e_fCons, e_fNil, e_fOp, e_fVar, e_fC, List.getElem?_cons_zero, List.getElem?_cons_succ, List.length_cons, List.length_nil, i0]
        rw [if_pos (by decide)]
        simp only [List.length_cons, List.length_nil]
        rw [if_pos (by decide)], by (repeat (first | exact back_n | refine back_s rfl ?_ | refine back_o rfl ?_))⟩
    rw [filter_true] at h
    exact h
  obtain ⟨kvs0, hd0, hd1⟩ := dic0 fs hf.nd
  have hdk : ∀ x7 : EV, sOwnD 7 (fDictD (fOfL (fLc (fItems (fVar 1)) [18] (gN 18) fYes (fTup (fCons (fOp dIx (fVar 18) (fC (.int 0))) (fCons (fTup (fCons (fC (.int 0)) (fCons (fC (.int 1)) fNil))) fNil)))))) [.dat (.int c), .dat (folkD fs), .dat (.list (tm.map encT)), .dat (frD t), .dat (.list ((done t tm).map encT)), .dat (.list ((rows c fs 0 ((done t tm).map (·.2))).map encR)), .dat (.list ((endsL t (done t tm)).map frD)), x7, .un, .un, .un, .un, .un, .un, .un, .un, .un, .un, .un, .un, .un, .un] = some (.nx [.dat (.int c), .dat (folkD fs), .dat (.list (tm.map encT)), .dat (frD t), .dat (.list ((done t tm).map encT)), .dat (.list ((rows c fs 0 ((done t tm).map (·.2))).map encR)), .dat (.list ((endsL t (done t tm)).map frD)), .odc (folkDic fs fun _ => frD 0), .un, .un, .un, .un, .un, .un, .un, .un, .un, .un, .un, .un, .un, .un]) := fun x7 => by
    have hL := fLc_of (φ := fItems (fVar 1)) (δ := [.dat (.int c), .dat (folkD fs), .dat (.list (tm.map encT)), .dat (frD t), .dat (.list ((done t tm).map encT)), .dat (.list ((rows c fs 0 ((done t tm).map (·.2))).map encR)), .dat (.list ((endsL t (done t tm)).map frD)), x7, .un, .un, .un, .un, .un, .un, .un, .un, .un, .un, .un, .un, .un, .un]) rfl (by rw [List.length_map]; omega) (hck x7)
    simp only [e_sOwnD, e_fDictD, e_fOfL, hL, hd0, hd1]
    first | done | rfl | (rw [if_pos (by decide)]; rfl) | (rw [if_pos (by decide)])
  have hdk8 : sOwnD 8 (fDictD (fOfL (fLc (fItems (fVar 1)) [18] (gN 18) fYes (fTup (fCons (fOp dIx (fVar 18) (fC (.int 0))) (fCons (fTup (fCons (fC (.int 0)) (fCons (fC (.int 1)) fNil))) fNil)))))) [.dat (.int c), .dat (folkD fs), .dat (.list (tm.map encT)), .dat (frD t), .dat (.list ((done t tm).map encT)), .dat (.list ((rows c fs 0 ((done t tm).map (·.2))).map encR)), .dat (.list ((endsL t (done t tm)).map frD)), .odc (folkDic fs fun _ => frD 0), .un, .un, .un, .un, .un, .un, .un, .un, .un, .un, .un, .un, .un, .un] = some (.nx [.dat (.int c), .dat (folkD fs), .dat (.list (tm.map encT)), .dat (frD t), .dat (.list ((done t tm).map encT)), .dat (.list ((rows c fs 0 ((done t tm).map (·.2))).map encR)), .dat (.list ((endsL t (done t tm)).map frD)), .odc (folkDic fs fun _ => frD 0), .odc (folkDic fs fun _ => frD 0), .un, .un, .un, .un, .un, .un, .un, .un, .un, .un, .un, .un, .un]) := by
    have hL := fLc_of (φ := fItems (fVar 1)) (δ := [.dat (.int c), .dat (folkD fs), .dat (.list (tm.map encT)), .dat (frD t), .dat (.list ((done t tm).map encT)), .dat (.list ((rows c fs 0 ((done t tm).map (·.2))).map encR)), .dat (.list ((endsL t (done t tm)).map frD)), .odc (folkDic fs fun _ => frD 0), .un, .un, .un, .un, .un, .un, .un, .un, .un, .un, .un, .un, .un, .un]) rfl (by rw [List.length_map]; omega) (hck (.odc (folkDic fs fun _ => frD 0)))
    simp only [e_sOwnD, e_fDictD, e_fOfL, hL, hd0, hd1]
    first | done | rfl | (rw [if_pos (by decide)]; rfl) | (rw [if_pos (by decide)])
  -- the loop
  have hix : ∀ z, z ∈ run0 c fs t tm → ZIx t.den (.list ((rows c fs 0 ((done t tm).map (·.2))).map encR)) (.list ((endsL t (done t tm)).map frD)) z := fun z hz => by
    obtain ⟨j, e1, e2, e3⟩ := zs_at c t (done t tm) 0 fs 0 z hz
    rw [Nat.zero_add] at e1
    refine ⟨?_, ?_, zs_e c ht.fq (done t tm) 0 fs 0 hD.hr z hz⟩
    · rw [e1]
      exact atI_nat (by rw [List.getElem?_map, e2]; rfl)
    · rw [e1]
      exact atI_nat (by rw [List.getElem?_map, e3]; rfl)
  obtain ⟨y12, y13, y14, y15, y16, y17, y18, y19, y21, k18, hlo, q1, q2⟩ := lp_loop (N := prodW c fs ((done t tm).map (·.2))) (hd := t.den) p0 p1 d0 ht.dn hf (RUN := .list ((rows c fs 0 ((done t tm).map (·.2))).map encR)) (ENDS := .list ((endsL t (done t tm)).map frD)) (.dat (.int c)) (.dat (.list (tm.map encT))) (.dat (frD t)) (.dat (.list ((done t tm).map encT))) .un (run0 c fs t tm) 0 ⟨0, 0, [], fun _ => 0⟩ .un .un .un .un .un .un .un .un .un rfl rfl rfl zk hix (by rw [List.map_nil, List.nil_append]; exact nd) (by rw [List.map_nil, List.nil_append]; exact n7) (fq_zero _ _) (fun _ _ => fq_zero _ _) (fun x hx => by cases hx) (by omega)
  have hE : (run0 c fs t tm).foldl lstep ⟨0, 0, [], fun _ => 0⟩ = endL c fs t tm := rfl
  rw [hE] at hlo q1 q2
  have hup : (0 + (run0 c fs t tm).length) * KB ≤ 8 * KB := Nat.mul_le_mul_right KB (by omega)
  refine ⟨?_, fq_le q1 hup, fun p hp => fq_le (q2 p hp) hup⟩
  have hnum : numOf (.list ((done t tm).map encT)) = some ((run0 c fs t tm).map encN) := by
    show some (numD 0 ((done t tm).map encT)) = _
    rw [num_zs c t (done t tm) 0 fs 0]
    rfl
  have hF := sFor_of (φ := fUnL numOf (fVar 4)) (δ := [.dat (.int c), .dat (folkD fs), .dat (.list (tm.map encT)), .dat (frD t), .dat (.list ((done t tm).map encT)), .dat (.list ((rows c fs 0 ((done t tm).map (·.2))).map encR)), .dat (.list ((endsL t (done t tm)).map frD)), .odc (fastD fs []), .odc (atD fs fun _ => 0), .dat (frD 0), .dat (frD 0), .dat (.list (strsD (([] : List (Str × Rat)).map (·.1)))), .un, .un, .un, .un, .un, .un, .un, .un, .un, .un]) (by simp only [e_fUnL, e_fVar, List.getElem?_cons_zero, List.getElem?_cons_succ, hnum]) hlo
  have hc9 := compL_enc encF (vs := [18]) (γ := gN 18) (τ := fYes) (ε := fTup (fCons (fOp dIx (fVar 18) (fC (.int 0))) (fCons (fDGetO 8 (fOp dIx (fVar 18) (fC (.int 0)))) fNil))) (δ := [.dat (.int c), .dat (folkD fs), .dat (.list (tm.map encT)), .dat (frD t), .dat (.list ((done t tm).map encT)), .dat (.list ((rows c fs 0 ((done t tm).map (·.2))).map encR)), .dat (.list ((endsL t (done t tm)).map frD)), .odc (fastD fs (endL c fs t tm).O), .odc (atD fs (endL c fs t tm).g), .dat (frD (endL c fs t tm).pace), .dat (frD (endL c fs t tm).here), .dat (.list (strsD ((endL c fs t tm).O.map (·.1)))), y12, y13, y14, y15, y16, y17, y18, y19, .un, y21])
    (fun p => [.dat (.int c), .dat (folkD fs), .dat (.list (tm.map encT)), .dat (frD t), .dat (.list ((done t tm).map encT)), .dat (.list ((rows c fs 0 ((done t tm).map (·.2))).map encR)), .dat (.list ((endsL t (done t tm)).map frD)), .odc (fastD fs (endL c fs t tm).O), .odc (atD fs (endL c fs t tm).g), .dat (frD (endL c fs t tm).pace), .dat (frD (endL c fs t tm).here), .dat (.list (strsD ((endL c fs t tm).O.map (·.1)))), y12, y13, y14, y15, y16, y17, .dat (encF p), y19, .un, y21]) (fun _ => true) (fun p => encO (p.1, (endL c fs t tm).g p.1)) fs fun p hp => ⟨rfl, rfl, fun _ => by
      have i0 : dIx (encF p) (.int 0) = some (.str p.1) := ix_t0
      have hla : lookD (atD fs (endL c fs t tm).g) (.inr p.1) = some (frD ((endL c fs t tm).g p.1)) := fd_look (List.mem_map.mpr ⟨p, hp, rfl⟩)
      simp only [e_fTup, e_fCons, e_fNil, e_fOp, e_fVar, e_fC, e_fDGetO, dicAt, Sm.keyOf, List.getElem?_cons_zero, List.getElem?_cons_succ, List.length_cons, List.length_nil, i0, hla]
      rw [if_pos (by decide)]
      rfl, by (repeat (first | exact back_n | refine back_s rfl ?_ | refine back_o rfl ?_ | refine back_o (by assumption) ?_))⟩
  rw [filter_true] at hc9
  have hL9 := fLc_of (φ := fItems (fVar 1)) (δ := [.dat (.int c), .dat (folkD fs), .dat (.list (tm.map encT)), .dat (frD t), .dat (.list ((done t tm).map encT)), .dat (.list ((rows c fs 0 ((done t tm).map (·.2))).map encR)), .dat (.list ((endsL t (done t tm)).map frD)), .odc (fastD fs (endL c fs t tm).O), .odc (atD fs (endL c fs t tm).g), .dat (frD (endL c fs t tm).pace), .dat (frD (endL c fs t tm).here), .dat (.list (strsD ((endL c fs t tm).O.map (·.1)))), y12, y13, y14, y15, y16, y17, y18, y19, .un, y21]) rfl (by rw [List.length_map]; omega) hc9
  unfold fn__law_places b__law_places
  simp only [runL, List.map_cons, List.map_nil, List.cons_append, List.nil_append, List.replicate_succ, List.replicate_zero]
  rw [seq_of (δ1 := [.dat (.int c), .dat (folkD fs), .dat (.list (tm.map encT)), .dat (frD t), .dat (.list ((done t tm).map encT)), .un, .un, .un, .un, .un, .un, .un, .un, .un, .un, .un, .un, .un, .un, .un, .un, .un]) (by simp only [e_sAsg, e_fOfL, hL1', e_gN, List.set_cons_zero, List.set_cons_succ]),
    seq_of (δ1 := [.dat (.int c), .dat (folkD fs), .dat (.list (tm.map encT)), .dat (frD t), .dat (.list ((done t tm).map encT)), .dat (.list ((rows c fs 0 ((done t tm).map (·.2))).map encR)), .un, .un, .un, .un, .un, .un, .un, .un, .un, .un, .un, .un, .un, .un, .un, .un]) (by
      simp only [e_sAsg, e_fOfL, e_fCall, e_fCons, e_fNil, e_fTup, e_fVar, e_fC, hL2, e_gN, List.getElem?_cons_zero, List.getElem?_cons_succ, List.set_cons_zero, List.set_cons_succ, List.length_cons, List.length_nil]
      rw [if_pos (by decide)]
      simp only [e_fCons, e_fNil, e_fOfL, hL2, hrun', e_gN, List.set_cons_zero, List.set_cons_succ]),
    seq_of (δ1 := [.dat (.int c), .dat (folkD fs), .dat (.list (tm.map encT)), .dat (frD t), .dat (.list ((done t tm).map encT)), .dat (.list ((rows c fs 0 ((done t tm).map (·.2))).map encR)), .dat (.list ((endsL t (done t tm)).map frD)), .un, .un, .un, .un, .un, .un, .un, .un, .un, .un, .un, .un, .un, .un, .un]) (by
      simp only [e_sAsg, e_fOp, e_fOfL, e_fLst, e_fCons, e_fNil, e_fVar, hL3, List.getElem?_cons_zero, List.getElem?_cons_succ, List.length_cons, List.length_nil]
      rw [if_pos (by decide)]
      simp only [hends, e_gN, List.set_cons_zero, List.set_cons_succ]),
    seq_of (hdk .un), seq_of hdk8, seq_of (δ1 := [.dat (.int c), .dat (folkD fs), .dat (.list (tm.map encT)), .dat (frD t), .dat (.list ((done t tm).map encT)), .dat (.list ((rows c fs 0 ((done t tm).map (·.2))).map encR)), .dat (.list ((endsL t (done t tm)).map frD)), .odc (fastD fs []), .odc (atD fs fun _ => 0), .dat (frD 0), .dat (frD 0), .dat (.list (strsD (([] : List (Str × Rat)).map (·.1)))), .un, .un, .un, .un, .un, .un, .un, .un, .un, .un]) rfl, seq_of hF]
  simp only [e_sRetL, e_fAddL, e_fOfL, e_fLst, e_fCons, e_fNil, e_fTup, e_fVar, e_fC, List.getElem?_cons_zero, List.getElem?_cons_succ, List.set_cons_zero, List.set_cons_succ, List.length_cons, List.length_nil]
  rw [if_pos (by decide)]
  simp only [e_fLst, e_fCons, e_fNil, e_fVar, List.getElem?_cons_zero, List.getElem?_cons_succ, List.length_cons, List.length_nil]
  rw [if_pos (by decide)]
  simp only [hL9, List.length_cons, List.length_nil, List.length_map]
  rw [if_pos (by omega)]
  unfold placesLL
  rw [List.map_cons, List.map_map]
  rfl
end Lc
set_option exponentiation.threshold 10000
namespace Lc
open PySem L2 Evl RZ Sm
/-! ### both ways tell the same -/
theorem lookR_lp (p t : Rat) (a : Int) (n : Str) : ∀ ow : List (Str × Rat), lookR (lpOf p t a ow) n = (lookR ow n).map fun x => p + x * (t - (a : Rat))
  | [] => rfl
  | x :: ow => by
    have ih := lookR_lp p t a n ow
    unfold lookR lpOf at ih ⊢
    rw [List.map_cons]
    by_cases h : x.1 = n
    · rw [List.find?_cons_of_pos (by simpa using h), List.find?_cons_of_pos (by simpa using h)]
      rfl
    · rw [List.find?_cons_of_neg (by simpa using h), List.find?_cons_of_neg (by simpa using h)]
      exact ih
theorem rel (c : Int) (t : Rat) : ∀ (tm : List Tm) (i : Nat) (fs : List Fk) (q : Rat) (P : PS) (L : LS), L.here = P.p + P.now * (nxt t tm - (P.since : Rat)) → L.O.map (·.1) = P.LP.map (·.1) → (∀ n x, lookR L.O n = some x → ∃ y, lookR P.LP n = some y ∧ y = L.g n + x * (t - nxt t tm)) → (∀ n, lookR L.O n = none → L.g n = L.here) →
    ((zs c t i fs q tm).foldl lstep L).here = ((zs c t i fs q tm).foldl (pstep t) P).p + ((zs c t i fs q tm).foldl (pstep t) P).now * (t - (((zs c t i fs q tm).foldl (pstep t) P).since : Rat)) ∧
    ∀ n, (lookR ((zs c t i fs q tm).foldl (pstep t) P).LP n).getD ((zs c t i fs q tm).foldl lstep L).here = ((zs c t i fs q tm).foldl lstep L).g n
  | [], i, fs, q, P, L, h2, h3, h4, h5 => by
    refine ⟨h2, fun n => ?_⟩
    show (lookR P.LP n).getD L.here = L.g n
    cases h : lookR L.O n with
    | none =>
      have h' : lookR P.LP n = none := lookR_none.mpr (by rw [← h3]; exact lookR_none.mp h)
      rw [h', h5 n h]
      rfl
    | some x =>
      obtain ⟨y, e1, e2⟩ := h4 n x h
      rw [e1, Option.getD_some, e2]
      show L.g n + x * (t - t) = L.g n
      grind
  | r :: rs, i, fs, q, P, L, h2, h3, h4, h5 => by
    rw [zs_cons, List.foldl_cons, List.foldl_cons]
    have h2' : L.here = P.p + P.now * ((r.1 : Rat) - (P.since : Rat)) := h2
    have on := own_names fs (dr c fs q r.2) r.2
    refine rel c t rs (i + 1) (left fs (r.2.map (·.1))) (dr c fs q r.2) _ _ ?_ ?_ (fun n x hx => ?_) (fun n hn => ?_)
    · show L.here + dr c fs q r.2 * (nxt t rs - (r.1 : Rat)) = P.p + P.now * ((r.1 : Rat) - (P.since : Rat)) + dr c fs q r.2 * (nxt t rs - (r.1 : Rat))
      rw [h2']
    · show (L.O ++ own fs (dr c fs q r.2) r.2).map (·.1) = (P.LP ++ lpOf _ t r.1 (own fs (dr c fs q r.2) r.2)).map (·.1)
      rw [List.map_append, List.map_append, lp_names, h3]
    · have hx' : lookR (L.O ++ own fs (dr c fs q r.2) r.2) n = some x := hx
      show ∃ y, lookR (P.LP ++ lpOf (P.p + P.now * ((r.1 : Rat) - (P.since : Rat))) t r.1 (own fs (dr c fs q r.2) r.2)) n = some y ∧ y = L.g n + (lookR (L.O ++ own fs (dr c fs q r.2) r.2) n).getD (dr c fs q r.2) * (nxt t rs - (r.1 : Rat)) + x * (t - nxt t rs)
      rw [hx', Option.getD_some, lookR_app, lookR_lp]
      rw [lookR_app] at hx'
      cases h : lookR L.O n with
      | some x0 =>
        rw [h] at hx'
        cases hx'
        obtain ⟨y, e1, e2⟩ := h4 n x h
        refine ⟨y, by rw [e1]; rfl, ?_⟩
        have e2' : y = L.g n + x * (t - (r.1 : Rat)) := e2
        rw [e2']
        grind
      | none =>
        rw [h] at hx'
        have hx2 : lookR (own fs (dr c fs q r.2) r.2) n = some x := hx'
        have h' : lookR P.LP n = none := lookR_none.mpr (by rw [← h3]; exact lookR_none.mp h)
        refine ⟨P.p + P.now * ((r.1 : Rat) - (P.since : Rat)) + x * (t - (r.1 : Rat)), by rw [h', hx2]; rfl, ?_⟩
        rw [h5 n h, h2']
        grind
    · have hn' : lookR (L.O ++ own fs (dr c fs q r.2) r.2) n = none := hn
      have h : lookR L.O n = none := by
        rw [lookR_app] at hn'
        cases h : lookR L.O n with
        | none => rfl
        | some x =>
          rw [h] at hn'
          cases hn'
      show L.g n + (lookR (L.O ++ own fs (dr c fs q r.2) r.2) n).getD (dr c fs q r.2) * (nxt t rs - (r.1 : Rat)) = L.here + dr c fs q r.2 * (nxt t rs - (r.1 : Rat))
      rw [hn', h5 n h]
      rfl
theorem lookR_nil (n : Str) : lookR [] n = none := rfl
theorem same_places (c : Int) (fs : List Fk) (t : Rat) (tm : List Tm) : placesL c fs t tm = placesLL c fs t tm := by
  obtain ⟨h1, h2⟩ := rel c t (done t tm) 0 fs 0 ⟨0, 0, 0, []⟩ ⟨0, 0, [], fun _ => 0⟩ (by
    show (0 : Rat) = 0 + 0 * _
    grind) rfl (fun n x hx => by cases hx) (fun n _ => rfl)
  have e1 : (endL c fs t tm).here = cartP c fs t tm := h1
  unfold placesL placesLL
  rw [e1]
  congr 1
  refine List.map_congr_left fun p _ => ?_
  have := h2 p.1
  have e2 : (lookR (endP c fs t tm).LP p.1).getD (endL c fs t tm).here = (endL c fs t tm).g p.1 := this
  rw [e1] at e2
  rw [e2]
/-! ### weights times places come to nought -/
def mass (F : List Fk) (f : Str → Rat) : Rat := sumR (F.map fun p => f p.1 * ((p.2.1 : Int) : Rat))
theorem mass_add (F : List Fk) (f g : Str → Rat) : mass F (fun n => f n + g n) = mass F f + mass F g := by
  unfold mass
  rw [← sumR_add]
  congr 1
  exact List.map_congr_left fun p _ => Rat.add_mul _ _ _
theorem mass_mul (F : List Fk) (f : Str → Rat) (L : Rat) : mass F (fun n => f n * L) = mass F f * L := by
  unfold mass
  rw [Rat.mul_comm, sumR_mul, List.map_map]
  congr 1
  refine List.map_congr_left fun p _ => ?_
  show f p.1 * L * _ = L * (f p.1 * _)
  grind
theorem mass_zero (F : List Fk) : mass F (fun _ => 0) = 0 := by
  unfold mass
  induction F with
  | nil => rfl
  | cons p F ih =>
    rw [List.map_cons]
    show 0 * _ + sumR _ = 0
    rw [ih, Rat.zero_mul, Rat.add_zero]
theorem mass_single {n : Str} {x : Rat} : ∀ {F : List Fk} {e : Fk}, (F.map (·.1)).Nodup → entry F n = some e → mass F (fun m => if m = n then x else 0) = x * ((e.2.1 : Int) : Rat)
  | [], _, _, h => by cases h
  | p :: F, e, nd, h => by
    rw [List.map_cons, List.nodup_cons] at nd
    unfold entry at h
    show (if p.1 = n then x else 0) * _ + mass F (fun m => if m = n then x else 0) = _
    by_cases hp : p.1 = n
    · rw [List.find?_cons_of_pos (by simpa using hp)] at h
      cases h
      rw [if_pos hp]
      have : mass F (fun m => if m = n then x else 0) = mass F (fun _ => 0) := by
        unfold mass
        congr 1
        refine List.map_congr_left fun q hq => ?_
        show (if q.1 = n then x else 0) * _ = 0 * _
        rw [if_neg (show ¬ q.1 = n from fun z => nd.1 (by rw [hp, ← z]; exact List.mem_map.mpr ⟨q, hq, rfl⟩))]
      rw [this, mass_zero, Rat.add_zero]
    · rw [List.find?_cons_of_neg (by simpa using hp)] at h
      rw [if_neg hp, mass_single nd.2 h, Rat.zero_mul, Rat.zero_add]
theorem mass_look {F : List Fk} (hF : (F.map (·.1)).Nodup) : ∀ (O : List (Str × Rat)), (O.map (·.1)).Nodup → (∀ n, n ∈ O.map (·.1) → n ∈ F.map (·.1)) → mass F (fun n => (lookR O n).getD 0) = sumR (O.map (term F))
  | [], _, _ => mass_zero F
  | (n, x) :: O, nd, hm => by
    rw [List.map_cons, List.nodup_cons] at nd
    have ih := mass_look hF O nd.2 fun m hm' => hm m (List.mem_cons_of_mem _ hm')
    obtain ⟨e, he, _, _⟩ := entry_some (hm n List.mem_cons_self)
    have hl : ∀ m, (lookR ((n, x) :: O) m).getD 0 = (if m = n then x else 0) + (lookR O m).getD 0 := fun m => by
      by_cases h : m = n
      · subst h
        have h0 : lookR O m = none := lookR_none.mpr nd.1
        have h1 : lookR ((m, x) :: O) m = some x := by
          unfold lookR
          rw [List.find?_cons_of_pos (by simp)]
          rfl
        rw [h0, h1, if_pos rfl]
        show x = x + 0
        rw [Rat.add_zero]
      · have h1 : lookR ((n, x) :: O) m = lookR O m := by
          unfold lookR
          rw [List.find?_cons_of_neg (by simpa using fun z => h z.symm)]
        rw [h1, if_neg h, Rat.zero_add]
    rw [show (fun m => (lookR ((n, x) :: O) m).getD 0) = fun m => (if m = n then x else 0) + (lookR O m).getD 0 from funext hl, mass_add, mass_single hF he, ih]
    show _ = term F (n, x) + _
    unfold term hvy
    rw [he]
theorem left_mass (c : Int) (O : List (Str × Rat)) : ∀ F : List Fk, mass F (fun n => if lookR O n = none then 1 else 0) = ((wgt c (left F (O.map (·.1))) - c : Int) : Rat)
  | [] => by
    show (0 : Rat) = _
    have : wgt c (left [] (O.map (·.1))) - c = 0 := by
      show c + 0 - c = 0
      omega
    rw [this]
    rfl
  | p :: F => by
    have ih := left_mass c O F
    show (if lookR O p.1 = none then (1 : Rat) else 0) * ((p.2.1 : Int) : Rat) + mass F (fun n => if lookR O n = none then 1 else 0) = _
    rw [ih]
    unfold left
    by_cases h : lookR O p.1 = none
    · have hn := lookR_none.mp h
      rw [if_pos h, List.filter_cons_of_pos (p := fun p : Fk => !(O.map (·.1)).contains p.1) (by simpa using hn), Rat.one_mul, ← Rat.intCast_add]
      congr 1
      unfold wgt
      rw [List.map_cons, List.sum_cons]
      omega
    · have hn : p.1 ∈ O.map (·.1) := Classical.byContradiction fun z => h (lookR_none.mpr z)
      rw [if_neg h, List.filter_cons_of_neg (p := fun p : Fk => !(O.map (·.1)).contains p.1) (by simpa using hn), Rat.zero_mul, Rat.zero_add]
theorem mass_mom {F : List Fk} (hF : (F.map (·.1)).Nodup) (c : Int) {O : List (Str × Rat)} (nd : (O.map (·.1)).Nodup) (hm : ∀ n, n ∈ O.map (·.1) → n ∈ F.map (·.1)) (v : Rat) : v * (c : Rat) + mass F (fun n => (lookR O n).getD v) = v * ((wgt c (left F (O.map (·.1))) : Int) : Rat) + sumR (O.map (term F)) := by
  have e : (fun n => (lookR O n).getD v) = fun n => (lookR O n).getD 0 + (if lookR O n = none then 1 else 0) * v := funext fun n => by
    cases lookR O n with
    | none =>
      rw [if_pos rfl]
      show v = 0 + 1 * v
      grind
    | some x =>
      rw [if_neg (fun z => nomatch z)]
      show x = x + 0 * v
      grind
  rw [e, mass_add, mass_mul, mass_look hF O nd hm, left_mass c O F, Rat.intCast_sub]
  grind
theorem nought {c : Int} (hc : 1 ≤ c ∧ c ≤ 1000) {F : List Fk} (hF : OkF F) (t : Rat) : ∀ (tm : List Tm) (i : Nat) (fs : List Fk) (q : Rat) (L : LS), OkF fs → OkLs fs (tm.map (·.2)) → Rest F fs → fs = left F (L.O.map (·.1)) → (L.O.map (·.1) ++ namesOf (tm.map (·.2))).Nodup → (∀ n, n ∈ L.O.map (·.1) → n ∈ F.map (·.1)) →
    q * ((wgt c fs : Int) : Rat) + sumR (L.O.map (term F)) = 0 → L.here * (c : Rat) + mass F L.g = 0 →
    ((zs c t i fs q tm).foldl lstep L).here * (c : Rat) + mass F ((zs c t i fs q tm).foldl lstep L).g = 0
  | [], _, _, _, _, _, _, _, _, _, _, _, h => h
  | r :: rs, i, fs, q, L, hf, hl, hr, hfs, nd, hin, hm, h => by
    rw [List.map_cons] at hl nd
    rw [namesOf_cons, ← List.append_assoc] at nd
    obtain ⟨nd1, nd2, nd3⟩ := List.nodup_append.mp nd
    rw [zs_cons, List.foldl_cons]
    have hs := step_keeps (q := q) hc hf hl.1 hr
    have on := own_names fs (dr c fs q r.2) r.2
    have hfs' : left fs (r.2.map (·.1)) = left F ((L.O ++ own fs (dr c fs q r.2) r.2).map (·.1)) := by
      rw [hfs, left_left, List.map_append, ← hfs, on]
    have hin' : ∀ n, n ∈ (L.O ++ own fs (dr c fs q r.2) r.2).map (·.1) → n ∈ F.map (·.1) := fun n hn => by
      rw [List.map_append, on] at hn
      rcases List.mem_append.mp hn with z | z
      · exact hin n z
      · obtain ⟨p, hp, e⟩ := List.mem_map.mp z
        rw [← e]
        exact (hl.1.up hr).nm p hp
    have nd1' : ((L.O ++ own fs (dr c fs q r.2) r.2).map (·.1)).Nodup := by
      rw [List.map_append, on]
      exact nd1
    have hm' : dr c fs q r.2 * ((wgt c (left fs (r.2.map (·.1))) : Int) : Rat) + sumR ((L.O ++ own fs (dr c fs q r.2) r.2).map (term F)) = 0 := by
      rw [List.map_append, sumR_app]
      grind
    refine nought hc hF t rs (i + 1) (left fs (r.2.map (·.1))) (dr c fs q r.2) (lstep L ⟨i, r.1, r.2, dr c fs q r.2, own fs (dr c fs q r.2) r.2, nxt t rs⟩) (left_ok hf _) hl.2 (hr.left _) hfs' ?_ hin' hm' ?_
    · show ((L.O ++ own fs (dr c fs q r.2) r.2).map (·.1) ++ _).Nodup
      rw [List.map_append, on]
      exact nd
    · have hmom := mass_mom hF.nd c nd1' hin' (dr c fs q r.2)
      rw [← hfs', hm'] at hmom
      show (L.here + dr c fs q r.2 * (nxt t rs - (r.1 : Rat))) * (c : Rat) + mass F (fun n => L.g n + (lookR (L.O ++ own fs (dr c fs q r.2) r.2) n).getD (dr c fs q r.2) * (nxt t rs - (r.1 : Rat))) = 0
      rw [mass_add, mass_mul]
      have : dr c fs q r.2 * (nxt t rs - (r.1 : Rat)) * (c : Rat) + mass F (fun n => (lookR (L.O ++ own fs (dr c fs q r.2) r.2) n).getD (dr c fs q r.2)) * (nxt t rs - (r.1 : Rat)) = (dr c fs q r.2 * (c : Rat) + mass F (fun n => (lookR (L.O ++ own fs (dr c fs q r.2) r.2) n).getD (dr c fs q r.2))) * (nxt t rs - (r.1 : Rat)) := by grind
      rw [hmom] at this
      grind
theorem end_nought {c : Int} {fs : List Fk} {tm : List Tm} {t : Rat} (hc : 1 ≤ c ∧ c ≤ 1000) (hf : OkF fs) (hT : OkT fs tm) : (endL c fs t tm).here * (c : Rat) + mass fs (endL c fs t tm).g = 0 := by
  have hD : OkT fs (done t tm) := hT.sub List.filter_sublist
  refine nought hc hf t (done t tm) 0 fs 0 ⟨0, 0, [], fun _ => 0⟩ hf hD.ls (rest_refl fs) (left_nil fs).symm (by rw [List.map_nil, List.nil_append]; exact hD.nd) (fun n hn => by cases hn) ?_ ?_
  · show (0 : Rat) * _ + 0 = 0
    grind
  · show (0 : Rat) * _ + mass fs (fun _ => 0) = 0
    rw [mass_zero]
    grind
end Lc
namespace Lc
open PySem L2 Evl RZ Sm
noncomputable def b_law : FS :=
    (sSeq (sFor (fRange (fOp dAdd (fC (.int 1)) (fMin (fUn dLen (fVar 0)) (fC (.int 15))))) (gN 1) (sSeq (sOwn 2 (fCallL fn__law_bag (fCons (fVar 0) (fCons (fVar 1) fNil))))
    (sSeq (sPar 3 4 (fCons (fCallB fn__law_cart 2 fNil) (fCons (fCallB fn__law_folk 2 (fCons (fC (.int 7)) fNil)) fNil)))
    (sSeq (sAsg (fCallB fn__law_timed 2 (fCons (fVar 4) fNil)) (gN 5))
    (sSeq (sAsg (fOfL (fLst (fCons (fTup (fCons (fC (.int 0)) (fCons (fC (.int 1)) fNil))) (fCons (fTup (fCons (fC (.int 2000)) (fCons (fC (.int 1)) fNil))) (fCons (fCall fn__law_lowest (fCons (fCallB fn__law_take 2 (fCons (fC (.int 400)) fNil)) (fCons (fOp dAdd (fC (.int 1)) (fCallB fn__law_take 2 (fCons (fC (.int 5)) fNil))) fNil))) fNil))))) (gN 6))
    (sFor (fItems (fOp dAdd (fVar 6) (fOfL (fLc (fItems (fSl (fVar 5) fNoPart (fPart (fC (.int 3))))) [11] (gN 11) fYes (fTup (fCons (fOp dIx (fVar 11) (fC (.int 0))) (fCons (fC (.int 1)) fNil))))))) (gN 7) (sSeq (sOwn 8 (fCallL fn_places (fCons (fVar 3) (fCons (fVar 4) (fCons (fVar 5) (fCons (fVar 7) fNil))))))
    (sSeq (sIf (fTest (fOpO dNe 8 (fOfL (fCallL fn__law_places (fCons (fVar 3) (fCons (fVar 4) (fCons (fVar 5) (fCons (fVar 7) fNil)))))))) (sRet (fC (.bool false))) sNx)
    (sSeq (sAsg (fCall fn__law_times (fCons (fOp dIx (fIxO 8 (fC (.int 0))) (fC (.int 1))) (fCons (fVar 3) fNil))) (gN 9))
    (sSeq (sFor (fZipB (fVar 4) (fSlO 8 (fPart (fC (.int 1))) fNoPart)) (gTp 2 (gCs (gN 10) (gCs (gN 11) gNl))) (sAsg (fCall fn__law_plus (fCons (fVar 9) (fCons (fCall fn__law_times (fCons (fOp dIx (fVar 11) (fC (.int 1))) (fCons (fOp dIx (fVar 10) (fC (.int 1))) fNil))) fNil))) (gN 9)))
    (sSeq (sIf (fTest (fOp dNe (fVar 9) (fTup (fCons (fC (.int 0)) (fCons (fC (.int 1)) fNil))))) (sRet (fC (.bool false))) sNx)
    (sSeq (sApp 8 (fC (.str "more")))
    (sIf (fTest (fOp dNe (fOfL (fCallL fn_places (fCons (fVar 3) (fCons (fVar 4) (fCons (fVar 5) (fCons (fVar 7) fNil)))))) (fSlO 8 fNoPart (fPart (fUn dNeg (fC (.int 1))))))) (sRet (fC (.bool false))) sNx)))))))))))))
    (sRet (fC (.bool true))))
noncomputable def fn_law : List PyData → Option PyData := runD 11 b_law
end Lc
set_option exponentiation.threshold 10000
set_option maxHeartbeats 2000000
namespace Lc
open PySem L2 Evl RZ Sm
noncomputable def lawIn : FS := (sSeq (sOwn 8 (fCallL fn_places (fCons (fVar 3) (fCons (fVar 4) (fCons (fVar 5) (fCons (fVar 7) fNil))))))
    (sSeq (sIf (fTest (fOpO dNe 8 (fOfL (fCallL fn__law_places (fCons (fVar 3) (fCons (fVar 4) (fCons (fVar 5) (fCons (fVar 7) fNil)))))))) (sRet (fC (.bool false))) sNx)
    (sSeq (sAsg (fCall fn__law_times (fCons (fOp dIx (fIxO 8 (fC (.int 0))) (fC (.int 1))) (fCons (fVar 3) fNil))) (gN 9))
    (sSeq (sFor (fZipB (fVar 4) (fSlO 8 (fPart (fC (.int 1))) fNoPart)) (gTp 2 (gCs (gN 10) (gCs (gN 11) gNl))) (sAsg (fCall fn__law_plus (fCons (fVar 9) (fCons (fCall fn__law_times (fCons (fOp dIx (fVar 11) (fC (.int 1))) (fCons (fOp dIx (fVar 10) (fC (.int 1))) fNil))) fNil))) (gN 9)))
    (sSeq (sIf (fTest (fOp dNe (fVar 9) (fTup (fCons (fC (.int 0)) (fCons (fC (.int 1)) fNil))))) (sRet (fC (.bool false))) sNx)
    (sSeq (sApp 8 (fC (.str "more")))
    (sIf (fTest (fOp dNe (fOfL (fCallL fn_places (fCons (fVar 3) (fCons (fVar 4) (fCons (fVar 5) (fCons (fVar 7) fNil)))))) (fSlO 8 fNoPart (fPart (fUn dNeg (fC (.int 1))))))) (sRet (fC (.bool false))) sNx)))))))
noncomputable def lawOut : FS := (sSeq (sOwn 2 (fCallL fn__law_bag (fCons (fVar 0) (fCons (fVar 1) fNil))))
    (sSeq (sPar 3 4 (fCons (fCallB fn__law_cart 2 fNil) (fCons (fCallB fn__law_folk 2 (fCons (fC (.int 7)) fNil)) fNil)))
    (sSeq (sAsg (fCallB fn__law_timed 2 (fCons (fVar 4) fNil)) (gN 5))
    (sSeq (sAsg (fOfL (fLst (fCons (fTup (fCons (fC (.int 0)) (fCons (fC (.int 1)) fNil))) (fCons (fTup (fCons (fC (.int 2000)) (fCons (fC (.int 1)) fNil))) (fCons (fCall fn__law_lowest (fCons (fCallB fn__law_take 2 (fCons (fC (.int 400)) fNil)) (fCons (fOp dAdd (fC (.int 1)) (fCallB fn__law_take 2 (fCons (fC (.int 5)) fNil))) fNil))) fNil))))) (gN 6))
    (sFor (fItems (fOp dAdd (fVar 6) (fOfL (fLc (fItems (fSl (fVar 5) fNoPart (fPart (fC (.int 3))))) [11] (gN 11) fYes (fTup (fCons (fOp dIx (fVar 11) (fC (.int 0))) (fCons (fC (.int 1)) fNil))))))) (gN 7) lawIn)))))
theorem law_body_eq : b_law = sSeq (sFor (fRange (fOp dAdd (fC (.int 1)) (fMin (fUn dLen (fVar 0)) (fC (.int 15))))) (gN 1) lawOut) (sRet (fC (.bool true))) := rfl
theorem ne_fr0 : dNe (frD 0) (.tuple [.int 0, .int 1]) = some (.bool false) := ne_sameT (k := 1) (sh_frD 0) (by omega)
def encZ (g : Str → Rat) (p : Fk) : PyData := .tuple [encF p, encO (p.1, g p.1)]
theorem zip_fg (g : Str → Rat) : ∀ fs : List Fk, List.zipWith (fun x y => PyData.tuple [x, y]) (fs.map encF) ((fs.map fun p => (p.1, g p.1)).map encO) = fs.map (encZ g)
  | [] => rfl
  | p :: fs => by
    rw [List.map_cons, List.map_cons, List.map_cons, List.zipWith_cons_cons, zip_fg g fs]
    rfl
def TB : Nat := 100000000000000
theorem tb_kb : 8 * KB * 200 ≤ TB := by decide +kernel
theorem tb_up (i : Nat) : i * TB + 8 * KB * 200 ≤ (i + 1) * TB := by
  have h := tb_kb
  generalize 8 * KB * 200 = x at h
  generalize TB = y at h
  rw [Nat.succ_mul]
  omega
theorem total_loop {M : Nat} (hM0 : 0 < M) (hM : M ≤ 2 ^ 87) {g : Str → Rat} (a0 a1 a2 a3 a4 a5 a6 a7 a8 : EV) : ∀ (P : List Fk) (i : Nat) (s : Rat) (x10 x11 : EV), x11.mine = false → (∀ p, p ∈ P → 1 ≤ p.2.1 ∧ p.2.1 ≤ 200 ∧ Fq M (8 * KB) (g p.1)) → Fq M (i * TB) s → i + P.length ≤ 9 →
    ∃ y10 y11, y11.mine = false ∧ loopF (gTp 2 (gCs (gN 10) (gCs (gN 11) gNl))) (sAsg (fCall fn__law_plus (fCons (fVar 9) (fCons (fCall fn__law_times (fCons (fOp dIx (fVar 11) (fC (.int 1))) (fCons (fOp dIx (fVar 10) (fC (.int 1))) fNil))) fNil))) (gN 9)) (P.map (encZ g)) [a0, a1, a2, a3, a4, a5, a6, a7, a8, .dat (frD s), x10, x11] = some (.nx [a0, a1, a2, a3, a4, a5, a6, a7, a8, .dat (frD (s + mass P g)), y10, y11]) := by
  intro P
  induction P with
  | nil =>
    intro i s x10 x11 h11 _ _ _
    exact ⟨x10, x11, h11, by
      show some (Out.nx _) = some (Out.nx [a0, a1, a2, a3, a4, a5, a6, a7, a8, .dat (frD (s + 0)), x10, x11])
      rw [Rat.add_zero]⟩
  | cons p P ih0 =>
    intro i s x10 x11 h11 hp hs hi
    rw [List.length_cons] at hi
    obtain ⟨h1, h2, h3⟩ := hp p List.mem_cons_self
    have p87 : (2 : Nat) ^ 87 < 2 ^ 200 := Nat.pow_lt_pow_right (by decide) (by decide)
    have bd : ∀ {B : Nat} {q : Rat}, Fq M B q → B ≤ 2 ^ 100 → Bd 200 q := fun {B q} h hB => fq_bd h hM0 (by omega) (by
      have := Nat.mul_le_mul hB hM
      rw [← Nat.pow_add] at this
      have p187 : (2 : Nat) ^ (100 + 87) < 2 ^ 200 := Nat.pow_lt_pow_right (by decide) (by decide)
      omega)
    have hgb := bd h3 (by decide +kernel)
    have ht := ltimes_eq (q := g p.1) (i := p.2.1) (bd_le hgb (by omega)) (pow20 (by omega) 3000 (by omega))
    have hft : Fq M (8 * KB * 200) (g p.1 * ((p.2.1 : Int) : Rat)) := by
      have := fq_mul h3 (fq_int (i := p.2.1) (B := 200) (by omega))
      rw [Nat.mul_one] at this
      exact this
    have hsb := bd hs (Nat.le_trans (Nat.mul_le_mul_right TB (show i ≤ 9 by omega)) (by decide +kernel))
    have hpl := lplus_eq (bd_le hsb (show 200 ≤ 3000 by omega)) (bd_le (bd hft (by decide +kernel)) (show 200 ≤ 3000 by omega))
    have hs' : Fq M ((i + 1) * TB) (s + g p.1 * ((p.2.1 : Int) : Rat)) := fq_le (fq_add hs hft) (by
      exact tb_up i)
    obtain ⟨y10, y11, g11, ih⟩ := ih0 (i + 1) _ (.dat (encF p)) (.dat (encO (p.1, g p.1))) rfl (fun q hq => hp q (List.mem_cons_of_mem _ hq)) hs' (by omega)
    refine ⟨y10, y11, g11, ?_⟩
    rw [List.map_cons]
    unfold loopF
    have i1 : dIx (encO (p.1, g p.1)) (.int 1) = some (frD (g p.1)) := ix_t1
    have i2 : dIx (encF p) (.int 1) = some (.int p.2.1) := ix_t1
    have hg : gTp 2 (gCs (gN 10) (gCs (gN 11) gNl)) (encZ g p) [a0, a1, a2, a3, a4, a5, a6, a7, a8, .dat (frD s), x10, x11] = some [a0, a1, a2, a3, a4, a5, a6, a7, a8, .dat (frD s), .dat (encF p), .dat (encO (p.1, g p.1))] := rfl
    have hb : (sAsg (fCall fn__law_plus (fCons (fVar 9) (fCons (fCall fn__law_times (fCons (fOp dIx (fVar 11) (fC (.int 1))) (fCons (fOp dIx (fVar 10) (fC (.int 1))) fNil))) fNil))) (gN 9)) [a0, a1, a2, a3, a4, a5, a6, a7, a8, .dat (frD s), .dat (encF p), .dat (encO (p.1, g p.1))] = some (.nx [a0, a1, a2, a3, a4, a5, a6, a7, a8, .dat (frD (s + g p.1 * ((p.2.1 : Int) : Rat))), .dat (encF p), .dat (encO (p.1, g p.1))]) := by
      simp only [e_sAsg, e_fCall, e_fCons, e_fNil, e_fOp, e_fVar, e_fC, e_gN, List.getElem?_cons_zero, List.getElem?_cons_succ, List.set_cons_zero, List.set_cons_succ, i1, i2, ht, hpl]
    rw [hg]
    dsimp only
    rw [hb]
    dsimp only
    rw [ih]
    show some (Out.nx _) = some (Out.nx [a0, a1, a2, a3, a4, a5, a6, a7, a8, .dat (frD (s + (g p.1 * ((p.2.1 : Int) : Rat) + mass P g))), y10, y11])
    rw [Rat.add_assoc]
section
variable {ns : List Int} {k c : Int} {b : List PyData} {fs : List Fk} {tm : List Tm} {t : Rat}
theorem in_ok (hc : 1 ≤ c ∧ c ≤ 1000) (hf : OkF fs) (hT : OkT fs tm) (ht : HOk t) (hnm : ∀ p, p ∈ fs → Nm p.1) (x6 x8 x9 x10 x11 : EV) (h11 : x11.mine = false) : ∃ y8 y9 y10 y11, y11.mine = false ∧ lawIn [.dat (scrD ns), .dat (.int k), .own b, .dat (.int c), .dat (folkD fs), .dat (.list (tm.map encT)), x6, .dat (frD t), x8, x9, x10, x11] = some (.nx [.dat (scrD ns), .dat (.int k), .own b, .dat (.int c), .dat (folkD fs), .dat (.list (tm.map encT)), x6, .dat (frD t), y8, y9, y10, y11]) := by
  have hpl := places_eq hc hf hT ht
  obtain ⟨hll, hq1, hq2⟩ := lawplaces_eq hc hf hT ht
  rw [same_places] at hpl
  obtain ⟨p0, p1, _, _, _, _, _⟩ := run0_ok (t := t) hc hf hT
  have d0 := t.den_pos
  have d8 := ht.dn
  have hM0 : 0 < prodW c fs ((done t tm).map (·.2)) * t.den := Nat.mul_pos p0 d0
  have hM : prodW c fs ((done t tm).map (·.2)) * t.den ≤ 2 ^ 87 := by
    have := Nat.mul_le_mul p1 (show t.den ≤ 2 ^ 3 by omega)
    rw [← Nat.pow_add] at this
    exact this
  have hz := end_nought (t := t) hc hf hT
  have hfl := hf.len
  have hvs := hf.hv
  generalize hM' : prodW c fs ((done t tm).map (·.2)) * t.den = M at *
  have nE : Nm "" := by
    show PyData.canLay0 (.str "") = true
    decide +kernel
  have sh : Sh 3 (.list ((placesLL c fs t tm).map encO)) := sh_lst (k := 2) (sh_map fun p hp => sh_encO (by
    unfold placesLL at hp
    rcases List.mem_cons.mp hp with rfl | hp
    · exact nE
    · obtain ⟨q, hq, rfl⟩ := List.mem_map.mp hp
      exact hnm q hq))
  have ne1 := ne_same sh (by omega)
  have hlen : (placesLL c fs t tm).length = fs.length + 1 := by
    unfold placesLL
    rw [List.length_cons, List.length_map]
  have hPL : (placesLL c fs t tm).map encO = encO ("", (endL c fs t tm).here) :: (fs.map fun p => (p.1, (endL c fs t tm).g p.1)).map encO := rfl
  have hcl := cut_last ((placesLL c fs t tm).map encO) (.str "more")
  have hdr := cut_from ((placesLL c fs t tm).map encO) (m := 1) (by decide)
  rw [show (1 : Int).toNat = 1 from rfl] at hdr
  have hdr' : ((placesLL c fs t tm).map encO).drop 1 = (fs.map fun p => (p.1, (endL c fs t tm).g p.1)).map encO := rfl
  have hat0 : atI ((placesLL c fs t tm).map encO) 0 = some (encO ("", (endL c fs t tm).here)) := atI_nat (j := 0) rfl
  have hzip : zipAny (folkD fs) (.list (((placesLL c fs t tm).map encO).drop 1)) = some (fs.map (encZ (endL c fs t tm).g)) := by
    rw [hdr']
    show some (List.zipWith (fun x y => PyData.tuple [x, y]) (fs.map encF) _) = _
    rw [zip_fg]
  have hll50 : ((placesLL c fs t tm).map encO).length < 50000 := by
    rw [List.length_map, hlen]
    omega
  have i1 : dIx (encO ("", (endL c fs t tm).here)) (.int 1) = some (frD (endL c fs t tm).here) := ix_t1
  generalize hX : (placesLL c fs t tm).map encO = X at *
  generalize hHr : (endL c fs t tm).here = hr at *
  have p87 : (2 : Nat) ^ 87 < 2 ^ 200 := Nat.pow_lt_pow_right (by decide) (by decide)
  have hhb : Bd 200 hr := fq_bd hq1 hM0 (by omega) (by
    have := Nat.mul_le_mul (show 8 * KB ≤ 2 ^ 100 by decide +kernel) hM
    rw [← Nat.pow_add] at this
    have p187 : (2 : Nat) ^ (100 + 87) < 2 ^ 200 := Nat.pow_lt_pow_right (by decide) (by decide)
    omega)
  have hti := ltimes_eq (q := hr) (i := c) (bd_le hhb (by omega)) (pow20 (by omega) 3000 (by omega))
  have hfs0 : Fq M (1 * TB) (hr * (c : Rat)) := by
    have := fq_mul hq1 (fq_int (i := c) (B := 1000) (by omega))
    rw [Nat.mul_one] at this
    exact fq_le this (by decide +kernel)
  obtain ⟨y10, y11, g11, hlo⟩ := total_loop hM0 hM (g := (endL c fs t tm).g) (.dat (scrD ns)) (.dat (.int k)) (.own b) (.dat (.int c)) (.dat (folkD fs)) (.dat (.list (tm.map encT))) x6 (.dat (frD t)) (.own X) fs 1 (hr * (c : Rat)) x10 x11 h11 (fun p hp => ⟨(hvs p hp).1, (hvs p hp).2.1, hq2 p hp⟩) hfs0 (by omega)
  rw [hz] at hlo
  have hF := sFor_of (φ := fZipB (fVar 4) (fSlO 8 (fPart (fC (.int 1))) fNoPart)) (δ := [.dat (scrD ns), .dat (.int k), .own b, .dat (.int c), .dat (folkD fs), .dat (.list (tm.map encT)), x6, .dat (frD t), .own X, .dat (frD (hr * (c : Rat))), x10, x11]) (by simp only [e_fZipB, e_fVar, e_fSlO, e_fPart, e_fNoPart, e_fC, ownAt, EV.cont, List.getElem?_cons_zero, List.getElem?_cons_succ, hdr, hzip]) hlo
  refine ⟨.own (X ++ [.str "more"]), .dat (frD 0), y10, y11, g11, ?_⟩
  unfold lawIn
  rw [seq_of (δ1 := [.dat (scrD ns), .dat (.int k), .own b, .dat (.int c), .dat (folkD fs), .dat (.list (tm.map encT)), x6, .dat (frD t), .own X, x9, x10, x11]) (by
      simp only [e_sOwn, e_fCallL, e_fCons, e_fNil, e_fVar, List.getElem?_cons_zero, List.getElem?_cons_succ, List.set_cons_zero, List.set_cons_succ, List.length_cons, List.length_nil, hpl]
      first | done | rw [if_pos (by decide)]),
    seq_of (δ1 := [.dat (scrD ns), .dat (.int k), .own b, .dat (.int c), .dat (folkD fs), .dat (.list (tm.map encT)), x6, .dat (frD t), .own X, x9, x10, x11]) (by simp only [e_sIf, e_fTest, e_fOpO, e_fOfL, e_fCallL, e_fCons, e_fNil, e_fVar, e_sNx, ownAt, EV.cont, List.getElem?_cons_zero, List.getElem?_cons_succ, hll, ne1]),
    seq_of (δ1 := [.dat (scrD ns), .dat (.int k), .own b, .dat (.int c), .dat (folkD fs), .dat (.list (tm.map encT)), x6, .dat (frD t), .own X, .dat (frD (hr * (c : Rat))), x10, x11]) (by simp only [e_sAsg, e_fCall, e_fCons, e_fNil, e_fOp, e_fIxO, e_fVar, e_fC, e_gN, ownAt, EV.cont, List.getElem?_cons_zero, List.getElem?_cons_succ, List.set_cons_zero, List.set_cons_succ, hat0, i1, hti]),
    seq_of hF,
    seq_of (δ1 := [.dat (scrD ns), .dat (.int k), .own b, .dat (.int c), .dat (folkD fs), .dat (.list (tm.map encT)), x6, .dat (frD t), .own X, .dat (frD 0), y10, y11]) (by
      simp only [e_sIf, e_fTest, e_fOp, e_fVar, e_fTup, e_fCons, e_fNil, e_fC, e_sNx, List.getElem?_cons_zero, List.getElem?_cons_succ, List.length_cons, List.length_nil]
      rw [if_pos (by decide)]
      simp only [ne_fr0]),
    seq_of (δ1 := [.dat (scrD ns), .dat (.int k), .own b, .dat (.int c), .dat (folkD fs), .dat (.list (tm.map encT)), x6, .dat (frD t), .own (X ++ [.str "more"]), .dat (frD 0), y10, y11]) (by simp only [e_sApp, e_fC, ownAt, setOwn, EV.cont, EV.with, List.getElem?_cons_zero, List.getElem?_cons_succ, List.set_cons_zero, List.set_cons_succ, hll50, if_true])]
  simp only [e_sIf, e_fTest, e_fOp, e_fOfL, e_fCallL, e_fCons, e_fNil, e_fVar, e_fSlO, e_fNoPart, e_fPart, e_fUn, e_fC, dNeg, e_sNx, ownAt, EV.cont, List.getElem?_cons_zero, List.getElem?_cons_succ, hpl, hcl, ne1]
end
theorem hok_int {i : Int} (h : 0 ≤ i ∧ i ≤ 2000) : HOk (i : Rat) := ⟨bd_int (pow20 (by omega) 20 (by omega)) (by omega), by show 1 ≤ 8; decide, by
  show Fq 1 2000 _
  exact fq_int (by omega)⟩
theorem hok_mk {a b : Int} (ha : 0 ≤ a ∧ a ≤ 400) (hb : 1 ≤ b ∧ b ≤ 5) : HOk (mkRat a b.toNat) := by
  have hbd : Bd 20 (mkRat a b.toNat) := bd_mk (by omega) (pow20 (by omega) 20 (by omega)) (pow20 (by omega) 20 (by omega))
  have hn := mk_num a b.toNat (by omega)
  have hd := natAbs_div_le (b.toNat : Int) (Int.gcd a (b.toNat : Int))
  rw [← hn.2] at hd
  have hn2 := natAbs_div_le a (Int.gcd a (b.toNat : Int))
  rw [← hn.1] at hn2
  have dp := (mkRat a b.toNat).den_pos
  generalize mkRat a b.toNat = q at *
  refine ⟨hbd, by omega, q.num, den_mul q, ?_⟩
  have h1 : q.num.natAbs ≤ 2000 := by omega
  exact Nat.le_trans h1 (Nat.le_mul_of_pos_right 2000 dp)
theorem cell_ok (ns : List Int) {k : Int} (h0 : 0 ≤ k) (h1 : k ≤ 15) (x2 x3 x4 x5 x6 x7 x8 x9 x10 x11 : EV) (h11 : x11.mine = false) : ∃ y2 y3 y4 y5 y6 y7 y8 y9 y10 y11, y11.mine = false ∧ lawOut [.dat (scrD ns), .dat (.int k), x2, x3, x4, x5, x6, x7, x8, x9, x10, x11] = some (.nx [.dat (scrD ns), .dat (.int k), y2, y3, y4, y5, y6, y7, y8, y9, y10, y11]) := by
  obtain ⟨b0, hbag, hb0⟩ := bag_ok ns h0 (by omega)
  obtain ⟨c, b1, hcart, hc1, hc2, hb1⟩ := cart_ok hb0
  have hc : 1 ≤ c ∧ c ≤ 1000 := ⟨hc1, hc2⟩
  obtain ⟨fs, b2, hfolk, hf, ⟨kk, hkk⟩, hb2⟩ := folk_ok hb1
  have hnmF : ∀ p, p ∈ fs → Nm p.1 := fun p hp => all_nm p.1 (by
    have : p.1 ∈ allNames.take kk := by
      rw [← hkk]
      exact List.mem_map.mpr ⟨p, hp, rfl⟩
    exact (List.take_sublist _ _).subset this)
  obtain ⟨tm, b3, htm, hT, hb3⟩ := timed_ok hb2 hf hnmF
  obtain ⟨t1, b4, ht1, ht10, ht11, hb4⟩ := take_ok (m := 400) hb3 (by decide) (by decide)
  obtain ⟨t2, b5, ht2, ht20, ht21, hb5⟩ := take_ok (m := 5) hb4 (by decide) (by decide)
  have hlow := low_eq t1 (1 + t2) (by omega) (pow20 (by omega) 8000 (by omega))
  have hq : HOk (mkRat t1 (1 + t2).toNat) := hok_mk (by omega) (by omega)
  generalize mkRat t1 (1 + t2).toNat = q at hlow hq
  have hcut := cut_to (tm.map encT) (m := 3) (by decide)
  rw [show (3 : Int).toNat = 3 from rfl, ← List.map_take] at hcut
  have hcc := compL_enc encT (vs := [11]) (γ := gN 11) (τ := fYes) (ε := fTup (fCons (fOp dIx (fVar 11) (fC (.int 0))) (fCons (fC (.int 1)) fNil))) (δ := [.dat (scrD ns), .dat (.int k), .own b5, .dat (.int c), .dat (folkD fs), .dat (.list (tm.map encT)), .dat (.list ([((0 : Int) : Rat), ((2000 : Int) : Rat), q].map frD)), x7, x8, x9, x10, x11])
    (fun r => [.dat (scrD ns), .dat (.int k), .own b5, .dat (.int c), .dat (folkD fs), .dat (.list (tm.map encT)), .dat (.list ([((0 : Int) : Rat), ((2000 : Int) : Rat), q].map frD)), x7, x8, x9, x10, .dat (encT r)]) (fun _ => true) (fun r => frD (r.1 : Rat)) (tm.take 3) fun r _ => ⟨rfl, rfl, fun _ => by
      have i0 : dIx (encT r) (.int 0) = some (.int r.1) := ix_t0
      simp only [e_fTup, e_fCons, e_fNil, e_fOp, e_fVar, e_fC, List.getElem?_cons_zero, List.getElem?_cons_succ, List.length_cons, List.length_nil, i0]
      rw [if_pos (by decide)]
      rfl, by (repeat (first | exact back_n | refine back_s rfl ?_ | refine back_o rfl ?_ | refine back_o (by assumption) ?_))⟩
  rw [filter_true] at hcc
  have hL := fLc_of (φ := fItems (fSl (fVar 5) fNoPart (fPart (fC (.int 3))))) (δ := [.dat (scrD ns), .dat (.int k), .own b5, .dat (.int c), .dat (folkD fs), .dat (.list (tm.map encT)), .dat (.list ([((0 : Int) : Rat), ((2000 : Int) : Rat), q].map frD)), x7, x8, x9, x10, x11]) (δ1 := [.dat (scrD ns), .dat (.int k), .own b5, .dat (.int c), .dat (folkD fs), .dat (.list (tm.map encT)), .dat (.list ([((0 : Int) : Rat), ((2000 : Int) : Rat), q].map frD)), x7, x8, x9, x10, x11]) (ds := (tm.take 3).map encT) (by simp only [e_fItems, e_fUnL, e_fSl, e_fPart, e_fNoPart, e_fVar, e_fC, List.getElem?_cons_zero, List.getElem?_cons_succ, dSl, hcut, itemsOf]) (by rw [List.length_map, List.length_take]; omega) hcc
  have hadd : dAdd (.list ([((0 : Int) : Rat), ((2000 : Int) : Rat), q].map frD)) (.list ((tm.take 3).map fun r => frD (r.1 : Rat))) = some (.list (([((0 : Int) : Rat), ((2000 : Int) : Rat), q] ++ (tm.take 3).map fun r => ((r.1 : Int) : Rat)).map frD)) := by
    have e1 : [((0 : Int) : Rat), ((2000 : Int) : Rat), q].map frD ++ (tm.take 3).map (fun r => frD (r.1 : Rat)) = ([((0 : Int) : Rat), ((2000 : Int) : Rat), q] ++ (tm.take 3).map fun r => ((r.1 : Int) : Rat)).map frD := by
      rw [List.map_append, List.map_map]
      rfl
    have hcl : dCatL (.list ([((0 : Int) : Rat), ((2000 : Int) : Rat), q].map frD)) (.list ((tm.take 3).map fun r => frD (r.1 : Rat))) = some (.list (([((0 : Int) : Rat), ((2000 : Int) : Rat), q] ++ (tm.take 3).map fun r => ((r.1 : Int) : Rat)).map frD)) := by
      unfold dCatL
      dsimp only
      rw [if_pos (by
        rw [List.length_map, List.length_map, List.length_take]
        show 3 + _ ≤ _
        omega), e1]
    simp only [e_orF, fI0, dCatS, hcl]
  have hall : ∀ t, t ∈ [((0 : Int) : Rat), ((2000 : Int) : Rat), q] ++ (tm.take 3).map (fun r => ((r.1 : Int) : Rat)) → HOk t := fun t ht => by
    rcases List.mem_append.mp ht with z | z
    · simp only [List.mem_cons, List.not_mem_nil, or_false] at z
      rcases z with rfl | rfl | rfl
      · exact hok_int (by decide)
      · exact hok_int (by decide)
      · exact hq
    · obtain ⟨r, hr, rfl⟩ := List.mem_map.mp z
      have := hT.hr r ((List.take_sublist _ _).subset hr)
      exact hok_int (by omega)
  obtain ⟨δ', hloop, z7, z8, z9, z10, z11, g11, hδ⟩ := loop_rel frD (γ := gN 7) (b := lawIn) (fun (_ : Unit) δ => ∃ (z7 z8 z9 z10 z11 : EV), z11.mine = false ∧ δ = [.dat (scrD ns), .dat (.int k), .own b5, .dat (.int c), .dat (folkD fs), .dat (.list (tm.map encT)), .dat (.list ([((0 : Int) : Rat), ((2000 : Int) : Rat), q].map frD)), z7, z8, z9, z10, z11]) (fun _ _ => ()) ([((0 : Int) : Rat), ((2000 : Int) : Rat), q] ++ (tm.take 3).map fun r => ((r.1 : Int) : Rat)) () [.dat (scrD ns), .dat (.int k), .own b5, .dat (.int c), .dat (folkD fs), .dat (.list (tm.map encT)), .dat (.list ([((0 : Int) : Rat), ((2000 : Int) : Rat), q].map frD)), x7, x8, x9, x10, x11] (fun _ t δ hx hR => by
      obtain ⟨z7, z8, z9, z10, z11, hz, rfl⟩ := hR
      obtain ⟨w8, w9, w10, w11, g11, hi⟩ := in_ok (ns := ns) (k := k) (b := b5) hc hf hT (hall t hx) hnmF (.dat (.list ([((0 : Int) : Rat), ((2000 : Int) : Rat), q].map frD))) z8 z9 z10 z11 hz
      exact ⟨_, _, rfl, hi, _, w8, w9, w10, w11, g11, rfl⟩) ⟨x7, x8, x9, x10, x11, h11, rfl⟩
  have hF := sFor_of (φ := (fItems (fOp dAdd (fVar 6) (fOfL (fLc (fItems (fSl (fVar 5) fNoPart (fPart (fC (.int 3))))) [11] (gN 11) fYes (fTup (fCons (fOp dIx (fVar 11) (fC (.int 0))) (fCons (fC (.int 1)) fNil)))))))) (δ := [.dat (scrD ns), .dat (.int k), .own b5, .dat (.int c), .dat (folkD fs), .dat (.list (tm.map encT)), .dat (.list ([((0 : Int) : Rat), ((2000 : Int) : Rat), q].map frD)), x7, x8, x9, x10, x11]) (by simp only [e_fItems, e_fUnL, e_fOp, e_fVar, e_fOfL, hL, hadd, itemsOf, List.getElem?_cons_zero, List.getElem?_cons_succ]) hloop
  refine ⟨.own b5, .dat (.int c), .dat (folkD fs), .dat (.list (tm.map encT)), .dat (.list ([((0 : Int) : Rat), ((2000 : Int) : Rat), q].map frD)), z7, z8, z9, z10, z11, g11, ?_⟩
  rw [hδ] at hF
  have l2 : (0 + 1 + 1 ≤ 100000) = True := eq_true (by decide)
  have l3 : (0 + 1 + 1 + 1 ≤ 100000) = True := eq_true (by decide)
  unfold lawOut
  rw [seq_of (δ1 := [.dat (scrD ns), .dat (.int k), .own b0, x3, x4, x5, x6, x7, x8, x9, x10, x11]) (by
    simp only [e_fAddL, e_fZipB, e_fListZip, e_sOwnD, e_fNewD, e_fDictD, e_sDPutO, e_fDGetO, e_fDGet2, e_sFrzD, e_sPar3, e_fVar, e_fC, e_fOp, e_fUn, e_fNil, e_fCons, e_fTup, e_fLst, e_fOfL, e_fTest, e_fAnd, e_fOr, e_fNot, e_fBool, e_fIf, e_fChain, e_fVarB, e_fUnL, e_fNoPart, e_fPart, e_fSl, e_gN, e_gNl, e_gCs, e_gTp, e_fZip, e_fYes, e_sNx, e_sSeq, e_sAsg, e_sOwn, e_sApp, e_sExt, e_sIns, e_sSetIx, e_fIxO, e_fSlO, e_sRet, e_sRetL, e_sRetO, e_sFrz, e_sDrop, e_sIf, e_sPar, e_fCall, e_fCallL, e_fCallB, e_sParO, e_fOpO, e_fItems, e_fRange, e_fMin, e_orF, fI0, fI, fS0, dNeg, dAbs, dLen, dSum, dTuple, ix_t0, ix_t1, ix_t2, ix_l0, ix_l1, ownAt, setOwn, EV.cont, EV.with, seqOf, itemsOf, List.map_cons, List.map_nil, List.cons_append, List.nil_append, List.replicate_succ, List.replicate_zero, List.getElem?_cons_zero, List.getElem?_cons_succ, List.getElem?_nil, List.set_cons_zero, List.set_cons_succ, List.length_cons, List.length_nil, hbag]
    rw [if_pos (by decide)]), seq_of (δ1 := [.dat (scrD ns), .dat (.int k), .own b2, .dat (.int c), .dat (folkD fs), x5, x6, x7, x8, x9, x10, x11]) (by simp only [e_fAddL, e_fZipB, e_fListZip, e_sOwnD, e_fNewD, e_fDictD, e_sDPutO, e_fDGetO, e_fDGet2, e_sFrzD, e_sPar3, e_fVar, e_fC, e_fOp, e_fUn, e_fNil, e_fCons, e_fTup, e_fLst, e_fOfL, e_fTest, e_fAnd, e_fOr, e_fNot, e_fBool, e_fIf, e_fChain, e_fVarB, e_fUnL, e_fNoPart, e_fPart, e_fSl, e_gN, e_gNl, e_gCs, e_gTp, e_fZip, e_fYes, e_sNx, e_sSeq, e_sAsg, e_sOwn, e_sApp, e_sExt, e_sIns, e_sSetIx, e_fIxO, e_fSlO, e_sRet, e_sRetL, e_sRetO, e_sFrz, e_sDrop, e_sIf, e_sPar, e_fCall, e_fCallL, e_fCallB, e_sParO, e_fOpO, e_fItems, e_fRange, e_fMin, e_orF, fI0, fI, fS0, dNeg, dAbs, dLen, dSum, dTuple, ix_t0, ix_t1, ix_t2, ix_l0, ix_l1, ownAt, setOwn, EV.cont, EV.with, seqOf, itemsOf, List.map_cons, List.map_nil, List.cons_append, List.nil_append, List.replicate_succ, List.replicate_zero, List.getElem?_cons_zero, List.getElem?_cons_succ, List.getElem?_nil, List.set_cons_zero, List.set_cons_succ, List.length_cons, List.length_nil, hcart, hfolk]),
    seq_of (δ1 := [.dat (scrD ns), .dat (.int k), .own b3, .dat (.int c), .dat (folkD fs), .dat (.list (tm.map encT)), x6, x7, x8, x9, x10, x11]) (by simp only [e_fAddL, e_fZipB, e_fListZip, e_sOwnD, e_fNewD, e_fDictD, e_sDPutO, e_fDGetO, e_fDGet2, e_sFrzD, e_sPar3, e_fVar, e_fC, e_fOp, e_fUn, e_fNil, e_fCons, e_fTup, e_fLst, e_fOfL, e_fTest, e_fAnd, e_fOr, e_fNot, e_fBool, e_fIf, e_fChain, e_fVarB, e_fUnL, e_fNoPart, e_fPart, e_fSl, e_gN, e_gNl, e_gCs, e_gTp, e_fZip, e_fYes, e_sNx, e_sSeq, e_sAsg, e_sOwn, e_sApp, e_sExt, e_sIns, e_sSetIx, e_fIxO, e_fSlO, e_sRet, e_sRetL, e_sRetO, e_sFrz, e_sDrop, e_sIf, e_sPar, e_fCall, e_fCallL, e_fCallB, e_sParO, e_fOpO, e_fItems, e_fRange, e_fMin, e_orF, fI0, fI, fS0, dNeg, dAbs, dLen, dSum, dTuple, ix_t0, ix_t1, ix_t2, ix_l0, ix_l1, ownAt, setOwn, EV.cont, EV.with, seqOf, itemsOf, List.map_cons, List.map_nil, List.cons_append, List.nil_append, List.replicate_succ, List.replicate_zero, List.getElem?_cons_zero, List.getElem?_cons_succ, List.getElem?_nil, List.set_cons_zero, List.set_cons_succ, List.length_cons, List.length_nil, htm]),
    seq_of (δ1 := [.dat (scrD ns), .dat (.int k), .own b5, .dat (.int c), .dat (folkD fs), .dat (.list (tm.map encT)), .dat (.list ([((0 : Int) : Rat), ((2000 : Int) : Rat), q].map frD)), x7, x8, x9, x10, x11]) (by
      simp only [e_sAsg, e_fOfL, e_fLst, e_fCons, e_fNil, e_fTup, e_fCall, e_fCallB, e_fOp, e_orF, fI0, e_fC, e_gN, ownAt, setOwn, EV.cont, EV.with, List.getElem?_cons_zero, List.getElem?_cons_succ, List.set_cons_zero, List.set_cons_succ, List.length_cons, List.length_nil, l2, l3, if_true, ht1, ht2, hlow]
      rfl), hF]
def LawEnv (ns : List Int) (δ : En) : Prop := ∃ x1 x2 x3 x4 x5 x6 x7 x8 x9 x10 x11 : EV, x11.mine = false ∧ δ = [.dat (scrD ns), x1, x2, x3, x4, x5, x6, x7, x8, x9, x10, x11]
theorem law_math : ∀ ns : List Int, ns.length ≤ 63 → fn_law [scrD ns] = some (.bool true) := fun ns hn => by
  have hlen : dLen (scrD ns) = some (.int (ns.length : Nat)) := by
    show some (PyData.int ((ns.map fun n => (PyData.int n, PyData.none)).length : Nat)) = _
    rw [List.length_map]
  generalize hm : (1 : Int) + (if (15 : Int) < (ns.length : Int) then 15 else (ns.length : Int)) = m
  have hm1 : 0 ≤ m ∧ m ≤ 16 := by
    rw [← hm]
    split <;> omega
  have hup : upto m = (List.range m.toNat).map fun i => PyData.int (i : Nat) := rfl
  obtain ⟨δ', hl, hR⟩ := loop_rel (fun i : Nat => PyData.int (i : Nat)) (γ := gN 1) (b := lawOut) (fun (_ : Unit) δ => LawEnv ns δ) (fun _ _ => ()) (List.range m.toNat) () [.dat (scrD ns), .un, .un, .un, .un, .un, .un, .un, .un, .un, .un, .un] (fun _ i δ hi hR => by
    obtain ⟨x1, x2, x3, x4, x5, x6, x7, x8, x9, x10, x11, h11, rfl⟩ := hR
    have hi' := List.mem_range.mp hi
    obtain ⟨y2, y3, y4, y5, y6, y7, y8, y9, y10, y11, g11, hb⟩ := cell_ok ns (k := (i : Nat)) (by omega) (by omega) x2 x3 x4 x5 x6 x7 x8 x9 x10 x11 h11
    exact ⟨_, _, rfl, hb, _, y2, y3, y4, y5, y6, y7, y8, y9, y10, y11, g11, rfl⟩) ⟨.un, .un, .un, .un, .un, .un, .un, .un, .un, .un, .un, rfl, rfl⟩
  rw [← hup] at hl
  have hr : fRange (fOp dAdd (fC (.int 1)) (fMin (fUn dLen (fVar 0)) (fC (.int 15)))) [.dat (scrD ns), .un, .un, .un, .un, .un, .un, .un, .un, .un, .un, .un] = some (upto m, [.dat (scrD ns), .un, .un, .un, .un, .un, .un, .un, .un, .un, .un, .un]) := by
    simp only [e_fRange, e_fUnL, e_fOp, e_fMin, e_fC, e_fUn, e_fVar, e_orF, fI0, List.getElem?_cons_zero, hlen, hm]
    rw [if_pos ⟨by omega, by omega⟩]
  have hF := sFor_of hr hl
  unfold fn_law
  rw [law_body_eq]
  simp only [runD, List.map_cons, List.map_nil, List.cons_append, List.nil_append, List.replicate_succ, List.replicate_zero]
  rw [seq_of hF]
  rfl
end Lc
namespace Lc
open PySem L2 Evl RZ Sm
def topS (i : Nat) : Stmt := PySem.Challenge.pw_leapcart_k03_whole_the_common_middle_sta.main.body.getD i (.Pass ⟨0, 0, 0, 0⟩)
abbrev s_common_divisor : Stmt := topS 2
abbrev s_fraction : Stmt := topS 3
abbrev s_plus : Stmt := topS 4
abbrev s_plus_whole : Stmt := topS 5
abbrev s_times : Stmt := topS 6
abbrev s_names_of : Stmt := topS 8
abbrev s_weigh : Stmt := topS 9
abbrev s_driven : Stmt := topS 10
abbrev s_still_on : Stmt := topS 11
abbrev s_speeds : Stmt := topS 12
abbrev s_leap_by_name : Stmt := topS 13
abbrev s_leaper_speeds : Stmt := topS 14
abbrev s_run_on : Stmt := topS 15
abbrev s_places : Stmt := topS 16
abbrev s__law_bag : Stmt := topS 18
abbrev s__law_take : Stmt := topS 19
abbrev s__law_lowest : Stmt := topS 20
abbrev s__law_plus : Stmt := topS 21
abbrev s__law_times : Stmt := topS 22
abbrev s__law_less : Stmt := topS 23
abbrev s__law_cart : Stmt := topS 24
abbrev s__law_folk : Stmt := topS 25
abbrev s__law_mixed : Stmt := topS 26
abbrev s__law_leaps : Stmt := topS 27
abbrev s__law_left : Stmt := topS 28
abbrev s__law_weight : Stmt := topS 29
abbrev s__law_behind : Stmt := topS 30
abbrev s__law_run : Stmt := topS 31
abbrev s__law_timed : Stmt := topS 32
abbrev s__law_places : Stmt := topS 33
abbrev s_law : Stmt := topS 34
structure Tx (K : PySem.W.Frag) (mg : Str → Option Value) where
  a_common_divisor : Addr
  d_common_divisor : FuncData
  F_common_divisor : Fun K "common_divisor" "common_divisor" s_common_divisor a_common_divisor d_common_divisor
  b_common_divisor : Binds K d_common_divisor ["one", "other"] []
  m_common_divisor : mg "common_divisor" = some (.ref a_common_divisor)
  a_fraction : Addr
  d_fraction : FuncData
  F_fraction : Fun K "fraction" "fraction" s_fraction a_fraction d_fraction
  b_fraction : Binds K d_fraction ["top", "bottom"] []
  m_fraction : mg "fraction" = some (.ref a_fraction)
  a_plus : Addr
  d_plus : FuncData
  F_plus : Fun K "plus" "plus" s_plus a_plus d_plus
  b_plus : Binds K d_plus ["one", "other"] []
  m_plus : mg "plus" = some (.ref a_plus)
  a_plus_whole : Addr
  d_plus_whole : FuncData
  F_plus_whole : Fun K "plus_whole" "plus_whole" s_plus_whole a_plus_whole d_plus_whole
  b_plus_whole : Binds K d_plus_whole ["one", "number"] []
  m_plus_whole : mg "plus_whole" = some (.ref a_plus_whole)
  a_times : Addr
  d_times : FuncData
  F_times : Fun K "times" "times" s_times a_times d_times
  b_times : Binds K d_times ["one", "other"] []
  m_times : mg "times" = some (.ref a_times)
  a_names_of : Addr
  d_names_of : FuncData
  F_names_of : Fun K "names_of" "names_of" s_names_of a_names_of d_names_of
  b_names_of : Binds K d_names_of ["rows"] []
  m_names_of : mg "names_of" = some (.ref a_names_of)
  a_weigh : Addr
  d_weigh : FuncData
  F_weigh : Fun K "weigh" "weigh" s_weigh a_weigh d_weigh
  b_weigh : Binds K d_weigh ["cart", "aboard"] []
  m_weigh : mg "weigh" = some (.ref a_weigh)
  a_driven : Addr
  d_driven : FuncData
  F_driven : Fun K "driven" "driven" s_driven a_driven d_driven
  b_driven : Binds K d_driven ["cart", "aboard", "speed", "at_once"] []
  m_driven : mg "driven" = some (.ref a_driven)
  a_still_on : Addr
  d_still_on : FuncData
  F_still_on : Fun K "still_on" "still_on" s_still_on a_still_on d_still_on
  b_still_on : Binds K d_still_on ["aboard", "at_once"] []
  m_still_on : mg "still_on" = some (.ref a_still_on)
  a_speeds : Addr
  d_speeds : FuncData
  F_speeds : Fun K "speeds" "speeds" s_speeds a_speeds d_speeds
  b_speeds : Binds K d_speeds ["cart", "folk", "speed", "leaps"] []
  m_speeds : mg "speeds" = some (.ref a_speeds)
  a_leap_by_name : Addr
  d_leap_by_name : FuncData
  F_leap_by_name : Fun K "leap_by_name" "leap_by_name" s_leap_by_name a_leap_by_name d_leap_by_name
  b_leap_by_name : Binds K d_leap_by_name ["folk"] []
  m_leap_by_name : mg "leap_by_name" = some (.ref a_leap_by_name)
  a_leaper_speeds : Addr
  d_leaper_speeds : FuncData
  F_leaper_speeds : Fun K "leaper_speeds" "leaper_speeds" s_leaper_speeds a_leaper_speeds d_leaper_speeds
  b_leaper_speeds : Binds K d_leaper_speeds ["fast", "behind", "at_once"] []
  m_leaper_speeds : mg "leaper_speeds" = some (.ref a_leaper_speeds)
  a_run_on : Addr
  d_run_on : FuncData
  F_run_on : Fun K "run_on" "run_on" s_run_on a_run_on d_run_on
  b_run_on : Binds K d_run_on ["place", "speed", "since", "hour"] []
  m_run_on : mg "run_on" = some (.ref a_run_on)
  a_places : Addr
  d_places : FuncData
  F_places : Fun K "places" "places" s_places a_places d_places
  b_places : Binds K d_places ["cart", "folk", "timed", "hour"] []
  m_places : mg "places" = some (.ref a_places)
  a__law_bag : Addr
  d__law_bag : FuncData
  F__law_bag : Fun K "_law_bag" "_law_bag" s__law_bag a__law_bag d__law_bag
  b__law_bag : Binds K d__law_bag ["script", "k"] []
  m__law_bag : mg "_law_bag" = some (.ref a__law_bag)
  a__law_take : Addr
  d__law_take : FuncData
  F__law_take : Fun K "_law_take" "_law_take" s__law_take a__law_take d__law_take
  b__law_take : Binds K d__law_take ["bag", "many"] []
  m__law_take : mg "_law_take" = some (.ref a__law_take)
  a__law_lowest : Addr
  d__law_lowest : FuncData
  F__law_lowest : Fun K "_law_lowest" "_law_lowest" s__law_lowest a__law_lowest d__law_lowest
  b__law_lowest : Binds K d__law_lowest ["top", "bottom"] []
  m__law_lowest : mg "_law_lowest" = some (.ref a__law_lowest)
  a__law_plus : Addr
  d__law_plus : FuncData
  F__law_plus : Fun K "_law_plus" "_law_plus" s__law_plus a__law_plus d__law_plus
  b__law_plus : Binds K d__law_plus ["one", "other"] []
  m__law_plus : mg "_law_plus" = some (.ref a__law_plus)
  a__law_times : Addr
  d__law_times : FuncData
  F__law_times : Fun K "_law_times" "_law_times" s__law_times a__law_times d__law_times
  b__law_times : Binds K d__law_times ["part", "by"] []
  m__law_times : mg "_law_times" = some (.ref a__law_times)
  a__law_less : Addr
  d__law_less : FuncData
  F__law_less : Fun K "_law_less" "_law_less" s__law_less a__law_less d__law_less
  b__law_less : Binds K d__law_less ["one", "other"] []
  m__law_less : mg "_law_less" = some (.ref a__law_less)
  a__law_cart : Addr
  d__law_cart : FuncData
  F__law_cart : Fun K "_law_cart" "_law_cart" s__law_cart a__law_cart d__law_cart
  b__law_cart : Binds K d__law_cart ["bag"] []
  m__law_cart : mg "_law_cart" = some (.ref a__law_cart)
  a__law_folk : Addr
  d__law_folk : FuncData
  F__law_folk : Fun K "_law_folk" "_law_folk" s__law_folk a__law_folk d__law_folk
  b__law_folk : Binds K d__law_folk ["bag", "most"] []
  m__law_folk : mg "_law_folk" = some (.ref a__law_folk)
  a__law_mixed : Addr
  d__law_mixed : FuncData
  F__law_mixed : Fun K "_law_mixed" "_law_mixed" s__law_mixed a__law_mixed d__law_mixed
  b__law_mixed : Binds K d__law_mixed ["bag", "some"] []
  m__law_mixed : mg "_law_mixed" = some (.ref a__law_mixed)
  a__law_leaps : Addr
  d__law_leaps : FuncData
  F__law_leaps : Fun K "_law_leaps" "_law_leaps" s__law_leaps a__law_leaps d__law_leaps
  b__law_leaps : Binds K d__law_leaps ["bag", "folk"] []
  m__law_leaps : mg "_law_leaps" = some (.ref a__law_leaps)
  a__law_left : Addr
  d__law_left : FuncData
  F__law_left : Fun K "_law_left" "_law_left" s__law_left a__law_left d__law_left
  b__law_left : Binds K d__law_left ["folk", "names"] []
  m__law_left : mg "_law_left" = some (.ref a__law_left)
  a__law_weight : Addr
  d__law_weight : FuncData
  F__law_weight : Fun K "_law_weight" "_law_weight" s__law_weight a__law_weight d__law_weight
  b__law_weight : Binds K d__law_weight ["cart", "folk"] []
  m__law_weight : mg "_law_weight" = some (.ref a__law_weight)
  a__law_behind : Addr
  d__law_behind : FuncData
  F__law_behind : Fun K "_law_behind" "_law_behind" s__law_behind a__law_behind d__law_behind
  b__law_behind : Binds K d__law_behind ["cart", "folk", "speed", "some"] []
  m__law_behind : mg "_law_behind" = some (.ref a__law_behind)
  a__law_run : Addr
  d__law_run : FuncData
  F__law_run : Fun K "_law_run" "_law_run" s__law_run a__law_run d__law_run
  b__law_run : Binds K d__law_run ["cart", "folk", "speed", "leaps"] []
  m__law_run : mg "_law_run" = some (.ref a__law_run)
  a__law_timed : Addr
  d__law_timed : FuncData
  F__law_timed : Fun K "_law_timed" "_law_timed" s__law_timed a__law_timed d__law_timed
  b__law_timed : Binds K d__law_timed ["bag", "folk"] []
  m__law_timed : mg "_law_timed" = some (.ref a__law_timed)
  a__law_places : Addr
  d__law_places : FuncData
  F__law_places : Fun K "_law_places" "_law_places" s__law_places a__law_places d__law_places
  b__law_places : Binds K d__law_places ["cart", "folk", "timed", "hour"] []
  m__law_places : mg "_law_places" = some (.ref a__law_places)
  a_law : Addr
  d_law : FuncData
  F_law : Fun K "law" "law" s_law a_law d_law
  b_law : Binds K d_law ["script"] []
  m_law : mg "law" = some (.ref a_law)
  a_NOUGHT : Addr
  m_NOUGHT : mg "NOUGHT" = some (.ref a_NOUGHT)
  k_NOUGHT : KTup K a_NOUGHT [.int (0), .int (1)]
  z_abs : mg "abs" = none
  z_dict : mg "dict" = none
  z_enumerate : mg "enumerate" = none
  z_len : mg "len" = none
  z_list : mg "list" = none
  z_min : mg "min" = none
  z_range : mg "range" = none
  z_sorted : mg "sorted" = none
  z_sum : mg "sum" = none
  z_tuple : mg "tuple" = none
  z_zip : mg "zip" = none
section
variable {P : Program} {w : World} {K : PySem.W.Frag} {mg : Str → Option Value} {base : Heap}
theorem sc_common_divisor : FnScope ["one", "other"] ["one", "other"] (defScope s_common_divisor) := ⟨rfl, rfl, rfl, by decide +kernel, rfl, by decide +kernel, by decide +kernel⟩
theorem ok_common_divisor (T : Tx K mg) : FnOk P w K mg base CX0 1 T.a_common_divisor T.d_common_divisor ["one", "other"] (spD K 2 fn_common_divisor) := by
  refine T.F_common_divisor.ok sc_common_divisor (fun vs H Q E h => ?_) (fun cdv A outer s H vs Q E hr h => ?_)
  · obtain ⟨S, ds, d, hl, _⟩ := h
    exact hl
  · refine ⟨_, (pss_cons (ps_par (i := 0) (j := 1) (by rfl) sc_common_divisor.nd rfl rfl (by decide) rfl rfl (pa_cons (pe_callB call_abs (by rfl) T.z_abs (by decide +kernel) (pa_cons (pv 0) pa_nil)) (pa_cons (pe_callB call_abs (by rfl) T.z_abs (by decide +kernel) (pa_cons (pv 1) pa_nil)) pa_nil)) (by rfl))
      (pss_cons (ps_while PassesOwn.never (pt_cmpR (op_neA hr.units) (pv 1) pe_int (nomark _)) (pss_one (ps_par (i := 0) (j := 1) (by rfl) sc_common_divisor.nd rfl rfl (by decide) rfl rfl (pa_cons (pv 1) (pa_cons (pe_op op_mod (pv 0) (pv 1)) pa_nil)) (by rfl))))
      (pss_one (ps_ret (pv 0))))), ?_⟩
    exact body_D (n := 0) (φ := b_common_divisor) (ws_seq (ws_par (i := 0) (j := 1) (wa_cons (we_c1 r1_abs (WE.wb we_var)) (wa_cons (we_c1 r1_abs (WE.wb we_var)) wa_nil)))
      (ws_seq (ws_while (wt_test (we_op rd_neA we_var we_int)) (ws_par (i := 0) (j := 1) (wa_cons we_var (wa_cons (we_op rd_mod we_var we_var) wa_nil))))
      (ws_ret we_var))) rfl h
theorem sc_fraction : FnScope ["top", "bottom", "divisor"] ["top", "bottom"] (defScope s_fraction) := ⟨rfl, rfl, rfl, by decide +kernel, rfl, by decide +kernel, by decide +kernel⟩
theorem ok_fraction (T : Tx K mg) : FnOk P w K mg base CX0 2 T.a_fraction T.d_fraction ["top", "bottom"] (spD K 2 fn_fraction) := by
  refine T.F_fraction.ok sc_fraction (fun vs H Q E h => ?_) (fun cdv A outer s H vs Q E hr h => ?_)
  · obtain ⟨S, ds, d, hl, _⟩ := h
    exact hl
  · refine ⟨_, (pss_cons (ps_set (i := 2) sc_fraction.nd rfl (by first | exact Or.inl rfl | exact Or.inr rfl) (pe_call (ok_common_divisor T) (hr.mono (by decide)) (by rfl) T.m_common_divisor T.F_common_divisor.kp T.b_common_divisor .nil pass0 (pa_cons (pv 0) (pa_cons (pv 1) pa_nil))))
      (pss_one (ps_ret (pe_tup (pa_cons (pe_op op_fdivW (pv 0) (pv 2)) (pa_cons (pe_op op_fdivW (pv 1) (pv 2)) pa_nil)))))), ?_⟩
    exact body_D (n := 1) (φ := b_fraction) (ws_seq (ws_asg (we_call (wa_cons we_var (wa_cons we_var wa_nil)) (arn_cons (arn_cons arn_nil))) (wg_name (i := 2)))
      (ws_ret (we_tup (wa_cons (we_op rd_div we_var we_var) (wa_cons (we_op rd_div we_var we_var) wa_nil))))) rfl h
theorem sc_plus : FnScope ["one", "other"] ["one", "other"] (defScope s_plus) := ⟨rfl, rfl, rfl, by decide +kernel, rfl, by decide +kernel, by decide +kernel⟩
theorem ok_plus (T : Tx K mg) : FnOk P w K mg base CX0 3 T.a_plus T.d_plus ["one", "other"] (spD K 2 fn_plus) := by
  refine T.F_plus.ok sc_plus (fun vs H Q E h => ?_) (fun cdv A outer s H vs Q E hr h => ?_)
  · obtain ⟨S, ds, d, hl, _⟩ := h
    exact hl
  · refine ⟨_, (pss_one (ps_ret (pe_call (ok_fraction T) (hr.mono (by decide)) (by rfl) T.m_fraction T.F_fraction.kp T.b_fraction .nil pass0 (pa_cons (pe_op op_addA (pe_op op_mulW (pe_ix ix_seq (pv 0) pe_int (fun _ _ => rfl)) (pe_ix ix_seq (pv 1) pe_int (fun _ _ => rfl))) (pe_op op_mulW (pe_ix ix_seq (pv 1) pe_int (fun _ _ => rfl)) (pe_ix ix_seq (pv 0) pe_int (fun _ _ => rfl)))) (pa_cons (pe_op op_mulW (pe_ix ix_seq (pv 0) pe_int (fun _ _ => rfl)) (pe_ix ix_seq (pv 1) pe_int (fun _ _ => rfl))) pa_nil))))), ?_⟩
    exact body_D (n := 0) (φ := b_plus) (ws_ret (we_call (wa_cons (we_op rd_addA (we_op rd_mul (we_op rd_ix we_var we_int) (we_op rd_ix we_var we_int)) (we_op rd_mul (we_op rd_ix we_var we_int) (we_op rd_ix we_var we_int))) (wa_cons (we_op rd_mul (we_op rd_ix we_var we_int) (we_op rd_ix we_var we_int)) wa_nil)) (arn_cons (arn_cons arn_nil)))) rfl h
theorem sc_plus_whole : FnScope ["one", "number"] ["one", "number"] (defScope s_plus_whole) := ⟨rfl, rfl, rfl, by decide +kernel, rfl, by decide +kernel, by decide +kernel⟩
theorem ok_plus_whole (T : Tx K mg) : FnOk P w K mg base CX0 1 T.a_plus_whole T.d_plus_whole ["one", "number"] (spD K 2 fn_plus_whole) := by
  refine T.F_plus_whole.ok sc_plus_whole (fun vs H Q E h => ?_) (fun cdv A outer s H vs Q E hr h => ?_)
  · obtain ⟨S, ds, d, hl, _⟩ := h
    exact hl
  · refine ⟨_, (pss_one (ps_ret (pe_tup (pa_cons (pe_op op_addA (pe_ix ix_seq (pv 0) pe_int (fun _ _ => rfl)) (pe_op op_mulW (pv 1) (pe_ix ix_seq (pv 0) pe_int (fun _ _ => rfl)))) (pa_cons (pe_ix ix_seq (pv 0) pe_int (fun _ _ => rfl)) pa_nil))))), ?_⟩
    exact body_D (n := 0) (φ := b_plus_whole) (ws_ret (we_tup (wa_cons (we_op rd_addA (we_op rd_ix we_var we_int) (we_op rd_mul we_var (we_op rd_ix we_var we_int))) (wa_cons (we_op rd_ix we_var we_int) wa_nil)))) rfl h
theorem sc_times : FnScope ["one", "other"] ["one", "other"] (defScope s_times) := ⟨rfl, rfl, rfl, by decide +kernel, rfl, by decide +kernel, by decide +kernel⟩
theorem ok_times (T : Tx K mg) : FnOk P w K mg base CX0 3 T.a_times T.d_times ["one", "other"] (spD K 2 fn_times) := by
  refine T.F_times.ok sc_times (fun vs H Q E h => ?_) (fun cdv A outer s H vs Q E hr h => ?_)
  · obtain ⟨S, ds, d, hl, _⟩ := h
    exact hl
  · refine ⟨_, (pss_one (ps_ret (pe_call (ok_fraction T) (hr.mono (by decide)) (by rfl) T.m_fraction T.F_fraction.kp T.b_fraction .nil pass0 (pa_cons (pe_op op_mulW (pe_ix ix_seq (pv 0) pe_int (fun _ _ => rfl)) (pe_ix ix_seq (pv 1) pe_int (fun _ _ => rfl))) (pa_cons (pe_op op_mulW (pe_ix ix_seq (pv 0) pe_int (fun _ _ => rfl)) (pe_ix ix_seq (pv 1) pe_int (fun _ _ => rfl))) pa_nil))))), ?_⟩
    exact body_D (n := 0) (φ := b_times) (ws_ret (we_call (wa_cons (we_op rd_mul (we_op rd_ix we_var we_int) (we_op rd_ix we_var we_int)) (wa_cons (we_op rd_mul (we_op rd_ix we_var we_int) (we_op rd_ix we_var we_int)) wa_nil)) (arn_cons (arn_cons arn_nil)))) rfl h
theorem sc_names_of : FnScope ["rows", "row"] ["rows"] (defScope s_names_of) := ⟨rfl, rfl, rfl, by decide +kernel, rfl, by decide +kernel, by decide +kernel⟩
theorem ok_names_of (T : Tx K mg) : FnOk P w K mg base CX0 1 T.a_names_of T.d_names_of ["rows"] (spD K 1 fn_names_of) := by
  refine T.F_names_of.ok sc_names_of (fun vs H Q E h => ?_) (fun cdv A outer s H vs Q E hr h => ?_)
  · obtain ⟨S, ds, d, hl, _⟩ := h
    exact hl
  · refine ⟨_, (pss_one (ps_ret (pe_callTy call_tuple_of (by rfl) T.z_tuple (by decide +kernel) (pa_cons (pe_lc (own := [("row", 1)]) (wi := (iAny K (tVar 0))) (g := (gName 1)) (tt := tYes) (te := (tOp (rIx K) (tVar 1) (tC (.int 0)))) rfl sc_names_of.nd (pi_any (pv 0)) (blkOk_by (N := ["rows", "row"]) (sc := defScope s_names_of) (by decide +kernel)) (fun _ _ _ _ _ => (pg_name (i := 1) sc_names_of.nd rfl (by first | exact Or.inl rfl | exact Or.inr rfl))) (fun _ _ _ _ _ => pts_nil) (fun _ _ _ _ _ => (pe_ix ix_seq (pv 1) pe_int (fun _ _ => rfl)))) pa_nil)))), ?_⟩
    exact body_D (n := 1) (φ := b_names_of) (ws_ret (we_c1 r1_tuple (WE.wb ((wl_lc (js := [1]) (wi_any we_var) wg_name (by decide) wt_yes (we_op rd_ix we_var we_int))).we))) rfl h
theorem sc_weigh : FnScope ["cart", "aboard", "name", "heavy", "leap"] ["cart", "aboard"] (defScope s_weigh) := ⟨rfl, rfl, rfl, by decide +kernel, rfl, by decide +kernel, by decide +kernel⟩
theorem ok_weigh (T : Tx K mg) : FnOk P w K mg base CX0 1 T.a_weigh T.d_weigh ["cart", "aboard"] (spD K 2 fn_weigh) := by
  refine T.F_weigh.ok sc_weigh (fun vs H Q E h => ?_) (fun cdv A outer s H vs Q E hr h => ?_)
  · obtain ⟨S, ds, d, hl, _⟩ := h
    exact hl
  · refine ⟨_, (pss_one (ps_ret (pe_op op_addA (pv 0) (pe_callB (cr_sum rfl) (by rfl) T.z_sum (by decide +kernel) (pa_cons (pe_lc (own := [("name", 2), ("heavy", 3), ("leap", 4)]) (wi := (iAny K (tVar 1))) (g := (gTup K 3 (gCons (gName 2) (gCons (gName 3) (gCons (gName 4) gNil))))) (tt := tYes) (te := (tVar 3)) rfl sc_weigh.nd (pi_any (pv 1)) (blkOk_by (N := ["cart", "aboard", "name", "heavy", "leap"]) (sc := defScope s_weigh) (by decide +kernel)) (fun _ _ _ _ _ => (pg_tup rfl (pgs_cons (pg_name (i := 2) sc_weigh.nd rfl (by first | exact Or.inl rfl | exact Or.inr rfl)) (pgs_cons (pg_name (i := 3) sc_weigh.nd rfl (by first | exact Or.inl rfl | exact Or.inr rfl)) (pgs_cons (pg_name (i := 4) sc_weigh.nd rfl (by first | exact Or.inl rfl | exact Or.inr rfl)) pgs_nil))))) (fun _ _ _ _ _ => pts_nil) (fun _ _ _ _ _ => (pv 3))) pa_nil))))), ?_⟩
    exact body_D (n := 3) (φ := b_weigh) (ws_ret (we_op rd_addA we_var (we_c1 r1_sum (WE.wb ((wl_lc (js := ([2] ++ ([3] ++ ([4] ++ [])))) (wi_any we_var) (wg_tup (wgs_cons wg_name (wgs_cons wg_name (wgs_cons wg_name wgs_nil)))) (by decide) wt_yes we_var)).we)))) rfl h
theorem sc_driven : FnScope ["cart", "aboard", "speed", "at_once", "ways", "push", "name", "way", "heavy", "leap"] ["cart", "aboard", "speed", "at_once"] (defScope s_driven) := ⟨rfl, rfl, rfl, by decide +kernel, rfl, by decide +kernel, by decide +kernel⟩
theorem ok_driven (T : Tx K mg) : FnOk P w K mg base CX0 4 T.a_driven T.d_driven ["cart", "aboard", "speed", "at_once"] (spD K 4 fn_driven) := by
  refine T.F_driven.ok sc_driven (fun vs H Q E h => ?_) (fun cdv A outer s H vs Q E hr h => ?_)
  · obtain ⟨S, ds, d, hl, _⟩ := h
    exact hl
  · refine ⟨_, (pss_cons (ps_set (i := 4) sc_driven.nd rfl (by first | exact Or.inl rfl | exact Or.inr rfl) (pe_dc (own := [("name", 6), ("way", 7)]) (wi := (iAny K (tVar 3))) (g := (gTup K 2 (gCons (gName 6) (gCons (gName 7) gNil)))) (tt := tYes) (tk := (tVar 6)) (tv := (tVar 7)) rfl sc_driven.nd (pi_any (pv 3)) (blkOk_by (N := ["cart", "aboard", "speed", "at_once", "ways", "push", "name", "way", "heavy", "leap"]) (sc := defScope s_driven) (by decide +kernel)) (fun _ _ _ _ _ => (pg_tup rfl (pgs_cons (pg_name (i := 6) sc_driven.nd rfl (by first | exact Or.inl rfl | exact Or.inr rfl)) (pgs_cons (pg_name (i := 7) sc_driven.nd rfl (by first | exact Or.inl rfl | exact Or.inr rfl)) pgs_nil)))) (fun _ _ _ _ _ => pts_nil) (fun _ _ _ _ _ => (pv 6)) (fun _ _ _ _ _ => (pv 7))))
      (pss_cons (ps_set (i := 5) sc_driven.nd rfl (by first | exact Or.inl rfl | exact Or.inr rfl) (pe_callB (cr_sum rfl) (by rfl) T.z_sum (by decide +kernel) (pa_cons (pe_lc (own := [("name", 6), ("heavy", 8), ("leap", 9)]) (wi := (iAny K (tVar 1))) (g := (gTup K 3 (gCons (gName 6) (gCons (gName 8) (gCons (gName 9) gNil))))) (tt := (tB (tDIn (tVar 6) (tVar 4)))) (te := (tOp (rI CMulW fun i j => .int (i * j)) (tOp (rI CMulW fun i j => .int (i * j)) (tDGet (tVar 4) (tVar 6)) (tVar 8)) (tVar 9))) rfl sc_driven.nd (pi_any (pv 1)) (blkOk_by (N := ["cart", "aboard", "speed", "at_once", "ways", "push", "name", "way", "heavy", "leap"]) (sc := defScope s_driven) (by decide +kernel)) (fun _ _ _ _ _ => (pg_tup rfl (pgs_cons (pg_name (i := 6) sc_driven.nd rfl (by first | exact Or.inl rfl | exact Or.inr rfl)) (pgs_cons (pg_name (i := 8) sc_driven.nd rfl (by first | exact Or.inl rfl | exact Or.inr rfl)) (pgs_cons (pg_name (i := 9) sc_driven.nd rfl (by first | exact Or.inl rfl | exact Or.inr rfl)) pgs_nil))))) (fun _ _ _ _ _ => (pts_one (pt_cmp (pc_din (hu_of hr) (pv 6) (pv 4))))) (fun _ _ _ _ _ => (pe_op op_mulW (pe_op op_mulW (pe_dget (hu_of hr) (pv 4) (pv 6) (fun _ _ => rfl)) (pv 8)) (pv 9)))) pa_nil)))
      (pss_one (ps_ret (pe_call (ok_plus T) (hr.mono (by decide)) (by rfl) T.m_plus T.F_plus.kp T.b_plus .nil pass0 (pa_cons (pv 2) (pa_cons (pe_tup (pa_cons (pe_un un_neg (pv 5)) (pa_cons (pe_call (ok_weigh T) (hr.mono (by decide)) (by rfl) T.m_weigh T.F_weigh.kp T.b_weigh .nil pass0 (pa_cons (pv 0) (pa_cons (pv 1) pa_nil))) pa_nil))) pa_nil))))))), ?_⟩
    exact body_D (n := 6) (φ := b_driven) (ws_seq (ws_asg (we_dc (js := ([6] ++ ([7] ++ []))) (wi_any we_var) (wg_tup (wgs_cons wg_name (wgs_cons wg_name wgs_nil))) (by decide) wt_yes we_var we_var) (wg_name (i := 4)))
      (ws_seq (ws_asg (we_c1 r1_sum (WE.wb ((wl_lc (js := ([6] ++ ([8] ++ ([9] ++ [])))) (wi_any we_var) (wg_tup (wgs_cons wg_name (wgs_cons wg_name (wgs_cons wg_name wgs_nil)))) (by decide) (wt_B (we_din we_var we_var)) (we_op rd_mul (we_op rd_mul (we_dget we_var we_var) we_var) we_var))).we)) (wg_name (i := 5)))
      (ws_ret (we_call (wa_cons we_var (wa_cons (we_tup (wa_cons (we_neg we_var) (wa_cons (we_call (wa_cons we_var (wa_cons we_var wa_nil)) (arn_cons (arn_cons arn_nil))) wa_nil))) wa_nil)) (arn_cons (arn_cons arn_nil)))))) rfl h
theorem sc_still_on : FnScope ["aboard", "at_once", "gone", "one"] ["aboard", "at_once"] (defScope s_still_on) := ⟨rfl, rfl, rfl, by decide +kernel, rfl, by decide +kernel, by decide +kernel⟩
theorem ok_still_on (T : Tx K mg) : FnOk P w K mg base CX0 2 T.a_still_on T.d_still_on ["aboard", "at_once"] (spD K 2 fn_still_on) := by
  refine T.F_still_on.ok sc_still_on (fun vs H Q E h => ?_) (fun cdv A outer s H vs Q E hr h => ?_)
  · obtain ⟨S, ds, d, hl, _⟩ := h
    exact hl
  · refine ⟨_, (pss_cons (ps_set (i := 2) sc_still_on.nd rfl (by first | exact Or.inl rfl | exact Or.inr rfl) (pe_call (ok_names_of T) (hr.mono (by decide)) (by rfl) T.m_names_of T.F_names_of.kp T.b_names_of .nil pass0 (pa_cons (pv 1) pa_nil)))
      (pss_one (ps_ret (pe_callTy call_tuple_of (by rfl) T.z_tuple (by decide +kernel) (pa_cons (pe_lc (own := [("one", 3)]) (wi := (iAny K (tVar 0))) (g := (gName 3)) (tt := (tTest (tOp (rInA K true) (tOp (rIx K) (tVar 3) (tC (.int 0))) (tVar 2)))) (te := (tVar 3)) rfl sc_still_on.nd (pi_any (pv 0)) (blkOk_by (N := ["aboard", "at_once", "gone", "one"]) (sc := defScope s_still_on) (by decide +kernel)) (fun _ _ _ _ _ => (pg_name (i := 3) sc_still_on.nd rfl (by first | exact Or.inl rfl | exact Or.inr rfl))) (fun _ _ _ _ _ => (pts_one (pt_cmpR op_notInA (pe_ix ix_seq (pv 3) pe_int (fun _ _ => rfl)) (pv 2) (by with_unfolding_all rfl)))) (fun _ _ _ _ _ => (pv 3))) pa_nil))))), ?_⟩
    exact body_D (n := 2) (φ := b_still_on) (ws_seq (ws_asg (we_call (wa_cons we_var wa_nil) (arn_cons arn_nil)) (wg_name (i := 2)))
      (ws_ret (we_c1 r1_tuple (WE.wb ((wl_lc (js := [3]) (wi_any we_var) wg_name (by decide) (wt_test (we_op rd_notInA (we_op rd_ix we_var we_int) we_var)) we_var)).we)))) rfl h
theorem sc_speeds : FnScope ["cart", "folk", "speed", "leaps", "aboard", "now", "found", "at_once"] ["cart", "folk", "speed", "leaps"] (defScope s_speeds) := ⟨rfl, rfl, rfl, by decide +kernel, rfl, by decide +kernel, by decide +kernel⟩
theorem ok_speeds (T : Tx K mg) : FnOk P w K mg base CX0 5 T.a_speeds T.d_speeds ["cart", "folk", "speed", "leaps"] (spL K 4 fn_speeds) := by
  refine T.F_speeds.ok sc_speeds (fun vs H Q E h => ?_) (fun cdv A outer s H vs Q E hr h => ?_)
  · obtain ⟨S, ds, d, hl, _⟩ := h
    exact hl
  · refine ⟨_, (pss_cons (ps_set (i := 4) sc_speeds.nd rfl (by first | exact Or.inl rfl | exact Or.inr rfl) (pv 1))
      (pss_cons (ps_set (i := 5) sc_speeds.nd rfl (by first | exact Or.inl rfl | exact Or.inr rfl) (pv 2))
      (pss_cons (ps_set (i := 6) sc_speeds.nd rfl (by first | exact Or.inl rfl | exact Or.inr rfl) (pe_lst pa_nil))
      (pss_cons (ps_for PassesOwn.never rfl (pi_any (pv 3)) (pg_name (i := 7) sc_speeds.nd rfl (by first | exact Or.inl rfl | exact Or.inr rfl)) (pss_cons (ps_set (i := 5) sc_speeds.nd rfl (by first | exact Or.inl rfl | exact Or.inr rfl) (pe_call (ok_driven T) (hr.mono (by decide)) (by rfl) T.m_driven T.F_driven.kp T.b_driven .nil pass0 (pa_cons (pv 0) (pa_cons (pv 4) (pa_cons (pv 5) (pa_cons (pv 7) pa_nil))))))
      (pss_cons (ps_set (i := 4) sc_speeds.nd rfl (by first | exact Or.inl rfl | exact Or.inr rfl) (pe_call (ok_still_on T) (hr.mono (by decide)) (by rfl) T.m_still_on T.F_still_on.kp T.b_still_on .nil pass0 (pa_cons (pv 4) (pa_cons (pv 7) pa_nil))))
      (pss_one (ps_expr (pe_bm PySem.F.plainAttrs_list PySem.F.slot_list_append PySem.F.type_list_append mt_append (pv 6) (pa_cons (pv 5) pa_nil)))))))
      (pss_one (ps_ret (pv 6))))))), ?_⟩
    exact body_L (n := 4) (φ := b_speeds) (ws_seq (ws_asg we_var (wg_name (i := 4)))
      (ws_seq (ws_asg we_var (wg_name (i := 5)))
      (ws_seq (ws_own (i := 6) (wl_lst wa_nil))
      (ws_seq (ws_for (wi_any we_var) wg_name (ws_seq (ws_asg (we_call (wa_cons we_var (wa_cons we_var (wa_cons we_var (wa_cons we_var wa_nil)))) (arn_cons (arn_cons (arn_cons (arn_cons arn_nil))))) (wg_name (i := 5)))
      (ws_seq (ws_asg (we_call (wa_cons we_var (wa_cons we_var wa_nil)) (arn_cons (arn_cons arn_nil))) (wg_name (i := 4)))
      (ws_app (i := 6) we_var))))
      ws_retO)))) rfl h
theorem sc_leap_by_name : FnScope ["folk", "name", "heavy", "leap"] ["folk"] (defScope s_leap_by_name) := ⟨rfl, rfl, rfl, by decide +kernel, rfl, by decide +kernel, by decide +kernel⟩
theorem ok_leap_by_name (T : Tx K mg) : FnOk P w K mg base CX0 1 T.a_leap_by_name T.d_leap_by_name ["folk"] (spD K 1 fn_leap_by_name) := by
  refine T.F_leap_by_name.ok sc_leap_by_name (fun vs H Q E h => ?_) (fun cdv A outer s H vs Q E hr h => ?_)
  · obtain ⟨S, ds, d, hl, _⟩ := h
    exact hl
  · refine ⟨_, (pss_one (ps_ret (pe_dc (own := [("name", 1), ("heavy", 2), ("leap", 3)]) (wi := (iAny K (tVar 0))) (g := (gTup K 3 (gCons (gName 1) (gCons (gName 2) (gCons (gName 3) gNil))))) (tt := tYes) (tk := (tVar 1)) (tv := (tVar 3)) rfl sc_leap_by_name.nd (pi_any (pv 0)) (blkOk_by (N := ["folk", "name", "heavy", "leap"]) (sc := defScope s_leap_by_name) (by decide +kernel)) (fun _ _ _ _ _ => (pg_tup rfl (pgs_cons (pg_name (i := 1) sc_leap_by_name.nd rfl (by first | exact Or.inl rfl | exact Or.inr rfl)) (pgs_cons (pg_name (i := 2) sc_leap_by_name.nd rfl (by first | exact Or.inl rfl | exact Or.inr rfl)) (pgs_cons (pg_name (i := 3) sc_leap_by_name.nd rfl (by first | exact Or.inl rfl | exact Or.inr rfl)) pgs_nil))))) (fun _ _ _ _ _ => pts_nil) (fun _ _ _ _ _ => (pv 1)) (fun _ _ _ _ _ => (pv 3))))), ?_⟩
    exact body_D (n := 3) (φ := b_leap_by_name) (ws_ret (we_dc (js := ([1] ++ ([2] ++ ([3] ++ [])))) (wi_any we_var) (wg_tup (wgs_cons wg_name (wgs_cons wg_name (wgs_cons wg_name wgs_nil)))) (by decide) wt_yes we_var we_var)) rfl h
theorem sc_leaper_speeds : FnScope ["fast", "behind", "at_once", "name", "way"] ["fast", "behind", "at_once"] (defScope s_leaper_speeds) := ⟨rfl, rfl, rfl, by decide +kernel, rfl, by decide +kernel, by decide +kernel⟩
theorem ok_leaper_speeds (T : Tx K mg) : FnOk P w K mg base CX0 2 T.a_leaper_speeds T.d_leaper_speeds ["fast", "behind", "at_once"] (spD K 3 fn_leaper_speeds) := by
  refine T.F_leaper_speeds.ok sc_leaper_speeds (fun vs H Q E h => ?_) (fun cdv A outer s H vs Q E hr h => ?_)
  · obtain ⟨S, ds, d, hl, _⟩ := h
    exact hl
  · refine ⟨_, (pss_one (ps_ret (pe_lc (own := [("name", 3), ("way", 4)]) (wi := (iAny K (tVar 2))) (g := (gTup K 2 (gCons (gName 3) (gCons (gName 4) gNil)))) (tt := tYes) (te := (tTup (tCons (tVar 3) (tCons (tCall (spD K 2 fn_plus_whole) [] E0 (tCons (tVar 1) (tCons (tOp (rI CMulW fun i j => .int (i * j)) (tVar 4) (tDGet (tVar 0) (tVar 3))) tNil))) tNil)))) rfl sc_leaper_speeds.nd (pi_any (pv 2)) (blkOk_by (N := ["fast", "behind", "at_once", "name", "way"]) (sc := defScope s_leaper_speeds) (by decide +kernel)) (fun _ _ _ _ _ => (pg_tup rfl (pgs_cons (pg_name (i := 3) sc_leaper_speeds.nd rfl (by first | exact Or.inl rfl | exact Or.inr rfl)) (pgs_cons (pg_name (i := 4) sc_leaper_speeds.nd rfl (by first | exact Or.inl rfl | exact Or.inr rfl)) pgs_nil)))) (fun _ _ _ _ _ => pts_nil) (fun _ _ _ _ _ => (pe_tup (pa_cons (pv 3) (pa_cons (pe_call (ok_plus_whole T) (hr.mono (by decide)) (by rfl) T.m_plus_whole T.F_plus_whole.kp T.b_plus_whole .nil pass0 (pa_cons (pv 1) (pa_cons (pe_op op_mulW (pv 4) (pe_dget (hu_of hr) (pv 0) (pv 3) (fun _ _ => rfl))) pa_nil))) pa_nil))))))), ?_⟩
    exact body_D (n := 2) (φ := b_leaper_speeds) (ws_retL (wl_lc (js := ([3] ++ ([4] ++ []))) (wi_any we_var) (wg_tup (wgs_cons wg_name (wgs_cons wg_name wgs_nil))) (by decide) wt_yes (we_tup (wa_cons we_var (wa_cons (we_call (wa_cons we_var (wa_cons (we_op rd_mul we_var (we_dget we_var we_var)) wa_nil)) (arn_cons (arn_cons arn_nil))) wa_nil))))) rfl h
theorem sc_run_on : FnScope ["place", "speed", "since", "hour"] ["place", "speed", "since", "hour"] (defScope s_run_on) := ⟨rfl, rfl, rfl, by decide +kernel, rfl, by decide +kernel, by decide +kernel⟩
theorem ok_run_on (T : Tx K mg) : FnOk P w K mg base CX0 4 T.a_run_on T.d_run_on ["place", "speed", "since", "hour"] (spD K 4 fn_run_on) := by
  refine T.F_run_on.ok sc_run_on (fun vs H Q E h => ?_) (fun cdv A outer s H vs Q E hr h => ?_)
  · obtain ⟨S, ds, d, hl, _⟩ := h
    exact hl
  · refine ⟨_, (pss_one (ps_ret (pe_call (ok_plus T) (hr.mono (by decide)) (by rfl) T.m_plus T.F_plus.kp T.b_plus .nil pass0 (pa_cons (pv 0) (pa_cons (pe_call (ok_times T) (hr.mono (by decide)) (by rfl) T.m_times T.F_times.kp T.b_times .nil pass0 (pa_cons (pv 1) (pa_cons (pe_call (ok_plus_whole T) (hr.mono (by decide)) (by rfl) T.m_plus_whole T.F_plus_whole.kp T.b_plus_whole .nil pass0 (pa_cons (pv 3) (pa_cons (pe_un un_neg (pv 2)) pa_nil))) pa_nil))) pa_nil))))), ?_⟩
    exact body_D (n := 0) (φ := b_run_on) (ws_ret (we_call (wa_cons we_var (wa_cons (we_call (wa_cons we_var (wa_cons (we_call (wa_cons we_var (wa_cons (we_neg we_var) wa_nil)) (arn_cons (arn_cons arn_nil))) wa_nil)) (arn_cons (arn_cons arn_nil))) wa_nil)) (arn_cons (arn_cons arn_nil)))) rfl h
theorem sc_places : FnScope ["cart", "folk", "timed", "hour", "done", "behind_each", "fast", "place", "now", "since", "leapt", "at", "at_once", "behind", "name", "own"] ["cart", "folk", "timed", "hour"] (defScope s_places) := ⟨rfl, rfl, rfl, by decide +kernel, rfl, by decide +kernel, by decide +kernel⟩
theorem ok_places (T : Tx K mg) : FnOk P w K mg base CX0 6 T.a_places T.d_places ["cart", "folk", "timed", "hour"] (spL K 4 fn_places) := by
  refine T.F_places.ok sc_places (fun vs H Q E h => ?_) (fun cdv A outer s H vs Q E hr h => ?_)
  · obtain ⟨S, ds, d, hl, _⟩ := h
    exact hl
  · refine ⟨_, (pss_cons (ps_setLc (i := 4) (own := [("at", 11), ("at_once", 12)]) (wi := (iAny K (tVar 2))) (g := (gTup K 2 (gCons (gName 11) (gCons (gName 12) gNil)))) (tt := (tTest (tOp rLeA (tOp (rI CMulW fun i j => .int (i * j)) (tVar 11) (tOp (rIx K) (tVar 3) (tC (.int 1)))) (tOp (rIx K) (tVar 3) (tC (.int 0)))))) (te := (tTup (tCons (tVar 11) (tCons (tVar 12) tNil)))) rfl sc_places.nd (by rfl) (by rfl) (sw_true rfl rfl rfl (by decide +kernel)) (pi_any (pv 2)) (blkOk_by (N := ["cart", "folk", "timed", "hour", "done", "behind_each", "fast", "place", "now", "since", "leapt", "at", "at_once", "behind", "name", "own"]) (sc := defScope s_places) (by decide +kernel)) (fun _ _ _ _ _ => (pg_tup rfl (pgs_cons (pg_name (i := 11) sc_places.nd rfl (by first | exact Or.inl rfl | exact Or.inr rfl)) (pgs_cons (pg_name (i := 12) sc_places.nd rfl (by first | exact Or.inl rfl | exact Or.inr rfl)) pgs_nil)))) (fun _ _ _ _ _ => (pts_one (pt_cmpR op_leA (pe_op op_mulW (pv 11) (pe_ix ix_seq (pv 3) pe_int (fun _ _ => rfl))) (pe_ix ix_seq (pv 3) pe_int (fun _ _ => rfl)) (nomark _)))) (fun _ _ _ _ _ => (pe_tup (pa_cons (pv 11) (pa_cons (pv 12) pa_nil)))))
      (pss_cons (ps_set (i := 5) sc_places.nd rfl (by first | exact Or.inl rfl | exact Or.inr rfl) (pe_call (ok_speeds T) (hr.mono (by decide)) (by rfl) T.m_speeds T.F_speeds.kp T.b_speeds .nil pass0 (pa_cons (pv 0) (pa_cons (pv 1) (pa_cons (pe_glob (v := .ref T.a_NOUGHT) (by rfl) T.m_NOUGHT rfl) (pa_cons (pe_lc (own := [("at", 11), ("at_once", 12)]) (wi := (iAny K (tVar 4))) (g := (gTup K 2 (gCons (gName 11) (gCons (gName 12) gNil)))) (tt := tYes) (te := (tVar 12)) rfl sc_places.nd (pi_any (pv 4)) (blkOk_by (N := ["cart", "folk", "timed", "hour", "done", "behind_each", "fast", "place", "now", "since", "leapt", "at", "at_once", "behind", "name", "own"]) (sc := defScope s_places) (by decide +kernel)) (fun _ _ _ _ _ => (pg_tup rfl (pgs_cons (pg_name (i := 11) sc_places.nd rfl (by first | exact Or.inl rfl | exact Or.inr rfl)) (pgs_cons (pg_name (i := 12) sc_places.nd rfl (by first | exact Or.inl rfl | exact Or.inr rfl)) pgs_nil)))) (fun _ _ _ _ _ => pts_nil) (fun _ _ _ _ _ => (pv 12))) pa_nil))))))
      (pss_cons (ps_set (i := 6) sc_places.nd rfl (by first | exact Or.inl rfl | exact Or.inr rfl) (pe_call (ok_leap_by_name T) (hr.mono (by decide)) (by rfl) T.m_leap_by_name T.F_leap_by_name.kp T.b_leap_by_name .nil pass0 (pa_cons (pv 1) pa_nil)))
      (pss_cons (ps_set (i := 7) sc_places.nd rfl (by first | exact Or.inl rfl | exact Or.inr rfl) (pe_glob (v := .ref T.a_NOUGHT) (by rfl) T.m_NOUGHT rfl))
      (pss_cons (ps_set (i := 8) sc_places.nd rfl (by first | exact Or.inl rfl | exact Or.inr rfl) (pe_glob (v := .ref T.a_NOUGHT) (by rfl) T.m_NOUGHT rfl))
      (pss_cons (ps_set (i := 9) sc_places.nd rfl (by first | exact Or.inl rfl | exact Or.inr rfl) pe_int)
      (pss_cons (ps_set (i := 10) sc_places.nd rfl (by first | exact Or.inl rfl | exact Or.inr rfl) pe_dnewK)
      (pss_cons (ps_for PassesOwn.never rfl (pi_zipA (by rfl) T.z_zip (pa_cons (pv 4) (pa_cons (pv 5) pa_nil))) (pg_tup rfl (pgs_cons (pg_tup rfl (pgs_cons (pg_name (i := 11) sc_places.nd rfl (by first | exact Or.inl rfl | exact Or.inr rfl)) (pgs_cons (pg_name (i := 12) sc_places.nd rfl (by first | exact Or.inl rfl | exact Or.inr rfl)) pgs_nil))) (pgs_cons (pg_name (i := 13) sc_places.nd rfl (by first | exact Or.inl rfl | exact Or.inr rfl)) pgs_nil))) (pss_cons (ps_set (i := 7) sc_places.nd rfl (by first | exact Or.inl rfl | exact Or.inr rfl) (pe_call (ok_run_on T) (hr.mono (by decide)) (by rfl) T.m_run_on T.F_run_on.kp T.b_run_on .nil pass0 (pa_cons (pv 7) (pa_cons (pv 8) (pa_cons (pv 9) (pa_cons (pe_tup (pa_cons (pv 11) (pa_cons pe_int pa_nil))) pa_nil))))))
      (pss_cons (ps_for PassesOwn.never rfl (pi_any (pe_call (ok_leaper_speeds T) (hr.mono (by decide)) (by rfl) T.m_leaper_speeds T.F_leaper_speeds.kp T.b_leaper_speeds .nil pass0 (pa_cons (pv 6) (pa_cons (pv 13) (pa_cons (pv 12) pa_nil))))) (pg_tup rfl (pgs_cons (pg_name (i := 14) sc_places.nd rfl (by first | exact Or.inl rfl | exact Or.inr rfl)) (pgs_cons (pg_name (i := 15) sc_places.nd rfl (by first | exact Or.inl rfl | exact Or.inr rfl)) pgs_nil))) (pss_one (ps_dput (hu_of hr) (pv 10) (pv 14) (pe_call (ok_run_on T) (hr.mono (by decide)) (by rfl) T.m_run_on T.F_run_on.kp T.b_run_on .nil pass0 (pa_cons (pv 7) (pa_cons (pv 15) (pa_cons (pv 11) (pa_cons (pv 3) pa_nil))))) (by rfl))))
      (pss_cons (ps_set (i := 8) sc_places.nd rfl (by first | exact Or.inl rfl | exact Or.inr rfl) (pv 13))
      (pss_one (ps_set (i := 9) sc_places.nd rfl (by first | exact Or.inl rfl | exact Or.inr rfl) (pv 11)))))))
      (pss_cons (ps_set (i := 7) sc_places.nd rfl (by first | exact Or.inl rfl | exact Or.inr rfl) (pe_call (ok_run_on T) (hr.mono (by decide)) (by rfl) T.m_run_on T.F_run_on.kp T.b_run_on .nil pass0 (pa_cons (pv 7) (pa_cons (pv 8) (pa_cons (pv 9) (pa_cons (pv 3) pa_nil))))))
      (pss_one (ps_ret (pe_op op_addA (pe_lst (pa_cons (pe_tup (pa_cons pe_str (pa_cons (pv 7) pa_nil))) pa_nil)) (pe_lc (own := [("name", 14)]) (wi := (iAny K (tCall (spD K 1 fn_names_of) [] E0 (tCons (tVar 1) tNil)))) (g := (gName 14)) (tt := tYes) (te := (tTup (tCons (tVar 14) (tCons (tDGet2 (tVar 10) (tVar 14) (tVar 7)) tNil)))) rfl sc_places.nd (pi_any (pe_call (ok_names_of T) (hr.mono (by decide)) (by rfl) T.m_names_of T.F_names_of.kp T.b_names_of .nil pass0 (pa_cons (pv 1) pa_nil))) (blkOk_by (N := ["cart", "folk", "timed", "hour", "done", "behind_each", "fast", "place", "now", "since", "leapt", "at", "at_once", "behind", "name", "own"]) (sc := defScope s_places) (by decide +kernel)) (fun _ _ _ _ _ => (pg_name (i := 14) sc_places.nd rfl (by first | exact Or.inl rfl | exact Or.inr rfl))) (fun _ _ _ _ _ => pts_nil) (fun _ _ _ _ _ => (pe_tup (pa_cons (pv 14) (pa_cons (pe_dget2 (hu_of hr) (pv 10) (pv 14) (pv 7) ⟨by rfl, by rfl, by rfl, by rfl⟩) pa_nil))))))))))))))))), ?_⟩
    exact body_L (n := 12) (φ := b_places) (ws_seq (ws_asg ((wl_lc (js := ([11] ++ ([12] ++ []))) (wi_any we_var) (wg_tup (wgs_cons wg_name (wgs_cons wg_name wgs_nil))) (by decide) (wt_test (we_op rd_leA (we_op rd_mul we_var (we_op rd_ix we_var we_int)) (we_op rd_ix we_var we_int))) (we_tup (wa_cons we_var (wa_cons we_var wa_nil))))).we (wg_name (i := 4)))
      (ws_seq (ws_asg ((wl_call (wa_cons we_var (wa_cons we_var (wa_cons (we_ktup T.k_NOUGHT (fun H => RpAll.of_ints [(0), (1)])) (wa_cons ((wl_lc (js := ([11] ++ ([12] ++ []))) (wi_any we_var) (wg_tup (wgs_cons wg_name (wgs_cons wg_name wgs_nil))) (by decide) wt_yes we_var)).we wa_nil)))) (arn_cons (arn_cons (arn_cons (arn_cons arn_nil)))))).we (wg_name (i := 5)))
      (ws_seq (ws_asg (we_call (wa_cons we_var wa_nil) (arn_cons arn_nil)) (wg_name (i := 6)))
      (ws_seq (ws_asg (we_ktup T.k_NOUGHT (fun H => RpAll.of_ints [(0), (1)])) (wg_name (i := 7)))
      (ws_seq (ws_asg (we_ktup T.k_NOUGHT (fun H => RpAll.of_ints [(0), (1)])) (wg_name (i := 8)))
      (ws_seq (ws_asg we_int (wg_name (i := 9)))
      (ws_seq (ws_ownD (i := 10) wd_new)
      (ws_seq (ws_for (wi_zip we_var we_var) (wg_tup (wgs_cons (wg_tup (wgs_cons wg_name (wgs_cons wg_name wgs_nil))) (wgs_cons wg_name wgs_nil))) (ws_seq (ws_asg (we_call (wa_cons we_var (wa_cons we_var (wa_cons we_var (wa_cons (we_tup (wa_cons we_var (wa_cons we_int wa_nil))) wa_nil)))) (arn_cons (arn_cons (arn_cons (arn_cons arn_nil))))) (wg_name (i := 7)))
      (ws_seq (ws_for (wi_any (we_call (wa_cons we_var (wa_cons we_var (wa_cons we_var wa_nil))) (arn_cons (arn_cons (arn_cons arn_nil))))) (wg_tup (wgs_cons wg_name (wgs_cons wg_name wgs_nil))) (ws_dput we_var (we_call (wa_cons we_var (wa_cons we_var (wa_cons we_var (wa_cons we_var wa_nil)))) (arn_cons (arn_cons (arn_cons (arn_cons arn_nil)))))))
      (ws_seq (ws_asg we_var (wg_name (i := 8)))
      (ws_asg we_var (wg_name (i := 9)))))))
      (ws_seq (ws_asg (we_call (wa_cons we_var (wa_cons we_var (wa_cons we_var (wa_cons we_var wa_nil)))) (arn_cons (arn_cons (arn_cons (arn_cons arn_nil))))) (wg_name (i := 7)))
      (ws_frzD (i := 10) (ws_retL (wl_addL ((wl_lst (wa_cons (we_tup (wa_cons we_str (wa_cons we_var wa_nil))) wa_nil))).we ((wl_lc (js := [14]) (wi_any (we_call (wa_cons we_var wa_nil) (arn_cons arn_nil))) wg_name (by decide) wt_yes (we_tup (wa_cons we_var (wa_cons (we_dget2 we_var we_var we_var) wa_nil))))).we)))))))))))) rfl h
theorem sc__law_bag : FnScope ["script", "k", "cell"] ["script", "k"] (defScope s__law_bag) := ⟨rfl, rfl, rfl, by decide +kernel, rfl, by decide +kernel, by decide +kernel⟩
theorem ok__law_bag (T : Tx K mg) : FnOk P w K mg base CX0 1 T.a__law_bag T.d__law_bag ["script", "k"] (spL K 2 fn__law_bag) := by
  refine T.F__law_bag.ok sc__law_bag (fun vs H Q E h => ?_) (fun cdv A outer s H vs Q E hr h => ?_)
  · obtain ⟨S, ds, d, hl, _⟩ := h
    exact hl
  · refine ⟨_, (pss_cons (ps_set (i := 2) sc__law_bag.nd rfl (by first | exact Or.inl rfl | exact Or.inr rfl) pe_int)
      (pss_cons (ps_if (pt_cmpR op_ltA (pv 1) (pe_callB call_len (by rfl) T.z_len (by decide +kernel) (pa_cons (pv 0) pa_nil)) (nomark _)) (pss_one (ps_set (i := 2) sc__law_bag.nd rfl (by first | exact Or.inl rfl | exact Or.inr rfl) (pe_callB call_abs (by rfl) T.z_abs (by decide +kernel) (pa_cons (pe_ix ix_seq (pv 0) (pv 1) (fun _ _ => rfl)) pa_nil)))) pss_nil)
      (pss_cons (ps_if (pt_cmpR op_ltA (pv 2) (pe_op op_pow pe_int pe_int) (nomark _)) (pss_one (ps_ret (pe_lst (pa_cons pe_int (pa_cons (pe_op op_addA pe_int (pe_op op_mod (pe_op op_addA (pe_op op_mulW (pv 2) pe_int) (pe_op op_mulW pe_int (pv 1))) pe_int)) pa_nil))))) pss_nil)
      (pss_one (ps_ret (pe_lst (pa_cons (pv 2) (pa_cons (pe_op op_addA pe_int (pe_op op_mod (pe_op op_addA (pv 2) (pv 1)) pe_int)) pa_nil)))))))), ?_⟩
    exact body_L (n := 1) (φ := b__law_bag) (ws_seq (ws_asg we_int (wg_name (i := 2)))
      (ws_seq (ws_if (wt_test (we_op rd_ltA we_var (we_c1 r1_len (WE.wb we_var)))) (ws_asg (we_c1 r1_abs (WE.wb (we_op rd_ix we_var we_var))) (wg_name (i := 2))) ws_next)
      (ws_seq (ws_if (wt_test (we_op rd_ltA we_var (we_op rd_pow we_int we_int))) (ws_retL (wl_lst (wa_cons we_int (wa_cons (we_op rd_addA we_int (we_op rd_mod (we_op rd_addA (we_op rd_mul we_var we_int) (we_op rd_mul we_int we_var)) we_int)) wa_nil)))) ws_next)
      (ws_retL (wl_lst (wa_cons we_var (wa_cons (we_op rd_addA we_int (we_op rd_mod (we_op rd_addA we_var we_var) we_int)) wa_nil))))))) rfl h
theorem sc__law_take : FnScope ["bag", "many", "found"] ["bag", "many"] (defScope s__law_take) := ⟨rfl, rfl, rfl, by decide +kernel, rfl, by decide +kernel, by decide +kernel⟩
theorem ok__law_take (T : Tx K mg) : FnOk P w K mg base CX0 1 T.a__law_take T.d__law_take ["bag", "many"] (spB K 2 fn__law_take) := by
  refine T.F__law_take.ok sc__law_take (fun vs H Q E h => ?_) (fun cdv A outer s H vs Q E hr h => ?_)
  · obtain ⟨S, b, us, bg, ws, ds, d, bg', _, hl, _⟩ := h
    exact hl
  · refine ⟨_, (pss_cons (ps_if (pt_cmpR op_gt (pe_ix ix_seq (pv 0) pe_int (fun _ _ => rfl)) pe_int (nomark _)) (pss_cons (ps_set (i := 2) sc__law_take.nd rfl (by first | exact Or.inl rfl | exact Or.inr rfl) (pe_op op_mod (pe_ix ix_seq (pv 0) pe_int (fun _ _ => rfl)) (pv 1)))
      (pss_cons (ps_asg (pe_op op_fdivW (pe_ix ix_seq (pv 0) pe_int (fun _ _ => rfl)) (pv 1)) (pg_sub (pv 0) pe_int set_list))
      (pss_one (ps_ret (pv 2))))) pss_nil)
      (pss_cons (ps_asg (pe_op op_mod (pe_op op_mulW (pe_ix ix_seq (pv 0) pe_int (fun _ _ => rfl)) pe_int) pe_int) (pg_sub (pv 0) pe_int set_list))
      (pss_one (ps_ret (pe_op op_mod (pe_op op_fdivW (pe_op op_mod (pe_op op_mulW (pe_ix ix_seq (pv 0) pe_int (fun _ _ => rfl)) (pe_ix ix_seq (pv 0) pe_int (fun _ _ => rfl))) pe_int) pe_int) (pv 1)))))), ?_⟩
    exact body_B (n := 1) (φ := b__law_take) (ws_seq (ws_if (wt_test (we_op rd_gt (we_ixO we_int) we_int)) (ws_seq (ws_asg (we_op rd_mod (we_ixO we_int) we_var) (wg_name (i := 2)))
      (ws_seq (ws_setIx (we_op rd_div (we_ixO we_int) we_var) we_int)
      (ws_ret we_var))) ws_next)
      (ws_seq (ws_setIx (we_op rd_mod (we_op rd_mul (we_ixO we_int) we_int) we_int) we_int)
      (ws_ret (we_op rd_mod (we_op rd_div (we_op rd_mod (we_op rd_mul (we_ixO we_int) (we_ixO we_int)) we_int) we_int) we_var)))) rfl h
theorem sc__law_lowest : FnScope ["top", "bottom", "one", "other"] ["top", "bottom"] (defScope s__law_lowest) := ⟨rfl, rfl, rfl, by decide +kernel, rfl, by decide +kernel, by decide +kernel⟩
theorem ok__law_lowest (T : Tx K mg) : FnOk P w K mg base CX0 1 T.a__law_lowest T.d__law_lowest ["top", "bottom"] (spD K 2 fn__law_lowest) := by
  refine T.F__law_lowest.ok sc__law_lowest (fun vs H Q E h => ?_) (fun cdv A outer s H vs Q E hr h => ?_)
  · obtain ⟨S, ds, d, hl, _⟩ := h
    exact hl
  · refine ⟨_, (pss_cons (ps_par (i := 2) (j := 3) (by rfl) sc__law_lowest.nd rfl rfl (by decide) rfl rfl (pa_cons (pe_callB call_abs (by rfl) T.z_abs (by decide +kernel) (pa_cons (pv 0) pa_nil)) (pa_cons (pv 1) pa_nil)) (by rfl))
      (pss_cons (ps_while PassesOwn.never (pt_cmpR op_gt (pv 3) pe_int (nomark _)) (pss_one (ps_par (i := 2) (j := 3) (by rfl) sc__law_lowest.nd rfl rfl (by decide) rfl rfl (pa_cons (pv 3) (pa_cons (pe_op op_mod (pv 2) (pv 3)) pa_nil)) (by rfl))))
      (pss_one (ps_ret (pe_tup (pa_cons (pe_op op_fdivW (pv 0) (pv 2)) (pa_cons (pe_op op_fdivW (pv 1) (pv 2)) pa_nil))))))), ?_⟩
    exact body_D (n := 2) (φ := b__law_lowest) (ws_seq (ws_par (i := 2) (j := 3) (wa_cons (we_c1 r1_abs (WE.wb we_var)) (wa_cons we_var wa_nil)))
      (ws_seq (ws_while (wt_test (we_op rd_gt we_var we_int)) (ws_par (i := 2) (j := 3) (wa_cons we_var (wa_cons (we_op rd_mod we_var we_var) wa_nil))))
      (ws_ret (we_tup (wa_cons (we_op rd_div we_var we_var) (wa_cons (we_op rd_div we_var we_var) wa_nil)))))) rfl h
theorem sc__law_plus : FnScope ["one", "other"] ["one", "other"] (defScope s__law_plus) := ⟨rfl, rfl, rfl, by decide +kernel, rfl, by decide +kernel, by decide +kernel⟩
theorem ok__law_plus (T : Tx K mg) : FnOk P w K mg base CX0 2 T.a__law_plus T.d__law_plus ["one", "other"] (spD K 2 fn__law_plus) := by
  refine T.F__law_plus.ok sc__law_plus (fun vs H Q E h => ?_) (fun cdv A outer s H vs Q E hr h => ?_)
  · obtain ⟨S, ds, d, hl, _⟩ := h
    exact hl
  · refine ⟨_, (pss_one (ps_ret (pe_call (ok__law_lowest T) (hr.mono (by decide)) (by rfl) T.m__law_lowest T.F__law_lowest.kp T.b__law_lowest .nil pass0 (pa_cons (pe_op op_addA (pe_op op_mulW (pe_ix ix_seq (pv 0) pe_int (fun _ _ => rfl)) (pe_ix ix_seq (pv 1) pe_int (fun _ _ => rfl))) (pe_op op_mulW (pe_ix ix_seq (pv 1) pe_int (fun _ _ => rfl)) (pe_ix ix_seq (pv 0) pe_int (fun _ _ => rfl)))) (pa_cons (pe_op op_mulW (pe_ix ix_seq (pv 0) pe_int (fun _ _ => rfl)) (pe_ix ix_seq (pv 1) pe_int (fun _ _ => rfl))) pa_nil))))), ?_⟩
    exact body_D (n := 0) (φ := b__law_plus) (ws_ret (we_call (wa_cons (we_op rd_addA (we_op rd_mul (we_op rd_ix we_var we_int) (we_op rd_ix we_var we_int)) (we_op rd_mul (we_op rd_ix we_var we_int) (we_op rd_ix we_var we_int))) (wa_cons (we_op rd_mul (we_op rd_ix we_var we_int) (we_op rd_ix we_var we_int)) wa_nil)) (arn_cons (arn_cons arn_nil)))) rfl h
theorem sc__law_times : FnScope ["part", "by"] ["part", "by"] (defScope s__law_times) := ⟨rfl, rfl, rfl, by decide +kernel, rfl, by decide +kernel, by decide +kernel⟩
theorem ok__law_times (T : Tx K mg) : FnOk P w K mg base CX0 2 T.a__law_times T.d__law_times ["part", "by"] (spD K 2 fn__law_times) := by
  refine T.F__law_times.ok sc__law_times (fun vs H Q E h => ?_) (fun cdv A outer s H vs Q E hr h => ?_)
  · obtain ⟨S, ds, d, hl, _⟩ := h
    exact hl
  · refine ⟨_, (pss_one (ps_ret (pe_call (ok__law_lowest T) (hr.mono (by decide)) (by rfl) T.m__law_lowest T.F__law_lowest.kp T.b__law_lowest .nil pass0 (pa_cons (pe_op op_mulW (pe_ix ix_seq (pv 0) pe_int (fun _ _ => rfl)) (pv 1)) (pa_cons (pe_ix ix_seq (pv 0) pe_int (fun _ _ => rfl)) pa_nil))))), ?_⟩
    exact body_D (n := 0) (φ := b__law_times) (ws_ret (we_call (wa_cons (we_op rd_mul (we_op rd_ix we_var we_int) we_var) (wa_cons (we_op rd_ix we_var we_int) wa_nil)) (arn_cons (arn_cons arn_nil)))) rfl h
theorem sc__law_less : FnScope ["one", "other"] ["one", "other"] (defScope s__law_less) := ⟨rfl, rfl, rfl, by decide +kernel, rfl, by decide +kernel, by decide +kernel⟩
theorem ok__law_less (T : Tx K mg) : FnOk P w K mg base CX0 1 T.a__law_less T.d__law_less ["one", "other"] (spD K 2 fn__law_less) := by
  refine T.F__law_less.ok sc__law_less (fun vs H Q E h => ?_) (fun cdv A outer s H vs Q E hr h => ?_)
  · obtain ⟨S, ds, d, hl, _⟩ := h
    exact hl
  · refine ⟨_, (pss_one (ps_ret (pe_cmpR op_ltA (pe_op op_mulW (pe_ix ix_seq (pv 0) pe_int (fun _ _ => rfl)) (pe_ix ix_seq (pv 1) pe_int (fun _ _ => rfl))) (pe_op op_mulW (pe_ix ix_seq (pv 1) pe_int (fun _ _ => rfl)) (pe_ix ix_seq (pv 0) pe_int (fun _ _ => rfl))) (nomark _)))), ?_⟩
    exact body_D (n := 0) (φ := b__law_less) (ws_ret (we_op rd_ltA (we_op rd_mul (we_op rd_ix we_var we_int) (we_op rd_ix we_var we_int)) (we_op rd_mul (we_op rd_ix we_var we_int) (we_op rd_ix we_var we_int)))) rfl h
theorem sc__law_cart : FnScope ["bag"] ["bag"] (defScope s__law_cart) := ⟨rfl, rfl, rfl, by decide +kernel, rfl, by decide +kernel, by decide +kernel⟩
theorem ok__law_cart (T : Tx K mg) : FnOk P w K mg base CX0 2 T.a__law_cart T.d__law_cart ["bag"] (spB K 1 fn__law_cart) := by
  refine T.F__law_cart.ok sc__law_cart (fun vs H Q E h => ?_) (fun cdv A outer s H vs Q E hr h => ?_)
  · obtain ⟨S, b, us, bg, ws, ds, d, bg', _, hl, _⟩ := h
    exact hl
  · refine ⟨_, (pss_one (ps_ret (pe_op op_addA pe_int (pe_call (ok__law_take T) (hr.mono (by decide)) (by rfl) T.m__law_take T.F__law_take.kp T.b__law_take .nil pass0 (pa_cons (pv 0) (pa_cons (pe_ix ix_seq (pe_lst (pa_cons pe_int (pa_cons pe_int (pa_cons pe_int pa_nil)))) (pe_call (ok__law_take T) (hr.mono (by decide)) (by rfl) T.m__law_take T.F__law_take.kp T.b__law_take .nil pass0 (pa_cons (pv 0) (pa_cons pe_int pa_nil))) (fun _ _ => rfl)) pa_nil)))))), ?_⟩
    exact body_B (n := 0) (φ := b__law_cart) (ws_ret (we_op rd_addA we_int (we_callB (wa_cons (we_op rd_ix ((wl_lst (wa_cons we_int (wa_cons we_int (wa_cons we_int wa_nil))))).we (we_callB (wa_cons we_int wa_nil) (arn_cons arn_nil))) wa_nil) (arn_cons arn_nil)))) rfl h
theorem sc__law_folk : FnScope ["bag", "most", "found", "fast", "alike", "name", "heavy"] ["bag", "most"] (defScope s__law_folk) := ⟨rfl, rfl, rfl, by decide +kernel, rfl, by decide +kernel, by decide +kernel⟩
theorem ok__law_folk (T : Tx K mg) : FnOk P w K mg base CX0 2 T.a__law_folk T.d__law_folk ["bag", "most"] (spB K 2 fn__law_folk) := by
  refine T.F__law_folk.ok sc__law_folk (fun vs H Q E h => ?_) (fun cdv A outer s H vs Q E hr h => ?_)
  · obtain ⟨S, b, us, bg, ws, ds, d, bg', _, hl, _⟩ := h
    exact hl
  · refine ⟨_, (pss_cons (ps_set (i := 2) sc__law_folk.nd rfl (by first | exact Or.inl rfl | exact Or.inr rfl) (pe_lst pa_nil))
      (pss_cons (ps_set (i := 3) sc__law_folk.nd rfl (by first | exact Or.inl rfl | exact Or.inr rfl) (pe_op op_addA pe_int (pe_call (ok__law_take T) (hr.mono (by decide)) (by rfl) T.m__law_take T.F__law_take.kp T.b__law_take .nil pass0 (pa_cons (pv 0) (pa_cons (pe_ix ix_seq (pe_lst (pa_cons pe_int (pa_cons pe_int pa_nil))) (pe_call (ok__law_take T) (hr.mono (by decide)) (by rfl) T.m__law_take T.F__law_take.kp T.b__law_take .nil pass0 (pa_cons (pv 0) (pa_cons pe_int pa_nil))) (fun _ _ => rfl)) pa_nil)))))
      (pss_cons (ps_set (i := 4) sc__law_folk.nd rfl (by first | exact Or.inl rfl | exact Or.inr rfl) (pe_cmpR (op_eqA hr.units) (pe_call (ok__law_take T) (hr.mono (by decide)) (by rfl) T.m__law_take T.F__law_take.kp T.b__law_take .nil pass0 (pa_cons (pv 0) (pa_cons pe_int pa_nil))) pe_int (nomark _)))
      (pss_cons (ps_for PassesOwn.never rfl (pi_any (pe_slice sl_any (pe_lst (pa_cons pe_str (pa_cons pe_str (pa_cons pe_str (pa_cons pe_str (pa_cons pe_str (pa_cons pe_str (pa_cons pe_str pa_nil)))))))) po_none (po_some (pe_op op_addA pe_int (pe_call (ok__law_take T) (hr.mono (by decide)) (by rfl) T.m__law_take T.F__law_take.kp T.b__law_take .nil pass0 (pa_cons (pv 0) (pa_cons (pv 1) pa_nil))))))) (pg_name (i := 5) sc__law_folk.nd rfl (by first | exact Or.inl rfl | exact Or.inr rfl)) (pss_cons (ps_set (i := 6) sc__law_folk.nd rfl (by first | exact Or.inl rfl | exact Or.inr rfl) (pe_op op_addA pe_int (pe_call (ok__law_take T) (hr.mono (by decide)) (by rfl) T.m__law_take T.F__law_take.kp T.b__law_take .nil pass0 (pa_cons (pv 0) (pa_cons (pe_ix ix_seq (pe_lst (pa_cons pe_int (pa_cons pe_int (pa_cons pe_int pa_nil)))) (pe_call (ok__law_take T) (hr.mono (by decide)) (by rfl) T.m__law_take T.F__law_take.kp T.b__law_take .nil pass0 (pa_cons (pv 0) (pa_cons pe_int pa_nil))) (fun _ _ => rfl)) pa_nil)))))
      (pss_one (ps_expr (pe_bm PySem.F.plainAttrs_list PySem.F.slot_list_append PySem.F.type_list_append mt_append (pv 2) (pa_cons (pe_tup (pa_cons (pv 5) (pa_cons (pv 6) (pa_cons (pe_ifExp (pt_val (pv 4)) (pv 3) (pe_op op_addA pe_int (pe_call (ok__law_take T) (hr.mono (by decide)) (by rfl) T.m__law_take T.F__law_take.kp T.b__law_take .nil pass0 (pa_cons (pv 0) (pa_cons (pe_ix ix_seq (pe_lst (pa_cons pe_int (pa_cons pe_int pa_nil))) (pe_call (ok__law_take T) (hr.mono (by decide)) (by rfl) T.m__law_take T.F__law_take.kp T.b__law_take .nil pass0 (pa_cons (pv 0) (pa_cons pe_int pa_nil))) (fun _ _ => rfl)) pa_nil))))) pa_nil)))) pa_nil))))))
      (pss_one (ps_ret (pe_callTy call_tuple_of (by rfl) T.z_tuple (by decide +kernel) (pa_cons (pv 2) pa_nil)))))))), ?_⟩
    exact body_B (n := 5) (φ := b__law_folk) (ws_seq (ws_own (i := 2) (wl_lst wa_nil))
      (ws_seq (ws_asg (we_op rd_addA we_int (we_callB (wa_cons (we_op rd_ix ((wl_lst (wa_cons we_int (wa_cons we_int wa_nil)))).we (we_callB (wa_cons we_int wa_nil) (arn_cons arn_nil))) wa_nil) (arn_cons arn_nil))) (wg_name (i := 3)))
      (ws_seq (ws_asg (we_op rd_eqA (we_callB (wa_cons we_int wa_nil) (arn_cons arn_nil)) we_int) (wg_name (i := 4)))
      (ws_seq (ws_for (wi_any (we_sl ((wl_lst (wa_cons we_str (wa_cons we_str (wa_cons we_str (wa_cons we_str (wa_cons we_str (wa_cons we_str (wa_cons we_str wa_nil))))))))).we wo_none (wo_some (we_op rd_addA we_int (we_callB (wa_cons we_var wa_nil) (arn_cons arn_nil)))))) wg_name (ws_seq (ws_asg (we_op rd_addA we_int (we_callB (wa_cons (we_op rd_ix ((wl_lst (wa_cons we_int (wa_cons we_int (wa_cons we_int wa_nil))))).we (we_callB (wa_cons we_int wa_nil) (arn_cons arn_nil))) wa_nil) (arn_cons arn_nil))) (wg_name (i := 6)))
      (ws_app (i := 2) (we_tup (wa_cons we_var (wa_cons we_var (wa_cons (we_if (wt_B we_var) we_var (we_op rd_addA we_int (we_callB (wa_cons (we_op rd_ix ((wl_lst (wa_cons we_int (wa_cons we_int wa_nil)))).we (we_callB (wa_cons we_int wa_nil) (arn_cons arn_nil))) wa_nil) (arn_cons arn_nil)))) wa_nil)))))))
      (ws_ret (we_c1 r1_tuple wb_var)))))) rfl h
theorem sc__law_mixed : FnScope ["bag", "some", "found", "one"] ["bag", "some"] (defScope s__law_mixed) := ⟨rfl, rfl, rfl, by decide +kernel, rfl, by decide +kernel, by decide +kernel⟩
theorem ok__law_mixed (T : Tx K mg) : FnOk P w K mg base CX0 2 T.a__law_mixed T.d__law_mixed ["bag", "some"] (spB K 2 fn__law_mixed) := by
  refine T.F__law_mixed.ok sc__law_mixed (fun vs H Q E h => ?_) (fun cdv A outer s H vs Q E hr h => ?_)
  · obtain ⟨S, b, us, bg, ws, ds, d, bg', _, hl, _⟩ := h
    exact hl
  · refine ⟨_, (pss_cons (ps_set (i := 2) sc__law_mixed.nd rfl (by first | exact Or.inl rfl | exact Or.inr rfl) (pe_lst pa_nil))
      (pss_cons (ps_for PassesOwn.never rfl (pi_any (pv 1)) (pg_name (i := 3) sc__law_mixed.nd rfl (by first | exact Or.inl rfl | exact Or.inr rfl)) (pss_one (ps_expr (pe_bm PySem.F.plainAttrs_list PySem.F.slot_list_insert PySem.F.type_list_insert mt_insert (pv 2) (pa_cons (pe_call (ok__law_take T) (hr.mono (by decide)) (by rfl) T.m__law_take T.F__law_take.kp T.b__law_take .nil pass0 (pa_cons (pv 0) (pa_cons (pe_op op_addA (pe_callB call_len (by rfl) T.z_len (by decide +kernel) (pa_cons (pv 2) pa_nil)) pe_int) pa_nil))) (pa_cons (pv 3) pa_nil))))))
      (pss_one (ps_ret (pv 2))))), ?_⟩
    exact body_B (n := 2) (φ := b__law_mixed) (ws_seq (ws_own (i := 2) (wl_lst wa_nil))
      (ws_seq (ws_for (wi_any we_var) wg_name (ws_ins (i := 2) (we_callB (wa_cons (we_op rd_addA (we_c1 r1_len wb_var) we_int) wa_nil) (arn_cons arn_nil)) we_var))
      ws_retO)) rfl h
theorem sc__law_leaps : FnScope ["bag", "folk", "found", "left", "many", "some", "one"] ["bag", "folk"] (defScope s__law_leaps) := ⟨rfl, rfl, rfl, by decide +kernel, rfl, by decide +kernel, by decide +kernel⟩
theorem ok__law_leaps (T : Tx K mg) : FnOk P w K mg base CX0 3 T.a__law_leaps T.d__law_leaps ["bag", "folk"] (spB K 2 fn__law_leaps) := by
  refine T.F__law_leaps.ok sc__law_leaps (fun vs H Q E h => ?_) (fun cdv A outer s H vs Q E hr h => ?_)
  · obtain ⟨S, b, us, bg, ws, ds, d, bg', _, hl, _⟩ := h
    exact hl
  · refine ⟨_, (pss_cons (ps_set (i := 2) sc__law_leaps.nd rfl (by first | exact Or.inl rfl | exact Or.inr rfl) (pe_lst pa_nil))
      (pss_cons (ps_set (i := 3) sc__law_leaps.nd rfl (by first | exact Or.inl rfl | exact Or.inr rfl) (pe_slice sl_any (pe_call (ok__law_mixed T) (hr.mono (by decide)) (by rfl) T.m__law_mixed T.F__law_mixed.kp T.b__law_mixed .nil pass0 (pa_cons (pv 0) (pa_cons (pv 1) pa_nil))) po_none (po_some (pe_call (ok__law_take T) (hr.mono (by decide)) (by rfl) T.m__law_take T.F__law_take.kp T.b__law_take .nil pass0 (pa_cons (pv 0) (pa_cons (pe_op op_addA (pe_callB call_len (by rfl) T.z_len (by decide +kernel) (pa_cons (pv 1) pa_nil)) pe_int) pa_nil))))))
      (pss_cons (ps_while PassesOwn.never (pt_cmpR (op_neA hr.units) (pv 3) (pe_lst pa_nil) (nomark _)) (pss_cons (ps_set (i := 4) sc__law_leaps.nd rfl (by first | exact Or.inl rfl | exact Or.inr rfl) (pe_op op_addA pe_int (pe_call (ok__law_take T) (hr.mono (by decide)) (by rfl) T.m__law_take T.F__law_take.kp T.b__law_take .nil pass0 (pa_cons (pv 0) (pa_cons (pe_callB (call_min2 rfl) (by rfl) T.z_min (by decide +kernel) (pa_cons pe_int (pa_cons (pe_callB call_len (by rfl) T.z_len (by decide +kernel) (pa_cons (pv 3) pa_nil)) pa_nil))) pa_nil)))))
      (pss_cons (ps_setLc (i := 5) (own := [("one", 6)]) (wi := (iAny K (tSl (rSlA3 K) (tVar 3) tNoPart (tPart (tVar 4))))) (g := (gName 6)) (tt := tYes) (te := (tTup (tCons (tOp (rIx K) (tVar 6) (tC (.int 0))) (tCons (tOp (rI0 fun i j => .int (i - j)) (tC (.int 1)) (tOp (rI CMulW fun i j => .int (i * j)) (tC (.int 2)) (tCall (spB K 2 fn__law_take) [] E0 (tCons (tVar 0) (tCons (tC (.int 2)) tNil))))) tNil)))) rfl sc__law_leaps.nd (by rfl) (by rfl) (sw_true rfl rfl rfl (by decide +kernel)) (pi_any (pe_slice sl_any (pv 3) po_none (po_some (pv 4)))) (blkOk_by (N := ["bag", "folk", "found", "left", "many", "some", "one"]) (sc := defScope s__law_leaps) (by decide +kernel)) (fun _ _ _ _ _ => (pg_name (i := 6) sc__law_leaps.nd rfl (by first | exact Or.inl rfl | exact Or.inr rfl))) (fun _ _ _ _ _ => pts_nil) (fun _ _ _ _ _ => (pe_tup (pa_cons (pe_ix ix_seq (pv 6) pe_int (fun _ _ => rfl)) (pa_cons (pe_op op_sub pe_int (pe_op op_mulW pe_int (pe_call (ok__law_take T) (hr.mono (by decide)) (by rfl) T.m__law_take T.F__law_take.kp T.b__law_take .nil pass0 (pa_cons (pv 0) (pa_cons pe_int pa_nil))))) pa_nil)))))
      (pss_cons (ps_expr (pe_bm PySem.F.plainAttrs_list PySem.F.slot_list_append PySem.F.type_list_append mt_append (pv 2) (pa_cons (pe_callTy call_tuple_of (by rfl) T.z_tuple (by decide +kernel) (pa_cons (pe_callB (cr_sortedD hr.units) (by rfl) T.z_sorted (by decide +kernel) (pa_cons (pv 5) pa_nil)) pa_nil)) pa_nil)))
      (pss_one (ps_set (i := 3) sc__law_leaps.nd rfl (by first | exact Or.inl rfl | exact Or.inr rfl) (pe_slice sl_any (pv 3) (po_some (pv 4)) po_none)))))))
      (pss_one (ps_ret (pv 2)))))), ?_⟩
    exact body_B (n := 5) (φ := b__law_leaps) (ws_seq (ws_own (i := 2) (wl_lst wa_nil))
      (ws_seq (ws_asg (we_sl (we_callB (wa_cons we_var wa_nil) (arn_cons arn_nil)) wo_none (wo_some (we_callB (wa_cons (we_op rd_addA (we_c1 r1_len (WE.wb we_var)) we_int) wa_nil) (arn_cons arn_nil)))) (wg_name (i := 3)))
      (ws_seq (ws_while (wt_test (we_op rd_neA we_var ((wl_lst wa_nil)).we)) (ws_seq (ws_asg (we_op rd_addA we_int (we_callB (wa_cons (we_min we_int (we_c1 r1_len (WE.wb we_var))) wa_nil) (arn_cons arn_nil))) (wg_name (i := 4)))
      (ws_seq (ws_asg ((wl_lc (js := [6]) (wi_any (we_sl we_var wo_none (wo_some we_var))) wg_name (by decide) wt_yes (we_tup (wa_cons (we_op rd_ix we_var we_int) (wa_cons (we_op rd_sub we_int (we_op rd_mul we_int (we_callB (wa_cons we_int wa_nil) (arn_cons arn_nil)))) wa_nil))))).we (wg_name (i := 5)))
      (ws_seq (ws_app (i := 2) (we_c1 r1_tuple (WE.wb ((wl_c1 r1_sorted (WE.wb we_var))).we)))
      (ws_asg (we_sl we_var (wo_some we_var) wo_none) (wg_name (i := 3)))))))
      ws_retO))) rfl h
theorem sc__law_left : FnScope ["folk", "names", "one"] ["folk", "names"] (defScope s__law_left) := ⟨rfl, rfl, rfl, by decide +kernel, rfl, by decide +kernel, by decide +kernel⟩
theorem ok__law_left (T : Tx K mg) : FnOk P w K mg base CX0 1 T.a__law_left T.d__law_left ["folk", "names"] (spD K 2 fn__law_left) := by
  refine T.F__law_left.ok sc__law_left (fun vs H Q E h => ?_) (fun cdv A outer s H vs Q E hr h => ?_)
  · obtain ⟨S, ds, d, hl, _⟩ := h
    exact hl
  · refine ⟨_, (pss_one (ps_ret (pe_callTy call_tuple_of (by rfl) T.z_tuple (by decide +kernel) (pa_cons (pe_lc (own := [("one", 2)]) (wi := (iAny K (tVar 0))) (g := (gName 2)) (tt := (tTest (tOp (rInA K true) (tOp (rIx K) (tVar 2) (tC (.int 0))) (tVar 1)))) (te := (tVar 2)) rfl sc__law_left.nd (pi_any (pv 0)) (blkOk_by (N := ["folk", "names", "one"]) (sc := defScope s__law_left) (by decide +kernel)) (fun _ _ _ _ _ => (pg_name (i := 2) sc__law_left.nd rfl (by first | exact Or.inl rfl | exact Or.inr rfl))) (fun _ _ _ _ _ => (pts_one (pt_cmpR op_notInA (pe_ix ix_seq (pv 2) pe_int (fun _ _ => rfl)) (pv 1) (by with_unfolding_all rfl)))) (fun _ _ _ _ _ => (pv 2))) pa_nil)))), ?_⟩
    exact body_D (n := 1) (φ := b__law_left) (ws_ret (we_c1 r1_tuple (WE.wb ((wl_lc (js := [2]) (wi_any we_var) wg_name (by decide) (wt_test (we_op rd_notInA (we_op rd_ix we_var we_int) we_var)) we_var)).we))) rfl h
theorem sc__law_weight : FnScope ["cart", "folk", "one"] ["cart", "folk"] (defScope s__law_weight) := ⟨rfl, rfl, rfl, by decide +kernel, rfl, by decide +kernel, by decide +kernel⟩
theorem ok__law_weight (T : Tx K mg) : FnOk P w K mg base CX0 1 T.a__law_weight T.d__law_weight ["cart", "folk"] (spD K 2 fn__law_weight) := by
  refine T.F__law_weight.ok sc__law_weight (fun vs H Q E h => ?_) (fun cdv A outer s H vs Q E hr h => ?_)
  · obtain ⟨S, ds, d, hl, _⟩ := h
    exact hl
  · refine ⟨_, (pss_one (ps_ret (pe_op op_addA (pv 0) (pe_callB (cr_sum rfl) (by rfl) T.z_sum (by decide +kernel) (pa_cons (pe_lc (own := [("one", 2)]) (wi := (iAny K (tVar 1))) (g := (gName 2)) (tt := tYes) (te := (tOp (rIx K) (tVar 2) (tC (.int 1)))) rfl sc__law_weight.nd (pi_any (pv 1)) (blkOk_by (N := ["cart", "folk", "one"]) (sc := defScope s__law_weight) (by decide +kernel)) (fun _ _ _ _ _ => (pg_name (i := 2) sc__law_weight.nd rfl (by first | exact Or.inl rfl | exact Or.inr rfl))) (fun _ _ _ _ _ => pts_nil) (fun _ _ _ _ _ => (pe_ix ix_seq (pv 2) pe_int (fun _ _ => rfl)))) pa_nil))))), ?_⟩
    exact body_D (n := 1) (φ := b__law_weight) (ws_ret (we_op rd_addA we_var (we_c1 r1_sum (WE.wb ((wl_lc (js := [2]) (wi_any we_var) wg_name (by decide) wt_yes (we_op rd_ix we_var we_int))).we)))) rfl h
theorem sc__law_behind : FnScope ["cart", "folk", "speed", "some", "known", "whole", "name", "way", "one"] ["cart", "folk", "speed", "some"] (defScope s__law_behind) := ⟨rfl, rfl, rfl, by decide +kernel, rfl, by decide +kernel, by decide +kernel⟩
theorem ok__law_behind (T : Tx K mg) : FnOk P w K mg base CX0 3 T.a__law_behind T.d__law_behind ["cart", "folk", "speed", "some"] (spD K 4 fn__law_behind) := by
  refine T.F__law_behind.ok sc__law_behind (fun vs H Q E h => ?_) (fun cdv A outer s H vs Q E hr h => ?_)
  · obtain ⟨S, ds, d, hl, _⟩ := h
    exact hl
  · refine ⟨_, (pss_cons (ps_set (i := 4) sc__law_behind.nd rfl (by first | exact Or.inl rfl | exact Or.inr rfl) (pe_callTy (call_dictP rfl) (by rfl) T.z_dict (by decide +kernel) (pa_cons (pe_lc (own := [("one", 8)]) (wi := (iAny K (tVar 1))) (g := (gName 8)) (tt := tYes) (te := (tTup (tCons (tOp (rIx K) (tVar 8) (tC (.int 0))) (tCons (tVar 8) tNil)))) rfl sc__law_behind.nd (pi_any (pv 1)) (blkOk_by (N := ["cart", "folk", "speed", "some", "known", "whole", "name", "way", "one"]) (sc := defScope s__law_behind) (by decide +kernel)) (fun _ _ _ _ _ => (pg_name (i := 8) sc__law_behind.nd rfl (by first | exact Or.inl rfl | exact Or.inr rfl))) (fun _ _ _ _ _ => pts_nil) (fun _ _ _ _ _ => (pe_tup (pa_cons (pe_ix ix_seq (pv 8) pe_int (fun _ _ => rfl)) (pa_cons (pv 8) pa_nil))))) pa_nil)))
      (pss_cons (ps_set (i := 5) sc__law_behind.nd rfl (by first | exact Or.inl rfl | exact Or.inr rfl) (pe_call (ok__law_times T) (hr.mono (by decide)) (by rfl) T.m__law_times T.F__law_times.kp T.b__law_times .nil pass0 (pa_cons (pv 2) (pa_cons (pe_call (ok__law_weight T) (hr.mono (by decide)) (by rfl) T.m__law_weight T.F__law_weight.kp T.b__law_weight .nil pass0 (pa_cons (pv 0) (pa_cons (pv 1) pa_nil))) pa_nil))))
      (pss_cons (ps_for PassesOwn.never rfl (pi_any (pv 3)) (pg_tup rfl (pgs_cons (pg_name (i := 6) sc__law_behind.nd rfl (by first | exact Or.inl rfl | exact Or.inr rfl)) (pgs_cons (pg_name (i := 7) sc__law_behind.nd rfl (by first | exact Or.inl rfl | exact Or.inr rfl)) pgs_nil))) (pss_one (ps_set (i := 5) sc__law_behind.nd rfl (by first | exact Or.inl rfl | exact Or.inr rfl) (pe_call (ok__law_plus T) (hr.mono (by decide)) (by rfl) T.m__law_plus T.F__law_plus.kp T.b__law_plus .nil pass0 (pa_cons (pv 5) (pa_cons (pe_tup (pa_cons (pe_op op_sub pe_int (pe_op op_mulW (pe_op op_mulW (pe_ix ix_seq (pe_dget (hu_of hr) (pv 4) (pv 6) (fun _ _ => rfl)) pe_int (fun _ _ => rfl)) (pe_ix ix_seq (pe_dget (hu_of hr) (pv 4) (pv 6) (fun _ _ => rfl)) pe_int (fun _ _ => rfl))) (pv 7))) (pa_cons pe_int pa_nil))) pa_nil))))))
      (pss_one (ps_ret (pe_call (ok__law_lowest T) (hr.mono (by decide)) (by rfl) T.m__law_lowest T.F__law_lowest.kp T.b__law_lowest .nil pass0 (pa_cons (pe_ix ix_seq (pv 5) pe_int (fun _ _ => rfl)) (pa_cons (pe_op op_mulW (pe_ix ix_seq (pv 5) pe_int (fun _ _ => rfl)) (pe_call (ok__law_weight T) (hr.mono (by decide)) (by rfl) T.m__law_weight T.F__law_weight.kp T.b__law_weight .nil pass0 (pa_cons (pv 0) (pa_cons (pv 1) pa_nil)))) pa_nil)))))))), ?_⟩
    exact body_D (n := 5) (φ := b__law_behind) (ws_seq (ws_asg (we_c1 r1_dict (WE.wb ((wl_lc (js := [8]) (wi_any we_var) wg_name (by decide) wt_yes (we_tup (wa_cons (we_op rd_ix we_var we_int) (wa_cons we_var wa_nil))))).we)) (wg_name (i := 4)))
      (ws_seq (ws_asg (we_call (wa_cons we_var (wa_cons (we_call (wa_cons we_var (wa_cons we_var wa_nil)) (arn_cons (arn_cons arn_nil))) wa_nil)) (arn_cons (arn_cons arn_nil))) (wg_name (i := 5)))
      (ws_seq (ws_for (wi_any we_var) (wg_tup (wgs_cons wg_name (wgs_cons wg_name wgs_nil))) (ws_asg (we_call (wa_cons we_var (wa_cons (we_tup (wa_cons (we_op rd_sub we_int (we_op rd_mul (we_op rd_mul (we_op rd_ix (we_dget we_var we_var) we_int) (we_op rd_ix (we_dget we_var we_var) we_int)) we_var)) (wa_cons we_int wa_nil))) wa_nil)) (arn_cons (arn_cons arn_nil))) (wg_name (i := 5))))
      (ws_ret (we_call (wa_cons (we_op rd_ix we_var we_int) (wa_cons (we_op rd_mul (we_op rd_ix we_var we_int) (we_call (wa_cons we_var (wa_cons we_var wa_nil)) (arn_cons (arn_cons arn_nil)))) wa_nil)) (arn_cons (arn_cons arn_nil))))))) rfl h
theorem sc__law_run : FnScope ["cart", "folk", "speed", "leaps", "found", "some", "own", "name", "way", "fast", "one"] ["cart", "folk", "speed", "leaps"] (defScope s__law_run) := ⟨rfl, rfl, rfl, by decide +kernel, rfl, by decide +kernel, by decide +kernel⟩
theorem ok__law_run (T : Tx K mg) : FnOk P w K mg base CX0 4 T.a__law_run T.d__law_run ["cart", "folk", "speed", "leaps"] (spD K 4 fn__law_run) := by
  refine T.F__law_run.ok sc__law_run (fun vs H Q E h => ?_) (fun cdv A outer s H vs Q E hr h => ?_)
  · obtain ⟨S, ds, d, hl, _⟩ := h
    exact hl
  · refine ⟨_, (pss_cons (ps_set (i := 4) sc__law_run.nd rfl (by first | exact Or.inl rfl | exact Or.inr rfl) (pe_lst pa_nil))
      (pss_cons (ps_for PassesOwn.never rfl (pi_any (pv 3)) (pg_name (i := 5) sc__law_run.nd rfl (by first | exact Or.inl rfl | exact Or.inr rfl)) (pss_cons (ps_set (i := 2) sc__law_run.nd rfl (by first | exact Or.inl rfl | exact Or.inr rfl) (pe_call (ok__law_behind T) (hr.mono (by decide)) (by rfl) T.m__law_behind T.F__law_behind.kp T.b__law_behind .nil pass0 (pa_cons (pv 0) (pa_cons (pv 1) (pa_cons (pv 2) (pa_cons (pv 5) pa_nil))))))
      (pss_cons (ps_set (i := 6) sc__law_run.nd rfl (by first | exact Or.inl rfl | exact Or.inr rfl) (pe_lst pa_nil))
      (pss_cons (ps_for PassesOwn.never rfl (pi_any (pv 5)) (pg_tup rfl (pgs_cons (pg_name (i := 7) sc__law_run.nd rfl (by first | exact Or.inl rfl | exact Or.inr rfl)) (pgs_cons (pg_name (i := 8) sc__law_run.nd rfl (by first | exact Or.inl rfl | exact Or.inr rfl)) pgs_nil))) (pss_cons (ps_set (i := 9) sc__law_run.nd rfl (by first | exact Or.inl rfl | exact Or.inr rfl) (pe_ix ix_seq (pe_lc (own := [("one", 10)]) (wi := (iAny K (tVar 1))) (g := (gName 10)) (tt := (tTest (tOp (rEqA K) (tOp (rIx K) (tVar 10) (tC (.int 0))) (tVar 7)))) (te := (tOp (rIx K) (tVar 10) (tC (.int 2)))) rfl sc__law_run.nd (pi_any (pv 1)) (blkOk_by (N := ["cart", "folk", "speed", "leaps", "found", "some", "own", "name", "way", "fast", "one"]) (sc := defScope s__law_run) (by decide +kernel)) (fun _ _ _ _ _ => (pg_name (i := 10) sc__law_run.nd rfl (by first | exact Or.inl rfl | exact Or.inr rfl))) (fun _ _ _ _ _ => (pts_one (pt_cmpR (op_eqA hr.units) (pe_ix ix_seq (pv 10) pe_int (fun _ _ => rfl)) (pv 7) (nomark _)))) (fun _ _ _ _ _ => (pe_ix ix_seq (pv 10) pe_int (fun _ _ => rfl)))) pe_int (fun _ _ => rfl)))
      (pss_one (ps_expr (pe_bm PySem.F.plainAttrs_list PySem.F.slot_list_append PySem.F.type_list_append mt_append (pv 6) (pa_cons (pe_tup (pa_cons (pv 7) (pa_cons (pe_call (ok__law_plus T) (hr.mono (by decide)) (by rfl) T.m__law_plus T.F__law_plus.kp T.b__law_plus .nil pass0 (pa_cons (pv 2) (pa_cons (pe_tup (pa_cons (pe_op op_mulW (pv 9) (pv 8)) (pa_cons pe_int pa_nil))) pa_nil))) pa_nil))) pa_nil))))))
      (pss_cons (ps_expr (pe_bm PySem.F.plainAttrs_list PySem.F.slot_list_append PySem.F.type_list_append mt_append (pv 4) (pa_cons (pe_tup (pa_cons (pv 2) (pa_cons (pv 6) pa_nil))) pa_nil)))
      (pss_one (ps_set (i := 1) sc__law_run.nd rfl (by first | exact Or.inl rfl | exact Or.inr rfl) (pe_call (ok__law_left T) (hr.mono (by decide)) (by rfl) T.m__law_left T.F__law_left.kp T.b__law_left .nil pass0 (pa_cons (pv 1) (pa_cons (pe_lc (own := [("name", 7), ("way", 8)]) (wi := (iAny K (tVar 5))) (g := (gTup K 2 (gCons (gName 7) (gCons (gName 8) gNil)))) (tt := tYes) (te := (tVar 7)) rfl sc__law_run.nd (pi_any (pv 5)) (blkOk_by (N := ["cart", "folk", "speed", "leaps", "found", "some", "own", "name", "way", "fast", "one"]) (sc := defScope s__law_run) (by decide +kernel)) (fun _ _ _ _ _ => (pg_tup rfl (pgs_cons (pg_name (i := 7) sc__law_run.nd rfl (by first | exact Or.inl rfl | exact Or.inr rfl)) (pgs_cons (pg_name (i := 8) sc__law_run.nd rfl (by first | exact Or.inl rfl | exact Or.inr rfl)) pgs_nil)))) (fun _ _ _ _ _ => pts_nil) (fun _ _ _ _ _ => (pv 7))) pa_nil))))))))))
      (pss_one (ps_ret (pv 4))))), ?_⟩
    exact body_D (n := 7) (φ := b__law_run) (ws_seq (ws_own (i := 4) (wl_lst wa_nil))
      (ws_seq (ws_for (wi_any we_var) wg_name (ws_seq (ws_asg (we_call (wa_cons we_var (wa_cons we_var (wa_cons we_var (wa_cons we_var wa_nil)))) (arn_cons (arn_cons (arn_cons (arn_cons arn_nil))))) (wg_name (i := 2)))
      (ws_seq (ws_own (i := 6) (wl_lst wa_nil))
      (ws_seq (ws_for (wi_any we_var) (wg_tup (wgs_cons wg_name (wgs_cons wg_name wgs_nil))) (ws_seq (ws_asg (we_op rd_ix ((wl_lc (js := [10]) (wi_any we_var) wg_name (by decide) (wt_test (we_op rd_eqA (we_op rd_ix we_var we_int) we_var)) (we_op rd_ix we_var we_int))).we we_int) (wg_name (i := 9)))
      (ws_app (i := 6) (we_tup (wa_cons we_var (wa_cons (we_call (wa_cons we_var (wa_cons (we_tup (wa_cons (we_op rd_mul we_var we_var) (wa_cons we_int wa_nil))) wa_nil)) (arn_cons (arn_cons arn_nil))) wa_nil))))))
      (ws_seq (ws_frz (i := 6) (ws_app (i := 4) (we_tup (wa_cons we_var (wa_cons we_var wa_nil)))))
      (ws_asg (we_call (wa_cons we_var (wa_cons ((wl_lc (js := ([7] ++ ([8] ++ []))) (wi_any we_var) (wg_tup (wgs_cons wg_name (wgs_cons wg_name wgs_nil))) (by decide) wt_yes we_var)).we wa_nil)) (arn_cons (arn_cons arn_nil))) (wg_name (i := 1))))))))
      ws_retO)) rfl h
theorem sc__law_timed : FnScope ["bag", "folk", "hours", "leaps", "some", "rows"] ["bag", "folk"] (defScope s__law_timed) := ⟨rfl, rfl, rfl, by decide +kernel, rfl, by decide +kernel, by decide +kernel⟩
theorem ok__law_timed (T : Tx K mg) : FnOk P w K mg base CX0 4 T.a__law_timed T.d__law_timed ["bag", "folk"] (spB K 2 fn__law_timed) := by
  refine T.F__law_timed.ok sc__law_timed (fun vs H Q E h => ?_) (fun cdv A outer s H vs Q E hr h => ?_)
  · obtain ⟨S, b, us, bg, ws, ds, d, bg', _, hl, _⟩ := h
    exact hl
  · refine ⟨_, (pss_cons (ps_set (i := 2) sc__law_timed.nd rfl (by first | exact Or.inl rfl | exact Or.inr rfl) pe_dnewK)
      (pss_cons (ps_set (i := 3) sc__law_timed.nd rfl (by first | exact Or.inl rfl | exact Or.inr rfl) (pe_call (ok__law_leaps T) (hr.mono (by decide)) (by rfl) T.m__law_leaps T.F__law_leaps.kp T.b__law_leaps .nil pass0 (pa_cons (pv 0) (pa_cons (pv 1) pa_nil))))
      (pss_cons (ps_for PassesOwn.never rfl (pi_any (pv 3)) (pg_name (i := 4) sc__law_timed.nd rfl (by first | exact Or.inl rfl | exact Or.inr rfl)) (pss_one (ps_dput (hu_of hr) (pv 2) (pe_call (ok__law_take T) (hr.mono (by decide)) (by rfl) T.m__law_take T.F__law_take.kp T.b__law_take .nil pass0 (pa_cons (pv 0) (pa_cons (pe_ix ix_seq (pe_lst (pa_cons pe_int (pa_cons pe_int (pa_cons pe_int pa_nil)))) (pe_call (ok__law_take T) (hr.mono (by decide)) (by rfl) T.m__law_take T.F__law_take.kp T.b__law_take .nil pass0 (pa_cons (pv 0) (pa_cons pe_int pa_nil))) (fun _ _ => rfl)) pa_nil))) pe_bl (by rfl))))
      (pss_cons (ps_set (i := 5) sc__law_timed.nd rfl (by first | exact Or.inl rfl | exact Or.inr rfl) (pe_callB (call_sortedDI rfl) (by rfl) T.z_sorted (by decide +kernel) (pa_cons (pv 2) pa_nil)))
      (pss_one (ps_ret (pe_listZip rfl (by rfl) T.z_list (by rfl) T.z_zip (pa_cons (pv 5) (pa_cons (pe_slice sl_any (pv 3) po_none (po_some (pe_callB call_len (by rfl) T.z_len (by decide +kernel) (pa_cons (pv 5) pa_nil)))) pa_nil))))))))), ?_⟩
    exact body_B (n := 4) (φ := b__law_timed) (ws_seq (ws_ownD (i := 2) wd_new)
      (ws_seq (ws_asg (we_callB (wa_cons we_var wa_nil) (arn_cons arn_nil)) (wg_name (i := 3)))
      (ws_seq (ws_for (wi_any we_var) wg_name (ws_dput (we_callB (wa_cons (we_op rd_ix ((wl_lst (wa_cons we_int (wa_cons we_int (wa_cons we_int wa_nil))))).we (we_callB (wa_cons we_int wa_nil) (arn_cons arn_nil))) wa_nil) (arn_cons arn_nil)) we_bl))
      (ws_seq (ws_frzD (i := 2) (ws_asg ((wl_c1 r1_sortDI (WE.wb we_var))).we (wg_name (i := 5))))
      (ws_retL (wl_listZip we_var (we_sl we_var wo_none (wo_some (we_c1 r1_len (WE.wb we_var)))))))))) rfl h
theorem sc__law_places : FnScope ["cart", "folk", "timed", "hour", "rows", "run", "ends", "fast", "at", "pace", "here", "off", "nth", "when", "some", "name", "part", "long", "one", "own", "row", "way"] ["cart", "folk", "timed", "hour"] (defScope s__law_places) := ⟨rfl, rfl, rfl, by decide +kernel, rfl, by decide +kernel, by decide +kernel⟩
theorem ok__law_places (T : Tx K mg) : FnOk P w K mg base CX0 5 T.a__law_places T.d__law_places ["cart", "folk", "timed", "hour"] (spL K 4 fn__law_places) := by
  refine T.F__law_places.ok sc__law_places (fun vs H Q E h => ?_) (fun cdv A outer s H vs Q E hr h => ?_)
  · obtain ⟨S, ds, d, hl, _⟩ := h
    exact hl
  · refine ⟨_, (pss_cons (ps_setLc (i := 4) (own := [("row", 20)]) (wi := (iAny K (tVar 2))) (g := (gName 20)) (tt := (tNot (tB (tCall (spD K 2 fn__law_less) [] E0 (tCons (tVar 3) (tCons (tTup (tCons (tOp (rIx K) (tVar 20) (tC (.int 0))) (tCons (tC (.int 1)) tNil))) tNil)))))) (te := (tVar 20)) rfl sc__law_places.nd (by rfl) (by rfl) (sw_true rfl rfl rfl (by decide +kernel)) (pi_any (pv 2)) (blkOk_by (N := ["cart", "folk", "timed", "hour", "rows", "run", "ends", "fast", "at", "pace", "here", "off", "nth", "when", "some", "name", "part", "long", "one", "own", "row", "way"]) (sc := defScope s__law_places) (by decide +kernel)) (fun _ _ _ _ _ => (pg_name (i := 20) sc__law_places.nd rfl (by first | exact Or.inl rfl | exact Or.inr rfl))) (fun _ _ _ _ _ => (pts_one (pt_not (pt_val (pe_call (ok__law_less T) (hr.mono (by decide)) (by rfl) T.m__law_less T.F__law_less.kp T.b__law_less .nil pass0 (pa_cons (pv 3) (pa_cons (pe_tup (pa_cons (pe_ix ix_seq (pv 20) pe_int (fun _ _ => rfl)) (pa_cons pe_int pa_nil))) pa_nil))))))) (fun _ _ _ _ _ => (pv 20)))
      (pss_cons (ps_set (i := 5) sc__law_places.nd rfl (by first | exact Or.inl rfl | exact Or.inr rfl) (pe_call (ok__law_run T) (hr.mono (by decide)) (by rfl) T.m__law_run T.F__law_run.kp T.b__law_run .nil pass0 (pa_cons (pv 0) (pa_cons (pv 1) (pa_cons (pe_tup (pa_cons pe_int (pa_cons pe_int pa_nil))) (pa_cons (pe_lc (own := [("row", 20)]) (wi := (iAny K (tVar 4))) (g := (gName 20)) (tt := tYes) (te := (tOp (rIx K) (tVar 20) (tC (.int 1)))) rfl sc__law_places.nd (pi_any (pv 4)) (blkOk_by (N := ["cart", "folk", "timed", "hour", "rows", "run", "ends", "fast", "at", "pace", "here", "off", "nth", "when", "some", "name", "part", "long", "one", "own", "row", "way"]) (sc := defScope s__law_places) (by decide +kernel)) (fun _ _ _ _ _ => (pg_name (i := 20) sc__law_places.nd rfl (by first | exact Or.inl rfl | exact Or.inr rfl))) (fun _ _ _ _ _ => pts_nil) (fun _ _ _ _ _ => (pe_ix ix_seq (pv 20) pe_int (fun _ _ => rfl)))) pa_nil))))))
      (pss_cons (ps_set (i := 6) sc__law_places.nd rfl (by first | exact Or.inl rfl | exact Or.inr rfl) (pe_op op_addA (pe_lc (own := [("row", 20)]) (wi := (iAny K (tSl (rSlA3 K) (tVar 4) (tPart (tC (.int 1))) tNoPart))) (g := (gName 20)) (tt := tYes) (te := (tTup (tCons (tOp (rIx K) (tVar 20) (tC (.int 0))) (tCons (tC (.int 1)) tNil)))) rfl sc__law_places.nd (pi_any (pe_slice sl_any (pv 4) (po_some pe_int) po_none)) (blkOk_by (N := ["cart", "folk", "timed", "hour", "rows", "run", "ends", "fast", "at", "pace", "here", "off", "nth", "when", "some", "name", "part", "long", "one", "own", "row", "way"]) (sc := defScope s__law_places) (by decide +kernel)) (fun _ _ _ _ _ => (pg_name (i := 20) sc__law_places.nd rfl (by first | exact Or.inl rfl | exact Or.inr rfl))) (fun _ _ _ _ _ => pts_nil) (fun _ _ _ _ _ => (pe_tup (pa_cons (pe_ix ix_seq (pv 20) pe_int (fun _ _ => rfl)) (pa_cons pe_int pa_nil))))) (pe_lst (pa_cons (pv 3) pa_nil))))
      (pss_cons (ps_set (i := 7) sc__law_places.nd rfl (by first | exact Or.inl rfl | exact Or.inr rfl) (pe_callTy (call_dictP rfl) (by rfl) T.z_dict (by decide +kernel) (pa_cons (pe_lc (own := [("one", 18)]) (wi := (iAny K (tVar 1))) (g := (gName 18)) (tt := tYes) (te := (tTup (tCons (tOp (rIx K) (tVar 18) (tC (.int 0))) (tCons (tTup (tCons (tC (.int 0)) (tCons (tC (.int 1)) tNil))) tNil)))) rfl sc__law_places.nd (pi_any (pv 1)) (blkOk_by (N := ["cart", "folk", "timed", "hour", "rows", "run", "ends", "fast", "at", "pace", "here", "off", "nth", "when", "some", "name", "part", "long", "one", "own", "row", "way"]) (sc := defScope s__law_places) (by decide +kernel)) (fun _ _ _ _ _ => (pg_name (i := 18) sc__law_places.nd rfl (by first | exact Or.inl rfl | exact Or.inr rfl))) (fun _ _ _ _ _ => pts_nil) (fun _ _ _ _ _ => (pe_tup (pa_cons (pe_ix ix_seq (pv 18) pe_int (fun _ _ => rfl)) (pa_cons (pe_tup (pa_cons pe_int (pa_cons pe_int pa_nil))) pa_nil))))) pa_nil)))
      (pss_cons (ps_set (i := 8) sc__law_places.nd rfl (by first | exact Or.inl rfl | exact Or.inr rfl) (pe_callTy (call_dictP rfl) (by rfl) T.z_dict (by decide +kernel) (pa_cons (pe_lc (own := [("one", 18)]) (wi := (iAny K (tVar 1))) (g := (gName 18)) (tt := tYes) (te := (tTup (tCons (tOp (rIx K) (tVar 18) (tC (.int 0))) (tCons (tTup (tCons (tC (.int 0)) (tCons (tC (.int 1)) tNil))) tNil)))) rfl sc__law_places.nd (pi_any (pv 1)) (blkOk_by (N := ["cart", "folk", "timed", "hour", "rows", "run", "ends", "fast", "at", "pace", "here", "off", "nth", "when", "some", "name", "part", "long", "one", "own", "row", "way"]) (sc := defScope s__law_places) (by decide +kernel)) (fun _ _ _ _ _ => (pg_name (i := 18) sc__law_places.nd rfl (by first | exact Or.inl rfl | exact Or.inr rfl))) (fun _ _ _ _ _ => pts_nil) (fun _ _ _ _ _ => (pe_tup (pa_cons (pe_ix ix_seq (pv 18) pe_int (fun _ _ => rfl)) (pa_cons (pe_tup (pa_cons pe_int (pa_cons pe_int pa_nil))) pa_nil))))) pa_nil)))
      (pss_cons (ps_par3 (i := 9) (j := 10) (l := 11) (by rfl) sc__law_places.nd rfl rfl rfl (by decide) (by decide) (by decide) rfl rfl rfl (pa_cons (pe_tup (pa_cons pe_int (pa_cons pe_int pa_nil))) (pa_cons (pe_tup (pa_cons pe_int (pa_cons pe_int pa_nil))) (pa_cons (pe_lst pa_nil) pa_nil))) (by rfl))
      (pss_cons (ps_for PassesOwn.never rfl (pi_enum (by rfl) T.z_enumerate (pa_cons (pv 4) pa_nil)) (pg_tup rfl (pgs_cons (pg_name (i := 12) sc__law_places.nd rfl (by first | exact Or.inl rfl | exact Or.inr rfl)) (pgs_cons (pg_tup rfl (pgs_cons (pg_name (i := 13) sc__law_places.nd rfl (by first | exact Or.inl rfl | exact Or.inr rfl)) (pgs_cons (pg_name (i := 14) sc__law_places.nd rfl (by first | exact Or.inl rfl | exact Or.inr rfl)) pgs_nil))) pgs_nil))) (pss_cons (ps_set (i := 9) sc__law_places.nd rfl (by first | exact Or.inl rfl | exact Or.inr rfl) (pe_ix ix_seq (pe_ix ix_seq (pv 5) (pv 12) (fun _ _ => rfl)) pe_int (fun _ _ => rfl)))
      (pss_cons (ps_set (i := 11) sc__law_places.nd rfl (by first | exact Or.inl rfl | exact Or.inr rfl) (pe_op op_addA (pv 11) (pe_lc (own := [("name", 15), ("way", 21)]) (wi := (iAny K (tVar 14))) (g := (gTup K 2 (gCons (gName 15) (gCons (gName 21) gNil)))) (tt := tYes) (te := (tVar 15)) rfl sc__law_places.nd (pi_any (pv 14)) (blkOk_by (N := ["cart", "folk", "timed", "hour", "rows", "run", "ends", "fast", "at", "pace", "here", "off", "nth", "when", "some", "name", "part", "long", "one", "own", "row", "way"]) (sc := defScope s__law_places) (by decide +kernel)) (fun _ _ _ _ _ => (pg_tup rfl (pgs_cons (pg_name (i := 15) sc__law_places.nd rfl (by first | exact Or.inl rfl | exact Or.inr rfl)) (pgs_cons (pg_name (i := 21) sc__law_places.nd rfl (by first | exact Or.inl rfl | exact Or.inr rfl)) pgs_nil)))) (fun _ _ _ _ _ => pts_nil) (fun _ _ _ _ _ => (pv 15)))))
      (pss_cons (ps_for PassesOwn.never rfl (pi_any (pe_ix ix_seq (pe_ix ix_seq (pv 5) (pv 12) (fun _ _ => rfl)) pe_int (fun _ _ => rfl))) (pg_tup rfl (pgs_cons (pg_name (i := 15) sc__law_places.nd rfl (by first | exact Or.inl rfl | exact Or.inr rfl)) (pgs_cons (pg_name (i := 16) sc__law_places.nd rfl (by first | exact Or.inl rfl | exact Or.inr rfl)) pgs_nil))) (pss_one (ps_dput (hu_of hr) (pv 7) (pv 15) (pv 16) (by rfl))))
      (pss_cons (ps_set (i := 17) sc__law_places.nd rfl (by first | exact Or.inl rfl | exact Or.inr rfl) (pe_call (ok__law_plus T) (hr.mono (by decide)) (by rfl) T.m__law_plus T.F__law_plus.kp T.b__law_plus .nil pass0 (pa_cons (pe_ix ix_seq (pv 6) (pv 12) (fun _ _ => rfl)) (pa_cons (pe_tup (pa_cons (pe_op op_sub pe_int (pv 13)) (pa_cons pe_int pa_nil))) pa_nil))))
      (pss_cons (ps_set (i := 10) sc__law_places.nd rfl (by first | exact Or.inl rfl | exact Or.inr rfl) (pe_call (ok__law_plus T) (hr.mono (by decide)) (by rfl) T.m__law_plus T.F__law_plus.kp T.b__law_plus .nil pass0 (pa_cons (pv 10) (pa_cons (pe_call (ok__law_lowest T) (hr.mono (by decide)) (by rfl) T.m__law_lowest T.F__law_lowest.kp T.b__law_lowest .nil pass0 (pa_cons (pe_op op_mulW (pe_ix ix_seq (pv 9) pe_int (fun _ _ => rfl)) (pe_ix ix_seq (pv 17) pe_int (fun _ _ => rfl))) (pa_cons (pe_op op_mulW (pe_ix ix_seq (pv 9) pe_int (fun _ _ => rfl)) (pe_ix ix_seq (pv 17) pe_int (fun _ _ => rfl))) pa_nil))) pa_nil))))
      (pss_one (ps_for PassesOwn.never rfl (pi_any (pv 1)) (pg_name (i := 18) sc__law_places.nd rfl (by first | exact Or.inl rfl | exact Or.inr rfl)) (pss_cons (ps_set (i := 19) sc__law_places.nd rfl (by first | exact Or.inl rfl | exact Or.inr rfl) (pe_ifExp (pt_cmpR op_inA (pe_ix ix_seq (pv 18) pe_int (fun _ _ => rfl)) (pv 11) (by with_unfolding_all rfl)) (pe_dget (hu_of hr) (pv 7) (pe_ix ix_seq (pv 18) pe_int (fun _ _ => rfl)) (fun _ _ => rfl)) (pv 9)))
      (pss_one (ps_dput (hu_of hr) (pv 8) (pe_ix ix_seq (pv 18) pe_int (fun _ _ => rfl)) (pe_call (ok__law_plus T) (hr.mono (by decide)) (by rfl) T.m__law_plus T.F__law_plus.kp T.b__law_plus .nil pass0 (pa_cons (pe_dget (hu_of hr) (pv 8) (pe_ix ix_seq (pv 18) pe_int (fun _ _ => rfl)) (fun _ _ => rfl)) (pa_cons (pe_call (ok__law_lowest T) (hr.mono (by decide)) (by rfl) T.m__law_lowest T.F__law_lowest.kp T.b__law_lowest .nil pass0 (pa_cons (pe_op op_mulW (pe_ix ix_seq (pv 19) pe_int (fun _ _ => rfl)) (pe_ix ix_seq (pv 17) pe_int (fun _ _ => rfl))) (pa_cons (pe_op op_mulW (pe_ix ix_seq (pv 19) pe_int (fun _ _ => rfl)) (pe_ix ix_seq (pv 17) pe_int (fun _ _ => rfl))) pa_nil))) pa_nil))) (by rfl))))))))))))
      (pss_one (ps_ret (pe_op op_addA (pe_lst (pa_cons (pe_tup (pa_cons pe_str (pa_cons (pv 10) pa_nil))) pa_nil)) (pe_lc (own := [("one", 18)]) (wi := (iAny K (tVar 1))) (g := (gName 18)) (tt := tYes) (te := (tTup (tCons (tOp (rIx K) (tVar 18) (tC (.int 0))) (tCons (tDGet (tVar 8) (tOp (rIx K) (tVar 18) (tC (.int 0)))) tNil)))) rfl sc__law_places.nd (pi_any (pv 1)) (blkOk_by (N := ["cart", "folk", "timed", "hour", "rows", "run", "ends", "fast", "at", "pace", "here", "off", "nth", "when", "some", "name", "part", "long", "one", "own", "row", "way"]) (sc := defScope s__law_places) (by decide +kernel)) (fun _ _ _ _ _ => (pg_name (i := 18) sc__law_places.nd rfl (by first | exact Or.inl rfl | exact Or.inr rfl))) (fun _ _ _ _ _ => pts_nil) (fun _ _ _ _ _ => (pe_tup (pa_cons (pe_ix ix_seq (pv 18) pe_int (fun _ _ => rfl)) (pa_cons (pe_dget (hu_of hr) (pv 8) (pe_ix ix_seq (pv 18) pe_int (fun _ _ => rfl)) (fun _ _ => rfl)) pa_nil))))))))))))))), ?_⟩
    exact body_L (n := 18) (φ := b__law_places) (ws_seq (ws_asg ((wl_lc (js := [20]) (wi_any we_var) wg_name (by decide) (wt_not (wt_B (we_call (wa_cons we_var (wa_cons (we_tup (wa_cons (we_op rd_ix we_var we_int) (wa_cons we_int wa_nil))) wa_nil)) (arn_cons (arn_cons arn_nil))))) we_var)).we (wg_name (i := 4)))
      (ws_seq (ws_asg (we_call (wa_cons we_var (wa_cons we_var (wa_cons (we_tup (wa_cons we_int (wa_cons we_int wa_nil))) (wa_cons ((wl_lc (js := [20]) (wi_any we_var) wg_name (by decide) wt_yes (we_op rd_ix we_var we_int))).we wa_nil)))) (arn_cons (arn_cons (arn_cons (arn_cons arn_nil))))) (wg_name (i := 5)))
      (ws_seq (ws_asg (we_op rd_addA ((wl_lc (js := [20]) (wi_any (we_sl we_var (wo_some we_int) wo_none)) wg_name (by decide) wt_yes (we_tup (wa_cons (we_op rd_ix we_var we_int) (wa_cons we_int wa_nil))))).we ((wl_lst (wa_cons we_var wa_nil))).we) (wg_name (i := 6)))
      (ws_seq (ws_ownD (i := 7) (wd_dict (WE.wb ((wl_lc (js := [18]) (wi_any we_var) wg_name (by decide) wt_yes (we_tup (wa_cons (we_op rd_ix we_var we_int) (wa_cons (we_tup (wa_cons we_int (wa_cons we_int wa_nil))) wa_nil))))).we)))
      (ws_seq (ws_ownD (i := 8) (wd_dict (WE.wb ((wl_lc (js := [18]) (wi_any we_var) wg_name (by decide) wt_yes (we_tup (wa_cons (we_op rd_ix we_var we_int) (wa_cons (we_tup (wa_cons we_int (wa_cons we_int wa_nil))) wa_nil))))).we)))
      (ws_seq (ws_par3 (i := 9) (j := 10) (l := 11) (wa_cons (we_tup (wa_cons we_int (wa_cons we_int wa_nil))) (wa_cons (we_tup (wa_cons we_int (wa_cons we_int wa_nil))) (wa_cons ((wl_lst wa_nil)).we wa_nil))))
      (ws_seq (ws_for (wi_enum we_var) (wg_tup (wgs_cons wg_name (wgs_cons (wg_tup (wgs_cons wg_name (wgs_cons wg_name wgs_nil))) wgs_nil))) (ws_seq (ws_asg (we_op rd_ix (we_op rd_ix we_var we_var) we_int) (wg_name (i := 9)))
      (ws_seq (ws_asg (we_op rd_addA we_var ((wl_lc (js := ([15] ++ ([21] ++ []))) (wi_any we_var) (wg_tup (wgs_cons wg_name (wgs_cons wg_name wgs_nil))) (by decide) wt_yes we_var)).we) (wg_name (i := 11)))
      (ws_seq (ws_for (wi_any (we_op rd_ix (we_op rd_ix we_var we_var) we_int)) (wg_tup (wgs_cons wg_name (wgs_cons wg_name wgs_nil))) (ws_dput we_var we_var))
      (ws_seq (ws_asg (we_call (wa_cons (we_op rd_ix we_var we_var) (wa_cons (we_tup (wa_cons (we_op rd_sub we_int we_var) (wa_cons we_int wa_nil))) wa_nil)) (arn_cons (arn_cons arn_nil))) (wg_name (i := 17)))
      (ws_seq (ws_asg (we_call (wa_cons we_var (wa_cons (we_call (wa_cons (we_op rd_mul (we_op rd_ix we_var we_int) (we_op rd_ix we_var we_int)) (wa_cons (we_op rd_mul (we_op rd_ix we_var we_int) (we_op rd_ix we_var we_int)) wa_nil)) (arn_cons (arn_cons arn_nil))) wa_nil)) (arn_cons (arn_cons arn_nil))) (wg_name (i := 10)))
      (ws_for (wi_any we_var) wg_name (ws_seq (ws_asg (we_if (wt_test (we_op rd_inA (we_op rd_ix we_var we_int) we_var)) (we_dgetO (we_op rd_ix we_var we_int)) we_var) (wg_name (i := 19)))
      (ws_dput (we_op rd_ix we_var we_int) (we_call (wa_cons (we_dgetO (we_op rd_ix we_var we_int)) (wa_cons (we_call (wa_cons (we_op rd_mul (we_op rd_ix we_var we_int) (we_op rd_ix we_var we_int)) (wa_cons (we_op rd_mul (we_op rd_ix we_var we_int) (we_op rd_ix we_var we_int)) wa_nil)) (arn_cons (arn_cons arn_nil))) wa_nil)) (arn_cons (arn_cons arn_nil))))))))))))
      (ws_retL (wl_addL ((wl_lst (wa_cons (we_tup (wa_cons we_str (wa_cons we_var wa_nil))) wa_nil))).we ((wl_lc (js := [18]) (wi_any we_var) wg_name (by decide) wt_yes (we_tup (wa_cons (we_op rd_ix we_var we_int) (wa_cons (we_dgetO (we_op rd_ix we_var we_int)) wa_nil))))).we))))))))) rfl h
theorem sc_law : FnScope ["script", "k", "bag", "cart", "folk", "timed", "some", "hour", "told", "total", "one", "row"] ["script"] (defScope s_law) := ⟨rfl, rfl, rfl, by decide +kernel, rfl, by decide +kernel, by decide +kernel⟩
theorem ok_law (T : Tx K mg) : FnOk P w K mg base CX0 7 T.a_law T.d_law ["script"] (spD K 1 fn_law) := by
  refine T.F_law.ok sc_law (fun vs H Q E h => ?_) (fun cdv A outer s H vs Q E hr h => ?_)
  · obtain ⟨S, ds, d, hl, _⟩ := h
    exact hl
  · refine ⟨_, (pss_cons (ps_for PassesOwn.never rfl (pi_range1 (by rfl) T.z_range (pa_cons (pe_op op_addA pe_int (pe_callB (call_min2 rfl) (by rfl) T.z_min (by decide +kernel) (pa_cons (pe_callB call_len (by rfl) T.z_len (by decide +kernel) (pa_cons (pv 0) pa_nil)) (pa_cons pe_int pa_nil)))) pa_nil)) (pg_name (i := 1) sc_law.nd rfl (by first | exact Or.inl rfl | exact Or.inr rfl)) (pss_cons (ps_set (i := 2) sc_law.nd rfl (by first | exact Or.inl rfl | exact Or.inr rfl) (pe_call (ok__law_bag T) (hr.mono (by decide)) (by rfl) T.m__law_bag T.F__law_bag.kp T.b__law_bag .nil pass0 (pa_cons (pv 0) (pa_cons (pv 1) pa_nil))))
      (pss_cons (ps_par (i := 3) (j := 4) (by rfl) sc_law.nd rfl rfl (by decide) rfl rfl (pa_cons (pe_call (ok__law_cart T) (hr.mono (by decide)) (by rfl) T.m__law_cart T.F__law_cart.kp T.b__law_cart .nil pass0 (pa_cons (pv 2) pa_nil)) (pa_cons (pe_call (ok__law_folk T) (hr.mono (by decide)) (by rfl) T.m__law_folk T.F__law_folk.kp T.b__law_folk .nil pass0 (pa_cons (pv 2) (pa_cons pe_int pa_nil))) pa_nil)) (by rfl))
      (pss_cons (ps_set (i := 5) sc_law.nd rfl (by first | exact Or.inl rfl | exact Or.inr rfl) (pe_call (ok__law_timed T) (hr.mono (by decide)) (by rfl) T.m__law_timed T.F__law_timed.kp T.b__law_timed .nil pass0 (pa_cons (pv 2) (pa_cons (pv 4) pa_nil))))
      (pss_cons (ps_set (i := 6) sc_law.nd rfl (by first | exact Or.inl rfl | exact Or.inr rfl) (pe_lst (pa_cons (pe_tup (pa_cons pe_int (pa_cons pe_int pa_nil))) (pa_cons (pe_tup (pa_cons pe_int (pa_cons pe_int pa_nil))) (pa_cons (pe_call (ok__law_lowest T) (hr.mono (by decide)) (by rfl) T.m__law_lowest T.F__law_lowest.kp T.b__law_lowest .nil pass0 (pa_cons (pe_call (ok__law_take T) (hr.mono (by decide)) (by rfl) T.m__law_take T.F__law_take.kp T.b__law_take .nil pass0 (pa_cons (pv 2) (pa_cons pe_int pa_nil))) (pa_cons (pe_op op_addA pe_int (pe_call (ok__law_take T) (hr.mono (by decide)) (by rfl) T.m__law_take T.F__law_take.kp T.b__law_take .nil pass0 (pa_cons (pv 2) (pa_cons pe_int pa_nil)))) pa_nil))) pa_nil)))))
      (pss_one (ps_for PassesOwn.never rfl (pi_any (pe_op op_addA (pv 6) (pe_lc (own := [("row", 11)]) (wi := (iAny K (tSl (rSlA3 K) (tVar 5) tNoPart (tPart (tC (.int 3)))))) (g := (gName 11)) (tt := tYes) (te := (tTup (tCons (tOp (rIx K) (tVar 11) (tC (.int 0))) (tCons (tC (.int 1)) tNil)))) rfl sc_law.nd (pi_any (pe_slice sl_any (pv 5) po_none (po_some pe_int))) (blkOk_by (N := ["script", "k", "bag", "cart", "folk", "timed", "some", "hour", "told", "total", "one", "row"]) (sc := defScope s_law) (by decide +kernel)) (fun _ _ _ _ _ => (pg_name (i := 11) sc_law.nd rfl (by first | exact Or.inl rfl | exact Or.inr rfl))) (fun _ _ _ _ _ => pts_nil) (fun _ _ _ _ _ => (pe_tup (pa_cons (pe_ix ix_seq (pv 11) pe_int (fun _ _ => rfl)) (pa_cons pe_int pa_nil))))))) (pg_name (i := 7) sc_law.nd rfl (by first | exact Or.inl rfl | exact Or.inr rfl)) (pss_cons (ps_set (i := 8) sc_law.nd rfl (by first | exact Or.inl rfl | exact Or.inr rfl) (pe_call (ok_places T) (hr.mono (by decide)) (by rfl) T.m_places T.F_places.kp T.b_places .nil pass0 (pa_cons (pv 3) (pa_cons (pv 4) (pa_cons (pv 5) (pa_cons (pv 7) pa_nil))))))
      (pss_cons (ps_if (pt_cmpR (op_neA hr.units) (pv 8) (pe_call (ok__law_places T) (hr.mono (by decide)) (by rfl) T.m__law_places T.F__law_places.kp T.b__law_places .nil pass0 (pa_cons (pv 3) (pa_cons (pv 4) (pa_cons (pv 5) (pa_cons (pv 7) pa_nil))))) (nomark _)) (pss_one (ps_ret pe_bl)) pss_nil)
      (pss_cons (ps_set (i := 9) sc_law.nd rfl (by first | exact Or.inl rfl | exact Or.inr rfl) (pe_call (ok__law_times T) (hr.mono (by decide)) (by rfl) T.m__law_times T.F__law_times.kp T.b__law_times .nil pass0 (pa_cons (pe_ix ix_seq (pe_ix ix_seq (pv 8) pe_int (fun _ _ => rfl)) pe_int (fun _ _ => rfl)) (pa_cons (pv 3) pa_nil))))
      (pss_cons (ps_for PassesOwn.never rfl (pi_zipB (by rfl) T.z_zip (pa_cons (pv 4) (pa_cons (pe_slice sl_any (pv 8) (po_some pe_int) po_none) pa_nil))) (pg_tup rfl (pgs_cons (pg_name (i := 10) sc_law.nd rfl (by first | exact Or.inl rfl | exact Or.inr rfl)) (pgs_cons (pg_name (i := 11) sc_law.nd rfl (by first | exact Or.inl rfl | exact Or.inr rfl)) pgs_nil))) (pss_one (ps_set (i := 9) sc_law.nd rfl (by first | exact Or.inl rfl | exact Or.inr rfl) (pe_call (ok__law_plus T) (hr.mono (by decide)) (by rfl) T.m__law_plus T.F__law_plus.kp T.b__law_plus .nil pass0 (pa_cons (pv 9) (pa_cons (pe_call (ok__law_times T) (hr.mono (by decide)) (by rfl) T.m__law_times T.F__law_times.kp T.b__law_times .nil pass0 (pa_cons (pe_ix ix_seq (pv 11) pe_int (fun _ _ => rfl)) (pa_cons (pe_ix ix_seq (pv 10) pe_int (fun _ _ => rfl)) pa_nil))) pa_nil))))))
      (pss_cons (ps_if (pt_cmpR (op_neA hr.units) (pv 9) (pe_tup (pa_cons pe_int (pa_cons pe_int pa_nil))) (nomark _)) (pss_one (ps_ret pe_bl)) pss_nil)
      (pss_cons (ps_expr (pe_bm PySem.F.plainAttrs_list PySem.F.slot_list_append PySem.F.type_list_append mt_append (pv 8) (pa_cons pe_str pa_nil)))
      (pss_one (ps_if (pt_cmpR (op_neA hr.units) (pe_call (ok_places T) (hr.mono (by decide)) (by rfl) T.m_places T.F_places.kp T.b_places .nil pass0 (pa_cons (pv 3) (pa_cons (pv 4) (pa_cons (pv 5) (pa_cons (pv 7) pa_nil))))) (pe_slice sl_any (pv 8) po_none (po_some (pe_un un_neg pe_int))) (nomark _)) (pss_one (ps_ret pe_bl)) pss_nil)))))))))))))))
      (pss_one (ps_ret pe_bl))), ?_⟩
    exact body_D (n := 11) (φ := b_law) (ws_seq (ws_for (wi_range (we_op rd_addA we_int (we_min (we_c1 r1_len (WE.wb we_var)) we_int))) wg_name (ws_seq (ws_own (i := 2) (wl_call (wa_cons we_var (wa_cons we_var wa_nil)) (arn_cons (arn_cons arn_nil))))
      (ws_seq (ws_par (i := 3) (j := 4) (wa_cons (we_callB wa_nil arn_nil) (wa_cons (we_callB (wa_cons we_int wa_nil) (arn_cons arn_nil)) wa_nil)))
      (ws_seq (ws_asg (we_callB (wa_cons we_var wa_nil) (arn_cons arn_nil)) (wg_name (i := 5)))
      (ws_seq (ws_asg ((wl_lst (wa_cons (we_tup (wa_cons we_int (wa_cons we_int wa_nil))) (wa_cons (we_tup (wa_cons we_int (wa_cons we_int wa_nil))) (wa_cons (we_call (wa_cons (we_callB (wa_cons we_int wa_nil) (arn_cons arn_nil)) (wa_cons (we_op rd_addA we_int (we_callB (wa_cons we_int wa_nil) (arn_cons arn_nil))) wa_nil)) (arn_cons (arn_cons arn_nil))) wa_nil))))).we (wg_name (i := 6)))
      (ws_for (wi_any (we_op rd_addA we_var ((wl_lc (js := [11]) (wi_any (we_sl we_var wo_none (wo_some we_int))) wg_name (by decide) wt_yes (we_tup (wa_cons (we_op rd_ix we_var we_int) (wa_cons we_int wa_nil))))).we)) wg_name (ws_seq (ws_own (i := 8) (wl_call (wa_cons we_var (wa_cons we_var (wa_cons we_var (wa_cons we_var wa_nil)))) (arn_cons (arn_cons (arn_cons (arn_cons arn_nil))))))
      (ws_seq (ws_if (wt_test (we_opO rd_neA ((wl_call (wa_cons we_var (wa_cons we_var (wa_cons we_var (wa_cons we_var wa_nil)))) (arn_cons (arn_cons (arn_cons (arn_cons arn_nil)))))).we)) (ws_ret we_bl) ws_next)
      (ws_seq (ws_asg (we_call (wa_cons (we_op rd_ix (we_ixO we_int) we_int) (wa_cons we_var wa_nil)) (arn_cons (arn_cons arn_nil))) (wg_name (i := 9)))
      (ws_seq (ws_for (wi_zipB we_var (we_slO (wo_some we_int) wo_none)) (wg_tup (wgs_cons wg_name (wgs_cons wg_name wgs_nil))) (ws_asg (we_call (wa_cons we_var (wa_cons (we_call (wa_cons (we_op rd_ix we_var we_int) (wa_cons (we_op rd_ix we_var we_int) wa_nil)) (arn_cons (arn_cons arn_nil))) wa_nil)) (arn_cons (arn_cons arn_nil))) (wg_name (i := 9))))
      (ws_seq (ws_if (wt_test (we_op rd_neA we_var (we_tup (wa_cons we_int (wa_cons we_int wa_nil))))) (ws_ret we_bl) ws_next)
      (ws_seq (ws_app (i := 8) we_str)
      (ws_if (wt_test (we_op rd_neA ((wl_call (wa_cons we_var (wa_cons we_var (wa_cons we_var (wa_cons we_var wa_nil)))) (arn_cons (arn_cons (arn_cons (arn_cons arn_nil)))))).we (we_slO wo_none (wo_some (we_neg we_int))))) (ws_ret we_bl) ws_next)))))))))))))
      (ws_ret we_bl)) rfl h
end
end Lc
namespace Lc
open PySem L2 Evl RZ Sm
def spLaw (K : PySem.W.Frag) : Sp := fun vs H Q _ => ∃ (a : Addr) (ns : List Int), vs = [.ref a] ∧ SqL K H a (ns.map V.int) ∧ ns.length ≤ 63 ∧ ∀ H', Q (.bl true) H'
theorem law_sp {K : PySem.W.Frag} (hm : ∀ ns : List Int, ns.length ≤ 63 → fn_law [scrD ns] = some (.bool true)) (vs : List V) (H : Hp) (Q : VK) (E : XK) (h : spLaw K vs H Q E) : spD K 1 fn_law vs H Q E := by
  obtain ⟨a, ns, rfl, hS, hl, q⟩ := h
  refine ⟨[], [scrD ns], .bool true, rfl, .cons (.scr (by rw [msk_nil]; exact hS)) .nil, fun a ha => by simp at ha, hm ns hl, fun v H' _ r => ?_⟩
  cases r
  exact q H'
theorem all_mk {l : PySem.W.OpenLaw} {w : World} {K : PySem.W.Frag} {h : Heap} {mg : Str → Option Value} {fa : Addr} (X : K.In h) (G : h.Ns mainGlobals mg) (hfa : mg "law" = some (.ref fa)) (hm : ∀ ns : List Int, ns.length ≤ 63 → fn_law [scrD ns] = some (.bool true))
    {f0 : Addr} {od0 an0 : Option Addr} {sl0 : Array (Option Value)} {oc0 kV0 dc0 pm0 cd0 ct0 : Value}
    {f1 : Addr} {od1 an1 : Option Addr} {sl1 : Array (Option Value)} {oc1 kV1 dc1 pm1 cd1 ct1 : Value}
    {f2 : Addr} {od2 an2 : Option Addr} {sl2 : Array (Option Value)} {oc2 kV2 dc2 pm2 cd2 ct2 : Value}
    {f3 : Addr} {od3 an3 : Option Addr} {sl3 : Array (Option Value)} {oc3 kV3 dc3 pm3 cd3 ct3 : Value}
    {f4 : Addr} {od4 an4 : Option Addr} {sl4 : Array (Option Value)} {oc4 kV4 dc4 pm4 cd4 ct4 : Value}
    {f5 : Addr} {od5 an5 : Option Addr} {sl5 : Array (Option Value)} {oc5 kV5 dc5 pm5 cd5 ct5 : Value}
    {f6 : Addr} {od6 an6 : Option Addr} {sl6 : Array (Option Value)} {oc6 kV6 dc6 pm6 cd6 ct6 : Value}
    {f7 : Addr} {od7 an7 : Option Addr} {sl7 : Array (Option Value)} {oc7 kV7 dc7 pm7 cd7 ct7 : Value}
    {f8 : Addr} {od8 an8 : Option Addr} {sl8 : Array (Option Value)} {oc8 kV8 dc8 pm8 cd8 ct8 : Value}
    {f9 : Addr} {od9 an9 : Option Addr} {sl9 : Array (Option Value)} {oc9 kV9 dc9 pm9 cd9 ct9 : Value}
    {f10 : Addr} {od10 an10 : Option Addr} {sl10 : Array (Option Value)} {oc10 kV10 dc10 pm10 cd10 ct10 : Value}
    {f11 : Addr} {od11 an11 : Option Addr} {sl11 : Array (Option Value)} {oc11 kV11 dc11 pm11 cd11 ct11 : Value}
    {f12 : Addr} {od12 an12 : Option Addr} {sl12 : Array (Option Value)} {oc12 kV12 dc12 pm12 cd12 ct12 : Value}
    {f13 : Addr} {od13 an13 : Option Addr} {sl13 : Array (Option Value)} {oc13 kV13 dc13 pm13 cd13 ct13 : Value}
    {f14 : Addr} {od14 an14 : Option Addr} {sl14 : Array (Option Value)} {oc14 kV14 dc14 pm14 cd14 ct14 : Value}
    {f15 : Addr} {od15 an15 : Option Addr} {sl15 : Array (Option Value)} {oc15 kV15 dc15 pm15 cd15 ct15 : Value}
    {f16 : Addr} {od16 an16 : Option Addr} {sl16 : Array (Option Value)} {oc16 kV16 dc16 pm16 cd16 ct16 : Value}
    {f17 : Addr} {od17 an17 : Option Addr} {sl17 : Array (Option Value)} {oc17 kV17 dc17 pm17 cd17 ct17 : Value}
    {f18 : Addr} {od18 an18 : Option Addr} {sl18 : Array (Option Value)} {oc18 kV18 dc18 pm18 cd18 ct18 : Value}
    {f19 : Addr} {od19 an19 : Option Addr} {sl19 : Array (Option Value)} {oc19 kV19 dc19 pm19 cd19 ct19 : Value}
    {f20 : Addr} {od20 an20 : Option Addr} {sl20 : Array (Option Value)} {oc20 kV20 dc20 pm20 cd20 ct20 : Value}
    {f21 : Addr} {od21 an21 : Option Addr} {sl21 : Array (Option Value)} {oc21 kV21 dc21 pm21 cd21 ct21 : Value}
    {f22 : Addr} {od22 an22 : Option Addr} {sl22 : Array (Option Value)} {oc22 kV22 dc22 pm22 cd22 ct22 : Value}
    {f23 : Addr} {od23 an23 : Option Addr} {sl23 : Array (Option Value)} {oc23 kV23 dc23 pm23 cd23 ct23 : Value}
    {f24 : Addr} {od24 an24 : Option Addr} {sl24 : Array (Option Value)} {oc24 kV24 dc24 pm24 cd24 ct24 : Value}
    {f25 : Addr} {od25 an25 : Option Addr} {sl25 : Array (Option Value)} {oc25 kV25 dc25 pm25 cd25 ct25 : Value}
    {f26 : Addr} {od26 an26 : Option Addr} {sl26 : Array (Option Value)} {oc26 kV26 dc26 pm26 cd26 ct26 : Value}
    {f27 : Addr} {od27 an27 : Option Addr} {sl27 : Array (Option Value)} {oc27 kV27 dc27 pm27 cd27 ct27 : Value}
    {f28 : Addr} {od28 an28 : Option Addr} {sl28 : Array (Option Value)} {oc28 kV28 dc28 pm28 cd28 ct28 : Value}
    {f29 : Addr} {od29 an29 : Option Addr} {sl29 : Array (Option Value)} {oc29 kV29 dc29 pm29 cd29 ct29 : Value}
    {f30 : Addr} {od30 an30 : Option Addr} {sl30 : Array (Option Value)} {oc30 kV30 dc30 pm30 cd30 ct30 : Value}
    {ca0 : Addr} {tk0_0 tk0_1 : Tok} {cn0 : Nat} {cd_0 : Option Addr} {cs0 : Array (Option Value)}
    (a0 : PySem.W.nsIn K mainGlobals "common_divisor" = some (some (.ref f0)))
    (l0 : K.lookup f0 = some ⟨oc0, od0, .func (PySem.W.fnOf "common_divisor" "common_divisor" (defArgs s_common_divisor) (defBody s_common_divisor) (defScope s_common_divisor) .none kV0 dc0 pm0 an0 cd0 ct0), sl0⟩)
    (c0 : PySem.W.codeIn K cd0 "common_divisor" = true) (k0 : PySem.W.keepIn K (.ref f0) = true)
    (a1 : PySem.W.nsIn K mainGlobals "fraction" = some (some (.ref f1)))
    (l1 : K.lookup f1 = some ⟨oc1, od1, .func (PySem.W.fnOf "fraction" "fraction" (defArgs s_fraction) (defBody s_fraction) (defScope s_fraction) .none kV1 dc1 pm1 an1 cd1 ct1), sl1⟩)
    (c1 : PySem.W.codeIn K cd1 "fraction" = true) (k1 : PySem.W.keepIn K (.ref f1) = true)
    (a2 : PySem.W.nsIn K mainGlobals "plus" = some (some (.ref f2)))
    (l2 : K.lookup f2 = some ⟨oc2, od2, .func (PySem.W.fnOf "plus" "plus" (defArgs s_plus) (defBody s_plus) (defScope s_plus) .none kV2 dc2 pm2 an2 cd2 ct2), sl2⟩)
    (c2 : PySem.W.codeIn K cd2 "plus" = true) (k2 : PySem.W.keepIn K (.ref f2) = true)
    (a3 : PySem.W.nsIn K mainGlobals "plus_whole" = some (some (.ref f3)))
    (l3 : K.lookup f3 = some ⟨oc3, od3, .func (PySem.W.fnOf "plus_whole" "plus_whole" (defArgs s_plus_whole) (defBody s_plus_whole) (defScope s_plus_whole) .none kV3 dc3 pm3 an3 cd3 ct3), sl3⟩)
    (c3 : PySem.W.codeIn K cd3 "plus_whole" = true) (k3 : PySem.W.keepIn K (.ref f3) = true)
    (a4 : PySem.W.nsIn K mainGlobals "times" = some (some (.ref f4)))
    (l4 : K.lookup f4 = some ⟨oc4, od4, .func (PySem.W.fnOf "times" "times" (defArgs s_times) (defBody s_times) (defScope s_times) .none kV4 dc4 pm4 an4 cd4 ct4), sl4⟩)
    (c4 : PySem.W.codeIn K cd4 "times" = true) (k4 : PySem.W.keepIn K (.ref f4) = true)
    (a5 : PySem.W.nsIn K mainGlobals "names_of" = some (some (.ref f5)))
    (l5 : K.lookup f5 = some ⟨oc5, od5, .func (PySem.W.fnOf "names_of" "names_of" (defArgs s_names_of) (defBody s_names_of) (defScope s_names_of) .none kV5 dc5 pm5 an5 cd5 ct5), sl5⟩)
    (c5 : PySem.W.codeIn K cd5 "names_of" = true) (k5 : PySem.W.keepIn K (.ref f5) = true)
    (a6 : PySem.W.nsIn K mainGlobals "weigh" = some (some (.ref f6)))
    (l6 : K.lookup f6 = some ⟨oc6, od6, .func (PySem.W.fnOf "weigh" "weigh" (defArgs s_weigh) (defBody s_weigh) (defScope s_weigh) .none kV6 dc6 pm6 an6 cd6 ct6), sl6⟩)
    (c6 : PySem.W.codeIn K cd6 "weigh" = true) (k6 : PySem.W.keepIn K (.ref f6) = true)
    (a7 : PySem.W.nsIn K mainGlobals "driven" = some (some (.ref f7)))
    (l7 : K.lookup f7 = some ⟨oc7, od7, .func (PySem.W.fnOf "driven" "driven" (defArgs s_driven) (defBody s_driven) (defScope s_driven) .none kV7 dc7 pm7 an7 cd7 ct7), sl7⟩)
    (c7 : PySem.W.codeIn K cd7 "driven" = true) (k7 : PySem.W.keepIn K (.ref f7) = true)
    (a8 : PySem.W.nsIn K mainGlobals "still_on" = some (some (.ref f8)))
    (l8 : K.lookup f8 = some ⟨oc8, od8, .func (PySem.W.fnOf "still_on" "still_on" (defArgs s_still_on) (defBody s_still_on) (defScope s_still_on) .none kV8 dc8 pm8 an8 cd8 ct8), sl8⟩)
    (c8 : PySem.W.codeIn K cd8 "still_on" = true) (k8 : PySem.W.keepIn K (.ref f8) = true)
    (a9 : PySem.W.nsIn K mainGlobals "speeds" = some (some (.ref f9)))
    (l9 : K.lookup f9 = some ⟨oc9, od9, .func (PySem.W.fnOf "speeds" "speeds" (defArgs s_speeds) (defBody s_speeds) (defScope s_speeds) .none kV9 dc9 pm9 an9 cd9 ct9), sl9⟩)
    (c9 : PySem.W.codeIn K cd9 "speeds" = true) (k9 : PySem.W.keepIn K (.ref f9) = true)
    (a10 : PySem.W.nsIn K mainGlobals "leap_by_name" = some (some (.ref f10)))
    (l10 : K.lookup f10 = some ⟨oc10, od10, .func (PySem.W.fnOf "leap_by_name" "leap_by_name" (defArgs s_leap_by_name) (defBody s_leap_by_name) (defScope s_leap_by_name) .none kV10 dc10 pm10 an10 cd10 ct10), sl10⟩)
    (c10 : PySem.W.codeIn K cd10 "leap_by_name" = true) (k10 : PySem.W.keepIn K (.ref f10) = true)
    (a11 : PySem.W.nsIn K mainGlobals "leaper_speeds" = some (some (.ref f11)))
    (l11 : K.lookup f11 = some ⟨oc11, od11, .func (PySem.W.fnOf "leaper_speeds" "leaper_speeds" (defArgs s_leaper_speeds) (defBody s_leaper_speeds) (defScope s_leaper_speeds) .none kV11 dc11 pm11 an11 cd11 ct11), sl11⟩)
    (c11 : PySem.W.codeIn K cd11 "leaper_speeds" = true) (k11 : PySem.W.keepIn K (.ref f11) = true)
    (a12 : PySem.W.nsIn K mainGlobals "run_on" = some (some (.ref f12)))
    (l12 : K.lookup f12 = some ⟨oc12, od12, .func (PySem.W.fnOf "run_on" "run_on" (defArgs s_run_on) (defBody s_run_on) (defScope s_run_on) .none kV12 dc12 pm12 an12 cd12 ct12), sl12⟩)
    (c12 : PySem.W.codeIn K cd12 "run_on" = true) (k12 : PySem.W.keepIn K (.ref f12) = true)
    (a13 : PySem.W.nsIn K mainGlobals "places" = some (some (.ref f13)))
    (l13 : K.lookup f13 = some ⟨oc13, od13, .func (PySem.W.fnOf "places" "places" (defArgs s_places) (defBody s_places) (defScope s_places) .none kV13 dc13 pm13 an13 cd13 ct13), sl13⟩)
    (c13 : PySem.W.codeIn K cd13 "places" = true) (k13 : PySem.W.keepIn K (.ref f13) = true)
    (a14 : PySem.W.nsIn K mainGlobals "_law_bag" = some (some (.ref f14)))
    (l14 : K.lookup f14 = some ⟨oc14, od14, .func (PySem.W.fnOf "_law_bag" "_law_bag" (defArgs s__law_bag) (defBody s__law_bag) (defScope s__law_bag) .none kV14 dc14 pm14 an14 cd14 ct14), sl14⟩)
    (c14 : PySem.W.codeIn K cd14 "_law_bag" = true) (k14 : PySem.W.keepIn K (.ref f14) = true)
    (a15 : PySem.W.nsIn K mainGlobals "_law_take" = some (some (.ref f15)))
    (l15 : K.lookup f15 = some ⟨oc15, od15, .func (PySem.W.fnOf "_law_take" "_law_take" (defArgs s__law_take) (defBody s__law_take) (defScope s__law_take) .none kV15 dc15 pm15 an15 cd15 ct15), sl15⟩)
    (c15 : PySem.W.codeIn K cd15 "_law_take" = true) (k15 : PySem.W.keepIn K (.ref f15) = true)
    (a16 : PySem.W.nsIn K mainGlobals "_law_lowest" = some (some (.ref f16)))
    (l16 : K.lookup f16 = some ⟨oc16, od16, .func (PySem.W.fnOf "_law_lowest" "_law_lowest" (defArgs s__law_lowest) (defBody s__law_lowest) (defScope s__law_lowest) .none kV16 dc16 pm16 an16 cd16 ct16), sl16⟩)
    (c16 : PySem.W.codeIn K cd16 "_law_lowest" = true) (k16 : PySem.W.keepIn K (.ref f16) = true)
    (a17 : PySem.W.nsIn K mainGlobals "_law_plus" = some (some (.ref f17)))
    (l17 : K.lookup f17 = some ⟨oc17, od17, .func (PySem.W.fnOf "_law_plus" "_law_plus" (defArgs s__law_plus) (defBody s__law_plus) (defScope s__law_plus) .none kV17 dc17 pm17 an17 cd17 ct17), sl17⟩)
    (c17 : PySem.W.codeIn K cd17 "_law_plus" = true) (k17 : PySem.W.keepIn K (.ref f17) = true)
    (a18 : PySem.W.nsIn K mainGlobals "_law_times" = some (some (.ref f18)))
    (l18 : K.lookup f18 = some ⟨oc18, od18, .func (PySem.W.fnOf "_law_times" "_law_times" (defArgs s__law_times) (defBody s__law_times) (defScope s__law_times) .none kV18 dc18 pm18 an18 cd18 ct18), sl18⟩)
    (c18 : PySem.W.codeIn K cd18 "_law_times" = true) (k18 : PySem.W.keepIn K (.ref f18) = true)
    (a19 : PySem.W.nsIn K mainGlobals "_law_less" = some (some (.ref f19)))
    (l19 : K.lookup f19 = some ⟨oc19, od19, .func (PySem.W.fnOf "_law_less" "_law_less" (defArgs s__law_less) (defBody s__law_less) (defScope s__law_less) .none kV19 dc19 pm19 an19 cd19 ct19), sl19⟩)
    (c19 : PySem.W.codeIn K cd19 "_law_less" = true) (k19 : PySem.W.keepIn K (.ref f19) = true)
    (a20 : PySem.W.nsIn K mainGlobals "_law_cart" = some (some (.ref f20)))
    (l20 : K.lookup f20 = some ⟨oc20, od20, .func (PySem.W.fnOf "_law_cart" "_law_cart" (defArgs s__law_cart) (defBody s__law_cart) (defScope s__law_cart) .none kV20 dc20 pm20 an20 cd20 ct20), sl20⟩)
    (c20 : PySem.W.codeIn K cd20 "_law_cart" = true) (k20 : PySem.W.keepIn K (.ref f20) = true)
    (a21 : PySem.W.nsIn K mainGlobals "_law_folk" = some (some (.ref f21)))
    (l21 : K.lookup f21 = some ⟨oc21, od21, .func (PySem.W.fnOf "_law_folk" "_law_folk" (defArgs s__law_folk) (defBody s__law_folk) (defScope s__law_folk) .none kV21 dc21 pm21 an21 cd21 ct21), sl21⟩)
    (c21 : PySem.W.codeIn K cd21 "_law_folk" = true) (k21 : PySem.W.keepIn K (.ref f21) = true)
    (a22 : PySem.W.nsIn K mainGlobals "_law_mixed" = some (some (.ref f22)))
    (l22 : K.lookup f22 = some ⟨oc22, od22, .func (PySem.W.fnOf "_law_mixed" "_law_mixed" (defArgs s__law_mixed) (defBody s__law_mixed) (defScope s__law_mixed) .none kV22 dc22 pm22 an22 cd22 ct22), sl22⟩)
    (c22 : PySem.W.codeIn K cd22 "_law_mixed" = true) (k22 : PySem.W.keepIn K (.ref f22) = true)
    (a23 : PySem.W.nsIn K mainGlobals "_law_leaps" = some (some (.ref f23)))
    (l23 : K.lookup f23 = some ⟨oc23, od23, .func (PySem.W.fnOf "_law_leaps" "_law_leaps" (defArgs s__law_leaps) (defBody s__law_leaps) (defScope s__law_leaps) .none kV23 dc23 pm23 an23 cd23 ct23), sl23⟩)
    (c23 : PySem.W.codeIn K cd23 "_law_leaps" = true) (k23 : PySem.W.keepIn K (.ref f23) = true)
    (a24 : PySem.W.nsIn K mainGlobals "_law_left" = some (some (.ref f24)))
    (l24 : K.lookup f24 = some ⟨oc24, od24, .func (PySem.W.fnOf "_law_left" "_law_left" (defArgs s__law_left) (defBody s__law_left) (defScope s__law_left) .none kV24 dc24 pm24 an24 cd24 ct24), sl24⟩)
    (c24 : PySem.W.codeIn K cd24 "_law_left" = true) (k24 : PySem.W.keepIn K (.ref f24) = true)
    (a25 : PySem.W.nsIn K mainGlobals "_law_weight" = some (some (.ref f25)))
    (l25 : K.lookup f25 = some ⟨oc25, od25, .func (PySem.W.fnOf "_law_weight" "_law_weight" (defArgs s__law_weight) (defBody s__law_weight) (defScope s__law_weight) .none kV25 dc25 pm25 an25 cd25 ct25), sl25⟩)
    (c25 : PySem.W.codeIn K cd25 "_law_weight" = true) (k25 : PySem.W.keepIn K (.ref f25) = true)
    (a26 : PySem.W.nsIn K mainGlobals "_law_behind" = some (some (.ref f26)))
    (l26 : K.lookup f26 = some ⟨oc26, od26, .func (PySem.W.fnOf "_law_behind" "_law_behind" (defArgs s__law_behind) (defBody s__law_behind) (defScope s__law_behind) .none kV26 dc26 pm26 an26 cd26 ct26), sl26⟩)
    (c26 : PySem.W.codeIn K cd26 "_law_behind" = true) (k26 : PySem.W.keepIn K (.ref f26) = true)
    (a27 : PySem.W.nsIn K mainGlobals "_law_run" = some (some (.ref f27)))
    (l27 : K.lookup f27 = some ⟨oc27, od27, .func (PySem.W.fnOf "_law_run" "_law_run" (defArgs s__law_run) (defBody s__law_run) (defScope s__law_run) .none kV27 dc27 pm27 an27 cd27 ct27), sl27⟩)
    (c27 : PySem.W.codeIn K cd27 "_law_run" = true) (k27 : PySem.W.keepIn K (.ref f27) = true)
    (a28 : PySem.W.nsIn K mainGlobals "_law_timed" = some (some (.ref f28)))
    (l28 : K.lookup f28 = some ⟨oc28, od28, .func (PySem.W.fnOf "_law_timed" "_law_timed" (defArgs s__law_timed) (defBody s__law_timed) (defScope s__law_timed) .none kV28 dc28 pm28 an28 cd28 ct28), sl28⟩)
    (c28 : PySem.W.codeIn K cd28 "_law_timed" = true) (k28 : PySem.W.keepIn K (.ref f28) = true)
    (a29 : PySem.W.nsIn K mainGlobals "_law_places" = some (some (.ref f29)))
    (l29 : K.lookup f29 = some ⟨oc29, od29, .func (PySem.W.fnOf "_law_places" "_law_places" (defArgs s__law_places) (defBody s__law_places) (defScope s__law_places) .none kV29 dc29 pm29 an29 cd29 ct29), sl29⟩)
    (c29 : PySem.W.codeIn K cd29 "_law_places" = true) (k29 : PySem.W.keepIn K (.ref f29) = true)
    (a30 : PySem.W.nsIn K mainGlobals "law" = some (some (.ref f30)))
    (l30 : K.lookup f30 = some ⟨oc30, od30, .func (PySem.W.fnOf "law" "law" (defArgs s_law) (defBody s_law) (defScope s_law) .none kV30 dc30 pm30 an30 cd30 ct30), sl30⟩)
    (c30 : PySem.W.codeIn K cd30 "law" = true) (k30 : PySem.W.keepIn K (.ref f30) = true)
    (q0 : PySem.W.nsIn K mainGlobals "NOUGHT" = some (some (.ref ca0)))
    (r0 : K.lookup ca0 = some ⟨.type "tuple", cd_0, .seq #[.int (0) tk0_0, .int (1) tk0_1] cn0, cs0⟩)
    (z0 : PySem.W.nsIn K mainGlobals "abs" = some none)
    (z1 : PySem.W.nsIn K mainGlobals "dict" = some none)
    (z2 : PySem.W.nsIn K mainGlobals "enumerate" = some none)
    (z3 : PySem.W.nsIn K mainGlobals "len" = some none)
    (z4 : PySem.W.nsIn K mainGlobals "list" = some none)
    (z5 : PySem.W.nsIn K mainGlobals "min" = some none)
    (z6 : PySem.W.nsIn K mainGlobals "range" = some none)
    (z7 : PySem.W.nsIn K mainGlobals "sorted" = some none)
    (z8 : PySem.W.nsIn K mainGlobals "sum" = some none)
    (z9 : PySem.W.nsIn K mainGlobals "tuple" = some none)
    (z10 : PySem.W.nsIn K mainGlobals "zip" = some none) :
    ∃ fd : FuncData, (∀ (s : Shared) (v : Value), BindsTo s fd ⟨[v], []⟩ [("script", v)]) ∧ ∀ base : Heap, K.In base → base.Ns mainGlobals mg → FnOk l.prog w K mg base CX0 7 fa fd ["script"] (spLaw K) := by
  have e := hfa.symm.trans (PySem.W.mg_of X G a30)
  cases e
  have F0 := fun_mk (st := s_common_divisor) l0 c0 k0
  have B0 := F0.binds (ps := ["one", "other"]) fun _ _ _ _ _ _ us hl => match us, hl with | [_, _], _ => rfl
  have F1 := fun_mk (st := s_fraction) l1 c1 k1
  have B1 := F1.binds (ps := ["top", "bottom"]) fun _ _ _ _ _ _ us hl => match us, hl with | [_, _], _ => rfl
  have F2 := fun_mk (st := s_plus) l2 c2 k2
  have B2 := F2.binds (ps := ["one", "other"]) fun _ _ _ _ _ _ us hl => match us, hl with | [_, _], _ => rfl
  have F3 := fun_mk (st := s_plus_whole) l3 c3 k3
  have B3 := F3.binds (ps := ["one", "number"]) fun _ _ _ _ _ _ us hl => match us, hl with | [_, _], _ => rfl
  have F4 := fun_mk (st := s_times) l4 c4 k4
  have B4 := F4.binds (ps := ["one", "other"]) fun _ _ _ _ _ _ us hl => match us, hl with | [_, _], _ => rfl
  have F5 := fun_mk (st := s_names_of) l5 c5 k5
  have B5 := F5.binds (ps := ["rows"]) fun _ _ _ _ _ _ us hl => match us, hl with | [_], _ => rfl
  have F6 := fun_mk (st := s_weigh) l6 c6 k6
  have B6 := F6.binds (ps := ["cart", "aboard"]) fun _ _ _ _ _ _ us hl => match us, hl with | [_, _], _ => rfl
  have F7 := fun_mk (st := s_driven) l7 c7 k7
  have B7 := F7.binds (ps := ["cart", "aboard", "speed", "at_once"]) fun _ _ _ _ _ _ us hl => match us, hl with | [_, _, _, _], _ => rfl
  have F8 := fun_mk (st := s_still_on) l8 c8 k8
  have B8 := F8.binds (ps := ["aboard", "at_once"]) fun _ _ _ _ _ _ us hl => match us, hl with | [_, _], _ => rfl
  have F9 := fun_mk (st := s_speeds) l9 c9 k9
  have B9 := F9.binds (ps := ["cart", "folk", "speed", "leaps"]) fun _ _ _ _ _ _ us hl => match us, hl with | [_, _, _, _], _ => rfl
  have F10 := fun_mk (st := s_leap_by_name) l10 c10 k10
  have B10 := F10.binds (ps := ["folk"]) fun _ _ _ _ _ _ us hl => match us, hl with | [_], _ => rfl
  have F11 := fun_mk (st := s_leaper_speeds) l11 c11 k11
  have B11 := F11.binds (ps := ["fast", "behind", "at_once"]) fun _ _ _ _ _ _ us hl => match us, hl with | [_, _, _], _ => rfl
  have F12 := fun_mk (st := s_run_on) l12 c12 k12
  have B12 := F12.binds (ps := ["place", "speed", "since", "hour"]) fun _ _ _ _ _ _ us hl => match us, hl with | [_, _, _, _], _ => rfl
  have F13 := fun_mk (st := s_places) l13 c13 k13
  have B13 := F13.binds (ps := ["cart", "folk", "timed", "hour"]) fun _ _ _ _ _ _ us hl => match us, hl with | [_, _, _, _], _ => rfl
  have F14 := fun_mk (st := s__law_bag) l14 c14 k14
  have B14 := F14.binds (ps := ["script", "k"]) fun _ _ _ _ _ _ us hl => match us, hl with | [_, _], _ => rfl
  have F15 := fun_mk (st := s__law_take) l15 c15 k15
  have B15 := F15.binds (ps := ["bag", "many"]) fun _ _ _ _ _ _ us hl => match us, hl with | [_, _], _ => rfl
  have F16 := fun_mk (st := s__law_lowest) l16 c16 k16
  have B16 := F16.binds (ps := ["top", "bottom"]) fun _ _ _ _ _ _ us hl => match us, hl with | [_, _], _ => rfl
  have F17 := fun_mk (st := s__law_plus) l17 c17 k17
  have B17 := F17.binds (ps := ["one", "other"]) fun _ _ _ _ _ _ us hl => match us, hl with | [_, _], _ => rfl
  have F18 := fun_mk (st := s__law_times) l18 c18 k18
  have B18 := F18.binds (ps := ["part", "by"]) fun _ _ _ _ _ _ us hl => match us, hl with | [_, _], _ => rfl
  have F19 := fun_mk (st := s__law_less) l19 c19 k19
  have B19 := F19.binds (ps := ["one", "other"]) fun _ _ _ _ _ _ us hl => match us, hl with | [_, _], _ => rfl
  have F20 := fun_mk (st := s__law_cart) l20 c20 k20
  have B20 := F20.binds (ps := ["bag"]) fun _ _ _ _ _ _ us hl => match us, hl with | [_], _ => rfl
  have F21 := fun_mk (st := s__law_folk) l21 c21 k21
  have B21 := F21.binds (ps := ["bag", "most"]) fun _ _ _ _ _ _ us hl => match us, hl with | [_, _], _ => rfl
  have F22 := fun_mk (st := s__law_mixed) l22 c22 k22
  have B22 := F22.binds (ps := ["bag", "some"]) fun _ _ _ _ _ _ us hl => match us, hl with | [_, _], _ => rfl
  have F23 := fun_mk (st := s__law_leaps) l23 c23 k23
  have B23 := F23.binds (ps := ["bag", "folk"]) fun _ _ _ _ _ _ us hl => match us, hl with | [_, _], _ => rfl
  have F24 := fun_mk (st := s__law_left) l24 c24 k24
  have B24 := F24.binds (ps := ["folk", "names"]) fun _ _ _ _ _ _ us hl => match us, hl with | [_, _], _ => rfl
  have F25 := fun_mk (st := s__law_weight) l25 c25 k25
  have B25 := F25.binds (ps := ["cart", "folk"]) fun _ _ _ _ _ _ us hl => match us, hl with | [_, _], _ => rfl
  have F26 := fun_mk (st := s__law_behind) l26 c26 k26
  have B26 := F26.binds (ps := ["cart", "folk", "speed", "some"]) fun _ _ _ _ _ _ us hl => match us, hl with | [_, _, _, _], _ => rfl
  have F27 := fun_mk (st := s__law_run) l27 c27 k27
  have B27 := F27.binds (ps := ["cart", "folk", "speed", "leaps"]) fun _ _ _ _ _ _ us hl => match us, hl with | [_, _, _, _], _ => rfl
  have F28 := fun_mk (st := s__law_timed) l28 c28 k28
  have B28 := F28.binds (ps := ["bag", "folk"]) fun _ _ _ _ _ _ us hl => match us, hl with | [_, _], _ => rfl
  have F29 := fun_mk (st := s__law_places) l29 c29 k29
  have B29 := F29.binds (ps := ["cart", "folk", "timed", "hour"]) fun _ _ _ _ _ _ us hl => match us, hl with | [_, _, _, _], _ => rfl
  have F30 := fun_mk (st := s_law) l30 c30 k30
  have B30 := F30.binds (ps := ["script"]) fun _ _ _ _ _ _ us hl => match us, hl with | [_], _ => rfl
  exact ⟨PySem.W.fnOf "law" "law" (defArgs s_law) (defBody s_law) (defScope s_law) .none kV30 dc30 pm30 an30 cd30 ct30, fun s v => .of_eq rfl, fun base _ _ => (ok_law (P := l.prog) (w := w) (base := base) ⟨f0, _, F0, B0, PySem.W.mg_of X G a0, f1, _, F1, B1, PySem.W.mg_of X G a1, f2, _, F2, B2, PySem.W.mg_of X G a2, f3, _, F3, B3, PySem.W.mg_of X G a3, f4, _, F4, B4, PySem.W.mg_of X G a4, f5, _, F5, B5, PySem.W.mg_of X G a5, f6, _, F6, B6, PySem.W.mg_of X G a6, f7, _, F7, B7, PySem.W.mg_of X G a7, f8, _, F8, B8, PySem.W.mg_of X G a8, f9, _, F9, B9, PySem.W.mg_of X G a9, f10, _, F10, B10, PySem.W.mg_of X G a10, f11, _, F11, B11, PySem.W.mg_of X G a11, f12, _, F12, B12, PySem.W.mg_of X G a12, f13, _, F13, B13, PySem.W.mg_of X G a13, f14, _, F14, B14, PySem.W.mg_of X G a14, f15, _, F15, B15, PySem.W.mg_of X G a15, f16, _, F16, B16, PySem.W.mg_of X G a16, f17, _, F17, B17, PySem.W.mg_of X G a17, f18, _, F18, B18, PySem.W.mg_of X G a18, f19, _, F19, B19, PySem.W.mg_of X G a19, f20, _, F20, B20, PySem.W.mg_of X G a20, f21, _, F21, B21, PySem.W.mg_of X G a21, f22, _, F22, B22, PySem.W.mg_of X G a22, f23, _, F23, B23, PySem.W.mg_of X G a23, f24, _, F24, B24, PySem.W.mg_of X G a24, f25, _, F25, B25, PySem.W.mg_of X G a25, f26, _, F26, B26, PySem.W.mg_of X G a26, f27, _, F27, B27, PySem.W.mg_of X G a27, f28, _, F28, B28, PySem.W.mg_of X G a28, f29, _, F29, B29, PySem.W.mg_of X G a29, fa, _, F30, B30, PySem.W.mg_of X G a30, ca0, PySem.W.mg_of X G q0, ⟨_, _, _, r0, rfl, rfl, (show (2 : Nat) ≤ sizeLine by decide), .cons ⟨_, rfl⟩ (.cons ⟨_, rfl⟩ (.nil))⟩, PySem.W.mg_none_of X G z0, PySem.W.mg_none_of X G z1, PySem.W.mg_none_of X G z2, PySem.W.mg_none_of X G z3, PySem.W.mg_none_of X G z4, PySem.W.mg_none_of X G z5, PySem.W.mg_none_of X G z6, PySem.W.mg_none_of X G z7, PySem.W.mg_none_of X G z8, PySem.W.mg_none_of X G z9, PySem.W.mg_none_of X G z10⟩).imp (law_sp hm)⟩
end Lc
open PySem PySem.W PyProof.Rows
set_option maxRecDepth 100000 in
set_option maxHeartbeats 0 in
theorem PySem.Challenge.cw_leapcart_k03_whole_the_common_middle_sta_holds : PySem.Challenge.rw_leapcart_k03_whole_the_common_middle_sta.Holds := by
  w_on; o_law; k_head; (case hw => w_witness2)
  k_fill
  refine L2.walk_of (l := PySem.Challenge.rw_leapcart_k03_whole_the_common_middle_sta) (n := 63) (k := 7) (x := "script") (CX := fun _ => L2.CX0) (sp := fun w => Lc.spLaw _) rfl (by decide) rfl ⟨rfl, by decide, by decide⟩ (fun w h Y => PySem.W.kIn_of Y) ?F (fun _ _ a ns hl _ hS => ⟨a, ns, rfl, hS, hl, fun _ => rfl⟩) (fun _ _ _ _ _ h => h)
  case F =>
    intro w mg fa h KX G hmg
    refine' Lc.all_mk KX G hmg Lc.law_math ?a0 ?l0 ?c0 ?k0 ?a1 ?l1 ?c1 ?k1 ?a2 ?l2 ?c2 ?k2 ?a3 ?l3 ?c3 ?k3 ?a4 ?l4 ?c4 ?k4 ?a5 ?l5 ?c5 ?k5 ?a6 ?l6 ?c6 ?k6 ?a7 ?l7 ?c7 ?k7 ?a8 ?l8 ?c8 ?k8 ?a9 ?l9 ?c9 ?k9 ?a10 ?l10 ?c10 ?k10 ?a11 ?l11 ?c11 ?k11 ?a12 ?l12 ?c12 ?k12 ?a13 ?l13 ?c13 ?k13 ?a14 ?l14 ?c14 ?k14 ?a15 ?l15 ?c15 ?k15 ?a16 ?l16 ?c16 ?k16 ?a17 ?l17 ?c17 ?k17 ?a18 ?l18 ?c18 ?k18 ?a19 ?l19 ?c19 ?k19 ?a20 ?l20 ?c20 ?k20 ?a21 ?l21 ?c21 ?k21 ?a22 ?l22 ?c22 ?k22 ?a23 ?l23 ?c23 ?k23 ?a24 ?l24 ?c24 ?k24 ?a25 ?l25 ?c25 ?k25 ?a26 ?l26 ?c26 ?k26 ?a27 ?l27 ?c27 ?k27 ?a28 ?l28 ?c28 ?k28 ?a29 ?l29 ?c29 ?k29 ?a30 ?l30 ?c30 ?k30 ?q0 ?r0 ?z0 ?z1 ?z2 ?z3 ?z4 ?z5 ?z6 ?z7 ?z8 ?z9 ?z10
    (case a0 => k_is)
    (case l0 => k_is)
    (case c0 => k_is)
    (case k0 => k_is)
    (case a1 => k_is)
    (case l1 => k_is)
    (case c1 => k_is)
    (case k1 => k_is)
    (case a2 => k_is)
    (case l2 => k_is)
    (case c2 => k_is)
    (case k2 => k_is)
    (case a3 => k_is)
    (case l3 => k_is)
    (case c3 => k_is)
    (case k3 => k_is)
    (case a4 => k_is)
    (case l4 => k_is)
    (case c4 => k_is)
    (case k4 => k_is)
    (case a5 => k_is)
    (case l5 => k_is)
    (case c5 => k_is)
    (case k5 => k_is)
    (case a6 => k_is)
    (case l6 => k_is)
    (case c6 => k_is)
    (case k6 => k_is)
    (case a7 => k_is)
    (case l7 => k_is)
    (case c7 => k_is)
    (case k7 => k_is)
    (case a8 => k_is)
    (case l8 => k_is)
    (case c8 => k_is)
    (case k8 => k_is)
    (case a9 => k_is)
    (case l9 => k_is)
    (case c9 => k_is)
    (case k9 => k_is)
    (case a10 => k_is)
    (case l10 => k_is)
    (case c10 => k_is)
    (case k10 => k_is)
    (case a11 => k_is)
    (case l11 => k_is)
    (case c11 => k_is)
    (case k11 => k_is)
    (case a12 => k_is)
    (case l12 => k_is)
    (case c12 => k_is)
    (case k12 => k_is)
    (case a13 => k_is)
    (case l13 => k_is)
    (case c13 => k_is)
    (case k13 => k_is)
    (case a14 => k_is)
    (case l14 => k_is)
    (case c14 => k_is)
    (case k14 => k_is)
    (case a15 => k_is)
    (case l15 => k_is)
    (case c15 => k_is)
    (case k15 => k_is)
    (case a16 => k_is)
    (case l16 => k_is)
    (case c16 => k_is)
    (case k16 => k_is)
    (case a17 => k_is)
    (case l17 => k_is)
    (case c17 => k_is)
    (case k17 => k_is)
    (case a18 => k_is)
    (case l18 => k_is)
    (case c18 => k_is)
    (case k18 => k_is)
    (case a19 => k_is)
    (case l19 => k_is)
    (case c19 => k_is)
    (case k19 => k_is)
    (case a20 => k_is)
    (case l20 => k_is)
    (case c20 => k_is)
    (case k20 => k_is)
    (case a21 => k_is)
    (case l21 => k_is)
    (case c21 => k_is)
    (case k21 => k_is)
    (case a22 => k_is)
    (case l22 => k_is)
    (case c22 => k_is)
    (case k22 => k_is)
    (case a23 => k_is)
    (case l23 => k_is)
    (case c23 => k_is)
    (case k23 => k_is)
    (case a24 => k_is)
    (case l24 => k_is)
    (case c24 => k_is)
    (case k24 => k_is)
    (case a25 => k_is)
    (case l25 => k_is)
    (case c25 => k_is)
    (case k25 => k_is)
    (case a26 => k_is)
    (case l26 => k_is)
    (case c26 => k_is)
    (case k26 => k_is)
    (case a27 => k_is)
    (case l27 => k_is)
    (case c27 => k_is)
    (case k27 => k_is)
    (case a28 => k_is)
    (case l28 => k_is)
    (case c28 => k_is)
    (case k28 => k_is)
    (case a29 => k_is)
    (case l29 => k_is)
    (case c29 => k_is)
    (case k29 => k_is)
    (case a30 => k_is)
    (case l30 => k_is)
    (case c30 => k_is)
    (case k30 => k_is)
    (case q0 => k_is)
    (case r0 => k_is)
    (case z0 => k_is)
    (case z1 => k_is)
    (case z2 => k_is)
    (case z3 => k_is)
    (case z4 => k_is)
    (case z5 => k_is)
    (case z6 => k_is)
    (case z7 => k_is)
    (case z8 => k_is)
    (case z9 => k_is)
    (case z10 => k_is)
