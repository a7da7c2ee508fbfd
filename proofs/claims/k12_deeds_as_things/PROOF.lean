import PyProof.Rows.All
import Wide.All
import OpenK.AllK
import Wide.FinOn
import HandS.ForMost
import HandS.IsInst
import HandS.Walk
import HandS.ForExc
import HandS.Small
import HandS.Dict
import KE.KDictPairs
import HandS.ExcInit
import HandS.ExcField
import HandS.Codes
import HandS.Iter
import HandS.Sort
import KE.SortData
import KE.SortKeyHeap
import HandS.Lambda
import HandS.SortKw
import HandS.Strs
import KE.GoesEnum
import HandS.OwnEq
import PyProof.InstNe
import HandS.List
import HandS.TupAny
import HandS.CallLocal
import HandS.ExcOwn
import HandS.Flow
import HandS.Style
import HandS.EndOwn
import PySem.Challenge.RW_namewalk_k12_deeds_as_things
set_option Elab.async false
set_option maxRecDepth 100000
set_option maxHeartbeats 4000000
/-! NG: general lemmas over the hand layer -/
namespace NG
open PySem L2
theorem Same.upd {H : Hp} {p : Addr} {o : HO} (h : H p = none) : Same H (upd H p o) := fun a u e => by rw [upd_ne (ne_of_none e h)]; exact e
theorem Same.sqT {K : PySem.W.Frag} {H H' : Hp} {a : Addr} {xs : List V} (e : Same H H') (h : SqT K H a xs) : SqT K H' a xs := by
  rcases h with (h | ⟨o, h⟩) | h
  · exact .inl (.inl (e _ _ h))
  · exact .inl (.inr ⟨o, e _ _ h⟩)
  · exact .inr h
/-- all but p as it was -/
def But (p : Addr) (H H' : Hp) : Prop := ∀ b o, H b = some o → b ≠ p → H' b = some o
theorem But.refl (p : Addr) (H : Hp) : But p H H := fun _ _ h _ => h
theorem But.trans {p : Addr} {H H1 H2 : Hp} (a : But p H H1) (b : But p H1 H2) : But p H H2 := fun c o h n => b c o (a c o h n) n
theorem But.same {p : Addr} {H H1 H2 : Hp} (a : But p H H1) (b : Same H1 H2) : But p H H2 := fun c o h n => b c o (a c o h n)
theorem But.ofSame {p : Addr} {H H1 : Hp} (a : Same H H1) : But p H H1 := fun c o h _ => a c o h
theorem But.upd {p : Addr} {H H1 : Hp} {o : HO} (a : But p H H1) : But p H (L2.upd H1 p o) := fun c u h n => by rw [upd_ne n]; exact a c u h n
theorem But.sqT {K : PySem.W.Frag} {p dx C : Addr} {fs : List (Str × V)} {H H' : Hp} {a : Addr} {xs : List V} (hp : H p = some (.ins C dx fs)) (e : But p H H') (h : SqT K H a xs) : SqT K H' a xs := by
  rcases h with (h | ⟨o, h⟩) | h
  · exact .inl (.inl (e _ _ h (ne_of h hp (by intro z; cases z))))
  · exact .inl (.inr ⟨o, e _ _ h (ne_of h hp (by intro z; cases z))⟩)
  · exact .inr h
theorem len_putF (f : Str) (v : V) : ∀ fs : List (Str × V), (putF f v fs).length ≤ fs.length + 1
  | [] => by unfold putF; simp
  | (g, w) :: r => by
    have := len_putF f v r
    unfold putF
    split
    · simp
    · simp only [List.length_cons]; omega
theorem take_succ {α : Type} {l : List α} {i : Nat} {x : α} (h : l[i]? = some x) : l.take (i + 1) = l.take i ++ [x] := by rw [List.take_add_one, h]; rfl
/-- a comprehension of one clause over what a walk gives: items f x for those of xs with p x; tests and items may lay new objects -/
theorem lc_gen {J : It} {xs : List V} {G : Hp → Prop} (w : Walk J xs.length G (YAt xs)) {tt : TT} {te : TE} {i : Nat} {σ : St} {H1 : Hp} {D : Addr} {Q : Hp → Prop} (p : V → Bool) (f : V → V) (hx : xs.length < sizeLine) (hD : H1 D = none) (hG : ∀ H, Same H1 H → G H)
    (ht : ∀ (k : Nat) (x : V) (H : Hp) (R : Bool → Hp → Prop), xs[k]? = some x → Same H1 H → (∀ H', Same H H' → R (p x) H') → tt ((wipe σ [i]).set i (some x)) H R)
    (he : ∀ (k : Nat) (x : V) (H : Hp) (R : V → Hp → Prop), xs[k]? = some x → p x = true → Same H1 H → (∀ H', Same H H' → R (f x) H') → te ((wipe σ [i]).set i (some x)) H R)
    (hd : ∀ H, Same H1 H → H D = some (.lst ((xs.filter p).map f)) → Q H) :
    ∃ W : Nat → Nat → Hp → Prop, (∃ m, W 0 m (L2.upd H1 D (.lst []))) ∧ ∀ k m H, W k m H →
      (J.stop k H ∧ Q H) ∨ (J.go k H ∧ ∃ Nx : Hp → Prop, (∀ H', Nx H' → ∃ m', m' < m ∧ W (k + 1) m' H') ∧ ∀ x H', J.yld k H x H' → gName i x (wipe σ [i]) H' fun σ2 H2 => wipe σ2 [i] = wipe σ [i] ∧ tt σ2 H2 fun b H3 =>
        if b = true then te σ2 H3 fun y H4 => ∃ acc, H4 D = some (.lst acc) ∧ acc.length < sizeLine ∧ Nx (L2.upd H4 D (.lst (acc ++ [y]))) else Nx H3) := by
  refine lc_it w (fun k H => Same H1 H ∧ H D = some (.lst (((xs.take k).filter p).map f))) ⟨Same.upd hD, by rw [upd_same]; simp⟩ (fun _ H _ h => hG H h.1) ?_ ?_
  · rintro k x H H' hk ⟨s1, eD⟩ ⟨rfl, hxk⟩
    refine ⟨?_, ?_⟩
    · show List.set (List.set (List.set σ i none) i _) i none = List.set σ i none
      rw [List.set_set, List.set_set]
    · have et := take_succ hxk
      have ll : (((xs.take k).filter p).map f).length < sizeLine := by
        rw [List.length_map]
        have := List.length_filter_le p (xs.take k)
        have := List.length_take_le k xs
        omega
      refine ht k x _ _ hxk s1 (fun H3 s3 => ?_)
      have eD3 := s3 _ _ eD
      have s13 := s1.trans s3
      refine ite2 (fun hp => ?_) (fun hp => ?_)
      · refine he k x _ _ hxk hp s13 (fun H4 s4 => ⟨_, s4 _ _ eD3, ll, ?_, ?_⟩)
        · intro b o e
          have hb : b ≠ D := ne_of_none e hD
          rw [upd_ne hb]
          exact s4 _ _ (s13 _ _ e)
        · rw [upd_same, et, List.filter_append, List.map_append]
          congr 2
          congr 1
          have : [x].filter p = [x] := by simp [hp]
          rw [this]
          rfl
      · refine ⟨s13, ?_⟩
        rw [et, List.filter_append, List.map_append]
        have : [x].filter p = [] := by simp [hp]
        rw [this]
        simpa using eD3
  · rintro H ⟨s1, eD⟩
    rw [List.take_length] at eD
    exact hd H s1 eD
/-- the same without a test -/
theorem lc_map {J : It} {xs : List V} {G : Hp → Prop} (w : Walk J xs.length G (YAt xs)) {te : TE} {i : Nat} {σ : St} {H1 : Hp} {D : Addr} {Q : Hp → Prop} (f : V → V) (hx : xs.length < sizeLine) (hD : H1 D = none) (hG : ∀ H, Same H1 H → G H)
    (he : ∀ (k : Nat) (x : V) (H : Hp) (R : V → Hp → Prop), xs[k]? = some x → Same H1 H → (∀ H', Same H H' → R (f x) H') → te ((wipe σ [i]).set i (some x)) H R)
    (hd : ∀ H, Same H1 H → H D = some (.lst (xs.map f)) → Q H) :
    ∃ W : Nat → Nat → Hp → Prop, (∃ m, W 0 m (L2.upd H1 D (.lst []))) ∧ ∀ k m H, W k m H →
      (J.stop k H ∧ Q H) ∨ (J.go k H ∧ ∃ Nx : Hp → Prop, (∀ H', Nx H' → ∃ m', m' < m ∧ W (k + 1) m' H') ∧ ∀ x H', J.yld k H x H' → gName i x (wipe σ [i]) H' fun σ2 H2 => wipe σ2 [i] = wipe σ [i] ∧ tYes σ2 H2 fun b H3 =>
        if b = true then te σ2 H3 fun y H4 => ∃ acc, H4 D = some (.lst acc) ∧ acc.length < sizeLine ∧ Nx (L2.upd H4 D (.lst (acc ++ [y]))) else Nx H3) :=
  lc_gen w (fun _ => true) f hx hD hG (fun _ _ H _ _ _ h => h H (L2.Same.refl H)) (fun k x H R h _ s r => he k x H R h s r) (fun H s e => hd H s (by rw [List.filter_eq_self.mpr (fun _ _ => rfl)] at e; exact e))
end NG

set_option maxRecDepth 100000
set_option maxHeartbeats 4000000
namespace NG
open PySem L2
section
variable {X : Cx}
theorem op_mulStr : OpR X (binaryOp .Mult) (fun x y H Q => ∃ (i : Str) (n : Int), x = .str i ∧ y = .int n ∧ MulOk i n ∧ Q (.str (Txt.mul i n)) H) := by
  intro pins s σ H x y v u Q I rx ry h
  obtain ⟨i, n, rfl, rfl, hm, q⟩ := h
  obtain ⟨t, rfl⟩ := rx
  obtain ⟨t', rfl⟩ := ry
  exact SB.mul hm fun t' k => ⟨.str (Txt.mul i n), H, I.tok _, ⟨_, rfl⟩, q⟩
end
theorem foldl_app (a : Array Nat) : ∀ (k : Nat) (b : Array Nat), ((List.replicate k a).foldl (· ++ ·) b).toList = b.toList ++ (List.replicate k a.toList).flatten
  | 0, b => by simp
  | k + 1, b => by
    rw [List.replicate_succ, List.foldl_cons, foldl_app a k, List.replicate_succ, List.flatten_cons]
    simp
theorem pick {α : Type} {xs : List α} {d : Int} (h0 : 0 ≤ d) (h1 : d < (xs.length : Nat)) : ∃ v, v ∈ xs ∧ atI xs d = some v := by
  obtain ⟨k, rfl⟩ : ∃ k : Nat, d = (k : Int) := ⟨d.toNat, by omega⟩
  have hk : k < xs.length := by omega
  exact ⟨xs[k], List.getElem_mem hk, atI_nat (List.getElem?_eq_getElem hk)⟩
/-- a text's signs, as texts -/
def sgs (z : Str) : List V := z.cps.toList.map fun c => .str ⟨#[c]⟩
theorem sgs_len (z : Str) : (sgs z).length = z.length := by unfold sgs; simp [Str.length]
theorem walk_sgs {z : Str} : Walk (Its z) (sgs z).length (fun _ => True) (YAt (sgs z)) := by
  rw [sgs_len]
  refine Walk.mono (walk_str (z := z)) (fun _ h => h) (fun i H x H' hi _ ⟨e, c, hc, hx⟩ => ⟨e, ?_⟩)
  unfold sgs
  rw [List.getElem?_map]
  have : z.cps.toList[i]? = some c := by simpa using hc
  rw [this, hx]
  rfl
theorem sgs_get {z : Str} {k : Nat} {x : V} (h : (sgs z)[k]? = some x) : ∃ c, x = .str ⟨#[c]⟩ ∧ c ∈ z.cps.toList := by
  unfold sgs at h
  rw [List.getElem?_map] at h
  cases e : z.cps.toList[k]? with
  | none => rw [e] at h; cases h
  | some c => rw [e] at h; exact ⟨c, (Option.some.inj h).symm, List.mem_of_getElem? e⟩
/-! ### draws in loops: p holds the numbers' state -/
def DSo (o : HO) : Prop := ∃ a m c : Int, o = .lst [.int a, .int m, .int c] ∧ 0 ≤ a ∧ 7 ≤ m ∧ m < 2147483636 ∧ 0 ≤ c ∧ c < 2147483587
structure Dr (p : Addr) (H H' : Hp) : Prop where
  but : But p H H'
  st : ∃ o, H' p = some o ∧ DSo o
theorem Dr.refl {p : Addr} {H : Hp} {o : HO} (h : H p = some o) (d : DSo o) : Dr p H H := ⟨But.refl _ _, o, h, d⟩
theorem Dr.trans {p : Addr} {H H1 H2 : Hp} (a : Dr p H H1) (b : Dr p H1 H2) : Dr p H H2 := ⟨a.but.trans b.but, b.st⟩
theorem Dr.same {p : Addr} {H H1 H2 : Hp} (a : Dr p H H1) (b : Same H1 H2) : Dr p H H2 := ⟨a.but.same b, let ⟨o, h, d⟩ := a.st; ⟨o, b _ _ h, d⟩⟩
theorem Dr.next {p : Addr} {H H1 : Hp} {o : HO} (a : Dr p H H1) (d : DSo o) : Dr p H (L2.upd H1 p o) := ⟨a.but.upd, o, upd_same, d⟩
/-- a comprehension over range(n) whose items are drawn -/
theorem lc_draw {lo : Int} {n : Nat} {te : TE} {i : Nat} {σ : St} {p : Addr} {H1 : Hp} {D : Addr} {Q : Hp → Prop} (Px : V → Hp → Prop) (hn : n < sizeLine) (hD : H1 D = none) (h0 : Dr p H1 H1) (hm : ∀ x H H', But D H H' → Px x H → Px x H') (hm2 : ∀ x H H', Dr p H H' → Px x H → Px x H')
    (he : ∀ (k : Nat) (H : Hp) (R : V → Hp → Prop), k < n → Dr p H1 H → (∀ x H', Px x H' → Dr p H H' → R x H') → te ((wipe σ [i]).set i (some (.int (lo + k)))) H R)
    (hd : ∀ H xs, Dr p H1 H → H D = some (.lst xs) → xs.length = n → (∀ x ∈ xs, Px x H) → Q H) :
    ∃ W : Nat → Nat → Hp → Prop, (∃ m, W 0 m (L2.upd H1 D (.lst []))) ∧ ∀ k m H, W k m H →
      ((Itr lo n).stop k H ∧ Q H) ∨ ((Itr lo n).go k H ∧ ∃ Nx : Hp → Prop, (∀ H', Nx H' → ∃ m', m' < m ∧ W (k + 1) m' H') ∧ ∀ x H', (Itr lo n).yld k H x H' → gName i x (wipe σ [i]) H' fun σ2 H2 => wipe σ2 [i] = wipe σ [i] ∧ tYes σ2 H2 fun b H3 =>
        if b = true then te σ2 H3 fun y H4 => ∃ acc, H4 D = some (.lst acc) ∧ acc.length < sizeLine ∧ Nx (L2.upd H4 D (.lst (acc ++ [y]))) else Nx H3) := by
  obtain ⟨o0, ep0, d0⟩ := h0.st
  have npD : p ≠ D := ne_of_none ep0 hD
  refine lc_range (fun k H => Dr p H1 H ∧ ∃ acc, H D = some (.lst acc) ∧ acc.length = k ∧ ∀ x ∈ acc, Px x H) ⟨⟨But.ofSame (Same.upd hD), o0, by rw [upd_ne npD]; exact ep0, d0⟩, [], upd_same, rfl, by simp⟩ ?_ ?_
  · rintro k H hk ⟨dr, acc, eD, el, hx⟩
    refine ⟨?_, ?_⟩
    · show List.set (List.set (List.set σ i none) i _) i none = List.set σ i none
      rw [List.set_set, List.set_set]
    · refine he k H _ hk dr (fun x H' hpx dr' => ?_)
      have eD' : H' D = some (.lst acc) := dr'.but _ _ eD npD.symm
      have bD : But D H' (L2.upd H' D (.lst (acc ++ [x]))) := (But.refl D H').upd
      refine ⟨acc, eD', by omega, ⟨fun b o e n => ?_, ?_⟩, acc ++ [x], upd_same, by simp [el], fun y hy => ?_⟩
      · have hb : b ≠ D := ne_of_none e hD
        rw [upd_ne hb]
        exact (dr.trans dr').but _ _ e n
      · obtain ⟨o, e, d⟩ := dr'.st
        exact ⟨o, by rw [upd_ne npD]; exact e, d⟩
      · refine hm y _ _ bD ?_
        rcases List.mem_append.mp hy with h | h
        · exact hm2 y _ _ dr' (hx y h)
        · rw [List.mem_singleton.mp h]; exact hpx
  · rintro H ⟨dr, acc, eD, el, hx⟩
    exact hd H acc dr eD el hx
end NG

set_option maxRecDepth 100000
set_option maxHeartbeats 4000000
/-! comprehensions over pairs -/
namespace NG
open PySem L2
theorem wipe2 {σ : St} {i j : Nat} (hij : i ≠ j) (a b : Option V) : wipe (((wipe σ [i, j]).set i a).set j b) [i, j] = wipe σ [i, j] := by
  show List.set (List.set (List.set (List.set (List.set (List.set σ j none) i none) i a) j b) j none) i none = List.set (List.set σ j none) i none
  rw [List.set_set, List.set_set, List.set_comm _ _ (Ne.symm hij), List.set_set, List.set_comm _ _ hij, List.set_set]
  all_goals first | rfl | (rw [List.set_comm _ _ hij]; rfl) | skip
theorem lc_pair {K : PySem.W.Frag} {J : It} {xs : List V} {G : Hp → Prop} (w : Walk J xs.length G (YAt xs)) {tt : TT} {te : TE} {i j : Nat} (hij : i ≠ j) {σ : St} {H1 : Hp} {D : Addr} {Q : Hp → Prop} (ps : List (V × V)) (hl : ps.length = xs.length) (p : V × V → Bool) (f : V × V → V)
    (hT : ∀ (k : Nat) (x : V) (q : V × V), xs[k]? = some x → ps[k]? = some q → ∃ t, x = V.ref t ∧ SqT K H1 t [q.1, q.2]) (hx : xs.length < sizeLine) (hD : H1 D = none) (hG : ∀ H, Same H1 H → G H)
    (ht : ∀ (k : Nat) (q : V × V) (H : Hp) (R : Bool → Hp → Prop), ps[k]? = some q → Same H1 H → (∀ H', Same H H' → R (p q) H') → tt (((wipe σ [i, j]).set i (some q.1)).set j (some q.2)) H R)
    (he : ∀ (k : Nat) (q : V × V) (H : Hp) (R : V → Hp → Prop), ps[k]? = some q → p q = true → Same H1 H → (∀ H', Same H H' → R (f q) H') → te (((wipe σ [i, j]).set i (some q.1)).set j (some q.2)) H R)
    (hd : ∀ H, Same H1 H → H D = some (.lst ((ps.filter p).map f)) → Q H) :
    ∃ W : Nat → Nat → Hp → Prop, (∃ m, W 0 m (L2.upd H1 D (.lst []))) ∧ ∀ k m H, W k m H →
      (J.stop k H ∧ Q H) ∨ (J.go k H ∧ ∃ Nx : Hp → Prop, (∀ H', Nx H' → ∃ m', m' < m ∧ W (k + 1) m' H') ∧ ∀ x H', J.yld k H x H' → gTup K 2 (gCons (gName i) (gCons (gName j) gNil)) x (wipe σ [i, j]) H' fun σ2 H2 => wipe σ2 [i, j] = wipe σ [i, j] ∧ tt σ2 H2 fun b H3 =>
        if b = true then te σ2 H3 fun y H4 => ∃ acc, H4 D = some (.lst acc) ∧ acc.length < sizeLine ∧ Nx (L2.upd H4 D (.lst (acc ++ [y]))) else Nx H3) := by
  refine lc_it w (fun k H => Same H1 H ∧ H D = some (.lst (((ps.take k).filter p).map f))) ⟨Same.upd hD, by rw [upd_same]; simp⟩ (fun _ H _ h => hG H h.1) ?_ ?_
  · rintro k x H H' hk ⟨s1, eD⟩ ⟨rfl, hxk⟩
    have hkp : k < ps.length := by omega
    have hq : ps[k]? = some ps[k] := List.getElem?_eq_getElem hkp
    obtain ⟨t, rfl, hT'⟩ := hT k x _ hxk hq
    refine ⟨t, [ps[k].1, ps[k].2], rfl, Same.sqT s1 hT', rfl, _, _, rfl, _, _, rfl, rfl, wipe2 hij _ _, ?_⟩
    have et := take_succ hq
    have ll : (((ps.take k).filter p).map f).length < sizeLine := by
      rw [List.length_map]
      have := List.length_filter_le p (ps.take k)
      have := List.length_take_le k ps
      omega
    refine ht k _ _ _ hq s1 (fun H3 s3 => ?_)
    have eD3 := s3 _ _ eD
    have s13 := s1.trans s3
    refine ite2 (fun hp => ?_) (fun hp => ?_)
    · refine he k _ _ _ hq hp s13 (fun H4 s4 => ⟨_, s4 _ _ eD3, ll, ?_, ?_⟩)
      · intro b o e
        have hb : b ≠ D := ne_of_none e hD
        rw [upd_ne hb]
        exact s4 _ _ (s13 _ _ e)
      · rw [upd_same, et, List.filter_append, List.map_append]
        congr 2
        congr 1
        have : [ps[k]].filter p = [ps[k]] := by simp [hp]
        rw [this]
        rfl
    · refine ⟨s13, ?_⟩
      rw [et, List.filter_append, List.map_append]
      have : [ps[k]].filter p = [] := by simp [hp]
      rw [this]
      simpa using eD3
  · rintro H ⟨s1, eD⟩
    rw [← hl, List.take_length] at eD
    exact hd H s1 eD
end NG

set_option maxRecDepth 100000
set_option maxHeartbeats 4000000
/-! tuples made by tuple(..) of which it is known that they have no dict of their own; dict(such a tuple of pairs) -/
namespace NG
open PySem PySem.Spec PyProof.Rows L2
/-- a tuple without a dict of its own -/
def PlT (H : Hp) (a : Addr) (xs : List V) : Prop := ∃ o : Obj, H a = some (.frz o (.tup xs)) ∧ o.dict = none ∧ o.cls = .type "tuple"
theorem PlT.sqT {K : PySem.W.Frag} {H : Hp} {a : Addr} {xs : List V} (h : PlT H a xs) : SqT K H a xs := let ⟨o, e, _⟩ := h; .inl (.inr ⟨o, e⟩)
theorem PlT.keep {H H' : Hp} {a : Addr} {xs : List V} (h : PlT H a xs) (k : ∀ o, H a = some (.frz o (.tup xs)) → H' a = some (.frz o (.tup xs))) : PlT H' a xs := let ⟨o, e, r⟩ := h; ⟨o, k o e, r⟩
theorem PlT.same {H H' : Hp} {a : Addr} {xs : List V} (h : PlT H a xs) (s : Same H H') : PlT H' a xs := h.keep fun _ e => s _ _ e
def rTupP (K : PySem.W.Frag) : List V → Hp → VK → Prop := fun vs H Q => ∃ (p : Addr) (ys : List V), vs = [.ref p] ∧ SqL K H p ys ∧ ∀ (l : Addr) (o : Obj), H l = none → o.dict = none → o.cls = .type "tuple" → Q (.ref l) (upd H l (.frz o (.tup ys)))
section
variable {X : Cx}
theorem call_tuple_ofP : CallR X (.type "tuple") (rTupP X.K) := by
  intro pins s σ H xs us Q I r h
  obtain ⟨p, ys, rfl, hq, q⟩ := h
  obtain ⟨u, rfl, rx⟩ := vals1 r
  cases rx
  obtain ⟨its, r', pl, hz⟩ := I.list hq
  have hlen := r'.length
  refine call_tuple_list pl.isList (fun h' kp => ?_) (by simp only [List.size_toArray]; omega)
  have I1 : Inv X pins σ H { s with heap := h' } := I.kept (t' := s.toks) kp
  have I2 := I1.laid (t' := s.toks) (a := h'.objs.size) (o := .frz { cls := .type "tuple", data := .seq its.toArray } (.tup ys)) (h' := h'.push { cls := .type "tuple", data := .seq its.toArray }) (fun b o e => Heap.get?_push_of_some _ e) (Nat.le_refl _) ⟨Heap.get?_push_size _ rfl, hz, its, r', IsTup.new _ _⟩
  exact ⟨.ref h'.objs.size, _, I2, rfl, q _ _ (I1.hok.fresh (Nat.le_refl _)) rfl rfl⟩
def rDictT (K : PySem.W.Frag) : List V → Hp → VK → Prop := fun vs H Q => ∃ (a : Addr) (ps : List Addr) (kvs : List (Key × V)), vs = [.ref a] ∧ PlT H a (ps.map V.ref) ∧ Paired (fun p kv => SqT K H p [kV kv.1, kv.2]) ps kvs ∧
  ∀ p, H p = none → Q (.ref p) (upd H p (.dK (mergeK [] kvs)))
/-- dict(xs), xs a tuple of pairs (key, value) -/
theorem call_dictT (hcalm : X.calm = true) : CallR X (.type "dict") (rDictT X.K) := by
  intro pins s σ H xs us Q I r h
  obtain ⟨a, ps, kvs, rfl, ⟨o, ea, hd, hc⟩, hp, q⟩ := h
  obtain ⟨u, rfl, rx⟩ := vals1 r
  cases rx
  obtain ⟨ho, hz, its, rv, oT, hoT, hcT, n, hdT⟩ := I.hok a _ ea
  rw [ho] at hoT
  cases hoT
  have ei := refs_at rv
  subst ei
  rw [List.length_map] at hz
  obtain ⟨prs, rel, hl, hpr⟩ := pairs_of I hp
  have ex : ∀ j : Nat, ∃ q : Value × Value, ∀ p, prs[j]? = some p → q.2 = p.2 ∧ ∃ b, ps[j]? = some b ∧ IsTup s.heap b #[q.1, q.2] ∧ keyIs p.1 q.1 = true := fun j => by
    cases e : prs[j]? with
    | none => exact ⟨(.none, .none), fun p z => by cases z⟩
    | some p =>
      obtain ⟨b, u, e1, e2, e3⟩ := hpr j p e
      exact ⟨(u, p.2), fun p' z => by cases Option.some.inj z; exact ⟨rfl, b, e1, e2, e3⟩⟩
  obtain ⟨f, hf⟩ := Classical.skolem.mp ex
  have lk : ∀ (j : Nat) (k v : Value), ((List.range prs.length).map f)[j]? = some (k, v) → j < prs.length ∧ f j = (k, v) := fun j k v e => by
    rw [List.getElem?_map] at e
    cases e2 : (List.range prs.length)[j]? with
    | none => rw [e2] at e; cases e
    | some i =>
      rw [e2] at e
      have e3 := List.getElem?_eq_some_iff.mp e2
      obtain ⟨h1, h2⟩ := e3
      rw [List.getElem_range] at h2
      subst h2
      rw [List.length_range] at h1
      exact ⟨h1, Option.some.inj e⟩
  have ll : ((List.range prs.length).map f).length = prs.length := by rw [List.length_map, List.length_range]
  refine PySem.call_dict_pairs (knd := mixKind X.prog X.w) (kvs := prs) (PySem.PairArg.tuple a ((ps.map Value.ref).toArray) (fun j => (ps[j]?).getD 0) ((List.range prs.length).map f)) (I.ok.hd hcalm) ⟨⟨_, n, ho, hc, hd, hdT⟩, ?_, fun j k v e => ?_⟩ ⟨ll.symm, fun i key v e => ?_⟩ (by rw [ll, hl]; exact hz) fun h' tk hd' k => ?_
  · rw [ll, hl, List.size_toArray, List.length_map]
  · obtain ⟨h1, h2⟩ := lk j k v e
    obtain ⟨h3, b, h4, h5, _⟩ := hf j _ (List.getElem?_eq_getElem h1)
    rw [h2] at h5
    refine ⟨?_, .inl ?_⟩
    · show _ = some (Value.ref ((ps[j]?).getD 0))
      rw [List.getElem?_toArray, List.getElem?_map, h4]; rfl
    · show IsTup s.heap ((ps[j]?).getD 0) _
      rw [h4]; exact h5
  · obtain ⟨h1, h2⟩ := lk i key v e
    obtain ⟨h3, b, h4, h5, h6⟩ := hf i _ (List.getElem?_eq_getElem h1)
    rw [h2] at h3 h6
    exact ⟨prs[i].1, by rw [List.getElem?_eq_getElem h1]; exact congrArg some (Prod.ext rfl h3.symm), h6⟩
  · have hm : (s.heap.objs.size == sysModules) = false := beq_eq_false_iff_ne.mpr (Nat.ne_of_gt I.big)
    have hlen : (mergeK [] kvs).length ≤ sizeLine := by
      refine Nat.le_trans (length_mergeK kvs []) ?_
      rw [List.length_nil, Nat.zero_add, rel.length, hl]
      exact hz
    exact ⟨.ref s.heap.objs.size, _, I.laid (t' := tk) (o := .dK (mergeK [] kvs)) (fun b o e => k b o (fun h => nomatch h) e) (Nat.le_refl _) ⟨hlen, hm, merged [] prs, KV.merge rel .nil, hd'⟩, rfl, q _ (I.hok.fresh (Nat.le_refl _))⟩
end
end NG

set_option maxRecDepth 100000
set_option maxHeartbeats 4000000
namespace NW
open PySem L2 NG
def top (i : Nat) : Stmt := PySem.Challenge.pw_namewalk_k12_deeds_as_things.main.body.getD i (.Pass ⟨0, 0, 0, 0⟩)
abbrev sState : Stmt := top 64
abbrev sDigit : Stmt := top 65
/-! ### draws -/
def spState : Sp := fun vs H Q _ => ∃ n : Int, vs = [.int n] ∧ ∀ p o, H p = none → DSo o → Q (.ref p) (upd H p o)
def spDigit : Sp := fun vs H Q _ => ∃ (p : Addr) (b : Int) (o : HO), vs = [.ref p, .int b] ∧ 0 < b ∧ b < 1073741824 ∧ H p = some o ∧ DSo o ∧
  ∀ (d : Int) (o' : HO), 0 ≤ d → d < b → DSo o' → Q (.int d) (upd H p o')
structure TxtA (mg : Str → Option Value) : Prop where
  m_int : mg "int" = none
  m_abs : mg "abs" = none
section
variable {P : Program} {w : World} {K : PySem.W.Frag} {mg : Str → Option Value} {base : Heap}
theorem scState : FnScope ["_law_source"] ["_law_source"] (defScope sState) := ⟨rfl, rfl, rfl, by decide +kernel, rfl, by decide +kernel, by decide +kernel⟩
theorem ok_state {f : Addr} {fd : FuncData} (F : Fun K "_law_state" "_law_state" sState f fd) (T : TxtA mg) : FnOk P w K mg base CX0 1 f fd ["_law_source"] spState := by
  have nd := scState.nd
  refine F.ok scState (fun vs H Q E h => ?_) (fun cdv A outer s H vs Q E hr h => ?_)
  · obtain ⟨n, rfl, _⟩ := h
    rfl
  · obtain ⟨n, rfl, k⟩ := h
    refine ⟨_, (pss_cons (ps_set (i := 0) nd rfl (Or.inl rfl) (pe_callB call_abs (by rfl) T.m_abs (by decide +kernel) (pa_cons (pv 0) pa_nil)))
  (pss_one (ps_ret (pe_lst (pa_cons (pe_op op_mul (pv 0) (pe_callTy call_int1 (by rfl) T.m_int (by decide +kernel) (pa_cons (pe_cmpR op_ge (pv 0) (pe_op op_pow pe_int pe_int) (nomark _)) pa_nil))) (pa_cons (pe_op op_add (pe_op op_mod (pe_callTy call_int1 (by rfl) T.m_int (by decide +kernel) (pa_cons (pv 0) pa_nil)) pe_int) pe_int) (pa_cons (pe_op op_mod (pe_callTy call_int1 (by rfl) T.m_int (by decide +kernel) (pa_cons (pv 0) pa_nil)) pe_int) pa_nil))))))), ?_⟩
    refine ⟨_, rfl, _, rfl, ?_⟩
    generalize hz : (if n < 0 then -n else n) = z
    have hz0 : 0 ≤ z := by rw [← hz]; split <;> omega
    refine ⟨_, rfl, _, rfl, _, _, rfl, rfl, ⟨by decide, by decide, by decide⟩, _, _, rfl, rfl, .inr ⟨_, rfl, ?_⟩⟩
    refine ⟨_, _, rfl, rfl, .inr ⟨by split <;> decide, by split <;> decide⟩, ?_⟩
    refine ⟨_, rfl, .inl ⟨_, rfl, _, _, rfl, rfl, (by show (0 : Int) < 2147483629; decide), _, _, rfl, rfl, ?_⟩⟩
    refine ⟨_, rfl, .inl ⟨_, rfl, _, _, rfl, rfl, (by show (0 : Int) < 2147483587; decide), ?_⟩⟩
    refine ⟨(by show 3 ≤ sizeLine; decide), fun p hp => k p _ hp ⟨_, _, _, rfl, ?_, ?_, ?_, ?_, ?_⟩⟩
    · split
      · omega
      · omega
    · have := Int.emod_nonneg z (by decide : (2147483629 : Int) ≠ 0); omega
    · have := Int.emod_lt_of_pos z (by decide : (0 : Int) < 2147483629); omega
    · exact Int.emod_nonneg z (by decide)
    · exact Int.emod_lt_of_pos z (by decide)
theorem scDigit : FnScope ["_law_state_here", "_law_base", "_law_found", "_law_mixed"] ["_law_state_here", "_law_base"] (defScope sDigit) := ⟨rfl, rfl, rfl, by decide +kernel, rfl, by decide +kernel, by decide +kernel⟩
theorem ok_digit {f : Addr} {fd : FuncData} (F : Fun K "_law_digit" "_law_digit" sDigit f fd) (T : TxtA mg) : FnOk P w K mg base CX0 1 f fd ["_law_state_here", "_law_base"] spDigit := by
  have nd := scDigit.nd
  refine F.ok scDigit (fun vs H Q E h => ?_) (fun cdv A outer s H vs Q E hr h => ?_)
  · obtain ⟨p, b, o, rfl, _⟩ := h
    rfl
  · obtain ⟨p, b, o, rfl, b0, b1, hp, ⟨a, m, c, rfl, ha, hm0, hm1, hc0, hc1⟩, k⟩ := h
    refine ⟨_, (pss_cons (ps_if (pt_cmpR op_gt (pe_ix ix_list (pv 0) pe_int (fun _ _ => rfl)) pe_int (nomark _)) (pss_cons (ps_set (i := 2) nd rfl (Or.inl rfl) (pe_op op_mod (pe_callTy call_int1 (by rfl) T.m_int (by decide +kernel) (pa_cons (pe_ix ix_list (pv 0) pe_int (fun _ _ => rfl)) pa_nil)) (pv 1)))
  (pss_cons (ps_asg (pe_op op_fdiv (pe_ix ix_list (pv 0) pe_int (fun _ _ => rfl)) (pv 1)) (pg_sub (pv 0) pe_int set_list))
  (pss_one (ps_ret (pv 2))))) pss_nil)
  (pss_cons (ps_set (i := 3) nd rfl (Or.inl rfl) (pe_op op_mul (pe_ix ix_list (pv 0) pe_int (fun _ _ => rfl)) (pe_op op_add (pe_op op_fdiv (pe_ix ix_list (pv 0) pe_int (fun _ _ => rfl)) pe_int) pe_int)))
  (pss_cons (ps_asg (pe_op op_add (pe_op op_mod (pe_callTy call_int1 (by rfl) T.m_int (by decide +kernel) (pa_cons (pe_op op_add (pv 3) (pe_ix ix_list (pv 0) pe_int (fun _ _ => rfl))) pa_nil)) pe_int) pe_int) (pg_sub (pv 0) pe_int set_list))
  (pss_one (ps_ret (pe_op op_mod (pe_callTy call_int1 (by rfl) T.m_int (by decide +kernel) (pa_cons (pe_op op_fdiv (pe_ix ix_list (pv 0) pe_int (fun _ _ => rfl)) pe_int) pa_nil)) (pv 1))))))), ?_⟩
    have sq : ∀ i : Int, SqL K H p [.int a, .int m, .int c] := fun _ => SqL.of hp
    refine ⟨_, rfl, p, _, _, _, rfl, rfl, SqL.of hp, rfl, _, _, rfl, rfl, _, rfl, ?_⟩
    refine ite2 (fun h => ?_) (fun h => ?_)
    · refine ⟨_, rfl, p, _, _, _, rfl, rfl, SqL.of hp, rfl, .inl ⟨_, rfl, _, rfl, _, _, rfl, rfl, b0, ?_⟩⟩
      refine ⟨_, rfl, p, _, _, _, rfl, rfl, SqL.of hp, rfl, _, rfl, _, _, rfl, rfl, ⟨b0, b1⟩, ?_⟩
      refine ⟨_, rfl, p, _, _, _, rfl, rfl, hp, rfl, _, rfl, ?_⟩
      exact k _ _ (Int.emod_nonneg _ (by omega)) (Int.emod_lt_of_pos _ b0) ⟨_, _, _, rfl, Int.ediv_nonneg ha (by omega), hm0, hm1, hc0, hc1⟩
    · refine ⟨_, rfl, p, _, _, _, rfl, rfl, SqL.of hp, rfl, _, rfl, p, _, _, _, rfl, rfl, SqL.of hp, rfl, _, _, rfl, rfl, ⟨by decide, by decide⟩, _, _, rfl, rfl, _, _, rfl, rfl, .inl ⟨by omega, by omega⟩, ?_⟩
      refine ⟨_, rfl, _, rfl, p, _, _, _, rfl, rfl, SqL.of hp, rfl, _, _, rfl, rfl, .inl ⟨_, rfl, _, _, rfl, rfl, (by show (0 : Int) < 2147483629; decide), _, _, rfl, rfl, ?_⟩⟩
      refine ⟨_, rfl, p, _, _, _, rfl, rfl, hp, rfl, ?_⟩
      refine ⟨_, rfl, p, _, _, _, rfl, rfl, SqL.of upd_same, rfl, _, _, rfl, rfl, ⟨by decide, by decide⟩, .inl ⟨_, rfl, _, rfl, _, _, rfl, rfl, b0, ?_⟩⟩
      have e0 := Int.emod_nonneg (m * (m / 1009 + 69621) + c) (by decide : (2147483629 : Int) ≠ 0)
      have e1 := Int.emod_lt_of_pos (m * (m / 1009 + 69621) + c) (by decide : (0 : Int) < 2147483629)
      exact k _ _ (Int.emod_nonneg _ (by omega)) (Int.emod_lt_of_pos _ b0) ⟨_, _, _, rfl, ha, by omega, by omega, hc0, hc1⟩
end
end NW

set_option maxRecDepth 100000
set_option maxHeartbeats 4000000
namespace NW
open PySem L2 NG
abbrev sName : Stmt := top 12
abbrev sStep : Stmt := top 14
/-! ### names -/
def letters : Str := "abcdefghijklmnopqrstuvwxyz0123456789_-."
def nameZ (z : Str) : Bool := decide (1 ≤ z.length) && decide (z.length ≤ 12) && (!(z == ("." : Str)) && !(z == (".." : Str))) && z.cps.toList.all (fun c => decide (c ∈ letters.cps.toList))
def stepZ (z : Str) : Bool := nameZ z || decide (z = ("..":Str))
structure TxtN (K : PySem.W.Frag) (mg : Str → Option Value) (fName fStep : Addr) : Prop where
  m_isinstance : mg "isinstance" = none
  m_str : mg "str" = none
  m_len : mg "len" = none
  m_all : mg "all" = none
  g_LONGEST_NAME : ∃ t, mg "LONGEST_NAME" = some (.int 12 t)
  g_NAME_LETTERS : ∃ t, mg "NAME_LETTERS" = some (.str letters t)
  g_is_name : mg "is_name" = some (.ref fName)
  kp_is_name : PySem.W.keepIn K (.ref fName) = true
  g_is_step : mg "is_step" = some (.ref fStep)
  kp_is_step : PySem.W.keepIn K (.ref fStep) = true
def spName : Sp := fun vs H Q _ => ∃ z : Str, vs = [.str z] ∧ z.length ≤ sizeLine ∧ ∀ H', Same H H' → Q (.bl (nameZ z)) H'
/-- a comprehension over a text's signs, its element pure -/
theorem lc_signs {z : Str} {te : TE} {i : Nat} {σ : St} {H1 : Hp} {D : Addr} {Q : Hp → Prop} (f : Nat → V) (hz : z.length ≤ sizeLine) (hD : H1 D = none)
    (he : ∀ (c : Nat) (H : Hp) (R : V → Hp → Prop), R (f c) H → te ((wipe σ [i]).set i (some (.str ⟨#[c]⟩))) H R)
    (hd : Q (upd H1 D (.lst (z.cps.toList.map f)))) :
    ∃ W : Nat → Nat → Hp → Prop, (∃ m, W 0 m (upd H1 D (.lst []))) ∧ ∀ k m H, W k m H →
      ((Its z).stop k H ∧ Q H) ∨ ((Its z).go k H ∧ ∃ Nx : Hp → Prop, (∀ H', Nx H' → ∃ m', m' < m ∧ W (k + 1) m' H') ∧ ∀ x H', (Its z).yld k H x H' → gName i x (wipe σ [i]) H' fun σ2 H2 => wipe σ2 [i] = wipe σ [i] ∧ tYes σ2 H2 fun b H3 =>
        if b = true then te σ2 H3 fun y H4 => ∃ acc, H4 D = some (.lst acc) ∧ acc.length < sizeLine ∧ Nx (upd H4 D (.lst (acc ++ [y]))) else Nx H3) := by
  refine lc_it walk_str (fun k H => H = upd H1 D (.lst ((z.cps.toList.take k).map f))) (by simp) (fun _ _ _ _ => True.intro) ?_ ?_
  · rintro k x H H' hk rfl ⟨rfl, c, hc, rfl⟩
    refine ⟨?_, ?_⟩
    · show List.set (List.set (List.set σ i none) i _) i none = List.set σ i none
      rw [List.set_set, List.set_set]
    · refine he c _ _ ?_
      refine ⟨_, upd_same, ?_, ?_⟩
      · rw [List.length_map, List.length_take]
        have : z.cps.toList.length = z.length := by simp [Str.length]
        have hk' : k < z.length := hk
        omega
      · rw [upd_upd]
        congr 2
        have hc' : z.cps.toList[k]? = some c := by simpa using hc
        rw [List.take_add_one, hc', List.map_append]
        rfl
  · rintro H rfl
    have : z.cps.toList.take z.cps.size = z.cps.toList := List.take_of_length_le (by simp)
    rw [this]
    exact hd
section
variable {P : Program} {w : World} {K : PySem.W.Frag} {mg : Str → Option Value} {base : Heap} {fName fStep : Addr}
theorem scName : FnScope ["value", "letter"] ["value"] (defScope sName) := ⟨rfl, rfl, rfl, by decide +kernel, rfl, by decide +kernel, by decide +kernel⟩
theorem ok_name {fd : FuncData} (F : Fun K "is_name" "is_name" sName fName fd) (T : TxtN K mg fName fStep) : FnOk P w K mg base CX0 1 fName fd ["value"] spName := by
  have nd := scName.nd
  obtain ⟨t1, g1⟩ := T.g_LONGEST_NAME
  obtain ⟨t2, g2⟩ := T.g_NAME_LETTERS
  refine F.ok scName (fun vs H Q E h => ?_) (fun cdv A outer s H vs Q E hr h => ?_)
  · obtain ⟨z, rfl, _⟩ := h
    rfl
  · obtain ⟨z, rfl, hz, k⟩ := h
    refine ⟨_, (pss_cons (ps_if (PW.pt (pw_or (pt_not (pt_val (pe_callB call_isi (by rfl) T.m_isinstance (by decide +kernel) (pa_cons (pv 0) (pa_cons (pe_bltn (v := .ty "str") (by rfl) T.m_str (by decide +kernel) rfl) pa_nil))))) (pw_or1 (pt_not (pt_chain op_le op_le pe_int (pe_callB call_len_str (by rfl) T.m_len (by decide +kernel) (pa_cons (pv 0) pa_nil)) (pe_glob (v := .int 12) (by rfl) g1 ⟨_, rfl⟩)))))) (pss_one (ps_ret pe_bl)) pss_nil)
  (pss_cons (ps_if (pt_cmpR op_in_seq (pv 0) (pe_tup (pa_cons pe_str (pa_cons pe_str pa_nil))) (by rfl)) (pss_one (ps_ret pe_bl)) pss_nil)
  (pss_one (ps_ret (pe_callB (cr_all rfl) (by rfl) T.m_all (by decide +kernel) (pa_cons (pe_lc (own := [("letter", 1)]) rfl nd (pi_str (pv 0)) (blkOk_by (N := ["value", "letter"]) (sc := defScope sName) (by decide +kernel)) (fun _ _ _ _ _ => (pg_name (i := 1) nd rfl (Or.inl rfl))) (fun _ _ _ _ _ => pts_nil) (fun _ _ _ _ _ => (pe_cmpR op_in_sign (pv 1) (pe_glob (v := .str letters) (by rfl) g2 ⟨_, rfl⟩) (by rfl)))) pa_nil)))))), ?_⟩
    refine ⟨_, rfl, _, _, _, _, true, rfl, .ty _, .base (.str z), rfl, _, rfl, ?_⟩
    refine iteF ?_
    refine ⟨_, rfl, _, rfl, hz, _, _, rfl, rfl, _, rfl, ?_⟩
    have cut : ∀ (c : Bool), (c = true → 1 ≤ z.length ∧ z.length ≤ 12) → (c = false → ¬ (1 ≤ z.length ∧ z.length ≤ 12)) → ∀ {A B : Prop}, ((nameZ z = false) → A) → ((1 ≤ z.length ∧ z.length ≤ 12) → B) → if (!c) = true then A else B := fun c h1 h2 A B ha hb => by
      cases c with
      | true => exact iteF (hb (h1 rfl))
      | false =>
        refine iteT (ha ?_)
        have q := h2 rfl
        unfold nameZ
        by_cases a1 : 1 ≤ z.length
        · have a2 : ¬ z.length ≤ 12 := fun a2 => q ⟨a1, a2⟩
          simp [a2]
        · simp [a1]
    have rest : (1 ≤ z.length ∧ z.length ≤ 12) → (tSeq (tIfS (tTest (tOp (rIn K false) (tVar 0) (tTup (tCons (tC (V.str ".")) (tCons (tC (V.str "..")) tNil))))) (tRet (tC (V.bl false))) tNext)
        (tRet (tCB (rAll K) (tCons (tLc (iStr (tVar 0)) (gName 1) tYes (tOp (fun x y H Q => ∃ c z, x = V.str { cps := #[c] } ∧ y = V.str z ∧ Q (V.bl (decide (c ∈ z.cps.toList))) H) (tVar 1) (tC (V.str letters))) [1]) tNil))) { nx := fun _ H' => Q V.non H', rt := Q }) (start ["value", "letter"] [V.str z]) H := fun ⟨l1, l2⟩ => by
      refine ⟨_, rfl, (by show 2 ≤ sizeLine; decide), fun p hp => ⟨p, _, rfl, .inr (SqT.of upd_same), rfl, rfl, _, rfl, ?_⟩⟩
      have s1 : Same H (upd H p (.tup [.str ".", .str ".."])) := NG.Same.upd hp
      have eI : (if false = true then !inV (V.str z) [V.str ".", V.str ".."] else inV (V.str z) [V.str ".", V.str ".."]) = (z == ("." : Str) || z == (".." : Str)) := by
        show (((("." : Str) == z) || (((".." : Str) == z) || false))) = _
        rw [Bool.or_false]
        congr 1
        · exact Bool.beq_comm
        · exact Bool.beq_comm
      rw [eI]
      refine ite2 (fun h => ?_) (fun h => ?_)
      · have e : nameZ z = false := by
          unfold nameZ
          have : (!(z == ("." : Str)) && !(z == (".." : Str))) = false := by
            rw [← Bool.not_or, h]; rfl
          rw [this]; simp
        have := k _ s1
        rw [e] at this
        exact this
      · refine ⟨_, rfl, z, rfl, fun D hD => lc_signs (fun c => .bl (decide (c ∈ letters.cps.toList))) hz hD (fun c H R hR => ⟨_, rfl, c, letters, rfl, rfl, hR⟩) ?_⟩
        refine ⟨D, z.cps.toList.map (fun c => decide (c ∈ letters.cps.toList)), rfl, SqL.of ?_, ?_⟩
        · rw [upd_same, List.map_map]
          rfl
        · have e : nameZ z = (z.cps.toList.map (fun c => decide (c ∈ letters.cps.toList))).all id := by
            unfold nameZ
            have : (!(z == ("." : Str)) && !(z == (".." : Str))) = true := by
              rw [← Bool.not_or]
              simpa using h
            rw [this, List.all_map]
            simp [l1, l2]
          rw [← e]
          exact k _ (s1.trans (NG.Same.upd hD))
    refine ite2 (fun c1 => ?_) (fun c1 => ?_)
    · refine ⟨_, _, rfl, rfl, _, rfl, ?_⟩
      have c1' : (1 : Int) ≤ (z.length : Int) := of_decide_eq_true c1
      refine cut _ (fun h => ⟨by omega, by have := of_decide_eq_true h; omega⟩) (fun h q => by have := of_decide_eq_false h; omega) (fun e => ?_) rest
      have := k _ (Same.refl H)
      rw [e] at this
      exact this
    · refine ⟨_, rfl, ?_⟩
      refine cut _ (fun h => by cases h) (fun _ q => c1 (decide_eq_true (by omega))) (fun e => ?_) rest
      have := k _ (Same.refl H)
      rw [e] at this
      exact this
end
end NW

set_option maxRecDepth 100000
set_option maxHeartbeats 4000000
namespace NW
open PySem L2 NG
def spStep : Sp := fun vs H Q _ => ∃ z : Str, vs = [.str z] ∧ z.length ≤ sizeLine ∧ ∀ H', Same H H' → Q (.bl (stepZ z)) H'
section
variable {P : Program} {w : World} {K : PySem.W.Frag} {mg : Str → Option Value} {base : Heap} {fName fStep : Addr}
theorem scStep : FnScope ["value"] ["value"] (defScope sStep) := ⟨rfl, rfl, rfl, by decide +kernel, rfl, by decide +kernel, by decide +kernel⟩
theorem ok_step {fd fdN : FuncData} (F : Fun K "is_step" "is_step" sStep fStep fd) (T : TxtN K mg fName fStep) (G_is_name : FnOk P w K mg base CX0 1 fName fdN ["value"] spName) (b_is_name : Binds K fdN ["value"] []) :
    FnOk P w K mg base CX0 2 fStep fd ["value"] spStep := by
  have nd := scStep.nd
  refine F.ok scStep (fun vs H Q E h => ?_) (fun cdv A outer s H vs Q E hr h => ?_)
  · obtain ⟨z, rfl, _⟩ := h
    rfl
  · obtain ⟨z, rfl, hz, k⟩ := h
    have hr_is_name : Room 1 _ := hr
    refine ⟨_, (pss_one (ps_ret (pe_or (pe_call G_is_name hr_is_name (by rfl) T.g_is_name T.kp_is_name b_is_name .nil pass0 (pa_cons (pv 0) pa_nil)) (pe_one (pe_cmpR op_eq (pv 0) pe_str (nomark _)))))), ?_⟩
    refine ⟨_, rfl, z, rfl, hz, fun H' s1 => ⟨_, rfl, ?_⟩⟩
    have k' := k _ s1
    unfold stepZ at k'
    refine ite2 (fun c => ?_) (fun c => ?_)
    · rw [c] at k'
      exact k'
    · have c' : nameZ z = false := by simpa using c
      rw [c'] at k'
      refine ⟨_, rfl, rfl, ?_⟩
      rw [Bool.false_or] at k'
      have e : decide (V.str z = V.str "..") = decide (z = (".." : Str)) := by
        by_cases h : z = ".."
        · simp [h]
        · rw [decide_eq_false h, decide_eq_false (fun q => h (V.str.inj q))]
      show Q (V.bl (decide (V.str z = V.str ".."))) H'
      rw [e]
      exact k'
end
end NW

set_option maxRecDepth 100000
set_option maxHeartbeats 4000000
namespace NW
open PySem L2 NG
abbrev sBad : Stmt := top 15
/-! ### texts -/
def plain (p : Str) : Bool := (p == ("" : Str)) || (p == ("." : Str))
def badPart (p : Str) : Bool := !plain p && !stepZ p
def goBad : Nat → List Str → Option Nat
  | _, [] => none
  | k, p :: r => if badPart p then some k else goBad (k + p.length + 1) r
def partsOf (z : Str) : List Str := Txt.split z "/"
def badP (z : Str) : Option Nat := if z = ("" : Str) then some 0 else goBad 0 (partsOf z)
def spBad (K : PySem.W.Frag) : Sp := fun vs H Q _ => (∃ (x : V) (t : Value), vs = [x] ∧ TyX K H x t ∧ PySem.W.kitOne K t (.type "str") = some false ∧ Q (.int 0) H) ∨
  (∃ z : Str, vs = [.str z] ∧ z.length + 2 ≤ sizeLine ∧ (∀ p ∈ partsOf z, p.length ≤ sizeLine) ∧ (∀ n, badP z = some n → ∀ H', Same H H' → Q (.int (n : Nat)) H') ∧ (badP z = none → ∀ H', Same H H' → Q .non H'))
theorem inV2 (x a b : Str) : (if true = true then !inV (V.str x) [V.str a, V.str b] else inV (V.str x) [V.str a, V.str b]) = !(x == a || x == b) := by
  show (!((a == x) || ((b == x) || false))) = _
  rw [Bool.or_false, Bool.beq_comm (a := a), Bool.beq_comm (a := b)]
section
variable {P : Program} {w : World} {K : PySem.W.Frag} {mg : Str → Option Value} {base : Heap} {fName fStep fBad : Addr}
theorem scBad : FnScope ["text", "place", "part"] ["text"] (defScope sBad) := ⟨rfl, rfl, rfl, by decide +kernel, rfl, by decide +kernel, by decide +kernel⟩
theorem ok_bad {fd fdS : FuncData} (F : Fun K "bad_place" "bad_place" sBad fBad fd) (T : TxtN K mg fName fStep) (G_is_step : FnOk P w K mg base CX0 2 fStep fdS ["value"] spStep) (b_is_step : Binds K fdS ["value"] []) :
    FnOk P w K mg base CX0 3 fBad fd ["text"] (spBad K) := by
  have nd := scBad.nd
  refine F.ok scBad (fun vs H Q E h => ?_) (fun cdv A outer s H vs Q E hr h => ?_)
  · rcases h with ⟨x, t, rfl, _⟩ | ⟨z, rfl, _⟩
    · rfl
    · rfl
  · have hr_is_step : Room 2 _ := hr
    refine ⟨_, (pss_cons (ps_if (PW.pt (pw_or (pt_not (pt_val (pe_callB call_isi (by rfl) T.m_isinstance (by decide +kernel) (pa_cons (pv 0) (pa_cons (pe_bltn (v := .ty "str") (by rfl) T.m_str (by decide +kernel) rfl) pa_nil))))) (pw_or1 (pt_cmpR op_eq (pv 0) pe_str (nomark _))))) (pss_one (ps_ret pe_int)) pss_nil)
  (pss_cons (ps_set (i := 1) nd rfl (Or.inl rfl) pe_int)
  (pss_cons (ps_for PassesOwn.never rfl (pi_list (pe_split (pv 0) pe_str)) (pg_name (i := 2) nd rfl (Or.inl rfl))
  (pss_cons (ps_if (PW.pt (pw_and (pt_cmpR op_notIn_seq (pv 2) (pe_tup (pa_cons pe_str (pa_cons pe_str pa_nil))) (by rfl)) (pw_and1 (pt_not (pt_val (pe_call G_is_step hr_is_step (by rfl) T.g_is_step T.kp_is_step b_is_step .nil pass0 (pa_cons (pv 2) pa_nil))))))) (pss_one (ps_ret (pv 1))) pss_nil)
  (pss_one (ps_aug (i := 1) nd rfl (Or.inl rfl) (pe_op op_add (pe_callB call_len_str (by rfl) T.m_len (by decide +kernel) (pa_cons (pv 2) pa_nil)) pe_int) ip_add))))
  (pss_one (ps_ret pe_non))))), ?_⟩
    rcases h with ⟨x, t, rfl, ty, kt, k⟩ | ⟨z, rfl, hz, hps, kS, kN⟩
    · exact ⟨_, rfl, _, _, _, _, false, rfl, .ty _, ty, kt, _, rfl, iteT k⟩
    · refine ⟨_, rfl, _, _, _, _, true, rfl, .ty _, .base (.str z), rfl, _, rfl, ?_⟩
      refine iteF ?_
      refine ⟨_, rfl, rfl, _, rfl, ?_⟩
      by_cases h0 : z = ("" : Str)
      · rw [decide_eq_true (by rw [h0])]
        refine iteT ?_
        exact kS 0 (by unfold badP; rw [if_pos h0]) H (Same.refl H)
      · rw [decide_eq_false (fun q => h0 (V.str.inj q))]
        refine iteF ?_
        have eb : badP z = goBad 0 (partsOf z) := by unfold badP; rw [if_neg h0]
        refine ⟨_, rfl, ⟨z, rfl⟩, z, "/", rfl, rfl, by decide +kernel, hz, fun p hp => ⟨p, rfl, ⟨_, SqL.of upd_same⟩, ?_⟩⟩
        have s1 : Same H (upd H p (.lst ((partsOf z).map V.str))) := NG.Same.upd hp
        refine for_list (K := K) (a := p) (xs := (partsOf z).map V.str) (fun i σ H' => ∃ (n : Nat) (v : Option V), σ = [some (.str z), some (.int (n : Nat)), v] ∧ Same (upd H p (.lst ((partsOf z).map V.str))) H' ∧ badP z = goBad n ((partsOf z).drop i))
          ⟨0, none, rfl, Same.refl _, eb⟩ (fun i σ H' _ ⟨_, _, _, s2, _⟩ => SqL.of (s2 _ _ upd_same)) ?_ ?_
        · rintro i y σ H' hi ⟨n, v, rfl, s2, eg⟩
          obtain ⟨q, hq, rfl⟩ : ∃ q, (partsOf z)[i]? = some q ∧ y = V.str q := by
            rw [List.getElem?_map] at hi
            cases e : (partsOf z)[i]? with
            | none => rw [e] at hi; cases hi
            | some q => rw [e] at hi; exact ⟨q, rfl, (Option.some.inj hi).symm⟩
          have hdrop : (partsOf z).drop i = q :: (partsOf z).drop (i + 1) := by
            have hlt := (List.getElem?_eq_some_iff.mp hq).1
            rw [List.drop_eq_getElem_cons hlt, (List.getElem?_eq_some_iff.mp hq).2]
          have ql := hps q (List.mem_of_getElem? hq)
          rw [hdrop] at eg
          unfold goBad at eg
          have go : ∀ H2, Same H' H2 → badPart q = false → (tAug 1 (tOp (rI0 fun i j => V.int (i + j)) (tCB (fun xs H Q => ∃ z, xs = [V.str z] ∧ z.length ≤ sizeLine ∧ Q (V.int z.length) H) (tCons (tVar 2) tNil)) (tC (V.int 1))) (ipI fun i j => i + j)
              { nx := fun σ H' => ∃ (n : Nat) (v : Option V), σ = [some (.str z), some (.int (n : Nat)), v] ∧ Same (upd H p (.lst ((partsOf z).map V.str))) H' ∧ badP z = goBad n ((partsOf z).drop (i + 1)), rt := Q }
              [some (.str z), some (.int (n : Nat)), some (.str q)] H2) := fun H2 s3 hb => by
            refine ⟨_, rfl, _, rfl, _, rfl, ql, _, _, rfl, rfl, _, _, rfl, rfl, ?_⟩
            refine ⟨n + q.length + 1, some (.str q), ?_, s2.trans s3, ?_⟩
            · show [some (V.str z), some (V.int ((n : Int) + ((q.length : Int) + 1))), some (V.str q)] = _
              have : (n : Int) + ((q.length : Int) + 1) = ((n + q.length + 1 : Nat) : Int) := by omega
              rw [this]
            · rw [eg, hb]
              rfl
          refine ⟨_, rfl, (by show 2 ≤ sizeLine; decide), fun t ht => ⟨t, _, rfl, .inr (SqT.of upd_same), rfl, rfl, _, rfl, ?_⟩⟩
          have s3 : Same H' (upd H' t (.tup [.str "", .str "."])) := NG.Same.upd ht
          rw [inV2]
          cases hpl : plain q with
          | true =>
            have e1 : ((q == ("" : Str)) || (q == ("." : Str))) = true := hpl
            rw [e1]
            refine iteF ?_
            refine iteF ?_
            exact go _ s3 (by unfold badPart; rw [hpl]; rfl)
          | false =>
            have e1 : ((q == ("" : Str)) || (q == ("." : Str))) = false := hpl
            rw [e1]
            refine iteT ?_
            refine ⟨_, rfl, q, rfl, ql, fun H2 s4 => ⟨_, rfl, ?_⟩⟩
            cases hst : stepZ q with
            | true =>
              refine iteF ?_
              exact go _ (s3.trans s4) (by unfold badPart; rw [hst]; simp)
            | false =>
              refine iteT ?_
              refine ⟨_, rfl, ?_⟩
              have hb : badPart q = true := by unfold badPart; rw [hst, hpl]; rfl
              rw [hb, if_pos rfl] at eg
              exact kS n eg _ (s1.trans (s2.trans (s3.trans s4)))
        · rintro σ H' ⟨n, v, rfl, s2, eg⟩
          rw [List.length_map, List.drop_length] at eg
          exact kN eg _ (s1.trans s2)
end
end NW

set_option maxRecDepth 100000
set_option maxHeartbeats 4000000
namespace NW
open PySem L2 NG
def okS (z : Str) : Prop := z.length ≤ sizeLine ∧ z.cps.all (· < 0x110000) = true
def stepsOf (ps : List Str) : List Str := ps.filter fun p => !plain p
def absOf (ps : List Str) : Bool := match ps.head? with
  | none => false
  | some q => decide (q = ("" : Str))
def fol3 (q : Str) : Bool := q == ("" : Str) || (q == ("." : Str) || q == (".." : Str))
def folOf (ps : List Str) : Bool := match ps.getLast? with
  | none => false
  | some q => fol3 q
/-- z is read as the components ps -/
structure PartsAre (z : Str) (ps : List Str) : Prop where
  sp : partsOf z = ps
  ne : ps ≠ []
  ok : ∀ p ∈ ps, okS p
  zl : z.length + 2 ≤ sizeLine
  pl : ps.length < sizeLine
theorem goBad_none : ∀ {ps : List Str} {k : Nat}, goBad k ps = none → ∀ p ∈ ps, badPart p = false
  | [], _, _, p, hp => by cases hp
  | q :: r, k, h, p, hp => by
    unfold goBad at h
    cases hb : badPart q with
    | true => rw [hb, if_pos rfl] at h; cases h
    | false =>
      rw [hb, if_neg Bool.false_ne_true] at h
      rcases List.mem_cons.mp hp with rfl | hp
      · exact hb
      · exact goBad_none h p hp
theorem len_app (x y : Str) : (x ++ y).length = x.length + y.length := by
  rw [TL.len_tl, TL.len_tl x, TL.len_tl y, TL.tl_append, List.length_append]
theorem len_join_le (xs : List Str) : (Txt.join "/" xs).length ≤ (xs.map (·.length)).sum + xs.length := by
  have h : ("/" : Str).length = 1 := by decide +kernel
  rw [TL.join_eq]
  induction xs with
  | nil => show (Str.join "/" []).length ≤ 0; exact Nat.le_refl 0
  | cons x r ih =>
    cases r with
    | nil => show x.length ≤ _; simp
    | cons y q =>
      show (x ++ ("/" : Str) ++ Str.join "/" (y :: q)).length ≤ _
      rw [len_app, len_app, h]
      simp only [List.map_cons, List.sum_cons, List.length_cons] at ih ⊢
      omega
end NW

set_option maxRecDepth 100000
set_option maxHeartbeats 4000000
namespace NG
open PySem L2
theorem strs_of {R : Str → Prop} : ∀ {xs : List V}, (∀ x ∈ xs, ∃ z, x = V.str z ∧ R z) → ∃ ys : List Str, xs = ys.map V.str ∧ ∀ z ∈ ys, R z
  | [], _ => ⟨[], rfl, by simp⟩
  | x :: r, h => by
    obtain ⟨z, rfl, hz⟩ := h x List.mem_cons_self
    obtain ⟨ys, rfl, hy⟩ := strs_of (xs := r) fun y hy => h y (List.mem_cons_of_mem _ hy)
    refine ⟨z :: ys, rfl, fun q hq => ?_⟩
    rcases List.mem_cons.mp hq with rfl | hq
    · exact hz
    · exact hy q hq
theorem mem_joinL {c : Nat} {S : List Nat} : ∀ {ps : List (List Nat)}, c ∈ TL.joinL S ps → c ∈ S ∨ ∃ p ∈ ps, c ∈ p
  | [], h => by cases h
  | [p], h => .inr ⟨p, List.mem_cons_self, h⟩
  | p :: q :: r, h => by
    rcases List.mem_append.mp (show c ∈ p ++ (S ++ TL.joinL S (q :: r)) from h) with h | h
    · exact .inr ⟨p, List.mem_cons_self, h⟩
    · rcases List.mem_append.mp h with h | h
      · exact .inl h
      · rcases mem_joinL h with h | ⟨x, hx, h⟩
        · exact .inl h
        · exact .inr ⟨x, List.mem_cons_of_mem _ hx, h⟩
theorem mem_join {c : Nat} {y : Str} {ps : List Str} (h : c ∈ (Txt.join y ps).cps.toList) : c ∈ y.cps.toList ∨ ∃ p ∈ ps, c ∈ p.cps.toList := by
  rw [TL.join_eq] at h
  have h' : c ∈ TL.tl (Str.join y ps) := h
  rw [TL.tl_join] at h'
  rcases mem_joinL h' with h | ⟨x, hx, h⟩
  · exact .inl h
  · obtain ⟨p, hp, rfl⟩ := List.mem_map.mp hx
    exact .inr ⟨p, hp, h⟩
end NG
namespace NW
open PySem L2 NG
theorem len_join_gen (y : Str) (xs : List Str) : (Txt.join y xs).length ≤ (xs.map (·.length)).sum + xs.length * y.length := by
  rw [TL.join_eq]
  induction xs with
  | nil => show (Str.join y []).length ≤ _; exact Nat.zero_le _
  | cons x r ih =>
    cases r with
    | nil => show x.length ≤ _; simp only [List.map_cons, List.sum_cons]; omega
    | cons z q =>
      show (x ++ y ++ Str.join y (z :: q)).length ≤ _
      rw [len_app, len_app]
      simp only [List.map_cons, List.sum_cons, List.length_cons] at ih ⊢
      rw [Nat.add_mul (q.length + 1) 1, Nat.one_mul]
      omega
/-- a component that may be drawn -/
def compB (z : Str) : Bool := decide (z.length ≤ 5000) && z.cps.toList.all (fun c => decide (c < 128) && decide (c ≠ 47))
theorem compB_ok {z : Str} (h : compB z = true) : okS z := by
  unfold compB at h
  rw [Bool.and_eq_true] at h
  refine ⟨Nat.le_trans (of_decide_eq_true h.1) (by decide), ?_⟩
  rw [← Array.all_toList, List.all_eq_true]
  intro c hc
  have := List.all_eq_true.mp h.2 c hc
  simp only [Bool.and_eq_true, decide_eq_true_eq] at this
  simp only [decide_eq_true_eq]
  omega
theorem compB_sl {z : Str} (h : compB z = true) : 47 ∉ z.cps.toList := by
  unfold compB at h
  rw [Bool.and_eq_true] at h
  intro hc
  have := List.all_eq_true.mp h.2 47 hc
  simp at this
theorem compB_len {z : Str} (h : compB z = true) : z.length ≤ 5000 := by
  unfold compB at h
  rw [Bool.and_eq_true] at h
  exact of_decide_eq_true h.1
theorem long_a : compB (Txt.mul "a" 5000) = true := by
  have e : (Txt.mul "a" 5000).cps.toList = List.replicate 5000 97 := by
    have h1 : ("a" : Str).cps = #[97] := by decide +kernel
    have h2 : Txt.mul "a" 5000 = ⟨(List.replicate 5000 ("a" : Str).cps).foldl (· ++ ·) #[]⟩ := by
      unfold Txt.mul
      rw [if_neg (by decide), if_neg (by decide +kernel)]
      rfl
    rw [h2, foldl_app, h1]
    show [] ++ (List.replicate 5000 [97]).flatten = _
    rw [List.nil_append]
    have : ∀ k : Nat, (List.replicate k [97]).flatten = List.replicate k 97 := fun k => by
      induction k with
      | zero => rfl
      | succ k ih => rw [List.replicate_succ, List.flatten_cons, ih, List.replicate_succ]; rfl
    exact this 5000
  unfold compB
  rw [e, Bool.and_eq_true]
  refine ⟨decide_eq_true ?_, ?_⟩
  · rw [TL.len_tl]
    show (Txt.mul "a" 5000).cps.toList.length ≤ 5000
    rw [e, List.length_replicate]
    exact Nat.le_refl _
  · rw [List.all_eq_true]
    intro c hc
    rw [(List.mem_replicate.mp hc).2]
    decide
theorem len_zero {p : Str} (h : p.length = 0) : p = ("" : Str) := by
  apply TL.ext_tl
  have : (TL.tl p).length = 0 := by rw [← TL.len_tl]; exact h
  rw [List.eq_nil_of_length_eq_zero this]
  decide +kernel
theorem goBad_cons (n : Nat) (q : Str) (r : List Str) : goBad n (q :: r) = if badPart q then some n else goBad (n + q.length + 1) r := rfl
end NW

set_option maxRecDepth 100000
set_option maxHeartbeats 4000000
namespace NW
open PySem L2 NG
theorem tl_slash : TL.tl ("/" : Str) = [47] := by decide +kernel
theorem tl_empty : TL.tl ("" : Str) = [] := by decide +kernel
theorem parts_join {ps : List Str} (hne : ps ≠ []) (hp : ∀ p ∈ ps, compB p = true) : partsOf (Txt.join "/" ps) = ps :=
  TL.split_join (s := 47) (S := []) tl_slash (by decide +kernel) hne fun p h => compB_sl (hp p h)
theorem sum_len {ps : List Str} (hp : ∀ p ∈ ps, compB p = true) : (ps.map (·.length)).sum ≤ ps.length * 5000 := by
  induction ps with
  | nil => simp
  | cons x r ih =>
    have h1 := compB_len (hp x List.mem_cons_self)
    have h2 := ih fun p h => hp p (List.mem_cons_of_mem _ h)
    simp only [List.map_cons, List.sum_cons, List.length_cons]
    omega
theorem parts_are {ps : List Str} (hne : ps ≠ []) (hp : ∀ p ∈ ps, compB p = true) (hl : ps.length ≤ 20) : PartsAre (Txt.join "/" ps) ps := by
  have h1 := len_join_le ps
  have h2 := sum_len hp
  have hs : sizeLine = 16777216 := sizeLine_eq
  exact ⟨parts_join hne hp, hne, fun p h => compB_ok (hp p h), by omega, by omega⟩
theorem goBad_of : ∀ {ps : List Str} {k : Nat}, (∀ p ∈ ps, badPart p = false) → goBad k ps = none
  | [], _, _ => rfl
  | q :: r, k, h => by
    rw [goBad_cons, h q List.mem_cons_self, if_neg (by decide)]
    exact goBad_of fun p hp => h p (List.mem_cons_of_mem _ hp)
/-- joined lists -/
theorem jl_cons (S p : List Nat) (r : List (List Nat)) (h : r ≠ []) : TL.joinL S (p :: r) = p ++ (S ++ TL.joinL S r) := by
  cases r with
  | nil => exact absurd rfl h
  | cons q r => rfl
theorem jl_snoc (S q : List Nat) : ∀ (ps : List (List Nat)), ps ≠ [] → TL.joinL S (ps ++ [q]) = TL.joinL S ps ++ (S ++ q)
  | [], h => absurd rfl h
  | [p], _ => rfl
  | p :: z :: r, _ => by
    have ih := jl_snoc S q (z :: r) (by simp)
    rw [List.cons_append, jl_cons _ _ _ (by simp), ih, jl_cons _ _ (z :: r) (by simp)]
    simp only [List.append_assoc]
theorem tl_joinT (ps : List Str) : TL.tl (Txt.join "/" ps) = TL.joinL [47] (ps.map TL.tl) := by rw [TL.join_eq, TL.tl_join, tl_slash]

end NW

set_option maxRecDepth 100000
set_option maxHeartbeats 4000000
/-! xs + ys of lists that are to be read, locked ones too -/
namespace NG
open PySem L2 PyProof.Rows
def rCatS (K : PySem.W.Frag) : R2 := fun x y H Q => ∃ (l b : Addr) (xs zs : List V), x = .ref l ∧ y = .ref b ∧ SqL K H l xs ∧ SqL K H b zs ∧ xs.length + zs.length ≤ sizeLine ∧ ∀ p, H p = none → Q (.ref p) (L2.upd H p (.lst (xs ++ zs)))
theorem op_catS {X : Cx} : OpR X (binaryOp .Add) (rCatS X.K) := by
  intro pins s σ H x y v u Q I rx ry h
  obtain ⟨l, b, xs, zs, rfl, rfl, h1, h2, hz, q⟩ := h
  cases rx
  cases ry
  obtain ⟨its, r, ⟨⟨c1, d1, t1, s1⟩, n, e, ec, ed, et⟩, _⟩ := I.list h1
  obtain ⟨its2, r2, ⟨⟨c2, d2, t2, s2⟩, n2, e2, ec2, ed2, et2⟩, _⟩ := I.list h2
  simp only at ec ed et ec2 ed2 et2
  subst ec ed et ec2 ed2 et2
  have hl : its.toArray.size + its2.toArray.size ≤ sizeLine := by rw [List.size_toArray, List.size_toArray, ← r.length, ← r2.length]; exact hz
  have ea : its.toArray ++ its2.toArray = (its ++ its2).toArray := by simp
  refine concat_meets ⟨_, e, rfl⟩ ⟨_, e2, rfl⟩ noFill_list_add seq_list_add PySem.F.slot_list_add PySem.F.entry_list_add (PySem.F.args_list_add_2 _ _) (list_addW l b its.toArray its2.toArray n n2 none none s1 s2 hl) ⟨e, e2, ?_⟩
  rw [ea]
  exact ⟨.ref _, _, I.lnew (t' := s.toks) (r.append r2) (by rw [List.length_append]; omega), rfl, q _ I.fresh⟩
end NG

set_option maxRecDepth 100000
set_option maxHeartbeats 8000000
namespace NW
open PySem L2 NG
abbrev sNum : Stmt := top 10
abbrev sOwner : Stmt := top 11
abbrev sAt : Stmt := top 29
structure TxtK (K : PySem.W.Frag) (mg : Str → Option Value) (fNum fAt fDigit fPool : Addr) : Prop where
  m_isinstance : mg "isinstance" = none
  m_int : mg "int" = none
  m_bool : mg "bool" = none
  m_len : mg "len" = none
  m_range : mg "range" = none
  m_min : mg "min" = none
  g_is_number : mg "is_number" = some (.ref fNum)
  kp_is_number : PySem.W.keepIn K (.ref fNum) = true
  g_is_at : mg "is_at" = some (.ref fAt)
  kp_is_at : PySem.W.keepIn K (.ref fAt) = true
  g_digit : mg "_law_digit" = some (.ref fDigit)
  kp_digit : PySem.W.keepIn K (.ref fDigit) = true
/-! ### numbers -/
def spNum (K : PySem.W.Frag) : Sp := fun vs H Q _ => ∃ (v : V) (t : Value) (bi bb : Bool), vs = [v] ∧ TyX K H v t ∧ PySem.W.kitOne K t (.type "int") = some bi ∧ PySem.W.kitOne K t (.type "bool") = some bb ∧ Q (.bl (bi && !bb)) H
def spOwner : Sp := fun vs H Q _ => ∃ n : Int, vs = [.int n] ∧ Q (.bl (decide (0 ≤ n))) H
/-- whether a value is the number of one of so many nodes -/
def spAt (K : PySem.W.Frag) : Sp := fun vs H Q _ => ∃ (a : Addr) (xs : List V) (v : V), vs = [.ref a, v] ∧ SqT K H a xs ∧
  ((∃ n : Int, v = .int n ∧ Q (.bl (decide (0 ≤ n) && decide (n < (xs.length : Nat)))) H) ∨ ∃ (t : Value) (bi bb : Bool), TyX K H v t ∧ PySem.W.kitOne K t (.type "int") = some bi ∧ PySem.W.kitOne K t (.type "bool") = some bb ∧ (bi && !bb) = false ∧ Q (.bl false) H)
section
variable {P : Program} {w : World} {K : PySem.W.Frag} {mg : Str → Option Value} {base : Heap} {fNum fOwner fAt fDigit fPool fFree fTxt : Addr}
theorem scNum : FnScope ["value"] ["value"] (defScope sNum) := ⟨rfl, rfl, rfl, by decide +kernel, rfl, by decide +kernel, by decide +kernel⟩
theorem ok_num {fd : FuncData} (F : Fun K "is_number" "is_number" sNum fNum fd) (T : TxtK K mg fNum fAt fDigit fPool) : FnOk P w K mg base CX0 1 fNum fd ["value"] (spNum K) := by
  refine F.ok scNum (fun vs H Q E h => ?_) (fun cdv A outer s H vs Q E hr h => ?_)
  · obtain ⟨v, t, bi, bb, rfl, _⟩ := h
    rfl
  · obtain ⟨v, t, bi, bb, rfl, ty, ki, kb, k⟩ := h
    refine ⟨_, (pss_one (ps_ret (pe_and (pe_callB call_isi (by rfl) T.m_isinstance (by decide +kernel) (pa_cons (pv 0) (pa_cons (pe_bltn (v := .ty "int") (by rfl) T.m_int (by decide +kernel) rfl) pa_nil))) (pe_one (pe_not (pe_callB call_isi (by rfl) T.m_isinstance (by decide +kernel) (pa_cons (pv 0) (pa_cons (pe_bltn (v := .ty "bool") (by rfl) T.m_bool (by decide +kernel) rfl) pa_nil)))))))), ?_⟩
    refine ⟨_, rfl, _, _, _, _, bi, rfl, .ty _, ty, ki, _, rfl, ?_⟩
    cases bi with
    | false => exact iteF k
    | true => exact iteT ⟨_, rfl, _, _, _, _, bb, rfl, .ty _, ty, kb, _, rfl, k⟩
theorem scOwner : FnScope ["value"] ["value"] (defScope sOwner) := ⟨rfl, rfl, rfl, by decide +kernel, rfl, by decide +kernel, by decide +kernel⟩
theorem ok_owner {fd fdN : FuncData} (F : Fun K "is_owner" "is_owner" sOwner fOwner fd) (T : TxtK K mg fNum fAt fDigit fPool) (G : FnOk P w K mg base CX0 1 fNum fdN ["value"] (spNum K)) (b : Binds K fdN ["value"] []) : FnOk P w K mg base CX0 2 fOwner fd ["value"] spOwner := by
  refine F.ok scOwner (fun vs H Q E h => ?_) (fun cdv A outer s H vs Q E hr h => ?_)
  · obtain ⟨n, rfl, _⟩ := h
    rfl
  · obtain ⟨n, rfl, k⟩ := h
    have hr1 : Room 1 _ := hr
    refine ⟨_, (pss_one (ps_ret (pe_and (pe_call G hr1 (by rfl) T.g_is_number T.kp_is_number b .nil pass0 (pa_cons (pv 0) pa_nil)) (pe_one (pe_cmpR op_ge (pv 0) pe_int (nomark _)))))), ?_⟩
    exact ⟨_, rfl, .int n, _, true, false, rfl, .base (.int n), rfl, rfl, _, rfl, iteT ⟨_, rfl, _, _, rfl, rfl, k⟩⟩
theorem scAt : FnScope ["nodes", "number"] ["nodes", "number"] (defScope sAt) := ⟨rfl, rfl, rfl, by decide +kernel, rfl, by decide +kernel, by decide +kernel⟩
theorem ok_at {fd fdN : FuncData} (F : Fun K "is_at" "is_at" sAt fAt fd) (T : TxtK K mg fNum fAt fDigit fPool) (G : FnOk P w K mg base CX0 1 fNum fdN ["value"] (spNum K)) (b : Binds K fdN ["value"] []) : FnOk P w K mg base CX0 2 fAt fd ["nodes", "number"] (spAt K) := by
  refine F.ok scAt (fun vs H Q E h => ?_) (fun cdv A outer s H vs Q E hr h => ?_)
  · obtain ⟨a, xs, v, rfl, _⟩ := h
    rfl
  · obtain ⟨a, xs, v, rfl, hS, k⟩ := h
    have hr1 : Room 1 _ := hr
    refine ⟨_, (pss_one (ps_ret (pe_and (pe_call G hr1 (by rfl) T.g_is_number T.kp_is_number b .nil pass0 (pa_cons (pv 1) pa_nil)) (pe_one (pe_chain op_le op_lt pe_int (pv 1) (pe_callB call_len_seq (by rfl) T.m_len (by decide +kernel) (pa_cons (pv 0) pa_nil))))))), ?_⟩
    rcases k with ⟨n, rfl, k⟩ | ⟨t, bi, bb, ty, ki, kb, e, k⟩
    · refine ⟨_, rfl, .int n, _, true, false, rfl, .base (.int n), rfl, rfl, _, rfl, iteT ?_⟩
      refine ⟨_, rfl, _, _, rfl, rfl, _, rfl, ?_⟩
      refine ite2 (fun h => ?_) (fun h => ?_)
      · rw [h, Bool.true_and] at k
        exact ⟨_, rfl, a, xs, rfl, .inr hS, _, _, rfl, rfl, k⟩
      · have h' : decide (0 ≤ n) = false := by simpa using h
        rw [h', Bool.false_and] at k
        exact k
    · refine ⟨_, rfl, v, t, bi, bb, rfl, ty, ki, kb, _, rfl, ?_⟩
      rw [e]
      exact iteF k
end
/-- a text that is a path's -/
def LinkText (z : Str) : Prop := z.length + 2 ≤ sizeLine ∧ (∀ p ∈ partsOf z, p.length ≤ sizeLine) ∧ badP z = none
/-- a name -/
def PL (z : Str) : Prop := nameZ z = true ∧ z.length ≤ 12
end NW


set_option maxRecDepth 100000
set_option maxHeartbeats 4000000
/-! trees as lists of nodes: no heap, no program (LT: what a link's text must be, PL: what a name must be) -/
namespace TR
open PySem
inductive Nd where
  | fol (o : Int) (es : List (Str × Nat))
  | fil (o : Int)
  | lnk (o : Int) (t : Str)
  | gon (o : Int) (ab : Nat)
def Nd.owner : Nd → Int
  | .fol o _ => o
  | .fil o => o
  | .lnk o _ => o
  | .gon o _ => o
def Nd.ents : Nd → List (Str × Nat)
  | .fol _ es => es
  | _ => []
def Nd.isGone : Nd → Bool
  | .gon _ _ => true
  | _ => false
def Nd.isFol : Nd → Bool
  | .fol _ _ => true
  | _ => false
/-- how many entries lead to k -/
def cntE (es : List (Str × Nat)) (k : Nat) : Nat := es.countP fun e => e.2 == k
def cnt (nds : List Nd) (k : Nat) : Nat := (nds.map fun nd => cntE nd.ents k).sum
theorem cnt_nil (k : Nat) : cnt [] k = 0 := rfl
theorem cnt_cons (nd : Nd) (r : List Nd) (k : Nat) : cnt (nd :: r) k = cntE nd.ents k + cnt r k := by unfold cnt; simp
theorem cnt_app (a b : List Nd) (k : Nat) : cnt (a ++ b) k = cnt a k + cnt b k := by unfold cnt; simp
theorem cntE_app (a b : List (Str × Nat)) (k : Nat) : cntE (a ++ b) k = cntE a k + cntE b k := by unfold cntE; rw [List.countP_append]
theorem cntE_one (n : Str) (j k : Nat) : cntE [(n, j)] k = if j = k then 1 else 0 := by
  unfold cntE
  by_cases h : j = k
  · simp [h]
  · simp [h]
theorem cnt_set {nds : List Nd} {i : Nat} {nd nd' : Nd} (h : nds[i]? = some nd) (k : Nat) : cnt (nds.set i nd') k + cntE nd.ents k = cnt nds k + cntE nd'.ents k := by
  induction nds generalizing i with
  | nil => cases h
  | cons x r ih =>
    cases i with
    | zero =>
      have e : x = nd := Option.some.inj h
      subst e
      rw [List.set_cons_zero, cnt_cons, cnt_cons]
      omega
    | succ i =>
      have := ih (i := i) h
      rw [List.set_cons_succ, cnt_cons, cnt_cons]
      omega
theorem cnt_pos {nds : List Nd} {k : Nat} (h : 0 < cnt nds k) : ∃ (i : Nat) (nd : Nd) (e : Str × Nat), nds[i]? = some nd ∧ e ∈ nd.ents ∧ e.2 = k := by
  induction nds with
  | nil => cases h
  | cons x r ih =>
    rw [cnt_cons] at h
    by_cases h0 : 0 < cntE x.ents k
    · obtain ⟨e, he, hk⟩ := List.countP_pos_iff.mp h0
      exact ⟨0, x, e, rfl, he, by simpa using hk⟩
    · obtain ⟨i, nd, e, h1, h2, h3⟩ := ih (by omega)
      exact ⟨i + 1, nd, e, h1, h2, h3⟩
theorem cnt_ge {nds : List Nd} {k i : Nat} {nd : Nd} (h : nds[i]? = some nd) : cntE nd.ents k ≤ cnt nds k := by
  induction nds generalizing i with
  | nil => cases h
  | cons x r ih =>
    rw [cnt_cons]
    cases i with
    | zero => rw [Option.some.inj h]; omega
    | succ i => have := ih (i := i) h; omega
theorem cnt_two {nds : List Nd} {k i j : Nat} {a b : Nd} (hi : nds[i]? = some a) (hj : nds[j]? = some b) (hij : i ≠ j) : cntE a.ents k + cntE b.ents k ≤ cnt nds k := by
  induction nds generalizing i j with
  | nil => cases hi
  | cons x r ih =>
    rw [cnt_cons]
    cases i with
    | zero =>
      cases j with
      | zero => exact absurd rfl hij
      | succ j =>
        rw [Option.some.inj hi]
        have := cnt_ge (k := k) (show r[j]? = some b from hj)
        omega
    | succ i =>
      cases j with
      | zero =>
        rw [Option.some.inj hj]
        have := cnt_ge (k := k) (show r[i]? = some a from hi)
        omega
      | succ j =>
        have := ih (i := i) (j := j) hi hj (by omega)
        omega
/-- what every drawn tree keeps; once: whether the folder k must stand in just one entry -/
structure Base (LT PL : Str → Prop) (nds : List Nd) : Prop where
  root : ∃ o es, nds[0]? = some (.fol o es)
  own : ∀ (i : Nat) (nd : Nd), nds[i]? = some nd → 0 ≤ nd.owner
  ent : ∀ (i : Nat) (nd : Nd), nds[i]? = some nd → ∀ e ∈ nd.ents, PL e.1 ∧ i < e.2 ∧ ∃ nd', nds[e.2]? = some nd' ∧ nd'.isGone = false
  uniq : ∀ (i : Nat) (nd : Nd), nds[i]? = some nd → (nd.ents.map (·.1)).Nodup ∧ nd.ents.length ≤ 12
  lnk : ∀ (i : Nat) (o : Int) (t : Str), nds[i]? = some (.lnk o t) → LT t
  gon : ∀ (i : Nat) (o : Int) (ab : Nat), nds[i]? = some (.gon o ab) → ab < i ∧ ∃ o' es, nds[ab]? = some (.fol o' es)
structure WF (LT PL : Str → Prop) (nds : List Nd) : Prop where
  base : Base LT PL nds
  once : ∀ (k : Nat) (nd : Nd), 0 < k → nds[k]? = some nd → nd.isFol = true → cnt nds k = 1
/-- the last node is a folder that no entry leads to as yet -/
structure Pend (LT PL : Str → Prop) (nds : List Nd) (n : Nat) : Prop where
  base : Base LT PL nds
  len : nds.length = n + 1
  pos : 0 < n
  last : ∃ o, nds[n]? = some (.fol o [])
  none : cnt nds n = 0
  gone : ∀ (i : Nat) (o : Int), nds[i]? ≠ some (.gon o n)
  once : ∀ (k : Nat) (nd : Nd), 0 < k → k < n → nds[k]? = some nd → nd.isFol = true → cnt nds k = 1
section
variable {LT PL : Str → Prop} {nds : List Nd}
theorem Base.nodes (b : Base LT PL nds) : 0 < nds.length := by
  obtain ⟨o, es, h⟩ := b.root
  exact (List.getElem?_eq_some_iff.mp h).1
theorem get_snoc {nd x : Nd} {i : Nat} (h : (nds ++ [x])[i]? = some nd) : nds[i]? = some nd ∨ (i = nds.length ∧ nd = x) := by
  by_cases hi : i < nds.length
  · rw [List.getElem?_append_left hi] at h
    exact .inl h
  · have hl : i < (nds ++ [x]).length := (List.getElem?_eq_some_iff.mp h).1
    rw [List.length_append, List.length_singleton] at hl
    have e : i = nds.length := by omega
    subst e
    rw [List.getElem?_append_right (Nat.le_refl _), Nat.sub_self] at h
    exact .inr ⟨rfl, (Option.some.inj h).symm⟩
theorem get_keep {nd x : Nd} {i : Nat} (h : nds[i]? = some nd) : (nds ++ [x])[i]? = some nd := by
  rw [List.getElem?_append_left (List.getElem?_eq_some_iff.mp h).1]
  exact h
theorem base_snoc (b : Base LT PL nds) {x : Nd} (ho : 0 ≤ x.owner) (he : x.ents = []) (hl : ∀ o t, x = .lnk o t → LT t) (hg : ∀ o ab, x = .gon o ab → ∃ o' es, nds[ab]? = some (.fol o' es)) : Base LT PL (nds ++ [x]) where
  root := let ⟨o, es, h⟩ := b.root; ⟨o, es, get_keep h⟩
  own := fun i nd h => by
    rcases get_snoc h with h | ⟨_, rfl⟩
    · exact b.own i nd h
    · exact ho
  ent := fun i nd h e q => by
    rcases get_snoc h with h | ⟨_, rfl⟩
    · obtain ⟨h1, h2, nd', h3, h4⟩ := b.ent i nd h e q
      exact ⟨h1, h2, nd', get_keep h3, h4⟩
    · rw [he] at q
      cases q
  uniq := fun i nd h => by
    rcases get_snoc h with h | ⟨_, rfl⟩
    · exact b.uniq i nd h
    · rw [he]
      exact ⟨List.nodup_nil, Nat.zero_le _⟩
  lnk := fun i o t h => by
    rcases get_snoc h with h | ⟨_, e⟩
    · exact b.lnk i o t h
    · exact hl o t e.symm
  gon := fun i o ab h => by
    rcases get_snoc h with h | ⟨hi, e⟩
    · obtain ⟨h1, o', es, h2⟩ := b.gon i o ab h
      exact ⟨h1, o', es, get_keep h2⟩
    · obtain ⟨o', es, h2⟩ := hg o ab e.symm
      have := (List.getElem?_eq_some_iff.mp h2).1
      exact ⟨by omega, o', es, get_keep h2⟩
theorem cnt_snoc {x : Nd} (he : x.ents = []) (k : Nat) : cnt (nds ++ [x]) k = cnt nds k := by
  rw [cnt_app, cnt_cons, cnt_nil, he]
  rfl
theorem wf_snoc (b : WF LT PL nds) {x : Nd} (hf : x.isFol = false) (ho : 0 ≤ x.owner) (hl : ∀ o t, x = .lnk o t → LT t) (hg : ∀ o ab, x = .gon o ab → ∃ o' es, nds[ab]? = some (.fol o' es)) : WF LT PL (nds ++ [x]) := by
  have he : x.ents = [] := by cases x <;> first | rfl | cases hf
  refine ⟨base_snoc b.base ho he hl hg, fun k nd hk h f => ?_⟩
  rw [cnt_snoc he]
  rcases get_snoc h with h | ⟨_, rfl⟩
  · exact b.once k nd hk h f
  · rw [hf] at f; cases f
/-- no entry leads behind the nodes -/
theorem cnt_behind (b : Base LT PL nds) {k : Nat} (h : nds.length ≤ k) : cnt nds k = 0 := by
  rcases Nat.eq_zero_or_pos (cnt nds k) with e | e
  · exact e
  · obtain ⟨i, nd, en, h1, h2, h3⟩ := cnt_pos e
    obtain ⟨_, _, nd', h4, _⟩ := b.ent i nd h1 en h2
    have := (List.getElem?_eq_some_iff.mp h4).1
    omega
theorem pend_snoc (b : WF LT PL nds) {o : Int} (ho : 0 ≤ o) : Pend LT PL (nds ++ [.fol o []]) nds.length where
  base := base_snoc b.base ho rfl (fun _ _ e => by cases e) (fun _ _ e => by cases e)
  len := by simp
  pos := b.base.nodes
  last := ⟨o, by rw [List.getElem?_append_right (Nat.le_refl _), Nat.sub_self]; rfl⟩
  none := by rw [cnt_snoc rfl]; exact cnt_behind b.base (Nat.le_refl _)
  gone := fun i o' h => by
    rcases get_snoc h with h | ⟨_, e⟩
    · obtain ⟨h1, _⟩ := b.base.gon i o' _ h
      have := (List.getElem?_eq_some_iff.mp h).1
      omega
    · cases e
  once := fun k nd hk hn h f => by
    rw [cnt_snoc rfl]
    rcases get_snoc h with h | ⟨e, _⟩
    · exact b.once k nd hk h f
    · omega
theorem get_set {nd x : Nd} {i j : Nat} (h : (nds.set i x)[j]? = some nd) : (i = j ∧ nd = x ∧ i < nds.length) ∨ (i ≠ j ∧ nds[j]? = some nd) := by
  by_cases e : i = j
  · subst e
    have hl : i < nds.length := by have := (List.getElem?_eq_some_iff.mp h).1; rwa [List.length_set] at this
    rw [List.getElem?_set_self hl] at h
    exact .inl ⟨rfl, (Option.some.inj h).symm, hl⟩
  · rw [List.getElem?_set_ne e] at h
    exact .inr ⟨e, h⟩
theorem set_at {x : Nd} {i : Nat} (h : i < nds.length) : (nds.set i x)[i]? = some x := List.getElem?_set_self h
/-- an entry more -/
theorem base_ent (b : Base LT PL nds) {i k : Nat} {o : Int} {es : List (Str × Nat)} {n : Str} {nk : Nd} (h : nds[i]? = some (.fol o es)) (hn : PL n) (hu : n ∉ es.map (·.1)) (hl : es.length < 12) (hk : nds[k]? = some nk) (hg : nk.isGone = false) (hik : i < k) :
    Base LT PL (nds.set i (.fol o (es ++ [(n, k)]))) := by
  have hi : i < nds.length := (List.getElem?_eq_some_iff.mp h).1
  -- what stood at j stands there still, but for the entries of i
  have keep : ∀ (j : Nat) (nd : Nd), nds[j]? = some nd → ∃ nd', (nds.set i (.fol o (es ++ [(n, k)])))[j]? = some nd' ∧ nd'.isGone = nd.isGone ∧ nd'.isFol = nd.isFol := fun j nd q => by
    by_cases e : i = j
    · subst e
      rw [h] at q
      cases Option.some.inj q
      exact ⟨_, set_at hi, rfl, rfl⟩
    · exact ⟨nd, by rw [List.getElem?_set_ne e]; exact q, rfl, rfl⟩
  have fol : ∀ (j : Nat) (o' : Int) (es' : List (Str × Nat)), nds[j]? = some (.fol o' es') → ∃ o'' es'', (nds.set i (.fol o (es ++ [(n, k)])))[j]? = some (.fol o'' es'') := fun j o' es' q => by
    obtain ⟨nd', h1, _, h3⟩ := keep j _ q
    cases nd' with
    | fol o'' es'' => exact ⟨o'', es'', h1⟩
    | _ => cases h3
  refine ⟨?_, ?_, ?_, ?_, ?_, ?_⟩
  · obtain ⟨o', es', h0⟩ := b.root
    exact fol 0 o' es' h0
  · intro j nd q
    rcases get_set q with ⟨_, rfl, _⟩ | ⟨_, q⟩
    · have := b.own i (.fol o es) h
      exact this
    · exact b.own j nd q
  · intro j nd q e he
    rcases get_set q with ⟨rfl, rfl, _⟩ | ⟨_, q⟩
    · rcases List.mem_append.mp he with he | he
      · obtain ⟨h1, h2, nd', h3, h4⟩ := b.ent i _ h e he
        obtain ⟨nd'', h5, h6, _⟩ := keep _ _ h3
        exact ⟨h1, h2, nd'', h5, by rw [h6, h4]⟩
      · rw [List.mem_singleton.mp he]
        obtain ⟨nd'', h5, h6, _⟩ := keep _ _ hk
        exact ⟨hn, hik, nd'', h5, by rw [h6, hg]⟩
    · obtain ⟨h1, h2, nd', h3, h4⟩ := b.ent j _ q e he
      obtain ⟨nd'', h5, h6, _⟩ := keep _ _ h3
      exact ⟨h1, h2, nd'', h5, by rw [h6, h4]⟩
  · intro j nd q
    rcases get_set q with ⟨rfl, rfl, _⟩ | ⟨_, q⟩
    · have hb := b.uniq i _ h
      refine ⟨?_, ?_⟩
      · show ((es ++ [(n, k)]).map (·.1)).Nodup
        rw [List.map_append, List.nodup_append]
        refine ⟨hb.1, by simp, fun x hx y hy => ?_⟩
        rw [List.map_cons, List.map_nil, List.mem_singleton] at hy
        subst hy
        intro e
        subst e
        exact hu hx
      · show (es ++ [(n, k)]).length ≤ 12
        rw [List.length_append, List.length_singleton]
        omega
    · exact b.uniq j nd q
  · intro j o' t q
    rcases get_set q with ⟨_, e, _⟩ | ⟨_, q⟩
    · cases e
    · exact b.lnk j o' t q
  · intro j o' ab q
    rcases get_set q with ⟨_, e, _⟩ | ⟨_, q⟩
    · cases e
    · obtain ⟨h1, o'', es'', h2⟩ := b.gon j o' ab q
      exact ⟨h1, fol ab o'' es'' h2⟩
theorem cnt_ent {i k : Nat} {o : Int} {es : List (Str × Nat)} {n : Str} (h : nds[i]? = some (.fol o es)) (j : Nat) : cnt (nds.set i (.fol o (es ++ [(n, k)]))) j = cnt nds j + if k = j then 1 else 0 := by
  have := cnt_set (nd' := .fol o (es ++ [(n, k)])) h j
  have e1 : cntE (Nd.fol o (es ++ [(n, k)])).ents j = cntE es j + if k = j then 1 else 0 := by
    show cntE (es ++ [(n, k)]) j = _
    rw [cntE_app, cntE_one]
  have e2 : cntE (Nd.fol o es).ents j = cntE es j := rfl
  omega
theorem wf_ent (b : WF LT PL nds) {i k : Nat} {o : Int} {es : List (Str × Nat)} {n : Str} {nk : Nd} (h : nds[i]? = some (.fol o es)) (hn : PL n) (hu : n ∉ es.map (·.1)) (hl : es.length < 12) (hk : nds[k]? = some nk) (hg : nk.isGone = false) (hf : nk.isFol = false) (hik : i < k) :
    WF LT PL (nds.set i (.fol o (es ++ [(n, k)]))) := by
  refine ⟨base_ent b.base h hn hu hl hk hg hik, fun j nd hj q f => ?_⟩
  rw [cnt_ent h]
  rcases get_set q with ⟨rfl, rfl, _⟩ | ⟨_, q⟩
  · rw [b.once i _ hj h rfl, if_neg (by omega)]
  · have hkj : k ≠ j := fun e => by
      subst e
      rw [hk] at q
      cases Option.some.inj q
      rw [hf] at f
      cases f
    rw [b.once j nd hj q f, if_neg hkj]
theorem pend_ent {n : Nat} (b : Pend LT PL nds n) {i : Nat} {o : Int} {es : List (Str × Nat)} {x : Str} (h : nds[i]? = some (.fol o es)) (hn : PL x) (hu : x ∉ es.map (·.1)) (hl : es.length < 12) (hi : i < n) : WF LT PL (nds.set i (.fol o (es ++ [(x, n)]))) := by
  obtain ⟨o', hlast⟩ := b.last
  refine ⟨base_ent b.base h hn hu hl hlast rfl hi, fun j nd hj q f => ?_⟩
  rw [cnt_ent h]
  rcases get_set q with ⟨rfl, rfl, _⟩ | ⟨_, q⟩
  · rw [b.once i _ hj hi h rfl, if_neg (by omega)]
  · have hjl := (List.getElem?_eq_some_iff.mp q).1
    rw [b.len] at hjl
    by_cases e : n = j
    · subst e
      rw [b.none, if_pos rfl]
    · rw [b.once j nd hj (by omega) q f, if_neg e]
/-- the pending folder becomes a file -/
theorem pend_file {n : Nat} (b : Pend LT PL nds n) : WF LT PL (nds.set n (.fil 0)) := by
  obtain ⟨o', hlast⟩ := b.last
  have hn : n < nds.length := by rw [b.len]; omega
  have hc : ∀ j, cnt (nds.set n (.fil 0)) j = cnt nds j := fun j => by
    have := cnt_set (nd' := .fil 0) hlast j
    have e1 : cntE (Nd.fil 0).ents j = 0 := rfl
    have e2 : cntE (Nd.fol o' []).ents j = 0 := rfl
    omega
  have ne : ∀ (i : Nat) (nd : Nd), nds[i]? = some nd → ∀ e ∈ nd.ents, e.2 ≠ n := fun i nd q e he z => by
    have h1 := cnt_ge (k := n) q
    rw [b.none] at h1
    have : 0 < cntE nd.ents n := List.countP_pos_iff.mpr ⟨e, he, by simpa using z⟩
    omega
  have keep : ∀ (j : Nat) (nd : Nd), j ≠ n → nds[j]? = some nd → (nds.set n (.fil 0))[j]? = some nd := fun j nd e q => by
    rw [List.getElem?_set_ne (Ne.symm e)]
    exact q
  refine ⟨⟨?_, ?_, ?_, ?_, ?_, ?_⟩, fun j nd hj q f => ?_⟩
  · obtain ⟨o, es, h0⟩ := b.base.root
    exact ⟨o, es, keep 0 _ (by have := b.pos; omega) h0⟩
  · intro j nd q
    rcases get_set q with ⟨_, rfl, _⟩ | ⟨_, q⟩
    · exact Int.le_refl 0
    · exact b.base.own j nd q
  · intro j nd q e he
    rcases get_set q with ⟨_, rfl, _⟩ | ⟨_, q⟩
    · cases he
    · obtain ⟨h1, h2, nd', h3, h4⟩ := b.base.ent j _ q e he
      exact ⟨h1, h2, nd', keep _ _ (ne j nd q e he) h3, h4⟩
  · intro j nd q
    rcases get_set q with ⟨_, rfl, _⟩ | ⟨_, q⟩
    · exact ⟨List.nodup_nil, Nat.zero_le _⟩
    · exact b.base.uniq j nd q
  · intro j o t q
    rcases get_set q with ⟨_, e, _⟩ | ⟨_, q⟩
    · cases e
    · exact b.base.lnk j o t q
  · intro j o ab q
    rcases get_set q with ⟨_, e, _⟩ | ⟨_, q⟩
    · cases e
    · obtain ⟨h1, o'', es'', h2⟩ := b.base.gon j o ab q
      exact ⟨h1, o'', es'', keep _ _ (fun z => b.gone j o (z ▸ q)) h2⟩
  · rw [hc]
    rcases get_set q with ⟨_, rfl, _⟩ | ⟨e, q⟩
    · cases f
    · have hjl := (List.getElem?_eq_some_iff.mp q).1
      rw [b.len] at hjl
      exact b.once j nd hj (by omega) q f
end
end TR

set_option maxRecDepth 100000
set_option maxHeartbeats 4000000
/-! the folders that are found from the root by entries -/
namespace TR
open PySem
/-- a folder stands at k -/
def FolAt (nds : List Nd) (k : Nat) : Prop := ∃ o es, nds[k]? = some (.fol o es)
def folB (nds : List Nd) (k : Nat) : Bool := match nds[k]? with
  | some (.fol _ _) => true
  | _ => false
theorem folB_iff {nds : List Nd} {k : Nat} : folB nds k = true ↔ FolAt nds k := by
  unfold folB FolAt
  constructor
  · intro h
    split at h
    · rename_i o es e
      exact ⟨o, es, e⟩
    · cases h
  · rintro ⟨o, es, e⟩
    rw [e]
/-- the folders to which entries lead -/
def kids (nds : List Nd) (es : List (Str × Nat)) : List Nat := (es.map (·.2)).filter (folB nds)
theorem mem_kids {nds : List Nd} {es : List (Str × Nat)} {k : Nat} : k ∈ kids nds es ↔ (∃ e ∈ es, e.2 = k) ∧ FolAt nds k := by
  unfold kids
  rw [List.mem_filter, folB_iff]
  constructor
  · rintro ⟨h, f⟩
    obtain ⟨e, he, hk⟩ := List.mem_map.mp h
    exact ⟨⟨e, he, hk⟩, f⟩
  · rintro ⟨⟨e, he, hk⟩, f⟩
    exact ⟨List.mem_map.mpr ⟨e, he, hk⟩, f⟩
/-- while the search goes on: W waits (its last is next), F is found -/
structure Srch (nds : List Nd) (W F : List Nat) : Prop where
  fol : ∀ k ∈ W ++ F, FolAt nds k
  nd : (W ++ F).Nodup
  root : 0 ∈ W ++ F
  par : ∀ k ∈ W ++ F, k ≠ 0 → ∃ i ∈ F, ∃ o es, nds[i]? = some (.fol o es) ∧ ∃ e ∈ es, e.2 = k
  closed : ∀ i ∈ F, ∀ o es, nds[i]? = some (.fol o es) → ∀ k ∈ kids nds es, k ∈ W ++ F
section
variable {LT PL : Str → Prop} {nds : List Nd}
theorem srch0 (b : WF LT PL nds) : Srch nds [0] [] where
  fol := fun k h => by
    rw [List.append_nil, List.mem_singleton] at h
    subst h
    exact b.base.root
  nd := by simp
  root := by simp
  par := fun k h hk => by
    rw [List.append_nil, List.mem_singleton] at h
    exact absurd h hk
  closed := fun i h => by cases h
theorem cntE_pos {es : List (Str × Nat)} {k : Nat} (h : ∃ e ∈ es, e.2 = k) : 0 < cntE es k := by
  obtain ⟨e, he, hk⟩ := h
  exact List.countP_pos_iff.mpr ⟨e, he, by simpa using hk⟩
theorem nodup_le1 : ∀ {ks : List Nat}, (∀ k ∈ ks, ks.countP (fun x => x == k) ≤ 1) → ks.Nodup
  | [], _ => List.nodup_nil
  | k :: r, h => by
    rw [List.nodup_cons]
    refine ⟨fun hk => ?_, nodup_le1 fun x hx => ?_⟩
    · have h1 := h k List.mem_cons_self
      have : 0 < r.countP (fun x => x == k) := List.countP_pos_iff.mpr ⟨k, hk, by simp⟩
      rw [List.countP_cons, if_pos (by simp)] at h1
      omega
    · have h1 := h x (List.mem_cons_of_mem _ hx)
      rw [List.countP_cons] at h1
      exact Nat.le_trans (Nat.le_add_right _ _) h1
theorem kids_nodup (b : WF LT PL nds) {i : Nat} {o : Int} {es : List (Str × Nat)} (h : nds[i]? = some (.fol o es)) : (kids nds es).Nodup := by
  refine nodup_le1 fun k hk => ?_
  obtain ⟨⟨e, he, hek⟩, f⟩ := mem_kids.mp hk
  have hik : i < k := by
    have := (b.base.ent i _ h e he).2.1
    omega
  obtain ⟨o', es', hf⟩ := f
  have h1 := b.once k _ (by omega) hf rfl
  have h2 := cnt_ge (k := k) h
  have h3 : (kids nds es).countP (fun x => x == k) ≤ cntE es k := by
    unfold kids cntE
    rw [List.countP_filter]
    refine Nat.le_trans (List.countP_mono_left fun x _ hx => ?_) (Nat.le_of_eq (List.countP_map (p := fun x => x == k) (f := fun e : Str × Nat => e.2) (l := es)))
    simp at hx ⊢
    exact hx.1
  have h4 : cntE (Nd.fol o es).ents k = cntE es k := rfl
  omega
theorem srch_step (b : WF LT PL nds) {W F : List Nat} {n : Nat} (s : Srch nds (W ++ [n]) F) {o : Int} {es : List (Str × Nat)} (h : nds[n]? = some (.fol o es)) : Srch nds (W ++ kids nds es) (n :: F) := by
  have hnd := s.nd
  rw [List.append_assoc, List.nodup_append] at hnd
  obtain ⟨nW, nR, dW⟩ := hnd
  rw [List.singleton_append, List.nodup_cons] at nR
  have hnF : n ∉ F := nR.1
  -- a folder below n is none of those that are known
  have fresh : ∀ k ∈ kids nds es, k ∉ W ∧ k ≠ n ∧ k ∉ F := fun k hk => by
    obtain ⟨he, f⟩ := mem_kids.mp hk
    have hnk : n < k := by
      obtain ⟨e, h1, h2⟩ := he
      have := (b.base.ent n _ h e h1).2.1
      omega
    obtain ⟨o', es', hf⟩ := f
    have c1 := b.once k _ (by omega) hf rfl
    have no : k ∉ (W ++ [n]) ++ F := fun hm => by
      obtain ⟨i, hi, oi, esi, hi2, hi3⟩ := s.par k hm (by omega)
      have hin : i ≠ n := fun e => hnF (e ▸ hi)
      have c2 := cnt_two (k := k) hi2 h hin
      have p1 : 0 < cntE esi k := cntE_pos hi3
      have p2 : 0 < cntE es k := cntE_pos he
      have e1 : cntE (Nd.fol oi esi).ents k = cntE esi k := rfl
      have e2 : cntE (Nd.fol o es).ents k = cntE es k := rfl
      omega
    refine ⟨fun q => no ?_, by omega, fun q => no ?_⟩
    · simp [q]
    · simp [q]
  have sub : ∀ k, k ∈ (W ++ [n]) ++ F → k ∈ (W ++ kids nds es) ++ (n :: F) := fun k hk => by
    simp only [List.mem_append, List.mem_singleton, List.mem_cons] at hk ⊢
    rcases hk with (hk | hk | hk) | hk
    · exact .inl (.inl hk)
    · exact .inr (.inl hk)
    · cases hk
    · exact .inr (.inr hk)
  refine ⟨?_, ?_, sub 0 s.root, ?_, ?_⟩
  · intro k hk
    simp only [List.mem_append, List.mem_cons] at hk
    rcases hk with (hk | hk) | hk | hk
    · exact s.fol k (by simp [hk])
    · exact (mem_kids.mp hk).2
    · exact s.fol k (by simp [hk])
    · exact s.fol k (by simp [hk])
  · rw [List.nodup_append, List.nodup_append]
    refine ⟨⟨nW, kids_nodup b h, fun x hx y hy e => ?_⟩, List.nodup_cons.mpr nR, fun x hx y hy e => ?_⟩
    · subst e
      exact (fresh x hy).1 hx
    · subst e
      rcases List.mem_append.mp hx with hx | hx
      · exact dW x hx x (by simpa using hy) rfl
      · rcases List.mem_cons.mp hy with hy | hy
        · exact (fresh x hx).2.1 hy
        · exact (fresh x hx).2.2 hy
  · intro k hk hk0
    simp only [List.mem_append, List.mem_cons] at hk
    have old : k ∈ (W ++ [n]) ++ F → ∃ i ∈ n :: F, ∃ o es, nds[i]? = some (.fol o es) ∧ ∃ e ∈ es, e.2 = k := fun hm => by
      obtain ⟨i, hi, r⟩ := s.par k hm hk0
      exact ⟨i, List.mem_cons_of_mem _ hi, r⟩
    rcases hk with (hk | hk) | hk | hk
    · exact old (by simp [hk])
    · exact ⟨n, List.mem_cons_self, o, es, h, (mem_kids.mp hk).1⟩
    · exact old (by simp [hk])
    · exact old (by simp [hk])
  · intro i hi o' es' hi' k hk
    rcases List.mem_cons.mp hi with rfl | hi
    · rw [h] at hi'
      cases Option.some.inj hi'
      simp [hk]
    · exact sub k (s.closed i hi o' es' hi' k hk)
/-- nothing waits: every folder is found -/
theorem srch_end (b : WF LT PL nds) {F : List Nat} (s : Srch nds [] F) : ∀ k, FolAt nds k → k ∈ F := by
  intro k
  induction k using Nat.strongRecOn with
  | _ k ih =>
    rintro ⟨o, es, h⟩
    by_cases h0 : k = 0
    · subst h0
      have := s.root
      simpa using this
    · have c := b.once k _ (by omega) h rfl
      obtain ⟨i, nd, e, h1, h2, h3⟩ := cnt_pos (nds := nds) (k := k) (by omega)
      have hik : i < k := by
        have := (b.base.ent i nd h1 e h2).2.1
        omega
      cases nd with
      | fol oi esi =>
        have hi := ih i hik ⟨oi, esi, h1⟩
        have := s.closed i hi oi esi h1 k (mem_kids.mpr ⟨⟨e, h2, h3⟩, o, es, h⟩)
        simpa using this
      | fil _ => cases h2
      | lnk _ _ => cases h2
      | gon _ _ => cases h2
/-- the found ones are no more than the nodes -/
theorem srch_len {W F : List Nat} (s : Srch nds W F) : (W ++ F).length ≤ nds.length := by
  have h1 : ∀ k ∈ W ++ F, k ∈ List.range nds.length := fun k hk => by
    obtain ⟨o, es, h⟩ := s.fol k hk
    exact List.mem_range.mpr (List.getElem?_eq_some_iff.mp h).1
  have := List.Nodup.length_le_of_subset s.nd h1
  rwa [List.length_range] at this
end
end TR

set_option maxRecDepth 100000
set_option maxHeartbeats 4000000
/-! comprehensions over enumerate of a list -/
namespace NG
open PySem L2
theorem lc_enum {K : PySem.W.Frag} {a : Addr} {xs : List V} {tt : TT} {te : TE} {i j : Nat} (hij : i ≠ j) {σ : St} {H1 : Hp} {D : Addr} {Q : Hp → Prop} (p : Nat → Bool) (f : Nat → V) (hx : xs.length < sizeLine) (hD : H1 D = none) (hG : ∀ H, Same H1 H → SqL K H a xs)
    (ht : ∀ (k : Nat) (x : V) (H : Hp) (R : Bool → Hp → Prop), xs[k]? = some x → Same H1 H → (∀ H', Same H H' → R (p k) H') → tt (((wipe σ [i, j]).set i (some (.int (k : Nat)))).set j (some x)) H R)
    (he : ∀ (k : Nat) (x : V) (H : Hp) (R : V → Hp → Prop), xs[k]? = some x → p k = true → Same H1 H → (∀ H', Same H H' → R (f k) H') → te (((wipe σ [i, j]).set i (some (.int (k : Nat)))).set j (some x)) H R)
    (hd : ∀ H, Same H1 H → H D = some (.lst (((List.range xs.length).filter p).map f)) → Q H) :
    ∃ W : Nat → Nat → Hp → Prop, (∃ m, W 0 m (L2.upd H1 D (.lst []))) ∧ ∀ k m H, W k m H →
      ((Ite K a).stop k H ∧ Q H) ∨ ((Ite K a).go k H ∧ ∃ Nx : Hp → Prop, (∀ H', Nx H' → ∃ m', m' < m ∧ W (k + 1) m' H') ∧ ∀ x H', (Ite K a).yld k H x H' → gTup K 2 (gCons (gName i) (gCons (gName j) gNil)) x (wipe σ [i, j]) H' fun σ2 H2 => wipe σ2 [i, j] = wipe σ [i, j] ∧ tt σ2 H2 fun b H3 =>
        if b = true then te σ2 H3 fun y H4 => ∃ acc, H4 D = some (.lst acc) ∧ acc.length < sizeLine ∧ Nx (L2.upd H4 D (.lst (acc ++ [y]))) else Nx H3) := by
  refine lc_it (walk_enum (K := K) (a := a) (xs := xs)) (fun k H => Same H1 H ∧ H D = some (.lst (((List.range k).filter p).map f))) ⟨Same.upd hD, by rw [upd_same]; simp⟩ (fun _ H _ h => hG H h.1) ?_ ?_
  · rintro k x H H' hk ⟨s1, eD⟩ ⟨T, ki, y, rfl, hT, rfl, h1, h2⟩
    cases Option.some.inj h1
    have sT : Same H (L2.upd H T (.tup [.int (k : Nat), y])) := Same.upd hT
    refine ⟨T, [.int (k : Nat), y], rfl, SqT.of upd_same, rfl, _, _, rfl, _, _, rfl, rfl, wipe2 hij _ _, ?_⟩
    have ll : (((List.range k).filter p).map f).length < sizeLine := by
      rw [List.length_map]
      have := List.length_filter_le p (List.range k)
      rw [List.length_range] at this
      omega
    have s0 := s1.trans sT
    have eD0 := sT _ _ eD
    generalize L2.upd H T (.tup [.int (k : Nat), y]) = H0 at s0 eD0
    refine ht k y _ _ h2 s0 (fun H3 s3 => ?_)
    have eD3 := s3 _ _ eD0
    have s13 := s0.trans s3
    refine ite2 (fun hp => ?_) (fun hp => ?_)
    · refine he k y _ _ h2 hp s13 (fun H4 s4 => ⟨_, s4 _ _ eD3, ll, ?_, ?_⟩)
      · intro b o e
        have hb : b ≠ D := ne_of_none e hD
        rw [upd_ne hb]
        exact s4 _ _ (s13 _ _ e)
      · rw [upd_same, List.range_succ, List.filter_append, List.map_append]
        congr 2
        congr 1
        have : [k].filter p = [k] := by simp [hp]
        rw [this]
        rfl
    · refine ⟨s13, ?_⟩
      rw [List.range_succ, List.filter_append, List.map_append]
      have : [k].filter p = [] := by simp [hp]
      rw [this]
      simpa using eD3
  · rintro H ⟨s1, eD⟩
    exact hd H s1 eD
end NG

set_option maxRecDepth 100000
set_option maxHeartbeats 8000000
namespace NW
open PySem L2 NG TR
theorem folB_at {nds : List Nd} {k : Nat} {nd : Nd} (h : nds[k]? = some nd) : folB nds k = nd.isFol := by
  unfold folB
  rw [h]
  cases nd <;> rfl
theorem atI_zero {x : V} {r : List V} : atI (x :: r) (0 : Int) = some x := by
  unfold atI ixN
  simp
abbrev sFileI : Stmt := inClass (top 19) 0
abbrev sLinkI : Stmt := inClass (top 20) 0
abbrev sGoneI : Stmt := inClass (top 21) 0
/-! ### files, links and gone folders are made -/
def fl1 (f : Str) (v : V) : List (Str × V) := putF f v []
def fl2 (f g : Str) (v u : V) : List (Str × V) := putF g u (putF f v [])
def spFile (K : PySem.W.Frag) (C : Addr) : Sp := fun vs H Q _ => ∃ (p dx : Addr) (v : V), vs = [.ref p, v] ∧ H p = some (.ins C dx []) ∧ Q .non (upd H p (.ins C dx (fl1 "owner" v)))
def spTwo (K : PySem.W.Frag) (C : Addr) (f g : Str) : Sp := fun vs H Q _ => ∃ (p dx : Addr) (v u : V), vs = [.ref p, v, u] ∧ H p = some (.ins C dx []) ∧ Q .non (upd (upd H p (.ins C dx (fl1 f v))) p (.ins C dx (fl2 f g v u)))
section
variable {P : Program} {w : World} {K : PySem.W.Frag} {mg : Str → Option Value} {base : Heap} {C f : Addr} {fd : FuncData}
theorem scFileI : FnScope ["self", "owner"] ["self", "owner"] (defScope sFileI) := ⟨rfl, rfl, rfl, by decide +kernel, rfl, by decide +kernel, by decide +kernel⟩
theorem ok_fileI (F : Fun K "__init__" "File.__init__" sFileI f fd) (cl : Cls K C) (h1 : NoAttr K C "owner") : FnOk P w K mg base CX0 1 f fd ["self", "owner"] (spFile K C) := by
  refine F.ok scFileI (fun vs H Q E h => ?_) (fun cdv A outer s H vs Q E hr h => ?_)
  · obtain ⟨p, dx, v, rfl, _⟩ := h
    rfl
  · obtain ⟨p, dx, v, rfl, hp, k⟩ := h
    refine ⟨_, pss_one (ps_fld (pv 0) (pv 1) rfl), ?_⟩
    exact ⟨_, rfl, _, rfl, p, C, dx, _, rfl, hp, cl, h1, (by show 0 < 1000; decide), k⟩
theorem scLinkI : FnScope ["self", "owner", "text"] ["self", "owner", "text"] (defScope sLinkI) := ⟨rfl, rfl, rfl, by decide +kernel, rfl, by decide +kernel, by decide +kernel⟩
theorem ok_linkI (F : Fun K "__init__" "Link.__init__" sLinkI f fd) (cl : Cls K C) (h1 : NoAttr K C "owner") (h2 : NoAttr K C "text") : FnOk P w K mg base CX0 1 f fd ["self", "owner", "text"] (spTwo K C "owner" "text") := by
  refine F.ok scLinkI (fun vs H Q E h => ?_) (fun cdv A outer s H vs Q E hr h => ?_)
  · obtain ⟨p, dx, v, u, rfl, _⟩ := h
    rfl
  · obtain ⟨p, dx, v, u, rfl, hp, k⟩ := h
    refine ⟨_, pss_cons (ps_fld (pv 0) (pv 1) rfl) (pss_one (ps_fld (pv 0) (pv 2) rfl)), ?_⟩
    refine ⟨_, rfl, _, rfl, p, C, dx, _, rfl, hp, cl, h1, (by show 0 < 1000; decide), ?_⟩
    exact ⟨_, rfl, _, rfl, p, C, dx, _, rfl, upd_same, cl, h2, (by show 1 < 1000; decide), k⟩
theorem scGoneI : FnScope ["self", "owner", "above"] ["self", "owner", "above"] (defScope sGoneI) := ⟨rfl, rfl, rfl, by decide +kernel, rfl, by decide +kernel, by decide +kernel⟩
theorem ok_goneI (F : Fun K "__init__" "Gone.__init__" sGoneI f fd) (cl : Cls K C) (h1 : NoAttr K C "owner") (h2 : NoAttr K C "above") : FnOk P w K mg base CX0 1 f fd ["self", "owner", "above"] (spTwo K C "owner" "above") := by
  refine F.ok scGoneI (fun vs H Q E h => ?_) (fun cdv A outer s H vs Q E hr h => ?_)
  · obtain ⟨p, dx, v, u, rfl, _⟩ := h
    rfl
  · obtain ⟨p, dx, v, u, rfl, hp, k⟩ := h
    refine ⟨_, pss_cons (ps_fld (pv 0) (pv 1) rfl) (pss_one (ps_fld (pv 0) (pv 2) rfl)), ?_⟩
    refine ⟨_, rfl, _, rfl, p, C, dx, _, rfl, hp, cl, h1, (by show 0 < 1000; decide), ?_⟩
    exact ⟨_, rfl, _, rfl, p, C, dx, _, rfl, upd_same, cl, h2, (by show 1 < 1000; decide), k⟩
end
end NW

set_option maxRecDepth 100000
set_option maxHeartbeats 8000000
namespace NW
open PySem L2 NG TR
abbrev sMay : Stmt := top 27
abbrev sStood : Stmt := top 28
structure TyC (K : PySem.W.Frag) (C : Addr) : Prop where
  c1 : PySem.W.findIn K (.ref C) "__class__" = some (some (.builtin "object.__class__"))
  c2 : PySem.W.specialIn K (.builtin "object.__class__") "__get__" = some (some (.builtin "getset_descriptor.__get__"))
  c3 : PySem.W.takesIn K (.builtin "object.__class__") = some true
  c4 : PySem.W.mroIn K C (.type "object") = some true
/-- the four classes: 0 Folder, 1 File, 2 Link, 3 Gone -/
structure TxtG (K : PySem.W.Frag) (mg : Str → Option Value) (cs : Nat → Addr) : Prop where
  cl : ∀ i, i < 4 → Cls K (cs i)
  ty : ∀ i, i < 4 → TyC K (cs i)
  kit : ∀ i j, i < 4 → j < 4 → PySem.W.kitOne K (.ref (cs i)) (.ref (cs j)) = some (decide (i = j))
  m_Folder : mg "Folder" = some (.ref (cs 0))
  m_File : mg "File" = some (.ref (cs 1))
  m_Link : mg "Link" = some (.ref (cs 2))
  m_Gone : mg "Gone" = some (.ref (cs 3))
  m_ROOT : ∃ t, mg "ROOT" = some (.int 0 t)
  nO : ∀ i, i < 4 → NoAttr K (cs i) "owner"
  nE : NoAttr K (cs 0) "entries"
  nT : NoAttr K (cs 2) "text"
  nA : NoAttr K (cs 3) "above"
theorem kitAny_of {K : PySem.W.Frag} {mg : Str → Option Value} {cs : Nat → Addr} (T : TxtG K mg cs) {i : Nat} (hi : i < 4) : ∀ js : List Nat, (∀ j ∈ js, j < 4) → PySem.W.kitAny K (.ref (cs i)) (js.map fun j => Value.ref (cs j)) = some (js.contains i)
  | [], _ => rfl
  | j :: r, h => by
    have hj := h j List.mem_cons_self
    have ih := kitAny_of T hi r fun x hx => h x (List.mem_cons_of_mem _ hx)
    rw [List.map_cons]
    unfold PySem.W.kitAny
    rw [T.kit i j hi hj, List.contains_cons]
    by_cases e : i = j
    · subst e
      simp
    · rw [decide_eq_false e]
      have e' : (i == j) = false := by simpa using e
      rw [e', Bool.false_or]
      exact ih
def spMay (K : PySem.W.Frag) (cs : Nat → Addr) : Sp := fun vs H Q _ => ∃ (T : Addr) (xs : List V) (n : Nat) (q : Addr) (i : Nat) (dx : Addr) (fs : List (Str × V)), vs = [.ref T, .int (n : Nat)] ∧ SqT K H T xs ∧ xs[n]? = some (.ref q) ∧ i < 4 ∧ H q = some (.ins (cs i) dx fs) ∧ 0 < n ∧ i ≠ 3 ∧ ∀ H', Same H H' → Q (.bl true) H'
def spStood (K : PySem.W.Frag) (cs : Nat → Addr) : Sp := fun vs H Q _ => ∃ (T : Addr) (xs : List V) (m n : Nat) (q : Addr) (dx : Addr) (fs : List (Str × V)), vs = [.ref T, .int (m : Nat), .int (n : Nat)] ∧ SqT K H T xs ∧ xs[n]? = some (.ref q) ∧ H q = some (.ins (cs 0) dx fs) ∧ n ≠ m ∧ ∀ H', Same H H' → Q (.bl true) H'
section
variable {P : Program} {w : World} {K : PySem.W.Frag} {mg : Str → Option Value} {base : Heap} {fNum fAt fDigit fPool fMay fStood : Addr} {cs : Nat → Addr}
theorem scMay : FnScope ["nodes", "number"] ["nodes", "number"] (defScope sMay) := ⟨rfl, rfl, rfl, by decide +kernel, rfl, by decide +kernel, by decide +kernel⟩
theorem ok_may {fd fdA : FuncData} (F : Fun K "may_be_entered" "may_be_entered" sMay fMay fd) (T : TxtK K mg fNum fAt fDigit fPool) (TG : TxtG K mg cs) (GA : FnOk P w K mg base CX0 2 fAt fdA ["nodes", "number"] (spAt K)) (bA : Binds K fdA ["nodes", "number"] []) :
    FnOk P w K mg base CX0 3 fMay fd ["nodes", "number"] (spMay K cs) := by
  obtain ⟨tr, gr⟩ := TG.m_ROOT
  refine F.ok scMay (fun vs H Q E h => ?_) (fun cdv A outer s H vs Q E hr h => ?_)
  · obtain ⟨T, xs, n, q, i, dx, fs, rfl, _⟩ := h
    rfl
  · obtain ⟨N, xs, n, q, i, dx, fs, rfl, hS, hx, hi, hq, hn, h3, k⟩ := h
    have hr2 : Room 2 _ := hr
    have hl := (List.getElem?_eq_some_iff.mp hx).1
    refine ⟨_, (pss_one (ps_ret (pe_and (pe_call GA hr2 (by rfl) T.g_is_at T.kp_is_at bA .nil pass0 (pa_cons (pv 0) (pa_cons (pv 1) pa_nil))) (pe_and (pe_cmpR op_ne (pv 1) (pe_glob (v := .int 0) (by rfl) gr ⟨_, rfl⟩) (nomark _)) (pe_one (pe_callB call_isiT (by rfl) T.m_isinstance (by decide +kernel) (pa_cons (pe_ix ix_tup (pv 0) (pv 1) (fun _ _ => rfl)) (pa_cons (pe_tup (pa_cons (pe_glob (v := .ref (cs 0)) (by rfl) TG.m_Folder rfl) (pa_cons (pe_glob (v := .ref (cs 1)) (by rfl) TG.m_File rfl) (pa_cons (pe_glob (v := .ref (cs 2)) (by rfl) TG.m_Link rfl) pa_nil)))) pa_nil)))))))), ?_⟩
    refine ⟨_, rfl, _, rfl, N, xs, _, rfl, hS, .inl ⟨(n : Int), rfl, _, rfl, ?_⟩⟩
    have e1 : (decide (0 ≤ (n : Int)) && decide ((n : Int) < (xs.length : Nat))) = true := by
      rw [decide_eq_true (by omega), decide_eq_true (by omega)]
      rfl
    rw [e1]
    refine iteT ⟨_, rfl, rfl, _, rfl, ?_⟩
    have e2 : (!decide (V.int (n : Nat) = V.int 0)) = true := by
      rw [decide_eq_false (fun z => by injection z with z; omega)]
      rfl
    rw [e2]
    refine iteT ⟨_, rfl, _, rfl, N, xs, _, _, rfl, rfl, hS, atI_nat hx, (by show 3 ≤ sizeLine; decide), fun tp htp => ?_⟩
    have sp := NG.Same.upd (o := HO.tup [V.ref (cs 0), V.ref (cs 1), V.ref (cs 2)]) htp
    have := TG.ty i hi
    refine ⟨_, tp, _, .ref (cs i), [.ref (cs 0), .ref (cs 1), .ref (cs 2)], true, rfl, upd_same, ?_, .base (.ins (sp _ _ hq) (TG.cl i hi) this.c1 this.c2 this.c3 this.c4), ?_, k _ sp⟩
    · exact .cons (.own _) (.cons (.own _) (.cons (.own _) .nil))
    · have e := kitAny_of TG hi [0, 1, 2] (by simp)
      have e4 : ([0, 1, 2] : List Nat).contains i = true := by
        have : i = 0 ∨ i = 1 ∨ i = 2 := by omega
        rcases this with rfl | rfl | rfl <;> rfl
      rw [e4] at e
      exact e
theorem scStood : FnScope ["nodes", "number", "last"] ["nodes", "number", "last"] (defScope sStood) := ⟨rfl, rfl, rfl, by decide +kernel, rfl, by decide +kernel, by decide +kernel⟩
theorem ok_stood {fd fdA : FuncData} (F : Fun K "stood_in" "stood_in" sStood fStood fd) (T : TxtK K mg fNum fAt fDigit fPool) (TG : TxtG K mg cs) (GA : FnOk P w K mg base CX0 2 fAt fdA ["nodes", "number"] (spAt K)) (bA : Binds K fdA ["nodes", "number"] []) :
    FnOk P w K mg base CX0 3 fStood fd ["nodes", "number", "last"] (spStood K cs) := by
  refine F.ok scStood (fun vs H Q E h => ?_) (fun cdv A outer s H vs Q E hr h => ?_)
  · obtain ⟨T, xs, m, n, q, dx, fs, rfl, _⟩ := h
    rfl
  · obtain ⟨N, xs, m, n, q, dx, fs, rfl, hS, hx, hq, hn, k⟩ := h
    have hr2 : Room 2 _ := hr
    have hl := (List.getElem?_eq_some_iff.mp hx).1
    refine ⟨_, (pss_one (ps_ret (pe_and (pe_call GA hr2 (by rfl) T.g_is_at T.kp_is_at bA .nil pass0 (pa_cons (pv 0) (pa_cons (pv 2) pa_nil))) (pe_and (pe_cmpR op_ne (pv 2) (pv 1) (nomark _)) (pe_one (pe_callB call_isiT (by rfl) T.m_isinstance (by decide +kernel) (pa_cons (pe_ix ix_tup (pv 0) (pv 2) (fun _ _ => rfl)) (pa_cons (pe_tup (pa_cons (pe_glob (v := .ref (cs 0)) (by rfl) TG.m_Folder rfl) (pa_cons (pe_glob (v := .ref (cs 3)) (by rfl) TG.m_Gone rfl) pa_nil))) pa_nil)))))))), ?_⟩
    refine ⟨_, rfl, _, rfl, N, xs, _, rfl, hS, .inl ⟨(n : Int), rfl, _, rfl, ?_⟩⟩
    have e1 : (decide (0 ≤ (n : Int)) && decide ((n : Int) < (xs.length : Nat))) = true := by
      rw [decide_eq_true (by omega), decide_eq_true (by omega)]
      rfl
    rw [e1]
    refine iteT ⟨_, rfl, _, rfl, rfl, _, rfl, ?_⟩
    have e2 : (!decide (V.int (n : Nat) = V.int (m : Nat))) = true := by
      rw [decide_eq_false (fun z => by injection z with z; omega)]
      rfl
    rw [e2]
    refine iteT ⟨_, rfl, _, rfl, N, xs, _, _, rfl, rfl, hS, atI_nat hx, (by show 2 ≤ sizeLine; decide), fun tp htp => ?_⟩
    have sp := NG.Same.upd (o := HO.tup [V.ref (cs 0), V.ref (cs 3)]) htp
    have := TG.ty 0 (by decide)
    refine ⟨_, tp, _, .ref (cs 0), [.ref (cs 0), .ref (cs 3)], true, rfl, upd_same, ?_, .base (.ins (sp _ _ hq) (TG.cl 0 (by decide)) this.c1 this.c2 this.c3 this.c4), ?_, k _ sp⟩
    · exact .cons (.own _) (.cons (.own _) .nil)
    · exact kitAny_of TG (by decide) [0, 3] (by simp)
/-! ### made nodes: an object each; a folder's entries in a tuple of tuples -/
def ffl (o : Int) (E : Addr) : List (Str × V) := putF "entries" (.ref E) (putF "owner" (.int o) [])
def EntO (K : PySem.W.Frag) (H : Hp) (q : V) (e : Str × Nat) : Prop := ∃ a, q = .ref a ∧ SqT K H a [.str e.1, .int (e.2 : Nat)]
def ObjAt (K : PySem.W.Frag) (cs : Nat → Addr) (H : Hp) (q : Addr) : Nd → Prop
  | .fol o es => ∃ dx E ps, H q = some (.ins (cs 0) dx (ffl o E)) ∧ PlT H E ps ∧ ps.length = es.length ∧ ∀ (k : Nat) (p : V) (e : Str × Nat), ps[k]? = some p → es[k]? = some e → EntO K H p e
  | .fil o => ∃ dx, H q = some (.ins (cs 1) dx (fl1 "owner" (.int o)))
  | .lnk o t => ∃ dx, H q = some (.ins (cs 2) dx (fl2 "owner" "text" (.int o) (.str t)))
  | .gon o ab => ∃ dx, H q = some (.ins (cs 3) dx (fl2 "owner" "above" (.int o) (.int (ab : Nat))))
theorem ObjAt.same {K : PySem.W.Frag} {cs : Nat → Addr} {H H' : Hp} {q : Addr} {nd : Nd} (h : ObjAt K cs H q nd) (s : Same H H') : ObjAt K cs H' q nd := by
  cases nd with
  | fol o es =>
    obtain ⟨dx, E, ps, h1, h2, h3, h4⟩ := h
    exact ⟨dx, E, ps, s _ _ h1, h2.same s, h3, fun k p e a b => let ⟨x, y, z⟩ := h4 k p e a b; ⟨x, y, Same.sqT s z⟩⟩
  | fil o => exact let ⟨dx, h⟩ := h; ⟨dx, s _ _ h⟩
  | lnk o t => exact let ⟨dx, h⟩ := h; ⟨dx, s _ _ h⟩
  | gon o ab => exact let ⟨dx, h⟩ := h; ⟨dx, s _ _ h⟩
/-- the tuple of a tree's nodes -/
structure ObjsAt (K : PySem.W.Frag) (cs : Nat → Addr) (H : Hp) (T : Addr) (qs : List Addr) (nds : List Nd) : Prop where
  ls : SqT K H T (qs.map V.ref)
  len : qs.length = nds.length
  nds : ∀ (i : Nat) (q : Addr) (nd : Nd), qs[i]? = some q → nds[i]? = some nd → ObjAt K cs H q nd
theorem ObjsAt.same {K : PySem.W.Frag} {cs : Nat → Addr} {H H' : Hp} {T : Addr} {qs : List Addr} {nds : List Nd} (h : ObjsAt K cs H T qs nds) (s : Same H H') : ObjsAt K cs H' T qs nds :=
  ⟨Same.sqT s h.ls, h.len, fun i q nd a b => (h.nds i q nd a b).same s⟩
/-- of which class -/
def clsI : Nd → Nat
  | .fol _ _ => 0
  | .fil _ => 1
  | .lnk _ _ => 2
  | .gon _ _ => 3
theorem clsI_lt (nd : Nd) : clsI nd < 4 := by cases nd <;> simp [clsI]
theorem obj_ins {K : PySem.W.Frag} {cs : Nat → Addr} {H : Hp} {q : Addr} {nd : Nd} (h : ObjAt K cs H q nd) : ∃ dx fs, H q = some (.ins (cs (clsI nd)) dx fs) ∧ List.lookup ("owner" : Str) fs = some (V.int nd.owner) := by
  have no : ("owner" : Str) ≠ "entries" := by decide +kernel
  have nt : ("owner" : Str) ≠ "text" := by decide +kernel
  have na : ("owner" : Str) ≠ "above" := by decide +kernel
  cases nd with
  | fol o es =>
    obtain ⟨dx, E, ps, h1, _⟩ := h
    exact ⟨dx, _, h1, by unfold ffl; rw [lookup_putF, if_neg no, lookup_putF, if_pos rfl]; rfl⟩
  | fil o =>
    obtain ⟨dx, h⟩ := h
    exact ⟨dx, _, h, by unfold fl1; rw [lookup_putF, if_pos rfl]; rfl⟩
  | lnk o t =>
    obtain ⟨dx, h⟩ := h
    exact ⟨dx, _, h, by unfold fl2; rw [lookup_putF, if_neg nt, lookup_putF, if_pos rfl]; rfl⟩
  | gon o ab =>
    obtain ⟨dx, h⟩ := h
    exact ⟨dx, _, h, by unfold fl2; rw [lookup_putF, if_neg na, lookup_putF, if_pos rfl]; rfl⟩
end
end NW

set_option maxRecDepth 100000
set_option maxHeartbeats 8000000
namespace NW
open PySem L2 NG TR
abbrev sFound : Stmt := top 32
def spFound (K : PySem.W.Frag) (cs : Nat → Addr) : Sp := fun vs H Q _ => ∃ (T : Addr) (qs : List Addr) (nds : List Nd), vs = [.ref T] ∧ ObjsAt K cs H T qs nds ∧ WF LinkText PL nds ∧ nds.length ≤ 1000 ∧
  ∀ (D : Addr) (kvs : List (Key × V)) (H' : Hp), Same H H' → H' D = some (.dK kvs) → (∀ k : Nat, FolAt nds k → valV kvs (Sum.inl (k : Int)) = some (.bl true)) → Q (.ref D) H'
def foundLeft (D : Addr) (n : Nat) (H : Hp) : Nat := match H D with
  | some (.dK kvs) => n - kvs.length
  | _ => 0
theorem last_of {α : Type} {l : List α} (h : l ≠ []) : ∃ r x, l = r ++ [x] := by
  rcases List.eq_nil_or_concat l with e | ⟨r, x, e⟩
  · exact absurd e h
  · exact ⟨r, x, by rw [e, List.concat_eq_append]⟩
section
variable {P : Program} {w : World} {K : PySem.W.Frag} {mg : Str → Option Value} {base : Heap} {fNum fAt fDigit fPool fFound : Addr} {cs : Nat → Addr}
theorem scFound : FnScope ["nodes", "found", "waiting", "number", "inner", "_"] ["nodes"] (defScope sFound) := ⟨rfl, rfl, rfl, by decide +kernel, rfl, by decide +kernel, by decide +kernel⟩
theorem ok_found {fd : FuncData} (F : Fun K "found_folders" "found_folders" sFound fFound fd) (T : TxtK K mg fNum fAt fDigit fPool) (TG : TxtG K mg cs) : FnOk P w K mg base CX0 1 fFound fd ["nodes"] (spFound K cs) := by
  have nd := scFound.nd
  obtain ⟨tr, gr⟩ := TG.m_ROOT
  refine F.ok scFound (fun vs H Q E h => ?_) (fun cdv A outer s H vs Q E hr h => ?_)
  · obtain ⟨T, qs, nds, rfl, _⟩ := h
    rfl
  · obtain ⟨N, qs, nds, rfl, OB, W0, hn, k⟩ := h
    have hu := hu_of hr
    have hs : sizeLine = 16777216 := sizeLine_eq
    refine ⟨_, (pss_cons (ps_set (i := 1) nd rfl (Or.inl rfl) pe_dnewK)
  (pss_cons (ps_set (i := 2) nd rfl (Or.inl rfl) (pe_lst (pa_cons (pe_glob (v := .int 0) (by rfl) gr ⟨_, rfl⟩) pa_nil)))
  (pss_cons (ps_while PassesOwn.never (pt_truth (pv 2) (by intro _; rfl))
 (pss_cons (ps_set (i := 3) nd rfl (Or.inl rfl) (pe_bm0 PySem.F.plainAttrs_list PySem.F.slot_list_pop PySem.F.type_list_pop mt_pop (pv 2)))
  (pss_cons (ps_dput hu (pv 1) (pv 3) pe_bl rfl)
  (pss_one (ps_expr (pe_bm PySem.F.plainAttrs_list PySem.F.slot_list_extend PySem.F.type_list_extend mt_extend (pv 2) (pa_cons (pe_lc (own := [("_", 5), ("inner", 4)]) (g := gTup K 2 (gCons (gName 5) (gCons (gName 4) gNil))) (tt := tB (tCB (rIsi K) (tCons (tOp (rIxT K) (tVar 0) (tVar 4)) (tCons (tC (V.ref (cs 0))) tNil)))) rfl nd (pi_tup (pe_fld (pe_ix ix_tup (pv 0) (pv 3) (fun _ _ => rfl)) rfl)) (blkOk_by (N := ["nodes", "found", "waiting", "number", "inner", "_"]) (sc := defScope sFound) (by decide +kernel)) (fun _ _ _ _ _ => (pg_tup (by rfl) (pgs_cons (pg_name (i := 5) nd rfl (Or.inl rfl)) (pgs_cons (pg_name (i := 4) nd rfl (Or.inl rfl)) pgs_nil)))) (fun _ _ _ _ _ => pts_one (pt_val (pe_callB call_isi (by rfl) T.m_isinstance (by decide +kernel) (pa_cons (pe_ix ix_tup (pv 0) (pv 4) (fun _ _ => rfl)) (pa_cons (pe_glob (v := .ref (cs 0)) (by rfl) TG.m_Folder rfl) pa_nil))))) (fun _ _ _ _ _ => (pv 4))) pa_nil)))))))
  (pss_one (ps_ret (pv 1)))))), ?_⟩
    refine fun D hD => ⟨(by show 1 ≤ sizeLine; decide), fun Wt hW => ?_⟩
    have sD := NG.Same.upd (o := HO.dK []) hD
    have sW := NG.Same.upd (o := HO.lst [V.int 0]) hW
    have eD := sW _ _ (upd_same (H := H) (a := D) (o := HO.dK []))
    have eW : (upd (upd H D (HO.dK [])) Wt (HO.lst [V.int 0])) Wt = some (.lst [V.int 0]) := upd_same
    have fW : H Wt = none := by
      cases e : H Wt with
      | none => rfl
      | some x => have := sD _ _ e; rw [hW] at this; cases this
    have nDW : D ≠ Wt := ne_of_none (upd_same (H := H) (a := D) (o := HO.dK [])) hW
    have s1 := sD.trans sW
    generalize upd (upd H D (HO.dK [])) Wt (HO.lst [V.int 0]) = H1 at eD eW s1 ⊢
    unfold gName tSeq
    dsimp only

    refine while_by (fun σ H' => ∃ (Wl Fl : List Nat) (kvs : List (Key × V)) (v3 v4 v5 : Option V), σ = [some (.ref N), some (.ref D), some (.ref Wt), v3, v4, v5] ∧ Same H H' ∧ H' D = some (.dK kvs) ∧ H' Wt = some (.lst (Wl.map fun i => V.int (i : Nat))) ∧ Srch nds Wl Fl ∧ kvs.length = Fl.length ∧
        (∀ k : Nat, k ∈ Fl → valV kvs (Sum.inl (k : Int)) = some (.bl true)) ∧ (∀ k : Nat, k ∉ Fl → valV kvs (Sum.inl (k : Int)) = none)) (fun _ H' => foundLeft D nds.length H')
      ⟨[0], [], [], none, none, none, rfl, s1, eD, eW, srch0 W0, rfl, fun k h => (by cases h), fun k _ => rfl⟩ ?_ ?_
    · rintro σ H2 ⟨Wl, Fl, kvs, v3, v4, v5, rfl, s2, e1, e2, S, kl, k1, k2⟩
      refine ⟨_, rfl, !(Wl.map fun i => V.int (i : Nat)).isEmpty, .inl ⟨_, SqL.of e2, rfl⟩, ?_⟩
      rcases List.eq_nil_or_concat Wl with rfl | ⟨r, n, ew⟩
      · refine iteF ⟨_, rfl, ?_⟩
        exact k D kvs H2 s2 e1 fun j hj => k1 j (srch_end W0 S j hj)
      · rw [List.concat_eq_append] at ew
        subst ew
        have hne : (!((r ++ [n]).map fun i => V.int (i : Nat)).isEmpty) = true := by simp
        rw [hne]
        obtain ⟨o, es, hfo⟩ := S.fol n (by simp)
        have hnF : n ∉ Fl := fun q => by
          have := S.nd
          rw [List.nodup_append] at this
          exact this.2.2 n (by simp) n q rfl
        have hlen := srch_len S
        rw [List.length_append, List.length_append, List.length_singleton] at hlen
        have el : ((r ++ [n]).map fun i => V.int (i : Nat))[((r ++ [n]).map fun i => V.int (i : Nat)).length - 1]? = some (V.int (n : Nat)) := by
          rw [List.map_append, List.length_append, List.length_map]
          simp
        refine iteT ⟨_, rfl, .inl ⟨rfl, _, SqL.of e2⟩, Wt, _, _, rfl, rfl, e2, el, ?_⟩
        have ed : ((r ++ [n]).map fun i => V.int (i : Nat)).dropLast = r.map fun i => V.int (i : Nat) := by
          rw [List.map_append, List.map_cons, List.map_nil, List.dropLast_concat]
        rw [ed]
        have e3 : (upd H2 Wt (.lst (r.map fun i => V.int (i : Nat)))) Wt = some (.lst (r.map fun i => V.int (i : Nat))) := upd_same
        have e3D : (upd H2 Wt (.lst (r.map fun i => V.int (i : Nat)))) D = some (.dK kvs) := by rw [upd_ne nDW]; exact e1
        have s3 : Same H (upd H2 Wt (.lst (r.map fun i => V.int (i : Nat)))) := fun b x e => by rw [upd_ne (ne_of_none e fW)]; exact s2 _ _ e
        have l2 : foundLeft D nds.length H2 = nds.length - kvs.length := by unfold foundLeft; rw [e1]
        rw [l2]
        generalize upd H2 Wt (.lst (r.map fun i => V.int (i : Nat))) = H3 at e3 e3D s3
        refine ⟨_, rfl, _, rfl, D, _, rfl, DPut.k (k := Sum.inl (n : Int)) e3D (small1000 (by omega)), ?_⟩
        have pn := putK_new (.bl true) (k2 n hnF)
        have e4 : (upd H3 D (.dK (putK kvs (Sum.inl (n : Int)) (.bl true)))) D = some (.dK (putK kvs (Sum.inl (n : Int)) (.bl true))) := upd_same
        have e4W : (upd H3 D (.dK (putK kvs (Sum.inl (n : Int)) (.bl true)))) Wt = some (.lst (r.map fun i => V.int (i : Nat))) := by rw [upd_ne nDW.symm]; exact e3
        have s4 : Same H (upd H3 D (.dK (putK kvs (Sum.inl (n : Int)) (.bl true)))) := fun b x e => by rw [upd_ne (ne_of_none e hD)]; exact s3 _ _ e
        generalize upd H3 D (.dK (putK kvs (Sum.inl (n : Int)) (.bl true))) = H4 at e4 e4W s4
        have OB4 := OB.same s4
        have hnl : n < qs.length := by rw [OB.len]; exact (List.getElem?_eq_some_iff.mp hfo).1
        have hqn : qs[n]? = some qs[n] := List.getElem?_eq_getElem hnl
        generalize qs[n] = q at hqn
        obtain ⟨dx, Ea, ps, hq, hE, pl, pe⟩ := OB4.nds n q _ hqn hfo
        have hat : ∀ (i : Nat) (x : Addr), qs[i]? = some x → atI (qs.map V.ref) ((i : Nat) : Int) = some (.ref x) := fun i x h => atI_nat (by rw [List.getElem?_map, h]; rfl)
        refine ⟨_, rfl, .inl ⟨rfl, _, SqL.of e4W⟩, _, rfl, _, rfl, N, _, _, _, rfl, rfl, OB4.ls, hat n q hqn, q, cs 0, dx, _, _, rfl, hq, TG.cl 0 (by decide), TG.nE, (by unfold ffl; rw [lookup_putF, if_pos rfl]), Ea, rfl, ⟨_, hE.sqT⟩, fun D2 hD2 => ?_⟩
        have hes : es.length ≤ 12 := (W0.base.uniq n _ hfo).2
        refine lc_pair (K := K) (walk_tup (K := K) (a := Ea)) (i := 5) (j := 4) (by decide) (es.map fun e => (V.str e.1, V.int (e.2 : Nat))) (by rw [List.length_map, pl]) (fun v => match v.2 with | .int i => folB nds i.toNat | _ => false) (fun v => v.2) (fun i x v h1 h2 => ?_) (by omega) hD2 (fun H' s => Same.sqT s hE.sqT) (fun i v H' R h s hR => ?_) (fun i v H' R _ _ s hR => ⟨_, rfl, hR _ (Same.refl _)⟩) (fun H5 s5 e5 => ?_)
        · rw [List.getElem?_map] at h2
          cases e : es[i]? with
          | none => rw [e] at h2; cases h2
          | some en =>
            rw [e] at h2
            cases Option.some.inj h2
            obtain ⟨a, rfl, ha⟩ := pe i x en h1 e
            exact ⟨a, rfl, ha⟩
        · rw [List.getElem?_map] at h
          cases e : es[i]? with
          | none => rw [e] at h; cases h
          | some en =>
            rw [e] at h
            cases Option.some.inj h
            obtain ⟨_, _, nd', hnd, _⟩ := W0.base.ent n _ hfo en (List.mem_of_getElem? e)
            have hl' : en.2 < qs.length := by rw [OB.len]; exact (List.getElem?_eq_some_iff.mp hnd).1
            have hq' : qs[en.2]? = some qs[en.2] := List.getElem?_eq_getElem hl'
            have OB' := OB4.same s
            obtain ⟨dx', fs', hi', _⟩ := obj_ins (OB'.nds en.2 _ nd' hq' hnd)
            have ty := TG.ty (clsI nd') (clsI_lt nd')
            refine ⟨_, rfl, _, rfl, N, _, _, _, rfl, rfl, OB'.ls, hat en.2 _ hq', _, _, _, _, _, rfl, .own (cs 0), .base (.ins hi' (TG.cl _ (clsI_lt nd')) ty.c1 ty.c2 ty.c3 ty.c4), TG.kit _ 0 (clsI_lt nd') (by decide), _, rfl, ?_⟩
            have eb : decide (clsI nd' = 0) = folB nds en.2 := by
              rw [folB_at hnd]
              cases nd' <;> rfl
            rw [eb]
            exact hR _ (Same.refl _)
        · have ek : ((((es.map fun e => (V.str e.1, V.int (e.2 : Nat))).filter (fun v => match v.2 with | .int i => folB nds i.toNat | _ => false)).map fun v => v.2)) = (kids nds es).map fun i => V.int (i : Nat) := by
            unfold kids
            rw [List.filter_map, List.map_map, List.filter_map, List.map_map]
            rfl
          rw [ek] at e5
          have e5W := s5 _ _ e4W
          have e5D := s5 _ _ e4
          have S' := srch_step W0 S hfo
          have hl2 := srch_len S'
          rw [List.length_append, List.length_append, List.length_cons] at hl2
          refine ⟨Wt, D2, _, _, rfl, rfl, e5W, e5, by rw [List.length_map, List.length_map]; omega, ?_⟩
          refine ⟨⟨r ++ kids nds es, n :: Fl, putK kvs (Sum.inl (n : Int)) (.bl true), _, _, _, rfl, fun b x e => ?_, ?_, ?_, S', ?_, fun j hj => ?_, fun j hj => ?_⟩, ?_⟩
          · rw [upd_ne (ne_of_none e fW)]
            exact s5 _ _ (s4 _ _ e)
          · rw [upd_ne nDW]; exact e5D
          · rw [upd_same, List.map_append]
          · rw [pn, List.length_append, List.length_singleton, kl]; rfl
          · rw [valV_put]
            split
            · rfl
            · rename_i h
              rcases List.mem_cons.mp hj with rfl | hj
              · exact absurd rfl h
              · exact k1 j hj
          · rw [valV_put, if_neg]
            · exact k2 j fun q => hj (List.mem_cons_of_mem _ q)
            · intro q
              injection q with q
              have : j = n := by omega
              exact hj (this ▸ List.mem_cons_self)
          · show foundLeft D nds.length _ < _
            unfold foundLeft
            rw [upd_ne nDW, e5D]
            show nds.length - (putK kvs (Sum.inl (n : Int)) (.bl true)).length < nds.length - kvs.length
            rw [pn, List.length_append, List.length_singleton]
            omega
    · rintro σ H' Q1 Q2 hq ⟨x, rfl', b, tv, q⟩
      exact ⟨x, rfl', b, tv, hq _ _ q⟩
end
end NW

set_option maxRecDepth 100000
set_option maxHeartbeats 4000000
/-! sorted of a list of data: texts, numbers, tuples of these -/
namespace NG
open PySem L2 PyProof.Rows
def rSortedD (K : PySem.W.Frag) : List V → Hp → VK → Prop := fun vs H Q => ∃ (a : Addr) (bs : List (V × PyData)), vs = [.ref a] ∧ SqL K H a (bs.map (·.1)) ∧ (∀ b ∈ bs, Dp K H b.1 b.2 ∧ b.2.depth ≤ 60) ∧ PySem.W.AllAlike (bs.map (·.2)) ∧ PySem.W.Sortable (bs.map (·.2)) ∧
  ∀ p, H p = none → Q (.ref p) (L2.upd H p (.lst ((bs.mergeSort (PySem.W.dataLe false (·.2))).map (·.1))))
theorem each_of : ∀ {bs : List (V × PyData)} {its : List Value}, Vals (bs.map (·.1)) its → PySem.W.EachIs (fun v (b : V × PyData) => b ∈ bs ∧ RelV b.1 v) its bs
  | [], _, .nil => .nil
  | b :: r, _ :: _, .cons h t => .cons ⟨List.mem_cons_self, h⟩ ((each_of t).mono fun _ _ ⟨h1, h2⟩ => ⟨List.mem_cons_of_mem _ h1, h2⟩)
theorem vals_each {R : V × PyData → Prop} : ∀ {bs : List (V × PyData)} {its : List Value}, PySem.W.EachIs (fun v (b : V × PyData) => R b ∧ RelV b.1 v) its bs → Vals (bs.map (·.1)) its
  | _, _, .nil => .nil
  | _, _, .cons h t => .cons h.2 (vals_each t)
section
variable {X : Cx}
theorem cr_sortedD (hu : X.A.units + 64 < cLine) : CallR X (.builtin "sorted") (rSortedD X.K) := by
  intro pins s σ H vs us Q I r h
  obtain ⟨a, bs, rfl, hs, hd, hal, hk, q⟩ := h
  obtain ⟨its, rv, hl, hz⟩ := I.list hs
  obtain ⟨u, rfl, ru⟩ := vals1 r
  obtain rfl : u = Value.ref a := ru
  have e := each_of rv
  have er : PySem.W.EachIs (fun v (b : V × PyData) => ∃ as, Reads s.heap v b.2 as) its bs := e.mono fun v b ⟨hb, hr⟩ => Dp.reads I b.2 b.1 v (hd b hb).1 hr
  rw [List.length_map] at hz
  refine PySem.W.sorted_data (enc := fun b : V × PyData => b.2) hl.isList e er hal hk hz (fun b hb => by have := (hd b hb).2; omega) fun out ho eo => ?_
  have rv2 := vals_each eo
  obtain ⟨ep, he'⟩ := PyProof.Rows.sortedAll_at s.heap its out.toArray
  refine ⟨.ref _, _, I.laid (t' := s.toks) (o := .lst ((bs.mergeSort (PySem.W.dataLe false (·.2))).map (·.1))) (fun _ _ => PyProof.Rows.sortedAll_old) (Nat.le_succ _) ⟨?_, out, ep, rv2, he'⟩, rfl, q _ (I.hok.fresh (Nat.le_succ _))⟩
  rw [List.length_map, List.length_mergeSort]
  exact hz
end
end NG

set_option maxRecDepth 100000
set_option maxHeartbeats 4000000
/-! a lambda of one parameter without captured names as a thing that is known; sorted(xs, key=lambda x: x[0]) over sequences whose first items are texts -/
namespace NG
open PySem PySem.Spec PyProof.Rows L2 LamX
/-- the object of a lambda that captures nothing, its code object at c -/
def LamO (f : Addr) (q : Str) (ps : Arguments) (b : Expr) (sc : Scope) (c : Addr) : HO := .ext fun h => ∃ pm ctv, h.get? f = some (PySem.W.kla_obj "<lambda>" q ps b sc [] pm c ctv)
theorem lamO_ok {P : Program} {w : World} {H : Hp} {h : Heap} {f c : Addr} {q : Str} {ps : Arguments} {b : Expr} {sc : Scope} {pm ctv : Value} (e : h.get? f = some (PySem.W.kla_obj "<lambda>" q ps b sc [] pm c ctv)) : ObjOk P w H h f (LamO f q ps b sc c) :=
  ⟨⟨pm, ctv, e⟩, ⟨_, e⟩, fun _ _ ⟨pm, ctv, e⟩ st => ⟨pm, ctv, st _ e⟩⟩
theorem lamO_ne {f c : Addr} {q : Str} {ps : Arguments} {b : Expr} {sc : Scope} (xs : Array Value) : LamO f q ps b sc c ≠ .tbl xs := fun z => by
  unfold LamO at z
  cases z
def tLamE (T : List (Addr × Str)) (q : Str) (ps : Arguments) (b : Expr) (sc : Scope) : TE := fun _ H Q => Tabs T H ∧ ∀ (H1 : Hp) (f c : Addr), ExtN H H1 → Tabs T H1 → H1 f = some (LamO f q ps b sc c) → H1 c = some (CodeO c q) → Q (.ref f) H1
section
variable {X : Cx}
theorem tabs_laid {T : List (Addr × Str)} {H : Hp} {f : Addr} {o : HO} (t : Tabs T H) (n : H f = none) : Tabs T (upd H f o) := t.ext fun b u e => by rw [upd_ne (ne_of_none e n)]; exact e
theorem extN_laid {H : Hp} {f : Addr} {o : HO} (n : H f = none) : ExtN H (upd H f o) := .of fun b u e => by rw [upd_ne (ne_of_none e n)]; exact e
theorem pe_lamE {T : List (Addr × Str)} {q : Str} {c P : Addr} {ps : Arguments} {b : Expr} {sc : Scope} {pos : Pos} (TB : TabB X.base X.mg c P) (hcode : X.env.code = .ref c) (hq : X.env.qual ++ "<lambda>" = q) (hmT : (P, q) ∈ T) (hu : ∀ p ∈ T, p.1 = P → p.2 = q)
    (hdef : defaultsOf ps X.env = ([], [])) (hcl : closureFor sc X.env = pure []) : PE X (.Lambda ps b sc pos) (tLamE T q ps b sc) := by
  refine ⟨fun pins s σ H Q I h => ?_⟩
  obtain ⟨hT, h⟩ := h
  obtain ⟨tb, hP, ht, ha⟩ := hT _ hmT
  replace hP : H P = some (.tbl tb) := hP
  refine PySem.W.kla_eval hdef ?_
  rw [hq]
  have bP : s.heap.BuiltinsAt X.mg P := TB.bm.keeps I.bk
  have hP' : s.heap.get? P = some { cls := .none, data := .fields tb } := I.hok P _ hP
  cases hc : codeAmong pos tb.toList with
  | none =>
    refine PySem.W.kla_makeFunction (mg := X.mg) (c := c) (P := P) (ps := tb) hcl I.ok.glob (I.mod.glob.keeps I.bk) hcode (TB.code.keeps I.bk) hP' ht hc TB.gP bP fun c1 ctv h1 tk hx hge hlt hrec htb => ?_
    obtain ⟨c2, oc, vs, t, e2, hoc, hd, hv⟩ := hrec
    cases e2
    have nC : H c1 = none := I.hok.fresh hge
    have nPc : P ≠ c1 := ne_of_none hP nC
    have I1 := inv_table (t' := tk) (h' := h1) I hP hx htb hge ⟨oc, vs, t, hoc, hd, hv⟩
    have nf : (upd (upd H P (.tbl (tb ++ #[rawInt pos.line, rawInt pos.col, .ref c1]))) c1 (CodeO c1 q)) h1.objs.size = none := I1.hok.fresh (Nat.le_refl _)
    have I2 := I1.laid (h' := h1.push (PySem.W.kla_obj "<lambda>" q ps b sc [] ((X.mg "__name__").getD .none) c1 ctv)) (a := h1.objs.size) (o := LamO h1.objs.size q ps b sc c1) (t' := tk) (fun a u e => Heap.get?_push_of_some _ e) (Nat.le_refl _) (lamO_ok (Heap.get?_push_size _ rfl))
    have e1 : ExtN H (upd (upd H P (.tbl (tb ++ #[rawInt pos.line, rawInt pos.col, .ref c1]))) c1 (CodeO c1 q)) := fun a o e n => by
      have na : a ≠ P := fun z => n tb (by rw [z, hP] at e; exact (Option.some.inj e).symm)
      rw [upd_ne (ne_of_none e nC), upd_ne na]
      exact e
    have tl : (tb ++ #[rawInt pos.line, rawInt pos.col, .ref c1]).toList = tb.toList ++ [rawInt pos.line, rawInt pos.col, .ref c1] := by simp
    have t1 : Tabs T (upd (upd H P (.tbl (tb ++ #[rawInt pos.line, rawInt pos.col, .ref c1]))) c1 (CodeO c1 q)) := fun p hp => by
      by_cases hb : p.1 = P
      · rw [hu p hp hb, hb]
        refine ⟨_, by rw [upd_ne nPc, upd_same], by rw [tl]; exact PySem.TriplesOk_snoc _ _ _ _ ht, fun p' cv hcv => ?_⟩
        rw [tl] at hcv
        rcases among_app _ ht hcv with z | z
        · obtain ⟨c0, d1, d2⟩ := ha p' cv z
          exact ⟨c0, d1, e1 _ _ d2 codeO_ne⟩
        · exact ⟨c1, z, upd_same⟩
      · obtain ⟨tb2, a1, a2, a3⟩ := hT p hp
        refine ⟨tb2, by rw [upd_ne (ne_of_none a1 nC), upd_ne hb]; exact a1, a2, fun p' cv hcv => ?_⟩
        obtain ⟨c0, d1, d2⟩ := a3 p' cv hcv
        exact ⟨c0, d1, e1 _ _ d2 codeO_ne⟩
    have nfc : c1 ≠ h1.objs.size := Nat.ne_of_lt hlt
    exact ⟨.ref _, _, I2, rfl, h _ _ c1 (e1.trans (extN_laid nf)) (tabs_laid t1 nf) upd_same (by rw [upd_ne nfc]; exact upd_same)⟩
  | some cv =>
    obtain ⟨c1, e, hco⟩ := ha pos cv hc
    subst e
    refine PySem.W.kla_makeFunctionHit (mg := X.mg) (c := c) (P := P) (ps := tb) hcl I.ok.glob (I.mod.glob.keeps I.bk) hcode (TB.code.keeps I.bk) hP' ht hc bP fun ctv h1 tk hx hsz => ?_
    have nf : H h1.objs.size = none := I.hok.fresh hsz
    have I2 := I.laid (h' := h1.push (PySem.W.kla_obj "<lambda>" q ps b sc [] ((X.mg "__name__").getD .none) c1 ctv)) (a := h1.objs.size) (o := LamO h1.objs.size q ps b sc c1) (t' := tk) (fun a u e => Heap.get?_push_of_some _ (hx a u e)) hsz (lamO_ok (Heap.get?_push_size _ rfl))
    exact ⟨.ref _, _, I2, rfl, h _ _ c1 (extN_laid nf) (tabs_laid hT nf) upd_same (by rw [upd_ne (ne_of_none hco nf)]; exact hco)⟩
theorem each_of' {α : Type} : ∀ {bs : List (V × α)} {its : List Value}, Vals (bs.map (·.1)) its → PySem.W.EachIs (fun v (b : V × α) => b ∈ bs ∧ RelV b.1 v) its bs
  | [], _, .nil => .nil
  | b :: r, _ :: _, .cons h t => .cons ⟨List.mem_cons_self, h⟩ ((each_of' t).mono fun _ _ ⟨h1, h2⟩ => ⟨List.mem_cons_of_mem _ h1, h2⟩)
theorem vals_each' {α : Type} {R : V × α → Prop} : ∀ {bs : List (V × α)} {its : List Value}, PySem.W.EachIs (fun v (b : V × α) => R b ∧ RelV b.1 v) its bs → Vals (bs.map (·.1)) its
  | _, _, .nil => .nil
  | _, _, .cons h t => .cons h.2 (vals_each' t)
/-- lambda x: x[0] -/
def argOne (x : Str) (p : Pos) : Arguments := { posonlyargs := [], args := [{ arg := x, annotation := none, pos := p }], vararg := none, kwonlyargs := [], kw_defaults := [], kwarg := none, defaults := [] }
def firstOf (x : Str) (p1 p2 p3 : Pos) : Expr := .Subscript (.Name x p1) (.Constant (.int 0) 0 p2) p3
def leStr (x y : V × Str) : Bool := decide (x.2.cps.toList ≤ y.2.cps.toList)
def rSortK (K : PySem.W.Frag) (q : Str) (ps : Arguments) (b : Expr) (sc : Scope) : List V → List V → Hp → VK → Prop := fun vs zs H Q => ∃ (a f c : Addr) (bs : List (V × Str)), vs = [.ref a] ∧ zs = [.ref f] ∧ H f = some (LamO f q ps b sc c) ∧ H c = some (CodeO c q) ∧ SqL K H a (bs.map (·.1)) ∧
  (∀ b ∈ bs, ∃ t r, b.1 = .ref t ∧ SqT K H t (.str b.2 :: r)) ∧ ∀ p, H p = none → Q (.ref p) (upd H p (.lst ((bs.mergeSort leStr).map (·.1))))
theorem cr_sortK (hu : X.A.units + 64 < cLine) (hd : X.A.depth + 8 < recursionLimit) {q x : Str} {p0 p1 p2 p3 : Pos} {sc : Scope} (hsc : sc = { kind := .function, names := [(x, .local)], isGenerator := false, isCoroutine := false, more := [] }) (hx : (x == ("__debug__" : Str)) = false)
    (hbind : ∀ pm cv ctv v : Value, bindArgs (PySem.W.kla_fn "<lambda>" q (argOne x p0) (firstOf x p1 p2 p3) sc [] pm cv ctv) ⟨[v], []⟩ = pure [(x, v)]) :
    CallRK X (.builtin "sorted") [Str.ofString "key"] (rSortK X.K q (argOne x p0) (firstOf x p1 p2 p3) sc) := by
  intro pins s σ H vs zs us ws Q I r rz h
  obtain ⟨a, f, c, bs, rfl, rfl, hf, hc, hs, hb, k⟩ := h
  obtain ⟨its, rv, hl, hz⟩ := I.list hs
  obtain ⟨u, rfl, ru⟩ := vals1 r
  obtain rfl : u = Value.ref a := ru
  obtain ⟨g, rfl, rg⟩ := vals1 rz
  obtain rfl : g = Value.ref f := rg
  have e := each_of' rv
  rw [List.length_map] at hz
  obtain ⟨⟨pm, ctv, ef⟩, _, _⟩ := I.hok f _ hf
  obtain ⟨⟨oc, ovs, t, eoc, edc, evc⟩, _, _⟩ := I.hok c _ hc
  refine PySem.W.sorted_key_data (b := false) (fun b : V × Str => .str b.2) hl.isList e (PySem.W.AllAlike.of fun _ _ => by simp [PySem.W.alike]) (PySem.W.Sortable.others fun _ => ⟨(fun z => by cases z), (fun _ z => by cases z)⟩) hz (fun b _ => ?_) (ksk_s1 _ _) (fun _ => ksk_l1 _ _) (fun _ => ksk_t1 _ _) (fun v y hR _ h0 tk kp => ?_) fun out n h0 tk kp _ hD ho eo => ?_
  · have : (PyData.str b.2).depth = 0 := by simp [PyData.depth]
    omega
  · obtain ⟨hyb, hyv⟩ := hR
    obtain ⟨t0, rest, ey, hT⟩ := hb y hyb
    rw [ey] at hyv
    cases hyv
    obtain ⟨ts, tv, tp, _⟩ := I.tuple hT
    cases tv with
    | cons hn tr =>
    obtain ⟨tn, rfl⟩ := hn
    refine wpAny_call (codeAny_mono (PySem.W.kla_callFunE (R := fun r s' => ∃ u, r = .ok (.ret u) ∧ PySem.W.KeyPure (.str y.2) { s with heap := h0, toks := tk } u s') (by show X.A.depth < _; omega) (kp _ _ ef) rfl (by rw [hsc]) (by rw [hsc]) rfl ⟨c, oc, ovs, t, rfl, kp _ _ eoc, edc, evc⟩ ?_) fun r s' ⟨u, e, k⟩ => by subst e; exact k)
    have eb : bindArgs (PySem.W.kla_fn "<lambda>" q (argOne x p0) (firstOf x p1 p2 p3) sc [] pm (.ref c) ctv) ⟨[.ref t0], []⟩ = pure [(x, .ref t0)] := hbind _ _ _ _
    rw [eb]
    have el : sc.names.lookup x = some .local := by rw [hsc]; simp
    refine wpAny_pure (wpAny_newFunctionEnv (fun y hy => by rw [hsc] at hy; rw [List.mem_singleton.mp hy]; exact fun z => by cases z) (fun y hy => by rw [List.mem_singleton.mp hy]; exact el) (fun h1 hns hsb => ⟨(I.nolimit.keeps kp).fresh _ hsb, ?_⟩) (by rw [hsc]))
    have kp1 : ∀ b o, h0.get? b = some o → h1.get? b = some o := fun b o e => hsb.extBut b o (Nat.ne_of_lt (Heap.lt_size e)) (Heap.get?_push_of_some _ e)
    refine PySem.W.kla_codeExpr (Subscript_ (wpAny_Name (wpAny_loadName_local (v := .ref t0) (by rw [hsc]; rfl) (by exact el) hns (by simp) (wpAny_Constant_int ?_)) hx))
    obtain ⟨otup, ep, ec, n0, ed⟩ := tp
    have tp1 : IsTup h1 t0 (Value.str y.2 tn :: _).toArray := ⟨otup, kp1 _ _ (kp _ _ ep), ec, n0, ed⟩
    refine subscriptTail_builtinR (x := .str y.2 tn) tp1.typeIs slot_tuple_getitem.lookup (PyProof.Rows.getItem_tuple (j := 0) tp1 (by decide) (by decide) (by simp [seqIndex?]) (by simp) ⟨rfl, ?_⟩) (by rfl)
    exact ⟨_, rfl, h1, _, rfl, kp1, .str _ _⟩
  · have rv2 := vals_each' eo
    refine ⟨.ref _, _, I.laid (t' := tk) (o := .lst ((bs.mergeSort leStr).map (·.1))) kp (Nat.le_succ _) ⟨?_, out, n, ?_, hD⟩, rfl, k _ (I.hok.fresh (Nat.le_succ _))⟩
    · rw [List.length_map, List.length_mergeSort]
      exact hz
    · rw [PySem.W.dataLe_str] at rv2
      exact rv2
end
end NG
namespace NG
open PySem PySem.Spec PyProof.Rows L2 LamX
theorem fun_okC {P : Program} {w : World} {K : PySem.W.Frag} {mg : Str → Option Value} {base : Heap} {x qual : Str} {st : Stmt} {f c : Addr} {fd : FuncData} {N ps : List Str} {k : Nat} {sp : Sp} (F : Fun K x qual st f fd) (hc : fd.code = .ref c) (S : FnScope N ps (defScope st)) (len : ∀ vs H Q E, sp vs H Q E → vs.length = ps.length)
    (hbody : ∀ (A : Around) (outer : List Env) (s : Shared) (H : Hp) (vs : List V) (Q : VK) (E : XK), Room k (A.deeper (envOfC qual (defScope st) s.heap.objs.size f (.ref c))) → sp vs H Q E →
      ∃ t, PSs (cxOf C8.CX0 P w K mg base N qual (defScope st) f (.ref c) A outer s H E).nox (defBody st) t ∧ t { nx := fun _ H' => Q .non H', rt := Q } (L2.start N vs) H) : FnOk P w K mg base C8.CX0 (k + 1) f fd ps sp := by
  obtain ⟨oc, od, kV, doc, pm, an, cdv, ct, osl, rfl, lk, hcd⟩ := F.ex
  have e : cdv = .ref c := hc
  subst e
  refine fn_of lk hcd S len fun A outer s H vs Q E hr hsp => ?_
  obtain ⟨t, h, q⟩ := hbody A outer s H vs Q E hr hsp
  exact ⟨t, h.nox, q⟩
theorem hu64 {A : Around} {k : Nat} (hr : Room k A) : A.units + 64 < cLine := by have := hr.un; omega
theorem hd8 {A : Around} {k : Nat} (hr : Room (k + 1) A) : A.depth + 8 < recursionLimit := by have := hr.dp; omega
theorem ExtN.sqT {K : PySem.W.Frag} {H H' : Hp} {a : Addr} {xs : List V} (e : ExtN H H') (h : SqT K H a xs) : SqT K H' a xs := by
  rcases h with (h | ⟨o, h⟩) | h
  · exact .inl (.inl (e _ _ h (fun _ z => by cases z)))
  · exact .inl (.inr ⟨o, e _ _ h (fun _ z => by cases z)⟩)
  · exact .inr h
theorem ExtN.same {H H' : Hp} (s : Same H H') : ExtN H H' := .of fun b o e => s b o e
def tSortBy (K : PySem.W.Frag) (T : List (Addr × Str)) (i : Nat) : TE := fun σ H Q => ∃ a, σ[i]? = some (some (.ref a)) ∧ ∃ bs : List (V × Str), Tabs T H ∧ SqL K H a (bs.map (·.1)) ∧ (∀ b ∈ bs, ∃ t r, b.1 = .ref t ∧ SqT K H t (.str b.2 :: r)) ∧
  ∀ (p : Addr) (H' : Hp), ExtN H H' → Tabs T H' → H' p = some (.lst ((bs.mergeSort leStr).map (·.1))) → Q (.ref p) H'
theorem ExtN.sqL {K : PySem.W.Frag} {H H' : Hp} {a : Addr} {xs : List V} (e : ExtN H H') (h : SqL K H a xs) : SqL K H' a xs := by
  rcases h with (h | ⟨o, h⟩) | h
  · exact .inl (.inl (e _ _ h (fun _ z => by cases z)))
  · exact .inl (.inr ⟨o, e _ _ h (fun _ z => by cases z)⟩)
  · exact .inr h
/-- sorted(xs, key=lambda x: x[0]) -/
theorem pe_sortBy {X : Cx} {T : List (Addr × Str)} {q x : Str} {c P : Addr} {i : Nat} {y : Str} {py : Pos} {sc : Scope} {p p0 p1 p2 p3 lpos kpos cpos : Pos} (he : PE X (.Name y py) (tVar i)) (hu : X.A.units + 64 < cLine) (hd : X.A.depth + 8 < recursionLimit) (hg : Gl X "sorted") (hm : X.mg "sorted" = none)
    (TB : TabB X.base X.mg c P) (hcode : X.env.code = .ref c) (hq : X.env.qual ++ "<lambda>" = q) (hmT : (P, q) ∈ T) (hT : ∀ p ∈ T, p.1 = P → p.2 = q) (hcl : closureFor sc X.env = pure [])
    (hsc : sc = { kind := .function, names := [(x, .local)], isGenerator := false, isCoroutine := false, more := [] }) (hx : (x == ("__debug__" : Str)) = false)
    (hbind : ∀ pm cv ctv v : Value, bindArgs (PySem.W.kla_fn "<lambda>" q (argOne x p0) (firstOf x p1 p2 p3) sc [] pm cv ctv) ⟨[v], []⟩ = pure [(x, v)]) :
    PE X (.Call (.Name "sorted" p) [.Name y py] [⟨some "key", .Lambda (argOne x p0) (firstOf x p1 p2 p3) sc lpos, kpos⟩] cpos) (tSortBy X.K T i) := by
  refine ⟨fun pins s σ H Q I h => ?_⟩
  obtain ⟨a, hi, bs, t0, hL, hP, k⟩ := h
  refine (pe_callBK (cr_sortK (q := q) hu hd hsc hx hbind) hg hm (by decide +kernel) (pa_cons he pa_nil) (pk_cons (pe_lamE (T := T) (q := q) TB hcode hq hmT hT rfl hcl) pk_nil) ).run pins s σ H Q I ?_
  refine ⟨.ref a, hi, t0, fun H1 f c1 e1 t1 hf hc => ?_⟩
  refine ⟨a, f, c1, bs, rfl, rfl, hf, hc, ExtN.sqL e1 hL, fun b hb => let ⟨t, r, h1, h2⟩ := hP b hb; ⟨t, r, h1, ExtN.sqT e1 h2⟩, fun p hp => ?_⟩
  exact k p _ (e1.trans (extN_laid hp)) (tabs_laid t1 hp) upd_same
end NG

set_option maxRecDepth 100000
set_option maxHeartbeats 400000
namespace NW
open PySem L2 NG TR LamX
abbrev sBy : Stmt := top 23
abbrev sFolI : Stmt := inClass (top 18) 0
def qBy : Str := (Str.ofString "by_names" ++ Str.ofString ".<locals>.") ++ Str.ofString "<lambda>"
structure TxtS (K : PySem.W.Frag) (mg : Str → Option Value) (fBy : Addr) : Prop where
  m_all : mg "all" = none
  m_isinstance : mg "isinstance" = none
  m_str : mg "str" = none
  m_tuple : mg "tuple" = none
  m_sorted : mg "sorted" = none
  g_by : mg "by_names" = some (.ref fBy)
  kp_by : PySem.W.keepIn K (.ref fBy) = true
/-- pairs whose first item is a text -/
def PairsAt (K : PySem.W.Frag) (H : Hp) (bs : List (V × Str)) : Prop := ∀ b ∈ bs, ∃ t r, b.1 = .ref t ∧ SqT K H t [.str b.2, r]
theorem PairsAt.ext {K : PySem.W.Frag} {H H' : Hp} {bs : List (V × Str)} (h : PairsAt K H bs) (e : ExtN H H') : PairsAt K H' bs := fun b hb => let ⟨t, r, h1, h2⟩ := h b hb; ⟨t, r, h1, ExtN.sqT e h2⟩
def spBy (K : PySem.W.Frag) (P0 : Addr) : Sp := fun vs H Q _ => ∃ (L : Addr) (bs : List (V × Str)), vs = [.ref L] ∧ Tabs [(P0, qBy)] H ∧ SqL K H L (bs.map (·.1)) ∧ bs.length < sizeLine ∧ PairsAt K H bs ∧
  ∀ H' E, ExtN H H' → Tabs [(P0, qBy)] H' → PlT H' E ((bs.mergeSort leStr).map (·.1)) → Q (.ref E) H'
section
variable {P : Program} {w : World} {K : PySem.W.Frag} {mg : Str → Option Value} {base : Heap} {fBy c0 P0 : Addr}
theorem scBy : FnScope ["entries", "name", "_"] ["entries"] (defScope sBy) := ⟨rfl, rfl, rfl, by decide +kernel, rfl, by decide +kernel, by decide +kernel⟩
theorem ok_by {fd : FuncData} (F : Fun K "by_names" "by_names" sBy fBy fd) (hc : fd.code = .ref c0) (T : TxtS K mg fBy) (TB : TabB base mg c0 P0) : FnOk P w K mg base CX0 2 fBy fd ["entries"] (spBy K P0) := by
  have nd := scBy.nd
  refine fun_okC F hc scBy (fun vs H Q E h => ?_) (fun A outer s H vs Q E hr h => ?_)
  · obtain ⟨L, bs, rfl, _⟩ := h
    rfl
  · obtain ⟨L, bs, rfl, hT, hL, hl, hP, k⟩ := h
    refine ⟨_, (pss_cons (ps_if (pt_not (pt_val (pe_callB (cr_all rfl) (by rfl) T.m_all (by decide +kernel) (pa_cons (pe_lc (own := [("name", 1), ("_", 2)]) (g := gTup K 2 (gCons (gName 1) (gCons (gName 2) gNil))) (te := tCB (rIsi K) (tCons (tVar 1) (tCons (tC (V.ty "str")) tNil))) rfl nd (pi_list (pv 0)) (blkOk_by (N := ["entries", "name", "_"]) (sc := defScope sBy) (by decide +kernel)) (fun _ _ _ _ _ => (pg_tup (by rfl) (pgs_cons (pg_name (i := 1) nd rfl (Or.inl rfl)) (pgs_cons (pg_name (i := 2) nd rfl (Or.inl rfl)) pgs_nil)))) (fun _ _ _ _ _ => pts_nil) (fun _ _ _ _ _ => (pe_callB call_isi (by rfl) T.m_isinstance (by decide +kernel) (pa_cons (pv 1) (pa_cons (pe_bltn (v := .ty "str") (by rfl) T.m_str (by decide +kernel) rfl) pa_nil))))) pa_nil)))) (pss_one (ps_ret (pe_callTy call_tuple_of (by rfl) T.m_tuple (by decide +kernel) (pa_cons (pv 0) pa_nil)))) pss_nil)
  (pss_one (ps_ret (pe_callTy call_tuple_ofP (by rfl) T.m_tuple (by decide +kernel) (pa_cons (pe_sortBy (T := [(P0, qBy)]) (q := qBy) (pv 0) (hu64 hr) (hd8 hr) (by rfl) T.m_sorted TB rfl rfl (by simp) (by simp) rfl rfl (by decide) (by intros; rfl)) pa_nil))))), ?_⟩
    refine ⟨_, rfl, L, rfl, ⟨_, hL⟩, fun D hD => ?_⟩
    have hf : ∀ b : V × Str, ∃ r, b ∈ bs → ∃ t, b.1 = .ref t ∧ SqT K H t [.str b.2, r] := fun b => by
      by_cases hb : b ∈ bs
      · obtain ⟨t, r, h1, h2⟩ := hP b hb
        exact ⟨r, fun _ => ⟨t, h1, h2⟩⟩
      · exact ⟨.non, fun q => absurd q hb⟩
    obtain ⟨f, hf⟩ := Classical.skolem.mp hf
    refine lc_pair (K := K) (walk_list (K := K) (a := L)) (i := 1) (j := 2) (by decide) (bs.map fun b => (V.str b.2, f b)) (by rw [List.length_map, List.length_map]) (fun _ => true) (fun _ => V.bl true) (fun i x v h1 h2 => ?_) (by rw [List.length_map]; exact hl) hD (fun H' s => Same.seq s hL) (fun i v H' R _ s hR => hR _ (Same.refl _)) (fun i v H' R h _ s hR => ?_) (fun H1 s1 e1 => ?_)
    · rw [List.getElem?_map] at h1 h2
      cases e : bs[i]? with
      | none => rw [e] at h2; cases h2
      | some b =>
        rw [e] at h1 h2
        cases Option.some.inj h1
        cases Option.some.inj h2
        exact hf b (List.mem_of_getElem? e)
    · rw [List.getElem?_map] at h
      cases e : bs[i]? with
      | none => rw [e] at h; cases h
      | some b =>
        rw [e] at h
        cases Option.some.inj h
        exact ⟨_, rfl, _, _, _, _, true, rfl, .ty _, .base (.str b.2), rfl, hR _ (Same.refl _)⟩
    · have e2 : ((bs.map fun b => (V.str b.2, f b)).filter (fun _ => true)).map (fun _ => V.bl true) = (bs.map fun _ => true).map V.bl := by
        rw [List.filter_eq_self.mpr (fun _ _ => rfl), List.map_map, List.map_map]
        rfl
      rw [e2] at e1
      have hall : (bs.map fun _ => true).all id = true := by rw [List.all_map, List.all_eq_true]; exact fun _ _ => rfl
      refine ⟨D, bs.map fun _ => true, rfl, SqL.of e1, _, rfl, ?_⟩
      rw [hall]
      refine iteF ?_
      refine ⟨L, rfl, bs, hT.ext s1, Same.seq s1 hL, fun b hb => (hP.ext (ExtN.same s1)) b hb |>.imp fun t h => h.imp' (fun r => [r]) fun r h => h, fun p H2 e2 t2 hp => ⟨p, _, rfl, SqL.of hp, fun E o hE ho hoc => ?_⟩⟩
      exact k _ E ((ExtN.same s1).trans (e2.trans (extN_laid hE))) (tabs_laid t2 hE) ⟨o, upd_same, ho, hoc⟩
/-! ### folders are made -/
def ffV (o : V) (E : Addr) : List (Str × V) := putF "entries" (.ref E) (putF "owner" o [])
/-- entries come as tuples or lists of two -/
def EntsIn (K : PySem.W.Frag) (H : Hp) (xs : List V) (es : List (Str × V)) : Prop := xs.length = es.length ∧ ∀ (i : Nat) (x : V) (e : Str × V), xs[i]? = some x → es[i]? = some e → ∃ a, x = .ref a ∧ (SqT K H a [.str e.1, e.2] ∨ SqL K H a [.str e.1, e.2])
end
end NW

set_option maxRecDepth 100000
set_option maxHeartbeats 400000
/-! a comprehension whose items are told by what is true of each (Px), made step by step (S), from H1 on (R) -/
namespace NG
open PySem L2
theorem lc_rel {J : It} {xs : List V} {G : Hp → Prop} (w : Walk J xs.length G (YAt xs)) {te : TE} {i : Nat} {σ : St} {H1 : Hp} {D : Addr} {Q : Hp → Prop} (R : Hp → Prop) (S : Hp → Hp → Prop) (Px : Nat → V → Hp → Prop) (hx : xs.length < sizeLine) (h0 : R (L2.upd H1 D (.lst [])))
    (hG : ∀ H, R H → G H) (hS1 : ∀ H H', R H → S H H' → R H') (hS2 : ∀ H H' acc, R H → S H H' → H D = some (.lst acc) → H' D = some (.lst acc)) (hS3 : ∀ k y H H', S H H' → Px k y H → Px k y H')
    (hU : ∀ H acc y, R H → H D = some (.lst acc) → R (L2.upd H D (.lst (acc ++ [y])))) (hP : ∀ k y H acc acc', H D = some (.lst acc) → Px k y H → Px k y (L2.upd H D (.lst acc')))
    (he : ∀ (k : Nat) (x : V) (H : Hp) (Rk : V → Hp → Prop), xs[k]? = some x → R H → (∀ y H', S H H' → Px k y H' → Rk y H') → te ((wipe σ [i]).set i (some x)) H Rk)
    (hd : ∀ H ys, R H → H D = some (.lst ys) → ys.length = xs.length → (∀ k y, ys[k]? = some y → Px k y H) → Q H) :
    ∃ W : Nat → Nat → Hp → Prop, (∃ m, W 0 m (L2.upd H1 D (.lst []))) ∧ ∀ k m H, W k m H →
      (J.stop k H ∧ Q H) ∨ (J.go k H ∧ ∃ Nx : Hp → Prop, (∀ H', Nx H' → ∃ m', m' < m ∧ W (k + 1) m' H') ∧ ∀ x H', J.yld k H x H' → gName i x (wipe σ [i]) H' fun σ2 H2 => wipe σ2 [i] = wipe σ [i] ∧ tYes σ2 H2 fun b H3 =>
        if b = true then te σ2 H3 fun y H4 => ∃ acc, H4 D = some (.lst acc) ∧ acc.length < sizeLine ∧ Nx (L2.upd H4 D (.lst (acc ++ [y]))) else Nx H3) := by
  refine lc_it w (fun k H => R H ∧ ∃ acc, H D = some (.lst acc) ∧ acc.length = k ∧ ∀ j y, acc[j]? = some y → Px j y H) ⟨h0, [], upd_same, rfl, fun j y h => by cases h⟩ (fun _ H _ h => hG H h.1) ?_ ?_
  · rintro k x H H' hk ⟨r, acc, eD, el, hx'⟩ ⟨rfl, hxk⟩
    refine ⟨?_, ?_⟩
    · show List.set (List.set (List.set σ i none) i _) i none = List.set σ i none
      rw [List.set_set, List.set_set]
    · refine he k x _ _ hxk r (fun y H4 s p => ?_)
      have eD4 := hS2 _ _ _ r s eD
      refine ⟨acc, eD4, by omega, hU _ _ _ (hS1 _ _ r s) eD4, acc ++ [y], upd_same, by rw [List.length_append, el]; rfl, fun j z hz => ?_⟩
      refine hP j z _ _ _ eD4 ?_
      by_cases hj : j < acc.length
      · rw [List.getElem?_append_left hj] at hz
        exact hS3 _ _ _ _ s (hx' j z hz)
      · have hl := (List.getElem?_eq_some_iff.mp hz).1
        rw [List.length_append, List.length_singleton] at hl
        have ej : j = acc.length := by omega
        subst ej
        rw [List.getElem?_append_right (Nat.le_refl _), Nat.sub_self] at hz
        cases Option.some.inj hz
        rw [el]
        exact p
  · rintro H ⟨r, acc, eD, el, hx'⟩
    exact hd H acc r eD el hx'
end NG

set_option maxRecDepth 100000
set_option maxHeartbeats 400000
namespace NW
open PySem L2 NG TR LamX
/-- entries by ascending names, equal ones in their order -/
def leE {α : Type} (x y : Str × α) : Bool := decide (x.1.cps.toList ≤ y.1.cps.toList)
def srtE {α : Type} (es : List (Str × α)) : List (Str × α) := es.mergeSort leE
theorem srt_map {α β : Type} (f : α → β) (es : List (Str × α)) : srtE (es.map fun e => (e.1, f e.2)) = (srtE es).map fun e => (e.1, f e.2) :=
  (List.map_mergeSort (r := leE) (s := leE) (f := fun e : Str × α => (e.1, f e.2)) (fun _ _ _ _ => rfl)).symm
theorem srt_zip {α : Type} {ys : List V} {es : List (Str × α)} (hl : ys.length = es.length) : ∃ zs : List (V × (Str × α)), (∀ z ∈ zs, ∃ i : Nat, ys[i]? = some z.1 ∧ es[i]? = some z.2) ∧ zs.map (·.2) = srtE es ∧
    (((ys.zip es).map fun z => (z.1, z.2.1)).mergeSort leStr).map (·.1) = zs.map (·.1) ∧ ((ys.zip es).map fun z => (z.1, z.2.1)).map (·.1) = ys := by
  refine ⟨(ys.zip es).mergeSort fun a b => leE a.2 b.2, fun z hz => ?_, ?_, ?_, ?_⟩
  · have hm : z ∈ ys.zip es := (List.mergeSort_perm _ _).mem_iff.mp hz
    obtain ⟨i, hi⟩ := List.getElem?_of_mem hm
    rw [List.getElem?_zip_eq_some] at hi
    exact ⟨i, hi⟩
  · rw [List.map_mergeSort (s := leE) (fun _ _ _ _ => rfl), List.map_snd_zip (by omega)]
    rfl
  · rw [← List.map_mergeSort (r := fun a b => leE a.2 b.2) (fun _ _ _ _ => rfl), List.map_map]
    rfl
  · rw [List.map_map]
    show (ys.zip es).map (fun z => z.1) = ys
    exact List.map_fst_zip (by omega)
/-- all but p and the tables -/
def ButN (p : Addr) (H H' : Hp) : Prop := ∀ b o, H b = some o → b ≠ p → (∀ ps, o ≠ .tbl ps) → H' b = some o
/-- what tuple(..) asks -/
def rTupOf (K : PySem.W.Frag) : List V → Hp → VK → Prop := fun vs H Q => ∃ (p : Addr) (ys : List V), vs = [.ref p] ∧ ((SqL K H p ys ∧ ∀ l, H l = none → Q (.ref l) (upd H l (.tup ys))) ∨ SqT K H p ys ∧ Q (.ref p) H)
def spFol (K : PySem.W.Frag) (C P0 : Addr) : Sp := fun vs H Q _ => ∃ (p dx : Addr) (o : V) (L : Addr) (xs : List V) (es : List (Str × V)), vs = [.ref p, o, .ref L] ∧ H p = some (.ins C dx []) ∧ Tabs [(P0, qBy)] H ∧ SqL K H L xs ∧ EntsIn K H xs es ∧ es.length < sizeLine ∧
  ∀ (H' : Hp) (E : Addr) (qs : List V), ButN p H H' → Tabs [(P0, qBy)] H' → H' p = some (.ins C dx (ffV o E)) → PlT H' E qs → qs.length = es.length → (∀ (i : Nat) (q : V) (e : Str × V), qs[i]? = some q → (srtE es)[i]? = some e → ∃ a, q = .ref a ∧ SqT K H' a [.str e.1, e.2]) → Q .non H'
section
variable {P : Program} {w : World} {K : PySem.W.Frag} {mg : Str → Option Value} {base : Heap} {C f fBy P0 : Addr}
theorem scFolI : FnScope ["self", "owner", "entries", "entry"] ["self", "owner", "entries"] (defScope sFolI) := ⟨rfl, rfl, rfl, by decide +kernel, rfl, by decide +kernel, by decide +kernel⟩
theorem ok_folI {fd fdB : FuncData} (F : Fun K "__init__" "Folder.__init__" sFolI f fd) (T : TxtS K mg fBy) (cl : Cls K C) (h1 : NoAttr K C "owner") (h2 : NoAttr K C "entries") (GB : FnOk P w K mg base CX0 2 fBy fdB ["entries"] (spBy K P0)) (bB : Binds K fdB ["entries"] []) :
    FnOk P w K mg base CX0 3 f fd ["self", "owner", "entries"] (spFol K C P0) := by
  have nd := scFolI.nd
  refine F.ok scFolI (fun vs H Q E h => ?_) (fun cdv A outer s H vs Q E hr h => ?_)
  · obtain ⟨p, dx, o, L, xs, es, rfl, _⟩ := h
    rfl
  · obtain ⟨p, dx, o, L, xs, es, rfl, hp, hT, hL, hE, hl, k⟩ := h
    have hr1 : Room 2 _ := hr
    refine ⟨_, (pss_cons (ps_fld (pv 0) (pv 1) rfl)
  (pss_one (ps_fld (pv 0) (pe_call GB hr1 (by rfl) T.g_by T.kp_by bB .nil pass0 (pa_cons (pe_lc (own := [("entry", 3)]) (te := tCB (rTupOf K) (tCons (tVar 3) tNil)) rfl nd (pi_list (pv 2)) (blkOk_by (N := ["self", "owner", "entries", "entry"]) (sc := defScope sFolI) (by decide +kernel)) (fun _ _ _ _ _ => (pg_name (i := 3) nd rfl (Or.inl rfl))) (fun _ _ _ _ _ => pts_nil) (fun _ _ _ _ _ => (pe_callTy call_tuple_of (by rfl) T.m_tuple (by decide +kernel) (pa_cons (pv 3) pa_nil)))) pa_nil)) rfl))), ?_⟩
    refine ⟨_, rfl, _, rfl, p, C, dx, _, rfl, hp, cl, h1, (by show 0 < 1000; decide), ?_⟩
    have n1 : ∀ u : HO, (∀ C dx fs, u ≠ .ins C dx fs) → ∀ b, H b = some u → b ≠ p := fun u hu b e => ne_of e hp (hu C dx [])
    have eB : ButN p H (upd H p (.ins C dx (putF "owner" o []))) := fun b u e n _ => by rw [upd_ne n]; exact e
    have bT : But p H (upd H p (.ins C dx (putF "owner" o []))) := (But.refl p H).upd
    have hL1 : SqL K (upd H p (.ins C dx (putF "owner" o []))) L xs := by
      rcases hL with (h | ⟨u, h⟩) | h
      · exact .inl (.inl (by rw [upd_ne (n1 _ (fun _ _ _ z => by cases z) _ h)]; exact h))
      · exact .inl (.inr ⟨u, by rw [upd_ne (n1 _ (fun _ _ _ z => by cases z) _ h)]; exact h⟩)
      · exact .inr h
    have hE1 : EntsIn K (upd H p (.ins C dx (putF "owner" o []))) xs es := ⟨hE.1, fun i x e a b => by
      obtain ⟨t, h1, h2⟩ := hE.2 i x e a b
      refine ⟨t, h1, h2.imp (fun h2 => But.sqT hp bT h2) fun h2 => ?_⟩
      rcases h2 with (h | ⟨u, h⟩) | h
      · exact .inl (.inl (bT _ _ h (n1 _ (fun _ _ _ z => by cases z) _ h)))
      · exact .inl (.inr ⟨u, bT _ _ h (n1 _ (fun _ _ _ z => by cases z) _ h)⟩)
      · exact .inr h⟩
    have hT1 : Tabs [(P0, qBy)] (upd H p (.ins C dx (putF "owner" o []))) := fun t ht => by
      obtain ⟨ps, a1, a2, a3⟩ := hT t ht
      refine ⟨ps, by rw [upd_ne (ne_of a1 hp (fun z => by cases z))]; exact a1, a2, fun pos cv hc => ?_⟩
      obtain ⟨c, e1, e2⟩ := a3 pos cv hc
      exact ⟨c, e1, by rw [upd_ne (ne_of e2 hp (fun z => by unfold CodeO at z; cases z))]; exact e2⟩
    have hp1 : (upd H p (.ins C dx (putF "owner" o []))) p = some (.ins C dx (putF "owner" o [])) := upd_same
    generalize upd H p (.ins C dx (putF "owner" o [])) = H1 at eB hL1 hE1 hT1 hp1 ⊢
    refine ⟨_, rfl, L, rfl, ⟨_, hL1⟩, fun D hD => ?_⟩
    refine lc_rel (walk_list (K := K) (a := L)) (R := fun H' => Same H1 H') (S := Same) (Px := fun i y H' => ∃ e a, es[i]? = some e ∧ y = .ref a ∧ SqT K H' a [.str e.1, e.2]) (by rw [hE1.1]; exact hl) (NG.Same.upd hD) (fun H' s => Same.seq s hL1) (fun _ _ a b => a.trans b) (fun _ _ _ _ s e => s _ _ e)
      (fun i y _ _ s ⟨e, a, h1, h2, h3⟩ => ⟨e, a, h1, h2, Same.sqT s h3⟩) (fun H' acc y s e b u hb => ?_) (fun i y H' acc acc' eD ⟨e, a, h1, h2, h3⟩ => ⟨e, a, h1, h2, ?_⟩) (fun i x H' Rk hx s hR => ?_) (fun H2 ys s2 e2 hy hys => ?_)
    · rw [upd_ne (ne_of_none hb hD)]
      exact s _ _ hb
    · rcases h3 with (h | ⟨u, h⟩) | h
      · exact .inl (.inl (by rw [upd_ne (ne_of h eD (fun z => by cases z))]; exact h))
      · exact .inl (.inr ⟨u, by rw [upd_ne (ne_of h eD (fun z => by cases z))]; exact h⟩)
      · exact .inr h
    · have hi : i < es.length := by rw [← hE1.1]; exact (List.getElem?_eq_some_iff.mp hx).1
      have he : es[i]? = some es[i] := List.getElem?_eq_getElem hi
      obtain ⟨a, rfl, h⟩ := hE1.2 i x _ hx he
      rcases h with h | h
      · exact ⟨_, rfl, a, _, rfl, .inr ⟨Same.sqT s h, hR _ _ (Same.refl _) ⟨_, a, he, rfl, Same.sqT s h⟩⟩⟩
      · exact ⟨_, rfl, a, _, rfl, .inl ⟨Same.seq s h, fun l hl => hR _ _ (NG.Same.upd hl) ⟨_, l, he, rfl, SqT.of upd_same⟩⟩⟩
    · rw [hE1.1] at hy
      obtain ⟨zs, z1, z2, z3, z4⟩ := srt_zip hy
      refine ⟨D, (ys.zip es).map fun z => (z.1, z.2.1), rfl, hT1.ext s2, ?_, ?_, ?_, fun H3 E e3 t3 hE3 => ?_⟩
      · rw [z4]; exact SqL.of e2
      · rw [List.length_map, List.length_zip]; omega
      · intro b hb
        obtain ⟨z, hz, rfl⟩ := List.mem_map.mp hb
        obtain ⟨i, hi⟩ := List.getElem?_of_mem hz
        rw [List.getElem?_zip_eq_some] at hi
        obtain ⟨e, a, h1, h2, h3⟩ := hys i _ hi.1
        rw [hi.2] at h1
        cases Option.some.inj h1
        exact ⟨a, _, h2, h3⟩
      · rw [z3] at hE3
        have hp3 : H3 p = some (.ins C dx (putF "owner" o [])) := e3 _ _ (s2 _ _ hp1) (fun _ z => by cases z)
        refine ⟨_, rfl, p, C, dx, _, rfl, hp3, cl, h2, (by show 1 < 1000; decide), ?_⟩
        have nE : E ≠ p := let ⟨_, e, _⟩ := hE3; ne_of e hp3 (fun z => by cases z)
        have t4 : Tabs [(P0, qBy)] (upd H3 p (.ins C dx (ffV o E))) := fun t ht => by
          obtain ⟨ps, a1, a2, a3⟩ := t3 t ht
          refine ⟨ps, by rw [upd_ne (ne_of a1 hp3 (fun z => by cases z))]; exact a1, a2, fun pos cv hc => ?_⟩
          obtain ⟨c, e1, e2⟩ := a3 pos cv hc
          exact ⟨c, e1, by rw [upd_ne (ne_of e2 hp3 (fun z => by unfold CodeO at z; cases z))]; exact e2⟩
        refine k _ E (zs.map (·.1)) (fun b u e n q => ?_) t4 upd_same (hE3.keep fun o e => by rw [upd_ne nE]; exact e) ?_ (fun i q e hq he => ?_)
        · rw [upd_ne n]
          exact e3 _ _ (s2 _ _ (eB b u e n q)) q
        · have := congrArg List.length z2
          rw [List.length_map] at this
          rw [List.length_map, this]
          unfold srtE
          rw [List.length_mergeSort]
        · rw [← z2, List.getElem?_map] at he
          rw [List.getElem?_map] at hq
          cases ez : zs[i]? with
          | none => rw [ez] at hq; cases hq
          | some z =>
            rw [ez] at hq he
            cases Option.some.inj hq
            cases Option.some.inj he
            obtain ⟨j, j1, j2⟩ := z1 z (List.mem_of_getElem? ez)
            obtain ⟨e', a, h1, h2, h3⟩ := hys j _ j1
            rw [j2] at h1
            cases Option.some.inj h1
            refine ⟨a, h2, ?_⟩
            have h4 := ExtN.sqT e3 h3
            rcases h4 with (h | ⟨u, h⟩) | h
            · exact .inl (.inl (by rw [upd_ne (ne_of h hp3 (fun z => by cases z))]; exact h))
            · exact .inl (.inr ⟨u, by rw [upd_ne (ne_of h hp3 (fun z => by cases z))]; exact h⟩)
            · exact .inr h
end
end NW

set_option maxRecDepth 100000
set_option maxHeartbeats 400000
namespace NW
open PySem L2 NG TR LamX
def srtN : Nd → Nd
  | .fol o es => .fol o (srtE es)
  | nd => nd
theorem putF_ffl (o : Int) (E : Addr) : ffl o E = ffV (.int o) E := rfl
/-- the makers of the four classes -/
structure Makers (K : PySem.W.Frag) (cs fs : Nat → Addr) : Prop where
  make : ∀ i, i < 4 → Mk K (cs i) (fs i)
theorem new_ext {H : Hp} {x dx C : Addr} (hx : H x = none) (hd : H dx = none) : Same H (upd (upd H dx (.own x)) x (.ins C dx [])) := fun b o e => by
  rw [upd_ne (ne_of_none e hx), upd_ne (ne_of_none e hd)]
  exact e
section
variable {P : Program} {w : World} {K : PySem.W.Frag} {mg : Str → Option Value} {base : Heap} {f P0 : Addr} {cs fs : Nat → Addr}
end
end NW


set_option maxRecDepth 100000
set_option maxHeartbeats 400000
namespace NW
open PySem L2 NG TR LamX
/-! ### made trees are well formed as the drawn ones are -/
theorem srt_perm {α : Type} (es : List (Str × α)) : (srtE es).Perm es := List.mergeSort_perm _ _
theorem srtN_owner (nd : Nd) : (srtN nd).owner = nd.owner := by cases nd <;> rfl
theorem srtN_gone (nd : Nd) : (srtN nd).isGone = nd.isGone := by cases nd <;> rfl
theorem srtN_fol (nd : Nd) : (srtN nd).isFol = nd.isFol := by cases nd <;> rfl
theorem srtN_ents (nd : Nd) : (srtN nd).ents = srtE nd.ents := by
  have e : ([] : List (Str × Nat)) = srtE [] := by simp [srtE]
  cases nd with
  | fol o es => rfl
  | _ => exact e
theorem srtN_cls (nd : Nd) : clsI (srtN nd) = clsI nd := by cases nd <;> rfl
theorem get_srt {nds : List Nd} {i : Nat} {x : Nd} (h : (nds.map srtN)[i]? = some x) : ∃ nd, nds[i]? = some nd ∧ x = srtN nd := by
  rw [List.getElem?_map] at h
  cases e : nds[i]? with
  | none => rw [e] at h; cases h
  | some nd => rw [e] at h; exact ⟨nd, rfl, (Option.some.inj h).symm⟩
theorem srt_get {nds : List Nd} {i : Nat} {nd : Nd} (h : nds[i]? = some nd) : (nds.map srtN)[i]? = some (srtN nd) := by rw [List.getElem?_map, h]; rfl
theorem cnt_srt (nds : List Nd) (k : Nat) : cnt (nds.map srtN) k = cnt nds k := by
  induction nds with
  | nil => rfl
  | cons x r ih =>
    rw [List.map_cons, cnt_cons, cnt_cons, ih, srtN_ents]
    congr 1
    unfold cntE
    exact (srt_perm _).countP_eq _
theorem wf_srt {LT PL : Str → Prop} {nds : List Nd} (b : WF LT PL nds) : WF LT PL (nds.map srtN) := by
  refine ⟨⟨?_, fun i x h => ?_, fun i x h e he => ?_, fun i x h => ?_, fun i o t h => ?_, fun i o ab h => ?_⟩, fun k x hk h f => ?_⟩
  · obtain ⟨o, es, h⟩ := b.base.root
    exact ⟨o, srtE es, srt_get h⟩
  · obtain ⟨nd, h1, rfl⟩ := get_srt h
    rw [srtN_owner]
    exact b.base.own i nd h1
  · obtain ⟨nd, h1, rfl⟩ := get_srt h
    rw [srtN_ents] at he
    obtain ⟨h2, h3, nd', h4, h5⟩ := b.base.ent i nd h1 e ((srt_perm _).mem_iff.mp he)
    exact ⟨h2, h3, srtN nd', srt_get h4, by rw [srtN_gone]; exact h5⟩
  · obtain ⟨nd, h1, rfl⟩ := get_srt h
    have := b.base.uniq i nd h1
    rw [srtN_ents]
    exact ⟨((srt_perm nd.ents).map (fun e : Str × Nat => e.1)).nodup_iff.mpr this.1, by rw [(srt_perm _).length_eq]; exact this.2⟩
  · obtain ⟨nd, h1, e⟩ := get_srt h
    cases nd with
    | lnk o' t' => cases e; exact b.base.lnk i _ _ h1
    | _ => cases e
  · obtain ⟨nd, h1, e⟩ := get_srt h
    cases nd with
    | gon o' ab' =>
      cases e
      obtain ⟨h2, o2, es, h3⟩ := b.base.gon i _ _ h1
      exact ⟨h2, o2, srtE es, srt_get h3⟩
    | _ => cases e
  · obtain ⟨nd, h1, rfl⟩ := get_srt h
    rw [cnt_srt]
    exact b.once k nd hk h1 (by rw [← srtN_fol]; exact f)
end NW

set_option maxRecDepth 100000
set_option maxHeartbeats 400000
/-! set(xs) of a list of keys of any one kind, how many there are; len(set(xs)) of texts -/
namespace NG
open PySem PySem.Spec PyProof.Rows L2
/-- the different ones of a list -/
def diff1 {α : Type} [DecidableEq α] (a : List α) (x : α) : List α := if x ∈ a then a else x :: a
def diffs {α : Type} [DecidableEq α] (xs : List α) : List α := xs.foldl diff1 []
theorem diffs_snoc {α : Type} [DecidableEq α] (xs : List α) (x : α) : diffs (xs ++ [x]) = diff1 (diffs xs) x := by unfold diffs; rw [List.foldl_append]; rfl
theorem diffs_le {α : Type} [DecidableEq α] (xs : List α) : (diffs xs).length ≤ xs.length := by
  suffices h : ∀ (ys a : List α), (ys.foldl diff1 a).length ≤ a.length + ys.length by
    have := h xs []
    simpa [diffs] using this
  intro ys
  induction ys with
  | nil => intro a; simp
  | cons y r ih =>
    intro a
    rw [List.foldl_cons]
    refine Nat.le_trans (ih _) ?_
    unfold diff1
    split <;> simp only [List.length_cons] <;> omega
theorem diffs_nodup {α : Type} [DecidableEq α] {xs : List α} (h : xs.Nodup) : (diffs xs).length = xs.length := by
  suffices q : ∀ (ys a : List α), ys.Nodup → (∀ y ∈ ys, y ∉ a) → (ys.foldl diff1 a).length = a.length + ys.length by
    have := q xs [] h (by simp)
    simpa [diffs] using this
  intro ys
  induction ys with
  | nil => intro a _ _; simp
  | cons y r ih =>
    intro a hn ha
    rw [List.nodup_cons] at hn
    rw [List.foldl_cons]
    have e : diff1 a y = y :: a := by unfold diff1; rw [if_neg (ha y List.mem_cons_self)]
    rw [e, ih _ hn.2 (fun z hz q => ?_)]
    · simp only [List.length_cons]; omega
    · rcases List.mem_cons.mp q with rfl | q
      · exact hn.1 hz
      · exact ha z (List.mem_cons_of_mem _ hz) q
section
variable {prog : Program} {w : World} {A : Around} {T : Type} [DecidableEq T] {kd : KeyKind prog w T} {it : Addr} {fp wr : List Addr} {G : Array GenState → Array GenState → Prop} {Pv : Nat → Value → Prop} {St : Nat → Shared → Prop} {R : Result → Shared → Prop}
/-- the set at c holds the first i keys -/
def Holds (kd : KeyKind prog w T) (h : Heap) (c : Addr) (ks : List T) (i : Nat) : Prop := h.SetOf kd c (fun k => decide (k ∈ diffs (ks.take i))) (diffs (ks.take i)).length
theorem Holds.moved {h h' : Heap} {c : Addr} {ks : List T} {i : Nat} (x : Holds kd h c ks i) (e : ∀ o, h.get? c = some o → h'.get? c = some o) : Holds kd h' c ks i := by
  obtain ⟨o, y⟩ := x
  obtain ⟨es, ep, t, ho, y⟩ := y
  exact ⟨o, es, ep, t, e o ho, y⟩
theorem setOf_eq {h : Heap} {c : Addr} {S S2 : T → Bool} {m m2 : Nat} (x : h.SetOf kd c S m) (e : S = S2) (n : m = m2) : h.SetOf kd c S2 m2 := e ▸ n ▸ x
theorem fill_loop {ks : List T} (W : WalksS prog w A.in1 it fp wr G ks.length Pv St) (c : Addr) (hc : c ∉ fp) (hv : ∀ (i : Nat) (v : Value) (k : T), Pv i v → ks[i]? = some k → kd.is k v = true ∧ v.scannable = true) (hb : ks.length + 1 < scanBound) :
    ∀ (left i : Nat) (s : Shared), ks.length = i + left → St i s → Holds kd s.heap c ks i → (∀ s', Moved (c :: wr) G s s' → Holds kd s'.heap c ks ks.length → R (.ok (.ret .none)) s') →
      codeAny (model prog w) A (.builtin "set.update.loop" ⟨[.ref c, .ref it], []⟩) R s := by
  have cw : c ∉ wr := fun z => hc (W.sub _ z)
  have up : ∀ b, b ∈ wr → b ∈ c :: wr := fun b z => List.mem_cons_of_mem c z
  intro left
  induction left with
  | zero =>
    intro i s hi st hs k
    obtain rfl : ks.length = i := by omega
    refine codeAny_builtin F.entry_set_update_loop ?_
    rw [Around.under_plainId F.plain_set_update_loop _]
    refine wpAny_bind (m := pyNext (.ref it)) (W.done s _ _ st fun s1 m1 => wpAny_pure (k s1 (m1.mono up) (hs.moved fun o e => m1.heap c o cw e)))
  | succ left ih =>
    intro i s hi st hs k
    have il : i < ks.length := by omega
    have ek : ks[i]? = some ks[i] := List.getElem?_eq_getElem il
    generalize ks[i] = key at ek
    refine codeAny_builtin F.entry_set_update_loop ?_
    rw [Around.under_plainId F.plain_set_update_loop _]
    refine wpAny_bind (m := pyNext (.ref it)) (W.item i s _ _ il st fun v s1 pv st1 m1 => ?_)
    obtain ⟨vk, vs⟩ := hv i v key pv ek
    have h1 : Holds kd s1.heap c ks i := hs.moved fun o e => m1.heap c o cw e
    refine wpAny_bind (m := holding [v] (setAdd c v)) (wpAny_holding ?_)
    unfold setAdd
    refine wpAny_holding (wpAny_bind (kd.pyHash (k := key) vk ?_))
    have ll : (diffs (ks.take i)).length + 1 < scanBound := by
      have a1 := diffs_le (ks.take i)
      have a2 := List.length_take_le i ks
      omega
    refine wpAny_setAddHashed_of (knd := kd) (s := { s1 with toks := s1.toks + 1 }) vk vs h1 ll fun h2 sb y => ?_
    have et : ks.take (i + 1) = ks.take i ++ [key] := by rw [List.take_add_one, ek]; rfl
    have h3 : Holds kd h2 c ks (i + 1) := by
      unfold Holds
      rw [et, diffs_snoc]
      refine setOf_eq y (funext fun z => ?_) ?_
      · unfold diff1
        by_cases q : key ∈ diffs (ks.take i)
        · rw [if_pos q]
          by_cases e : z = key
          · subst e; simp [q]
          · simp [e]
        · rw [if_neg q, Bool.eq_iff_iff]
          simp [Bool.or_eq_true, List.mem_cons, or_comm]
      · unfold diff1
        by_cases q : key ∈ diffs (ks.take i)
        · simp [q]
        · simp [q]
    refine wpAny_pure ⟨plainId_quiet F.plain_set_update_loop _, ih (i + 1) _ (by omega) (W.frame _ s1 _ _ st1 (Nat.le_succ _) fun b q o e => ?_) h3 fun s4 m4 h4 => k s4 (Moved.trans W.gtrans ((m1.mono up).then_heap (Nat.le_succ _) fun b o q e => ?_) m4) h4⟩
    · rw [sb.2 b fun z => hc (z ▸ q)]; exact e
    · rw [sb.2 b fun z => q (z ▸ List.mem_cons_self)]; exact e
end
section
variable {prog : Program} {w : World} {A : Around} {E : Value → Shared → Prop} {s : Shared} {T : Type} [DecidableEq T] {kd : KeyKind prog w T}
abbrev setO (led : Bool) : Obj := { cls := .type "set", dict := none, data := .set #[] 0 (.fresh 0 0 led) }
set_option maxHeartbeats 3200000 in
theorem set_call {l : Addr} {items : Array Value} {ks : List T} {Q : Value → Shared → Prop} (hh : A.handled = none) (hl : s.heap.IsList l items) (hk : items.size = ks.length)
    (hv : ∀ (i : Nat) (v : Value) (k : T), items[i]? = some v → ks[i]? = some k → kd.is k v = true ∧ v.scannable = true) (hb : ks.length + 1 < scanBound)
    (fin : ∀ (g : Heap) (tk : Nat), Holds kd g s.heap.objs.size ks ks.length → (∀ b o, b < s.heap.objs.size → s.heap.get? b = some o → g.get? b = some o) → Q (.ref s.heap.objs.size) { s with heap := g, toks := tk }) :
    wpAny (model prog w) A (call (.type "set") [.ref l]) Q E s := by
  obtain ⟨c0, t0, mro0⟩ := PySem.F.called_set.mro
  have q1 := PySem.F.called_set.made
  have q2 := PySem.F.called_set.sub
  have q3 := PySem.F.called_set.notType
  have q4 := PySem.F.called_set.canCreate
  have q5 := PySem.F.typeCall_set_1 (.ref l)
  refine wpAny_call (codeAny_of_tree ?_)
  show wpAny _ _ (callAny (.type "set") _) _ _ _
  refine wpAny_pure ⟨Code.quiet_builtin _ (by decide +kernel), codeAny_builtin PySem.F.entry_type_call ?_⟩
  rw [Around.under_plain (weight_type_call_type "set" [.ref l] []) rfl]
  repeat (any_goals (first | assumption | wp_step))
  refine codeAny_mono (code_set_new_1 (.ref l) (E := E) (Q₁ := fun v s1 => ∃ led : Bool, v = .ref s.heap.objs.size ∧ s1 = { s with heap := s.heap.push (setO led) }) fun led => ⟨led, rfl, rfl⟩) fun r s1 hr => ?_
  match r, hr with
  | .ok (.ret v), hr =>
    obtain ⟨led, rfl, rfl⟩ := hr
    have g0 : (s.heap.push (setO led)).get? s.heap.objs.size = some (setO led) := Heap.get?_push_size _ rfl
    have ty : Shared.TypeIs { s with heap := s.heap.push (setO led) } (.ref s.heap.objs.size) "set" := ⟨_, g0, rfl⟩
    have q6 := PySem.F.called_set.init.lookup
    have q7 := PySem.F.called_set.init.bind (.ref s.heap.objs.size)
    repeat (any_goals (first | assumption | wp_step))
    refine codeAny_mono (codeAny_call_builtin (R := wants (fun u s2 => u = .none ∧ ∃ g tk, s2 = { s with heap := g, toks := tk } ∧ Holds kd g s.heap.objs.size ks ks.length ∧ (∀ b o, b < s.heap.objs.size → s.heap.get? b = some o → g.get? b = some o)) E)
      PySem.F.called_set.init.plain PySem.F.entry_set_init (check_set_init_1 ty ?_)) fun r2 s2 hr2 => ?_
    · obtain ⟨⟨lc, ld, lda, lsl⟩, ol, e1, n0, e2⟩ := hl
      simp only at e1 e2
      subst e1 e2
      have ol1 : (s.heap.push (setO led)).get? l = some { cls := .type "list", dict := ld, data := .seq items n0, slots := lsl } := Heap.get?_push_of_some _ ol
      have l1 : (s.heap.push (setO led)).IsList l items := ⟨_, ol1, rfl, n0, rfl⟩
      have q8 := PySem.F.sub_list_set
      have q9 := PySem.F.sub_list_frozenset
      have q10 : (Value.type "list" == Value.type "dict") = false := by decide
      unfold Builtin.«set.__init__» noKeywords Builtin.Frozenset.updateFrom
      generalize hit : pyIter = PI
      wp_walk
      subst hit
      refine wpAny_pyIter_list l1 (wpAny_bind (wpAny_runValue ?_))
      have lt := Heap.lt_size ol
      have sz : (s.heap.push (setO led)).objs.size = s.heap.objs.size + 1 := Heap.size_push ..
      have nl : l ≠ (s.heap.push (setO led)).objs.size := by rw [sz]; exact Nat.ne_of_lt (Nat.lt_succ_of_lt lt)
      have nc : s.heap.objs.size ∉ [(s.heap.push (setO led)).objs.size, l] := by
        rw [sz]
        simp only [List.mem_cons, List.not_mem_nil, or_false, not_or]
        exact ⟨Nat.ne_of_lt (Nat.lt_succ_self _), Nat.ne_of_gt lt⟩
      have Wl := (Walks.list (prog := prog) (w := w) (A := A.in1.in1.in1) (by simp [hh]) _ l nl items).toS
      rw [hk] at Wl
      refine fill_loop (kd := kd) (ks := ks) Wl s.heap.objs.size nc hv hb ks.length 0 _ (by omega) ⟨⟨_, Heap.get?_push_size _ rfl, rfl, rfl⟩, l1.push _⟩ ?_ fun s3 m3 h3 => ?_
      · refine setOf_eq ((setObjOf_fresh (knd := kd) led).setOf (Heap.get?_push_of_some _ g0) (by unfold scanBound; omega)) (funext fun z => ?_) rfl
        simp [diffs]
      · obtain ⟨g, g1, d1, tk, o1⟩ := s3
        obtain rfl : g1 = s.gens := m3.gens
        obtain rfl : d1 = s.drawn := m3.drawn
        obtain rfl : o1 = s.os := m3.os
        refine wpAny_pure (wpAny_pure (show _ from ⟨rfl, g, tk, rfl, h3, fun b o lb e => m3.heap b o ?_ (Heap.get?_push_of_some _ (Heap.get?_push_of_some _ e))⟩))
        simp only [List.mem_cons, List.not_mem_nil, or_false, not_or]
        exact ⟨Nat.ne_of_lt lb, by rw [sz]; exact Nat.ne_of_lt (Nat.lt_succ_of_lt lb)⟩
    · match r2, hr2 with
      | .ok (.ret u), hr2 =>
        obtain ⟨rfl, g, tk, rfl, hg, kp⟩ := hr2
        repeat (any_goals (first | assumption | wp_step))
        exact fin g tk hg kp
      | .ok .next, hr2 => exact hr2.elim
      | .ok .brk, hr2 => exact hr2.elim
      | .ok .cont, hr2 => exact hr2.elim
      | .error e, hr2 => exact hr2
  | .ok .next, hr => exact hr.elim
  | .ok .brk, hr => exact hr.elim
  | .ok .cont, hr => exact hr.elim
  | .error e, hr => exact hr
end
/-- len(set(xs)), xs a list of texts -/
def tLenSetS (K : PySem.W.Frag) (ta : TE) : TE := fun σ H Q => ta σ H fun x H1 => ∃ l, ∃ xs : List Str, x = .ref l ∧ SqL K H1 l (xs.map V.str) ∧ xs.length + 1 < scanBound ∧ Q (.int (diffs xs).length) H1
theorem pe_lenSetS {X : Cx} {a : Expr} {ta : TE} {p p2 q pos : Pos} (hc : X.calm = true) (g1 : Gl X "len") (m1 : X.mg "len" = none) (g2 : Gl X "set") (m2 : X.mg "set" = none) (ha : PE X a ta)
    (na : starEach [a] X.env = (false, eval a X.env) :: starEach [] X.env := by rfl) : PE X (.Call (.Name "len" p) [.Call (.Name "set" p2) [a] [] q] [] pos) (tLenSetS X.K ta) := by
  refine ⟨fun pins s σ H Q I h => ?_⟩
  refine Call_ (ld_blt I g1 m1 boot_len (callWith_builtin1 (args_cons (Call_ (ld_blt I g2 m2 boot_set ?_)) rfl) rfl rfl))
  refine callWith_type1 (args_cons (thn (ha.run pins s σ H _ I h) fun v s1 ⟨x, H1, I1, r1, l, xs, ex, hq, hb, k⟩ => args_nil ?_) na) na rfl
  subst ex
  cases r1
  obtain ⟨its, rv, pl, _⟩ := I1.list hq
  have len : its.toArray.size = xs.length := by rw [List.size_toArray, ← rv.length, List.length_map]
  refine set_call (kd := PySem.strKind X.prog X.w) (ks := xs) (I1.ok.hd hc) pl.isList len (fun i u k e1 e2 => ?_) hb fun g tk hs kp => args_nil ?_
  · obtain ⟨u', e3, t, rfl⟩ := rv.get (i := i) (x := V.str k) (by rw [List.getElem?_map, e2]; rfl)
    have : u = .str k t := by
      have e4 : its[i]? = some u := by simpa using e1
      rw [e3] at e4
      exact (Option.some.inj e4).symm
    subst this
    exact ⟨strKind_is _ _ _ _, rfl⟩
  · have I2 : Inv X pins σ H1 { s1 with heap := g, toks := tk } := I1.kept fun b o e => kp b o (Heap.lt_size e) e
    unfold Holds at hs
    rw [List.take_length] at hs
    obtain ⟨o, es, ep, t, ho, hex, hd, _, _, lt, hf, hn⟩ := hs
    refine call_len_set ho hex hd hf (by unfold scanBound at lt; omega) ⟨.int (diffs xs).length, H1, I2.tok _, ⟨_, by rw [hn]⟩, k⟩
end NG

set_option maxRecDepth 100000
set_option maxHeartbeats 400000
namespace NW
open PySem L2 NG TR LamX
abbrev sWE : Stmt := top 26
structure TxtW (K : PySem.W.Frag) (mg : Str → Option Value) (fMay fWE fStood fBad fOwner fWN : Addr) : Prop where
  m_set : mg "set" = none
  g_may : mg "may_be_entered" = some (.ref fMay)
  kp_may : PySem.W.keepIn K (.ref fMay) = true
  g_we : mg "wrong_entries" = some (.ref fWE)
  kp_we : PySem.W.keepIn K (.ref fWE) = true
  g_stood : mg "stood_in" = some (.ref fStood)
  kp_stood : PySem.W.keepIn K (.ref fStood) = true
  g_bad : mg "bad_place" = some (.ref fBad)
  kp_bad : PySem.W.keepIn K (.ref fBad) = true
  g_is_owner : mg "is_owner" = some (.ref fOwner)
  kp_is_owner : PySem.W.keepIn K (.ref fOwner) = true
  g_wn : mg "wrong_node" = some (.ref fWN)
  kp_wn : PySem.W.keepIn K (.ref fWN) = true
theorem pool_names : ∀ z, PL z → nameZ z = true ∧ z.length ≤ 12 := fun _ h => h
/-- a folder's entries in the heap -/
def EntsO (K : PySem.W.Frag) (H : Hp) (E : Addr) (ps : List V) (es : List (Str × Nat)) : Prop := SqT K H E ps ∧ ps.length = es.length ∧ ∀ (k : Nat) (p : V) (e : Str × Nat), ps[k]? = some p → es[k]? = some e → EntO K H p e
theorem EntsO.same {K : PySem.W.Frag} {H H' : Hp} {E : Addr} {ps : List V} {es : List (Str × Nat)} (h : EntsO K H E ps es) (s : Same H H') : EntsO K H' E ps es :=
  ⟨Same.sqT s h.1, h.2.1, fun k p e a b => let ⟨x, y, z⟩ := h.2.2 k p e a b; ⟨x, y, Same.sqT s z⟩⟩
def vEs (es : List (Str × Nat)) : List (V × V) := es.map fun e => (V.str e.1, V.int (e.2 : Nat))
theorem EntsO.pairs {K : PySem.W.Frag} {H : Hp} {E : Addr} {ps : List V} {es : List (Str × Nat)} (h : EntsO K H E ps es) : ∀ (k : Nat) (x : V) (q : V × V), ps[k]? = some x → (vEs es)[k]? = some q → ∃ t, x = V.ref t ∧ SqT K H t [q.1, q.2] := fun k x q h1 h2 => by
  unfold vEs at h2
  rw [List.getElem?_map] at h2
  cases e : es[k]? with
  | none => rw [e] at h2; cases h2
  | some en =>
    rw [e] at h2
    cases Option.some.inj h2
    exact h.2.2 k x en h1 e
theorem vEs_get {es : List (Str × Nat)} {k : Nat} {q : V × V} (h : (vEs es)[k]? = some q) : ∃ e, es[k]? = some e ∧ e ∈ es ∧ q = (V.str e.1, V.int (e.2 : Nat)) := by
  unfold vEs at h
  rw [List.getElem?_map] at h
  cases e : es[k]? with
  | none => rw [e] at h; cases h
  | some en => rw [e] at h; exact ⟨en, rfl, List.mem_of_getElem? e, (Option.some.inj h).symm⟩
theorem vEs_len (es : List (Str × Nat)) : (vEs es).length = es.length := List.length_map _
/-- the made nodes of a well formed list -/
structure Trees (K : PySem.W.Frag) (cs : Nat → Addr) (H : Hp) (T : Addr) (qs : List Addr) (nds : List Nd) : Prop where
  ob : ObjsAt K cs H T qs nds
  wf : WF LinkText PL nds
theorem Trees.same {K : PySem.W.Frag} {cs : Nat → Addr} {H H' : Hp} {T : Addr} {qs : List Addr} {nds : List Nd} (h : Trees K cs H T qs nds) (s : Same H H') : Trees K cs H' T qs nds := ⟨h.ob.same s, h.wf⟩
theorem Trees.at_ {K : PySem.W.Frag} {cs : Nat → Addr} {H : Hp} {T : Addr} {qs : List Addr} {nds : List Nd} (h : Trees K cs H T qs nds) {i : Nat} {nd : Nd} (e : nds[i]? = some nd) : ∃ q, qs[i]? = some q ∧ (qs.map V.ref)[i]? = some (.ref q) ∧ ObjAt K cs H q nd := by
  have hl : i < qs.length := by rw [h.ob.len]; exact (List.getElem?_eq_some_iff.mp e).1
  have hq : qs[i]? = some qs[i] := List.getElem?_eq_getElem hl
  exact ⟨_, hq, by rw [List.getElem?_map, hq]; rfl, h.ob.nds i _ nd hq e⟩
def spWE (K : PySem.W.Frag) (cs : Nat → Addr) : Sp := fun vs H Q _ => ∃ (T E : Addr) (qs : List Addr) (nds : List Nd) (i : Nat) (o : Int) (es : List (Str × Nat)) (ps : List V), vs = [.ref T, .ref E] ∧ Trees K cs H T qs nds ∧ nds[i]? = some (.fol o es) ∧ EntsO K H E ps es ∧ ∀ H', Same H H' → Q .non H'
section
variable {P : Program} {w : World} {K : PySem.W.Frag} {mg : Str → Option Value} {base : Heap} {fName fStep fBy fNum fAt fDigit fPool fMay fWE fStood fBad fOwner fWN : Addr} {cs : Nat → Addr}
theorem scWE : FnScope ["nodes", "entries", "names", "name", "_", "node"] ["nodes", "entries"] (defScope sWE) := ⟨rfl, rfl, rfl, by decide +kernel, rfl, by decide +kernel, by decide +kernel⟩
theorem ok_we {fd fdN fdM : FuncData} (F : Fun K "wrong_entries" "wrong_entries" sWE fWE fd) (T : TxtK K mg fNum fAt fDigit fPool) (TS : TxtS K mg fBy) (TN : TxtN K mg fName fStep) (TW : TxtW K mg fMay fWE fStood fBad fOwner fWN)
    (GN : FnOk P w K mg base CX0 1 fName fdN ["value"] spName) (bN : Binds K fdN ["value"] []) (GM : FnOk P w K mg base CX0 3 fMay fdM ["nodes", "number"] (spMay K cs)) (bM : Binds K fdM ["nodes", "number"] []) :
    FnOk P w K mg base CX0 4 fWE fd ["nodes", "entries"] (spWE K cs) := by
  have nd := scWE.nd
  refine F.ok scWE (fun vs H Q E h => ?_) (fun cdv A outer s H vs Q E hr h => ?_)
  · obtain ⟨T, E, qs, nds, i, o, es, ps, rfl, _⟩ := h
    rfl
  · obtain ⟨N, E, qs, nds, i, o, es, ps, rfl, TR, hi, hE, k⟩ := h
    have hr3 : Room 3 _ := hr
    have hr1 : Room 1 _ := hr.mono (by decide)
    have W := TR.wf
    have le12 : es.length ≤ 12 := (W.base.uniq i _ hi).2
    have hs : sizeLine = 16777216 := sizeLine_eq
    refine ⟨_, (pss_cons (ps_setLc (i := 2) (own := [("name", 3), ("_", 4)]) (g := gTup K 2 (gCons (gName 3) (gCons (gName 4) gNil))) rfl nd rfl rfl (sw_true rfl rfl rfl (by decide +kernel)) (pi_tup (pv 1)) (blkOk_by (N := ["nodes", "entries", "names", "name", "_", "node"]) (sc := defScope sWE) (by decide +kernel)) (fun _ _ _ _ _ => (pg_tup (by rfl) (pgs_cons (pg_name (i := 3) nd rfl (Or.inl rfl)) (pgs_cons (pg_name (i := 4) nd rfl (Or.inl rfl)) pgs_nil)))) (fun _ _ _ _ _ => pts_nil) (fun _ _ _ _ _ => (pv 3)))
  (pss_cons (ps_if (pt_not (pt_val (pe_callB (cr_all rfl) (by rfl) TS.m_all (by decide +kernel) (pa_cons (pe_lc (own := [("name", 3)]) rfl nd (pi_list (pv 2)) (blkOk_by (N := ["nodes", "entries", "names", "name", "_", "node"]) (sc := defScope sWE) (by decide +kernel)) (fun _ _ _ _ _ => (pg_name (i := 3) nd rfl (Or.inl rfl))) (fun _ _ _ _ _ => pts_nil) (fun _ _ _ _ _ => (pe_call GN hr1 (by rfl) TN.g_is_name TN.kp_is_name bN .nil pass0 (pa_cons (pv 3) pa_nil)))) pa_nil)))) (pss_one (ps_ret pe_str)) pss_nil)
  (pss_cons (ps_if (pt_cmpR op_lt (pe_lenSetS rfl (by rfl) T.m_len (by rfl) TW.m_set (pv 2)) (pe_callB call_len_seq (by rfl) T.m_len (by decide +kernel) (pa_cons (pv 2) pa_nil)) (nomark _)) (pss_one (ps_ret pe_str)) pss_nil)
  (pss_cons (ps_if (pt_not (pt_val (pe_callB (cr_all rfl) (by rfl) TS.m_all (by decide +kernel) (pa_cons (pe_lc (own := [("_", 4), ("node", 5)]) (g := gTup K 2 (gCons (gName 4) (gCons (gName 5) gNil))) rfl nd (pi_tup (pv 1)) (blkOk_by (N := ["nodes", "entries", "names", "name", "_", "node"]) (sc := defScope sWE) (by decide +kernel)) (fun _ _ _ _ _ => (pg_tup (by rfl) (pgs_cons (pg_name (i := 4) nd rfl (Or.inl rfl)) (pgs_cons (pg_name (i := 5) nd rfl (Or.inl rfl)) pgs_nil)))) (fun _ _ _ _ _ => pts_nil) (fun _ _ _ _ _ => (pe_call GM hr3 (by rfl) TW.g_may TW.kp_may bM .nil pass0 (pa_cons (pv 0) (pa_cons (pv 5) pa_nil))))) pa_nil)))) (pss_one (ps_ret pe_str)) pss_nil)
  (pss_one (ps_ret pe_non)))))), ?_⟩
    refine ⟨_, rfl, E, rfl, ⟨_, hE.1⟩, fun D hD => ?_⟩
    refine lc_pair (K := K) (walk_tup (K := K) (a := E)) (i := 3) (j := 4) (by decide) (vEs es) (by rw [vEs_len, hE.2.1]) (fun _ => true) (fun v => v.1) hE.pairs (by rw [hE.2.1]; omega) hD (fun H' s => Same.sqT s hE.1) (fun i v H' R _ s hR => hR _ (Same.refl _)) (fun i v H' R h _ s hR => ⟨_, rfl, hR _ (Same.refl _)⟩) (fun H1 s1 e1 => ?_)
    have e1' : H1 D = some (.lst ((es.map (·.1)).map V.str)) := by
      rw [e1, List.filter_eq_self.mpr (fun _ _ => rfl), List.map_map]
      unfold vEs
      rw [List.map_map]
      rfl
    have nm : ∀ z ∈ es.map (·.1), nameZ z = true ∧ z.length ≤ 12 := fun z hz => by
      obtain ⟨e, he, rfl⟩ := List.mem_map.mp hz
      exact pool_names _ (W.base.ent i _ hi e he).1
    refine ⟨_, rfl, D, rfl, ⟨_, SqL.of e1'⟩, fun D2 hD2 => ?_⟩
    refine lc_map (walk_list (K := K) (a := D)) (fun _ => V.bl true) (by rw [List.length_map, List.length_map]; omega) hD2 (fun H' s => SqL.of (s _ _ e1')) (fun k x H' R hk s hR => ?_) (fun H2 s2 e2 => ?_)
    · rw [List.getElem?_map] at hk
      cases e : (es.map (·.1))[k]? with
      | none => rw [e] at hk; cases hk
      | some z =>
        rw [e] at hk
        cases Option.some.inj hk
        obtain ⟨h1, h2⟩ := nm z (List.mem_of_getElem? e)
        refine ⟨_, rfl, z, rfl, by omega, fun H' s' => ?_⟩
        rw [h1]
        exact hR H' s'
    · have e2' : H2 D2 = some (.lst ((es.map fun _ => true).map V.bl)) := by
        rw [e2, List.map_map, List.map_map, List.map_map]
        rfl
      have all1 : (es.map fun _ => true).all id = true := by rw [List.all_map, List.all_eq_true]; exact fun _ _ => rfl
      refine ⟨D2, _, rfl, SqL.of e2', _, rfl, ?_⟩
      rw [all1]
      refine iteF ?_
      have e3 : H2 D = some (.lst ((es.map (·.1)).map V.str)) := s2 _ _ e1'
      have hnd : (es.map (·.1)).Nodup := (W.base.uniq i _ hi).1
      refine ⟨_, rfl, D, es.map (·.1), rfl, SqL.of e3, by rw [List.length_map]; unfold scanBound; omega, _, rfl, D, _, rfl, .inl (SqL.of e3), _, _, rfl, rfl, _, rfl, ?_⟩
      have dn : (diffs (es.map (·.1))).length = es.length := by rw [diffs_nodup hnd, List.length_map]
      have lt0 : decide (((diffs (es.map (·.1))).length : Int) < (((es.map (·.1)).map V.str).length : Nat)) = false := by
        rw [dn, List.length_map, List.length_map]
        simp
      rw [lt0]
      refine iteF ?_
      have hE3 := hE.same (s1.trans s2)
      have TR3 := TR.same (s1.trans s2)
      refine ⟨_, rfl, E, rfl, ⟨_, hE3.1⟩, fun D3 hD3 => ?_⟩
      refine lc_pair (K := K) (walk_tup (K := K) (a := E)) (i := 4) (j := 5) (by decide) (vEs es) (by rw [vEs_len, hE.2.1]) (fun _ => true) (fun _ => V.bl true) hE3.pairs (by rw [hE.2.1]; omega) hD3 (fun H' s => Same.sqT s hE3.1) (fun i v H' R _ s hR => hR _ (Same.refl _)) (fun j v H' R h _ s hR => ?_) (fun H4 s4 e4 => ?_)
      · obtain ⟨e, _, he, rfl⟩ := vEs_get h
        obtain ⟨_, h1, nd', h2, h3⟩ := W.base.ent i _ hi e he
        have TR' := TR3.same s
        obtain ⟨q, hq, hq', hO⟩ := TR'.at_ h2
        obtain ⟨dx, fs, hins, _⟩ := obj_ins hO
        have c3 : clsI nd' ≠ 3 := by
          cases nd' with
          | fol _ _ => exact (by decide : (0 : Nat) ≠ 3)
          | fil _ => exact (by decide : (1 : Nat) ≠ 3)
          | lnk _ _ => exact (by decide : (2 : Nat) ≠ 3)
          | gon _ _ => cases h3
        exact ⟨_, rfl, _, rfl, N, qs.map V.ref, e.2, q, clsI nd', dx, fs, rfl, TR'.ob.ls, hq', clsI_lt nd', hins, by omega, c3, fun H' s' => hR H' s'⟩
      · have e4' : H4 D3 = some (.lst ((es.map fun _ => true).map V.bl)) := by
          rw [e4, List.filter_eq_self.mpr (fun _ _ => rfl)]
          unfold vEs
          rw [List.map_map, List.map_map]
          rfl
        refine ⟨D3, _, rfl, SqL.of e4', _, rfl, ?_⟩
        rw [all1]
        exact iteF (k _ (s1.trans (s2.trans s4)))
end
end NW

set_option maxRecDepth 100000
set_option maxHeartbeats 400000
namespace NW
open PySem L2 NG TR LamX
abbrev sWN : Stmt := top 25
theorem linkText_ok {z : Str} (h : LinkText z) : z.length + 2 ≤ sizeLine ∧ (∀ p ∈ partsOf z, p.length ≤ sizeLine) ∧ badP z = none := h
theorem clsI_fol {nd : Nd} (h : clsI nd = 0) : ∃ o es, nd = .fol o es := by
  cases nd with
  | fol o es => exact ⟨o, es, rfl⟩
  | _ => cases h
def spWN (K : PySem.W.Frag) (cs : Nat → Addr) : Sp := fun vs H Q _ => ∃ (T : Addr) (qs : List Addr) (nds : List Nd) (i : Nat), vs = [.ref T, .int (i : Nat)] ∧ Trees K cs H T qs nds ∧ i < nds.length ∧ ∀ H', Same H H' → Q .non H'
section
variable {P : Program} {w : World} {K : PySem.W.Frag} {mg : Str → Option Value} {base : Heap} {fName fStep fBy fNum fAt fDigit fPool fMay fWE fStood fBad fOwner fWN : Addr} {cs : Nat → Addr}
theorem scWN : FnScope ["nodes", "number", "node"] ["nodes", "number"] (defScope sWN) := ⟨rfl, rfl, rfl, by decide +kernel, rfl, by decide +kernel, by decide +kernel⟩
theorem ok_wn {fd fdO fdW fdB fdS : FuncData} (F : Fun K "wrong_node" "wrong_node" sWN fWN fd) (T : TxtK K mg fNum fAt fDigit fPool) (TG : TxtG K mg cs) (TW : TxtW K mg fMay fWE fStood fBad fOwner fWN)
    (GO : FnOk P w K mg base CX0 2 fOwner fdO ["value"] spOwner) (bO : Binds K fdO ["value"] []) (GW : FnOk P w K mg base CX0 4 fWE fdW ["nodes", "entries"] (spWE K cs)) (bW : Binds K fdW ["nodes", "entries"] [])
    (GB : FnOk P w K mg base CX0 3 fBad fdB ["text"] (spBad K)) (bB : Binds K fdB ["text"] []) (GS : FnOk P w K mg base CX0 3 fStood fdS ["nodes", "number", "last"] (spStood K cs)) (bS : Binds K fdS ["nodes", "number", "last"] []) :
    FnOk P w K mg base CX0 5 fWN fd ["nodes", "number"] (spWN K cs) := by
  have nd := scWN.nd
  refine F.ok scWN (fun vs H Q E h => ?_) (fun cdv A outer s H vs Q E hr h => ?_)
  · obtain ⟨T, qs, nds, i, rfl, _⟩ := h
    rfl
  · obtain ⟨N, qs, nds, i, rfl, TR, hi, k⟩ := h
    have hr4 : Room 4 _ := hr
    have hr3 : Room 3 _ := hr.mono (by decide)
    have hr2 : Room 2 _ := hr.mono (by decide)
    have W := TR.wf
    have hn : nds[i]? = some nds[i] := List.getElem?_eq_getElem hi
    generalize nds[i] = x at hn
    refine ⟨_, (pss_cons (ps_set (i := 2) nd rfl (Or.inl rfl) (pe_ix ix_tup (pv 0) (pv 1) (fun _ _ => rfl)))
  (pss_cons (ps_if (PW.pt (pw_or (pt_not (pt_val (pe_callB call_isiT (by rfl) T.m_isinstance (by decide +kernel) (pa_cons (pv 2) (pa_cons (pe_tup (pa_cons (pe_glob (v := .ref (cs 0)) (by rfl) TG.m_Folder rfl) (pa_cons (pe_glob (v := .ref (cs 1)) (by rfl) TG.m_File rfl) (pa_cons (pe_glob (v := .ref (cs 2)) (by rfl) TG.m_Link rfl) (pa_cons (pe_glob (v := .ref (cs 3)) (by rfl) TG.m_Gone rfl) pa_nil))))) pa_nil))))) (pw_or1 (pt_not (pt_val (pe_call GO hr2 (by rfl) TW.g_is_owner TW.kp_is_owner bO .nil pass0 (pa_cons (pe_fld (pv 2) rfl) pa_nil))))))) (pss_one (ps_ret pe_str)) pss_nil)
  (pss_cons (ps_if (pt_val (pe_callB call_isi (by rfl) T.m_isinstance (by decide +kernel) (pa_cons (pv 2) (pa_cons (pe_glob (v := .ref (cs 0)) (by rfl) TG.m_Folder rfl) pa_nil)))) (pss_one (ps_ret (pe_call GW hr4 (by rfl) TW.g_we TW.kp_we bW .nil pass0 (pa_cons (pv 0) (pa_cons (pe_fld (pv 2) rfl) pa_nil))))) pss_nil)
  (pss_cons (ps_if (PW.pt (pw_and (pt_val (pe_callB call_isi (by rfl) T.m_isinstance (by decide +kernel) (pa_cons (pv 2) (pa_cons (pe_glob (v := .ref (cs 2)) (by rfl) TG.m_Link rfl) pa_nil)))) (pw_and1 (pt_cmp (pc_notN (pe_call GB hr3 (by rfl) TW.g_bad TW.kp_bad bB .nil pass0 (pa_cons (pe_fld (pv 2) rfl) pa_nil))))))) (pss_one (ps_ret pe_str)) pss_nil)
  (pss_cons (ps_if (PW.pt (pw_and (pt_val (pe_callB call_isi (by rfl) T.m_isinstance (by decide +kernel) (pa_cons (pv 2) (pa_cons (pe_glob (v := .ref (cs 3)) (by rfl) TG.m_Gone rfl) pa_nil)))) (pw_and1 (pt_not (pt_val (pe_call GS hr3 (by rfl) TW.g_stood TW.kp_stood bS .nil pass0 (pa_cons (pv 0) (pa_cons (pv 1) (pa_cons (pe_fld (pv 2) rfl) pa_nil))))))))) (pss_one (ps_ret pe_str)) pss_nil)
  (pss_one (ps_ret pe_non))))))), ?_⟩
    obtain ⟨q, hq, hqr, hO⟩ := TR.at_ hn
    obtain ⟨dx, fs, hins, hown⟩ := obj_ins hO
    have ci := clsI_lt x
    have ty := TG.ty _ ci
    refine ⟨_, rfl, _, rfl, N, _, _, _, rfl, rfl, TR.ob.ls, atI_nat hqr, ?_⟩
    refine ⟨_, rfl, (by show 4 ≤ sizeLine; decide), fun tp htp => ?_⟩
    have sp := NG.Same.upd (o := HO.tup [V.ref (cs 0), V.ref (cs 1), V.ref (cs 2), V.ref (cs 3)]) htp
    have etp : (upd H tp (HO.tup [V.ref (cs 0), V.ref (cs 1), V.ref (cs 2), V.ref (cs 3)])) tp = some (.tup [V.ref (cs 0), V.ref (cs 1), V.ref (cs 2), V.ref (cs 3)]) := upd_same
    have TR1 := TR.same sp
    have k1 : ∀ H', Same (upd H tp (HO.tup [V.ref (cs 0), V.ref (cs 1), V.ref (cs 2), V.ref (cs 3)])) H' → Q .non H' := fun H' s => k H' (sp.trans s)
    have hins1 := sp _ _ hins
    have hO1 := hO.same sp
    generalize upd H tp (HO.tup [V.ref (cs 0), V.ref (cs 1), V.ref (cs 2), V.ref (cs 3)]) = H1 at etp TR1 k1 hins1 hO1 ⊢
    have tyx : TyX K H1 (.ref q) (.ref (cs (clsI x))) := .base (.ins hins1 (TG.cl _ ci) ty.c1 ty.c2 ty.c3 ty.c4)
    refine ⟨_, tp, _, .ref (cs (clsI x)), [.ref (cs 0), .ref (cs 1), .ref (cs 2), .ref (cs 3)], true, rfl, etp, .cons (.own _) (.cons (.own _) (.cons (.own _) (.cons (.own _) .nil))), tyx, ?_, _, rfl, ?_⟩
    · have e := kitAny_of TG ci [0, 1, 2, 3] (by simp)
      have e4 : ([0, 1, 2, 3] : List Nat).contains (clsI x) = true := by cases x <;> rfl
      rw [e4] at e
      exact e
    refine iteF ⟨_, rfl, q, _, _, _, _, rfl, hins1, TG.cl _ ci, TG.nO _ ci, hown, x.owner, rfl, _, rfl, ?_⟩
    have ow : decide (0 ≤ x.owner) = true := decide_eq_true (W.base.own i _ hn)
    rw [ow]
    refine iteF ?_
    -- a folder
    refine ⟨_, rfl, _, _, _, _, decide (clsI x = 0), rfl, .own (cs 0), tyx, TG.kit _ 0 ci (by decide), _, rfl, ?_⟩
    have isI : ∀ j, j < 4 → PySem.W.kitOne K (.ref (cs (clsI x))) (.ref (cs j)) = some (decide (clsI x = j)) := fun j hj => TG.kit _ j ci hj
    cases x with
    | fol o es =>
      rw [show decide (clsI (Nd.fol o es) = 0) = true from rfl]
      obtain ⟨dx', Ea, ps, h1, h2, h3, h4⟩ := hO1
      refine iteT ⟨_, rfl, _, rfl, q, cs 0, dx', _, _, rfl, h1, TG.cl 0 (by decide), TG.nE, (by unfold ffl; rw [lookup_putF, if_pos rfl]), N, Ea, qs, nds, i, o, es, ps, rfl, TR1, hn, ⟨h2.sqT, h3, h4⟩, k1⟩
    | fil o =>
      rw [show decide (clsI (Nd.fil o) = 0) = false from rfl]
      refine iteF ⟨_, rfl, _, _, _, _, false, rfl, .own (cs 2), tyx, isI 2 (by decide), _, rfl, ?_⟩
      refine iteF (iteF ⟨_, rfl, _, _, _, _, false, rfl, .own (cs 3), tyx, isI 3 (by decide), _, rfl, ?_⟩)
      exact iteF (iteF (k1 _ (Same.refl _)))
    | lnk o z =>
      rw [show decide (clsI (Nd.lnk o z) = 0) = false from rfl]
      refine iteF ⟨_, rfl, _, _, _, _, true, rfl, .own (cs 2), tyx, isI 2 (by decide), _, rfl, ?_⟩
      obtain ⟨dx', h1⟩ := hO1
      obtain ⟨z1, z2, z3⟩ := linkText_ok (W.base.lnk i o z hn)
      refine iteT ⟨_, rfl, q, cs 2, dx', _, _, rfl, h1, TG.cl 2 (by decide), TG.nT, (by unfold fl2; rw [lookup_putF, if_pos rfl]), .inr ⟨z, rfl, z1, z2, fun n e => (by rw [z3] at e; cases e), fun _ H2 s2 => ?_⟩⟩
      have tyx2 : TyX K H2 (.ref q) (.ref (cs 2)) := .base (.ins (s2 _ _ hins1) (TG.cl 2 (by decide)) (TG.ty 2 (by decide)).c1 (TG.ty 2 (by decide)).c2 (TG.ty 2 (by decide)).c3 (TG.ty 2 (by decide)).c4)
      refine ⟨_, rfl, iteF ⟨_, rfl, _, _, _, _, false, rfl, .own (cs 3), tyx2, isI 3 (by decide), _, rfl, ?_⟩⟩
      exact iteF (iteF (k1 _ s2))
    | gon o ab =>
      rw [show decide (clsI (Nd.gon o ab) = 0) = false from rfl]
      refine iteF ⟨_, rfl, _, _, _, _, false, rfl, .own (cs 2), tyx, isI 2 (by decide), _, rfl, ?_⟩
      refine iteF (iteF ⟨_, rfl, _, _, _, _, true, rfl, .own (cs 3), tyx, isI 3 (by decide), _, rfl, ?_⟩)
      obtain ⟨dx', h1⟩ := hO1
      obtain ⟨ha, o', es, hab⟩ := W.base.gon i o ab hn
      obtain ⟨q2, hq2, hq2r, hO2⟩ := TR1.at_ hab
      obtain ⟨dx2, E2, ps2, h2, _⟩ := hO2
      refine iteT ⟨_, rfl, _, rfl, _, rfl, q, cs 3, dx', _, _, rfl, h1, TG.cl 3 (by decide), TG.nA, (by unfold fl2; rw [lookup_putF, if_pos rfl]), N, _, i, ab, q2, dx2, _, rfl, TR1.ob.ls, hq2r, h2, by omega, fun H2 s2 => ⟨_, rfl, iteF (k1 _ s2)⟩⟩
end
end NW

set_option maxRecDepth 100000
set_option maxHeartbeats 400000
/-! statements that are not come to; xs[i] += e -/
namespace NG
open PySem PyProof.Rows L2
section
variable {X : Cx}
theorem pss_dead {ss : List Stmt} : PSs X ss (fun _ _ _ => False) := ⟨fun _ _ _ _ _ _ h => h.elim⟩
theorem ps_dead {st : Stmt} : PS X st (fun _ _ _ => False) := ⟨fun _ _ _ _ _ _ h => h.elim⟩
def rGetN (K : PySem.W.Frag) : V → V → Hp → VK → Prop := fun o i H Q => ∃ (p : Addr) (xs : List V) (k : Nat) (v : V), o = .ref p ∧ i = .int (k : Nat) ∧ SqL K H p xs ∧ xs[k]? = some v ∧ Q v H
theorem get_listN : PGet X (rGetN X.K) := by
  intro pins s σ H o i ov iv Q I ro ri h
  obtain ⟨p, xs, k, v, rfl, rfl, hs, hv, q⟩ := h
  cases ro
  obtain ⟨t, rfl⟩ := ri
  obtain ⟨its, r, pl, hz⟩ := I.list hs
  obtain ⟨u, hu, ru⟩ := r.get hv
  have hk := (List.getElem?_eq_some_iff.mp hv).1
  have hn := line63
  exact wpAny_getItem_list pl.isList (by omega) (by omega) (by simpa using hu) ⟨v, H, I, ru, q⟩
end
end NG

set_option maxRecDepth 100000
set_option maxHeartbeats 400000
namespace NW
open PySem L2 NG TR LamX
abbrev sET : Stmt := top 31
/-- numbers by place -/
def tally (n : Nat) (f : Nat → Nat) : List V := (List.range n).map fun k => V.int (f k : Nat)
theorem tally_len (n : Nat) (f : Nat → Nat) : (tally n f).length = n := by unfold tally; rw [List.length_map, List.length_range]
theorem tally_get {n k : Nat} (f : Nat → Nat) (h : k < n) : (tally n f)[k]? = some (V.int (f k : Nat)) := by
  unfold tally
  rw [List.getElem?_map, List.getElem?_range h]
  rfl
theorem tally_set {n k : Nat} (f : Nat → Nat) (h : k < n) : (tally n f).set k (V.int ((f k : Nat) + 1)) = tally n fun j => f j + if k = j then 1 else 0 := by
  apply List.ext_getElem?
  intro j
  by_cases hj : j < n
  · rw [tally_get _ hj]
    by_cases e : k = j
    · subst e
      rw [List.getElem?_set_self (by rw [tally_len]; exact h), if_pos rfl]
      rfl
    · rw [List.getElem?_set_ne e, tally_get _ hj, if_neg e]
      rfl
  · rw [List.getElem?_eq_none (by rw [List.length_set, tally_len]; omega), List.getElem?_eq_none (by rw [tally_len]; omega)]
theorem cntE_take {es : List (Str × Nat)} {k : Nat} {e : Str × Nat} (h : es[k]? = some e) (j : Nat) : cntE (es.take (k + 1)) j = cntE (es.take k) j + if e.2 = j then 1 else 0 := by
  rw [NG.take_succ h, cntE_app]
  congr 1
  exact cntE_one e.1 e.2 j
theorem cnt_take {nds : List Nd} {k : Nat} {x : Nd} (h : nds[k]? = some x) (j : Nat) : cnt (nds.take (k + 1)) j = cnt (nds.take k) j + cntE x.ents j := by
  rw [NG.take_succ h, cnt_app, cnt_cons, cnt_nil]
  omega
/-- all but D -/
def ButD (D : Addr) (H H' : Hp) : Prop := ∀ b o, H b = some o → b ≠ D → H' b = some o
def spET (K : PySem.W.Frag) (cs : Nat → Addr) : Sp := fun vs H Q _ => ∃ (T : Addr) (qs : List Addr) (nds : List Nd), vs = [.ref T] ∧ Trees K cs H T qs nds ∧ nds.length ≤ 1000 ∧ ∀ H' D, Same H H' → H' D = some (.lst (tally nds.length (cnt nds))) → Q (.ref D) H'
section
variable {P : Program} {w : World} {K : PySem.W.Frag} {mg : Str → Option Value} {base : Heap} {fNum fAt fDigit fPool fET : Addr} {cs : Nat → Addr}
theorem scET : FnScope ["nodes", "times", "node", "_", "number"] ["nodes"] (defScope sET) := ⟨rfl, rfl, rfl, by decide +kernel, rfl, by decide +kernel, by decide +kernel⟩
theorem ok_et {fd : FuncData} (F : Fun K "entered_times" "entered_times" sET fET fd) (T : TxtK K mg fNum fAt fDigit fPool) (TG : TxtG K mg cs) : FnOk P w K mg base CX0 1 fET fd ["nodes"] (spET K cs) := by
  have nd := scET.nd
  refine F.ok scET (fun vs H Q E h => ?_) (fun cdv A outer s H vs Q E hr h => ?_)
  · obtain ⟨T, qs, nds, rfl, _⟩ := h
    rfl
  · obtain ⟨N, qs, nds, rfl, TR, hl, k⟩ := h
    have W := TR.wf
    have hs : sizeLine = 16777216 := sizeLine_eq
    refine ⟨_, (pss_cons (ps_set (i := 1) nd rfl (Or.inl rfl) (pe_op op_rep (pe_lst (pa_cons pe_int pa_nil)) (pe_callB call_len_seq (by rfl) T.m_len (by decide +kernel) (pa_cons (pv 0) pa_nil))))
  (pss_cons (ps_for PassesOwn.never rfl (pi_tup (pv 0)) (pg_name (i := 2) nd rfl (Or.inl rfl))
  (pss_one (ps_if (pt_val (pe_callB call_isi (by rfl) T.m_isinstance (by decide +kernel) (pa_cons (pv 2) (pa_cons (pe_glob (v := .ref (cs 0)) (by rfl) TG.m_Folder rfl) pa_nil)))) (pss_one (ps_for PassesOwn.never rfl (pi_tup (pe_fld (pv 2) rfl)) (pg_tup (by rfl) (pgs_cons (pg_name (i := 3) nd rfl (Or.inl rfl)) (pgs_cons (pg_name (i := 4) nd rfl (Or.inl rfl)) pgs_nil)))
  (pss_one (ps_augS (pv 1) (pv 4) get_listN pe_int ip_add set_list)))) pss_nil)))
  (pss_one (ps_ret (pv 1))))), ?_⟩
    refine ⟨(by show 1 ≤ sizeLine; decide), fun L hL => ⟨_, rfl, N, _, rfl, .inr (Same.sqT (NG.Same.upd hL) TR.ob.ls), ?_⟩⟩
    have lq : (qs.map V.ref).length = nds.length := by rw [List.length_map, TR.ob.len]
    rw [lq]
    have sL := NG.Same.upd (o := HO.lst [V.int 0]) hL
    have eL : (upd H L (HO.lst [V.int 0])) L = some (.lst [V.int 0]) := upd_same
    generalize upd H L (HO.lst [V.int 0]) = H0 at sL eL ⊢
    refine ⟨L, _, _, rfl, rfl, eL, by omega, by omega, by simp only [List.length_singleton]; omega, fun D hD => ?_⟩
    have e0 : (List.replicate (nds.length : Int).toNat [V.int 0]).flatten = tally nds.length (cnt (nds.take 0)) := by
      have : ∀ n : Nat, (List.replicate n [V.int 0]).flatten = List.replicate n (V.int 0) := fun n => by
        induction n with
        | zero => rfl
        | succ n ih => rw [List.replicate_succ, List.flatten_cons, ih, List.replicate_succ]; rfl
      rw [this]
      unfold tally
      rw [List.take_zero]
      show _ = (List.range nds.length).map fun _ => V.int 0
      rw [List.map_const', List.length_range]
      rfl
    rw [e0]
    have s1 : Same H (upd H0 D (.lst (tally nds.length (cnt (nds.take 0))))) := sL.trans (NG.Same.upd hD)
    have fD : H D = none := by
      cases e : H D with
      | none => rfl
      | some u => have := sL _ _ e; rw [hD] at this; cases this
    refine ⟨_, rfl, N, rfl, ⟨_, Same.sqT s1 TR.ob.ls⟩, for_tup (K := K) (a := N) (xs := qs.map V.ref) (fun i σ H' => (∃ v2 v3 v4 : Option V, σ = [some (.ref N), some (.ref D), v2, v3, v4]) ∧ Same H H' ∧ H' D = some (.lst (tally nds.length (cnt (nds.take i)))))
      ⟨⟨none, none, none, rfl⟩, s1, upd_same⟩ (fun i σ H' _ h => Same.sqT h.2.1 TR.ob.ls) ?_ ?_⟩
    · rintro i x σ H2 hx ⟨⟨v2, v3, v4, rfl⟩, s2, e2⟩
      have hi : i < nds.length := by rw [← lq]; exact (List.getElem?_eq_some_iff.mp hx).1
      have hn : nds[i]? = some nds[i] := List.getElem?_eq_getElem hi
      generalize nds[i] = y at hn
      have TR2 := TR.same s2
      obtain ⟨q, hq, hqr, hO⟩ := TR2.at_ hn
      have : x = .ref q := by rw [hqr] at hx; exact (Option.some.inj hx).symm
      subst this
      obtain ⟨dx, fs, hins, _⟩ := obj_ins hO
      have ci := clsI_lt y
      have ty := TG.ty _ ci
      refine ⟨_, rfl, _, _, _, _, decide (clsI y = 0), rfl, .own (cs 0), .base (.ins hins (TG.cl _ ci) ty.c1 ty.c2 ty.c3 ty.c4), TG.kit _ 0 ci (by decide), _, rfl, ?_⟩
      by_cases hf : clsI y = 0
      · obtain ⟨o, es, rfl⟩ := clsI_fol hf
        rw [decide_eq_true hf]
        obtain ⟨dx', Ea, ps, h1, h2p, h3, h4⟩ := hO
        have h2 : SqT K _ Ea ps := h2p.sqT
        have le12 : es.length ≤ 12 := (W.base.uniq i _ hn).2
        refine iteT ⟨_, rfl, q, cs 0, dx', _, _, rfl, h1, TG.cl 0 (by decide), TG.nE, (by unfold ffl; rw [lookup_putF, if_pos rfl]), Ea, rfl, ⟨_, h2⟩, ?_⟩
        refine for_tup (K := K) (a := Ea) (xs := ps) (fun j σ H' => (∃ v3 v4 : Option V, σ = [some (.ref N), some (.ref D), some (.ref q), v3, v4]) ∧ ButD D H2 H' ∧ Same H H' ∧ H' D = some (.lst (tally nds.length fun k => cnt (nds.take i) k + cntE (es.take j) k)))
          ⟨⟨v3, v4, rfl⟩, fun _ _ z _ => z, s2, by rw [e2]; rfl⟩ (fun j σ H' _ h => ?_) ?_ ?_
        · rcases h2 with (z | ⟨u, z⟩) | z
          · exact .inl (.inl (h.2.1 _ _ z (ne_of z e2 (fun y => by cases y))))
          · exact .inl (.inr ⟨u, h.2.1 _ _ z (ne_of z e2 (fun y => by cases y))⟩)
          · exact .inr z
        · rintro j p σ H3 hp ⟨⟨v3, v4, rfl⟩, b3, s3, e3⟩
          have hj : j < es.length := by rw [← h3]; exact (List.getElem?_eq_some_iff.mp hp).1
          have he : es[j]? = some es[j] := List.getElem?_eq_getElem hj
          generalize es[j] = e at he
          obtain ⟨a, rfl, ha⟩ := h4 j p e hp he
          obtain ⟨_, _, nd', hnd, _⟩ := W.base.ent i _ hn e (List.mem_of_getElem? he)
          have hk := (List.getElem?_eq_some_iff.mp hnd).1
          have ha3 : SqT K H3 a [.str e.1, .int (e.2 : Nat)] := by
            rcases ha with (z | ⟨u, z⟩) | z
            · exact .inl (.inl (b3 _ _ z (ne_of z e2 (fun y => by cases y))))
            · exact .inl (.inr ⟨u, b3 _ _ z (ne_of z e2 (fun y => by cases y))⟩)
            · exact .inr z
          refine ⟨a, [.str e.1, .int (e.2 : Nat)], rfl, ha3, rfl, _, _, rfl, _, _, rfl, rfl, ?_⟩
          refine ⟨_, rfl, _, rfl, D, _, e.2, _, rfl, rfl, SqL.of e3, tally_get _ hk, _, _, rfl, rfl, D, _, _, e.2, rfl, rfl, e3, ?_, ?_⟩
          · unfold ixN
            rw [tally_len, if_pos (by omega), if_pos (by omega)]
            simp
          · refine ⟨⟨_, _, rfl⟩, fun b u eb nb => by rw [upd_ne nb]; exact b3 _ _ eb nb, fun b u eb => by rw [upd_ne (ne_of_none eb fD)]; exact s3 _ _ eb, ?_⟩
            rw [upd_same, tally_set _ hk]
            congr 3
            funext k
            rw [cntE_take he]
            omega
        · rintro σ H3 ⟨⟨v3, v4, rfl⟩, b3, s3, e3⟩
          refine ⟨⟨_, _, _, rfl⟩, s3, ?_⟩
          rw [e3]
          congr 3
          funext k
          rw [cnt_take hn, h3, List.take_length]
          rfl
      · rw [decide_eq_false hf]
        refine iteF ⟨⟨_, _, _, rfl⟩, s2, ?_⟩
        rw [e2]
        congr 3
        funext k
        rw [cnt_take hn]
        have : y.ents = [] := by
          cases y with
          | fol o es => exact absurd rfl hf
          | _ => rfl
        rw [this]
        rfl
    · rintro σ H2 ⟨⟨v2, v3, v4, rfl⟩, s2, e2⟩
      rw [lq, List.take_length] at e2
      exact ⟨_, rfl, k _ D s2 e2⟩
end
end NW

set_option maxRecDepth 100000
set_option maxHeartbeats 1000000
/-! enumerate over a tuple -/
namespace NG
open PySem PyProof.Rows L2
theorem new_enum {v : Value} {ob : Obj} {Z : Heap → Prop} (B : Begins v ob Z) :
    Meets (Builtin.«enumerate.__new__» ⟨[.type "enumerate", v], []⟩) (fun _ R s => Z s.heap ∧
      R (.ok (.ret (.ref (s.heap.push ob).objs.size))) { s with heap := (s.heap.push ob).push { cls := .type "enumerate", data := .fields #[.none, .bool false, .ref s.heap.objs.size, rawInt 0, .none, .none] } }) :=
  .of_wp fun prog w A R s z => by
    obtain ⟨hp, gs, dr, tk, os⟩ := s
    obtain ⟨z1, z2⟩ := z
    have sub := sub_enumerate
    have step : ∀ {A1 : Around} {E1 Q1 : Value → Shared → Prop}, Q1 (.ref hp.objs.size) ⟨hp.push ob, gs, dr, tk, os⟩ → wpAny (model prog w) A1 (pyIter v) Q1 E1 ⟨hp, gs, dr, tk, os⟩ := fun q => B.iter prog w _ _ ⟨hp, gs, dr, tk, os⟩ _ z1 q
    wp_walk using step
    refine wpAny_stack_any fun st => wpAny_pure ?_
    split
    · rename_i cc _ _ _ _ _
      cases (cc == Value.type "enumerate") <;> (wp_walk using step; exact ⟨_, rfl, z2⟩)
    · wp_walk using step
      exact ⟨_, rfl, z2⟩
section
variable {prog : Program} {w : World} {A : Around} {E : Value → Shared → Prop} {s : Shared}
theorem call_enum {v : Value} {ob : Obj} {Z : Heap → Prop} {Q : Value → Shared → Prop} (B : Begins v ob Z) (hz : Z s.heap)
    (k : ∀ g, IsEnum g (s.heap.objs.size + 1) s.heap.objs.size 0 .none → g.get? s.heap.objs.size = some ob → (∀ b o, s.heap.get? b = some o → g.get? b = some o) → Q (.ref (s.heap.objs.size + 1)) { s with heap := g }) :
    wpAny (model prog w) A (call (.type "enumerate") [v]) Q E s := by
  refine callType_new F.called_enumerate (by decide) (F.typeCall_enumerate_1 _) (F.newCall_enumerate_1 _) (fun u => F.args_object_init_2 u _) F.entry_enumerate_new (new_enum B) ⟨hz, ?_⟩
  have e1 : (s.heap.push ob).objs.size = s.heap.objs.size + 1 := Heap.size_push ..
  show _ ∧ _
  rw [e1]
  have e2 : IsEnum ((s.heap.push ob).push { cls := .type "enumerate", data := .fields #[.none, .bool false, .ref s.heap.objs.size, rawInt 0, .none, .none] }) (s.heap.objs.size + 1) s.heap.objs.size 0 .none := by
    have q := Heap.get?_push_size (s.heap.push ob) (o := { cls := .type "enumerate", data := .fields #[.none, .bool false, .ref s.heap.objs.size, rawInt 0, .none, .none] }) rfl
    rwa [e1] at q
  exact ⟨⟨_, e2, rfl⟩, k _ e2 (Heap.get?_push_of_some _ (Heap.get?_push_size _ B.free)) fun b o e => Heap.get?_push_of_some _ (Heap.get?_push_of_some _ e)⟩
end
/-- what enumerate draws of the tuple at a -/
def IteT (K : PySem.W.Frag) (a : Addr) : It where
  go i H := ∃ (xs : List V) (x : V), SqT K H a xs ∧ xs[i]? = some x
  yld i H v H' := ∃ (T : Addr) (x : V), v = .ref T ∧ H T = none ∧ H' = L2.upd H T (.tup [.int (i : Nat), x]) ∧ ∀ xs, SqT K H a xs → xs[i]? = some x
  stop i H := ∃ xs : List V, SqT K H a xs ∧ xs.length ≤ i
theorem turn_enumT {P : Program} {w : World} {K : PySem.W.Frag} {elts : List Expr} {kk : Nat} {tpos : Pos} (a e it : Addr) :
    Turn P w K (.Tuple elts kk tpos) (IteT K a) [e, it] e (fun i h => (∃ old, IsEnum h e it ((i : Nat) : Int) old) ∧ h.IsTupleIter it a i ∧ e ≠ it ∧ it ≠ a ∧ e ≠ a) where
  mem := by simp
  obj := fun i h st b hb => by
    obtain ⟨⟨old, he⟩, ⟨o, ho, _, hd⟩, _⟩ := st
    rcases (by simpa using hb : b = e ∨ b = it) with rfl | rfl
    · exact ⟨_, he, fun v q => nomatch q⟩
    · exact ⟨o, ho, fun v q => by rw [hd] at q; cases q⟩
  keep := fun i h h' st k => by
    obtain ⟨⟨old, he⟩, ⟨o, ho, r⟩, z⟩ := st
    exact ⟨⟨old, k e (by simp) _ he⟩, ⟨o, k it (by simp) _ ho, r⟩, z⟩
  item := by
    intro X hP hw hK hc i pins s σ H E I hf st hg
    subst hP hw hK
    obtain ⟨⟨old, he⟩, hit, n1, n2, n3⟩ := st
    obtain ⟨xs, x, hq, hx⟩ := hg
    obtain ⟨its, rv, ⟨ot, eo, co, no, d0⟩, hz⟩ := I.tuple hq
    obtain ⟨u, hu, ru⟩ := rv.get hx
    have hi : i < its.toArray.size := by
      have := (List.getElem?_eq_some_iff.mp hu).1
      simpa using this
    have D := Draws.tuple (prog := X.prog) (w := X.w) (A := X.A.in1) (I.ok.hd hc) it a (Ne.symm n2) its.toArray
    refine wpAny_pyNext_enum_itemD D he ⟨hit, ot, eo, co, no, d0⟩ hi n1 (by simp [n1, n3]) fun y g tk hy hg1 hg2 hg3 hg4 hg5 => ?_
    have ey : y = u := by
      have e1 : its[i]? = some y := by simpa using hy
      rw [hu] at e1
      exact (Option.some.inj e1).symm
    subst ey
    have lt1 : e < s.heap.objs.size := Heap.lt_size he
    have lt2 : it < s.heap.objs.size := by obtain ⟨_, q, _⟩ := hit; exact Heap.lt_size q
    refine ⟨_, rfl, wpAny_letOwnedTupleGo_enum (s := { s with heap := g, toks := tk + 1 }) hg1 fun g2 he2 sb => ?_⟩
    have tup : g2.get? s.heap.objs.size = some { cls := .type "tuple", data := .seq #[.int i tk, y] } := (sb.2 _ (Nat.ne_of_gt lt1)).trans hg3
    have new : ObjOk X.prog X.w (L2.upd H s.heap.objs.size (.tup [.int (i : Nat), x])) g2 s.heap.objs.size (.tup [.int (i : Nat), x]) :=
      ⟨by show 2 ≤ sizeLine; decide, [.int i tk, y], .cons ⟨_, rfl⟩ (.cons ru .nil), ⟨_, tup, rfl, _, rfl⟩⟩
    have I1 : Inv X pins σ (L2.upd H s.heap.objs.size (.tup [.int (i : Nat), x])) { s with heap := g2, toks := tk + 1 } :=
      I.turnedNew (ch := [e, it]) (fun b o hb q => (sb.2 b fun z => hb (by simp [z])).trans (hg5 b o (fun z => hb (by simp [z])) (fun z => hb (by simp [z])) q)) hf (Nat.le_refl _) new
    refine ⟨.ref s.heap.objs.size, _, I1, rfl, ⟨_, x, rfl, I.hok.fresh (Nat.le_refl _), rfl, fun ys hy => by rw [I.tuple_inj hy hq]; exact hx⟩, ⟨⟨y, ?_⟩, hg2.1.extBut sb.extBut (Ne.symm n1), n1, n2, n3⟩, fun b hb => ?_⟩
    · have : ((i + 1 : Nat) : Int) = (i : Int) + 1 := by omega
      rw [this]; exact he2
    · have lb : b < s.heap.objs.size := by
        rcases (by simpa using hb : b = e ∨ b = it) with rfl | rfl
        · exact lt1
        · exact lt2
      rw [L2.upd_ne (Nat.ne_of_lt lb)]
      exact (hf b hb).1
  done := by
    intro X hP hw hK hc i pins s σ H E I hf st hg
    subst hP hw hK
    obtain ⟨⟨old, he⟩, hit, n1, n2, n3⟩ := st
    obtain ⟨xs, hq, hx⟩ := hg
    obtain ⟨its, rv, ⟨ot, eo, co, no, d0⟩, hz⟩ := I.tuple hq
    obtain ⟨f0, f1, f2, f3, f4, f5⟩ := hf it (by simp)
    have hn : its.toArray[i]? = none := by
      have := rv.length
      rw [List.getElem?_toArray]
      exact List.getElem?_eq_none (by omega)
    have D : Draws X.prog X.w X.A.in1 it [it, a] i (fun _ _ => False) (fun j h => j = i ∧ h.IsTupleIter it a i ∧ h.IsTuple a its.toArray) := {
      live := fun j h z => let ⟨o, e, _⟩ := z.2.1; ⟨o, e⟩
      frame := fun j h h' z k => ⟨z.1, let ⟨o, e, r⟩ := z.2.1; ⟨o, k it (by simp) _ e, r⟩, let ⟨o, e, r⟩ := z.2.2; ⟨o, k a (by simp) _ e, r⟩⟩
      item := fun j s1 Q1 E1 hj z _ => absurd z.1 (Nat.ne_of_lt hj)
      done := fun s1 Q1 E1 z k => wpAny_nextOf_tuple_end (I.ok.hd hc) z.2.1 z.2.2 hn k }
    exact wpAny_pyNext_enum_endD D he ⟨rfl, hit, ot, eo, co, no, d0⟩ fun g eb => ⟨rfl, I.turned (t' := s.toks) (fun b o hb q => eb b o hb q) f0 f1 f3 f4 f5⟩
  self := fun A i s Q E st h => let ⟨⟨_, he⟩, _⟩ := st; wpAny_pyIter_enum he h
def iEnumT (K : PySem.W.Frag) (ta : TA) : TI := fun σ H R => ta σ H fun vs H1 => ∃ (a : Addr) (xs : List V), vs = [.ref a] ∧ SqT K H1 a xs ∧ R (IteT K a) H1
theorem pi_enumT {X : Cx} {e : Expr} {ta : TA} {p pos tpos : Pos} {elts : List Expr} {kk : Nat} (hg : Gl X "enumerate") (hm : X.mg "enumerate" = none) (ha : PA X [e] ta) (hs : starEach [e] X.env = [(false, eval e X.env)] := by rfl) :
    PI X (.Tuple elts kk tpos) (.Call (.Name "enumerate" p) [e] [] pos) (iEnumT X.K ta) := by
  refine ⟨fun pins s σ H R I h => ?_⟩
  refine Call_ (ld_blt I hg hm boot_enumerate (callWith_type1 (thn (ha.run pos pins s σ H _ I h) fun us s1 ⟨vs, H1, I1, r1, a, xs, ex, hq, q⟩ => ?_) hs rfl))
  subst ex
  obtain ⟨u, rfl, ru⟩ := vals1 r1
  obtain rfl : u = Value.ref a := ru
  obtain ⟨its, rv, tp, _⟩ := I1.tuple hq
  refine call_enum (begins_tuple a its.toArray) tp fun g g1 g2 g3 => wpAny_pyIter_enum g1 ?_
  have I2 : Inv X pins σ H1 { s1 with heap := g } := I1.kept (t' := s1.toks) g3
  have la : a < s1.heap.objs.size := by obtain ⟨o, e, _⟩ := tp; exact Heap.lt_size e
  refine ⟨s1.heap.objs.size + 1, [s1.heap.objs.size + 1, s1.heap.objs.size], _, _, H1, rfl, I2, turn_enumT a (s1.heap.objs.size + 1) s1.heap.objs.size, ⟨⟨.none, g1⟩, ⟨_, g2, rfl, rfl⟩, Nat.succ_ne_self _, Nat.ne_of_gt la, Nat.ne_of_gt (Nat.lt_succ_of_lt la)⟩, fun b hb => ?_, q⟩
  have lb : s1.heap.objs.size ≤ b := by
    rcases (by simpa using hb : b = s1.heap.objs.size + 1 ∨ b = s1.heap.objs.size) with rfl | rfl
    · exact Nat.le_succ _
    · exact Nat.le_refl _
  exact I1.fpOk lb (I1.hok.fresh lb)
theorem walk_enumT {K : PySem.W.Frag} {a : Addr} {xs : List V} : Walk (IteT K a) xs.length (fun H => SqT K H a xs) (YPair (fun i => some (.int (i : Nat))) (fun i => xs[i]?)) :=
  ⟨fun i _ hi q => ⟨xs, xs[i], q, List.getElem?_eq_getElem hi⟩, fun _ q => ⟨xs, q, Nat.le_refl _⟩, fun i H v H' _ q ⟨T, x, h1, h2, h3, h4⟩ => ⟨T, .int (i : Nat), x, h1, h2, h3, rfl, h4 xs q⟩⟩
theorem lc_enumT {K : PySem.W.Frag} {a : Addr} {xs : List V} {tt : TT} {te : TE} {i j : Nat} (hij : i ≠ j) {σ : L2.St} {H1 : Hp} {D : Addr} {Q : Hp → Prop} (p : Nat → Bool) (f : Nat → V) (hx : xs.length < sizeLine) (hD : H1 D = none) (hG : ∀ H, Same H1 H → SqT K H a xs)
    (ht : ∀ (k : Nat) (x : V) (H : Hp) (R : Bool → Hp → Prop), xs[k]? = some x → Same H1 H → (∀ H', Same H H' → R (p k) H') → tt (((wipe σ [i, j]).set i (some (.int (k : Nat)))).set j (some x)) H R)
    (he : ∀ (k : Nat) (x : V) (H : Hp) (R : V → Hp → Prop), xs[k]? = some x → p k = true → Same H1 H → (∀ H', Same H H' → R (f k) H') → te (((wipe σ [i, j]).set i (some (.int (k : Nat)))).set j (some x)) H R)
    (hd : ∀ H, Same H1 H → H D = some (.lst (((List.range xs.length).filter p).map f)) → Q H) :
    ∃ W : Nat → Nat → Hp → Prop, (∃ m, W 0 m (L2.upd H1 D (.lst []))) ∧ ∀ k m H, W k m H →
      ((IteT K a).stop k H ∧ Q H) ∨ ((IteT K a).go k H ∧ ∃ Nx : Hp → Prop, (∀ H', Nx H' → ∃ m', m' < m ∧ W (k + 1) m' H') ∧ ∀ x H', (IteT K a).yld k H x H' → gTup K 2 (gCons (gName i) (gCons (gName j) gNil)) x (wipe σ [i, j]) H' fun σ2 H2 => wipe σ2 [i, j] = wipe σ [i, j] ∧ tt σ2 H2 fun b H3 =>
        if b = true then te σ2 H3 fun y H4 => ∃ acc, H4 D = some (.lst acc) ∧ acc.length < sizeLine ∧ Nx (L2.upd H4 D (.lst (acc ++ [y]))) else Nx H3) := by
  refine lc_it (walk_enumT (K := K) (a := a) (xs := xs)) (fun k H => Same H1 H ∧ H D = some (.lst (((List.range k).filter p).map f))) ⟨Same.upd hD, by rw [upd_same]; simp⟩ (fun _ H _ h => hG H h.1) ?_ ?_
  · rintro k x H H' hk ⟨s1, eD⟩ ⟨T, ki, y, rfl, hT, rfl, h1, h2⟩
    cases Option.some.inj h1
    have sT : Same H (L2.upd H T (.tup [.int (k : Nat), y])) := Same.upd hT
    refine ⟨T, [.int (k : Nat), y], rfl, SqT.of upd_same, rfl, _, _, rfl, _, _, rfl, rfl, wipe2 hij _ _, ?_⟩
    have ll : (((List.range k).filter p).map f).length < sizeLine := by
      rw [List.length_map]
      have := List.length_filter_le p (List.range k)
      rw [List.length_range] at this
      omega
    have s0 := s1.trans sT
    have eD0 := sT _ _ eD
    generalize L2.upd H T (.tup [.int (k : Nat), y]) = H0 at s0 eD0
    refine ht k y _ _ h2 s0 (fun H3 s3 => ?_)
    have eD3 := s3 _ _ eD0
    have s13 := s0.trans s3
    refine ite2 (fun hp => ?_) (fun hp => ?_)
    · refine he k y _ _ h2 hp s13 (fun H4 s4 => ⟨_, s4 _ _ eD3, ll, ?_, ?_⟩)
      · intro b o e
        have hb : b ≠ D := ne_of_none e hD
        rw [upd_ne hb]
        exact s4 _ _ (s13 _ _ e)
      · rw [upd_same, List.range_succ, List.filter_append, List.map_append]
        congr 2
        congr 1
        have : [k].filter p = [k] := by simp [hp]
        rw [this]
        rfl
    · refine ⟨s13, ?_⟩
      rw [List.range_succ, List.filter_append, List.map_append]
      have : [k].filter p = [] := by simp [hp]
      rw [this]
      simpa using eD3
  · rintro H ⟨s1, eD⟩
    exact hd H s1 eD
end NG

set_option maxRecDepth 100000
set_option maxHeartbeats 400000
namespace NW
open PySem L2 NG TR LamX
abbrev sCN : Stmt := top 24
abbrev sCF : Stmt := top 30
abbrev sTreeI : Stmt := inClass (top 22) 0
structure TxtT (K : PySem.W.Frag) (mg : Str → Option Value) (fET fFF fCN fCF : Addr) : Prop where
  m_enumerate : mg "enumerate" = none
  g_et : mg "entered_times" = some (.ref fET)
  kp_et : PySem.W.keepIn K (.ref fET) = true
  g_ff : mg "found_folders" = some (.ref fFF)
  kp_ff : PySem.W.keepIn K (.ref fFF) = true
  g_cn : mg "check_nodes" = some (.ref fCN)
  kp_cn : PySem.W.keepIn K (.ref fCN) = true
  g_cf : mg "check_folders" = some (.ref fCF)
  kp_cf : PySem.W.keepIn K (.ref fCF) = true
def spChk (K : PySem.W.Frag) (cs : Nat → Addr) : Sp := fun vs H Q _ => ∃ (T : Addr) (qs : List Addr) (nds : List Nd), vs = [.ref T] ∧ Trees K cs H T qs nds ∧ nds.length ≤ 1000 ∧ ∀ H', Same H H' → Q .non H'
section
variable {P : Program} {w : World} {K : PySem.W.Frag} {mg : Str → Option Value} {base : Heap} {fName fStep fBy fNum fAt fDigit fPool fMay fWE fStood fBad fOwner fWN fET fFF fCN fCF : Addr} {cs : Nat → Addr}
theorem scCN : FnScope ["nodes", "number", "why"] ["nodes"] (defScope sCN) := ⟨rfl, rfl, rfl, by decide +kernel, rfl, by decide +kernel, by decide +kernel⟩
theorem ok_cn {fd fdW : FuncData} (F : Fun K "check_nodes" "check_nodes" sCN fCN fd) (T : TxtK K mg fNum fAt fDigit fPool) (TG : TxtG K mg cs) (TW : TxtW K mg fMay fWE fStood fBad fOwner fWN) (GW : FnOk P w K mg base CX0 5 fWN fdW ["nodes", "number"] (spWN K cs)) (bW : Binds K fdW ["nodes", "number"] []) :
    FnOk P w K mg base CX0 6 fCN fd ["nodes"] (spChk K cs) := by
  have nd := scCN.nd
  obtain ⟨tr, gr⟩ := TG.m_ROOT
  refine F.ok scCN (fun vs H Q E h => ?_) (fun cdv A outer s H vs Q E hr h => ?_)
  · obtain ⟨T, qs, nds, rfl, _⟩ := h
    rfl
  · obtain ⟨N, qs, nds, rfl, TR, hl, k⟩ := h
    have hrW : Room 5 _ := hr
    have W := TR.wf
    have lq : (qs.map V.ref).length = nds.length := by rw [List.length_map, TR.ob.len]
    refine ⟨_, (pss_cons (ps_if (PW.pt (pw_or (pt_cmpR op_eq (pe_callB call_len_seq (by rfl) T.m_len (by decide +kernel) (pa_cons (pv 0) pa_nil)) pe_int (nomark _)) (pw_or1 (pt_not (pt_val (pe_callB call_isi (by rfl) T.m_isinstance (by decide +kernel) (pa_cons (pe_ix ix_tup (pv 0) (pe_glob (v := .int 0) (by rfl) gr ⟨_, rfl⟩) (fun _ _ => rfl)) (pa_cons (pe_glob (v := .ref (cs 0)) (by rfl) TG.m_Folder rfl) pa_nil)))))))) (pss_one ps_dead) pss_nil)
  (pss_one (ps_for PassesOwn.never rfl (pi_range1 (by rfl) T.m_range (pa_cons (pe_callB call_len_seq (by rfl) T.m_len (by decide +kernel) (pa_cons (pv 0) pa_nil)) pa_nil)) (pg_name (i := 1) nd rfl (Or.inl rfl))
  (pss_cons (ps_set (i := 2) nd rfl (Or.inl rfl) (pe_call GW hrW (by rfl) TW.g_wn TW.kp_wn bW .nil pass0 (pa_cons (pv 0) (pa_cons (pv 1) pa_nil))))
  (pss_one (ps_if (pt_cmp (pc_notN (pv 2))) (pss_one ps_dead) pss_nil)))))), ?_⟩
    refine ⟨_, rfl, N, _, rfl, .inr TR.ob.ls, rfl, _, rfl, ?_⟩
    obtain ⟨o0, es0, h0⟩ := W.base.root
    have pos : 0 < nds.length := (List.getElem?_eq_some_iff.mp h0).1
    rw [lq, show decide (V.int (nds.length : Nat) = V.int 0) = false from decide_eq_false (fun z => by injection z with z; omega)]
    obtain ⟨q0, hq0, hqr0, hO0⟩ := TR.at_ h0
    obtain ⟨dx0, E0, ps0, hi0, _⟩ := hO0
    have ty0 := TG.ty 0 (by decide)
    refine iteF ⟨_, rfl, N, _, _, _, rfl, rfl, TR.ob.ls, atI_nat hqr0, _, _, _, _, true, rfl, .own (cs 0), .base (.ins hi0 (TG.cl 0 (by decide)) ty0.c1 ty0.c2 ty0.c3 ty0.c4), TG.kit 0 0 (by decide) (by decide), _, rfl, iteF ?_⟩
    refine ⟨_, rfl, N, _, rfl, .inr TR.ob.ls, ?_⟩
    rw [lq]
    refine ⟨(nds.length : Int), rfl, by omega, by omega, for_range (n := nds.length) (fun i σ H' => (∃ v1 v2 : Option V, σ = [some (.ref N), v1, v2]) ∧ Same H H') ⟨⟨none, none, rfl⟩, Same.refl H⟩ ?_ ?_⟩
    · rintro i σ H2 hi ⟨⟨v1, v2, rfl⟩, s2⟩
      have e0 : (0 : Int) + (i : Int) = (i : Nat) := by omega
      rw [e0]
      refine ⟨_, rfl, _, rfl, N, qs, nds, i, rfl, TR.same s2, hi, fun H3 s3 => ?_⟩
      exact ⟨_, rfl, _, rfl, iteF ⟨⟨_, _, rfl⟩, s2.trans s3⟩⟩
    · rintro σ H2 ⟨⟨v1, v2, rfl⟩, s2⟩
      exact k _ s2
/-- the folders but the root -/
def subs (nds : List Nd) : List Nat := (List.range nds.length).filter fun k => decide (k ≠ 0) && folB nds k
theorem mem_subs {nds : List Nd} {k : Nat} (h : k ∈ subs nds) : 0 < k ∧ ∃ o es, nds[k]? = some (.fol o es) := by
  obtain ⟨_, h2⟩ := List.mem_filter.mp h
  rw [Bool.and_eq_true] at h2
  have := of_decide_eq_true h2.1
  exact ⟨by omega, folB_iff.mp h2.2⟩
theorem scCF : FnScope ["nodes", "folders", "entered", "number", "found", "node"] ["nodes"] (defScope sCF) := ⟨rfl, rfl, rfl, by decide +kernel, rfl, by decide +kernel, by decide +kernel⟩
theorem ok_cf {fd fdE fdF : FuncData} (F : Fun K "check_folders" "check_folders" sCF fCF fd) (T : TxtK K mg fNum fAt fDigit fPool) (T2 : TxtT K mg fET fFF fCN fCF) (TG : TxtG K mg cs) (GE : FnOk P w K mg base CX0 1 fET fdE ["nodes"] (spET K cs)) (bE : Binds K fdE ["nodes"] []) (GF : FnOk P w K mg base CX0 1 fFF fdF ["nodes"] (spFound K cs)) (bF : Binds K fdF ["nodes"] []) :
    FnOk P w K mg base CX0 2 fCF fd ["nodes"] (spChk K cs) := by
  have nd := scCF.nd
  obtain ⟨tr, gr⟩ := TG.m_ROOT
  refine F.ok scCF (fun vs H Q E h => ?_) (fun cdv A outer s H vs Q E hr h => ?_)
  · obtain ⟨T, qs, nds, rfl, _⟩ := h
    rfl
  · obtain ⟨N, qs, nds, rfl, TR, hl, k⟩ := h
    have hrE : Room 1 _ := hr
    have hrF : Room 1 _ := hr
    have hu := hu_of hr
    have W := TR.wf
    have hs : sizeLine = 16777216 := sizeLine_eq
    have lq : (qs.map V.ref).length = nds.length := by rw [List.length_map, TR.ob.len]
    refine ⟨_, (pss_cons (ps_setLc (i := 1) (own := [("number", 3), ("node", 5)]) (g := gTup K 2 (gCons (gName 3) (gCons (gName 5) gNil))) (tt := tAnd (tTest (tOp rNe (tVar 3) (tC (V.int 0)))) (tB (tCB (rIsi K) (tCons (tVar 5) (tCons (tC (V.ref (cs 0))) tNil))))) rfl nd rfl rfl (sw_true rfl rfl rfl (by decide +kernel)) (pi_enumT (by rfl) T2.m_enumerate (pa_cons (pv 0) pa_nil)) (blkOk_by (N := ["nodes", "folders", "entered", "number", "found", "node"]) (sc := defScope sCF) (by decide +kernel)) (fun _ _ _ _ _ => (pg_tup (by rfl) (pgs_cons (pg_name (i := 3) nd rfl (Or.inl rfl)) (pgs_cons (pg_name (i := 5) nd rfl (Or.inl rfl)) pgs_nil)))) (fun _ _ _ _ _ => pts_one (PW.pt (pw_and (pt_cmpR op_ne (pv 3) (pe_glob (v := .int 0) (by rfl) gr ⟨_, rfl⟩) (nomark _)) (pw_and1 (pt_val (pe_callB call_isi (by rfl) T.m_isinstance (by decide +kernel) (pa_cons (pv 5) (pa_cons (pe_glob (v := .ref (cs 0)) (by rfl) TG.m_Folder rfl) pa_nil)))))))) (fun _ _ _ _ _ => (pv 3)))
  (pss_cons (ps_set (i := 2) nd rfl (Or.inl rfl) (pe_call GE hrE (by rfl) T2.g_et T2.kp_et bE .nil pass0 (pa_cons (pv 0) pa_nil)))
  (pss_cons (ps_for PassesOwn.never rfl (pi_list (pv 1)) (pg_name (i := 3) nd rfl (Or.inl rfl))
  (pss_one (ps_if (pt_cmpR op_ne (pe_ix ix_list (pv 2) (pv 3) (fun _ _ => rfl)) pe_int (nomark _)) (pss_one ps_dead) pss_nil)))
  (pss_cons (ps_set (i := 4) nd rfl (Or.inl rfl) (pe_call GF hrF (by rfl) T2.g_ff T2.kp_ff bF .nil pass0 (pa_cons (pv 0) pa_nil)))
  (pss_one (ps_for PassesOwn.never rfl (pi_list (pv 1)) (pg_name (i := 3) nd rfl (Or.inl rfl))
  (pss_one (ps_if (pt_cmp (pc_dnotin hu (pv 3) (pv 4))) (pss_one ps_dead) pss_nil)))))))), ?_⟩
    refine ⟨_, rfl, N, _, rfl, TR.ob.ls, fun D hD => ?_⟩
    refine lc_enumT (K := K) (a := N) (xs := qs.map V.ref) (i := 3) (j := 5) (by decide) (fun k => decide (k ≠ 0) && folB nds k) (fun i => V.int (i : Nat)) (by omega) hD (fun H' s => Same.sqT s TR.ob.ls) (fun i x H' R hx s hR => ?_) (fun i x H' R _ _ s hR => ⟨_, rfl, hR _ (Same.refl _)⟩) (fun H1 s1 e1 => ?_)
    · have hi : i < nds.length := by rw [← lq]; exact (List.getElem?_eq_some_iff.mp hx).1
      have hn : nds[i]? = some nds[i] := List.getElem?_eq_getElem hi
      generalize nds[i] = y at hn
      obtain ⟨q, hq, hqr, hO⟩ := (TR.same s).at_ hn
      have : x = .ref q := by rw [hqr] at hx; exact (Option.some.inj hx).symm
      subst this
      obtain ⟨dx, fs, hins, _⟩ := obj_ins hO
      have ci := clsI_lt y
      have ty := TG.ty _ ci
      refine ⟨_, rfl, rfl, _, rfl, ?_⟩
      have e1 : (!decide (V.int (i : Nat) = V.int 0)) = decide (i ≠ 0) := by
        by_cases e : i = 0
        · subst e; rfl
        · rw [decide_eq_false (fun z => by injection z with z; omega), decide_eq_true e]; rfl
      rw [e1]
      refine ite2 (fun c => ?_) (fun c => ?_)
      · refine ⟨_, rfl, _, _, _, _, decide (clsI y = 0), rfl, .own (cs 0), .base (.ins hins (TG.cl _ ci) ty.c1 ty.c2 ty.c3 ty.c4), TG.kit _ 0 ci (by decide), _, rfl, ?_⟩
        have e2 : decide (clsI y = 0) = (decide (i ≠ 0) && folB nds i) := by
          rw [c, Bool.true_and, folB_at hn]
          cases y <;> rfl
        rw [e2]
        exact hR _ (Same.refl _)
      · have e2 : false = (decide (i ≠ 0) && folB nds i) := by
          have : decide (i ≠ 0) = false := by simpa using c
          rw [this]; rfl
        rw [e2]
        exact hR _ (Same.refl _)
    · rw [lq] at e1
      replace e1 : H1 D = some (.lst ((subs nds).map fun i => V.int (i : Nat))) := e1
      refine ⟨_, rfl, N, qs, nds, rfl, TR.same s1, hl, fun H2 D2 s2 e2 => ?_⟩
      have e12 := s2 _ _ e1
      refine ⟨_, rfl, D, rfl, ⟨_, SqL.of e12⟩, for_list (K := K) (a := D) (xs := (subs nds).map fun i => V.int (i : Nat)) (fun i σ H' => (∃ v3 v4 v5 : Option V, σ = [some (.ref N), some (.ref D), some (.ref D2), v3, v4, v5]) ∧ H' = H2) ⟨⟨_, _, _, rfl⟩, rfl⟩ (fun i σ H' _ h => by rw [h.2]; exact SqL.of e12) ?_ ?_⟩
      · rintro i x σ H' hx ⟨⟨v3, v4, v5, rfl⟩, rfl⟩
        rw [List.getElem?_map] at hx
        cases es : (subs nds)[i]? with
        | none => rw [es] at hx; cases hx
        | some j =>
          rw [es] at hx
          cases Option.some.inj hx
          obtain ⟨j0, o, ee, hj⟩ := mem_subs (List.mem_of_getElem? es)
          have jl := (List.getElem?_eq_some_iff.mp hj).1
          refine ⟨_, rfl, _, rfl, D2, _, _, _, rfl, rfl, SqL.of e2, atI_nat (tally_get _ jl), rfl, _, rfl, ?_⟩
          rw [W.once j _ j0 hj rfl]
          exact iteF ⟨⟨_, _, _, rfl⟩, rfl⟩
      · rintro σ H' ⟨⟨v3, v4, v5, rfl⟩, rfl⟩
        refine ⟨_, rfl, N, qs, nds, rfl, (TR.same (s1.trans s2)).ob, W, hl, fun D3 kvs H3 s3 e3 hk => ?_⟩
        have e13 := s3 _ _ e12
        refine ⟨_, rfl, D, rfl, ⟨_, SqL.of e13⟩, for_list (K := K) (a := D) (xs := (subs nds).map fun i => V.int (i : Nat)) (fun i σ H' => (∃ v3 v5 : Option V, σ = [some (.ref N), some (.ref D), some (.ref D2), v3, some (.ref D3), v5]) ∧ H' = H3) ⟨⟨_, _, rfl⟩, rfl⟩ (fun i σ H' _ h => by rw [h.2]; exact SqL.of e13) ?_ ?_⟩
        · rintro i x σ H' hx ⟨⟨v3, v5, rfl⟩, rfl⟩
          rw [List.getElem?_map] at hx
          cases es : (subs nds)[i]? with
          | none => rw [es] at hx; cases hx
          | some j =>
            rw [es] at hx
            cases Option.some.inj hx
            obtain ⟨j0, o, ee, hj⟩ := mem_subs (List.mem_of_getElem? es)
            have hv := hk j ⟨o, ee, hj⟩
            refine ⟨_, rfl, _, rfl, D3, _, rfl, DGet.k (k := Sum.inl (j : Int)) e3, _, rfl, ?_⟩
            rw [hv]
            exact iteF ⟨⟨_, _, rfl⟩, rfl⟩
        · rintro σ H' ⟨⟨v3, v5, rfl⟩, rfl⟩
          exact k _ (s1.trans (s2.trans s3))
end
end NW

set_option maxRecDepth 100000
set_option maxHeartbeats 400000
namespace NW
open PySem L2 NG TR LamX
/-- all but lists and tables -/
def ExtX (H H' : Hp) : Prop := ∀ b o, H b = some o → (∀ xs, o ≠ .lst xs) → (∀ ps, o ≠ .tbl ps) → H' b = some o
theorem ExtX.of {H H' : Hp} (e : ExtN H H') : ExtX H H' := fun b o h _ n => e b o h n
theorem ExtX.sqT {K : PySem.W.Frag} {H H' : Hp} {a : Addr} {xs : List V} (e : ExtX H H') (h : SqT K H a xs) : SqT K H' a xs := by
  rcases h with (h | ⟨o, h⟩) | h
  · exact .inl (.inl (e _ _ h (fun _ z => by cases z) (fun _ z => by cases z)))
  · exact .inl (.inr ⟨o, e _ _ h (fun _ z => by cases z) (fun _ z => by cases z)⟩)
  · exact .inr h
theorem ObjAt.ext {K : PySem.W.Frag} {cs : Nat → Addr} {H H' : Hp} {q : Addr} {nd : Nd} (h : ObjAt K cs H q nd) (e : ExtX H H') : ObjAt K cs H' q nd := by
  have i : ∀ {b C dx fs}, H b = some (.ins C dx fs) → H' b = some (.ins C dx fs) := fun h => e _ _ h (fun _ z => by cases z) (fun _ z => by cases z)
  cases nd with
  | fol o es =>
    obtain ⟨dx, E, ps, h1, h2, h3, h4⟩ := h
    exact ⟨dx, E, ps, i h1, h2.keep (fun o z => e _ _ z (fun _ q => by cases q) (fun _ q => by cases q)), h3, fun k p en a b => let ⟨x, y, z⟩ := h4 k p en a b; ⟨x, y, e.sqT z⟩⟩
  | fil o => exact let ⟨dx, h⟩ := h; ⟨dx, i h⟩
  | lnk o t => exact let ⟨dx, h⟩ := h; ⟨dx, i h⟩
  | gon o ab => exact let ⟨dx, h⟩ := h; ⟨dx, i h⟩
theorem extX_lst {H : Hp} {D : Addr} {xs ys : List V} (e : H D = some (.lst xs)) : ExtX H (upd H D (.lst ys)) := fun b o h n _ => by
  rw [upd_ne (fun z => n xs (by rw [z, e] at h; exact (Option.some.inj h).symm))]
  exact h
theorem tabs_lst {T : List (Addr × Str)} {H : Hp} {D : Addr} {xs ys : List V} (t : Tabs T H) (e : H D = some (.lst xs)) : Tabs T (upd H D (.lst ys)) := fun p hp => by
  obtain ⟨ps, a1, a2, a3⟩ := t p hp
  refine ⟨ps, by rw [upd_ne (ne_of a1 e (fun z => by cases z))]; exact a1, a2, fun pos cv hc => ?_⟩
  obtain ⟨c, e1, e2⟩ := a3 pos cv hc
  exact ⟨c, e1, by rw [upd_ne (ne_of e2 e (fun z => by unfold CodeO at z; cases z))]; exact e2⟩
/-- a tree in the heap -/
def TreeAt (K : PySem.W.Frag) (cs : Nat → Addr) (CT : Addr) (H : Hp) (t : Addr) (qs : List Addr) (nds : List Nd) : Prop := ∃ dx T, H t = some (.ins CT dx (fl1 "nodes" (.ref T))) ∧ Trees K cs H T qs nds
theorem TreeAt.same {K : PySem.W.Frag} {cs : Nat → Addr} {CT : Addr} {H H' : Hp} {t : Addr} {qs : List Addr} {nds : List Nd} (h : TreeAt K cs CT H t qs nds) (s : Same H H') : TreeAt K cs CT H' t qs nds :=
  let ⟨dx, T, h1, h2⟩ := h; ⟨dx, T, s _ _ h1, h2.same s⟩
def spTreeI (K : PySem.W.Frag) (cs : Nat → Addr) (CT : Addr) : Sp := fun vs H Q _ => ∃ (p dx L : Addr) (qs : List Addr) (nds : List Nd), vs = [.ref p, .ref L] ∧ H p = some (.ins CT dx []) ∧ SqL K H L (qs.map V.ref) ∧ qs.length = nds.length ∧ (∀ (i : Nat) (q : Addr) (nd : Nd), qs[i]? = some q → nds[i]? = some nd → ObjAt K cs H q nd ∧ q ≠ p) ∧ WF LinkText PL nds ∧ nds.length ≤ 1000 ∧
  ∀ H', But p H H' → TreeAt K cs CT H' p qs nds → Q .non H'
section
variable {P : Program} {w : World} {K : PySem.W.Frag} {mg : Str → Option Value} {base : Heap} {fName fStep fBy fNum fAt fDigit fPool fMay fWE fStood fBad fOwner fWN fET fFF fCN fCF f CT P0 : Addr} {cs : Nat → Addr}
theorem scTreeI : FnScope ["self", "nodes"] ["self", "nodes"] (defScope sTreeI) := ⟨rfl, rfl, rfl, by decide +kernel, rfl, by decide +kernel, by decide +kernel⟩
theorem ok_treeI {fd fdC fdF : FuncData} (F : Fun K "__init__" "Tree.__init__" sTreeI f fd) (TS : TxtS K mg fBy) (T2 : TxtT K mg fET fFF fCN fCF) (cl : Cls K CT) (h1 : NoAttr K CT "nodes") (GC : FnOk P w K mg base CX0 6 fCN fdC ["nodes"] (spChk K cs)) (bC : Binds K fdC ["nodes"] [])
    (GF : FnOk P w K mg base CX0 2 fCF fdF ["nodes"] (spChk K cs)) (bF : Binds K fdF ["nodes"] []) : FnOk P w K mg base CX0 7 f fd ["self", "nodes"] (spTreeI K cs CT) := by
  have nd := scTreeI.nd
  refine F.ok scTreeI (fun vs H Q E h => ?_) (fun cdv A outer s H vs Q E hr h => ?_)
  · obtain ⟨p, dx, L, qs, nds, rfl, _⟩ := h
    rfl
  · obtain ⟨p, dx, L, qs, nds, rfl, hp, hL, ql, hO, W, hl, k⟩ := h
    have hrC : Room 6 _ := hr
    have hrF : Room 2 _ := hr.mono (by decide)
    refine ⟨_, (pss_cons (ps_fld (pv 0) (pe_callTy call_tuple_of (by rfl) TS.m_tuple (by decide +kernel) (pa_cons (pv 1) pa_nil)) rfl)
  (pss_cons (ps_expr (pe_call GC hrC (by rfl) T2.g_cn T2.kp_cn bC .nil pass0 (pa_cons (pe_fld (pv 0) rfl) pa_nil)))
  (pss_one (ps_expr (pe_call GF hrF (by rfl) T2.g_cf T2.kp_cf bF .nil pass0 (pa_cons (pe_fld (pv 0) rfl) pa_nil)))))), ?_⟩
    refine ⟨_, rfl, L, _, rfl, .inl ⟨hL, fun T hT => ?_⟩⟩
    have sT := NG.Same.upd (o := HO.tup (qs.map V.ref)) hT
    have eT : (upd H T (HO.tup (qs.map V.ref))) T = some (.tup (qs.map V.ref)) := upd_same
    have hpT := sT _ _ hp
    generalize upd H T (HO.tup (qs.map V.ref)) = H1 at sT eT hpT ⊢
    refine ⟨_, rfl, p, CT, dx, _, rfl, hpT, cl, h1, (by show 0 < 1000; decide), ?_⟩
    have nTp : T ≠ p := ne_of eT hpT (fun z => by cases z)
    have b2 : But p H (upd H1 p (.ins CT dx (fl1 "nodes" (.ref T)))) := (But.ofSame sT).upd
    have ep : (upd H1 p (.ins CT dx (fl1 "nodes" (.ref T)))) p = some (.ins CT dx (fl1 "nodes" (.ref T))) := upd_same
    have eT2 : (upd H1 p (.ins CT dx (fl1 "nodes" (.ref T)))) T = some (.tup (qs.map V.ref)) := by rw [upd_ne nTp]; exact eT
    have TR : Trees K cs (upd H1 p (.ins CT dx (fl1 "nodes" (.ref T)))) T qs nds := by
      refine ⟨⟨SqT.of eT2, ql, fun i q x a b => ?_⟩, W⟩
      obtain ⟨h2, h3⟩ := hO i q x a b
      have bs : ∀ {a xs}, SqT K H a xs → SqT K (upd H1 p (.ins CT dx (fl1 "nodes" (.ref T)))) a xs := fun h => But.sqT hp b2 h
      cases x with
      | fol o es =>
        obtain ⟨dx', E, ps, h4, h5, h6, h7⟩ := h2
        exact ⟨dx', E, ps, b2 _ _ h4 h3, h5.keep (fun o e => b2 _ _ e (ne_of e hp (fun z => by cases z))), h6, fun k p en a b => let ⟨x, y, z⟩ := h7 k p en a b; ⟨x, y, bs z⟩⟩
      | fil o => exact let ⟨dx', h4⟩ := h2; ⟨dx', b2 _ _ h4 h3⟩
      | lnk o t => exact let ⟨dx', h4⟩ := h2; ⟨dx', b2 _ _ h4 h3⟩
      | gon o ab => exact let ⟨dx', h4⟩ := h2; ⟨dx', b2 _ _ h4 h3⟩
    show tSeq _ _ _ _ (upd H1 p (.ins CT dx (fl1 "nodes" (.ref T))))
    generalize upd H1 p (.ins CT dx (fl1 "nodes" (.ref T))) = H2 at b2 ep eT2 TR ⊢
    refine ⟨_, rfl, p, CT, dx, _, _, rfl, ep, cl, h1, (by unfold fl1; rw [lookup_putF, if_pos rfl]), T, qs, nds, rfl, TR, hl, fun H3 s3 => ?_⟩
    refine ⟨_, rfl, p, CT, dx, _, _, rfl, s3 _ _ ep, cl, h1, (by unfold fl1; rw [lookup_putF, if_pos rfl]), T, qs, nds, rfl, TR.same s3, hl, fun H4 s4 => ?_⟩
    exact k H4 (b2.same (s3.trans s4)) ⟨dx, T, s4 _ _ (s3 _ _ ep), TR.same (s3.trans s4)⟩
end
end NW


set_option maxRecDepth 100000
set_option maxHeartbeats 4000000
/-! == and != by an own __eq__, both answers -/
namespace NG
open PySem PySem.W PySem.Calls PyProof.Rows Builtin
section
variable {prog : Program} {w : World} {A : Around} {E : Value → Shared → Prop} {s : Shared} {K : Frag} {x C f : Addr} {ox : Obj} {od : Option Obj} {name : Str} {b tb : Value}
theorem ifBound_B {M : Model} {id : String} {args : List Value} {Q : Option Value → Shared → Prop} (X : K.In s.heap) (I : InstAt s.heap x ox C od) (hs : findIn K (.ref C) name = some (some (.builtin id)))
    (hb : ∀ self, bindSpecial (.builtin id) self = pure (.builtin id, [self]))
    (h : wpAny M A (call (.builtin id) (.ref x :: args)) (fun v => Q (some v)) E s) : wpAny M A (callSpecialIfBound? (.ref x) name args) Q E s := by
  simp only [callSpecialIfBound?, bindSpecialIfBound?]
  refine wpAny_holding (wpAny_bind (wpAny_bind (wpAny_bind (I.type.here ((looks_findIn X hs).here ?_)))))
  simp only [hb]
  refine wpAny_bind (wpAny_askSetting (wpAny_ite ?_))
  have fin : wpAny M A (call (.builtin id) ([.ref x] ++ args) >>= fun v => pure (some v)) Q E s := wpAny_bind (wpAny_mono h (fun v s' h' => wpAny_pure h') fun _ _ h' => h')
  split
  · exact wpAny_bind (wpAny_pure (wpAny_pure fin))
  · exact wpAny_tryCatch (wpAny_bind (wpAny_pure (wpAny_pure fin)))
theorem objNe_K (X : K.In s.heap) (I : InstAt s.heap x ox C od) (hs : findIn K (.ref C) "__eq__" = some (some (.ref f))) (hf : isFn K (.ref f) = true) (hu : A.units < cLine) {Q : Fin → Shared → Prop}
    (hcall : wpAny (model prog w) A (call (.ref f) [.ref x, b]) (fun v s' => ∃ r, v = .bool r ∧ Q (.done (.ret (.bool (!r)))) s') E s) :
    wpAny (model prog w) A (Builtin.«object.__ne__» ⟨[.ref x, b], []⟩) Q E s := by
  obtain ⟨h, g, d, t, os⟩ := s
  unfold Builtin.«object.__ne__»
  repeat (first
    | with_reducible refine wpAny_cRoomFor hu ?_
    | (refine wpAny_bind (m := callSpecialIfBound? (.ref x) (Str.ofString "__eq__") [b])
        (ifBound_K X I hs hf (wpAny_mono hcall (fun r s' hr => by
          obtain ⟨b, rfl, hq⟩ := hr
          repeat (first | exact hq | exact wpAny_pure hq | exact wpAny_truthy_bool hq | (refine wpAny_bind (m := truthy (.bool _)) (wpAny_truthy_bool ?_)) | wp_step)) fun _ _ e => e)))
    | wp_step)
theorem ne_K {Q : Value → Shared → Prop} (hu : A.units + 1 < cLine) (X : K.In s.heap) (I : InstAt s.heap x ox C od) (hb : Looks (model prog w) s.heap (typeOf b) tb) (hn : notFirst K C tb = true)
    (ho : subIn K (.ref C) (.type "object") = some true) (hne : findIn K (.ref C) "__ne__" = some (some (.builtin "object.__ne__")))
    (hs : findIn K (.ref C) "__eq__" = some (some (.ref f))) (hf : isFn K (.ref f) = true)
    (h : wpAny (model prog w) A.in1 (call (.ref f) [.ref x, b]) (fun v s' => ∃ r, v = .bool r ∧ Q (.bool (!r)) s') E s) : wpAny (model prog w) A (richCompare .NotEq (.ref x) b) Q E s := by
  have one : wpAny (model prog w) A (tryCompare (.ref x) "__ne__" b) (fun r s' => ∃ v, r = some v ∧ Q v s') E s := by
    unfold tryCompare
    refine wpAny_bind (ifBound_B X I hne F.cmp_object.ne.bind (wpAny_call (codeAny_call_builtin F.cmp_object.ne.plain F.cmpEntry_ne
      (check_slot F.cmpKind_ne F.cmpSplit_ne (I.type.andThen (looks_subIn X ho)) (F.cmpArgs_ne _ _) (objNe_K (A := A.in1) X I hs hf (by exact hu) (wpAny_mono h (fun v s' hv => ?_) fun _ _ e => e))))))
    obtain ⟨r, rfl, hq⟩ := hv
    first | exact ⟨r, rfl, wpAny_pure ⟨_, rfl, hq⟩⟩ | exact ⟨r, rfl, wpAny_pure (wpAny_pure ⟨_, rfl, hq⟩)⟩ | exact ⟨r, rfl, _, rfl, hq⟩
  unfold richCompare
  simp only [oneThing_ref]
  refine wpAny_holding (wpAny_bind (wpAny_cRoomFor (Nat.lt_of_succ_lt hu) ?_))
  rw [cmpInfo_NotEq]
  dsimp only
  refine wpAny_bind (I.type.here (wpAny_bind (hb.here ?_)))
  split
  · rename_i q
    have e : subIn K tb (.ref C) = some false := by
      rcases Bool.or_eq_true_iff.mp hn with e | e
      · rw [beq_iff_eq.mp e] at q; simp at q
      · exact beq_iff_eq.mp e
    refine wpAny_bind ((looks_subIn X e).here ?_)
    simp only [Bool.false_eq_true, if_false]
    refine wpAny_bind (wpAny_mono one (fun r s' z => ?_) fun _ _ e => e)
    obtain ⟨v, rfl, hq⟩ := z
    exact wpAny_pure hq
  · refine wpAny_bind (wpAny_pure ?_)
    simp only [Bool.false_eq_true, if_false]
    refine wpAny_bind (wpAny_mono one (fun r s' z => ?_) fun _ _ e => e)
    obtain ⟨v, rfl, hq⟩ := z
    exact wpAny_pure hq
end
end NG

namespace NG
open PySem L2
section
variable {X : Cx} {n : Nat} {C f : Addr} {fd : FuncData} {ps : List Str} {sp : Sp} {CX : CXT} {E : XK}
/-- x == y, x of a class with its own == : what that def promises of the two -/
def rOwn (K : PySem.W.Frag) (C : Addr) (sp : Sp) (E : XK) (g : Bool → Bool) : R2 := fun x y H Q => ∃ (a dx : Addr) (fs : List (Str × V)) (t : Value), x = .ref a ∧ H a = some (.ins C dx fs) ∧ TyX K H y t ∧ PySem.W.notFirst K C t = true ∧ sp [x, y] H (fun v H' => ∃ k, v = .bl k ∧ Q (.bl (g k)) H') E
theorem own_run (F : FnOk X.prog X.w X.K X.mg X.base CX n f fd ps sp) (hb : Binds X.K fd ps []) (hx : Passes CX X E) {A : Around} {pins : List (Addr × Obj)} {s : Shared} {σ : St} {H : Hp} {a : Addr} {y : V} {u : Value} {R : Bool → Hp → Prop} (sb : Sub X n A) (I : Inv X pins σ H s) (ry : RelV y u)
    (hsp : sp [.ref a, y] H (fun v H' => ∃ k, v = .bl k ∧ R k H') E) :
    wpAny (model X.prog X.w) A (call (.ref f) [.ref a, u]) (fun v s' => ∃ k, v = .bool k ∧ ∃ H', Inv X pins σ H' s' ∧ R k H') X.xe s := by
  have e0 : Env0 X.prog X.w X.K X.mg X.base A X.stack s H := by
    have e := I.env0
    exact ⟨by rw [sb.fr]; exact e.frames, e.mod, e.bs, e.bsz, e.funs, e.frf, e.hok, e.bare⟩
  have hl := F.len _ _ _ _ hsp
  have r2 : Vals [V.ref a, y] [Value.ref a, u] := .cons rfl (.cons ry .nil)
  refine wpAny_call (codeAny_mono (F.run A X.stack s H ⟨[.ref a, u], []⟩ [.ref a, u] [.ref a, y] _ E sb.room e0 (by
    have := hb s [.ref a, u] I.kIn (by simpa using hl)
    simpa using this) r2 hsp) fun r s' hq => ?_)
  cases r with
  | error e => exact hx pins σ H s e s' I hq
  | ok fl =>
    cases fl with
    | ret w =>
      obtain ⟨z, H', I', rz, k, ez, q⟩ := I.after hq
      subst ez
      cases rz
      exact ⟨k, rfl, H', I', q⟩
    | next => exact False.elim hq
    | brk => exact False.elim hq
    | cont => exact False.elim hq
theorem op_eqOwn (F : FnOk X.prog X.w X.K X.mg X.base CX n f fd ps sp) (hr : Room n X.A) (hs : PySem.W.findIn X.K (.ref C) "__eq__" = some (some (.ref f))) (hf : PySem.W.isFn X.K (.ref f) = true) (hb : Binds X.K fd ps []) (hx : Passes CX X E) :
    OpR X (compareOp .Eq) (rOwn X.K C sp E fun k => k) := by
  intro pins s σ H x y v u Q I rx ry h
  obtain ⟨a, dx, fs, t, rfl, ha, ty, hn, hsp⟩ := h
  cases rx
  obtain ⟨mA, J, _⟩ := ins_get I.hok ha
  obtain ⟨od, J, _⟩ := J.look
  obtain ⟨P, Z, p, _⟩ := kit_of I ry ty
  obtain ⟨m, hF⟩ := I.fr
  show wpAny (model X.prog X.w) X.A (richCompare .Eq (.ref a) u) (EP X pins σ Q) X.xe s
  refine PySem.W.cmp_K (op := .Eq) (tb := t) hr.units0 hF I.ok.mod.kin J (Z.ty _ _ I.kIn p) hn hs hf ?_
  refine wpAny_mono (own_run F hb hx ⟨hr, rfl⟩ I ry hsp) (fun r s' z => ?_) fun _ _ x => x
  obtain ⟨k, rfl, H', I', q⟩ := z
  exact ⟨.bl k, H', I', rfl, q⟩
theorem op_neOwn (F : FnOk X.prog X.w X.K X.mg X.base CX n f fd ps sp) (hr : Room (n + 1) X.A) (hs : PySem.W.findIn X.K (.ref C) "__eq__" = some (some (.ref f))) (hf : PySem.W.isFn X.K (.ref f) = true)
    (ho : PySem.W.subIn X.K (.ref C) (.type "object") = some true) (hne : PySem.W.findIn X.K (.ref C) "__ne__" = some (some (.builtin "object.__ne__"))) (hb : Binds X.K fd ps []) (hx : Passes CX X E) :
    OpR X (compareOp .NotEq) (rOwn X.K C sp E fun k => !k) := by
  intro pins s σ H x y v u Q I rx ry h
  obtain ⟨a, dx, fs, t, rfl, ha, ty, hn, hsp⟩ := h
  cases rx
  obtain ⟨mA, J, _⟩ := ins_get I.hok ha
  obtain ⟨od, J, _⟩ := J.look
  obtain ⟨P, Z, p, _⟩ := kit_of I ry ty
  show wpAny (model X.prog X.w) X.A (richCompare .NotEq (.ref a) u) (EP X pins σ Q) X.xe s
  refine ne_K (tb := t) (by have := hr.un; omega) I.kIn J (Z.ty _ _ I.kIn p) hn ho hne hs hf ?_
  refine wpAny_mono (own_run F hb hx (A := X.A.in1) ⟨hr.in1, rfl⟩ I ry hsp) (fun r s' z => ?_) fun _ _ x => x
  obtain ⟨k, rfl, H', I', q⟩ := z
  exact ⟨k, rfl, .bl (!k), H', I', rfl, q⟩
end
end NG

set_option maxRecDepth 100000
set_option maxHeartbeats 1000000
/-! deeds, looks and results as things: fields that are data, made and compared -/
namespace NW
open PySem L2 NG TR LamX
mutual
theorem dp_same {K : PySem.W.Frag} {H H' : Hp} (s : Same H H') : ∀ {v : V} {d : PyData}, Dp K H v d → Dp K H' v d
  | _, _, .non => .non
  | _, _, .bl b => .bl b
  | _, _, .int i => .int i
  | _, _, .str x => .str x
  | _, _, .lst h ha => .lst (Same.seq s h) (dps_same s ha)
  | _, _, .tup h ha => .tup (Same.sqT s h) (dps_same s ha)
theorem dps_same {K : PySem.W.Frag} {H H' : Hp} (s : Same H H') : ∀ {vs : List V} {ds : List PyData}, DpAll K H vs ds → DpAll K H' vs ds
  | _, _, .nil => .nil
  | _, _, .cons h ha => .cons (dp_same s h) (dps_same s ha)
end
/-- the fields by their names -/
def LkAll (fs : List (Str × V)) : List Str → List V → Prop
  | [], [] => True
  | n :: ns, x :: xs => fs.lookup n = some x ∧ LkAll fs ns xs
  | _, _ => False
def eqAll : List PyData → List PyData → Bool
  | [], [] => true
  | d :: ds, e :: es => PyData.eqv d e && eqAll ds es
  | _, _ => false
def shAll : List PyData → Prop
  | [] => True
  | d :: ds => SeqAt.shaped d = true ∧ shAll ds
/-- an instance at a whose fields are xs -/
def HasF (H : Hp) (C a : Addr) (ns : List Str) (xs : List V) : Prop := ∃ dx fs, H a = some (.ins C dx fs) ∧ LkAll fs ns xs
theorem HasF.same {H H' : Hp} {C a : Addr} {ns : List Str} {xs : List V} (h : HasF H C a ns xs) (s : Same H H') : HasF H' C a ns xs := let ⟨dx, fs, e, l⟩ := h; ⟨dx, fs, s _ _ e, l⟩
def spMk (C : Addr) (ns : List Str) : Sp := fun vs H Q _ => ∃ (p dx : Addr) (xs : List V), vs = .ref p :: xs ∧ xs.length = ns.length ∧ H p = some (.ins C dx []) ∧ ∀ H', But p H H' → HasF H' C p ns xs → Q .non H'
def spEqD (K : PySem.W.Frag) (C : Addr) (ns : List Str) : Sp := fun vs H Q _ => ∃ (p : Addr) (y : V) (xs : List V) (ds : List PyData), vs = [.ref p, y] ∧ HasF H C p ns xs ∧ DpAll K H xs ds ∧ shAll ds ∧
  ((∃ t, TyX K H y t ∧ PySem.W.kitOne K t (.ref C) = some false ∧ Q (.bl false) H) ∨ ∃ (q : Addr) (ys : List V) (es : List PyData), y = .ref q ∧ HasF H C q ns ys ∧ DpAll K H ys es ∧ shAll es ∧ Q (.bl (eqAll ds es)) H)
structure EqC (K : PySem.W.Frag) (C f : Addr) : Prop where
  e1 : PySem.W.findIn K (.ref C) "__eq__" = some (some (.ref f))
  e2 : PySem.W.isFn K (.ref f) = true
  e3 : PySem.W.subIn K (.ref C) (.type "object") = some true
  e4 : PySem.W.findIn K (.ref C) "__ne__" = some (some (.builtin "object.__ne__"))
theorem kit_self {K : PySem.W.Frag} {C : Addr} : PySem.W.kitOne K (.ref C) (.ref C) = some true := by unfold PySem.W.kitOne; rw [if_pos (by simp)]
theorem nf_self {K : PySem.W.Frag} {C : Addr} : PySem.W.notFirst K C (.ref C) = true := by simp [PySem.W.notFirst]
theorem hasF_up {H : Hp} {p C dx : Addr} {fs : List (Str × V)} : (upd H p (.ins C dx fs)) p = some (.ins C dx fs) := upd_same
theorem len_1 {xs : List V} (h : xs.length = 1) : ∃ x0, xs = [x0] := by
  obtain ⟨x0, r0, rfl⟩ : ∃ x r, xs = x :: r := by
    cases xs with
    | nil => simp at h
    | cons x r => exact ⟨x, r, rfl⟩
  have : r0 = [] := by
    cases r0 with
    | nil => rfl
    | cons x r => simp at h
  subst this
  exact ⟨x0, rfl⟩
theorem len_2 {xs : List V} (h : xs.length = 2) : ∃ x0 x1, xs = [x0, x1] := by
  obtain ⟨x0, r0, rfl⟩ : ∃ x r, xs = x :: r := by
    cases xs with
    | nil => simp at h
    | cons x r => exact ⟨x, r, rfl⟩
  obtain ⟨x1, r1, rfl⟩ : ∃ x r, r0 = x :: r := by
    cases r0 with
    | nil => simp at h
    | cons x r => exact ⟨x, r, rfl⟩
  have : r1 = [] := by
    cases r1 with
    | nil => rfl
    | cons x r => simp at h
  subst this
  exact ⟨x0, x1, rfl⟩
theorem len_3 {xs : List V} (h : xs.length = 3) : ∃ x0 x1 x2, xs = [x0, x1, x2] := by
  obtain ⟨x0, r0, rfl⟩ : ∃ x r, xs = x :: r := by
    cases xs with
    | nil => simp at h
    | cons x r => exact ⟨x, r, rfl⟩
  obtain ⟨x1, r1, rfl⟩ : ∃ x r, r0 = x :: r := by
    cases r0 with
    | nil => simp at h
    | cons x r => exact ⟨x, r, rfl⟩
  obtain ⟨x2, r2, rfl⟩ : ∃ x r, r1 = x :: r := by
    cases r1 with
    | nil => simp at h
    | cons x r => exact ⟨x, r, rfl⟩
  have : r2 = [] := by
    cases r2 with
    | nil => rfl
    | cons x r => simp at h
  subst this
  exact ⟨x0, x1, x2, rfl⟩
theorem len_4 {xs : List V} (h : xs.length = 4) : ∃ x0 x1 x2 x3, xs = [x0, x1, x2, x3] := by
  obtain ⟨x0, r0, rfl⟩ : ∃ x r, xs = x :: r := by
    cases xs with
    | nil => simp at h
    | cons x r => exact ⟨x, r, rfl⟩
  obtain ⟨x1, r1, rfl⟩ : ∃ x r, r0 = x :: r := by
    cases r0 with
    | nil => simp at h
    | cons x r => exact ⟨x, r, rfl⟩
  obtain ⟨x2, r2, rfl⟩ : ∃ x r, r1 = x :: r := by
    cases r1 with
    | nil => simp at h
    | cons x r => exact ⟨x, r, rfl⟩
  obtain ⟨x3, r3, rfl⟩ : ∃ x r, r2 = x :: r := by
    cases r2 with
    | nil => simp at h
    | cons x r => exact ⟨x, r, rfl⟩
  have : r3 = [] := by
    cases r3 with
    | nil => rfl
    | cons x r => simp at h
  subst this
  exact ⟨x0, x1, x2, x3, rfl⟩
section
variable {P : Program} {w : World} {K : PySem.W.Frag} {mg : Str → Option Value} {base : Heap} {C f : Addr} {fd : FuncData}
abbrev sMakeFolderI : Stmt := inClass (top 37) 0
theorem scMakeFolderI : FnScope ["self", "folder", "name", "owner"] ["self", "folder", "name", "owner"] (defScope sMakeFolderI) := ⟨rfl, rfl, rfl, by decide +kernel, rfl, by decide +kernel, by decide +kernel⟩
theorem mk_MakeFolder (F : Fun K "__init__" "MakeFolder.__init__" sMakeFolderI f fd) (cl : Cls K C) (na : ∀ n ∈ (["folder", "name", "owner"] : List Str), NoAttr K C n) : FnOk P w K mg base CX0 1 f fd ["self", "folder", "name", "owner"] (spMk C ["folder", "name", "owner"]) := by
  refine F.ok scMakeFolderI (fun vs H Q E h => ?_) (fun cdv A outer s H vs Q E hr h => ?_)
  · obtain ⟨p, dx, xs, rfl, hl, _⟩ := h
    show xs.length + 1 = _
    rw [hl]
    rfl
  · obtain ⟨p, dx, xs, rfl, hl, hp, k⟩ := h
    obtain ⟨x0, x1, x2, rfl⟩ := len_3 hl
    refine ⟨_, pss_cons (ps_fld (pv 0) (pv 1) rfl) (pss_cons (ps_fld (pv 0) (pv 2) rfl) (pss_one (ps_fld (pv 0) (pv 3) rfl))), ?_⟩
    have b0 := But.refl p H
    have l0 : ([] : List (Str × V)).length ≤ 0 := Nat.le_refl _
    refine ⟨_, rfl, _, rfl, p, C, dx, _, rfl, hp, cl, na _ (by simp), (by show [].length < 1000; omega), ?_⟩
    have b1 := b0.upd (o := .ins C dx (putF "folder" x0 []))
    have p0 : (upd H p (.ins C dx (putF "folder" x0 []))) p = some (.ins C dx (putF "folder" x0 [])) := upd_same
    generalize upd H p (.ins C dx (putF "folder" x0 [])) = H0 at b1 p0 ⊢
    have l1 : (putF "folder" x0 []).length ≤ 1 := by have := len_putF "folder" x0 []; omega
    have k00 : (putF "folder" x0 []).lookup ("folder" : Str) = some x0 := by rw [lookup_putF, if_pos rfl]
    generalize putF "folder" x0 [] = F0 at p0 l1 k00
    refine ⟨_, rfl, _, rfl, p, C, dx, _, rfl, p0, cl, na _ (by simp), (by show F0.length < 1000; omega), ?_⟩
    have b2 := b1.upd (o := .ins C dx (putF "name" x1 F0))
    have p1 : (upd H0 p (.ins C dx (putF "name" x1 F0))) p = some (.ins C dx (putF "name" x1 F0)) := upd_same
    generalize upd H0 p (.ins C dx (putF "name" x1 F0)) = H1 at b2 p1 ⊢
    have l2 : (putF "name" x1 F0).length ≤ 2 := by have := len_putF "name" x1 F0; omega
    have k01 : (putF "name" x1 F0).lookup ("folder" : Str) = some x0 := by rw [lookup_putF, if_neg (by decide +kernel)]; exact k00
    have k11 : (putF "name" x1 F0).lookup ("name" : Str) = some x1 := by rw [lookup_putF, if_pos rfl]
    generalize putF "name" x1 F0 = F1 at p1 l2 k01 k11
    refine ⟨_, rfl, _, rfl, p, C, dx, _, rfl, p1, cl, na _ (by simp), (by show F1.length < 1000; omega), ?_⟩
    have b3 := b2.upd (o := .ins C dx (putF "owner" x2 F1))
    have p2 : (upd H1 p (.ins C dx (putF "owner" x2 F1))) p = some (.ins C dx (putF "owner" x2 F1)) := upd_same
    show Q .non (upd H1 p (.ins C dx (putF "owner" x2 F1)))
    generalize upd H1 p (.ins C dx (putF "owner" x2 F1)) = H2 at b3 p2 ⊢
    have l3 : (putF "owner" x2 F1).length ≤ 3 := by have := len_putF "owner" x2 F1; omega
    have k02 : (putF "owner" x2 F1).lookup ("folder" : Str) = some x0 := by rw [lookup_putF, if_neg (by decide +kernel)]; exact k01
    have k12 : (putF "owner" x2 F1).lookup ("name" : Str) = some x1 := by rw [lookup_putF, if_neg (by decide +kernel)]; exact k11
    have k22 : (putF "owner" x2 F1).lookup ("owner" : Str) = some x2 := by rw [lookup_putF, if_pos rfl]
    generalize putF "owner" x2 F1 = F2 at p2 l3 k02 k12 k22
    exact k _ b3 ⟨dx, _, p2, k02, k12, k22, True.intro⟩
abbrev sMakeFolderE : Stmt := inClass (top 37) 1
theorem scMakeFolderE : FnScope ["self", "other"] ["self", "other"] (defScope sMakeFolderE) := ⟨rfl, rfl, rfl, by decide +kernel, rfl, by decide +kernel, by decide +kernel⟩
theorem eq_MakeFolder (F : Fun K "__eq__" "MakeFolder.__eq__" sMakeFolderE f fd) (mi : mg "isinstance" = none) (gC : mg "MakeFolder" = some (.ref C)) (cl : Cls K C) (TC : TyC K C) (na : ∀ n ∈ (["folder", "name", "owner"] : List Str), NoAttr K C n) : FnOk P w K mg base CX0 1 f fd ["self", "other"] (spEqD K C ["folder", "name", "owner"]) := by
  refine F.ok scMakeFolderE (fun vs H Q E h => ?_) (fun cdv A outer s H vs Q E hr h => ?_)
  · obtain ⟨p, y, xs, ds, rfl, _⟩ := h
    rfl
  · obtain ⟨p, y, xs, ds, rfl, ⟨dx, fs, hp, lk⟩, dp, sh, k⟩ := h
    refine ⟨_, pss_one (ps_ret (pe_and (pe_callB call_isi (by rfl) mi (by decide +kernel) (pa_cons (pv 1) (pa_cons (pe_glob (v := .ref C) (by rfl) gC rfl) pa_nil))) (pe_and (pe_cmpR (op_eqD hr.units) (pe_fld (pv 0) rfl) (pe_fld (pv 1) rfl) (nomark _)) (pe_and (pe_cmpR (op_eqD hr.units) (pe_fld (pv 0) rfl) (pe_fld (pv 1) rfl) (nomark _)) (pe_one (pe_cmpR (op_eqD hr.units) (pe_fld (pv 0) rfl) (pe_fld (pv 1) rfl) (nomark _))))))), ?_⟩
    rcases k with ⟨t, ty, kt, k⟩ | ⟨q, ys, es, rfl, ⟨dy, gs, hq, lk2⟩, dp2, sh2, k⟩
    · exact ⟨_, rfl, y, _, t, _, false, rfl, .own C, ty, kt, _, rfl, iteF k⟩
    · refine ⟨_, rfl, _, _, _, _, true, rfl, .own C, .base (.ins hq cl TC.c1 TC.c2 TC.c3 TC.c4), kit_self, _, rfl, iteT ?_⟩
      obtain ⟨x0, xr0, rfl⟩ : ∃ a b, xs = a :: b := by
        cases xs with
        | nil => simp [LkAll] at lk
        | cons a b => exact ⟨a, b, rfl⟩
      obtain ⟨x1, xr1, rfl⟩ : ∃ a b, xr0 = a :: b := by
        cases xr0 with
        | nil => simp [LkAll] at lk
        | cons a b => exact ⟨a, b, rfl⟩
      obtain ⟨x2, xr2, rfl⟩ : ∃ a b, xr1 = a :: b := by
        cases xr1 with
        | nil => simp [LkAll] at lk
        | cons a b => exact ⟨a, b, rfl⟩
      obtain rfl : xr2 = [] := by
        cases xr2 with
        | nil => rfl
        | cons a b => simp [LkAll] at lk
      cases dp with
      | cons dph0 dpt0 =>
      cases dpt0 with
      | cons dph1 dpt1 =>
      cases dpt1 with
      | cons dph2 dpt2 =>
      cases dpt2
      obtain ⟨lk0, lk1, lk2, -⟩ := lk
      obtain ⟨sh0, sh1, sh2, -⟩ := sh
      obtain ⟨y0, yr0, rfl⟩ : ∃ a b, ys = a :: b := by
        cases ys with
        | nil => simp [LkAll] at lk2
        | cons a b => exact ⟨a, b, rfl⟩
      obtain ⟨y1, yr1, rfl⟩ : ∃ a b, yr0 = a :: b := by
        cases yr0 with
        | nil => simp [LkAll] at lk2
        | cons a b => exact ⟨a, b, rfl⟩
      obtain ⟨y2, yr2, rfl⟩ : ∃ a b, yr1 = a :: b := by
        cases yr1 with
        | nil => simp [LkAll] at lk2
        | cons a b => exact ⟨a, b, rfl⟩
      obtain rfl : yr2 = [] := by
        cases yr2 with
        | nil => rfl
        | cons a b => simp [LkAll] at lk2
      cases dp2 with
      | cons dp2h0 dp2t0 =>
      cases dp2t0 with
      | cons dp2h1 dp2t1 =>
      cases dp2t1 with
      | cons dp2h2 dp2t2 =>
      cases dp2t2
      obtain ⟨lk20, lk21, lk22, -⟩ := lk2
      obtain ⟨sh20, sh21, sh22, -⟩ := sh2
      refine ⟨_, rfl, p, C, dx, _, _, rfl, hp, cl, na _ (by simp), lk0, _, rfl, q, C, dy, _, _, rfl, hq, cl, na _ (by simp), lk20, _, _, dph0, dp2h0, sh0, sh20, _, rfl, ?_⟩
      refine ite2 (fun h0 => ?_) (fun h0 => ?_)
      rotate_left
      · simp only [eqAll, (by simpa using h0 : PyData.eqv _ _ = false), Bool.false_and, Bool.and_false, Bool.true_and] at k
        exact k
      refine ⟨_, rfl, p, C, dx, _, _, rfl, hp, cl, na _ (by simp), lk1, _, rfl, q, C, dy, _, _, rfl, hq, cl, na _ (by simp), lk21, _, _, dph1, dp2h1, sh1, sh21, _, rfl, ?_⟩
      refine ite2 (fun h1 => ?_) (fun h1 => ?_)
      rotate_left
      · simp only [eqAll, (by simpa using h1 : PyData.eqv _ _ = false), h0, Bool.false_and, Bool.and_false, Bool.true_and] at k
        exact k
      refine ⟨_, rfl, p, C, dx, _, _, rfl, hp, cl, na _ (by simp), lk2, _, rfl, q, C, dy, _, _, rfl, hq, cl, na _ (by simp), lk22, _, _, dph2, dp2h2, sh2, sh22, ?_⟩
      simp only [eqAll, h0, h1, Bool.true_and, Bool.and_true] at k
      exact k
abbrev sMakeFileI : Stmt := inClass (top 38) 0
theorem scMakeFileI : FnScope ["self", "folder", "name", "owner"] ["self", "folder", "name", "owner"] (defScope sMakeFileI) := ⟨rfl, rfl, rfl, by decide +kernel, rfl, by decide +kernel, by decide +kernel⟩
theorem mk_MakeFile (F : Fun K "__init__" "MakeFile.__init__" sMakeFileI f fd) (cl : Cls K C) (na : ∀ n ∈ (["folder", "name", "owner"] : List Str), NoAttr K C n) : FnOk P w K mg base CX0 1 f fd ["self", "folder", "name", "owner"] (spMk C ["folder", "name", "owner"]) := by
  refine F.ok scMakeFileI (fun vs H Q E h => ?_) (fun cdv A outer s H vs Q E hr h => ?_)
  · obtain ⟨p, dx, xs, rfl, hl, _⟩ := h
    show xs.length + 1 = _
    rw [hl]
    rfl
  · obtain ⟨p, dx, xs, rfl, hl, hp, k⟩ := h
    obtain ⟨x0, x1, x2, rfl⟩ := len_3 hl
    refine ⟨_, pss_cons (ps_fld (pv 0) (pv 1) rfl) (pss_cons (ps_fld (pv 0) (pv 2) rfl) (pss_one (ps_fld (pv 0) (pv 3) rfl))), ?_⟩
    have b0 := But.refl p H
    have l0 : ([] : List (Str × V)).length ≤ 0 := Nat.le_refl _
    refine ⟨_, rfl, _, rfl, p, C, dx, _, rfl, hp, cl, na _ (by simp), (by show [].length < 1000; omega), ?_⟩
    have b1 := b0.upd (o := .ins C dx (putF "folder" x0 []))
    have p0 : (upd H p (.ins C dx (putF "folder" x0 []))) p = some (.ins C dx (putF "folder" x0 [])) := upd_same
    generalize upd H p (.ins C dx (putF "folder" x0 [])) = H0 at b1 p0 ⊢
    have l1 : (putF "folder" x0 []).length ≤ 1 := by have := len_putF "folder" x0 []; omega
    have k00 : (putF "folder" x0 []).lookup ("folder" : Str) = some x0 := by rw [lookup_putF, if_pos rfl]
    generalize putF "folder" x0 [] = F0 at p0 l1 k00
    refine ⟨_, rfl, _, rfl, p, C, dx, _, rfl, p0, cl, na _ (by simp), (by show F0.length < 1000; omega), ?_⟩
    have b2 := b1.upd (o := .ins C dx (putF "name" x1 F0))
    have p1 : (upd H0 p (.ins C dx (putF "name" x1 F0))) p = some (.ins C dx (putF "name" x1 F0)) := upd_same
    generalize upd H0 p (.ins C dx (putF "name" x1 F0)) = H1 at b2 p1 ⊢
    have l2 : (putF "name" x1 F0).length ≤ 2 := by have := len_putF "name" x1 F0; omega
    have k01 : (putF "name" x1 F0).lookup ("folder" : Str) = some x0 := by rw [lookup_putF, if_neg (by decide +kernel)]; exact k00
    have k11 : (putF "name" x1 F0).lookup ("name" : Str) = some x1 := by rw [lookup_putF, if_pos rfl]
    generalize putF "name" x1 F0 = F1 at p1 l2 k01 k11
    refine ⟨_, rfl, _, rfl, p, C, dx, _, rfl, p1, cl, na _ (by simp), (by show F1.length < 1000; omega), ?_⟩
    have b3 := b2.upd (o := .ins C dx (putF "owner" x2 F1))
    have p2 : (upd H1 p (.ins C dx (putF "owner" x2 F1))) p = some (.ins C dx (putF "owner" x2 F1)) := upd_same
    show Q .non (upd H1 p (.ins C dx (putF "owner" x2 F1)))
    generalize upd H1 p (.ins C dx (putF "owner" x2 F1)) = H2 at b3 p2 ⊢
    have l3 : (putF "owner" x2 F1).length ≤ 3 := by have := len_putF "owner" x2 F1; omega
    have k02 : (putF "owner" x2 F1).lookup ("folder" : Str) = some x0 := by rw [lookup_putF, if_neg (by decide +kernel)]; exact k01
    have k12 : (putF "owner" x2 F1).lookup ("name" : Str) = some x1 := by rw [lookup_putF, if_neg (by decide +kernel)]; exact k11
    have k22 : (putF "owner" x2 F1).lookup ("owner" : Str) = some x2 := by rw [lookup_putF, if_pos rfl]
    generalize putF "owner" x2 F1 = F2 at p2 l3 k02 k12 k22
    exact k _ b3 ⟨dx, _, p2, k02, k12, k22, True.intro⟩
abbrev sMakeFileE : Stmt := inClass (top 38) 1
theorem scMakeFileE : FnScope ["self", "other"] ["self", "other"] (defScope sMakeFileE) := ⟨rfl, rfl, rfl, by decide +kernel, rfl, by decide +kernel, by decide +kernel⟩
theorem eq_MakeFile (F : Fun K "__eq__" "MakeFile.__eq__" sMakeFileE f fd) (mi : mg "isinstance" = none) (gC : mg "MakeFile" = some (.ref C)) (cl : Cls K C) (TC : TyC K C) (na : ∀ n ∈ (["folder", "name", "owner"] : List Str), NoAttr K C n) : FnOk P w K mg base CX0 1 f fd ["self", "other"] (spEqD K C ["folder", "name", "owner"]) := by
  refine F.ok scMakeFileE (fun vs H Q E h => ?_) (fun cdv A outer s H vs Q E hr h => ?_)
  · obtain ⟨p, y, xs, ds, rfl, _⟩ := h
    rfl
  · obtain ⟨p, y, xs, ds, rfl, ⟨dx, fs, hp, lk⟩, dp, sh, k⟩ := h
    refine ⟨_, pss_one (ps_ret (pe_and (pe_callB call_isi (by rfl) mi (by decide +kernel) (pa_cons (pv 1) (pa_cons (pe_glob (v := .ref C) (by rfl) gC rfl) pa_nil))) (pe_and (pe_cmpR (op_eqD hr.units) (pe_fld (pv 0) rfl) (pe_fld (pv 1) rfl) (nomark _)) (pe_and (pe_cmpR (op_eqD hr.units) (pe_fld (pv 0) rfl) (pe_fld (pv 1) rfl) (nomark _)) (pe_one (pe_cmpR (op_eqD hr.units) (pe_fld (pv 0) rfl) (pe_fld (pv 1) rfl) (nomark _))))))), ?_⟩
    rcases k with ⟨t, ty, kt, k⟩ | ⟨q, ys, es, rfl, ⟨dy, gs, hq, lk2⟩, dp2, sh2, k⟩
    · exact ⟨_, rfl, y, _, t, _, false, rfl, .own C, ty, kt, _, rfl, iteF k⟩
    · refine ⟨_, rfl, _, _, _, _, true, rfl, .own C, .base (.ins hq cl TC.c1 TC.c2 TC.c3 TC.c4), kit_self, _, rfl, iteT ?_⟩
      obtain ⟨x0, xr0, rfl⟩ : ∃ a b, xs = a :: b := by
        cases xs with
        | nil => simp [LkAll] at lk
        | cons a b => exact ⟨a, b, rfl⟩
      obtain ⟨x1, xr1, rfl⟩ : ∃ a b, xr0 = a :: b := by
        cases xr0 with
        | nil => simp [LkAll] at lk
        | cons a b => exact ⟨a, b, rfl⟩
      obtain ⟨x2, xr2, rfl⟩ : ∃ a b, xr1 = a :: b := by
        cases xr1 with
        | nil => simp [LkAll] at lk
        | cons a b => exact ⟨a, b, rfl⟩
      obtain rfl : xr2 = [] := by
        cases xr2 with
        | nil => rfl
        | cons a b => simp [LkAll] at lk
      cases dp with
      | cons dph0 dpt0 =>
      cases dpt0 with
      | cons dph1 dpt1 =>
      cases dpt1 with
      | cons dph2 dpt2 =>
      cases dpt2
      obtain ⟨lk0, lk1, lk2, -⟩ := lk
      obtain ⟨sh0, sh1, sh2, -⟩ := sh
      obtain ⟨y0, yr0, rfl⟩ : ∃ a b, ys = a :: b := by
        cases ys with
        | nil => simp [LkAll] at lk2
        | cons a b => exact ⟨a, b, rfl⟩
      obtain ⟨y1, yr1, rfl⟩ : ∃ a b, yr0 = a :: b := by
        cases yr0 with
        | nil => simp [LkAll] at lk2
        | cons a b => exact ⟨a, b, rfl⟩
      obtain ⟨y2, yr2, rfl⟩ : ∃ a b, yr1 = a :: b := by
        cases yr1 with
        | nil => simp [LkAll] at lk2
        | cons a b => exact ⟨a, b, rfl⟩
      obtain rfl : yr2 = [] := by
        cases yr2 with
        | nil => rfl
        | cons a b => simp [LkAll] at lk2
      cases dp2 with
      | cons dp2h0 dp2t0 =>
      cases dp2t0 with
      | cons dp2h1 dp2t1 =>
      cases dp2t1 with
      | cons dp2h2 dp2t2 =>
      cases dp2t2
      obtain ⟨lk20, lk21, lk22, -⟩ := lk2
      obtain ⟨sh20, sh21, sh22, -⟩ := sh2
      refine ⟨_, rfl, p, C, dx, _, _, rfl, hp, cl, na _ (by simp), lk0, _, rfl, q, C, dy, _, _, rfl, hq, cl, na _ (by simp), lk20, _, _, dph0, dp2h0, sh0, sh20, _, rfl, ?_⟩
      refine ite2 (fun h0 => ?_) (fun h0 => ?_)
      rotate_left
      · simp only [eqAll, (by simpa using h0 : PyData.eqv _ _ = false), Bool.false_and, Bool.and_false, Bool.true_and] at k
        exact k
      refine ⟨_, rfl, p, C, dx, _, _, rfl, hp, cl, na _ (by simp), lk1, _, rfl, q, C, dy, _, _, rfl, hq, cl, na _ (by simp), lk21, _, _, dph1, dp2h1, sh1, sh21, _, rfl, ?_⟩
      refine ite2 (fun h1 => ?_) (fun h1 => ?_)
      rotate_left
      · simp only [eqAll, (by simpa using h1 : PyData.eqv _ _ = false), h0, Bool.false_and, Bool.and_false, Bool.true_and] at k
        exact k
      refine ⟨_, rfl, p, C, dx, _, _, rfl, hp, cl, na _ (by simp), lk2, _, rfl, q, C, dy, _, _, rfl, hq, cl, na _ (by simp), lk22, _, _, dph2, dp2h2, sh2, sh22, ?_⟩
      simp only [eqAll, h0, h1, Bool.true_and, Bool.and_true] at k
      exact k
abbrev sMakeLinkI : Stmt := inClass (top 39) 0
theorem scMakeLinkI : FnScope ["self", "folder", "name", "owner", "text"] ["self", "folder", "name", "owner", "text"] (defScope sMakeLinkI) := ⟨rfl, rfl, rfl, by decide +kernel, rfl, by decide +kernel, by decide +kernel⟩
theorem mk_MakeLink (F : Fun K "__init__" "MakeLink.__init__" sMakeLinkI f fd) (cl : Cls K C) (na : ∀ n ∈ (["folder", "name", "owner", "text"] : List Str), NoAttr K C n) : FnOk P w K mg base CX0 1 f fd ["self", "folder", "name", "owner", "text"] (spMk C ["folder", "name", "owner", "text"]) := by
  refine F.ok scMakeLinkI (fun vs H Q E h => ?_) (fun cdv A outer s H vs Q E hr h => ?_)
  · obtain ⟨p, dx, xs, rfl, hl, _⟩ := h
    show xs.length + 1 = _
    rw [hl]
    rfl
  · obtain ⟨p, dx, xs, rfl, hl, hp, k⟩ := h
    obtain ⟨x0, x1, x2, x3, rfl⟩ := len_4 hl
    refine ⟨_, pss_cons (ps_fld (pv 0) (pv 1) rfl) (pss_cons (ps_fld (pv 0) (pv 2) rfl) (pss_cons (ps_fld (pv 0) (pv 3) rfl) (pss_one (ps_fld (pv 0) (pv 4) rfl)))), ?_⟩
    have b0 := But.refl p H
    have l0 : ([] : List (Str × V)).length ≤ 0 := Nat.le_refl _
    refine ⟨_, rfl, _, rfl, p, C, dx, _, rfl, hp, cl, na _ (by simp), (by show [].length < 1000; omega), ?_⟩
    have b1 := b0.upd (o := .ins C dx (putF "folder" x0 []))
    have p0 : (upd H p (.ins C dx (putF "folder" x0 []))) p = some (.ins C dx (putF "folder" x0 [])) := upd_same
    generalize upd H p (.ins C dx (putF "folder" x0 [])) = H0 at b1 p0 ⊢
    have l1 : (putF "folder" x0 []).length ≤ 1 := by have := len_putF "folder" x0 []; omega
    have k00 : (putF "folder" x0 []).lookup ("folder" : Str) = some x0 := by rw [lookup_putF, if_pos rfl]
    generalize putF "folder" x0 [] = F0 at p0 l1 k00
    refine ⟨_, rfl, _, rfl, p, C, dx, _, rfl, p0, cl, na _ (by simp), (by show F0.length < 1000; omega), ?_⟩
    have b2 := b1.upd (o := .ins C dx (putF "name" x1 F0))
    have p1 : (upd H0 p (.ins C dx (putF "name" x1 F0))) p = some (.ins C dx (putF "name" x1 F0)) := upd_same
    generalize upd H0 p (.ins C dx (putF "name" x1 F0)) = H1 at b2 p1 ⊢
    have l2 : (putF "name" x1 F0).length ≤ 2 := by have := len_putF "name" x1 F0; omega
    have k01 : (putF "name" x1 F0).lookup ("folder" : Str) = some x0 := by rw [lookup_putF, if_neg (by decide +kernel)]; exact k00
    have k11 : (putF "name" x1 F0).lookup ("name" : Str) = some x1 := by rw [lookup_putF, if_pos rfl]
    generalize putF "name" x1 F0 = F1 at p1 l2 k01 k11
    refine ⟨_, rfl, _, rfl, p, C, dx, _, rfl, p1, cl, na _ (by simp), (by show F1.length < 1000; omega), ?_⟩
    have b3 := b2.upd (o := .ins C dx (putF "owner" x2 F1))
    have p2 : (upd H1 p (.ins C dx (putF "owner" x2 F1))) p = some (.ins C dx (putF "owner" x2 F1)) := upd_same
    generalize upd H1 p (.ins C dx (putF "owner" x2 F1)) = H2 at b3 p2 ⊢
    have l3 : (putF "owner" x2 F1).length ≤ 3 := by have := len_putF "owner" x2 F1; omega
    have k02 : (putF "owner" x2 F1).lookup ("folder" : Str) = some x0 := by rw [lookup_putF, if_neg (by decide +kernel)]; exact k01
    have k12 : (putF "owner" x2 F1).lookup ("name" : Str) = some x1 := by rw [lookup_putF, if_neg (by decide +kernel)]; exact k11
    have k22 : (putF "owner" x2 F1).lookup ("owner" : Str) = some x2 := by rw [lookup_putF, if_pos rfl]
    generalize putF "owner" x2 F1 = F2 at p2 l3 k02 k12 k22
    refine ⟨_, rfl, _, rfl, p, C, dx, _, rfl, p2, cl, na _ (by simp), (by show F2.length < 1000; omega), ?_⟩
    have b4 := b3.upd (o := .ins C dx (putF "text" x3 F2))
    have p3 : (upd H2 p (.ins C dx (putF "text" x3 F2))) p = some (.ins C dx (putF "text" x3 F2)) := upd_same
    show Q .non (upd H2 p (.ins C dx (putF "text" x3 F2)))
    generalize upd H2 p (.ins C dx (putF "text" x3 F2)) = H3 at b4 p3 ⊢
    have l4 : (putF "text" x3 F2).length ≤ 4 := by have := len_putF "text" x3 F2; omega
    have k03 : (putF "text" x3 F2).lookup ("folder" : Str) = some x0 := by rw [lookup_putF, if_neg (by decide +kernel)]; exact k02
    have k13 : (putF "text" x3 F2).lookup ("name" : Str) = some x1 := by rw [lookup_putF, if_neg (by decide +kernel)]; exact k12
    have k23 : (putF "text" x3 F2).lookup ("owner" : Str) = some x2 := by rw [lookup_putF, if_neg (by decide +kernel)]; exact k22
    have k33 : (putF "text" x3 F2).lookup ("text" : Str) = some x3 := by rw [lookup_putF, if_pos rfl]
    generalize putF "text" x3 F2 = F3 at p3 l4 k03 k13 k23 k33
    exact k _ b4 ⟨dx, _, p3, k03, k13, k23, k33, True.intro⟩
abbrev sMakeLinkE : Stmt := inClass (top 39) 1
theorem scMakeLinkE : FnScope ["self", "other"] ["self", "other"] (defScope sMakeLinkE) := ⟨rfl, rfl, rfl, by decide +kernel, rfl, by decide +kernel, by decide +kernel⟩
theorem eq_MakeLink (F : Fun K "__eq__" "MakeLink.__eq__" sMakeLinkE f fd) (mi : mg "isinstance" = none) (gC : mg "MakeLink" = some (.ref C)) (cl : Cls K C) (TC : TyC K C) (na : ∀ n ∈ (["folder", "name", "owner", "text"] : List Str), NoAttr K C n) : FnOk P w K mg base CX0 1 f fd ["self", "other"] (spEqD K C ["folder", "name", "owner", "text"]) := by
  refine F.ok scMakeLinkE (fun vs H Q E h => ?_) (fun cdv A outer s H vs Q E hr h => ?_)
  · obtain ⟨p, y, xs, ds, rfl, _⟩ := h
    rfl
  · obtain ⟨p, y, xs, ds, rfl, ⟨dx, fs, hp, lk⟩, dp, sh, k⟩ := h
    refine ⟨_, pss_one (ps_ret (pe_and (pe_callB call_isi (by rfl) mi (by decide +kernel) (pa_cons (pv 1) (pa_cons (pe_glob (v := .ref C) (by rfl) gC rfl) pa_nil))) (pe_and (pe_cmpR (op_eqD hr.units) (pe_fld (pv 0) rfl) (pe_fld (pv 1) rfl) (nomark _)) (pe_and (pe_cmpR (op_eqD hr.units) (pe_fld (pv 0) rfl) (pe_fld (pv 1) rfl) (nomark _)) (pe_and (pe_cmpR (op_eqD hr.units) (pe_fld (pv 0) rfl) (pe_fld (pv 1) rfl) (nomark _)) (pe_one (pe_cmpR (op_eqD hr.units) (pe_fld (pv 0) rfl) (pe_fld (pv 1) rfl) (nomark _)))))))), ?_⟩
    rcases k with ⟨t, ty, kt, k⟩ | ⟨q, ys, es, rfl, ⟨dy, gs, hq, lk2⟩, dp2, sh2, k⟩
    · exact ⟨_, rfl, y, _, t, _, false, rfl, .own C, ty, kt, _, rfl, iteF k⟩
    · refine ⟨_, rfl, _, _, _, _, true, rfl, .own C, .base (.ins hq cl TC.c1 TC.c2 TC.c3 TC.c4), kit_self, _, rfl, iteT ?_⟩
      obtain ⟨x0, xr0, rfl⟩ : ∃ a b, xs = a :: b := by
        cases xs with
        | nil => simp [LkAll] at lk
        | cons a b => exact ⟨a, b, rfl⟩
      obtain ⟨x1, xr1, rfl⟩ : ∃ a b, xr0 = a :: b := by
        cases xr0 with
        | nil => simp [LkAll] at lk
        | cons a b => exact ⟨a, b, rfl⟩
      obtain ⟨x2, xr2, rfl⟩ : ∃ a b, xr1 = a :: b := by
        cases xr1 with
        | nil => simp [LkAll] at lk
        | cons a b => exact ⟨a, b, rfl⟩
      obtain ⟨x3, xr3, rfl⟩ : ∃ a b, xr2 = a :: b := by
        cases xr2 with
        | nil => simp [LkAll] at lk
        | cons a b => exact ⟨a, b, rfl⟩
      obtain rfl : xr3 = [] := by
        cases xr3 with
        | nil => rfl
        | cons a b => simp [LkAll] at lk
      cases dp with
      | cons dph0 dpt0 =>
      cases dpt0 with
      | cons dph1 dpt1 =>
      cases dpt1 with
      | cons dph2 dpt2 =>
      cases dpt2 with
      | cons dph3 dpt3 =>
      cases dpt3
      obtain ⟨lk0, lk1, lk2, lk3, -⟩ := lk
      obtain ⟨sh0, sh1, sh2, sh3, -⟩ := sh
      obtain ⟨y0, yr0, rfl⟩ : ∃ a b, ys = a :: b := by
        cases ys with
        | nil => simp [LkAll] at lk2
        | cons a b => exact ⟨a, b, rfl⟩
      obtain ⟨y1, yr1, rfl⟩ : ∃ a b, yr0 = a :: b := by
        cases yr0 with
        | nil => simp [LkAll] at lk2
        | cons a b => exact ⟨a, b, rfl⟩
      obtain ⟨y2, yr2, rfl⟩ : ∃ a b, yr1 = a :: b := by
        cases yr1 with
        | nil => simp [LkAll] at lk2
        | cons a b => exact ⟨a, b, rfl⟩
      obtain ⟨y3, yr3, rfl⟩ : ∃ a b, yr2 = a :: b := by
        cases yr2 with
        | nil => simp [LkAll] at lk2
        | cons a b => exact ⟨a, b, rfl⟩
      obtain rfl : yr3 = [] := by
        cases yr3 with
        | nil => rfl
        | cons a b => simp [LkAll] at lk2
      cases dp2 with
      | cons dp2h0 dp2t0 =>
      cases dp2t0 with
      | cons dp2h1 dp2t1 =>
      cases dp2t1 with
      | cons dp2h2 dp2t2 =>
      cases dp2t2 with
      | cons dp2h3 dp2t3 =>
      cases dp2t3
      obtain ⟨lk20, lk21, lk22, lk23, -⟩ := lk2
      obtain ⟨sh20, sh21, sh22, sh23, -⟩ := sh2
      refine ⟨_, rfl, p, C, dx, _, _, rfl, hp, cl, na _ (by simp), lk0, _, rfl, q, C, dy, _, _, rfl, hq, cl, na _ (by simp), lk20, _, _, dph0, dp2h0, sh0, sh20, _, rfl, ?_⟩
      refine ite2 (fun h0 => ?_) (fun h0 => ?_)
      rotate_left
      · simp only [eqAll, (by simpa using h0 : PyData.eqv _ _ = false), Bool.false_and, Bool.and_false, Bool.true_and] at k
        exact k
      refine ⟨_, rfl, p, C, dx, _, _, rfl, hp, cl, na _ (by simp), lk1, _, rfl, q, C, dy, _, _, rfl, hq, cl, na _ (by simp), lk21, _, _, dph1, dp2h1, sh1, sh21, _, rfl, ?_⟩
      refine ite2 (fun h1 => ?_) (fun h1 => ?_)
      rotate_left
      · simp only [eqAll, (by simpa using h1 : PyData.eqv _ _ = false), h0, Bool.false_and, Bool.and_false, Bool.true_and] at k
        exact k
      refine ⟨_, rfl, p, C, dx, _, _, rfl, hp, cl, na _ (by simp), lk2, _, rfl, q, C, dy, _, _, rfl, hq, cl, na _ (by simp), lk22, _, _, dph2, dp2h2, sh2, sh22, _, rfl, ?_⟩
      refine ite2 (fun h2 => ?_) (fun h2 => ?_)
      rotate_left
      · simp only [eqAll, (by simpa using h2 : PyData.eqv _ _ = false), h0, h1, Bool.false_and, Bool.and_false, Bool.true_and] at k
        exact k
      refine ⟨_, rfl, p, C, dx, _, _, rfl, hp, cl, na _ (by simp), lk3, _, rfl, q, C, dy, _, _, rfl, hq, cl, na _ (by simp), lk23, _, _, dph3, dp2h3, sh3, sh23, ?_⟩
      simp only [eqAll, h0, h1, h2, Bool.true_and, Bool.and_true] at k
      exact k
abbrev sPutI : Stmt := inClass (top 40) 0
theorem scPutI : FnScope ["self", "folder", "name", "node"] ["self", "folder", "name", "node"] (defScope sPutI) := ⟨rfl, rfl, rfl, by decide +kernel, rfl, by decide +kernel, by decide +kernel⟩
theorem mk_Put (F : Fun K "__init__" "Put.__init__" sPutI f fd) (cl : Cls K C) (na : ∀ n ∈ (["folder", "name", "node"] : List Str), NoAttr K C n) : FnOk P w K mg base CX0 1 f fd ["self", "folder", "name", "node"] (spMk C ["folder", "name", "node"]) := by
  refine F.ok scPutI (fun vs H Q E h => ?_) (fun cdv A outer s H vs Q E hr h => ?_)
  · obtain ⟨p, dx, xs, rfl, hl, _⟩ := h
    show xs.length + 1 = _
    rw [hl]
    rfl
  · obtain ⟨p, dx, xs, rfl, hl, hp, k⟩ := h
    obtain ⟨x0, x1, x2, rfl⟩ := len_3 hl
    refine ⟨_, pss_cons (ps_fld (pv 0) (pv 1) rfl) (pss_cons (ps_fld (pv 0) (pv 2) rfl) (pss_one (ps_fld (pv 0) (pv 3) rfl))), ?_⟩
    have b0 := But.refl p H
    have l0 : ([] : List (Str × V)).length ≤ 0 := Nat.le_refl _
    refine ⟨_, rfl, _, rfl, p, C, dx, _, rfl, hp, cl, na _ (by simp), (by show [].length < 1000; omega), ?_⟩
    have b1 := b0.upd (o := .ins C dx (putF "folder" x0 []))
    have p0 : (upd H p (.ins C dx (putF "folder" x0 []))) p = some (.ins C dx (putF "folder" x0 [])) := upd_same
    generalize upd H p (.ins C dx (putF "folder" x0 [])) = H0 at b1 p0 ⊢
    have l1 : (putF "folder" x0 []).length ≤ 1 := by have := len_putF "folder" x0 []; omega
    have k00 : (putF "folder" x0 []).lookup ("folder" : Str) = some x0 := by rw [lookup_putF, if_pos rfl]
    generalize putF "folder" x0 [] = F0 at p0 l1 k00
    refine ⟨_, rfl, _, rfl, p, C, dx, _, rfl, p0, cl, na _ (by simp), (by show F0.length < 1000; omega), ?_⟩
    have b2 := b1.upd (o := .ins C dx (putF "name" x1 F0))
    have p1 : (upd H0 p (.ins C dx (putF "name" x1 F0))) p = some (.ins C dx (putF "name" x1 F0)) := upd_same
    generalize upd H0 p (.ins C dx (putF "name" x1 F0)) = H1 at b2 p1 ⊢
    have l2 : (putF "name" x1 F0).length ≤ 2 := by have := len_putF "name" x1 F0; omega
    have k01 : (putF "name" x1 F0).lookup ("folder" : Str) = some x0 := by rw [lookup_putF, if_neg (by decide +kernel)]; exact k00
    have k11 : (putF "name" x1 F0).lookup ("name" : Str) = some x1 := by rw [lookup_putF, if_pos rfl]
    generalize putF "name" x1 F0 = F1 at p1 l2 k01 k11
    refine ⟨_, rfl, _, rfl, p, C, dx, _, rfl, p1, cl, na _ (by simp), (by show F1.length < 1000; omega), ?_⟩
    have b3 := b2.upd (o := .ins C dx (putF "node" x2 F1))
    have p2 : (upd H1 p (.ins C dx (putF "node" x2 F1))) p = some (.ins C dx (putF "node" x2 F1)) := upd_same
    show Q .non (upd H1 p (.ins C dx (putF "node" x2 F1)))
    generalize upd H1 p (.ins C dx (putF "node" x2 F1)) = H2 at b3 p2 ⊢
    have l3 : (putF "node" x2 F1).length ≤ 3 := by have := len_putF "node" x2 F1; omega
    have k02 : (putF "node" x2 F1).lookup ("folder" : Str) = some x0 := by rw [lookup_putF, if_neg (by decide +kernel)]; exact k01
    have k12 : (putF "node" x2 F1).lookup ("name" : Str) = some x1 := by rw [lookup_putF, if_neg (by decide +kernel)]; exact k11
    have k22 : (putF "node" x2 F1).lookup ("node" : Str) = some x2 := by rw [lookup_putF, if_pos rfl]
    generalize putF "node" x2 F1 = F2 at p2 l3 k02 k12 k22
    exact k _ b3 ⟨dx, _, p2, k02, k12, k22, True.intro⟩
abbrev sPutE : Stmt := inClass (top 40) 1
theorem scPutE : FnScope ["self", "other"] ["self", "other"] (defScope sPutE) := ⟨rfl, rfl, rfl, by decide +kernel, rfl, by decide +kernel, by decide +kernel⟩
theorem eq_Put (F : Fun K "__eq__" "Put.__eq__" sPutE f fd) (mi : mg "isinstance" = none) (gC : mg "Put" = some (.ref C)) (cl : Cls K C) (TC : TyC K C) (na : ∀ n ∈ (["folder", "name", "node"] : List Str), NoAttr K C n) : FnOk P w K mg base CX0 1 f fd ["self", "other"] (spEqD K C ["folder", "name", "node"]) := by
  refine F.ok scPutE (fun vs H Q E h => ?_) (fun cdv A outer s H vs Q E hr h => ?_)
  · obtain ⟨p, y, xs, ds, rfl, _⟩ := h
    rfl
  · obtain ⟨p, y, xs, ds, rfl, ⟨dx, fs, hp, lk⟩, dp, sh, k⟩ := h
    refine ⟨_, pss_one (ps_ret (pe_and (pe_callB call_isi (by rfl) mi (by decide +kernel) (pa_cons (pv 1) (pa_cons (pe_glob (v := .ref C) (by rfl) gC rfl) pa_nil))) (pe_and (pe_cmpR (op_eqD hr.units) (pe_fld (pv 0) rfl) (pe_fld (pv 1) rfl) (nomark _)) (pe_and (pe_cmpR (op_eqD hr.units) (pe_fld (pv 0) rfl) (pe_fld (pv 1) rfl) (nomark _)) (pe_one (pe_cmpR (op_eqD hr.units) (pe_fld (pv 0) rfl) (pe_fld (pv 1) rfl) (nomark _))))))), ?_⟩
    rcases k with ⟨t, ty, kt, k⟩ | ⟨q, ys, es, rfl, ⟨dy, gs, hq, lk2⟩, dp2, sh2, k⟩
    · exact ⟨_, rfl, y, _, t, _, false, rfl, .own C, ty, kt, _, rfl, iteF k⟩
    · refine ⟨_, rfl, _, _, _, _, true, rfl, .own C, .base (.ins hq cl TC.c1 TC.c2 TC.c3 TC.c4), kit_self, _, rfl, iteT ?_⟩
      obtain ⟨x0, xr0, rfl⟩ : ∃ a b, xs = a :: b := by
        cases xs with
        | nil => simp [LkAll] at lk
        | cons a b => exact ⟨a, b, rfl⟩
      obtain ⟨x1, xr1, rfl⟩ : ∃ a b, xr0 = a :: b := by
        cases xr0 with
        | nil => simp [LkAll] at lk
        | cons a b => exact ⟨a, b, rfl⟩
      obtain ⟨x2, xr2, rfl⟩ : ∃ a b, xr1 = a :: b := by
        cases xr1 with
        | nil => simp [LkAll] at lk
        | cons a b => exact ⟨a, b, rfl⟩
      obtain rfl : xr2 = [] := by
        cases xr2 with
        | nil => rfl
        | cons a b => simp [LkAll] at lk
      cases dp with
      | cons dph0 dpt0 =>
      cases dpt0 with
      | cons dph1 dpt1 =>
      cases dpt1 with
      | cons dph2 dpt2 =>
      cases dpt2
      obtain ⟨lk0, lk1, lk2, -⟩ := lk
      obtain ⟨sh0, sh1, sh2, -⟩ := sh
      obtain ⟨y0, yr0, rfl⟩ : ∃ a b, ys = a :: b := by
        cases ys with
        | nil => simp [LkAll] at lk2
        | cons a b => exact ⟨a, b, rfl⟩
      obtain ⟨y1, yr1, rfl⟩ : ∃ a b, yr0 = a :: b := by
        cases yr0 with
        | nil => simp [LkAll] at lk2
        | cons a b => exact ⟨a, b, rfl⟩
      obtain ⟨y2, yr2, rfl⟩ : ∃ a b, yr1 = a :: b := by
        cases yr1 with
        | nil => simp [LkAll] at lk2
        | cons a b => exact ⟨a, b, rfl⟩
      obtain rfl : yr2 = [] := by
        cases yr2 with
        | nil => rfl
        | cons a b => simp [LkAll] at lk2
      cases dp2 with
      | cons dp2h0 dp2t0 =>
      cases dp2t0 with
      | cons dp2h1 dp2t1 =>
      cases dp2t1 with
      | cons dp2h2 dp2t2 =>
      cases dp2t2
      obtain ⟨lk20, lk21, lk22, -⟩ := lk2
      obtain ⟨sh20, sh21, sh22, -⟩ := sh2
      refine ⟨_, rfl, p, C, dx, _, _, rfl, hp, cl, na _ (by simp), lk0, _, rfl, q, C, dy, _, _, rfl, hq, cl, na _ (by simp), lk20, _, _, dph0, dp2h0, sh0, sh20, _, rfl, ?_⟩
      refine ite2 (fun h0 => ?_) (fun h0 => ?_)
      rotate_left
      · simp only [eqAll, (by simpa using h0 : PyData.eqv _ _ = false), Bool.false_and, Bool.and_false, Bool.true_and] at k
        exact k
      refine ⟨_, rfl, p, C, dx, _, _, rfl, hp, cl, na _ (by simp), lk1, _, rfl, q, C, dy, _, _, rfl, hq, cl, na _ (by simp), lk21, _, _, dph1, dp2h1, sh1, sh21, _, rfl, ?_⟩
      refine ite2 (fun h1 => ?_) (fun h1 => ?_)
      rotate_left
      · simp only [eqAll, (by simpa using h1 : PyData.eqv _ _ = false), h0, Bool.false_and, Bool.and_false, Bool.true_and] at k
        exact k
      refine ⟨_, rfl, p, C, dx, _, _, rfl, hp, cl, na _ (by simp), lk2, _, rfl, q, C, dy, _, _, rfl, hq, cl, na _ (by simp), lk22, _, _, dph2, dp2h2, sh2, sh22, ?_⟩
      simp only [eqAll, h0, h1, Bool.true_and, Bool.and_true] at k
      exact k
abbrev sTakeI : Stmt := inClass (top 41) 0
theorem scTakeI : FnScope ["self", "folder", "name"] ["self", "folder", "name"] (defScope sTakeI) := ⟨rfl, rfl, rfl, by decide +kernel, rfl, by decide +kernel, by decide +kernel⟩
theorem mk_Take (F : Fun K "__init__" "Take.__init__" sTakeI f fd) (cl : Cls K C) (na : ∀ n ∈ (["folder", "name"] : List Str), NoAttr K C n) : FnOk P w K mg base CX0 1 f fd ["self", "folder", "name"] (spMk C ["folder", "name"]) := by
  refine F.ok scTakeI (fun vs H Q E h => ?_) (fun cdv A outer s H vs Q E hr h => ?_)
  · obtain ⟨p, dx, xs, rfl, hl, _⟩ := h
    show xs.length + 1 = _
    rw [hl]
    rfl
  · obtain ⟨p, dx, xs, rfl, hl, hp, k⟩ := h
    obtain ⟨x0, x1, rfl⟩ := len_2 hl
    refine ⟨_, pss_cons (ps_fld (pv 0) (pv 1) rfl) (pss_one (ps_fld (pv 0) (pv 2) rfl)), ?_⟩
    have b0 := But.refl p H
    have l0 : ([] : List (Str × V)).length ≤ 0 := Nat.le_refl _
    refine ⟨_, rfl, _, rfl, p, C, dx, _, rfl, hp, cl, na _ (by simp), (by show [].length < 1000; omega), ?_⟩
    have b1 := b0.upd (o := .ins C dx (putF "folder" x0 []))
    have p0 : (upd H p (.ins C dx (putF "folder" x0 []))) p = some (.ins C dx (putF "folder" x0 [])) := upd_same
    generalize upd H p (.ins C dx (putF "folder" x0 [])) = H0 at b1 p0 ⊢
    have l1 : (putF "folder" x0 []).length ≤ 1 := by have := len_putF "folder" x0 []; omega
    have k00 : (putF "folder" x0 []).lookup ("folder" : Str) = some x0 := by rw [lookup_putF, if_pos rfl]
    generalize putF "folder" x0 [] = F0 at p0 l1 k00
    refine ⟨_, rfl, _, rfl, p, C, dx, _, rfl, p0, cl, na _ (by simp), (by show F0.length < 1000; omega), ?_⟩
    have b2 := b1.upd (o := .ins C dx (putF "name" x1 F0))
    have p1 : (upd H0 p (.ins C dx (putF "name" x1 F0))) p = some (.ins C dx (putF "name" x1 F0)) := upd_same
    show Q .non (upd H0 p (.ins C dx (putF "name" x1 F0)))
    generalize upd H0 p (.ins C dx (putF "name" x1 F0)) = H1 at b2 p1 ⊢
    have l2 : (putF "name" x1 F0).length ≤ 2 := by have := len_putF "name" x1 F0; omega
    have k01 : (putF "name" x1 F0).lookup ("folder" : Str) = some x0 := by rw [lookup_putF, if_neg (by decide +kernel)]; exact k00
    have k11 : (putF "name" x1 F0).lookup ("name" : Str) = some x1 := by rw [lookup_putF, if_pos rfl]
    generalize putF "name" x1 F0 = F1 at p1 l2 k01 k11
    exact k _ b2 ⟨dx, _, p1, k01, k11, True.intro⟩
abbrev sTakeE : Stmt := inClass (top 41) 1
theorem scTakeE : FnScope ["self", "other"] ["self", "other"] (defScope sTakeE) := ⟨rfl, rfl, rfl, by decide +kernel, rfl, by decide +kernel, by decide +kernel⟩
theorem eq_Take (F : Fun K "__eq__" "Take.__eq__" sTakeE f fd) (mi : mg "isinstance" = none) (gC : mg "Take" = some (.ref C)) (cl : Cls K C) (TC : TyC K C) (na : ∀ n ∈ (["folder", "name"] : List Str), NoAttr K C n) : FnOk P w K mg base CX0 1 f fd ["self", "other"] (spEqD K C ["folder", "name"]) := by
  refine F.ok scTakeE (fun vs H Q E h => ?_) (fun cdv A outer s H vs Q E hr h => ?_)
  · obtain ⟨p, y, xs, ds, rfl, _⟩ := h
    rfl
  · obtain ⟨p, y, xs, ds, rfl, ⟨dx, fs, hp, lk⟩, dp, sh, k⟩ := h
    refine ⟨_, pss_one (ps_ret (pe_and (pe_callB call_isi (by rfl) mi (by decide +kernel) (pa_cons (pv 1) (pa_cons (pe_glob (v := .ref C) (by rfl) gC rfl) pa_nil))) (pe_and (pe_cmpR (op_eqD hr.units) (pe_fld (pv 0) rfl) (pe_fld (pv 1) rfl) (nomark _)) (pe_one (pe_cmpR (op_eqD hr.units) (pe_fld (pv 0) rfl) (pe_fld (pv 1) rfl) (nomark _)))))), ?_⟩
    rcases k with ⟨t, ty, kt, k⟩ | ⟨q, ys, es, rfl, ⟨dy, gs, hq, lk2⟩, dp2, sh2, k⟩
    · exact ⟨_, rfl, y, _, t, _, false, rfl, .own C, ty, kt, _, rfl, iteF k⟩
    · refine ⟨_, rfl, _, _, _, _, true, rfl, .own C, .base (.ins hq cl TC.c1 TC.c2 TC.c3 TC.c4), kit_self, _, rfl, iteT ?_⟩
      obtain ⟨x0, xr0, rfl⟩ : ∃ a b, xs = a :: b := by
        cases xs with
        | nil => simp [LkAll] at lk
        | cons a b => exact ⟨a, b, rfl⟩
      obtain ⟨x1, xr1, rfl⟩ : ∃ a b, xr0 = a :: b := by
        cases xr0 with
        | nil => simp [LkAll] at lk
        | cons a b => exact ⟨a, b, rfl⟩
      obtain rfl : xr1 = [] := by
        cases xr1 with
        | nil => rfl
        | cons a b => simp [LkAll] at lk
      cases dp with
      | cons dph0 dpt0 =>
      cases dpt0 with
      | cons dph1 dpt1 =>
      cases dpt1
      obtain ⟨lk0, lk1, -⟩ := lk
      obtain ⟨sh0, sh1, -⟩ := sh
      obtain ⟨y0, yr0, rfl⟩ : ∃ a b, ys = a :: b := by
        cases ys with
        | nil => simp [LkAll] at lk2
        | cons a b => exact ⟨a, b, rfl⟩
      obtain ⟨y1, yr1, rfl⟩ : ∃ a b, yr0 = a :: b := by
        cases yr0 with
        | nil => simp [LkAll] at lk2
        | cons a b => exact ⟨a, b, rfl⟩
      obtain rfl : yr1 = [] := by
        cases yr1 with
        | nil => rfl
        | cons a b => simp [LkAll] at lk2
      cases dp2 with
      | cons dp2h0 dp2t0 =>
      cases dp2t0 with
      | cons dp2h1 dp2t1 =>
      cases dp2t1
      obtain ⟨lk20, lk21, -⟩ := lk2
      obtain ⟨sh20, sh21, -⟩ := sh2
      refine ⟨_, rfl, p, C, dx, _, _, rfl, hp, cl, na _ (by simp), lk0, _, rfl, q, C, dy, _, _, rfl, hq, cl, na _ (by simp), lk20, _, _, dph0, dp2h0, sh0, sh20, _, rfl, ?_⟩
      refine ite2 (fun h0 => ?_) (fun h0 => ?_)
      rotate_left
      · simp only [eqAll, (by simpa using h0 : PyData.eqv _ _ = false), Bool.false_and, Bool.and_false, Bool.true_and] at k
        exact k
      refine ⟨_, rfl, p, C, dx, _, _, rfl, hp, cl, na _ (by simp), lk1, _, rfl, q, C, dy, _, _, rfl, hq, cl, na _ (by simp), lk21, _, _, dph1, dp2h1, sh1, sh21, ?_⟩
      simp only [eqAll, h0, Bool.true_and, Bool.and_true] at k
      exact k
abbrev sMoveI : Stmt := inClass (top 42) 0
theorem scMoveI : FnScope ["self", "folder", "name", "goal", "other"] ["self", "folder", "name", "goal", "other"] (defScope sMoveI) := ⟨rfl, rfl, rfl, by decide +kernel, rfl, by decide +kernel, by decide +kernel⟩
theorem mk_Move (F : Fun K "__init__" "Move.__init__" sMoveI f fd) (cl : Cls K C) (na : ∀ n ∈ (["folder", "name", "goal", "other"] : List Str), NoAttr K C n) : FnOk P w K mg base CX0 1 f fd ["self", "folder", "name", "goal", "other"] (spMk C ["folder", "name", "goal", "other"]) := by
  refine F.ok scMoveI (fun vs H Q E h => ?_) (fun cdv A outer s H vs Q E hr h => ?_)
  · obtain ⟨p, dx, xs, rfl, hl, _⟩ := h
    show xs.length + 1 = _
    rw [hl]
    rfl
  · obtain ⟨p, dx, xs, rfl, hl, hp, k⟩ := h
    obtain ⟨x0, x1, x2, x3, rfl⟩ := len_4 hl
    refine ⟨_, pss_cons (ps_fld (pv 0) (pv 1) rfl) (pss_cons (ps_fld (pv 0) (pv 2) rfl) (pss_cons (ps_fld (pv 0) (pv 3) rfl) (pss_one (ps_fld (pv 0) (pv 4) rfl)))), ?_⟩
    have b0 := But.refl p H
    have l0 : ([] : List (Str × V)).length ≤ 0 := Nat.le_refl _
    refine ⟨_, rfl, _, rfl, p, C, dx, _, rfl, hp, cl, na _ (by simp), (by show [].length < 1000; omega), ?_⟩
    have b1 := b0.upd (o := .ins C dx (putF "folder" x0 []))
    have p0 : (upd H p (.ins C dx (putF "folder" x0 []))) p = some (.ins C dx (putF "folder" x0 [])) := upd_same
    generalize upd H p (.ins C dx (putF "folder" x0 [])) = H0 at b1 p0 ⊢
    have l1 : (putF "folder" x0 []).length ≤ 1 := by have := len_putF "folder" x0 []; omega
    have k00 : (putF "folder" x0 []).lookup ("folder" : Str) = some x0 := by rw [lookup_putF, if_pos rfl]
    generalize putF "folder" x0 [] = F0 at p0 l1 k00
    refine ⟨_, rfl, _, rfl, p, C, dx, _, rfl, p0, cl, na _ (by simp), (by show F0.length < 1000; omega), ?_⟩
    have b2 := b1.upd (o := .ins C dx (putF "name" x1 F0))
    have p1 : (upd H0 p (.ins C dx (putF "name" x1 F0))) p = some (.ins C dx (putF "name" x1 F0)) := upd_same
    generalize upd H0 p (.ins C dx (putF "name" x1 F0)) = H1 at b2 p1 ⊢
    have l2 : (putF "name" x1 F0).length ≤ 2 := by have := len_putF "name" x1 F0; omega
    have k01 : (putF "name" x1 F0).lookup ("folder" : Str) = some x0 := by rw [lookup_putF, if_neg (by decide +kernel)]; exact k00
    have k11 : (putF "name" x1 F0).lookup ("name" : Str) = some x1 := by rw [lookup_putF, if_pos rfl]
    generalize putF "name" x1 F0 = F1 at p1 l2 k01 k11
    refine ⟨_, rfl, _, rfl, p, C, dx, _, rfl, p1, cl, na _ (by simp), (by show F1.length < 1000; omega), ?_⟩
    have b3 := b2.upd (o := .ins C dx (putF "goal" x2 F1))
    have p2 : (upd H1 p (.ins C dx (putF "goal" x2 F1))) p = some (.ins C dx (putF "goal" x2 F1)) := upd_same
    generalize upd H1 p (.ins C dx (putF "goal" x2 F1)) = H2 at b3 p2 ⊢
    have l3 : (putF "goal" x2 F1).length ≤ 3 := by have := len_putF "goal" x2 F1; omega
    have k02 : (putF "goal" x2 F1).lookup ("folder" : Str) = some x0 := by rw [lookup_putF, if_neg (by decide +kernel)]; exact k01
    have k12 : (putF "goal" x2 F1).lookup ("name" : Str) = some x1 := by rw [lookup_putF, if_neg (by decide +kernel)]; exact k11
    have k22 : (putF "goal" x2 F1).lookup ("goal" : Str) = some x2 := by rw [lookup_putF, if_pos rfl]
    generalize putF "goal" x2 F1 = F2 at p2 l3 k02 k12 k22
    refine ⟨_, rfl, _, rfl, p, C, dx, _, rfl, p2, cl, na _ (by simp), (by show F2.length < 1000; omega), ?_⟩
    have b4 := b3.upd (o := .ins C dx (putF "other" x3 F2))
    have p3 : (upd H2 p (.ins C dx (putF "other" x3 F2))) p = some (.ins C dx (putF "other" x3 F2)) := upd_same
    show Q .non (upd H2 p (.ins C dx (putF "other" x3 F2)))
    generalize upd H2 p (.ins C dx (putF "other" x3 F2)) = H3 at b4 p3 ⊢
    have l4 : (putF "other" x3 F2).length ≤ 4 := by have := len_putF "other" x3 F2; omega
    have k03 : (putF "other" x3 F2).lookup ("folder" : Str) = some x0 := by rw [lookup_putF, if_neg (by decide +kernel)]; exact k02
    have k13 : (putF "other" x3 F2).lookup ("name" : Str) = some x1 := by rw [lookup_putF, if_neg (by decide +kernel)]; exact k12
    have k23 : (putF "other" x3 F2).lookup ("goal" : Str) = some x2 := by rw [lookup_putF, if_neg (by decide +kernel)]; exact k22
    have k33 : (putF "other" x3 F2).lookup ("other" : Str) = some x3 := by rw [lookup_putF, if_pos rfl]
    generalize putF "other" x3 F2 = F3 at p3 l4 k03 k13 k23 k33
    exact k _ b4 ⟨dx, _, p3, k03, k13, k23, k33, True.intro⟩
abbrev sMoveE : Stmt := inClass (top 42) 1
theorem scMoveE : FnScope ["self", "other"] ["self", "other"] (defScope sMoveE) := ⟨rfl, rfl, rfl, by decide +kernel, rfl, by decide +kernel, by decide +kernel⟩
theorem eq_Move (F : Fun K "__eq__" "Move.__eq__" sMoveE f fd) (mi : mg "isinstance" = none) (gC : mg "Move" = some (.ref C)) (cl : Cls K C) (TC : TyC K C) (na : ∀ n ∈ (["folder", "name", "goal", "other"] : List Str), NoAttr K C n) : FnOk P w K mg base CX0 1 f fd ["self", "other"] (spEqD K C ["folder", "name", "goal", "other"]) := by
  refine F.ok scMoveE (fun vs H Q E h => ?_) (fun cdv A outer s H vs Q E hr h => ?_)
  · obtain ⟨p, y, xs, ds, rfl, _⟩ := h
    rfl
  · obtain ⟨p, y, xs, ds, rfl, ⟨dx, fs, hp, lk⟩, dp, sh, k⟩ := h
    refine ⟨_, pss_one (ps_ret (pe_and (pe_callB call_isi (by rfl) mi (by decide +kernel) (pa_cons (pv 1) (pa_cons (pe_glob (v := .ref C) (by rfl) gC rfl) pa_nil))) (pe_and (pe_cmpR (op_eqD hr.units) (pe_fld (pv 0) rfl) (pe_fld (pv 1) rfl) (nomark _)) (pe_and (pe_cmpR (op_eqD hr.units) (pe_fld (pv 0) rfl) (pe_fld (pv 1) rfl) (nomark _)) (pe_and (pe_cmpR (op_eqD hr.units) (pe_fld (pv 0) rfl) (pe_fld (pv 1) rfl) (nomark _)) (pe_one (pe_cmpR (op_eqD hr.units) (pe_fld (pv 0) rfl) (pe_fld (pv 1) rfl) (nomark _)))))))), ?_⟩
    rcases k with ⟨t, ty, kt, k⟩ | ⟨q, ys, es, rfl, ⟨dy, gs, hq, lk2⟩, dp2, sh2, k⟩
    · exact ⟨_, rfl, y, _, t, _, false, rfl, .own C, ty, kt, _, rfl, iteF k⟩
    · refine ⟨_, rfl, _, _, _, _, true, rfl, .own C, .base (.ins hq cl TC.c1 TC.c2 TC.c3 TC.c4), kit_self, _, rfl, iteT ?_⟩
      obtain ⟨x0, xr0, rfl⟩ : ∃ a b, xs = a :: b := by
        cases xs with
        | nil => simp [LkAll] at lk
        | cons a b => exact ⟨a, b, rfl⟩
      obtain ⟨x1, xr1, rfl⟩ : ∃ a b, xr0 = a :: b := by
        cases xr0 with
        | nil => simp [LkAll] at lk
        | cons a b => exact ⟨a, b, rfl⟩
      obtain ⟨x2, xr2, rfl⟩ : ∃ a b, xr1 = a :: b := by
        cases xr1 with
        | nil => simp [LkAll] at lk
        | cons a b => exact ⟨a, b, rfl⟩
      obtain ⟨x3, xr3, rfl⟩ : ∃ a b, xr2 = a :: b := by
        cases xr2 with
        | nil => simp [LkAll] at lk
        | cons a b => exact ⟨a, b, rfl⟩
      obtain rfl : xr3 = [] := by
        cases xr3 with
        | nil => rfl
        | cons a b => simp [LkAll] at lk
      cases dp with
      | cons dph0 dpt0 =>
      cases dpt0 with
      | cons dph1 dpt1 =>
      cases dpt1 with
      | cons dph2 dpt2 =>
      cases dpt2 with
      | cons dph3 dpt3 =>
      cases dpt3
      obtain ⟨lk0, lk1, lk2, lk3, -⟩ := lk
      obtain ⟨sh0, sh1, sh2, sh3, -⟩ := sh
      obtain ⟨y0, yr0, rfl⟩ : ∃ a b, ys = a :: b := by
        cases ys with
        | nil => simp [LkAll] at lk2
        | cons a b => exact ⟨a, b, rfl⟩
      obtain ⟨y1, yr1, rfl⟩ : ∃ a b, yr0 = a :: b := by
        cases yr0 with
        | nil => simp [LkAll] at lk2
        | cons a b => exact ⟨a, b, rfl⟩
      obtain ⟨y2, yr2, rfl⟩ : ∃ a b, yr1 = a :: b := by
        cases yr1 with
        | nil => simp [LkAll] at lk2
        | cons a b => exact ⟨a, b, rfl⟩
      obtain ⟨y3, yr3, rfl⟩ : ∃ a b, yr2 = a :: b := by
        cases yr2 with
        | nil => simp [LkAll] at lk2
        | cons a b => exact ⟨a, b, rfl⟩
      obtain rfl : yr3 = [] := by
        cases yr3 with
        | nil => rfl
        | cons a b => simp [LkAll] at lk2
      cases dp2 with
      | cons dp2h0 dp2t0 =>
      cases dp2t0 with
      | cons dp2h1 dp2t1 =>
      cases dp2t1 with
      | cons dp2h2 dp2t2 =>
      cases dp2t2 with
      | cons dp2h3 dp2t3 =>
      cases dp2t3
      obtain ⟨lk20, lk21, lk22, lk23, -⟩ := lk2
      obtain ⟨sh20, sh21, sh22, sh23, -⟩ := sh2
      refine ⟨_, rfl, p, C, dx, _, _, rfl, hp, cl, na _ (by simp), lk0, _, rfl, q, C, dy, _, _, rfl, hq, cl, na _ (by simp), lk20, _, _, dph0, dp2h0, sh0, sh20, _, rfl, ?_⟩
      refine ite2 (fun h0 => ?_) (fun h0 => ?_)
      rotate_left
      · simp only [eqAll, (by simpa using h0 : PyData.eqv _ _ = false), Bool.false_and, Bool.and_false, Bool.true_and] at k
        exact k
      refine ⟨_, rfl, p, C, dx, _, _, rfl, hp, cl, na _ (by simp), lk1, _, rfl, q, C, dy, _, _, rfl, hq, cl, na _ (by simp), lk21, _, _, dph1, dp2h1, sh1, sh21, _, rfl, ?_⟩
      refine ite2 (fun h1 => ?_) (fun h1 => ?_)
      rotate_left
      · simp only [eqAll, (by simpa using h1 : PyData.eqv _ _ = false), h0, Bool.false_and, Bool.and_false, Bool.true_and] at k
        exact k
      refine ⟨_, rfl, p, C, dx, _, _, rfl, hp, cl, na _ (by simp), lk2, _, rfl, q, C, dy, _, _, rfl, hq, cl, na _ (by simp), lk22, _, _, dph2, dp2h2, sh2, sh22, _, rfl, ?_⟩
      refine ite2 (fun h2 => ?_) (fun h2 => ?_)
      rotate_left
      · simp only [eqAll, (by simpa using h2 : PyData.eqv _ _ = false), h0, h1, Bool.false_and, Bool.and_false, Bool.true_and] at k
        exact k
      refine ⟨_, rfl, p, C, dx, _, _, rfl, hp, cl, na _ (by simp), lk3, _, rfl, q, C, dy, _, _, rfl, hq, cl, na _ (by simp), lk23, _, _, dph3, dp2h3, sh3, sh23, ?_⟩
      simp only [eqAll, h0, h1, h2, Bool.true_and, Bool.and_true] at k
      exact k
abbrev sCameI : Stmt := inClass (top 60) 0
theorem scCameI : FnScope ["self", "node"] ["self", "node"] (defScope sCameI) := ⟨rfl, rfl, rfl, by decide +kernel, rfl, by decide +kernel, by decide +kernel⟩
theorem mk_Came (F : Fun K "__init__" "Came.__init__" sCameI f fd) (cl : Cls K C) (na : ∀ n ∈ (["node"] : List Str), NoAttr K C n) : FnOk P w K mg base CX0 1 f fd ["self", "node"] (spMk C ["node"]) := by
  refine F.ok scCameI (fun vs H Q E h => ?_) (fun cdv A outer s H vs Q E hr h => ?_)
  · obtain ⟨p, dx, xs, rfl, hl, _⟩ := h
    show xs.length + 1 = _
    rw [hl]
    rfl
  · obtain ⟨p, dx, xs, rfl, hl, hp, k⟩ := h
    obtain ⟨x0, rfl⟩ := len_1 hl
    refine ⟨_, pss_one (ps_fld (pv 0) (pv 1) rfl), ?_⟩
    have b0 := But.refl p H
    have l0 : ([] : List (Str × V)).length ≤ 0 := Nat.le_refl _
    refine ⟨_, rfl, _, rfl, p, C, dx, _, rfl, hp, cl, na _ (by simp), (by show [].length < 1000; omega), ?_⟩
    have b1 := b0.upd (o := .ins C dx (putF "node" x0 []))
    have p0 : (upd H p (.ins C dx (putF "node" x0 []))) p = some (.ins C dx (putF "node" x0 [])) := upd_same
    show Q .non (upd H p (.ins C dx (putF "node" x0 [])))
    generalize upd H p (.ins C dx (putF "node" x0 [])) = H0 at b1 p0 ⊢
    have l1 : (putF "node" x0 []).length ≤ 1 := by have := len_putF "node" x0 []; omega
    have k00 : (putF "node" x0 []).lookup ("node" : Str) = some x0 := by rw [lookup_putF, if_pos rfl]
    generalize putF "node" x0 [] = F0 at p0 l1 k00
    exact k _ b1 ⟨dx, _, p0, k00, True.intro⟩
abbrev sCameE : Stmt := inClass (top 60) 1
theorem scCameE : FnScope ["self", "other"] ["self", "other"] (defScope sCameE) := ⟨rfl, rfl, rfl, by decide +kernel, rfl, by decide +kernel, by decide +kernel⟩
theorem eq_Came (F : Fun K "__eq__" "Came.__eq__" sCameE f fd) (mi : mg "isinstance" = none) (gC : mg "Came" = some (.ref C)) (cl : Cls K C) (TC : TyC K C) (na : ∀ n ∈ (["node"] : List Str), NoAttr K C n) : FnOk P w K mg base CX0 1 f fd ["self", "other"] (spEqD K C ["node"]) := by
  refine F.ok scCameE (fun vs H Q E h => ?_) (fun cdv A outer s H vs Q E hr h => ?_)
  · obtain ⟨p, y, xs, ds, rfl, _⟩ := h
    rfl
  · obtain ⟨p, y, xs, ds, rfl, ⟨dx, fs, hp, lk⟩, dp, sh, k⟩ := h
    refine ⟨_, pss_one (ps_ret (pe_and (pe_callB call_isi (by rfl) mi (by decide +kernel) (pa_cons (pv 1) (pa_cons (pe_glob (v := .ref C) (by rfl) gC rfl) pa_nil))) (pe_one (pe_cmpR (op_eqD hr.units) (pe_fld (pv 0) rfl) (pe_fld (pv 1) rfl) (nomark _))))), ?_⟩
    rcases k with ⟨t, ty, kt, k⟩ | ⟨q, ys, es, rfl, ⟨dy, gs, hq, lk2⟩, dp2, sh2, k⟩
    · exact ⟨_, rfl, y, _, t, _, false, rfl, .own C, ty, kt, _, rfl, iteF k⟩
    · refine ⟨_, rfl, _, _, _, _, true, rfl, .own C, .base (.ins hq cl TC.c1 TC.c2 TC.c3 TC.c4), kit_self, _, rfl, iteT ?_⟩
      obtain ⟨x0, xr0, rfl⟩ : ∃ a b, xs = a :: b := by
        cases xs with
        | nil => simp [LkAll] at lk
        | cons a b => exact ⟨a, b, rfl⟩
      obtain rfl : xr0 = [] := by
        cases xr0 with
        | nil => rfl
        | cons a b => simp [LkAll] at lk
      cases dp with
      | cons dph0 dpt0 =>
      cases dpt0
      obtain ⟨lk0, -⟩ := lk
      obtain ⟨sh0, -⟩ := sh
      obtain ⟨y0, yr0, rfl⟩ : ∃ a b, ys = a :: b := by
        cases ys with
        | nil => simp [LkAll] at lk2
        | cons a b => exact ⟨a, b, rfl⟩
      obtain rfl : yr0 = [] := by
        cases yr0 with
        | nil => rfl
        | cons a b => simp [LkAll] at lk2
      cases dp2 with
      | cons dp2h0 dp2t0 =>
      cases dp2t0
      obtain ⟨lk20, -⟩ := lk2
      obtain ⟨sh20, -⟩ := sh2
      refine ⟨_, rfl, p, C, dx, _, _, rfl, hp, cl, na _ (by simp), lk0, _, rfl, q, C, dy, _, _, rfl, hq, cl, na _ (by simp), lk20, _, _, dph0, dp2h0, sh0, sh20, ?_⟩
      simp only [eqAll, Bool.true_and, Bool.and_true] at k
      exact k
abbrev sRefusedI : Stmt := inClass (top 61) 0
theorem scRefusedI : FnScope ["self", "why"] ["self", "why"] (defScope sRefusedI) := ⟨rfl, rfl, rfl, by decide +kernel, rfl, by decide +kernel, by decide +kernel⟩
theorem mk_Refused (F : Fun K "__init__" "Refused.__init__" sRefusedI f fd) (cl : Cls K C) (na : ∀ n ∈ (["why"] : List Str), NoAttr K C n) : FnOk P w K mg base CX0 1 f fd ["self", "why"] (spMk C ["why"]) := by
  refine F.ok scRefusedI (fun vs H Q E h => ?_) (fun cdv A outer s H vs Q E hr h => ?_)
  · obtain ⟨p, dx, xs, rfl, hl, _⟩ := h
    show xs.length + 1 = _
    rw [hl]
    rfl
  · obtain ⟨p, dx, xs, rfl, hl, hp, k⟩ := h
    obtain ⟨x0, rfl⟩ := len_1 hl
    refine ⟨_, pss_one (ps_fld (pv 0) (pv 1) rfl), ?_⟩
    have b0 := But.refl p H
    have l0 : ([] : List (Str × V)).length ≤ 0 := Nat.le_refl _
    refine ⟨_, rfl, _, rfl, p, C, dx, _, rfl, hp, cl, na _ (by simp), (by show [].length < 1000; omega), ?_⟩
    have b1 := b0.upd (o := .ins C dx (putF "why" x0 []))
    have p0 : (upd H p (.ins C dx (putF "why" x0 []))) p = some (.ins C dx (putF "why" x0 [])) := upd_same
    show Q .non (upd H p (.ins C dx (putF "why" x0 [])))
    generalize upd H p (.ins C dx (putF "why" x0 [])) = H0 at b1 p0 ⊢
    have l1 : (putF "why" x0 []).length ≤ 1 := by have := len_putF "why" x0 []; omega
    have k00 : (putF "why" x0 []).lookup ("why" : Str) = some x0 := by rw [lookup_putF, if_pos rfl]
    generalize putF "why" x0 [] = F0 at p0 l1 k00
    exact k _ b1 ⟨dx, _, p0, k00, True.intro⟩
abbrev sRefusedE : Stmt := inClass (top 61) 1
theorem scRefusedE : FnScope ["self", "other"] ["self", "other"] (defScope sRefusedE) := ⟨rfl, rfl, rfl, by decide +kernel, rfl, by decide +kernel, by decide +kernel⟩
theorem eq_Refused (F : Fun K "__eq__" "Refused.__eq__" sRefusedE f fd) (mi : mg "isinstance" = none) (gC : mg "Refused" = some (.ref C)) (cl : Cls K C) (TC : TyC K C) (na : ∀ n ∈ (["why"] : List Str), NoAttr K C n) : FnOk P w K mg base CX0 1 f fd ["self", "other"] (spEqD K C ["why"]) := by
  refine F.ok scRefusedE (fun vs H Q E h => ?_) (fun cdv A outer s H vs Q E hr h => ?_)
  · obtain ⟨p, y, xs, ds, rfl, _⟩ := h
    rfl
  · obtain ⟨p, y, xs, ds, rfl, ⟨dx, fs, hp, lk⟩, dp, sh, k⟩ := h
    refine ⟨_, pss_one (ps_ret (pe_and (pe_callB call_isi (by rfl) mi (by decide +kernel) (pa_cons (pv 1) (pa_cons (pe_glob (v := .ref C) (by rfl) gC rfl) pa_nil))) (pe_one (pe_cmpR (op_eqD hr.units) (pe_fld (pv 0) rfl) (pe_fld (pv 1) rfl) (nomark _))))), ?_⟩
    rcases k with ⟨t, ty, kt, k⟩ | ⟨q, ys, es, rfl, ⟨dy, gs, hq, lk2⟩, dp2, sh2, k⟩
    · exact ⟨_, rfl, y, _, t, _, false, rfl, .own C, ty, kt, _, rfl, iteF k⟩
    · refine ⟨_, rfl, _, _, _, _, true, rfl, .own C, .base (.ins hq cl TC.c1 TC.c2 TC.c3 TC.c4), kit_self, _, rfl, iteT ?_⟩
      obtain ⟨x0, xr0, rfl⟩ : ∃ a b, xs = a :: b := by
        cases xs with
        | nil => simp [LkAll] at lk
        | cons a b => exact ⟨a, b, rfl⟩
      obtain rfl : xr0 = [] := by
        cases xr0 with
        | nil => rfl
        | cons a b => simp [LkAll] at lk
      cases dp with
      | cons dph0 dpt0 =>
      cases dpt0
      obtain ⟨lk0, -⟩ := lk
      obtain ⟨sh0, -⟩ := sh
      obtain ⟨y0, yr0, rfl⟩ : ∃ a b, ys = a :: b := by
        cases ys with
        | nil => simp [LkAll] at lk2
        | cons a b => exact ⟨a, b, rfl⟩
      obtain rfl : yr0 = [] := by
        cases yr0 with
        | nil => rfl
        | cons a b => simp [LkAll] at lk2
      cases dp2 with
      | cons dp2h0 dp2t0 =>
      cases dp2t0
      obtain ⟨lk20, -⟩ := lk2
      obtain ⟨sh20, -⟩ := sh2
      refine ⟨_, rfl, p, C, dx, _, _, rfl, hp, cl, na _ (by simp), lk0, _, rfl, q, C, dy, _, _, rfl, hq, cl, na _ (by simp), lk20, _, _, dph0, dp2h0, sh0, sh20, ?_⟩
      simp only [eqAll, Bool.true_and, Bool.and_true] at k
      exact k
abbrev sLookE : Stmt := inClass (top 59) 1
theorem scLookE : FnScope ["self", "other"] ["self", "other"] (defScope sLookE) := ⟨rfl, rfl, rfl, by decide +kernel, rfl, by decide +kernel, by decide +kernel⟩
theorem eq_Look (F : Fun K "__eq__" "Look.__eq__" sLookE f fd) (mi : mg "isinstance" = none) (gC : mg "Look" = some (.ref C)) (cl : Cls K C) (TC : TyC K C) (na : ∀ n ∈ (["follow", "last", "owners"] : List Str), NoAttr K C n) : FnOk P w K mg base CX0 1 f fd ["self", "other"] (spEqD K C ["follow", "last", "owners"]) := by
  refine F.ok scLookE (fun vs H Q E h => ?_) (fun cdv A outer s H vs Q E hr h => ?_)
  · obtain ⟨p, y, xs, ds, rfl, _⟩ := h
    rfl
  · obtain ⟨p, y, xs, ds, rfl, ⟨dx, fs, hp, lk⟩, dp, sh, k⟩ := h
    refine ⟨_, pss_one (ps_ret (pe_and (pe_callB call_isi (by rfl) mi (by decide +kernel) (pa_cons (pv 1) (pa_cons (pe_glob (v := .ref C) (by rfl) gC rfl) pa_nil))) (pe_and (pe_cmpR (op_eqD hr.units) (pe_fld (pv 0) rfl) (pe_fld (pv 1) rfl) (nomark _)) (pe_and (pe_cmpR (op_eqD hr.units) (pe_fld (pv 0) rfl) (pe_fld (pv 1) rfl) (nomark _)) (pe_one (pe_cmpR (op_eqD hr.units) (pe_fld (pv 0) rfl) (pe_fld (pv 1) rfl) (nomark _))))))), ?_⟩
    rcases k with ⟨t, ty, kt, k⟩ | ⟨q, ys, es, rfl, ⟨dy, gs, hq, lk2⟩, dp2, sh2, k⟩
    · exact ⟨_, rfl, y, _, t, _, false, rfl, .own C, ty, kt, _, rfl, iteF k⟩
    · refine ⟨_, rfl, _, _, _, _, true, rfl, .own C, .base (.ins hq cl TC.c1 TC.c2 TC.c3 TC.c4), kit_self, _, rfl, iteT ?_⟩
      obtain ⟨x0, xr0, rfl⟩ : ∃ a b, xs = a :: b := by
        cases xs with
        | nil => simp [LkAll] at lk
        | cons a b => exact ⟨a, b, rfl⟩
      obtain ⟨x1, xr1, rfl⟩ : ∃ a b, xr0 = a :: b := by
        cases xr0 with
        | nil => simp [LkAll] at lk
        | cons a b => exact ⟨a, b, rfl⟩
      obtain ⟨x2, xr2, rfl⟩ : ∃ a b, xr1 = a :: b := by
        cases xr1 with
        | nil => simp [LkAll] at lk
        | cons a b => exact ⟨a, b, rfl⟩
      obtain rfl : xr2 = [] := by
        cases xr2 with
        | nil => rfl
        | cons a b => simp [LkAll] at lk
      cases dp with
      | cons dph0 dpt0 =>
      cases dpt0 with
      | cons dph1 dpt1 =>
      cases dpt1 with
      | cons dph2 dpt2 =>
      cases dpt2
      obtain ⟨lk0, lk1, lk2, -⟩ := lk
      obtain ⟨sh0, sh1, sh2, -⟩ := sh
      obtain ⟨y0, yr0, rfl⟩ : ∃ a b, ys = a :: b := by
        cases ys with
        | nil => simp [LkAll] at lk2
        | cons a b => exact ⟨a, b, rfl⟩
      obtain ⟨y1, yr1, rfl⟩ : ∃ a b, yr0 = a :: b := by
        cases yr0 with
        | nil => simp [LkAll] at lk2
        | cons a b => exact ⟨a, b, rfl⟩
      obtain ⟨y2, yr2, rfl⟩ : ∃ a b, yr1 = a :: b := by
        cases yr1 with
        | nil => simp [LkAll] at lk2
        | cons a b => exact ⟨a, b, rfl⟩
      obtain rfl : yr2 = [] := by
        cases yr2 with
        | nil => rfl
        | cons a b => simp [LkAll] at lk2
      cases dp2 with
      | cons dp2h0 dp2t0 =>
      cases dp2t0 with
      | cons dp2h1 dp2t1 =>
      cases dp2t1 with
      | cons dp2h2 dp2t2 =>
      cases dp2t2
      obtain ⟨lk20, lk21, lk22, -⟩ := lk2
      obtain ⟨sh20, sh21, sh22, -⟩ := sh2
      refine ⟨_, rfl, p, C, dx, _, _, rfl, hp, cl, na _ (by simp), lk0, _, rfl, q, C, dy, _, _, rfl, hq, cl, na _ (by simp), lk20, _, _, dph0, dp2h0, sh0, sh20, _, rfl, ?_⟩
      refine ite2 (fun h0 => ?_) (fun h0 => ?_)
      rotate_left
      · simp only [eqAll, (by simpa using h0 : PyData.eqv _ _ = false), Bool.false_and, Bool.and_false, Bool.true_and] at k
        exact k
      refine ⟨_, rfl, p, C, dx, _, _, rfl, hp, cl, na _ (by simp), lk1, _, rfl, q, C, dy, _, _, rfl, hq, cl, na _ (by simp), lk21, _, _, dph1, dp2h1, sh1, sh21, _, rfl, ?_⟩
      refine ite2 (fun h1 => ?_) (fun h1 => ?_)
      rotate_left
      · simp only [eqAll, (by simpa using h1 : PyData.eqv _ _ = false), h0, Bool.false_and, Bool.and_false, Bool.true_and] at k
        exact k
      refine ⟨_, rfl, p, C, dx, _, _, rfl, hp, cl, na _ (by simp), lk2, _, rfl, q, C, dy, _, _, rfl, hq, cl, na _ (by simp), lk22, _, _, dph2, dp2h2, sh2, sh22, ?_⟩
      simp only [eqAll, h0, h1, Bool.true_and, Bool.and_true] at k
      exact k
theorem mk_File (F : Fun K "__init__" "File.__init__" sFileI f fd) (cl : Cls K C) (na : ∀ n ∈ (["owner"] : List Str), NoAttr K C n) : FnOk P w K mg base CX0 1 f fd ["self", "owner"] (spMk C ["owner"]) := by
  refine F.ok scFileI (fun vs H Q E h => ?_) (fun cdv A outer s H vs Q E hr h => ?_)
  · obtain ⟨p, dx, xs, rfl, hl, _⟩ := h
    show xs.length + 1 = _
    rw [hl]
    rfl
  · obtain ⟨p, dx, xs, rfl, hl, hp, k⟩ := h
    obtain ⟨x0, rfl⟩ := len_1 hl
    refine ⟨_, pss_one (ps_fld (pv 0) (pv 1) rfl), ?_⟩
    have b0 := But.refl p H
    have l0 : ([] : List (Str × V)).length ≤ 0 := Nat.le_refl _
    refine ⟨_, rfl, _, rfl, p, C, dx, _, rfl, hp, cl, na _ (by simp), (by show [].length < 1000; omega), ?_⟩
    have b1 := b0.upd (o := .ins C dx (putF "owner" x0 []))
    have p0 : (upd H p (.ins C dx (putF "owner" x0 []))) p = some (.ins C dx (putF "owner" x0 [])) := upd_same
    show Q .non (upd H p (.ins C dx (putF "owner" x0 [])))
    generalize upd H p (.ins C dx (putF "owner" x0 [])) = H0 at b1 p0 ⊢
    have l1 : (putF "owner" x0 []).length ≤ 1 := by have := len_putF "owner" x0 []; omega
    have k00 : (putF "owner" x0 []).lookup ("owner" : Str) = some x0 := by rw [lookup_putF, if_pos rfl]
    generalize putF "owner" x0 [] = F0 at p0 l1 k00
    exact k _ b1 ⟨dx, _, p0, k00, True.intro⟩
abbrev sFileE : Stmt := inClass (top 19) 1
theorem scFileE : FnScope ["self", "other"] ["self", "other"] (defScope sFileE) := ⟨rfl, rfl, rfl, by decide +kernel, rfl, by decide +kernel, by decide +kernel⟩
theorem eq_File (F : Fun K "__eq__" "File.__eq__" sFileE f fd) (mi : mg "isinstance" = none) (gC : mg "File" = some (.ref C)) (cl : Cls K C) (TC : TyC K C) (na : ∀ n ∈ (["owner"] : List Str), NoAttr K C n) : FnOk P w K mg base CX0 1 f fd ["self", "other"] (spEqD K C ["owner"]) := by
  refine F.ok scFileE (fun vs H Q E h => ?_) (fun cdv A outer s H vs Q E hr h => ?_)
  · obtain ⟨p, y, xs, ds, rfl, _⟩ := h
    rfl
  · obtain ⟨p, y, xs, ds, rfl, ⟨dx, fs, hp, lk⟩, dp, sh, k⟩ := h
    refine ⟨_, pss_one (ps_ret (pe_and (pe_callB call_isi (by rfl) mi (by decide +kernel) (pa_cons (pv 1) (pa_cons (pe_glob (v := .ref C) (by rfl) gC rfl) pa_nil))) (pe_one (pe_cmpR (op_eqD hr.units) (pe_fld (pv 0) rfl) (pe_fld (pv 1) rfl) (nomark _))))), ?_⟩
    rcases k with ⟨t, ty, kt, k⟩ | ⟨q, ys, es, rfl, ⟨dy, gs, hq, lk2⟩, dp2, sh2, k⟩
    · exact ⟨_, rfl, y, _, t, _, false, rfl, .own C, ty, kt, _, rfl, iteF k⟩
    · refine ⟨_, rfl, _, _, _, _, true, rfl, .own C, .base (.ins hq cl TC.c1 TC.c2 TC.c3 TC.c4), kit_self, _, rfl, iteT ?_⟩
      obtain ⟨x0, xr0, rfl⟩ : ∃ a b, xs = a :: b := by
        cases xs with
        | nil => simp [LkAll] at lk
        | cons a b => exact ⟨a, b, rfl⟩
      obtain rfl : xr0 = [] := by
        cases xr0 with
        | nil => rfl
        | cons a b => simp [LkAll] at lk
      cases dp with
      | cons dph0 dpt0 =>
      cases dpt0
      obtain ⟨lk0, -⟩ := lk
      obtain ⟨sh0, -⟩ := sh
      obtain ⟨y0, yr0, rfl⟩ : ∃ a b, ys = a :: b := by
        cases ys with
        | nil => simp [LkAll] at lk2
        | cons a b => exact ⟨a, b, rfl⟩
      obtain rfl : yr0 = [] := by
        cases yr0 with
        | nil => rfl
        | cons a b => simp [LkAll] at lk2
      cases dp2 with
      | cons dp2h0 dp2t0 =>
      cases dp2t0
      obtain ⟨lk20, -⟩ := lk2
      obtain ⟨sh20, -⟩ := sh2
      refine ⟨_, rfl, p, C, dx, _, _, rfl, hp, cl, na _ (by simp), lk0, _, rfl, q, C, dy, _, _, rfl, hq, cl, na _ (by simp), lk20, _, _, dph0, dp2h0, sh0, sh20, ?_⟩
      simp only [eqAll, Bool.true_and, Bool.and_true] at k
      exact k
theorem mk_Link (F : Fun K "__init__" "Link.__init__" sLinkI f fd) (cl : Cls K C) (na : ∀ n ∈ (["owner", "text"] : List Str), NoAttr K C n) : FnOk P w K mg base CX0 1 f fd ["self", "owner", "text"] (spMk C ["owner", "text"]) := by
  refine F.ok scLinkI (fun vs H Q E h => ?_) (fun cdv A outer s H vs Q E hr h => ?_)
  · obtain ⟨p, dx, xs, rfl, hl, _⟩ := h
    show xs.length + 1 = _
    rw [hl]
    rfl
  · obtain ⟨p, dx, xs, rfl, hl, hp, k⟩ := h
    obtain ⟨x0, x1, rfl⟩ := len_2 hl
    refine ⟨_, pss_cons (ps_fld (pv 0) (pv 1) rfl) (pss_one (ps_fld (pv 0) (pv 2) rfl)), ?_⟩
    have b0 := But.refl p H
    have l0 : ([] : List (Str × V)).length ≤ 0 := Nat.le_refl _
    refine ⟨_, rfl, _, rfl, p, C, dx, _, rfl, hp, cl, na _ (by simp), (by show [].length < 1000; omega), ?_⟩
    have b1 := b0.upd (o := .ins C dx (putF "owner" x0 []))
    have p0 : (upd H p (.ins C dx (putF "owner" x0 []))) p = some (.ins C dx (putF "owner" x0 [])) := upd_same
    generalize upd H p (.ins C dx (putF "owner" x0 [])) = H0 at b1 p0 ⊢
    have l1 : (putF "owner" x0 []).length ≤ 1 := by have := len_putF "owner" x0 []; omega
    have k00 : (putF "owner" x0 []).lookup ("owner" : Str) = some x0 := by rw [lookup_putF, if_pos rfl]
    generalize putF "owner" x0 [] = F0 at p0 l1 k00
    refine ⟨_, rfl, _, rfl, p, C, dx, _, rfl, p0, cl, na _ (by simp), (by show F0.length < 1000; omega), ?_⟩
    have b2 := b1.upd (o := .ins C dx (putF "text" x1 F0))
    have p1 : (upd H0 p (.ins C dx (putF "text" x1 F0))) p = some (.ins C dx (putF "text" x1 F0)) := upd_same
    show Q .non (upd H0 p (.ins C dx (putF "text" x1 F0)))
    generalize upd H0 p (.ins C dx (putF "text" x1 F0)) = H1 at b2 p1 ⊢
    have l2 : (putF "text" x1 F0).length ≤ 2 := by have := len_putF "text" x1 F0; omega
    have k01 : (putF "text" x1 F0).lookup ("owner" : Str) = some x0 := by rw [lookup_putF, if_neg (by decide +kernel)]; exact k00
    have k11 : (putF "text" x1 F0).lookup ("text" : Str) = some x1 := by rw [lookup_putF, if_pos rfl]
    generalize putF "text" x1 F0 = F1 at p1 l2 k01 k11
    exact k _ b2 ⟨dx, _, p1, k01, k11, True.intro⟩
abbrev sLinkE : Stmt := inClass (top 20) 1
theorem scLinkE : FnScope ["self", "other"] ["self", "other"] (defScope sLinkE) := ⟨rfl, rfl, rfl, by decide +kernel, rfl, by decide +kernel, by decide +kernel⟩
theorem eq_Link (F : Fun K "__eq__" "Link.__eq__" sLinkE f fd) (mi : mg "isinstance" = none) (gC : mg "Link" = some (.ref C)) (cl : Cls K C) (TC : TyC K C) (na : ∀ n ∈ (["owner", "text"] : List Str), NoAttr K C n) : FnOk P w K mg base CX0 1 f fd ["self", "other"] (spEqD K C ["owner", "text"]) := by
  refine F.ok scLinkE (fun vs H Q E h => ?_) (fun cdv A outer s H vs Q E hr h => ?_)
  · obtain ⟨p, y, xs, ds, rfl, _⟩ := h
    rfl
  · obtain ⟨p, y, xs, ds, rfl, ⟨dx, fs, hp, lk⟩, dp, sh, k⟩ := h
    refine ⟨_, pss_one (ps_ret (pe_and (pe_callB call_isi (by rfl) mi (by decide +kernel) (pa_cons (pv 1) (pa_cons (pe_glob (v := .ref C) (by rfl) gC rfl) pa_nil))) (pe_and (pe_cmpR (op_eqD hr.units) (pe_fld (pv 0) rfl) (pe_fld (pv 1) rfl) (nomark _)) (pe_one (pe_cmpR (op_eqD hr.units) (pe_fld (pv 0) rfl) (pe_fld (pv 1) rfl) (nomark _)))))), ?_⟩
    rcases k with ⟨t, ty, kt, k⟩ | ⟨q, ys, es, rfl, ⟨dy, gs, hq, lk2⟩, dp2, sh2, k⟩
    · exact ⟨_, rfl, y, _, t, _, false, rfl, .own C, ty, kt, _, rfl, iteF k⟩
    · refine ⟨_, rfl, _, _, _, _, true, rfl, .own C, .base (.ins hq cl TC.c1 TC.c2 TC.c3 TC.c4), kit_self, _, rfl, iteT ?_⟩
      obtain ⟨x0, xr0, rfl⟩ : ∃ a b, xs = a :: b := by
        cases xs with
        | nil => simp [LkAll] at lk
        | cons a b => exact ⟨a, b, rfl⟩
      obtain ⟨x1, xr1, rfl⟩ : ∃ a b, xr0 = a :: b := by
        cases xr0 with
        | nil => simp [LkAll] at lk
        | cons a b => exact ⟨a, b, rfl⟩
      obtain rfl : xr1 = [] := by
        cases xr1 with
        | nil => rfl
        | cons a b => simp [LkAll] at lk
      cases dp with
      | cons dph0 dpt0 =>
      cases dpt0 with
      | cons dph1 dpt1 =>
      cases dpt1
      obtain ⟨lk0, lk1, -⟩ := lk
      obtain ⟨sh0, sh1, -⟩ := sh
      obtain ⟨y0, yr0, rfl⟩ : ∃ a b, ys = a :: b := by
        cases ys with
        | nil => simp [LkAll] at lk2
        | cons a b => exact ⟨a, b, rfl⟩
      obtain ⟨y1, yr1, rfl⟩ : ∃ a b, yr0 = a :: b := by
        cases yr0 with
        | nil => simp [LkAll] at lk2
        | cons a b => exact ⟨a, b, rfl⟩
      obtain rfl : yr1 = [] := by
        cases yr1 with
        | nil => rfl
        | cons a b => simp [LkAll] at lk2
      cases dp2 with
      | cons dp2h0 dp2t0 =>
      cases dp2t0 with
      | cons dp2h1 dp2t1 =>
      cases dp2t1
      obtain ⟨lk20, lk21, -⟩ := lk2
      obtain ⟨sh20, sh21, -⟩ := sh2
      refine ⟨_, rfl, p, C, dx, _, _, rfl, hp, cl, na _ (by simp), lk0, _, rfl, q, C, dy, _, _, rfl, hq, cl, na _ (by simp), lk20, _, _, dph0, dp2h0, sh0, sh20, _, rfl, ?_⟩
      refine ite2 (fun h0 => ?_) (fun h0 => ?_)
      rotate_left
      · simp only [eqAll, (by simpa using h0 : PyData.eqv _ _ = false), Bool.false_and, Bool.and_false, Bool.true_and] at k
        exact k
      refine ⟨_, rfl, p, C, dx, _, _, rfl, hp, cl, na _ (by simp), lk1, _, rfl, q, C, dy, _, _, rfl, hq, cl, na _ (by simp), lk21, _, _, dph1, dp2h1, sh1, sh21, ?_⟩
      simp only [eqAll, h0, Bool.true_and, Bool.and_true] at k
      exact k
end
end NW

set_option maxRecDepth 100000
set_option maxHeartbeats 1000000
/-! what deeds ask of a tree -/
namespace NW
open PySem L2 NG TR LamX
/-- the fields of the classes: MakeFolder, MakeFile, MakeLink, Put, Take, Move, Came, Refused, Look, File, Link -/
def dns : Nat → List Str
  | 0 => ["folder", "name", "owner"]
  | 1 => ["folder", "name", "owner"]
  | 2 => ["folder", "name", "owner", "text"]
  | 3 => ["folder", "name", "node"]
  | 4 => ["folder", "name"]
  | 5 => ["folder", "name", "goal", "other"]
  | 6 => ["node"]
  | 7 => ["why"]
  | 8 => ["follow", "last", "owners"]
  | 9 => ["owner"]
  | _ => ["owner", "text"]
structure TxtTh (K : PySem.W.Frag) (ct : Nat → Addr) : Prop where
  cl : ∀ i, i < 11 → Cls K (ct i)
  ty : ∀ i, i < 11 → TyC K (ct i)
  kit : ∀ i j, i < 11 → j < 11 → PySem.W.kitOne K (.ref (ct i)) (.ref (ct j)) = some (decide (i = j))
  na : ∀ i, i < 11 → ∀ n ∈ dns i, NoAttr K (ct i) n
structure TxtDd (K : PySem.W.Frag) (mg : Str → Option Value) (ct fa : Nat → Addr) : Prop where
  m_isinstance : mg "isinstance" = none
  m_all : mg "all" = none
  m_dict : mg "dict" = none
  m_list : mg "list" = none
  m_str : mg "str" = none
  m_len : mg "len" = none
  m_MakeFolder : mg "MakeFolder" = some (.ref (ct 0))
  m_MakeFile : mg "MakeFile" = some (.ref (ct 1))
  m_MakeLink : mg "MakeLink" = some (.ref (ct 2))
  m_Put : mg "Put" = some (.ref (ct 3))
  m_Take : mg "Take" = some (.ref (ct 4))
  m_Move : mg "Move" = some (.ref (ct 5))
  m_Came : mg "Came" = some (.ref (ct 6))
  m_Refused : mg "Refused" = some (.ref (ct 7))
  m_Look : mg "Look" = some (.ref (ct 8))
  m_File : mg "File" = some (.ref (ct 9))
  m_Link : mg "Link" = some (.ref (ct 10))
  g_is_at : mg "is_at" = some (.ref (fa 0))
  kp_is_at : PySem.W.keepIn K (.ref (fa 0)) = true
  g_is_name : mg "is_name" = some (.ref (fa 1))
  kp_is_name : PySem.W.keepIn K (.ref (fa 1)) = true
  g_is_owner : mg "is_owner" = some (.ref (fa 2))
  kp_is_owner : PySem.W.keepIn K (.ref (fa 2)) = true
  g_bad_place : mg "bad_place" = some (.ref (fa 3))
  kp_bad_place : PySem.W.keepIn K (.ref (fa 3)) = true
  g_is_making : mg "is_making" = some (.ref (fa 4))
  kp_is_making : PySem.W.keepIn K (.ref (fa 4)) = true
  g_folders_of : mg "folders_of" = some (.ref (fa 5))
  kp_folders_of : PySem.W.keepIn K (.ref (fa 5)) = true
  g_names_of : mg "names_of" = some (.ref (fa 6))
  kp_names_of : PySem.W.keepIn K (.ref (fa 6)) = true
  g_is_folder : mg "is_folder" = some (.ref (fa 7))
  kp_is_folder : PySem.W.keepIn K (.ref (fa 7)) = true
  g_entered : mg "entered" = some (.ref (fa 8))
  kp_entered : PySem.W.keepIn K (.ref (fa 8)) = true
  g_why_not : mg "why_not" = some (.ref (fa 9))
  kp_why_not : PySem.W.keepIn K (.ref (fa 9)) = true
  g_lacks_node : mg "lacks_node" = some (.ref (fa 10))
  kp_lacks_node : PySem.W.keepIn K (.ref (fa 10)) = true
  g_finds_name_taken : mg "finds_name_taken" = some (.ref (fa 11))
  kp_finds_name_taken : PySem.W.keepIn K (.ref (fa 11)) = true
  g_takes_full_folder : mg "takes_full_folder" = some (.ref (fa 12))
  kp_takes_full_folder : PySem.W.keepIn K (.ref (fa 12)) = true
  g_moves_below_itself : mg "moves_below_itself" = some (.ref (fa 13))
  kp_moves_below_itself : PySem.W.keepIn K (.ref (fa 13)) = true
  g_changed : mg "changed" = some (.ref (fa 14))
  kp_changed : PySem.W.keepIn K (.ref (fa 14)) = true
  g_enter : mg "enter" = some (.ref (fa 15))
  kp_enter : PySem.W.keepIn K (.ref (fa 15)) = true
  g_done : mg "done" = some (.ref (fa 16))
  kp_done : PySem.W.keepIn K (.ref (fa 16)) = true
theorem kitAny_ct {K : PySem.W.Frag} {ct : Nat → Addr} (T : TxtTh K ct) {i : Nat} (hi : i < 11) : ∀ js : List Nat, (∀ j ∈ js, j < 11) → PySem.W.kitAny K (.ref (ct i)) (js.map fun j => Value.ref (ct j)) = some (js.contains i)
  | [], _ => rfl
  | j :: r, h => by
    have hj := h j List.mem_cons_self
    have ih := kitAny_ct T hi r fun x hx => h x (List.mem_cons_of_mem _ hx)
    rw [List.map_cons]
    unfold PySem.W.kitAny
    rw [T.kit i j hi hj, List.contains_cons]
    by_cases e : i = j
    · subst e
      simp
    · rw [decide_eq_false e]
      have e' : (i == j) = false := by simpa using e
      rw [e', Bool.false_or]
      exact ih
/-! ### fields that may be of any kind -/
/-- a number, or what is none -/
def IntOdd (K : PySem.W.Frag) (H : Hp) (v : V) : Prop := (∃ n : Int, v = .int n) ∨ ((∀ n : Int, v ≠ .int n) ∧ ∃ (t : Value) (bi bb : Bool), (∀ H', ExtN H H' → TyX K H' v t) ∧ PySem.W.kitOne K t (.type "int") = some bi ∧ PySem.W.kitOne K t (.type "bool") = some bb ∧ (bi && !bb) = false)
theorem IntOdd.ext {K : PySem.W.Frag} {H H' : Hp} {v : V} (h : IntOdd K H v) (s : ExtN H H') : IntOdd K H' v := h.imp id fun ⟨n, t, bi, bb, ty, r⟩ => ⟨n, t, bi, bb, fun H2 s2 => ty H2 (s.trans s2), r⟩
theorem IntOdd.same {K : PySem.W.Frag} {H H' : Hp} {v : V} (h : IntOdd K H v) (s : Same H H') : IntOdd K H' v := h.ext (ExtN.same s)
/-- a text, or what is none -/
def StrOdd (K : PySem.W.Frag) (H : Hp) (v : V) : Prop := (∃ z : Str, v = .str z ∧ z.length + 2 ≤ sizeLine ∧ ∀ p ∈ partsOf z, p.length ≤ sizeLine) ∨ ((∀ z : Str, v ≠ .str z) ∧ ∃ t : Value, (∀ H', ExtN H H' → TyX K H' v t) ∧ PySem.W.kitOne K t (.type "str") = some false)
theorem StrOdd.ext {K : PySem.W.Frag} {H H' : Hp} {v : V} (h : StrOdd K H v) (s : ExtN H H') : StrOdd K H' v := h.imp id fun ⟨n, t, ty, r⟩ => ⟨n, t, fun H2 s2 => ty H2 (s.trans s2), r⟩
theorem StrOdd.same {K : PySem.W.Frag} {H H' : Hp} {v : V} (h : StrOdd K H v) (s : Same H H') : StrOdd K H' v := h.ext (ExtN.same s)
theorem HasF.ext {H H' : Hp} {C a : Addr} {ns : List Str} {xs : List V} (h : HasF H C a ns xs) (s : ExtN H H') : HasF H' C a ns xs := let ⟨dx, fs, e, l⟩ := h; ⟨dx, fs, s _ _ e (fun _ z => by cases z), l⟩
def folV (nds : List Nd) : V → Bool
  | .int n => decide (0 ≤ n) && folB nds n.toNat
  | _ => false
def nameV : V → Bool
  | .str z => nameZ z
  | _ => false
def ownV : V → Bool
  | .int n => decide (0 ≤ n)
  | _ => false
def textV : V → Bool
  | .str z => decide (badP z = none)
  | _ => false
/-- a file or link -/
def leafB (nds : List Nd) (k : Nat) : Bool := match nds[k]? with
  | some nd => decide (clsI nd = 1) || decide (clsI nd = 2)
  | none => false
def leafV (nds : List Nd) : V → Bool
  | .int n => decide (0 ≤ n) && leafB nds n.toNat
  | _ => false
def fosV (i : Nat) (xs : List V) : List V := if i = 5 then [xs.getD 0 .non, xs.getD 2 .non] else [xs.getD 0 .non]
def nosV (i : Nat) (xs : List V) : List V := if i = 5 then [xs.getD 1 .non, xs.getD 3 .non] else [xs.getD 1 .non]
/-- where a folder's entry leads -/
def entTo (nd : Nd) (z : Str) : V := match nd.ents.find? (fun e => e.1 == z) with
  | some e => .int (e.2 : Nat)
  | none => .non
def spNameX (K : PySem.W.Frag) : Sp := fun vs H Q _ => ∃ v : V, vs = [v] ∧ StrOdd K H v ∧ ∀ H', Same H H' → Q (.bl (nameV v)) H'
def spOwnerX (K : PySem.W.Frag) : Sp := fun vs H Q _ => ∃ v : V, vs = [v] ∧ IntOdd K H v ∧ Q (.bl (ownV v)) H
def spMaking (ct : Nat → Addr) : Sp := fun vs H Q _ => ∃ (d dx : Addr) (fs : List (Str × V)) (i : Nat), vs = [.ref d] ∧ i < 11 ∧ H d = some (.ins (ct i) dx fs) ∧ ∀ H', Same H H' → Q (.bl (decide (i < 3))) H'
def spFos (ct : Nat → Addr) : Sp := fun vs H Q _ => ∃ (d : Addr) (i : Nat) (xs : List V), vs = [.ref d] ∧ i < 6 ∧ HasF H (ct i) d (dns i) xs ∧ ∀ l, H l = none → Q (.ref l) (upd H l (.lst (fosV i xs)))
def spNos (ct : Nat → Addr) : Sp := fun vs H Q _ => ∃ (d : Addr) (i : Nat) (xs : List V), vs = [.ref d] ∧ i < 6 ∧ HasF H (ct i) d (dns i) xs ∧ ∀ l, H l = none → Q (.ref l) (upd H l (.lst (nosV i xs)))
def spIsFol (K : PySem.W.Frag) (cs : Nat → Addr) (CT : Addr) : Sp := fun vs H Q _ => ∃ (t : Addr) (qs : List Addr) (nds : List Nd) (v : V), vs = [.ref t, v] ∧ TreeAt K cs CT H t qs nds ∧ IntOdd K H v ∧ Q (.bl (folV nds v)) H
def spEntd (K : PySem.W.Frag) (cs : Nat → Addr) (CT : Addr) : Sp := fun vs H Q _ => ∃ (t : Addr) (qs : List Addr) (nds : List Nd) (k : Nat) (o : Int) (es : List (Str × Nat)) (z : Str), vs = [.ref t, .int (k : Nat), .str z] ∧ TreeAt K cs CT H t qs nds ∧ nds[k]? = some (.fol o es) ∧ ∀ H', Same H H' → Q (entTo (.fol o es) z) H'
theorem fnOk_or {P : Program} {w : World} {K : PySem.W.Frag} {mg : Str → Option Value} {base : Heap} {CX : CXT} {k : Nat} {f : Addr} {fd : FuncData} {ps : List Str} {a b : Sp} (h : FnOk P w K mg base CX k f fd ps a) (h' : FnOk P w K mg base CX k f fd ps b) :
    FnOk P w K mg base CX k f fd ps (fun vs H Q E => a vs H Q E ∨ b vs H Q E) := by
  refine ⟨fun vs H Q E q => ?_, ?_⟩
  · rcases q with q | q
    · exact h.len _ _ _ _ q
    · exact h'.len _ _ _ _ q
  · intro A ST s H g us vs Q E hr e0 bi r q
    rcases q with q | q
    · exact h.run A ST s H g us vs Q E hr e0 bi r q
    · exact h'.run A ST s H g us vs Q E hr e0 bi r q
theorem fnOk_if {P : Program} {w : World} {K : PySem.W.Frag} {mg : Str → Option Value} {base : Heap} {CX : CXT} {k : Nat} {f : Addr} {fd : FuncData} {ps : List Str} {a b : Sp} (h : FnOk P w K mg base CX k f fd ps a) (w' : ∀ vs H Q E, b vs H Q E → a vs H Q E) :
    FnOk P w K mg base CX k f fd ps b :=
  ⟨fun vs H Q E q => h.len _ _ _ _ (w' _ _ _ _ q), fun A ST s H g us vs Q E hr e0 bi r q => h.run A ST s H g us vs Q E hr e0 bi r (w' _ _ _ _ q)⟩
theorem lk_get {fs : List (Str × V)} : ∀ {ns : List Str} {xs : List V} {k : Nat} {n : Str}, LkAll fs ns xs → ns[k]? = some n → fs.lookup n = some (xs.getD k .non)
  | [], [], k, n, _, h => by simp at h
  | m :: ns, x :: xs, 0, n, l, h => by
    simp at h
    subst h
    simpa using l.1
  | m :: ns, x :: xs, k + 1, n, l, h => by
    have := lk_get (k := k) l.2 (by simpa using h)
    simpa using this
theorem deed_two {i : Nat} (hi : i < 6) : (dns i)[0]? = some ("folder" : Str) ∧ (dns i)[1]? = some ("name" : Str) := by
  rcases (by omega : i = 0 ∨ i = 1 ∨ i = 2 ∨ i = 3 ∨ i = 4 ∨ i = 5) with rfl | rfl | rfl | rfl | rfl | rfl <;> exact ⟨rfl, rfl⟩
section
variable {P : Program} {w : World} {K : PySem.W.Frag} {mg : Str → Option Value} {base : Heap} {fName fStep fNum fOwner fAt fDigit fPool f CT : Addr} {cs ct fa : Nat → Addr}
abbrev sMkg : Stmt := top 43
abbrev sFos : Stmt := top 44
abbrev sNos : Stmt := top 45
abbrev sIsFol : Stmt := top 46
abbrev sEntd : Stmt := top 47
theorem ok_nameX {fd : FuncData} (F : Fun K "is_name" "is_name" sName f fd) (T : TxtN K mg f fStep) : FnOk P w K mg base CX0 1 f fd ["value"] (spNameX K) := by
  have nd := scName.nd
  obtain ⟨t1, g1⟩ := T.g_LONGEST_NAME
  obtain ⟨t2, g2⟩ := T.g_NAME_LETTERS
  have G1 := ok_name (P := P) (w := w) (base := base) F T
  have G2 : FnOk P w K mg base CX0 1 f fd ["value"] (fun vs H Q _ => ∃ (v : V) (t : Value), vs = [v] ∧ TyX K H v t ∧ PySem.W.kitOne K t (.type "str") = some false ∧ Q (.bl false) H) := by
    refine F.ok scName (fun vs H Q E h => ?_) (fun cdv A outer s H vs Q E hr h => ?_)
    · obtain ⟨v, t, rfl, _⟩ := h
      rfl
    · obtain ⟨v, t, rfl, ty, kt, k⟩ := h
      refine ⟨_, (pss_cons (ps_if (PW.pt (pw_or (pt_not (pt_val (pe_callB call_isi (by rfl) T.m_isinstance (by decide +kernel) (pa_cons (pv 0) (pa_cons (pe_bltn (v := .ty "str") (by rfl) T.m_str (by decide +kernel) rfl) pa_nil))))) (pw_or1 (pt_not (pt_chain op_le op_le pe_int (pe_callB call_len_str (by rfl) T.m_len (by decide +kernel) (pa_cons (pv 0) pa_nil)) (pe_glob (v := .int 12) (by rfl) g1 ⟨_, rfl⟩)))))) (pss_one (ps_ret pe_bl)) pss_nil)
  (pss_cons (ps_if (pt_cmpR op_in_seq (pv 0) (pe_tup (pa_cons pe_str (pa_cons pe_str pa_nil))) (by rfl)) (pss_one (ps_ret pe_bl)) pss_nil)
  (pss_one (ps_ret (pe_callB (cr_all rfl) (by rfl) T.m_all (by decide +kernel) (pa_cons (pe_lc (own := [("letter", 1)]) rfl nd (pi_str (pv 0)) (blkOk_by (N := ["value", "letter"]) (sc := defScope sName) (by decide +kernel)) (fun _ _ _ _ _ => (pg_name (i := 1) nd rfl (Or.inl rfl))) (fun _ _ _ _ _ => pts_nil) (fun _ _ _ _ _ => (pe_cmpR op_in_sign (pv 1) (pe_glob (v := .str letters) (by rfl) g2 ⟨_, rfl⟩) (by rfl)))) pa_nil)))))), ?_⟩
      refine ⟨_, rfl, _, _, _, _, false, rfl, .ty _, ty, kt, _, rfl, ?_⟩
      exact iteT (iteT k)
  refine fnOk_if (fnOk_or G1 G2) fun vs H Q E h => ?_
  obtain ⟨v, rfl, o, k⟩ := h
  rcases o with ⟨z, rfl, hz, _⟩ | ⟨nz, t, ty, kt⟩
  · exact .inl ⟨z, rfl, by omega, fun H' s => k H' s⟩
  · refine .inr ⟨v, t, rfl, ty H (ExtN.refl _), kt, ?_⟩
    have := k H (Same.refl _)
    have e : nameV v = false := by cases v <;> first | rfl | exact absurd rfl (nz _)
    rw [e] at this
    exact this
theorem ok_ownerX {fd fdN : FuncData} (F : Fun K "is_owner" "is_owner" sOwner f fd) (T : TxtK K mg fNum fAt fDigit fPool) (G : FnOk P w K mg base CX0 1 fNum fdN ["value"] (spNum K)) (b : Binds K fdN ["value"] []) : FnOk P w K mg base CX0 2 f fd ["value"] (spOwnerX K) := by
  refine F.ok scOwner (fun vs H Q E h => ?_) (fun cdv A outer s H vs Q E hr h => ?_)
  · obtain ⟨v, rfl, _⟩ := h
    rfl
  · obtain ⟨v, rfl, h, k⟩ := h
    have hr1 : Room 1 _ := hr
    refine ⟨_, (pss_one (ps_ret (pe_and (pe_call G hr1 (by rfl) T.g_is_number T.kp_is_number b .nil pass0 (pa_cons (pv 0) pa_nil)) (pe_one (pe_cmpR op_ge (pv 0) pe_int (nomark _)))))), ?_⟩
    rcases h with ⟨n, rfl⟩ | ⟨nn, t, bi, bb, ty, ki, kb, e⟩
    · exact ⟨_, rfl, .int n, _, true, false, rfl, .base (.int n), rfl, rfl, _, rfl, iteT ⟨_, rfl, _, _, rfl, rfl, k⟩⟩
    · refine ⟨_, rfl, v, t, bi, bb, rfl, ty H (ExtN.refl _), ki, kb, _, rfl, ?_⟩
      rw [e]
      have e2 : ownV v = false := by cases v <;> first | rfl | exact absurd rfl (nn _)
      rw [e2] at k
      exact iteF k
theorem scMkg : FnScope ["deed"] ["deed"] (defScope sMkg) := ⟨rfl, rfl, rfl, by decide +kernel, rfl, by decide +kernel, by decide +kernel⟩
theorem ok_mkg {fd : FuncData} (F : Fun K "is_making" "is_making" sMkg f fd) (TH : TxtTh K ct) (D : TxtDd K mg ct fa) : FnOk P w K mg base CX0 1 f fd ["deed"] (spMaking ct) := by
  refine F.ok scMkg (fun vs H Q E h => ?_) (fun cdv A outer s H vs Q E hr h => ?_)
  · obtain ⟨d, dx, fs, i, rfl, _⟩ := h
    rfl
  · obtain ⟨d, dx, fs, i, rfl, hi, hd, k⟩ := h
    refine ⟨_, (pss_one (ps_ret (pe_callB call_isiT (by rfl) D.m_isinstance (by decide +kernel) (pa_cons (pv 0) (pa_cons (pe_tup (pa_cons (pe_glob (v := .ref (ct 0)) (by rfl) D.m_MakeFolder rfl) (pa_cons (pe_glob (v := .ref (ct 1)) (by rfl) D.m_MakeFile rfl) (pa_cons (pe_glob (v := .ref (ct 2)) (by rfl) D.m_MakeLink rfl) pa_nil)))) pa_nil))))), ?_⟩
    refine ⟨_, rfl, (by show 3 ≤ sizeLine; decide), fun tp htp => ?_⟩
    have sp := NG.Same.upd (o := HO.tup [V.ref (ct 0), V.ref (ct 1), V.ref (ct 2)]) htp
    have ty := TH.ty i hi
    have e := kitAny_ct TH hi [0, 1, 2] (by simp)
    have e4 : ([0, 1, 2] : List Nat).contains i = decide (i < 3) := by
      by_cases h : i < 3
      · rcases (by omega : i = 0 ∨ i = 1 ∨ i = 2) with rfl | rfl | rfl <;> rfl
      · rw [decide_eq_false h]
        have h0 : i ≠ 0 := by omega
        have h1 : i ≠ 1 := by omega
        have h2 : i ≠ 2 := by omega
        simp [h0, h1, h2]
    rw [e4] at e
    refine ⟨_, tp, _, .ref (ct i), [.ref (ct 0), .ref (ct 1), .ref (ct 2)], _, rfl, upd_same, ?_, .base (.ins (sp _ _ hd) (TH.cl i hi) ty.c1 ty.c2 ty.c3 ty.c4), e, k _ sp⟩
    exact .cons (.own _) (.cons (.own _) (.cons (.own _) .nil))
theorem scFos : FnScope ["deed"] ["deed"] (defScope sFos) := ⟨rfl, rfl, rfl, by decide +kernel, rfl, by decide +kernel, by decide +kernel⟩
theorem ok_fos {fd : FuncData} (F : Fun K "folders_of" "folders_of" sFos f fd) (TH : TxtTh K ct) (D : TxtDd K mg ct fa) : FnOk P w K mg base CX0 1 f fd ["deed"] (spFos ct) := by
  refine F.ok scFos (fun vs H Q E h => ?_) (fun cdv A outer s H vs Q E hr h => ?_)
  · obtain ⟨d, i, xs, rfl, _⟩ := h
    rfl
  · obtain ⟨d, i, xs, rfl, hi, ⟨dx, fs, hd, lk⟩, k⟩ := h
    have hi' : i < 11 := by omega
    have ty := TH.ty i hi'
    have cl := TH.cl i hi'
    obtain ⟨n0, n1⟩ := deed_two hi
    refine ⟨_, (pss_cons (ps_if (pt_val (pe_callB call_isi (by rfl) D.m_isinstance (by decide +kernel) (pa_cons (pv 0) (pa_cons (pe_glob (v := .ref (ct 5)) (by rfl) D.m_Move rfl) pa_nil)))) (pss_one (ps_ret (pe_lst (pa_cons (pe_fld (pv 0) rfl) (pa_cons (pe_fld (pv 0) rfl) pa_nil))))) pss_nil)
  (pss_one (ps_ret (pe_lst (pa_cons (pe_fld (pv 0) rfl) pa_nil))))), ?_⟩
    refine ⟨_, rfl, _, _, _, _, decide (i = 5), rfl, .own (ct 5), .base (.ins hd cl ty.c1 ty.c2 ty.c3 ty.c4), TH.kit i 5 hi' (by decide), _, rfl, ?_⟩
    refine ite2 (fun h => ?_) (fun h => ?_)
    · have h5 : i = 5 := of_decide_eq_true h
      subst h5
      exact ⟨_, rfl, d, _, dx, _, _, rfl, hd, cl, TH.na 5 hi' _ (by simp [dns]), lk_get lk n0, _, rfl, d, _, dx, _, _, rfl, hd, cl, TH.na 5 hi' _ (by simp [dns]), lk_get lk (show (dns 5)[2]? = some ("goal" : Str) from rfl), (by show 2 ≤ sizeLine; decide), fun l hl => k l hl⟩
    · have h5 : i ≠ 5 := of_decide_eq_false (by simpa using h)
      have k' := k
      unfold fosV at k'
      rw [if_neg h5] at k'
      exact ⟨_, rfl, d, _, dx, _, _, rfl, hd, cl, TH.na i hi' _ (List.mem_of_getElem? n0), lk_get lk n0, (by show 1 ≤ sizeLine; decide), fun l hl => k' l hl⟩
theorem scNos : FnScope ["deed"] ["deed"] (defScope sNos) := ⟨rfl, rfl, rfl, by decide +kernel, rfl, by decide +kernel, by decide +kernel⟩
theorem ok_nos {fd : FuncData} (F : Fun K "names_of" "names_of" sNos f fd) (TH : TxtTh K ct) (D : TxtDd K mg ct fa) : FnOk P w K mg base CX0 1 f fd ["deed"] (spNos ct) := by
  refine F.ok scNos (fun vs H Q E h => ?_) (fun cdv A outer s H vs Q E hr h => ?_)
  · obtain ⟨d, i, xs, rfl, _⟩ := h
    rfl
  · obtain ⟨d, i, xs, rfl, hi, ⟨dx, fs, hd, lk⟩, k⟩ := h
    have hi' : i < 11 := by omega
    have ty := TH.ty i hi'
    have cl := TH.cl i hi'
    obtain ⟨n0, n1⟩ := deed_two hi
    refine ⟨_, (pss_cons (ps_if (pt_val (pe_callB call_isi (by rfl) D.m_isinstance (by decide +kernel) (pa_cons (pv 0) (pa_cons (pe_glob (v := .ref (ct 5)) (by rfl) D.m_Move rfl) pa_nil)))) (pss_one (ps_ret (pe_lst (pa_cons (pe_fld (pv 0) rfl) (pa_cons (pe_fld (pv 0) rfl) pa_nil))))) pss_nil)
  (pss_one (ps_ret (pe_lst (pa_cons (pe_fld (pv 0) rfl) pa_nil))))), ?_⟩
    refine ⟨_, rfl, _, _, _, _, decide (i = 5), rfl, .own (ct 5), .base (.ins hd cl ty.c1 ty.c2 ty.c3 ty.c4), TH.kit i 5 hi' (by decide), _, rfl, ?_⟩
    refine ite2 (fun h => ?_) (fun h => ?_)
    · have h5 : i = 5 := of_decide_eq_true h
      subst h5
      exact ⟨_, rfl, d, _, dx, _, _, rfl, hd, cl, TH.na 5 hi' _ (by simp [dns]), lk_get lk n1, _, rfl, d, _, dx, _, _, rfl, hd, cl, TH.na 5 hi' _ (by simp [dns]), lk_get lk (show (dns 5)[3]? = some ("other" : Str) from rfl), (by show 2 ≤ sizeLine; decide), fun l hl => k l hl⟩
    · have h5 : i ≠ 5 := of_decide_eq_false (by simpa using h)
      have k' := k
      unfold nosV at k'
      rw [if_neg h5] at k'
      exact ⟨_, rfl, d, _, dx, _, _, rfl, hd, cl, TH.na i hi' _ (List.mem_of_getElem? n1), lk_get lk n1, (by show 1 ≤ sizeLine; decide), fun l hl => k' l hl⟩
theorem scIsFol : FnScope ["tree", "number"] ["tree", "number"] (defScope sIsFol) := ⟨rfl, rfl, rfl, by decide +kernel, rfl, by decide +kernel, by decide +kernel⟩
theorem ok_isFol {fd fdA : FuncData} (F : Fun K "is_folder" "is_folder" sIsFol f fd) (D : TxtDd K mg ct fa) (TG : TxtG K mg cs) (cl : Cls K CT) (h1 : NoAttr K CT "nodes") (G_is_at : FnOk P w K mg base CX0 2 (fa 0) fdA ["nodes", "number"] (spAt K)) (b_is_at : Binds K fdA ["nodes", "number"] []) :
    FnOk P w K mg base CX0 3 f fd ["tree", "number"] (spIsFol K cs CT) := by
  refine F.ok scIsFol (fun vs H Q E h => ?_) (fun cdv A outer s H vs Q E hr h => ?_)
  · obtain ⟨t, qs, nds, v, rfl, _⟩ := h
    rfl
  · obtain ⟨t, qs, nds, v, rfl, ⟨dx, N, ht, TR⟩, hv, k⟩ := h
    have hr_is_at : Room 2 _ := hr
    have fl : (fl1 "nodes" (V.ref N)).lookup ("nodes" : Str) = some (.ref N) := by unfold fl1; rw [lookup_putF, if_pos rfl]
    have ql : (qs.map V.ref).length = nds.length := by rw [List.length_map, TR.ob.len]
    refine ⟨_, (pss_one (ps_ret (pe_and (pe_call G_is_at hr_is_at (by rfl) D.g_is_at D.kp_is_at b_is_at .nil pass0 (pa_cons (pe_fld (pv 0) rfl) (pa_cons (pv 1) pa_nil))) (pe_one (pe_callB call_isi (by rfl) D.m_isinstance (by decide +kernel) (pa_cons (pe_ix ix_tup (pe_fld (pv 0) rfl) (pv 1) (fun _ _ => rfl)) (pa_cons (pe_glob (v := .ref (cs 0)) (by rfl) TG.m_Folder rfl) pa_nil))))))), ?_⟩
    rcases hv with ⟨n, rfl⟩ | ⟨nn, ty, bi, bb, tx, ki, kb, e⟩
    · refine ⟨_, rfl, t, CT, dx, _, _, rfl, ht, cl, h1, fl, _, rfl, N, _, _, rfl, TR.ob.ls, .inl ⟨n, rfl, _, rfl, ?_⟩⟩
      rw [ql]
      refine ite2 (fun h => ?_) (fun h => ?_)
      · rw [Bool.and_eq_true] at h
        have h0 := of_decide_eq_true h.1
        have h2 := of_decide_eq_true h.2
        obtain ⟨j, rfl⟩ : ∃ j : Nat, n = (j : Int) := ⟨n.toNat, by omega⟩
        have hj : j < nds.length := by omega
        have hn : nds[j]? = some nds[j] := List.getElem?_eq_getElem hj
        generalize nds[j] = x at hn
        obtain ⟨q, hq, hqr, hO⟩ := TR.at_ hn
        obtain ⟨dx', fs, hins, _⟩ := obj_ins hO
        have ci := clsI_lt x
        have ty := TG.ty _ ci
        refine ⟨_, rfl, t, CT, dx, _, _, rfl, ht, cl, h1, fl, _, rfl, N, _, _, _, rfl, rfl, TR.ob.ls, atI_nat hqr, ?_⟩
        refine ⟨_, _, _, _, decide (clsI x = 0), rfl, .own (cs 0), .base (.ins hins (TG.cl _ ci) ty.c1 ty.c2 ty.c3 ty.c4), TG.kit _ 0 ci (by decide), ?_⟩
        have e : folV nds (.int (j : Int)) = decide (clsI x = 0) := by
          show (decide (0 ≤ (j : Int)) && folB nds ((j : Int)).toNat) = _
          rw [decide_eq_true (by omega), Bool.true_and, Int.toNat_natCast, folB_at hn]
          cases x <;> rfl
        rw [← e]
        exact k
      · have e : folV nds (.int n) = false := by
          show (decide (0 ≤ n) && folB nds n.toNat) = false
          by_cases h0 : 0 ≤ n
          · rw [decide_eq_true h0, Bool.true_and]
            have hl : ¬ n < (nds.length : Nat) := fun q => h (by rw [decide_eq_true h0, decide_eq_true q]; rfl)
            unfold folB
            rw [List.getElem?_eq_none (by omega)]
          · rw [decide_eq_false h0, Bool.false_and]
        rw [e] at k
        exact k
    · refine ⟨_, rfl, t, CT, dx, _, _, rfl, ht, cl, h1, fl, _, rfl, N, _, _, rfl, TR.ob.ls, .inr ⟨ty, bi, bb, tx H (ExtN.refl _), ki, kb, e, _, rfl, ?_⟩⟩
      have e : folV nds v = false := by cases v <;> first | rfl | exact absurd rfl (nn _)
      rw [e] at k
      exact iteF k
end
end NW

set_option maxRecDepth 100000
set_option maxHeartbeats 1000000
/-! what is in a deed's way -/
namespace NW
open PySem L2 NG TR LamX
theorem ents_paired {K : PySem.W.Frag} {H : Hp} : ∀ {ps : List V} {es : List (Str × Nat)}, ps.length = es.length → (∀ (k : Nat) (p : V) (e : Str × Nat), ps[k]? = some p → es[k]? = some e → EntO K H p e) →
    ∃ as : List Addr, ps = as.map V.ref ∧ Paired (fun (p : Addr) (kv : Key × V) => SqT K H p [kV kv.1, kv.2]) as (es.map fun e => ((Sum.inr e.1 : Key), V.int (e.2 : Nat)))
  | [], [], _, _ => ⟨[], rfl, .nil⟩
  | [], _ :: _, h, _ => absurd h (by simp)
  | _ :: _, [], h, _ => absurd h (by simp)
  | p :: ps, e :: es, h, k => by
    obtain ⟨as, e1, e2⟩ := ents_paired (K := K) (H := H) (ps := ps) (es := es) (by simpa using h) fun j q en a b => k (j + 1) q en a b
    obtain ⟨a, rfl, ha⟩ := k 0 p e rfl rfl
    exact ⟨a :: as, by rw [e1]; rfl, .cons ha e2⟩
theorem valV_merge : ∀ (es : List (Str × Nat)) (acc : List (Key × V)) (z : Str), (es.map (·.1)).Nodup → (∀ e ∈ es, valV acc (Sum.inr e.1) = none) → valV (mergeK acc (es.map fun e => ((Sum.inr e.1 : Key), V.int (e.2 : Nat)))) (Sum.inr z) =
    match es.find? (fun e => e.1 == z) with
    | some e => some (V.int (e.2 : Nat))
    | none => valV acc (Sum.inr z)
  | [], acc, z, _, _ => rfl
  | e :: r, acc, z, hn, ha => by
    rw [List.map_cons, List.nodup_cons] at hn
    have step : mergeK acc ((e :: r).map fun e => ((Sum.inr e.1 : Key), V.int (e.2 : Nat))) = mergeK (putK acc (Sum.inr e.1) (.int (e.2 : Nat))) (r.map fun e => ((Sum.inr e.1 : Key), V.int (e.2 : Nat))) := rfl
    rw [step, valV_merge r _ z hn.2 (fun x hx => by
      rw [valV_put, if_neg (fun q => hn.1 (by injection q with q; rw [← q]; exact List.mem_map.mpr ⟨x, hx, rfl⟩))]
      exact ha x (List.mem_cons_of_mem _ hx))]
    by_cases h : e.1 = z
    · have hz : (e.1 == z) = true := by rw [h]; exact beq_self_eq_true z
      rw [List.find?_cons, hz]
      have : r.find? (fun e => e.1 == z) = none := by
        rw [List.find?_eq_none]
        intro x hx q
        have q' : x.1 = z := by simpa using q
        exact hn.1 (List.mem_map.mpr ⟨x, hx, q'.trans h.symm⟩)
      rw [this]
      show valV (putK acc (Sum.inr e.1) _) (Sum.inr z) = _
      rw [valV_put, if_pos (by rw [h])]
    · have hz : (e.1 == z) = false := by simpa using h
      rw [List.find?_cons, hz]
      cases r.find? (fun e => e.1 == z) with
      | some x => rfl
      | none =>
        show valV (putK acc (Sum.inr e.1) _) (Sum.inr z) = _
        rw [valV_put, if_neg (fun q => h (by injection q with q; exact q.symm))]
/-- where the entry of a folder leads, by values -/
def entV (nds : List Nd) : V → V → V
  | .int n, .str z => match nds[n.toNat]? with
    | some nd => entTo nd z
    | none => .non
  | _, _ => .non
def isNon : V → Bool
  | .non => true
  | _ => false
theorem isNon_dec (v : V) : isNon v = decide (v = V.non) := by
  cases v <;> first | exact (decide_eq_true rfl).symm | exact (decide_eq_false (fun q => by cases q)).symm
def lackV (nds : List Nd) (i : Nat) (xs : List V) : Bool := if i < 3 then false else if i = 3 then !leafV nds (xs.getD 2 .non) else isNon (entV nds (xs.getD 0 .non) (xs.getD 1 .non))
def takenV (nds : List Nd) (i : Nat) (xs : List V) : Bool := if i = 4 then false else !isNon (entV nds (if i = 5 then xs.getD 2 .non else xs.getD 0 .non) (if i = 5 then xs.getD 3 .non else xs.getD 1 .non))
/-- what is in the way of a deed; that of a taking or moving is told up to its names -/
def whyV (nds : List Nd) (i : Nat) (xs : List V) : V :=
  if (!(fosV i xs).all (folV nds)) = true then .str "folder" else if (!(nosV i xs).all nameV) = true then .str "name" else
  if (decide (i < 3) && !ownV (xs.getD 2 .non)) = true then .str "owner" else if (decide (i = 2) && !textV (xs.getD 3 .non)) = true then .str "text" else
  if lackV nds i xs = true then .str "none" else if takenV nds i xs = true then .str "taken" else .non
theorem folV_is {nds : List Nd} {v : V} (h : folV nds v = true) : ∃ (k : Nat) (o : Int) (es : List (Str × Nat)), v = .int (k : Nat) ∧ nds[k]? = some (.fol o es) := by
  cases v with
  | int n =>
    rw [show folV nds (.int n) = (decide (0 ≤ n) && folB nds n.toNat) from rfl, Bool.and_eq_true] at h
    obtain ⟨o, es, e⟩ := folB_iff.mp h.2
    have := of_decide_eq_true h.1
    exact ⟨n.toNat, o, es, by rw [Int.toNat_of_nonneg this], e⟩
  | _ => cases h
theorem nameV_is {v : V} (h : nameV v = true) : ∃ z : Str, v = .str z ∧ nameZ z = true := by
  cases v with
  | str z => exact ⟨z, rfl, h⟩
  | _ => cases h
/-- the tree, the deed, and what of its fields must be known -/
def DeedIn (K : PySem.W.Frag) (cs ct : Nat → Addr) (CT : Addr) (H : Hp) (t d : Addr) (qs : List Addr) (nds : List Nd) (i : Nat) (xs : List V) : Prop :=
  TreeAt K cs CT H t qs nds ∧ i < 6 ∧ xs.length = (dns i).length ∧ HasF H (ct i) d (dns i) xs ∧ (∀ v ∈ fosV i xs, IntOdd K H v) ∧ (∀ v ∈ nosV i xs, StrOdd K H v) ∧ (i < 4 → IntOdd K H (xs.getD 2 .non)) ∧ (i = 2 → StrOdd K H (xs.getD 3 .non))
theorem DeedIn.same {K : PySem.W.Frag} {cs ct : Nat → Addr} {CT : Addr} {H H' : Hp} {t d : Addr} {qs : List Addr} {nds : List Nd} {i : Nat} {xs : List V} (h : DeedIn K cs ct CT H t d qs nds i xs) (s : Same H H') : DeedIn K cs ct CT H' t d qs nds i xs :=
  let ⟨a, b, l, c, e, f, g, j⟩ := h; ⟨a.same s, b, l, c.same s, fun v hv => (e v hv).same s, fun v hv => (f v hv).same s, fun q => (g q).same s, fun q => (j q).same s⟩
def spLacks (K : PySem.W.Frag) (cs ct : Nat → Addr) (CT : Addr) : Sp := fun vs H Q _ => ∃ (t d : Addr) (qs : List Addr) (nds : List Nd) (i : Nat) (xs : List V), vs = [.ref t, .ref d] ∧ DeedIn K cs ct CT H t d qs nds i xs ∧ folV nds (xs.getD 0 .non) = true ∧ nameV (xs.getD 1 .non) = true ∧ ∀ H', Same H H' → Q (.bl (lackV nds i xs)) H'
def spTaken (K : PySem.W.Frag) (cs ct : Nat → Addr) (CT : Addr) : Sp := fun vs H Q _ => ∃ (t d : Addr) (qs : List Addr) (nds : List Nd) (i : Nat) (xs : List V), vs = [.ref t, .ref d] ∧ DeedIn K cs ct CT H t d qs nds i xs ∧ (∀ v ∈ fosV i xs, folV nds v = true) ∧ (∀ v ∈ nosV i xs, nameV v = true) ∧ ∀ H', Same H H' → Q (.bl (takenV nds i xs)) H'
/-- what asks only deeds of the class j -/
def spNotOf (ct : Nat → Addr) (j : Nat) : Sp := fun vs H Q _ => ∃ (t d dx : Addr) (fs : List (Str × V)) (i : Nat), vs = [.ref t, .ref d] ∧ i < 11 ∧ H d = some (.ins (ct i) dx fs) ∧ i ≠ j ∧ Q (.bl false) H
def spWhy (K : PySem.W.Frag) (cs ct : Nat → Addr) (CT : Addr) : Sp := fun vs H Q _ => ∃ (t d : Addr) (qs : List Addr) (nds : List Nd) (i : Nat) (xs : List V), vs = [.ref t, .ref d] ∧ DeedIn K cs ct CT H t d qs nds i xs ∧ (4 ≤ i → ((fosV i xs).all (folV nds) && (nosV i xs).all nameV) = false) ∧ ∀ H', Same H H' → Q (whyV nds i xs) H'
section
variable {P : Program} {w : World} {K : PySem.W.Frag} {mg : Str → Option Value} {base : Heap} {fName fStep fNum fOwner fAt fDigit fPool f CT : Addr} {cs ct fa : Nat → Addr}
abbrev sLacks : Stmt := top 49
abbrev sTaken : Stmt := top 50
abbrev sFull : Stmt := top 51
abbrev sBelow : Stmt := top 52
abbrev sWhy : Stmt := top 48
theorem scEntd : FnScope ["tree", "folder", "name"] ["tree", "folder", "name"] (defScope sEntd) := ⟨rfl, rfl, rfl, by decide +kernel, rfl, by decide +kernel, by decide +kernel⟩
theorem ok_entd {fd : FuncData} (F : Fun K "entered" "entered" sEntd f fd) (D : TxtDd K mg ct fa) (TG : TxtG K mg cs) (cl : Cls K CT) (h1 : NoAttr K CT "nodes") :
    FnOk P w K mg base CX0 1 f fd ["tree", "folder", "name"] (spEntd K cs CT) := by
  refine F.ok scEntd (fun vs H Q E h => ?_) (fun cdv A outer s H vs Q E hr h => ?_)
  · obtain ⟨t, qs, nds, k, o, es, z, rfl, _⟩ := h
    rfl
  · obtain ⟨t, qs, nds, k, o, es, z, rfl, ⟨dx, N, ht, TR⟩, hn, kk⟩ := h
    have hu := hu_of hr
    have fl : (fl1 "nodes" (V.ref N)).lookup ("nodes" : Str) = some (.ref N) := by unfold fl1; rw [lookup_putF, if_pos rfl]
    refine ⟨_, (pss_one (ps_ret (pe_dget1 hu (pe_callTy (call_dictT rfl) (by rfl) D.m_dict (by decide +kernel) (pa_cons (pe_fld (pe_ix ix_tup (pe_fld (pv 0) rfl) (pv 1) (fun _ _ => rfl)) rfl) pa_nil)) (pv 2) ⟨by rfl, by rfl, by rfl, by rfl⟩))), ?_⟩
    obtain ⟨q, hq, hqr, hO⟩ := TR.at_ hn
    obtain ⟨dx2, Ea, ps, g1, g2, g3, g4⟩ := hO
    obtain ⟨as, rfl, hpr⟩ := ents_paired g3 g4
    refine ⟨_, rfl, t, CT, dx, _, _, rfl, ht, cl, h1, fl, _, rfl, N, _, _, _, rfl, rfl, TR.ob.ls, atI_nat hqr, q, cs 0, dx2, _, _, rfl, g1, TG.cl 0 (by decide), TG.nE, (by unfold ffl; rw [lookup_putF, if_pos rfl]), Ea, as, _, rfl, g2, hpr, fun d hd => ?_⟩
    have hD : (upd H d (.dK (mergeK [] (es.map fun e => ((Sum.inr e.1 : Key), V.int (e.2 : Nat)))))) d = some (.dK (mergeK [] (es.map fun e => ((Sum.inr e.1 : Key), V.int (e.2 : Nat))))) := upd_same
    refine ⟨d, rfl, .inl ⟨_, .inl hD⟩, _, rfl, _, DGet.k (k := Sum.inr z) hD, ?_⟩
    have hv' := valV_merge es [] z (TR.wf.base.uniq k _ hn).1 (fun e _ => rfl)
    have hk := kk _ (NG.Same.upd (o := .dK (mergeK [] (es.map fun e => ((Sum.inr e.1 : Key), V.int (e.2 : Nat))))) hd)
    unfold entTo at hk
    rw [hv']
    change Q (match es.find? (fun e => e.1 == z) with | some e => V.int (e.2 : Nat) | none => .non) _ at hk
    cases hf : es.find? (fun e => e.1 == z) with
    | some e => rw [hf] at hk; exact hk
    | none => rw [hf] at hk; exact hk
theorem deed_ty {H : Hp} {d dx : Addr} {fs : List (Str × V)} {i : Nat} (TH : TxtTh K ct) (hi : i < 11) (hd : H d = some (.ins (ct i) dx fs)) : TyX K H (.ref d) (.ref (ct i)) := have ty := TH.ty i hi; .base (.ins hd (TH.cl i hi) ty.c1 ty.c2 ty.c3 ty.c4)
theorem scFull : FnScope ["tree", "deed", "node"] ["tree", "deed"] (defScope sFull) := ⟨rfl, rfl, rfl, by decide +kernel, rfl, by decide +kernel, by decide +kernel⟩
theorem ok_full {fd fdE : FuncData} (F : Fun K "takes_full_folder" "takes_full_folder" sFull f fd) (TH : TxtTh K ct) (D : TxtDd K mg ct fa) (G_entered : FnOk P w K mg base CX0 1 (fa 8) fdE ["tree", "folder", "name"] (spEntd K cs CT)) (b_entered : Binds K fdE ["tree", "folder", "name"] []) (TG : TxtG K mg cs) :
    FnOk P w K mg base CX0 2 f fd ["tree", "deed"] (spNotOf ct 4) := by
  have nd := scFull.nd
  refine F.ok scFull (fun vs H Q E h => ?_) (fun cdv A outer s H vs Q E hr h => ?_)
  · obtain ⟨t, d, dx, fs, i, rfl, _⟩ := h
    rfl
  · obtain ⟨t, d, dx, fs, i, rfl, hi, hd, hj, k⟩ := h
    have hr_entered : Room 1 _ := hr
    refine ⟨_, (pss_cons (ps_if (pt_not (pt_val (pe_callB call_isi (by rfl) D.m_isinstance (by decide +kernel) (pa_cons (pv 1) (pa_cons (pe_glob (v := .ref (ct 4)) (by rfl) D.m_Take rfl) pa_nil))))) (pss_one (ps_ret pe_bl)) pss_nil)
  (pss_cons (ps_set (i := 2) nd rfl (Or.inl rfl) (pe_ix ix_tup (pe_fld (pv 0) rfl) (pe_call G_entered hr_entered (by rfl) D.g_entered D.kp_entered b_entered .nil pass0 (pa_cons (pv 0) (pa_cons (pe_fld (pv 1) rfl) (pa_cons (pe_fld (pv 1) rfl) pa_nil)))) (fun _ _ => rfl)))
  (pss_one (ps_ret (pe_and (pe_callB call_isi (by rfl) D.m_isinstance (by decide +kernel) (pa_cons (pv 2) (pa_cons (pe_glob (v := .ref (cs 0)) (by rfl) TG.m_Folder rfl) pa_nil))) (pe_one (pe_cmpR op_gt (pe_callB call_len_seq (by rfl) D.m_len (by decide +kernel) (pa_cons (pe_fld (pv 2) rfl) pa_nil)) pe_int (nomark _)))))))), ?_⟩
    refine ⟨_, rfl, _, _, _, _, decide (i = 4), rfl, .own (ct 4), deed_ty TH hi hd, TH.kit i 4 hi (by decide), _, rfl, ?_⟩
    rw [decide_eq_false hj]
    exact iteT k
theorem scBelow : FnScope ["tree", "deed", "moved", "number"] ["tree", "deed"] (defScope sBelow) := ⟨rfl, rfl, rfl, by decide +kernel, rfl, by decide +kernel, by decide +kernel⟩
theorem scLacks : FnScope ["tree", "deed"] ["tree", "deed"] (defScope sLacks) := ⟨rfl, rfl, rfl, by decide +kernel, rfl, by decide +kernel, by decide +kernel⟩
theorem ok_lacks {fdM fdA fdE fd : FuncData} (F : Fun K "lacks_node" "lacks_node" sLacks f fd) (TH : TxtTh K ct) (D : TxtDd K mg ct fa) (TG : TxtG K mg cs) (cl : Cls K CT) (h1 : NoAttr K CT "nodes") (c9 : ct 9 = cs 1) (c10 : ct 10 = cs 2)
    (G_is_making : FnOk P w K mg base CX0 1 (fa 4) fdM ["deed"] (spMaking ct)) (b_is_making : Binds K fdM ["deed"] [])
    (G_is_at : FnOk P w K mg base CX0 2 (fa 0) fdA ["nodes", "number"] (spAt K)) (b_is_at : Binds K fdA ["nodes", "number"] [])
    (G_entered : FnOk P w K mg base CX0 1 (fa 8) fdE ["tree", "folder", "name"] (spEntd K cs CT)) (b_entered : Binds K fdE ["tree", "folder", "name"] []) :
    FnOk P w K mg base CX0 3 f fd ["tree", "deed"] (spLacks K cs ct CT) := by
  refine F.ok scLacks (fun vs H Q E h => ?_) (fun cdv A outer s H vs Q E hr h => ?_)
  · obtain ⟨t, d, qs, nds, i, xs, rfl, _⟩ := h
    rfl
  · obtain ⟨t, d, qs, nds, i, xs, rfl, DI, hf0, hn0, k⟩ := h
    have hr_is_at : Room 2 _ := hr
    have hr_is_making : Room 1 _ := hr.mono (by decide)
    have hr_entered : Room 1 _ := hr.mono (by decide)
    refine ⟨_, (pss_cons (ps_if (pt_val (pe_call G_is_making hr_is_making (by rfl) D.g_is_making D.kp_is_making b_is_making .nil pass0 (pa_cons (pv 1) pa_nil))) (pss_one (ps_ret pe_bl)) pss_nil)
  (pss_cons (ps_if (pt_val (pe_callB call_isi (by rfl) D.m_isinstance (by decide +kernel) (pa_cons (pv 1) (pa_cons (pe_glob (v := .ref (ct 3)) (by rfl) D.m_Put rfl) pa_nil)))) (pss_one (ps_ret (pe_not (pe_and (pe_call G_is_at hr_is_at (by rfl) D.g_is_at D.kp_is_at b_is_at .nil pass0 (pa_cons (pe_fld (pv 0) rfl) (pa_cons (pe_fld (pv 1) rfl) pa_nil))) (pe_one (pe_callB call_isiT (by rfl) D.m_isinstance (by decide +kernel) (pa_cons (pe_ix ix_tup (pe_fld (pv 0) rfl) (pe_fld (pv 1) rfl) (fun _ _ => rfl)) (pa_cons (pe_tup (pa_cons (pe_glob (v := .ref (ct 9)) (by rfl) D.m_File rfl) (pa_cons (pe_glob (v := .ref (ct 10)) (by rfl) D.m_Link rfl) pa_nil))) pa_nil)))))))) pss_nil)
  (pss_one (ps_ret (pe_cmp (pc_isN (pe_call G_entered hr_entered (by rfl) D.g_entered D.kp_entered b_entered .nil pass0 (pa_cons (pv 0) (pa_cons (pe_fld (pv 1) rfl) (pa_cons (pe_fld (pv 1) rfl) pa_nil)))))))))), ?_⟩
    obtain ⟨_, hi, _, ⟨dx, fs, hd, lk⟩, _⟩ := id DI
    have hi' : i < 11 := by omega
    have cli := TH.cl i hi'
    obtain ⟨n0, n1⟩ := deed_two hi
    refine ⟨_, rfl, d, dx, fs, i, rfl, hi', hd, fun H1 s1 => ?_⟩
    have DI1 := DI.same s1
    have hd1 := s1 _ _ hd
    have k1 : ∀ H', Same H1 H' → Q (.bl (lackV nds i xs)) H' := fun H' s => k H' (s1.trans s)
    refine ⟨_, rfl, ?_⟩
    refine ite2 (fun h => ?_) (fun h => ?_)
    · have h3 : i < 3 := of_decide_eq_true h
      have := k1 H1 (Same.refl _)
      unfold lackV at this
      rw [if_pos h3] at this
      exact this
    · have h3 : ¬ i < 3 := of_decide_eq_false (by simpa using h)
      refine ⟨_, rfl, _, _, _, _, decide (i = 3), rfl, .own (ct 3), deed_ty TH hi' hd1, TH.kit i 3 hi' (by decide), _, rfl, ?_⟩
      refine ite2 (fun h => ?_) (fun h => ?_)
      · have h3' : i = 3 := of_decide_eq_true h
        subst h3'
        have k2 : ∀ H', Same H1 H' → Q (.bl (!leafV nds (xs.getD 2 .non))) H' := fun H' s => k1 H' s
        obtain ⟨⟨dxt, N, ht, TR⟩, _, _, _, _, _, hv, _⟩ := id DI1
        have fl : (fl1 "nodes" (V.ref N)).lookup ("nodes" : Str) = some (.ref N) := by unfold fl1; rw [lookup_putF, if_pos rfl]
        have ql : (qs.map V.ref).length = nds.length := by rw [List.length_map, TR.ob.len]
        have l2 := lk_get lk (show (dns 3)[2]? = some ("node" : Str) from rfl)
        have hv2 := hv (by decide)
        generalize xs.getD 2 .non = v at l2 hv2 k2
        refine ⟨_, rfl, t, CT, dxt, _, _, rfl, ht, cl, h1, fl, _, rfl, d, _, dx, _, _, rfl, hd1, cli, TH.na 3 hi' _ (by simp [dns]), l2, N, _, v, rfl, TR.ob.ls, ?_⟩
        rcases hv2 with ⟨n, rfl⟩ | ⟨nn, ty, bi, bb, tx, ki, kb, e⟩
        · refine .inl ⟨n, rfl, _, rfl, ?_⟩
          rw [ql]
          refine ite2 (fun h => ?_) (fun h => ?_)
          · rw [Bool.and_eq_true] at h
            have h0 := of_decide_eq_true h.1
            have h2 := of_decide_eq_true h.2
            obtain ⟨j, rfl⟩ : ∃ j : Nat, n = (j : Int) := ⟨n.toNat, by omega⟩
            have hj : j < nds.length := by omega
            have hn : nds[j]? = some nds[j] := List.getElem?_eq_getElem hj
            generalize nds[j] = x at hn
            obtain ⟨q, hq, hqr, hO⟩ := TR.at_ hn
            obtain ⟨dx', fs', hins, _⟩ := obj_ins hO
            have ci := clsI_lt x
            have tyx := TG.ty _ ci
            refine ⟨_, rfl, t, CT, dxt, _, _, rfl, ht, cl, h1, fl, _, rfl, d, _, dx, _, _, rfl, hd1, cli, TH.na 3 hi' _ (by simp [dns]), l2, N, _, _, _, rfl, rfl, TR.ob.ls, atI_nat hqr, (by show 2 ≤ sizeLine; decide), fun tp htp => ?_⟩
            have sp := NG.Same.upd (o := HO.tup [V.ref (ct 9), V.ref (ct 10)]) htp
            have e := kitAny_of TG ci [1, 2] (by simp)
            refine ⟨_, tp, _, .ref (cs (clsI x)), [.ref (ct 9), .ref (ct 10)], _, rfl, upd_same, .cons (.own _) (.cons (.own _) .nil), .base (.ins (sp _ _ hins) (TG.cl _ ci) tyx.c1 tyx.c2 tyx.c3 tyx.c4), (by rw [c9, c10]; exact e), _, rfl, ?_⟩
            have e2 : leafV nds (.int (j : Int)) = ([1, 2] : List Nat).contains (clsI x) := by
              show (decide (0 ≤ (j : Int)) && leafB nds ((j : Int)).toNat) = _
              rw [decide_eq_true (by omega), Bool.true_and, Int.toNat_natCast]
              unfold leafB
              rw [hn]
              cases x <;> rfl
            have := k2 _ sp
            rw [e2] at this
            exact this
          · have e : leafV nds (.int n) = false := by
              show (decide (0 ≤ n) && leafB nds n.toNat) = false
              by_cases h0 : 0 ≤ n
              · rw [decide_eq_true h0, Bool.true_and]
                have hl : ¬ n < (nds.length : Nat) := fun q => h (by rw [decide_eq_true h0, decide_eq_true q]; rfl)
                unfold leafB
                rw [List.getElem?_eq_none (by omega)]
              · rw [decide_eq_false h0, Bool.false_and]
            have := k2 _ (Same.refl _)
            rw [e] at this
            exact ⟨_, rfl, this⟩
        · refine .inr ⟨ty, bi, bb, tx H1 (ExtN.refl _), ki, kb, e, _, rfl, ?_⟩
          have e : leafV nds v = false := by cases v <;> first | rfl | exact absurd rfl (nn _)
          have := k2 _ (Same.refl _)
          rw [e] at this
          exact iteF ⟨_, rfl, this⟩
      · have h3' : i ≠ 3 := of_decide_eq_false (by simpa using h)
        obtain ⟨kf, o, es, ef, en⟩ := folV_is hf0
        obtain ⟨z, ez, hz⟩ := nameV_is hn0
        have l0 := lk_get lk n0
        have l1 := lk_get lk n1
        rw [ef] at l0
        rw [ez] at l1
        refine ⟨_, rfl, _, rfl, d, _, dx, _, _, rfl, hd1, cli, TH.na i hi' _ (List.mem_of_getElem? n0), l0, _, rfl, d, _, dx, _, _, rfl, hd1, cli, TH.na i hi' _ (List.mem_of_getElem? n1), l1, t, qs, nds, kf, o, es, z, rfl, DI1.1, en, fun H2 s2 => ?_⟩
        have := k1 H2 s2
        unfold lackV at this
        rw [if_neg h3, if_neg h3', ef, ez] at this
        have ee : entV nds (.int (kf : Nat)) (.str z) = entTo (.fol o es) z := by
          show (match nds[((kf : Nat) : Int).toNat]? with | some nd => entTo nd z | none => V.non) = _
          rw [Int.toNat_natCast, en]
        rw [ee] at this
        rw [isNon_dec] at this
        exact this
end
end NW

set_option maxRecDepth 100000
set_option maxHeartbeats 1000000
/-! what is in a deed's way, its word -/
namespace NW
open PySem L2 NG TR LamX
theorem fos_last (i : Nat) (xs : List V) : atI (fosV i xs) (-1) = some (if i = 5 then xs.getD 2 .non else xs.getD 0 .non) ∧ (if i = 5 then xs.getD 2 .non else xs.getD 0 .non) ∈ fosV i xs := by
  unfold fosV
  by_cases h : i = 5
  · rw [if_pos h, if_pos h]; exact ⟨rfl, by simp⟩
  · rw [if_neg h, if_neg h]; exact ⟨rfl, by simp⟩
theorem nos_last (i : Nat) (xs : List V) : atI (nosV i xs) (-1) = some (if i = 5 then xs.getD 3 .non else xs.getD 1 .non) ∧ (if i = 5 then xs.getD 3 .non else xs.getD 1 .non) ∈ nosV i xs := by
  unfold nosV
  by_cases h : i = 5
  · rw [if_pos h, if_pos h]; exact ⟨rfl, by simp⟩
  · rw [if_neg h, if_neg h]; exact ⟨rfl, by simp⟩
theorem fos_len (i : Nat) (xs : List V) : (fosV i xs).length ≤ 2 ∧ (nosV i xs).length ≤ 2 := by
  unfold fosV nosV
  by_cases h : i = 5
  · rw [if_pos h, if_pos h]; exact ⟨Nat.le_refl _, Nat.le_refl _⟩
  · rw [if_neg h, if_neg h]; exact ⟨Nat.le_succ _, Nat.le_succ _⟩
theorem fos_first (i : Nat) (xs : List V) : xs.getD 0 .non ∈ fosV i xs ∧ xs.getD 1 .non ∈ nosV i xs := by
  unfold fosV nosV
  by_cases h : i = 5
  · rw [if_pos h, if_pos h]; exact ⟨by simp, by simp⟩
  · rw [if_neg h, if_neg h]; exact ⟨by simp, by simp⟩
def tCutT (t : TT) : TT := fun σ H Q => ∃ R : Bool → Hp → Prop, t σ H R ∧ ∀ b H1, R b H1 → Q b H1
theorem pt_cut {X : Cx} {e : Expr} {t : TT} (h : PT X e t) : PT X e (tCutT t) :=
  ⟨fun pins s σ H Q I ⟨R, h1, h2⟩ => thn (h.run pins s σ H R I h1) fun b s1 ⟨H', I', q⟩ => ⟨H', I', h2 b H' q⟩⟩
theorem all_id (f : V → Bool) (l : List V) : (l.map f).all id = l.all f := by rw [List.all_map]; rfl
section
variable {P : Program} {w : World} {K : PySem.W.Frag} {mg : Str → Option Value} {base : Heap} {fName fStep fNum fOwner fAt fDigit fPool f CT : Addr} {cs ct fa : Nat → Addr}
theorem scTaken : FnScope ["tree", "deed"] ["tree", "deed"] (defScope sTaken) := ⟨rfl, rfl, rfl, by decide +kernel, rfl, by decide +kernel, by decide +kernel⟩
theorem ok_taken {fdM fdA fdE fd : FuncData} (F : Fun K "finds_name_taken" "finds_name_taken" sTaken f fd) (TH : TxtTh K ct) (D : TxtDd K mg ct fa)
    (G_folders_of : FnOk P w K mg base CX0 1 (fa 5) fdM ["deed"] (spFos ct)) (b_folders_of : Binds K fdM ["deed"] [])
    (G_names_of : FnOk P w K mg base CX0 1 (fa 6) fdA ["deed"] (spNos ct)) (b_names_of : Binds K fdA ["deed"] [])
    (G_entered : FnOk P w K mg base CX0 1 (fa 8) fdE ["tree", "folder", "name"] (spEntd K cs CT)) (b_entered : Binds K fdE ["tree", "folder", "name"] []) :
    FnOk P w K mg base CX0 2 f fd ["tree", "deed"] (spTaken K cs ct CT) := by
  refine F.ok scTaken (fun vs H Q E h => ?_) (fun cdv A outer s H vs Q E hr h => ?_)
  · obtain ⟨t, d, qs, nds, i, xs, rfl, _⟩ := h
    rfl
  · obtain ⟨t, d, qs, nds, i, xs, rfl, DI, hf, hn, k⟩ := h
    have hr_entered : Room 1 _ := hr
    have hr_folders_of : Room 1 _ := hr
    have hr_names_of : Room 1 _ := hr
    refine ⟨_, (pss_cons (ps_if (pt_val (pe_callB call_isi (by rfl) D.m_isinstance (by decide +kernel) (pa_cons (pv 1) (pa_cons (pe_glob (v := .ref (ct 4)) (by rfl) D.m_Take rfl) pa_nil)))) (pss_one (ps_ret pe_bl)) pss_nil)
  (pss_one (ps_ret (pe_cmp (pc_notN (pe_call G_entered hr_entered (by rfl) D.g_entered D.kp_entered b_entered .nil pass0 (pa_cons (pv 0) (pa_cons (pe_ix ix_list (pe_call G_folders_of hr_folders_of (by rfl) D.g_folders_of D.kp_folders_of b_folders_of .nil pass0 (pa_cons (pv 1) pa_nil)) (pe_un un_neg pe_int) (fun _ _ => rfl)) (pa_cons (pe_ix ix_list (pe_call G_names_of hr_names_of (by rfl) D.g_names_of D.kp_names_of b_names_of .nil pass0 (pa_cons (pv 1) pa_nil)) (pe_un un_neg pe_int) (fun _ _ => rfl)) pa_nil))))))))), ?_⟩
    obtain ⟨TA, hi, _, HF, _⟩ := id DI
    obtain ⟨dx, fs, hd, lk⟩ := id HF
    have hi' : i < 11 := by omega
    refine ⟨_, rfl, _, _, _, _, decide (i = 4), rfl, .own (ct 4), deed_ty TH hi' hd, TH.kit i 4 hi' (by decide), _, rfl, ?_⟩
    refine ite2 (fun h => ?_) (fun h => ?_)
    · have h4 : i = 4 := of_decide_eq_true h
      have := k H (Same.refl _)
      unfold takenV at this
      rw [if_pos h4] at this
      exact this
    · have h4 : i ≠ 4 := of_decide_eq_false (by simpa using h)
      obtain ⟨af, mf⟩ := fos_last i xs
      obtain ⟨an, mn⟩ := nos_last i xs
      obtain ⟨kf, o, es, ef, en⟩ := folV_is (hf _ mf)
      obtain ⟨z, ez, hz⟩ := nameV_is (hn _ mn)
      have k2 : ∀ H', Same H H' → Q (.bl (!isNon (entTo (.fol o es) z))) H' := fun H' s => by
        have := k H' s
        unfold takenV at this
        rw [if_neg h4, ef, ez] at this
        have ee : entV nds (.int (kf : Nat)) (.str z) = entTo (.fol o es) z := by
          show (match nds[((kf : Nat) : Int).toNat]? with | some nd => entTo nd z | none => V.non) = _
          rw [Int.toNat_natCast, en]
        rw [ee] at this
        exact this
      rw [ef] at af
      rw [ez] at an
      refine ⟨_, rfl, _, rfl, d, i, xs, rfl, hi, HF, fun l hl => ?_⟩
      have s1 := NG.Same.upd (o := .lst (fosV i xs)) hl
      refine ⟨_, rfl, l, _, _, _, rfl, rfl, SqL.of upd_same, af, _, rfl, d, i, xs, rfl, hi, HF.same s1, fun l2 hl2 => ?_⟩
      have s2 := NG.Same.upd (o := .lst (nosV i xs)) hl2
      refine ⟨_, rfl, l2, _, _, _, rfl, rfl, SqL.of upd_same, an, t, qs, nds, kf, o, es, z, rfl, TA.same (s1.trans s2), en, fun H2 s3 => ?_⟩
      have := k2 H2 (s1.trans (s2.trans s3))
      rw [isNon_dec] at this
      exact this
theorem ok_below {fdE fd : FuncData} (F : Fun K "moves_below_itself" "moves_below_itself" sBelow f fd) (TH : TxtTh K ct) (D : TxtDd K mg ct fa) (TG : TxtG K mg cs) (G_entered : FnOk P w K mg base CX0 1 (fa 8) fdE ["tree", "folder", "name"] (spEntd K cs CT)) (b_entered : Binds K fdE ["tree", "folder", "name"] []) :
    FnOk P w K mg base CX0 2 f fd ["tree", "deed"] (spNotOf ct 5) := by
  have nd := scBelow.nd
  obtain ⟨tr, gr⟩ := TG.m_ROOT
  refine F.ok scBelow (fun vs H Q E h => ?_) (fun cdv A outer s H vs Q E hr h => ?_)
  · obtain ⟨t, d, dx, fs, i, rfl, _⟩ := h
    rfl
  · obtain ⟨t, d, dx, fs, i, rfl, hi, hd, hj, k⟩ := h
    refine ⟨_, (pss_cons (ps_if (pt_not (pt_val (pe_callB call_isi (by rfl) D.m_isinstance (by decide +kernel) (pa_cons (pv 1) (pa_cons (pe_glob (v := .ref (ct 5)) (by rfl) D.m_Move rfl) pa_nil))))) (pss_one (ps_ret pe_bl)) pss_nil) (pss_cons ps_dead (pss_cons ps_dead (pss_cons ps_dead (pss_one ps_dead))))), ?_⟩
    refine ⟨_, rfl, _, _, _, _, decide (i = 5), rfl, .own (ct 5), deed_ty TH hi hd, TH.kit i 5 hi (by decide), _, rfl, ?_⟩
    rw [decide_eq_false hj]
    exact iteT k
theorem scWhy : FnScope ["tree", "deed", "number", "name"] ["tree", "deed"] (defScope sWhy) := ⟨rfl, rfl, rfl, by decide +kernel, rfl, by decide +kernel, by decide +kernel⟩
theorem ok_why {fd fd1 fd2 fd3 fd4 fd5 fd6 fd7 fd8 fd9 fdA fdB : FuncData} (F : Fun K "why_not" "why_not" sWhy f fd) (TH : TxtTh K ct) (D : TxtDd K mg ct fa)
    (G_folders_of : FnOk P w K mg base CX0 1 (fa 5) fd1 ["deed"] (spFos ct)) (b_folders_of : Binds K fd1 ["deed"] [])
    (G_names_of : FnOk P w K mg base CX0 1 (fa 6) fd2 ["deed"] (spNos ct)) (b_names_of : Binds K fd2 ["deed"] [])
    (G_is_folder : FnOk P w K mg base CX0 3 (fa 7) fd3 ["tree", "number"] (spIsFol K cs CT)) (b_is_folder : Binds K fd3 ["tree", "number"] [])
    (G_is_name : FnOk P w K mg base CX0 1 (fa 1) fd4 ["value"] (spNameX K)) (b_is_name : Binds K fd4 ["value"] [])
    (G_is_making : FnOk P w K mg base CX0 1 (fa 4) fd5 ["deed"] (spMaking ct)) (b_is_making : Binds K fd5 ["deed"] [])
    (G_is_owner : FnOk P w K mg base CX0 2 (fa 2) fd6 ["value"] (spOwnerX K)) (b_is_owner : Binds K fd6 ["value"] [])
    (G_bad_place : FnOk P w K mg base CX0 3 (fa 3) fd7 ["text"] (spBad K)) (b_bad_place : Binds K fd7 ["text"] [])
    (G_lacks_node : FnOk P w K mg base CX0 3 (fa 10) fd8 ["tree", "deed"] (spLacks K cs ct CT)) (b_lacks_node : Binds K fd8 ["tree", "deed"] [])
    (G_finds_name_taken : FnOk P w K mg base CX0 2 (fa 11) fd9 ["tree", "deed"] (spTaken K cs ct CT)) (b_finds_name_taken : Binds K fd9 ["tree", "deed"] [])
    (G_takes_full_folder : FnOk P w K mg base CX0 2 (fa 12) fdA ["tree", "deed"] (spNotOf ct 4)) (b_takes_full_folder : Binds K fdA ["tree", "deed"] [])
    (G_moves_below_itself : FnOk P w K mg base CX0 2 (fa 13) fdB ["tree", "deed"] (spNotOf ct 5)) (b_moves_below_itself : Binds K fdB ["tree", "deed"] []) :
    FnOk P w K mg base CX0 4 f fd ["tree", "deed"] (spWhy K cs ct CT) := by
  have nd := scWhy.nd
  refine F.ok scWhy (fun vs H Q E h => ?_) (fun cdv A outer s H vs Q E hr h => ?_)
  · obtain ⟨t, d, qs, nds, i, xs, rfl, _⟩ := h
    rfl
  · obtain ⟨t, d, qs, nds, i, xs, rfl, DI, h4, k⟩ := h
    have hr_is_folder : Room 3 _ := hr
    have hr_bad_place : Room 3 _ := hr
    have hr_lacks_node : Room 3 _ := hr
    have hr_is_owner : Room 2 _ := hr.mono (by decide)
    have hr_finds_name_taken : Room 2 _ := hr.mono (by decide)
    have hr_takes_full_folder : Room 2 _ := hr.mono (by decide)
    have hr_moves_below_itself : Room 2 _ := hr.mono (by decide)
    have hr_folders_of : Room 1 _ := hr.mono (by decide)
    have hr_names_of : Room 1 _ := hr.mono (by decide)
    have hr_is_name : Room 1 _ := hr.mono (by decide)
    have hr_is_making : Room 1 _ := hr.mono (by decide)
    have hs : sizeLine = 16777216 := sizeLine_eq
    refine ⟨_, (pss_cons (ps_if (pt_not (pt_val (pe_callB (cr_all rfl) (by rfl) D.m_all (by decide +kernel) (pa_cons (pe_lc (own := [("number", 2)]) rfl nd (pi_list (pe_call G_folders_of hr_folders_of (by rfl) D.g_folders_of D.kp_folders_of b_folders_of .nil pass0 (pa_cons (pv 1) pa_nil))) (blkOk_by (N := ["tree", "deed", "number", "name"]) (sc := defScope sWhy) (by decide +kernel)) (fun _ _ _ _ _ => (pg_name (i := 2) nd rfl (Or.inl rfl))) (fun _ _ _ _ _ => pts_nil) (fun _ _ _ _ _ => (pe_call G_is_folder hr_is_folder (by rfl) D.g_is_folder D.kp_is_folder b_is_folder .nil pass0 (pa_cons (pv 0) (pa_cons (pv 2) pa_nil))))) pa_nil)))) (pss_one (ps_ret pe_str)) pss_nil)
  (pss_cons (ps_if (pt_not (pt_val (pe_callB (cr_all rfl) (by rfl) D.m_all (by decide +kernel) (pa_cons (pe_lc (own := [("name", 3)]) rfl nd (pi_list (pe_call G_names_of hr_names_of (by rfl) D.g_names_of D.kp_names_of b_names_of .nil pass0 (pa_cons (pv 1) pa_nil))) (blkOk_by (N := ["tree", "deed", "number", "name"]) (sc := defScope sWhy) (by decide +kernel)) (fun _ _ _ _ _ => (pg_name (i := 3) nd rfl (Or.inl rfl))) (fun _ _ _ _ _ => pts_nil) (fun _ _ _ _ _ => (pe_call G_is_name hr_is_name (by rfl) D.g_is_name D.kp_is_name b_is_name .nil pass0 (pa_cons (pv 3) pa_nil)))) pa_nil)))) (pss_one (ps_ret pe_str)) pss_nil)
  (pss_cons (ps_if (pt_cut (PW.pt (pw_and (pt_val (pe_call G_is_making hr_is_making (by rfl) D.g_is_making D.kp_is_making b_is_making .nil pass0 (pa_cons (pv 1) pa_nil))) (pw_and1 (pt_not (pt_val (pe_call G_is_owner hr_is_owner (by rfl) D.g_is_owner D.kp_is_owner b_is_owner .nil pass0 (pa_cons (pe_fld (pv 1) rfl) pa_nil)))))))) (pss_one (ps_ret pe_str)) pss_nil)
  (pss_cons (ps_if (pt_cut (PW.pt (pw_and (pt_val (pe_callB call_isi (by rfl) D.m_isinstance (by decide +kernel) (pa_cons (pv 1) (pa_cons (pe_glob (v := .ref (ct 2)) (by rfl) D.m_MakeLink rfl) pa_nil)))) (pw_and1 (pt_cmp (pc_notN (pe_call G_bad_place hr_bad_place (by rfl) D.g_bad_place D.kp_bad_place b_bad_place .nil pass0 (pa_cons (pe_fld (pv 1) rfl) pa_nil)))))))) (pss_one (ps_ret pe_str)) pss_nil)
  (pss_cons (ps_if (pt_val (pe_call G_lacks_node hr_lacks_node (by rfl) D.g_lacks_node D.kp_lacks_node b_lacks_node .nil pass0 (pa_cons (pv 0) (pa_cons (pv 1) pa_nil)))) (pss_one (ps_ret pe_str)) pss_nil)
  (pss_cons (ps_if (pt_val (pe_call G_finds_name_taken hr_finds_name_taken (by rfl) D.g_finds_name_taken D.kp_finds_name_taken b_finds_name_taken .nil pass0 (pa_cons (pv 0) (pa_cons (pv 1) pa_nil)))) (pss_one (ps_ret pe_str)) pss_nil)
  (pss_cons (ps_if (pt_val (pe_call G_takes_full_folder hr_takes_full_folder (by rfl) D.g_takes_full_folder D.kp_takes_full_folder b_takes_full_folder .nil pass0 (pa_cons (pv 0) (pa_cons (pv 1) pa_nil)))) (pss_one (ps_ret pe_str)) pss_nil)
  (pss_cons (ps_if (pt_val (pe_call G_moves_below_itself hr_moves_below_itself (by rfl) D.g_moves_below_itself D.kp_moves_below_itself b_moves_below_itself .nil pass0 (pa_cons (pv 0) (pa_cons (pv 1) pa_nil)))) (pss_one (ps_ret pe_str)) pss_nil)
  (pss_one (ps_ret pe_non)))))))))), ?_⟩
    obtain ⟨TA, hi, hxl, HF, oF, oN, o2, o3⟩ := id DI
    obtain ⟨dx, fs, hd, lk⟩ := id HF
    have hi' : i < 11 := by omega
    have cli := TH.cl i hi'
    obtain ⟨lf, ln⟩ := fos_len i xs
    refine ⟨_, rfl, d, i, xs, rfl, hi, HF, fun l hl => ⟨l, rfl, ⟨_, SqL.of upd_same⟩, fun D1 hD1 => ?_⟩⟩
    have s1 := NG.Same.upd (o := .lst (fosV i xs)) hl
    have el : (upd H l (.lst (fosV i xs))) l = some (.lst (fosV i xs)) := upd_same
    generalize upd H l (.lst (fosV i xs)) = H1 at s1 el hD1 ⊢
    refine lc_map (walk_list (K := K) (a := l)) (fun v => V.bl (folV nds v)) (by omega) hD1 (fun H' s => SqL.of (s _ _ el)) (fun j x H' R hj s hR => ?_) (fun H2 s2 e2 => ?_)
    · exact ⟨_, rfl, _, rfl, t, qs, nds, x, rfl, TA.same (s1.trans s), (oF x (List.mem_of_getElem? hj)).same (s1.trans s), hR _ (Same.refl _)⟩
    have e2' : H2 D1 = some (.lst (((fosV i xs).map (folV nds)).map V.bl)) := by rw [e2, List.map_map]; rfl
    refine ⟨D1, _, rfl, SqL.of e2', _, rfl, ?_⟩
    rw [all_id]
    have s02 := s1.trans s2
    clear s1 el hD1 s2
    have kF := fun H' s => k H' s
    unfold whyV at kF
    refine ite2 (fun hA => ?_) (fun hA => ?_)
    · have := kF H2 s02
      rw [if_pos hA] at this
      exact this
    rw [if_neg hA] at kF
    have hAt : (fosV i xs).all (folV nds) = true := by simpa using hA
    have hFall := List.all_eq_true.mp hAt
    have HF2 := HF.same s02
    refine ⟨_, rfl, d, i, xs, rfl, hi, HF2, fun l hl => ⟨l, rfl, ⟨_, SqL.of upd_same⟩, fun D1 hD1 => ?_⟩⟩
    have s1 := NG.Same.upd (o := .lst (nosV i xs)) hl
    have el : (upd H2 l (.lst (nosV i xs))) l = some (.lst (nosV i xs)) := upd_same
    generalize upd H2 l (.lst (nosV i xs)) = H3 at s1 el hD1 ⊢
    refine lc_map (walk_list (K := K) (a := l)) (fun v => V.bl (nameV v)) (by omega) hD1 (fun H' s => SqL.of (s _ _ el)) (fun j x H' R hj s hR => ?_) (fun H4 s4 e4 => ?_)
    · exact ⟨_, rfl, x, rfl, (oN x (List.mem_of_getElem? hj)).same (s02.trans (s1.trans s)), fun H5 s5 => hR _ s5⟩
    have e4' : H4 D1 = some (.lst (((nosV i xs).map nameV).map V.bl)) := by rw [e4, List.map_map]; rfl
    refine ⟨D1, _, rfl, SqL.of e4', _, rfl, ?_⟩
    rw [all_id]
    have s04 := s02.trans (s1.trans s4)
    clear s1 el hD1 s4 s02
    refine ite2 (fun hB => ?_) (fun hB => ?_)
    · have := kF H4 s04
      rw [if_pos hB] at this
      exact this
    rw [if_neg hB] at kF
    have hBt : (nosV i xs).all nameV = true := by simpa using hB
    have hNall := List.all_eq_true.mp hBt
    have hi4 : i < 4 := by
      by_cases q : i < 4
      · exact q
      · have := h4 (by omega)
        rw [hAt, hBt] at this
        cases this
    have o2' := o2 hi4
    refine ⟨fun b H' => Same H H' ∧ b = (decide (i < 3) && !ownV (xs.getD 2 .non)), ?_, ?_⟩
    · refine ⟨_, rfl, d, dx, fs, i, rfl, hi', s04 _ _ hd, fun H5 s5 => ?_⟩
      have s05 := s04.trans s5
      refine ⟨_, rfl, ?_⟩
      refine ite2 (fun h => ?_) (fun h => ?_)
      · have h3 : i < 3 := of_decide_eq_true h
        have n2 : (dns i)[2]? = some ("owner" : Str) := by
          rcases (by omega : i = 0 ∨ i = 1 ∨ i = 2) with rfl | rfl | rfl <;> rfl
        refine ⟨_, rfl, d, _, dx, _, _, rfl, s05 _ _ hd, cli, TH.na i hi' _ (List.mem_of_getElem? n2), lk_get lk n2, _, rfl, o2'.same s05, _, rfl, s05, ?_⟩
        rw [decide_eq_true h3, Bool.true_and]
      · refine ⟨s05, ?_⟩
        rw [decide_eq_false (of_decide_eq_false (by simpa using h)), Bool.false_and]
    rintro b H5 ⟨s05, rfl⟩
    refine ite2 (fun hC => ?_) (fun hC => ?_)
    · have := kF H5 s05
      rw [if_pos hC] at this
      exact this
    rw [if_neg hC] at kF
    refine ⟨fun b H' => Same H H' ∧ b = (decide (i = 2) && !textV (xs.getD 3 .non)), ?_, ?_⟩
    · refine ⟨_, rfl, _, _, _, _, decide (i = 2), rfl, .own (ct 2), deed_ty TH hi' (s05 _ _ hd), TH.kit i 2 hi' (by decide), _, rfl, ?_⟩
      refine ite2 (fun h => ?_) (fun h => ?_)
      · have h2 : i = 2 := of_decide_eq_true h
        subst h2
        have ot := (o3 rfl).same s05
        have l3 := lk_get lk (show (dns 2)[3]? = some ("text" : Str) from rfl)
        generalize xs.getD 3 .non = v at ot l3
        refine ⟨_, rfl, d, _, dx, _, _, rfl, s05 _ _ hd, cli, TH.na 2 hi' _ (by simp [dns]), l3, ?_⟩
        rcases ot with ⟨z, rfl, hz, hp⟩ | ⟨nz, ty, tx, kt⟩
        · refine .inr ⟨z, rfl, hz, hp, fun n hn H6 s6 => ⟨_, rfl, s05.trans s6, ?_⟩, fun hn H6 s6 => ⟨_, rfl, s05.trans s6, ?_⟩⟩
          · have : textV (.str z) = false := decide_eq_false (by rw [hn]; simp)
            rw [this]
            rfl
          · have : textV (.str z) = true := decide_eq_true hn
            rw [this]
            rfl
        · refine .inl ⟨v, ty, rfl, tx H5 (ExtN.refl _), kt, _, rfl, s05, ?_⟩
          have e : textV v = false := by cases v <;> first | rfl | exact absurd rfl (nz _)
          rw [e]
          rfl
      · refine ⟨s05, ?_⟩
        rw [decide_eq_false (of_decide_eq_false (by simpa using h)), Bool.false_and]
    rintro b H6 ⟨s06, rfl⟩
    refine ite2 (fun hE => ?_) (fun hE => ?_)
    · have := kF H6 s06
      rw [if_pos hE] at this
      exact this
    rw [if_neg hE] at kF
    obtain ⟨mf, mn⟩ := fos_first i xs
    refine ⟨_, rfl, _, rfl, t, d, qs, nds, i, xs, rfl, DI.same s06, hFall _ mf, hNall _ mn, fun H7 s7 => ?_⟩
    have s07 := s06.trans s7
    refine ⟨_, rfl, ?_⟩
    refine ite2 (fun hL => ?_) (fun hL => ?_)
    · have := kF H7 s07
      rw [if_pos hL] at this
      exact this
    rw [if_neg hL] at kF
    refine ⟨_, rfl, _, rfl, t, d, qs, nds, i, xs, rfl, DI.same s07, hFall, hNall, fun H8 s8 => ?_⟩
    have s08 := s07.trans s8
    refine ⟨_, rfl, ?_⟩
    refine ite2 (fun hL => ?_) (fun hL => ?_)
    · have := kF H8 s08
      rw [if_pos hL] at this
      exact this
    rw [if_neg hL] at kF
    refine ⟨_, rfl, _, rfl, t, d, dx, fs, i, rfl, hi', s08 _ _ hd, by omega, _, rfl, ?_⟩
    refine iteF ⟨_, rfl, _, rfl, t, d, dx, fs, i, rfl, hi', s08 _ _ hd, by omega, _, rfl, ?_⟩
    exact iteF (kF H8 s08)
end
end NW

set_option maxRecDepth 100000
set_option maxHeartbeats 4000000
/-! making an object in a try body; x in [..] by own __eq__, all answers False -/
namespace NG
open PySem PySem.SeqAt
open AutoSeq1 (wpAny_loadPart')
open MeetsSeq MeetsSeq2 MeetsSeq3 SeqRoads2 GQ
section
variable {prog : Program} {w : World} {A : Around} {R : Result → Shared → Prop}
/-- at each turn the list is read anew: N items, none equal to x -/
def LoopF (prog : Program) (w : World) (A : Around) (E : Value → Shared → Prop) (l : Addr) (x : Value) (N : Nat) (I : Nat → Shared → Prop) : Prop :=
  ∀ i s, I i s → ∃ (items : Array Value) (n : Nat), s.heap.get? l = some { cls := .type "list", data := .seq items n } ∧ items.size = N ∧
    ∀ (h1 : i < items.size), wpAny (model prog w) A.in1 (eqBool items[i] x) (fun r s' => r = false ∧ I (i + 1) s') E s
theorem in_loopF (l : Addr) (x : Value) (N : Nat) (I : Nat → Shared → Prop) (hl : LoopF prog w A (fun e s' => R (.error e) s') l x N I)
    (fin : ∀ s, I N s → R (.ok (.ret (.bool false))) s) (k : Nat) :
    ∀ i : Nat, N - i = k → i ≤ N → ∀ s, I i s →
      wpAny (model prog w) A.in1 (Builtin.«list.__contains__.loop» ⟨[.ref l, x, rawInt i], []⟩) (FinOf prog w A R) (fun e s' => R (.error e) s') s := by
  induction k with
  | zero =>
    intro i hk hi s h
    obtain ⟨items, n, hl1, hs1, _⟩ := hl _ _ h
    have hi' : i = N := by omega
    have hR : R (.ok (.ret (.bool false))) s := fin s (hi' ▸ h)
    obtain ⟨hp, g, d, tk, os⟩ := s
    wp_walk using wpAny_loadPart' hl1
    have hi1 : items[((i : Nat) : Int).toNat]? = none := by simp; omega
    rw [hi1]
    wp_walk
    exact hR
  | succ k ih =>
    intro i hk hi s h
    obtain ⟨items, n, hl1, hs1, turn⟩ := hl _ _ h
    have hlt : i < items.size := by omega
    have ht := turn hlt
    obtain ⟨hp, g, d, tk, os⟩ := s
    wp_walk using wpAny_loadPart' hl1
    have hi1 : items[((i : Nat) : Int).toNat]? = some items[i] := by simp [hlt]
    have hc : ((i : Int) + 1) = ((i + 1 : Nat) : Int) := by omega
    rw [hi1]
    refine wpAny_bind (wpAny_mono ht (fun r s2 h2 => ?_) fun _ _ x => x)
    obtain ⟨hr, h2⟩ := h2
    subst hr
    have hrec := ih (i + 1) (by omega) (by omega) s2 h2
    obtain ⟨hp2, g2, d2, tk2, os2⟩ := s2
    wp_walk
    rw [hc]
    exact ⟨plainId_quiet plain_contains_loop _, codeAny_builtin entry_contains_loop (by
      rw [Around.under_plainId plain_contains_loop _]
      exact hrec)⟩
theorem list_inF (l : Addr) (x : Value) (N : Nat) (I : Nat → Shared → Prop) (hl : LoopF prog w A (fun e s' => R (.error e) s') l x N I)
    (fin : ∀ s, I N s → R (.ok (.ret (.bool false))) s) {s : Shared} (h : I 0 s) :
    wpAny (model prog w) A.in1 (Builtin.«list.__contains__» ⟨[.ref l, x], []⟩) (FinOf prog w A R) (fun e s' => R (.error e) s') s := by
  obtain ⟨items, n, hl1, hs1, _⟩ := hl _ _ h
  have hrec := in_loopF (A := A) (R := R) l x N I hl fin _ 0 rfl (Nat.zero_le _) s h
  obtain ⟨hp, g, d, tk, os⟩ := s
  wp_walk using wpAny_loadPart' hl1
  exact ⟨plainId_quiet plain_contains_loop _, codeAny_builtin entry_contains_loop (by
    rw [Around.under_plainId plain_contains_loop _]
    exact hrec)⟩
end
section
variable {prog : Program} {w : World} {A : Around} {E : Value → Shared → Prop} {s : Shared}
theorem op_inF {l : Addr} {x : Value} {N : Nat} {Q : Value → Shared → Prop} (I : Nat → Shared → Prop) (hl : LoopF prog w A E l x N I)
    (fin : ∀ s, I N s → Q (.bool false) s) (h : I 0 s) : wpAny (model prog w) A (compareOp .In x (.ref l)) Q E s := by
  obtain ⟨items, n, hl1, _, _⟩ := hl _ _ h
  show wpAny _ A (do return .bool (← contains (.ref l) x)) Q E s
  refine wpAny_bind (wpAny_contains_slot ⟨_, hl1, rfl⟩ F.slot_list_contains (call_here F.slot_list_contains ⟨_, hl1, rfl⟩ F.entry_list_contains (F.args_list_contains_2 _ _) ?_))
  refine list_inF (R := wants (fun r s' => wpAny (model prog w) A (truthy r) (fun b s' => wpAny (model prog w) A (pure (Value.bool b)) Q E s') E s') E) l x N I hl (fun s' q => ?_) h
  exact wpAny_truthy_bool (wpAny_pure (fin s' q))
end
end NG
namespace NG
open PySem PySem.W PySem.Calls PyProof.Rows
section
variable {prog : Program} {w : World} {A : Around} {E : Value → Shared → Prop} {s : Shared} {K : Frag} {x C f : Addr} {dx : Addr} {od : Option Obj} {v : Value} {T id : String}
theorem tup_declines {a : Addr} {items : Array Value} {Q : Value → Shared → Prop} (ha : s.heap.IsTuple a items) (X : K.In s.heap) (I : InstAt s.heap x (instObj C dx) C od) (hs : subIn K (.ref C) (.type "tuple") = some false)
    (h : Q .notImplemented s) : wpAny (model prog w) A (call (.builtin "tuple.__eq__") [.ref a, .ref x]) Q E s := by
  obtain ⟨⟨cls, dd, data, sl⟩, ho, hc, n, hd⟩ := id ha
  simp only at hc hd
  subst hc hd
  refine GQ.call_here F.slot_tuple_eq ⟨_, ho, rfl⟩ F.entry_tuple_eq (F.args_tuple_eq_2 _ _) ?_
  have hi : ∀ {Q : Bool → Shared → Prop} {A : Around} {E : Value → Shared → Prop}, Q false s → wpAny (model prog w) A (isInstance (.ref x) (.type "tuple")) Q E s := fun hq => by
    unfold isInstance
    exact wpAny_bind (I.type.here ((looks_subIn X hs).here hq))
  obtain ⟨hp, g, d, tk, os⟩ := s
  wp_walk using hi
  exact h
theorem str_declines {z : Str} {k : Tok} {Q : Value → Shared → Prop} (I : InstAt s.heap x (instObj C dx) C od)
    (h : Q .notImplemented s) : wpAny (model prog w) A (call (.builtin "str.__eq__") [.str z k, .ref x]) Q E s := by
  refine GQ.call_here F.slot_str_eq (typeIs_str s z k) F.entry_str_eq (F.args_str_eq_2 _ _) ?_
  have hx := I.at_
  obtain ⟨hp, g, d, tk, os⟩ := s
  wp_walk using wpAny_load hx
  exact h
theorem cmpR_K {a : Value} {Q : Value → Shared → Prop} (hu : A.units < cLine) (h1 : oneThing? .Eq a (.ref x) = none) (ha : s.TypeIs a T) (slot : Slot T "__eq__" id) (X : K.In s.heap) (I : InstAt s.heap x (instObj C dx) C od) (hsub : subIn K (.ref C) (.type T) = some false)
    (hdec : ∀ {Q : Value → Shared → Prop}, Q .notImplemented s → wpAny (model prog w) A (call (.builtin id) [a, .ref x]) Q E s)
    (hs : findIn K (.ref C) "__eq__" = some (some (.ref f))) (hf : isFn K (.ref f) = true)
    (h : wpAny (model prog w) A (call (.ref f) [.ref x, a]) (PySem.W.CmpBack Q) E s) : wpAny (model prog w) A (richCompare .Eq a (.ref x)) Q E s := by
  have two : wpAny (model prog w) A (tryCompare (.ref x) "__eq__" a) (fun r s' => ∃ v, r = some v ∧ Q v s') E s := by
    unfold tryCompare
    refine wpAny_bind (ifBound_K X I hs hf (wpAny_mono h (fun v s' hv => ?_) fun _ _ e => e))
    cases v <;> first | exact hv.elim | exact wpAny_pure ⟨_, rfl, hv⟩
  unfold richCompare
  rw [h1]
  refine wpAny_holding (wpAny_bind (wpAny_cRoomFor hu ?_))
  rw [cmpInfo_Eq]
  dsimp only
  refine wpAny_bind (wpAny_typeOf ha (wpAny_bind (I.type.here ?_)))
  rw [if_pos (by simp)]
  refine wpAny_bind ((looks_subIn X hsub).here ?_)
  simp only [Bool.false_eq_true, if_false]
  refine wpAny_bind (wpAny_tryCompare_declines ha slot (hdec ⟨rfl, ?_⟩))
  dsimp only
  simp only [Bool.not_false, if_true]
  refine wpAny_bind (wpAny_mono two (fun r s' z => ?_) fun _ _ e => e)
  obtain ⟨v, rfl, hq⟩ := z
  exact wpAny_pure hq
end
end NG

namespace NG
open PySem L2
section
variable {X : Cx} {n m : Nat} {C f : Addr} {fd : FuncData} {ps : List Str} {sp : Sp} {CX : CXT} {E : XK} {D D' : Eqv}
/-- == gives False for what D says, and only makes objects -/
def EqF (X : Cx) (n : Nat) (D : Eqv) : Prop :=
  ∀ (A : Around) (pins : List (Addr × Obj)) (s : Shared) (σ : St) (H : Hp) (x y : V) (u v : Value), Sub X n A → Inv X pins σ H s → RelV x u → RelV y v → D x y H →
    wpAny (model X.prog X.w) A (eqBool u v) (fun r s' => r = false ∧ ∃ H', Inv X pins σ H' s' ∧ Ext H H') X.xe s
theorem EqF.or (h : EqF X n D) (h' : EqF X n D') : EqF X n (fun x y H => D x y H ∨ D' x y H) := fun A pins s σ H x y u v sb I rx ry d => by
  rcases d with d | d
  · exact h A pins s σ H x y u v sb I rx ry d
  · exact h' A pins s σ H x y u v sb I rx ry d
def rInF (D : Eqv) : R2 := fun x y H Q => ∃ p zs, y = .ref p ∧ H p = some (.lst zs) ∧ (∀ z ∈ zs, D z x H) ∧ ∀ H', Ext H H' → Q (.bl false) H'
theorem op_inOwnF (hD : Mon D) (h : EqF X n D) (hr : Room (n + 1) X.A) : OpR X (compareOp .In) (rInF D) := by
  intro pins s σ H x y v u Q I rx ry q
  obtain ⟨p, zs, rfl, hp, hz, k⟩ := q
  cases ry
  refine op_inF (N := zs.length) (fun _ s' => LoopI X pins σ H s') (fun i s' q => ?_) (fun s' q => ?_) ⟨H, I, Ext.rfl'⟩
  · obtain ⟨H1, I1, e1⟩ := id q
    obtain ⟨z, its, j, r, e⟩ := I1.hok p _ (e1 _ _ hp)
    refine ⟨its.toArray, j, e, by rw [List.size_toArray, ← r.length], fun h1 => ?_⟩
    have h1' : i < its.length := by simpa using h1
    have k1 : i < zs.length := by rw [r.length]; exact h1'
    obtain ⟨w1, hw1, rw1⟩ := r.get (List.getElem?_eq_getElem k1)
    have g1 : its[i]? = some its.toArray[i] := by rw [List.getElem?_eq_getElem h1'] <;> simp
    rw [g1] at hw1
    rw [Option.some.inj hw1]
    refine wpAny_mono (h X.A.in1 pins s' σ H1 _ _ _ _ ⟨hr.in1, rfl⟩ I1 rw1 rx (hD _ _ _ _ e1 (hz _ (List.getElem_mem k1)))) (fun r s2 q => ?_) fun _ _ x => x
    obtain ⟨hr, H2, I2, e2⟩ := q
    exact ⟨hr, H2, I2, e1.trans e2⟩
  · obtain ⟨H1, I1, e1⟩ := q
    exact ⟨.bl false, H1, I1, rfl, k H1 e1⟩
theorem eqBool_neG {prog : Program} {w : World} {A : Around} {E : Value → Shared → Prop} {s : Shared} {u v : Value} {Q : Bool → Shared → Prop} (hne : (u == v) = false) (hfl : ∀ a b, u ≠ .float a b)
    (h : wpAny (model prog w) A (richCompare .Eq u v) (fun r s' => ∃ b, r = .bool b ∧ Q b s') E s) : wpAny (model prog w) A (eqBool u v) Q E s := by
  unfold eqBool
  refine wpAny_holding ?_
  rw [hne]
  cases u with
  | float a b => exact absurd rfl (hfl a b)
  | _ =>
    simp only [Bool.false_eq_true, if_false]
    refine wpAny_bind (wpAny_mono h (fun v s' hv => ?_) fun _ _ x => x)
    obtain ⟨r, rfl, q⟩ := hv
    exact wpAny_truthy_bool q
/-- instances of C: what its == promises is False -/
def DInsF (K : PySem.W.Frag) (C : Addr) (R : V → V → Hp → Prop) : Eqv := fun x y H => ∃ a b dx dy fs gs, x = .ref a ∧ y = .ref b ∧ a ≠ b ∧ H a = some (.ins C dx fs) ∧ H b = some (.ins C dy gs) ∧ R x y H
/-- a tuple or a text ahead of an instance of C -/
def DOthF (K : PySem.W.Frag) (C : Addr) (R : V → V → Hp → Prop) : Eqv := fun x y H => ∃ b dy gs, y = .ref b ∧ H b = some (.ins C dy gs) ∧ ((∃ a xs, x = .ref a ∧ a ≠ b ∧ SqT K H a xs) ∨ ∃ z, x = .str z) ∧ R y x H
/-- what the own == must promise of the two -/
def SaysF (K : PySem.W.Frag) (sp : Sp) (E : XK) (R : V → V → Hp → Prop) : Prop := ∀ x y H, R x y H → sp [x, y] H (fun v H' => ∃ k, v = .bl k ∧ k = false ∧ Ext H H') E
theorem eqF_ins {R : V → V → Hp → Prop} (F : FnOk X.prog X.w X.K X.mg X.base CX n f fd ps sp) (hs : PySem.W.findIn X.K (.ref C) "__eq__" = some (some (.ref f))) (hf : PySem.W.isFn X.K (.ref f) = true) (hb : Binds X.K fd ps []) (hx : Passes CX X E)
    (hR : SaysF X.K sp E R) : EqF X n (DInsF X.K C R) := by
  intro A pins s σ H x y u v sb I rx ry d
  obtain ⟨a, b, dx, dy, fs, gs, rfl, rfl, hab, ha, hb', r⟩ := d
  cases rx
  cases ry
  obtain ⟨mA, J, _⟩ := ins_get I.hok ha
  obtain ⟨mB, J', _⟩ := ins_get I.hok hb'
  obtain ⟨od, J, _⟩ := J.look
  obtain ⟨od', J', _⟩ := J'.look
  obtain ⟨m, hF⟩ := I.fr
  refine GQ.eqBool_refG hab (PySem.W.cmp_K (op := .Eq) (tb := .ref C) sb.room.units0 hF I.ok.mod.kin J J'.type (by simp [PySem.W.notFirst]) hs hf ?_)
  refine wpAny_mono (own_run F hb hx sb I (show RelV (.ref b) (.ref b) from rfl) (R := fun k H' => k = false ∧ Ext H H') (hR _ _ _ r)) (fun r s' z => ?_) fun _ _ x => x
  obtain ⟨k, rfl, H', I', rfl, q⟩ := z
  exact ⟨false, rfl, rfl, H', I', q⟩
theorem eqF_oth {R : V → V → Hp → Prop} (F : FnOk X.prog X.w X.K X.mg X.base CX n f fd ps sp) (hs : PySem.W.findIn X.K (.ref C) "__eq__" = some (some (.ref f))) (hf : PySem.W.isFn X.K (.ref f) = true) (hb : Binds X.K fd ps []) (hx : Passes CX X E)
    (ht : PySem.W.subIn X.K (.ref C) (.type "tuple") = some false) (hst : PySem.W.subIn X.K (.ref C) (.type "str") = some false) (hR : SaysF X.K sp E R) : EqF X n (DOthF X.K C R) := by
  intro A pins s σ H x y u v sb I rx ry d
  obtain ⟨b, dy, gs, rfl, hb', ho, r⟩ := d
  cases ry
  obtain ⟨mB, J', _⟩ := ins_get I.hok hb'
  obtain ⟨od', J', _⟩ := J'.look
  have hu := sb.room.units0
  have own : wpAny (model X.prog X.w) A (call (.ref f) [.ref b, u]) (PySem.W.CmpBack fun v s' => ∃ k, v = .bool k ∧ k = false ∧ ∃ H', Inv X pins σ H' s' ∧ Ext H H') X.xe s := by
    refine wpAny_mono (own_run F hb hx sb I rx (R := fun k H' => k = false ∧ Ext H H') (hR _ _ _ r)) (fun r s' z => ?_) fun _ _ x => x
    obtain ⟨k, rfl, H', I', rfl, q⟩ := z
    exact ⟨false, rfl, rfl, H', I', q⟩
  rcases ho with ⟨a, xs, rfl, hab, hq⟩ | ⟨z, rfl⟩
  · cases rx
    obtain ⟨its, r', pl, hz⟩ := I.tuple hq
    obtain ⟨o, ho, hc, _⟩ := id pl
    exact GQ.eqBool_refG hab (cmpR_K hu rfl ⟨o, ho, hc⟩ PySem.F.slot_tuple_eq I.kIn J' ht (fun q => tup_declines pl I.kIn J' ht q) hs hf own)
  · obtain ⟨t, rfl⟩ := rx
    exact eqBool_neG rfl (fun _ _ e => by cases e) (cmpR_K hu rfl (typeIs_str s z t) PySem.F.slot_str_eq I.kIn J' hst (fun q => str_declines J' q) hs hf own)
end
/-! making an object where its __init__ may raise -/
section
variable {X : Cx} {CX : CXT} {k : Nat} {f C : Addr} {fd : FuncData} {ps : List Str} {sp : Sp} {E : St → XK} {x : Str} {p pos : Pos} {e : Expr} {es : List Expr} {t : TA}
theorem run_makeS {pins : List (Addr × Obj)} {σ : St} {H : Hp} {s : Shared} {Q : VK} {us : List Value} {vs : List V} (M : Mk X.K C f) (F : FnOk X.prog X.w X.K X.mg X.base CX k f fd ps sp) (hr : Room (k + 1) X.A) (hb : Binds X.K fd ps [])
    (hx : PassesAt CX X σ (E σ)) (I : Inv X pins σ H s) (r : Vals vs us)
    (h : ∀ x dx, H x = none → H dx = none → dx ≠ x → sp (.ref x :: vs) (upd (upd H dx (.own x)) x (.ins C dx [])) (fun v H2 => v = .non ∧ Q (.ref x) H2) (E σ)) :
    wpAny (model X.prog X.w) X.A (call (.ref C) us) (EP X pins σ Q) X.xe s := by
  have hq := h (s.heap.objs.size + 1) s.heap.objs.size (I.hok.fresh (Nat.le_succ _)) (I.hok.fresh (Nat.le_refl _)) (Nat.ne_of_lt (Nat.lt_succ_self _))
  have I2 := Inv.made (C := C) I
  have r2 : Vals (V.ref (s.heap.objs.size + 1) :: vs) (Value.ref (s.heap.objs.size + 1) :: us) := .cons rfl r
  have hl : (Value.ref (s.heap.objs.size + 1) :: us).length = ps.length := by
    have e := r2.length
    rw [F.len _ _ _ _ hq] at e
    exact e.symm
  have b := hb _ (Value.ref (s.heap.objs.size + 1) :: us) I2.kIn (by rw [List.append_nil]; exact hl)
  rw [List.append_nil] at b
  refine wpAny_call (make_map (f := f) I.kIn M.makes M.init (beq_iff_eq.mp M.fn) (codeAny_mono (F.run _ X.stack _ _ ⟨Value.ref (s.heap.objs.size + 1) :: us, []⟩ (Value.ref (s.heap.objs.size + 1) :: us) _ _ (E σ) (hr.make C us [])
    (I2.env0.make C us []) b r2 hq) fun r s' hq' => ?_))
  cases r with
  | error e => exact hx pins _ _ e s' I2 hq'
  | ok fl =>
    cases fl with
    | ret u =>
      obtain ⟨v, H', I3, rv, ev, q3⟩ := I2.after hq'
      subst ev
      exact ⟨rv, ⟨V.ref (s.heap.objs.size + 1), H', I3, rfl, q3⟩⟩
    | next => exact False.elim hq'
    | brk => exact False.elim hq'
    | cont => exact False.elim hq'
def tMakeS (C : Addr) (sp : Sp) (E : St → XK) (t : TA) : TE := fun σ H Q => t σ H fun vs H1 => ∀ x dx, H1 x = none → H1 dx = none → dx ≠ x → sp (.ref x :: vs) (upd (upd H1 dx (.own x)) x (.ins C dx [])) (fun v H2 => v = .non ∧ Q (.ref x) H2) (E σ)
theorem pe_makeS (M : Mk X.K C f) (F : FnOk X.prog X.w X.K X.mg X.base CX k f fd ps sp) (hr : Room (k + 1) X.A) (hg : Gl X x) (hm : X.mg x = some (.ref C)) (hb : Binds X.K fd ps []) (hx : ∀ σ, PassesAt CX X σ (E σ))
    (ha : PA X (e :: es) t) (hdb : (x == ("__debug__" : Str)) = false := by decide) (he : starEach (e :: es) X.env = (false, eval e X.env) :: starEach es X.env := by rfl) (hpl : (backTo pos (starEach es X.env)).any (·.1) = false := by rfl) :
    PE X (.Call (.Name x p) (e :: es) [] pos) (tMakeS C sp E t) := by
  refine ⟨fun pins s σ H Q I h => ?_⟩
  refine wpAny_Call_Name_kw (ld_glob I hg hm ?_ hdb)
  refine PySem.W.callWith_K (h₀ := X.base) I.ok.mod.kin M.kp (thn (ha.run pos pins s σ H _ I h) fun us s1 ⟨vs, H1, I1, r, q⟩ => ⟨I1.kIn, ?_⟩) he hpl
  exact run_makeS M F hr hb (hx σ) I1 r q
end
end NG

set_option maxRecDepth 100000
set_option maxHeartbeats 1000000
/-! deeds that put: the tree after them; what is raised -/
namespace NW
open PySem L2 NG TR LamX
def tCutE2 (t : TE) : TE := fun σ H Q => ∃ R : V → Hp → Prop, t σ H R ∧ ∀ v H1, R v H1 → Q v H1
theorem pe_cut2 {X : Cx} {e : Expr} {t : TE} (h : PE X e t) : PE X e (tCutE2 t) :=
  ⟨fun pins s σ H Q I ⟨R, h1, h2⟩ => thn (h.run pins s σ H R I h1) fun b s1 ⟨v, H', I', r, q⟩ => ⟨v, H', I', r, h2 v H' q⟩⟩
def spFolT (K : PySem.W.Frag) (C P0 : Addr) : Sp := fun vs H Q _ => ∃ (p dx : Addr) (o : V) (L : Addr) (xs : List V) (es : List (Str × V)), vs = [.ref p, o, .ref L] ∧ H p = some (.ins C dx []) ∧ Tabs [(P0, qBy)] H ∧ SqT K H L xs ∧ EntsIn K H xs es ∧ es.length < sizeLine ∧
  ∀ (H' : Hp) (E : Addr) (qs : List V), ButN p H H' → Tabs [(P0, qBy)] H' → H' p = some (.ins C dx (ffV o E)) → PlT H' E qs → qs.length = es.length → (∀ (i : Nat) (q : V) (e : Str × V), qs[i]? = some q → (srtE es)[i]? = some e → ∃ a, q = .ref a ∧ SqT K H' a [.str e.1, e.2]) → Q .non H'
def numE (e : Str × Nat) : Str × V := (e.1, .int (e.2 : Nat))
theorem fol_obj {K : PySem.W.Frag} {cs : Nat → Addr} {H : Hp} {p dx E : Addr} {o : Int} {qs : List V} {es : List (Str × Nat)} (h1 : H p = some (.ins (cs 0) dx (ffV (.int o) E))) (h2 : PlT H E qs) (h3 : qs.length = (es.map numE).length) (h4 : ∀ (i : Nat) (q : V) (e : Str × V), qs[i]? = some q → (srtE (es.map numE))[i]? = some e → ∃ a, q = .ref a ∧ SqT K H a [.str e.1, e.2]) : ObjAt K cs H p (.fol o (srtE es)) := by
  refine ⟨dx, E, qs, h1, h2, ?_, fun k q e a b => ?_⟩
  · rw [h3, List.length_map, (srt_perm es).length_eq]
  · have e1 : srtE (es.map numE) = (srtE es).map numE := srt_map (fun k : Nat => V.int (k : Nat)) es
    exact h4 k q (numE e) a (by rw [e1, List.getElem?_map, b]; rfl)
def spEnter (K : PySem.W.Frag) (cs : Nat → Addr) (P0 : Addr) : Sp := fun vs H Q _ => ∃ (L q : Addr) (k n : Nat) (z : Str) (qs : List Addr) (o : Int) (es : List (Str × Nat)), vs = [.ref L, .int (k : Nat), .str z, .int (n : Nat)] ∧ H L = some (.lst (qs.map V.ref)) ∧ qs[k]? = some q ∧ ObjAt K cs H q (.fol o es) ∧ es.length < 1000 ∧ Tabs [(P0, qBy)] H ∧
  ∀ H' q', ButN L H H' → Tabs [(P0, qBy)] H' → H' L = some (.lst ((qs.set k q').map V.ref)) → H q' = none → ObjAt K cs H' q' (.fol o (srtE (es ++ [(z, n)]))) → Q .non H'
def spPut (K : PySem.W.Frag) (cs ct : Nat → Addr) (CT P0 : Addr) : Sp := fun vs H Q _ => ∃ (t d : Addr) (qs : List Addr) (nds : List Nd) (k n : Nat) (z : Str) (o : Int) (es : List (Str × Nat)), vs = [.ref t, .ref d] ∧ TreeAt K cs CT H t qs nds ∧ HasF H (ct 3) d (dns 3) [.int (k : Nat), .str z, .int (n : Nat)] ∧ nds[k]? = some (.fol o es) ∧ es.length < 1000 ∧ nds.length ≤ 1000 ∧
  WF LinkText PL (nds.set k (.fol o (srtE (es ++ [(z, n)])))) ∧ Tabs [(P0, qBy)] H ∧ ∀ H' t' qs', ExtN H H' → Tabs [(P0, qBy)] H' → TreeAt K cs CT H' t' qs' (nds.set k (.fol o (srtE (es ++ [(z, n)])))) → Q (.ref t') H'
structure TxtND (K : PySem.W.Frag) (mg : Str → Option Value) (CND fNDI : Addr) : Prop where
  ox : OexC K CND
  nO : PySem.W.findIn K (.ref CND) "why" = some none
  iC : PySem.W.findIn K (.ref CND) "__init__" = some (some (.ref fNDI))
  tI : PySem.W.typeIn K (.ref fNDI) = some (.type "function")
  gN : mg "NoDeed" = some (.ref CND)
  xf : XfC K CND
  te : PySem.W.exmOne K (.ref CND) (.ref CND) = some true
def spNDI (C : Addr) : Sp := fun vs H Q _ => ∃ (a : Addr) (v : V), vs = [.ref a, v] ∧ H a = some (exo a C none) ∧ ∀ dx, H dx = none → dx ≠ a → Q .non (upd (upd H dx (exd dx [("why", v)])) a (exo a C (some dx)))
/-- a deed that cannot be done, or one that puts -/
def spDone (K : PySem.W.Frag) (cs ct : Nat → Addr) (CT P0 CND : Addr) : Sp := fun vs H Q E => ∃ (t d : Addr) (qs : List Addr) (nds : List Nd) (i : Nat) (xs : List V), vs = [.ref t, .ref d] ∧ DeedIn K cs ct CT H t d qs nds i xs ∧ (4 ≤ i → ((fosV i xs).all (folV nds) && (nosV i xs).all nameV) = false) ∧
  ((∃ w : Str, whyV nds i xs = .str w ∧ ∀ dd H', Same H H' → H' dd = some (.xd [("why", .str w)]) → E (.ref CND) (some dd) H') ∨
   (whyV nds i xs = .non ∧ ∃ (k n : Nat) (z : Str) (o : Int) (es : List (Str × Nat)), i = 3 ∧ xs = [.int (k : Nat), .str z, .int (n : Nat)] ∧ nds[k]? = some (.fol o es) ∧ es.length < 1000 ∧ nds.length ≤ 1000 ∧ WF LinkText PL (nds.set k (.fol o (srtE (es ++ [(z, n)])))) ∧ Tabs [(P0, qBy)] H ∧
     ∀ H' t' qs', ExtN H H' → Tabs [(P0, qBy)] H' → TreeAt K cs CT H' t' qs' (nds.set k (.fol o (srtE (es ++ [(z, n)])))) → Q (.ref t') H'))
section
variable {P : Program} {w : World} {K : PySem.W.Frag} {mg : Str → Option Value} {base : Heap} {C f fBy P0 : Addr}
theorem ok_folT {fd fdB : FuncData} (F : Fun K "__init__" "Folder.__init__" sFolI f fd) (T : TxtS K mg fBy) (cl : Cls K C) (h1 : NoAttr K C "owner") (h2 : NoAttr K C "entries") (GB : FnOk P w K mg base CX0 2 fBy fdB ["entries"] (spBy K P0)) (bB : Binds K fdB ["entries"] []) :
    FnOk P w K mg base CX0 3 f fd ["self", "owner", "entries"] (spFolT K C P0) := by
  have nd := scFolI.nd
  refine F.ok scFolI (fun vs H Q E h => ?_) (fun cdv A outer s H vs Q E hr h => ?_)
  · obtain ⟨p, dx, o, L, xs, es, rfl, _⟩ := h
    rfl
  · obtain ⟨p, dx, o, L, xs, es, rfl, hp, hT, hL, hE, hl, k⟩ := h
    have hr1 : Room 2 _ := hr
    refine ⟨_, (pss_cons (ps_fld (pv 0) (pv 1) rfl)
  (pss_one (ps_fld (pv 0) (pe_call GB hr1 (by rfl) T.g_by T.kp_by bB .nil pass0 (pa_cons (pe_lc (own := [("entry", 3)]) (te := tCB (rTupOf K) (tCons (tVar 3) tNil)) rfl nd (pi_tup (pv 2)) (blkOk_by (N := ["self", "owner", "entries", "entry"]) (sc := defScope sFolI) (by decide +kernel)) (fun _ _ _ _ _ => (pg_name (i := 3) nd rfl (Or.inl rfl))) (fun _ _ _ _ _ => pts_nil) (fun _ _ _ _ _ => (pe_callTy call_tuple_of (by rfl) T.m_tuple (by decide +kernel) (pa_cons (pv 3) pa_nil)))) pa_nil)) rfl))), ?_⟩
    refine ⟨_, rfl, _, rfl, p, C, dx, _, rfl, hp, cl, h1, (by show 0 < 1000; decide), ?_⟩
    have n1 : ∀ u : HO, (∀ C dx fs, u ≠ .ins C dx fs) → ∀ b, H b = some u → b ≠ p := fun u hu b e => ne_of e hp (hu C dx [])
    have eB : ButN p H (upd H p (.ins C dx (putF "owner" o []))) := fun b u e n _ => by rw [upd_ne n]; exact e
    have bT : But p H (upd H p (.ins C dx (putF "owner" o []))) := (But.refl p H).upd
    have hL1 : SqT K (upd H p (.ins C dx (putF "owner" o []))) L xs := But.sqT hp bT hL
    have hE1 : EntsIn K (upd H p (.ins C dx (putF "owner" o []))) xs es := ⟨hE.1, fun i x e a b => by
      obtain ⟨t, h1, h2⟩ := hE.2 i x e a b
      refine ⟨t, h1, h2.imp (fun h2 => But.sqT hp bT h2) fun h2 => ?_⟩
      rcases h2 with (h | ⟨u, h⟩) | h
      · exact .inl (.inl (bT _ _ h (n1 _ (fun _ _ _ z => by cases z) _ h)))
      · exact .inl (.inr ⟨u, bT _ _ h (n1 _ (fun _ _ _ z => by cases z) _ h)⟩)
      · exact .inr h⟩
    have hT1 : Tabs [(P0, qBy)] (upd H p (.ins C dx (putF "owner" o []))) := fun t ht => by
      obtain ⟨ps, a1, a2, a3⟩ := hT t ht
      refine ⟨ps, by rw [upd_ne (ne_of a1 hp (fun z => by cases z))]; exact a1, a2, fun pos cv hc => ?_⟩
      obtain ⟨c, e1, e2⟩ := a3 pos cv hc
      exact ⟨c, e1, by rw [upd_ne (ne_of e2 hp (fun z => by unfold CodeO at z; cases z))]; exact e2⟩
    have hp1 : (upd H p (.ins C dx (putF "owner" o []))) p = some (.ins C dx (putF "owner" o [])) := upd_same
    generalize upd H p (.ins C dx (putF "owner" o [])) = H1 at eB hL1 hE1 hT1 hp1 ⊢
    refine ⟨_, rfl, L, rfl, ⟨_, hL1⟩, fun D hD => ?_⟩
    refine lc_rel (walk_tup (K := K) (a := L) (xs := xs)) (R := fun H' => Same H1 H') (S := Same) (Px := fun i y H' => ∃ e a, es[i]? = some e ∧ y = .ref a ∧ SqT K H' a [.str e.1, e.2]) (by rw [hE1.1]; exact hl) (NG.Same.upd hD) (fun H' s => Same.sqT s hL1) (fun _ _ a b => a.trans b) (fun _ _ _ _ s e => s _ _ e)
      (fun i y _ _ s ⟨e, a, h1, h2, h3⟩ => ⟨e, a, h1, h2, Same.sqT s h3⟩) (fun H' acc y s e b u hb => ?_) (fun i y H' acc acc' eD ⟨e, a, h1, h2, h3⟩ => ⟨e, a, h1, h2, ?_⟩) (fun i x H' Rk hx s hR => ?_) (fun H2 ys s2 e2 hy hys => ?_)
    · rw [upd_ne (ne_of_none hb hD)]
      exact s _ _ hb
    · rcases h3 with (h | ⟨u, h⟩) | h
      · exact .inl (.inl (by rw [upd_ne (ne_of h eD (fun z => by cases z))]; exact h))
      · exact .inl (.inr ⟨u, by rw [upd_ne (ne_of h eD (fun z => by cases z))]; exact h⟩)
      · exact .inr h
    · have hi : i < es.length := by rw [← hE1.1]; exact (List.getElem?_eq_some_iff.mp hx).1
      have he : es[i]? = some es[i] := List.getElem?_eq_getElem hi
      obtain ⟨a, rfl, h⟩ := hE1.2 i x _ hx he
      rcases h with h | h
      · exact ⟨_, rfl, a, _, rfl, .inr ⟨Same.sqT s h, hR _ _ (Same.refl _) ⟨_, a, he, rfl, Same.sqT s h⟩⟩⟩
      · exact ⟨_, rfl, a, _, rfl, .inl ⟨Same.seq s h, fun l hl => hR _ _ (NG.Same.upd hl) ⟨_, l, he, rfl, SqT.of upd_same⟩⟩⟩
    · rw [hE1.1] at hy
      obtain ⟨zs, z1, z2, z3, z4⟩ := srt_zip hy
      refine ⟨D, (ys.zip es).map fun z => (z.1, z.2.1), rfl, hT1.ext s2, ?_, ?_, ?_, fun H3 E e3 t3 hE3 => ?_⟩
      · rw [z4]; exact SqL.of e2
      · rw [List.length_map, List.length_zip]; omega
      · intro b hb
        obtain ⟨z, hz, rfl⟩ := List.mem_map.mp hb
        obtain ⟨i, hi⟩ := List.getElem?_of_mem hz
        rw [List.getElem?_zip_eq_some] at hi
        obtain ⟨e, a, h1, h2, h3⟩ := hys i _ hi.1
        rw [hi.2] at h1
        cases Option.some.inj h1
        exact ⟨a, _, h2, h3⟩
      · rw [z3] at hE3
        have hp3 : H3 p = some (.ins C dx (putF "owner" o [])) := e3 _ _ (s2 _ _ hp1) (fun _ z => by cases z)
        refine ⟨_, rfl, p, C, dx, _, rfl, hp3, cl, h2, (by show 1 < 1000; decide), ?_⟩
        have nE : E ≠ p := let ⟨_, e, _⟩ := hE3; ne_of e hp3 (fun z => by cases z)
        have t4 : Tabs [(P0, qBy)] (upd H3 p (.ins C dx (ffV o E))) := fun t ht => by
          obtain ⟨ps, a1, a2, a3⟩ := t3 t ht
          refine ⟨ps, by rw [upd_ne (ne_of a1 hp3 (fun z => by cases z))]; exact a1, a2, fun pos cv hc => ?_⟩
          obtain ⟨c, e1, e2⟩ := a3 pos cv hc
          exact ⟨c, e1, by rw [upd_ne (ne_of e2 hp3 (fun z => by unfold CodeO at z; cases z))]; exact e2⟩
        refine k _ E (zs.map (·.1)) (fun b u e n q => ?_) t4 upd_same (hE3.keep fun o e => by rw [upd_ne nE]; exact e) ?_ (fun i q e hq he => ?_)
        · rw [upd_ne n]
          exact e3 _ _ (s2 _ _ (eB b u e n q)) q
        · have := congrArg List.length z2
          rw [List.length_map] at this
          rw [List.length_map, this]
          unfold srtE
          rw [List.length_mergeSort]
        · rw [← z2, List.getElem?_map] at he
          rw [List.getElem?_map] at hq
          cases ez : zs[i]? with
          | none => rw [ez] at hq; cases hq
          | some z =>
            rw [ez] at hq he
            cases Option.some.inj hq
            cases Option.some.inj he
            obtain ⟨j, j1, j2⟩ := z1 z (List.mem_of_getElem? ez)
            obtain ⟨e', a, h1, h2, h3⟩ := hys j _ j1
            rw [j2] at h1
            cases Option.some.inj h1
            refine ⟨a, h2, ?_⟩
            have h4 := ExtN.sqT e3 h3
            rcases h4 with (h | ⟨u, h⟩) | h
            · exact .inl (.inl (by rw [upd_ne (ne_of h hp3 (fun z => by cases z))]; exact h))
            · exact .inl (.inr ⟨u, by rw [upd_ne (ne_of h hp3 (fun z => by cases z))]; exact h⟩)
            · exact .inr h
end
section
variable {P : Program} {w : World} {K : PySem.W.Frag} {mg : Str → Option Value} {base : Heap} {fBy fNum fAt fDigit fPool fET fFF fCN fCF f CT CND fNDI fTI fI0 P0 : Addr} {cs ct fa : Nat → Addr}
abbrev sEnter : Stmt := top 56
abbrev sChanged : Stmt := top 54
abbrev sNDI : Stmt := inClass (top 6) 0
abbrev sDone : Stmt := top 53
theorem scEnter : FnScope ["nodes", "folder", "name", "number", "present"] ["nodes", "folder", "name", "number"] (defScope sEnter) := ⟨rfl, rfl, rfl, by decide +kernel, rfl, by decide +kernel, by decide +kernel⟩
theorem ok_enter {fd fdF : FuncData} (F : Fun K "enter" "enter" sEnter f fd) (TG : TxtG K mg cs) (M0 : Mk K (cs 0) fI0) (GF : FnOk P w K mg base CX0 3 fI0 fdF ["self", "owner", "entries"] (spFolT K (cs 0) P0)) (bF : Binds K fdF ["self", "owner", "entries"] []) :
    FnOk P w K mg base CX0 5 f fd ["nodes", "folder", "name", "number"] (spEnter K cs P0) := by
  have nd := scEnter.nd
  refine F.ok scEnter (fun vs H Q E h => ?_) (fun cdv A outer s H vs Q E hr h => ?_)
  · obtain ⟨L, q, k, n, z, qs, o, es, rfl, _⟩ := h
    rfl
  · obtain ⟨L, q, k, n, z, qs, o, es, rfl, hL, hq, hO, hl, hT, kk⟩ := h
    have hr4 : Room 4 _ := hr
    have hs : sizeLine = 16777216 := sizeLine_eq
    refine ⟨_, (pss_cons (ps_set (i := 4) nd rfl (Or.inl rfl) (pe_ix ix_list (pv 0) (pv 1) (fun _ _ => rfl)))
  (pss_one (ps_asg (pe_make M0 GF hr4 (by rfl) TG.m_Folder bF .nil pass0 (pa_cons (pe_fld (pv 4) rfl) (pa_cons (pe_cut2 (pe_op op_catA (pe_fld (pv 4) rfl) (pe_tup (pa_cons (pe_tup (pa_cons (pv 2) (pa_cons (pv 3) pa_nil))) pa_nil)))) pa_nil))) (pg_sub (pv 0) (pv 1) set_list)))), ?_⟩
    have hqr : (qs.map V.ref)[k]? = some (.ref q) := by rw [List.getElem?_map, hq]; rfl
    refine ⟨_, rfl, _, rfl, L, _, _, _, rfl, rfl, SqL.of hL, atI_nat hqr, ?_⟩
    obtain ⟨dx, E0, ps, h1, h2, h3, h4⟩ := hO
    have no : ("owner" : Str) ≠ "entries" := by decide +kernel
    refine ⟨_, rfl, q, cs 0, dx, _, _, rfl, h1, TG.cl 0 (by decide), TG.nO 0 (by decide), (by unfold ffl; rw [lookup_putF, if_neg no, lookup_putF, if_pos rfl]), fun v H' => ∃ U p1, v = V.ref U ∧ Same H H' ∧ SqT K H' U (ps ++ [V.ref p1]) ∧ SqT K H' p1 [.str z, .int (n : Nat)], ?_, ?_⟩
    · refine ⟨_, rfl, q, cs 0, dx, _, _, rfl, h1, TG.cl 0 (by decide), TG.nE, (by unfold ffl; rw [lookup_putF, if_pos rfl]), ?_⟩
      refine ⟨_, rfl, _, rfl, (by show 2 ≤ sizeLine; decide), fun p1 hp1 => ⟨(by show 1 ≤ sizeLine; decide), fun p2 hp2 => ?_⟩⟩
      have s1 := NG.Same.upd (o := HO.tup [V.str z, V.int (n : Nat)]) hp1
      have e1 : (upd H p1 (HO.tup [V.str z, V.int (n : Nat)])) p1 = some (.tup [V.str z, V.int (n : Nat)]) := upd_same
      generalize upd H p1 (HO.tup [V.str z, V.int (n : Nat)]) = H1 at s1 e1 hp2 ⊢
      have s2 := NG.Same.upd (o := HO.tup [V.ref p1]) hp2
      have e2 : (upd H1 p2 (HO.tup [V.ref p1])) p2 = some (.tup [V.ref p1]) := upd_same
      generalize upd H1 p2 (HO.tup [V.ref p1]) = H2 at s2 e2 ⊢
      have s02 := s1.trans s2
      refine ⟨E0, p2, ps, [.ref p1], rfl, rfl, (h2.same s02).sqT, SqT.of e2, (by rw [h3]; show es.length + 1 ≤ sizeLine; omega), fun e => ?_, fun _ e => ?_, fun _ _ u hu => ?_⟩
      · subst e
        exact ⟨p2, p1, rfl, s02, SqT.of e2, SqT.of (s2 _ _ e1)⟩
      · cases e
      · have s3 := NG.Same.upd (o := HO.tup (ps ++ [V.ref p1])) hu
        exact ⟨u, p1, rfl, s02.trans s3, SqT.of upd_same, SqT.of (s3 _ _ (s2 _ _ e1))⟩
    rintro v H2 ⟨U, p1, rfl, s02, hU, hp1⟩
    have hn2 : ∀ (x dxx : Addr), H2 x = none → H2 dxx = none → Same H2 (upd (upd H2 dxx (.own x)) x (.ins (cs 0) dxx [])) := fun x dxx a b => new_ext a b
    refine fun x dxx nx ndx nex => ?_
    have s3 := hn2 x dxx nx ndx
    have ex : (upd (upd H2 dxx (.own x)) x (.ins (cs 0) dxx [])) x = some (.ins (cs 0) dxx []) := upd_same
    have nH : H x = none := by
      cases e : H x with
      | none => rfl
      | some u => have := s02 _ _ e; rw [nx] at this; cases this
    generalize upd (upd H2 dxx (.own x)) x (.ins (cs 0) dxx []) = H3 at s3 ex ⊢
    have s03 := s02.trans s3
    have eL := s03 _ _ hL
    refine ⟨x, dxx, _, U, _, (es ++ [(z, n)]).map numE, rfl, ex, hT.ext s03, Same.sqT s3 hU, ⟨by rw [List.length_append, List.length_map, List.length_append, h3]; rfl, fun i y e hy he => ?_⟩, by rw [List.length_map, List.length_append]; show es.length + 1 < sizeLine; omega, fun H4 E4 q4 b4 t4 x4 pl4 l4 hq4 => ⟨rfl, ?_⟩⟩
    · rw [List.getElem?_map] at he
      by_cases hi : i < es.length
      · rw [List.getElem?_append_left (by omega)] at hy
        rw [List.getElem?_append_left hi] at he
        have hei : es[i]? = some es[i] := List.getElem?_eq_getElem hi
        rw [hei] at he
        cases Option.some.inj he
        obtain ⟨a, ea, sa⟩ := h4 i y _ hy hei
        exact ⟨a, ea, .inl (Same.sqT s03 sa)⟩
      · have hil : i = es.length := by
          have := (List.getElem?_eq_some_iff.mp hy).1
          rw [List.length_append, h3] at this
          simp at this
          omega
        subst hil
        rw [List.getElem?_append_right (Nat.le_refl _), Nat.sub_self] at he
        rw [List.getElem?_append_right (by omega), h3, Nat.sub_self] at hy
        cases Option.some.inj he
        cases Option.some.inj hy
        exact ⟨p1, rfl, .inl (Same.sqT s3 hp1)⟩
    · have nLx : L ≠ x := fun e => by rw [e, nH] at hL; cases hL
      have eL4 : H4 L = some (.lst (qs.map V.ref)) := b4 _ _ eL nLx (fun _ z => by cases z)
      have hk : k < (qs.map V.ref).length := (List.getElem?_eq_some_iff.mp hqr).1
      refine ⟨_, rfl, _, rfl, L, _, _, k, rfl, rfl, eL4, ?_, ?_⟩
      · unfold ixN
        rw [if_pos (by omega), if_pos (by omega), Int.toNat_natCast]
      · have eX := extX_lst (ys := (qs.map V.ref).set k (.ref x)) eL4
        have O4 : ObjAt K cs H4 x (.fol o (srtE (es ++ [(z, n)]))) := fol_obj x4 pl4 l4 hq4
        refine kk _ x (fun b u hb hnb hnt => ?_) (tabs_lst t4 eL4) ?_ nH (O4.ext eX)
        · rw [upd_ne hnb]
          exact b4 _ _ (s03 _ _ hb) (fun e => by rw [e, nH] at hb; cases hb) hnt
        · rw [upd_same, List.map_set]
theorem scChanged : FnScope ["tree", "deed", "nodes", "number"] ["tree", "deed"] (defScope sChanged) := ⟨rfl, rfl, rfl, by decide +kernel, rfl, by decide +kernel, by decide +kernel⟩
theorem ok_changed {fd fdE fdT : FuncData} (F : Fun K "changed" "changed" sChanged f fd) (TH : TxtTh K ct) (D : TxtDd K mg ct fa) (cl : Cls K CT) (h1 : NoAttr K CT "nodes") (gT : mg "Tree" = some (.ref CT)) (MT : Mk K CT fTI)
    (G_enter : FnOk P w K mg base CX0 5 (fa 15) fdE ["nodes", "folder", "name", "number"] (spEnter K cs P0)) (b_enter : Binds K fdE ["nodes", "folder", "name", "number"] [])
    (GTr : FnOk P w K mg base CX0 7 fTI fdT ["self", "nodes"] (spTreeI K cs CT)) (bTr : Binds K fdT ["self", "nodes"] []) :
    FnOk P w K mg base CX0 9 f fd ["tree", "deed"] (spPut K cs ct CT P0) := by
  have nd := scChanged.nd
  refine F.ok scChanged (fun vs H Q E h => ?_) (fun cdv A outer s H vs Q E hr h => ?_)
  · obtain ⟨t, d, qs, nds, k, n, z, o, es, rfl, _⟩ := h
    rfl
  · obtain ⟨t, d, qs, nds, k, n, z, o, es, rfl, ⟨dx, N, ht, TR⟩, ⟨dxd, fs, hd, lk⟩, hn, hl, hl2, hW, hT, kk⟩ := h
    have hrT : Room 8 _ := hr
    have hr_enter : Room 5 _ := hr.mono (by decide)
    have fl : (fl1 "nodes" (V.ref N)).lookup ("nodes" : Str) = some (.ref N) := by unfold fl1; rw [lookup_putF, if_pos rfl]
    have isi : ∀ j, j < 11 → ∀ H', H' d = some (.ins (ct 3) dxd fs) → TyX K H' (.ref d) (.ref (ct 3)) ∧ PySem.W.kitOne K (.ref (ct 3)) (.ref (ct j)) = some (decide (3 = j)) := fun j hj H' e => ⟨deed_ty TH (by decide) e, TH.kit 3 j (by decide) hj⟩
    refine ⟨_, (pss_cons (ps_set (i := 2) nd rfl (Or.inl rfl) (pe_callTy call_list_of (by rfl) D.m_list (by decide +kernel) (pa_cons (pe_fld (pv 0) rfl) pa_nil)))
  (pss_cons (ps_if (pt_val (pe_callB call_isi (by rfl) D.m_isinstance (by decide +kernel) (pa_cons (pv 1) (pa_cons (pe_glob (v := .ref (ct 4)) (by rfl) D.m_Take rfl) pa_nil)))) (pss_cons ps_dead (pss_one ps_dead))
    (pss_one (ps_if (pt_val (pe_callB call_isi (by rfl) D.m_isinstance (by decide +kernel) (pa_cons (pv 1) (pa_cons (pe_glob (v := .ref (ct 5)) (by rfl) D.m_Move rfl) pa_nil)))) (pss_cons ps_dead (pss_one ps_dead))
      (pss_one (ps_if (pt_val (pe_callB call_isi (by rfl) D.m_isinstance (by decide +kernel) (pa_cons (pv 1) (pa_cons (pe_glob (v := .ref (ct 3)) (by rfl) D.m_Put rfl) pa_nil))))
        (pss_one (ps_expr (pe_call G_enter hr_enter (by rfl) D.g_enter D.kp_enter b_enter .nil pass0 (pa_cons (pv 2) (pa_cons (pe_fld (pv 1) rfl) (pa_cons (pe_fld (pv 1) rfl) (pa_cons (pe_fld (pv 1) rfl) pa_nil)))))))
        (pss_cons ps_dead (pss_one ps_dead)))))))
  (pss_one (ps_ret (pe_make MT GTr hrT (by rfl) gT bTr .nil pass0 (pa_cons (pv 2) pa_nil)))))), ?_⟩
    refine ⟨_, rfl, t, CT, dx, _, _, rfl, ht, cl, h1, fl, N, _, rfl, .inr TR.ob.ls, fun l hll => ?_⟩
    have s1 := NG.Same.upd (o := .lst (qs.map V.ref)) hll
    have el : (upd H l (.lst (qs.map V.ref))) l = some (.lst (qs.map V.ref)) := upd_same
    generalize upd H l (.lst (qs.map V.ref)) = H1 at s1 el ⊢
    have hd1 := s1 _ _ hd
    obtain ⟨ty, k4⟩ := isi 4 (by decide) H1 hd1
    obtain ⟨_, k5⟩ := isi 5 (by decide) H1 hd1
    obtain ⟨_, k3⟩ := isi 3 (by decide) H1 hd1
    refine ⟨_, rfl, _, _, _, _, false, rfl, .own (ct 4), ty, k4, _, rfl, iteF ?_⟩
    refine ⟨_, rfl, _, _, _, _, false, rfl, .own (ct 5), ty, k5, _, rfl, iteF ?_⟩
    refine ⟨_, rfl, _, _, _, _, true, rfl, .own (ct 3), ty, k3, _, rfl, iteT ?_⟩
    have cl3 := TH.cl 3 (by decide)
    have na := TH.na 3 (by decide)
    obtain ⟨q, hq, hqr, hO⟩ := TR.at_ hn
    refine ⟨_, rfl, _, rfl, d, _, dxd, _, _, rfl, hd1, cl3, na _ (by simp [dns]), lk_get lk (show (dns 3)[0]? = some ("folder" : Str) from rfl), _, rfl, d, _, dxd, _, _, rfl, hd1, cl3, na _ (by simp [dns]), lk_get lk (show (dns 3)[1]? = some ("name" : Str) from rfl), _, rfl, d, _, dxd, _, _, rfl, hd1, cl3, na _ (by simp [dns]), lk_get lk (show (dns 3)[2]? = some ("node" : Str) from rfl),
      l, q, k, n, z, qs, o, es, rfl, el, hq, hO.same s1, hl, hT.ext s1, fun H2 q' b2 t2 e2 nq O2 => ?_⟩
    have nl : H l = none := hll
    have ex02 : ExtN H H2 := fun b u hb hnt => b2 _ _ (s1 _ _ hb) (fun e => by rw [e, nl] at hb; cases hb) hnt
    refine ⟨_, rfl, fun x dxx nx ndx nex => ?_⟩
    have s3 := new_ext (C := CT) nx ndx
    have ex : (upd (upd H2 dxx (.own x)) x (.ins CT dxx [])) x = some (.ins CT dxx []) := upd_same
    have nxo : ∀ b u, H2 b = some u → b ≠ x := fun b u e => ne_of_none e nx
    have t3 := t2.ext s3
    have e3 := s3 _ _ e2
    have O3 := O2.same s3
    have Ok : ∀ i p nd', qs[i]? = some p → nds[i]? = some nd' → ObjAt K cs (upd (upd H2 dxx (.own x)) x (.ins CT dxx [])) p nd' ∧ p ≠ x := fun i p nd' a b => by
      have O := TR.ob.nds i p nd' a b
      have O' := (O.ext (ExtX.of ex02)).same s3
      obtain ⟨_, _, hi, _⟩ := obj_ins O
      have hi2 := ExtX.of ex02 _ _ hi (fun _ z => by cases z) (fun _ z => by cases z)
      exact ⟨O', nxo _ _ hi2⟩
    have ex23 : ∀ H', But x (upd (upd H2 dxx (.own x)) x (.ins CT dxx [])) H' → Same H2 H' := fun H' b p u e => b _ _ (s3 _ _ e) (nxo _ _ e)
    have nxq : q' ≠ x := by
      obtain ⟨_, _, hi, _⟩ := obj_ins O2
      exact nxo _ _ hi
    generalize upd (upd H2 dxx (.own x)) x (.ins CT dxx []) = H3 at s3 ex t3 e3 O3 Ok ex23 ⊢
    have hkl : k < nds.length := (List.getElem?_eq_some_iff.mp hn).1
    refine ⟨x, dxx, l, qs.set k q', nds.set k (.fol o (srtE (es ++ [(z, n)]))), rfl, ex, SqL.of e3, by rw [List.length_set, List.length_set, TR.ob.len], fun i p nd' a b => ?_, hW, by rw [List.length_set]; exact hl2, fun H4 b4 T4 => ⟨rfl, ?_⟩⟩
    · by_cases hi : k = i
      · subst hi
        rw [List.getElem?_set_self (by rw [TR.ob.len]; exact hkl)] at a
        rw [List.getElem?_set_self hkl] at b
        cases Option.some.inj a
        cases Option.some.inj b
        exact ⟨O3, nxq⟩
      · rw [List.getElem?_set_ne hi] at a b
        exact Ok i p nd' a b
    · have s24 := ex23 H4 b4
      exact kk H4 x _ (ex02.trans (ExtN.same s24)) (t2.ext s24) T4
theorem scNDI : FnScope ["self", "why"] ["self", "why"] (defScope sNDI) := ⟨rfl, rfl, rfl, by decide +kernel, rfl, by decide +kernel, by decide +kernel⟩
theorem ok_ndi {fd : FuncData} (F : Fun K "__init__" "NoDeed.__init__" sNDI f fd) (T : TxtND K mg CND f) : FnOk P w K mg base CX0 1 f fd ["self", "why"] (spNDI CND) := by
  refine F.ok scNDI (fun vs H Q E h => ?_) (fun cdv A outer s H vs Q E hr h => ?_)
  · obtain ⟨a, v, rfl, _⟩ := h
    rfl
  · obtain ⟨a, v, rfl, ha, k⟩ := h
    refine ⟨_, pss_one (ps_ost (pv 0) (pv 1)), ?_⟩
    exact ⟨_, rfl, _, rfl, a, CND, rfl, T.ox, T.nO, .inl ⟨ha, fun dx h1 h2 => k dx h1 h2⟩⟩
theorem scDone : FnScope ["tree", "deed", "why"] ["tree", "deed"] (defScope sDone) := ⟨rfl, rfl, rfl, by decide +kernel, rfl, by decide +kernel, by decide +kernel⟩
theorem ok_done {fd fdW fdC fdI : FuncData} (F : Fun K "done" "done" sDone f fd) (D : TxtDd K mg ct fa) (TN : TxtND K mg CND fNDI)
    (G_why_not : FnOk P w K mg base CX0 4 (fa 9) fdW ["tree", "deed"] (spWhy K cs ct CT)) (b_why_not : Binds K fdW ["tree", "deed"] [])
    (G_changed : FnOk P w K mg base CX0 9 (fa 14) fdC ["tree", "deed"] (spPut K cs ct CT P0)) (b_changed : Binds K fdC ["tree", "deed"] [])
    (GI : FnOk P w K mg base CX0 1 fNDI fdI ["self", "why"] (spNDI CND)) (bI : Binds K fdI ["self", "why"] []) :
    FnOk P w K mg base (L2.CX P w) 10 f fd ["tree", "deed"] (spDone K cs ct CT P0 CND) := by
  have nd := scDone.nd
  refine F.okX scDone (fun vs H Q E h => ?_) (fun cdv A outer s H vs Q E hr h => ?_)
  · obtain ⟨t, d, qs, nds, i, xs, rfl, _⟩ := h
    rfl
  · obtain ⟨t, d, qs, nds, i, xs, rfl, DI, h4, k⟩ := h
    have hr_changed : Room 9 _ := hr
    have hr_why_not : Room 4 _ := hr.mono (by decide)
    have hr2 : Room 2 _ := hr.mono (by decide)
    refine ⟨_, (pss_cons (ps_set (i := 2) nd rfl (Or.inl rfl) (pe_call G_why_not hr_why_not (by rfl) D.g_why_not D.kp_why_not b_why_not .nil pass0 (pa_cons (pv 0) (pa_cons (pv 1) pa_nil))))
  (pss_cons (ps_if (pt_cmp (pc_notN (pv 2))) (pss_one (ps_raise rfl (takes_of rfl rfl rfl rfl) (pmk_oex TN.ox TN.iC TN.tI GI hr2 bI .nil pass0 (by rfl) TN.gN (pa_cons (pv 2) pa_nil)))) pss_nil)
  (pss_one (ps_ret (pe_call G_changed hr_changed (by rfl) D.g_changed D.kp_changed b_changed .nil pass0 (pa_cons (pv 0) (pa_cons (pv 1) pa_nil))))))), ?_⟩
    refine ⟨_, rfl, _, rfl, t, d, qs, nds, i, xs, rfl, DI, h4, fun H1 s1 => ?_⟩
    rcases k with ⟨w', ew, k⟩ | ⟨ew, kf, n, z, o, es, rfl, rfl, hn, hl, hl2, hW, hT, k⟩
    · rw [ew]
      refine ⟨_, rfl, _, rfl, ?_⟩
      rw [decide_eq_false (fun q : V.str w' = V.non => by cases q)]
      refine iteT ?_
      refine ⟨_, rfl, (by show 1 ≤ 1000; decide), fun a ha => ⟨a, _, rfl, upd_same, fun dd h1 h2 => ⟨rfl, dd, [("why", .str w')], upd_same, ?_, ?_, ?_⟩⟩⟩
      · rw [upd_ne h2, upd_same]
      · rw [upd_ne h2] at h1; exact h1
      · have h1' : H1 dd = none := by rw [upd_ne h2] at h1; exact h1
        refine k dd _ (fun b u e => ?_) upd_same
        have e' := s1 _ _ e
        have nb : b ≠ dd := ne_of_none e' h1'
        have na : b ≠ a := ne_of_none e' ha
        rw [upd_ne nb, del_ne na, upd_ne na, upd_ne nb, upd_ne na]
        exact e'
    · rw [ew]
      refine ⟨_, rfl, _, rfl, ?_⟩
      rw [decide_eq_true (rfl : V.non = V.non)]
      refine iteF ⟨_, rfl, _, rfl, t, d, qs, nds, kf, n, z, o, es, rfl, DI.1.same s1, DI.2.2.2.1.same s1, hn, hl, hl2, hW, hT.ext s1, fun H2 t' qs' e2 t2 T2 => k H2 t' qs' ((ExtN.same s1).trans e2) t2 T2⟩
end
end NW

set_option maxRecDepth 100000
set_option maxHeartbeats 4000000
/-! a try whose first clause takes whatever the body lets out; further clauses are not met -/
namespace NG
open PySem PySem.Spec PyProof.Rows L2
def wFirst (K : PySem.W.Frag) (c : Value) (i : Nat) (ts : Addr → Value → Option Addr → TS) (D : Ends) : WX := fun cls d σ H =>
  PySem.W.exmOne K cls c = some true ∧ ∀ a, H a = none → ts a cls d ⟨fun σ1 H1 => D.nx (σ1.set i none) H1, D.rt, fun σ1 H1 => D.bk (σ1.set i none) H1, fun σ1 H1 => D.ct (σ1.set i none) H1⟩ (σ.set i (some (.ref a))) H
section
variable {X : Cx} {x n : Str} {c : Value} {i : Nat} {body suite : List Stmt} {b₀ : Stmt} {np pos pos1 : Pos} {tb : WX → TS} {ts : Addr → Value → Option Addr → TS} {more : List ExceptHandler}
theorem ps_try_first (stk : X.stack = X.env :: X.outer) (frm : X.env.frame = some X.env.locals) (hN : X.N.Nodup) (hi : X.N[i]? = some n) (hln : X.env.kindOf n = some .local) (hc : Names X x c)
    (hb : ∀ (W : WX) (pn : List (Addr × Obj)) (xe : Value → Shared → Prop), Takes (X.tr pn xe) W → PassesOwn (model X.prog X.w) X.A X.env xe → PSs (X.tr pn xe) body (tb W))
    (hsu : ∀ (a : Addr) (oe : Obj) (cls : Value) (d : Option Addr) (pn : List (Addr × Obj)), Zc cls d oe → (∃ vs, oe.data = .fields vs) → PSs (X.suite a ((a, oe) :: pn)) (b₀ :: suite) (ts a cls d)) :
    PS X (.Try body (.ExceptHandler (some (.Name x np)) (some n) (b₀ :: suite) pos1 :: more) [] [] pos) (fun D σ H => tb (wFirst X.K c i ts D) D σ H) := by
  constructor
  intro pins s σ H D I h
  have ok0 := I.ok
  have afr : X.A.frames = some (X.env :: X.outer) := ok0.frames.trans (congrArg some stk)
  have lcl : Loc X.env.scope n := Or.inl hln
  refine wpAny_Try_except (wpAny_mono ((hb (wFirst X.K c i ts D) (X.pn ++ pins)
    (fun u s1 => wpAny (model X.prog X.w) X.A (noteFrame u X.env) (fun _ s2 => wpAny (model X.prog X.w) X.A (setFlight u none)
      (fun _ s3 => wpAny (model X.prog X.w) X.A (handleBy u X.env (.ExceptHandler (some (.Name x np)) (some n) (b₀ :: suite) pos1 :: more)) (SP X pins D) X.xe s3) X.xe s2) X.xe s1)
    (fun u s1 out => ?_) PassesOwn.looking).run [] s σ H D (I.toTry _) h) (fun fl s1 q => ?_) (fun _ _ q => q))
  case refine_1 =>
    obtain ⟨a, Bs, sJ, pinsJ, σ1, H1, cls, d, rfl, JT, fresh, up1, sky, na, eos, hag, isT, go⟩ := out
    have J : Inv X pins σ1 H1 sJ := JT.ofTry ok0
    rw [stk] at sky
    refine Sky.land Zc.steady afr frm sky fun h3 fly3 up3 => ?_
    have J3 : Inv X pins σ1 H1 { s1 with heap := h3 } := J.landed fresh fly3.1 (up1.trans up3) eos hag
    obtain ⟨oe, vs, at3, z3, dat3⟩ := fly3.there
    have out3 : a ∉ frs (X.env :: X.outer) := fun hm => by
      obtain ⟨_, o2, e2, hnf⟩ := Heap.FunFrames.mem fly3.2.2.1 hm
      cases at3.symm.trans e2
      exact hnf _ dat3
    have nL : a ≠ X.env.locals := fun q => out3 (List.mem_filterMap.mpr ⟨X.env, List.mem_cons_self, q ▸ frm⟩)
    have nF : a ∉ X.fs := fun hm => by
      obtain ⟨v, hv, q⟩ := List.mem_filterMap.mp hm
      exact out3 (List.mem_filterMap.mpr ⟨v, List.mem_cons_of_mem _ hv, q⟩)
    have S3 := J3.suite at3 dat3 na nL nF
    refine wpAny_handleBy_cons (codeAny_handlers_test ?_) (fun q => by cases q)
    have seen : PySem.W.Looks (model X.prog X.w) h3 (typeOf (.ref a)) cls := fun _ _ _ _ k q => wpAny_typeOf_ref (k _ _ at3) (z3.1.symm ▸ q)
    have mat := PySem.W.exm_one (M := model X.prog X.w) J3.kIn seen isT
    have named : ∀ {Q : Value → Shared → Prop} {E : Value → Shared → Prop}, Q c { s1 with heap := h3 } → wpAny (model X.prog X.w) (X.A.mark (some (.ref a))) (eval (.Name x np) X.env) Q E { s1 with heap := h3 } := fun {Q E} q => by
      rcases hc with ⟨hg, hdbg, hm | ⟨hm, hv, hnn⟩⟩
      · exact ld_glob (X := X.suite a ((a, oe) :: (X.pn ++ pins))) S3 hg hm q hdbg
      · exact ld_blt (X := X.suite a ((a, oe) :: (X.pn ++ pins))) S3 hg hm hv q hnn hdbg
    refine named (mat.here (codeAny_handlers_suite_as (HandSPX.lands_againZ fly3 fun h4 fly4 up4 => ?_)))
    have J4 : Inv X pins σ1 H1 { s1 with heap := h4 } := J.landed fresh fly4.1 ((up1.trans up3).trans up4) eos hag
    obtain ⟨oe4, vs4, at4, z4, dat4⟩ := fly4.there
    refine store_ok (X := X.suite a ((a, oe4) :: (X.pn ++ pins))) (v := .ref a) (J4.suite at4 dat4 na nL nF) hN hi lcl rfl (fun s5 S5 => ?_) (.inr hln)
    refine wpAny_mono ((hsu a oe4 cls d (X.pn ++ pins) z4 ⟨_, dat4⟩).run [] s5 _ H1 _ S5 (go a na)) (fun fl s6 q6 => ?_) (fun _ _ q => q.elim)
    have fin : ∀ {σ6 : L2.St} {H6 : Hp} {R : Shared → Prop}, Inv (X.suite a ((a, oe4) :: (X.pn ++ pins))) [] σ6 H6 s6 → (∀ s7, Inv X pins (σ6.set i none) H6 s7 → R s7) →
        wpAny (model X.prog X.w) X.A (do bindName X.env n .none; unbindBehindTheSuite X.env n pos1) (fun _ s7 => R s7) X.xe s6 := fun S6 hq => gone_ok (S6.unsuite ok0) hN hi hln hq
    cases fl with
    | ret u =>
      obtain ⟨v6, σ6, H6, S6, r6, p6⟩ := q6
      exact fin S6 fun _ J7 => ⟨_, _, _, J7, r6, p6⟩
    | next => obtain ⟨σ6, H6, S6, p6⟩ := q6; exact fin S6 fun _ J7 => ⟨_, _, J7, p6⟩
    | brk => obtain ⟨σ6, H6, S6, p6⟩ := q6; exact fin S6 fun _ J7 => ⟨_, _, J7, p6⟩
    | cont => obtain ⟨σ6, H6, S6, p6⟩ := q6; exact fin S6 fun _ J7 => ⟨_, _, J7, p6⟩
  case refine_2 =>
    cases fl with
    | next => obtain ⟨σ1, H1, JT, p⟩ := q; exact wpAny_execs_nil ⟨σ1, H1, JT.ofTry ok0, p⟩
    | ret u => obtain ⟨v, σ1, H1, JT, r, p⟩ := q; exact ⟨v, σ1, H1, JT.ofTry ok0, r, p⟩
    | brk => obtain ⟨σ1, H1, JT, p⟩ := q; exact ⟨σ1, H1, JT.ofTry ok0, p⟩
    | cont => obtain ⟨σ1, H1, JT, p⟩ := q; exact ⟨σ1, H1, JT.ofTry ok0, p⟩
end
end NG

set_option maxRecDepth 100000
set_option maxHeartbeats 400000
/-! a local name that holds a def which may raise is called in a try body; == of data where the written part is named -/
namespace NG
open PySem PySem.Spec PyProof.Rows L2
def tCallLS (i : Nat) (f : Addr) (sp : Sp) (E : L2.St → XK) (t : TA) : TE := fun σ H Q => σ[i]? = some (some (.ref f)) ∧ t σ H fun vs H1 => sp vs H1 Q (E σ)
section
variable {X : Cx} {CX : CXT} {k i : Nat} {f : Addr} {fd : FuncData} {ps : List Str} {sp : Sp} {E : L2.St → XK} {x : Str} {p pos : Pos} {e : Expr} {es : List Expr} {t : TA}
theorem pe_callLS (F : FnOk X.prog X.w X.K X.mg X.base CX k f fd ps sp) (hr : Room k X.A) (hN : X.N[i]? = some x) (hv : Vis X.env.scope x) (hk : PySem.W.keepIn X.K (.ref f) = true) (hb : Binds X.K fd ps []) (hx : ∀ σ, PassesAt CX X σ (E σ)) (ha : PA X (e :: es) t)
    (hdb : (x == ("__debug__" : Str)) = false := by decide) (hcd : (x == ("__classdict__" : Str)) = false := by decide)
    (he : starEach (e :: es) X.env = (false, eval e X.env) :: starEach es X.env := by rfl) (hpl : (backTo pos (starEach es X.env)).any (·.1) = false := by rfl) : PE X (.Call (.Name x p) (e :: es) [] pos) (tCallLS i f sp E t) := by
  refine ⟨fun pins s σ H Q I h => ?_⟩
  obtain ⟨h1, h2⟩ := h
  have here := (pe_var (pos := p) hN hv hdb hcd).run pins s σ H (fun v Hv => v = .ref f ∧ Hv = H) I ⟨.ref f, h1, rfl, rfl⟩
  refine wpAny_Call_Name_kw (thn here fun u s1 ⟨v, Hv, I1, r1, ev, eH⟩ => ?_)
  subst ev eH
  cases r1
  refine PySem.W.callWith_K (h₀ := X.base) I.ok.mod.kin hk (thn (ha.run pos pins s1 σ _ _ I1 h2) fun us s2 ⟨vs, H2, I2, r, q⟩ => ⟨I2.kIn, ?_⟩) he hpl
  exact run_fnS F hr hb (hx σ) I2 r q
theorem op_eqDK {K : PySem.W.Frag} (hK : X.K = K) (hu : X.A.units + 64 < cLine) : OpR X (compareOp .Eq) (rEqD K) := by subst hK; exact op_eqD hu
theorem call_isiK {K : PySem.W.Frag} (hK : X.K = K) : CallR X (.builtin "isinstance") (rIsi K) := by subst hK; exact call_isi
end
end NG

set_option maxRecDepth 100000
set_option maxHeartbeats 1000000
/-! the small tree on which deeds are tried -/
namespace NW
open PySem L2 NG TR LamX
theorem srt_a : srtE [(("f" : Str), 1), (("d" : Str), 2)] = [(("d" : Str), 2), (("f" : Str), 1)] := by
  have h1 : leE (("f" : Str), (1 : Nat)) (("d" : Str), 2) = false := by decide +kernel
  unfold srtE
  simp [List.mergeSort, List.MergeSort.Internal.splitInTwo, List.merge, h1]
theorem srt_0 : srtE ([] : List (Str × Nat)) = [] := by
  unfold srtE
  rw [List.mergeSort]
theorem srt_b : srtE [(("d" : Str), 2), (("f" : Str), 1), (("a" : Str), 1)] = [(("a" : Str), 1), (("d" : Str), 2), (("f" : Str), 1)] := by
  have h1 : leE (("d" : Str), (2 : Nat)) (("f" : Str), 1) = true := by decide +kernel
  have h2 : leE (("d" : Str), (2 : Nat)) (("a" : Str), 1) = false := by decide +kernel
  have h3 : leE (("f" : Str), (1 : Nat)) (("a" : Str), 1) = false := by decide +kernel
  unfold srtE
  simp [List.mergeSort, List.MergeSort.Internal.splitInTwo, List.merge, h1, h2, h3]
def nodupB : List Str → Bool
  | [] => true
  | x :: r => !r.contains x && nodupB r
theorem nodupB_ok : ∀ {l : List Str}, nodupB l = true → l.Nodup
  | [], _ => List.nodup_nil
  | x :: r, h => by
    rw [show nodupB (x :: r) = (!r.contains x && nodupB r) from rfl, Bool.and_eq_true] at h
    refine List.nodup_cons.mpr ⟨fun q => ?_, nodupB_ok h.2⟩
    have : r.contains x = true := List.contains_iff_mem.mpr q
    rw [this] at h
    exact absurd h.1 (by simp)
def entOkB (nds : List Nd) (i : Nat) (e : Str × Nat) : Bool := nameZ e.1 && decide (e.1.length ≤ 12) && decide (i < e.2) && (match nds[e.2]? with | some nd => !nd.isGone | none => false)
def nodeOkB (nds : List Nd) (i : Nat) : Bool := match nds[i]? with
  | none => true
  | some nd => decide (0 ≤ nd.owner) && nd.ents.all (entOkB nds i) && nodupB (nd.ents.map (·.1)) && decide (nd.ents.length ≤ 12) && (match nd with | .lnk _ _ => false | .gon _ ab => decide (ab < i) && folB nds ab | _ => true) && (decide (i = 0) || !nd.isFol || decide (cnt nds i = 1))
theorem wf_of {nds : List Nd} (h0 : folB nds 0 = true) (h : (List.range nds.length).all (nodeOkB nds) = true) : WF LinkText PL nds := by
  have g : ∀ (i : Nat) (nd : Nd), nds[i]? = some nd → (((((decide (0 ≤ nd.owner) = true ∧ nd.ents.all (entOkB nds i) = true) ∧ nodupB (nd.ents.map (·.1)) = true) ∧ decide (nd.ents.length ≤ 12) = true) ∧ (match nd with | .lnk _ _ => false | .gon _ ab => decide (ab < i) && folB nds ab | _ => true) = true) ∧ (decide (i = 0) || !nd.isFol || decide (cnt nds i = 1)) = true) := fun i nd e => by
    have hi := (List.getElem?_eq_some_iff.mp e).1
    have := List.all_eq_true.mp h i (List.mem_range.mpr hi)
    unfold nodeOkB at this
    rw [e] at this
    simpa only [Bool.and_eq_true] using this
  refine ⟨⟨folB_iff.mp h0, fun i nd e => of_decide_eq_true (g i nd e).1.1.1.1.1, fun i nd e en hen => ?_, fun i nd e => ⟨nodupB_ok (g i nd e).1.1.1.2, of_decide_eq_true (g i nd e).1.1.2⟩, fun i o t e => ?_, fun i o ab e => ?_⟩, fun k nd hk e f => ?_⟩
  · have := List.all_eq_true.mp (g i nd e).1.1.1.1.2 en hen
    unfold entOkB at this
    simp only [Bool.and_eq_true] at this
    obtain ⟨⟨⟨a, b⟩, c⟩, d⟩ := this
    refine ⟨⟨a, of_decide_eq_true b⟩, of_decide_eq_true c, ?_⟩
    cases q : nds[en.2]? with
    | none => rw [q] at d; cases d
    | some nd' => rw [q] at d; exact ⟨nd', rfl, by simpa using d⟩
  · exact absurd (g i _ e).1.2 (by simp)
  · have := (g i _ e).1.2
    rw [Bool.and_eq_true] at this
    exact ⟨of_decide_eq_true this.1, folB_iff.mp this.2⟩
  · have := (g k nd e).2
    rw [decide_eq_false (by omega : ¬ k = 0), f] at this
    simpa using this
def nds0 : List Nd := [.fol 0 [("d", 2), ("f", 1)], .fil 0, .fol 0 []]
def nds1 : List Nd := [.fol 0 [("a", 1), ("d", 2), ("f", 1)], .fil 0, .fol 0 []]
theorem wf0 : WF LinkText PL nds0 := wf_of (by decide +kernel) (by decide +kernel)
theorem wf1 : WF LinkText PL nds1 := wf_of (by decide +kernel) (by decide +kernel)
def DeedO (K : PySem.W.Frag) (ct : Nat → Addr) (H : Hp) (d : Addr) (i : Nat) (xs : List V) : Prop :=
  i < 6 ∧ xs.length = (dns i).length ∧ HasF H (ct i) d (dns i) xs ∧ (∀ v ∈ fosV i xs, IntOdd K H v) ∧ (∀ v ∈ nosV i xs, StrOdd K H v) ∧ (i < 4 → IntOdd K H (xs.getD 2 .non)) ∧ (i = 2 → StrOdd K H (xs.getD 3 .non))
theorem DeedO.ext {K : PySem.W.Frag} {ct : Nat → Addr} {H H' : Hp} {d : Addr} {i : Nat} {xs : List V} (h : DeedO K ct H d i xs) (s : ExtN H H') : DeedO K ct H' d i xs :=
  let ⟨b, l, c, e, f, g, j⟩ := h; ⟨b, l, c.ext s, fun v hv => (e v hv).ext s, fun v hv => (f v hv).ext s, fun q => (g q).ext s, fun q => (j q).ext s⟩
/-- the word of the NoDeed, or none for what is put -/
def spLWhy (K : PySem.W.Frag) (ct : Nat → Addr) (P0 : Addr) : Sp := fun vs H Q _ => ∃ (d : Addr) (i : Nat) (xs : List V), vs = [.ref d] ∧ DeedO K ct H d i xs ∧ Tabs [(P0, qBy)] H ∧
  (((∃ w : Str, whyV nds0 i xs = .str w) ∧ (4 ≤ i → ((fosV i xs).all (folV nds0) && (nosV i xs).all nameV) = false)) ∨ (whyV nds0 i xs = .non ∧ i = 3 ∧ xs = [.int 0, .str "a", .int 1])) ∧
  ∀ H', ExtN H H' → Tabs [(P0, qBy)] H' → Q (whyV nds0 i xs) H'
theorem butN_ext {H H' H2 : Hp} {x : Addr} (n : H x = none) (s : Same H H') (b : ButN x H' H2) : ExtN H H2 := fun a u e q => b a u (s a u e) (ne_of_none e n) q
theorem but_ext {H H' H2 : Hp} {x : Addr} (n : H x = none) (s : Same H H') (b : But x H' H2) : Same H H2 := fun a u e => b a u (s a u e) (ne_of_none e n)
theorem ents_in0 {K : PySem.W.Frag} {H : Hp} {p1 p2 : Addr} (h1 : SqT K H p1 [.str "f", .int 1]) (h2 : SqT K H p2 [.str "d", .int 2]) : EntsIn K H [.ref p1, .ref p2] ([(("f" : Str), 1), (("d" : Str), 2)].map numE) :=
  ⟨rfl, fun i x e a b => by
    match i, a, b with
    | 0, a, b => cases a; cases b; exact ⟨p1, rfl, .inl h1⟩
    | 1, a, b => cases a; cases b; exact ⟨p2, rfl, .inl h2⟩
    | n + 2, a, b => cases a⟩
section
variable {P : Program} {w : World} {K : PySem.W.Frag} {mg : Str → Option Value} {base : Heap} {f CT CND fTI fI0 fI1 P0 : Addr} {cs ct fa : Nat → Addr}
abbrev sLWhy : Stmt := top 67
theorem scLWhy : FnScope ["_law_deed", "_law_found", "e"] ["_law_deed"] (defScope sLWhy) := ⟨rfl, rfl, rfl, by decide +kernel, rfl, by decide +kernel, by decide +kernel⟩
theorem ok_lwhy {fNDI : Addr} {fd fd0 fd1 fdT fdD : FuncData} (F : Fun K "_law_why" "_law_why" sLWhy f fd) (D : TxtDd K mg ct fa) (TG : TxtG K mg cs) (TN : TxtND K mg CND fNDI) (M0 : Mk K (cs 0) fI0) (M1 : Mk K (cs 1) fI1) (gT : mg "Tree" = some (.ref CT)) (MT : Mk K CT fTI)
    (GF0 : FnOk P w K mg base CX0 3 fI0 fd0 ["self", "owner", "entries"] (spFol K (cs 0) P0)) (bF0 : Binds K fd0 ["self", "owner", "entries"] [])
    (GF1 : FnOk P w K mg base CX0 1 fI1 fd1 ["self", "owner"] (spFile K (cs 1))) (bF1 : Binds K fd1 ["self", "owner"] [])
    (GTr : FnOk P w K mg base CX0 7 fTI fdT ["self", "nodes"] (spTreeI K cs CT)) (bTr : Binds K fdT ["self", "nodes"] [])
    (GD : FnOk P w K mg base (L2.CX P w) 10 (fa 16) fdD ["tree", "deed"] (spDone K cs ct CT P0 CND)) (bD : Binds K fdD ["tree", "deed"] []) :
    FnOk P w K mg base CX0 11 f fd ["_law_deed"] (spLWhy K ct P0) := by
  have nd := scLWhy.nd
  refine F.ok scLWhy (fun vs H Q E h => ?_) (fun cdv A outer s H vs Q E hr h => ?_)
  · obtain ⟨d, i, xs, rfl, _⟩ := h
    rfl
  · obtain ⟨d, i, xs, rfl, DO, hT, hw, k⟩ := h
    have hrD : Room 10 _ := hr
    have hrT : Room 8 _ := hr.mono (by decide)
    have hr4 : Room 4 _ := hr.mono (by decide)
    have hr2 : Room 2 _ := hr.mono (by decide)
    have hs : sizeLine = 16777216 := sizeLine_eq
    refine ⟨_, pss_cons (ps_set (i := 1) nd rfl (Or.inl rfl) pe_non) (pss_cons (ps_try_first rfl rfl nd (i := 2) rfl rfl ⟨rfl, by decide, .inl TN.gN⟩
        (fun W pn xe tk _ => pss_one (ps_expr (pe_callS GD hrD rfl D.g_done D.kp_done bD (fun σ => passAt tk σ) (pa_cons
          (pe_make MT GTr hrT rfl gT bTr .nil pass0 (pa_cons (pe_lst (pa_cons
            (pe_make M0 GF0 hr4 rfl TG.m_Folder bF0 .nil pass0 (pa_cons pe_int (pa_cons (pe_lst (pa_cons (pe_tup (pa_cons pe_str (pa_cons pe_int pa_nil))) (pa_cons (pe_tup (pa_cons pe_str (pa_cons pe_int pa_nil))) pa_nil))) pa_nil))) (pa_cons
            (pe_make M1 GF1 hr2 rfl TG.m_File bF1 .nil pass0 (pa_cons pe_int pa_nil)) (pa_cons
            (pe_make M0 GF0 hr4 rfl TG.m_Folder bF0 .nil pass0 (pa_cons pe_int (pa_cons (pe_lst pa_nil) pa_nil))) pa_nil)))) pa_nil))
          (pa_cons (pv 0) pa_nil)))))
        (fun a oe cls d pn hz hf => pss_one (ps_set (i := 1) nd rfl (Or.inl rfl) (pe_xf TN.xf TN.nO hz hf (pv 2))))) (pss_one (ps_ret (pv 1)))), ?_⟩
    refine ⟨(by show 2 ≤ sizeLine; decide), fun p1 hp1 => ⟨(by show 2 ≤ sizeLine; decide), fun p2 hp2 => ⟨(by show 2 ≤ sizeLine; decide), fun l hl => ?_⟩⟩⟩
    have s1 := NG.Same.upd (o := HO.tup [V.str "f", V.int 1]) hp1
    have e1 : (upd H p1 (HO.tup [V.str "f", V.int 1])) p1 = some (.tup [V.str "f", V.int 1]) := upd_same
    generalize upd H p1 (HO.tup [V.str "f", V.int 1]) = H1 at s1 e1 hp2 hl ⊢
    have s2 := NG.Same.upd (o := HO.tup [V.str "d", V.int 2]) hp2
    have e2 : (upd H1 p2 (HO.tup [V.str "d", V.int 2])) p2 = some (.tup [V.str "d", V.int 2]) := upd_same
    generalize upd H1 p2 (HO.tup [V.str "d", V.int 2]) = H2 at s2 e2 hl ⊢
    have s3 := NG.Same.upd (o := HO.lst [V.ref p1, V.ref p2]) hl
    have e3 : (upd H2 l (HO.lst [V.ref p1, V.ref p2])) l = some (.lst [V.ref p1, V.ref p2]) := upd_same
    generalize upd H2 l (HO.lst [V.ref p1, V.ref p2]) = H3 at s3 e3 ⊢
    have s03 := s1.trans (s2.trans s3)
    refine fun x1 dx1 nx1 ndx1 nex1 => ?_
    have s4 := new_ext (C := cs 0) nx1 ndx1
    have ex1 : (upd (upd H3 dx1 (.own x1)) x1 (.ins (cs 0) dx1 [])) x1 = some (.ins (cs 0) dx1 []) := upd_same
    have nx1' : H3 x1 = none := nx1
    generalize upd (upd H3 dx1 (.own x1)) x1 (.ins (cs 0) dx1 []) = H4 at s4 ex1 ⊢
    refine ⟨x1, dx1, _, l, _, [(("f" : Str), 1), (("d" : Str), 2)].map numE, rfl, ex1, hT.ext (s03.trans s4), SqL.of (s4 _ _ e3), ents_in0 (SqT.of (s4 _ _ (s3 _ _ (s2 _ _ e1)))) (SqT.of (s4 _ _ (s3 _ _ e2))), by show 2 < sizeLine; omega, fun H5 E5 q5 b5 t5 x5 pl5 l5 hq5 => ⟨rfl, ?_⟩⟩
    have O1 : ObjAt K cs H5 x1 (.fol 0 [("d", 2), ("f", 1)]) := by rw [← srt_a]; exact fol_obj x5 pl5 l5 hq5
    have n05 : ExtN H H5 := (ExtN.same s03).trans (butN_ext nx1' s4 b5)
    refine fun x2 dx2 nx2 ndx2 nex2 => ?_
    have s6 := new_ext (C := cs 1) nx2 ndx2
    have ex2 : (upd (upd H5 dx2 (.own x2)) x2 (.ins (cs 1) dx2 [])) x2 = some (.ins (cs 1) dx2 []) := upd_same
    generalize upd (upd H5 dx2 (.own x2)) x2 (.ins (cs 1) dx2 []) = H6 at s6 ex2 ⊢
    refine ⟨x2, dx2, _, rfl, ex2, ⟨rfl, ?_⟩⟩
    have b7 : But x2 H6 (upd H6 x2 (.ins (cs 1) dx2 (fl1 "owner" (.int 0)))) := (But.refl _ _).upd
    have O2 : ObjAt K cs (upd H6 x2 (.ins (cs 1) dx2 (fl1 "owner" (.int 0)))) x2 (.fil 0) := ⟨dx2, upd_same⟩
    have s57 := but_ext nx2 s6 b7
    generalize upd H6 x2 (.ins (cs 1) dx2 (fl1 "owner" (.int 0))) = H7 at b7 O2 s57 ⊢
    refine ⟨(by show 0 ≤ sizeLine; omega), fun l2 hl2 => ?_⟩
    have s8 := NG.Same.upd (o := HO.lst []) hl2
    have e8 : (upd H7 l2 (HO.lst [])) l2 = some (.lst []) := upd_same
    generalize upd H7 l2 (HO.lst []) = H8 at s8 e8 ⊢
    refine fun x3 dx3 nx3 ndx3 nex3 => ?_
    have s9 := new_ext (C := cs 0) nx3 ndx3
    have ex3 : (upd (upd H8 dx3 (.own x3)) x3 (.ins (cs 0) dx3 [])) x3 = some (.ins (cs 0) dx3 []) := upd_same
    have nx3' : H8 x3 = none := nx3
    generalize upd (upd H8 dx3 (.own x3)) x3 (.ins (cs 0) dx3 []) = H9 at s9 ex3 ⊢
    have s59 := s57.trans (s8.trans s9)
    refine ⟨x3, dx3, _, l2, _, ([] : List (Str × Nat)).map numE, rfl, ex3, t5.ext s59, SqL.of (s9 _ _ e8), ⟨rfl, fun i x e a b => by cases a⟩, by show 0 < sizeLine; omega, fun HA EA qA bA tA xA plA lA hqA => ⟨rfl, ?_⟩⟩
    have O3 : ObjAt K cs HA x3 (.fol 0 []) := by rw [← srt_0]; exact fol_obj xA plA lA hqA
    have n5A : ExtN H5 HA := (ExtN.same (s57.trans s8)).trans (butN_ext nx3' s9 bA)
    have n7A : ExtN H7 HA := (ExtN.same s8).trans (butN_ext nx3' s9 bA)
    have O1A := O1.ext (ExtX.of n5A)
    have O2A := O2.ext (ExtX.of n7A)
    refine ⟨(by show 3 ≤ sizeLine; omega), fun L hL => ?_⟩
    have sB := NG.Same.upd (o := HO.lst [V.ref x1, V.ref x2, V.ref x3]) hL
    have eB : (upd HA L (HO.lst [V.ref x1, V.ref x2, V.ref x3])) L = some (.lst [V.ref x1, V.ref x2, V.ref x3]) := upd_same
    generalize upd HA L (HO.lst [V.ref x1, V.ref x2, V.ref x3]) = HB at sB eB ⊢
    refine fun tr dtr ntr ndtr netr => ?_
    have sC := new_ext (C := CT) ntr ndtr
    have exC : (upd (upd HB dtr (.own tr)) tr (.ins CT dtr [])) tr = some (.ins CT dtr []) := upd_same
    have ntr' : HB tr = none := ntr
    generalize upd (upd HB dtr (.own tr)) tr (.ins CT dtr []) = HC at sC exC ⊢
    have sBC := sB.trans sC
    have apart : ∀ (p : Addr) (nd' : Nd), ObjAt K cs HA p nd' → ObjAt K cs HC p nd' ∧ p ≠ tr := fun p nd' O => by
      obtain ⟨_, _, hi, _⟩ := obj_ins O
      exact ⟨O.same sBC, ne_of_none (sB _ _ hi) ntr'⟩
    refine ⟨tr, dtr, L, [x1, x2, x3], nds0, rfl, exC, SqL.of (sC _ _ eB), rfl, fun i p nd' a b => ?_, wf0, by decide, fun HD bD TD => ⟨rfl, ?_⟩⟩
    · match i, a, b with
      | 0, a, b => cases a; cases b; exact apart _ _ O1A
      | 1, a, b => cases a; cases b; exact apart _ _ O2A
      | 2, a, b => cases a; cases b; exact apart _ _ O3
      | n + 3, a, b => cases a
    have sAD : Same HA HD := sB.trans (but_ext ntr' sC bD)
    have n0D : ExtN H HD := n05.trans (n5A.trans (ExtN.same sAD))
    have tD : Tabs [(P0, qBy)] HD := tA.ext sAD
    refine ⟨_, rfl, tr, d, _, nds0, i, xs, rfl, ⟨TD, DO.ext n0D⟩, ?_, ?_⟩
    · rcases hw with ⟨_, h4⟩ | ⟨_, rfl, _⟩
      · exact h4
      · intro h; omega
    · have k2 : ∀ H', ExtN HD H' → Tabs [(P0, qBy)] H' → Q (whyV nds0 i xs) H' := fun H' e t => k H' (n0D.trans e) t
      rcases hw with ⟨⟨w', ew⟩, h4⟩ | ⟨ew, rfl, rfl⟩
      · refine .inl ⟨w', ew, fun dd H' s ed => ⟨TN.te, fun a _ => ?_⟩⟩
        have lkn : List.lookup ("why" : Str) [(("why" : Str), V.str w')] = some (V.str w') := by simp [List.lookup]
        rw [ew] at k2
        exact ⟨_, rfl, rfl, rfl, dd, _, _, rfl, ed, lkn, _, rfl, k2 H' (ExtN.same s) (tD.ext s)⟩
      · refine .inr ⟨ew, 0, 1, "a", 0, [("d", 2), ("f", 1)], rfl, rfl, rfl, by decide, by decide, ?_, tD, fun H' t' qs' e t T' => ?_⟩
        · show WF LinkText PL [.fol 0 (srtE [("d", 2), ("f", 1), ("a", 1)]), .fil 0, .fol 0 []]
          rw [srt_b]
          exact wf1
        · have := k2 H' e t
          rw [ew] at this
          exact ⟨_, rfl, this⟩
end
end NW

set_option maxRecDepth 100000
set_option maxHeartbeats 1000000
/-! looks; the things that are compared -/
namespace NW
open PySem L2 NG TR LamX
abbrev sLkI : Stmt := inClass (top 59) 0
def OwnO (K : PySem.W.Frag) (H : Hp) (ow : V) : Option (List Int) → Prop
  | none => ow = .non
  | some ns => ∃ L : Addr, ow = .ref L ∧ (H L = some (.lst (ns.map V.int)) ∨ H L = some (.tup (ns.map V.int))) ∧ (∀ n ∈ ns, 0 ≤ n) ∧ ns.length ≤ 100
def LookAt (K : PySem.W.Frag) (CL : Addr) (H : Hp) (lk : Addr) (fo la : Bool) (ow : Option (List Int)) : Prop := ∃ dx F, H lk = some (.ins CL dx F) ∧ F.lookup ("follow" : Str) = some (.bl fo) ∧ F.lookup ("last" : Str) = some (.bl la) ∧
  match ow with
  | none => F.lookup ("owners" : Str) = some .non
  | some ns => ∃ T, F.lookup ("owners" : Str) = some (.ref T) ∧ SqT K H T (ns.map V.int)
def spLkG (K : PySem.W.Frag) (CL : Addr) : Sp := fun vs H Q _ => ∃ (p dx : Addr) (fo la : Bool) (ow : V) (oo : Option (List Int)) (H0 : Hp), vs = [.ref p, .bl fo, .bl la, ow] ∧ H p = some (.ins CL dx []) ∧ H0 p = none ∧ Same H0 H ∧ OwnO K H0 ow oo ∧ ∀ H', Same H0 H' → LookAt K CL H' p fo la oo → Q .non H'
structure TxtLk (K : PySem.W.Frag) (mg : Str → Option Value) (CL : Addr) : Prop where
  clL : Cls K CL
  n1 : NoAttr K CL "follow"
  n2 : NoAttr K CL "last"
  n3 : NoAttr K CL "owners"
  gL : mg "Look" = some (.ref CL)
section
variable {P : Program} {w : World} {K : PySem.W.Frag} {mg : Str → Option Value} {base : Heap} {fNum fAt fDigit fPool fBy fMay fWE fStood fBad fOwner fWN CL f : Addr}
theorem scLkI : FnScope ["self", "follow", "last", "owners", "owner"] ["self", "follow", "last", "owners"] (defScope sLkI) := ⟨rfl, rfl, rfl, by decide +kernel, rfl, by decide +kernel, by decide +kernel⟩
theorem ok_lkG {fd fdO : FuncData} (F : Fun K "__init__" "Look.__init__" sLkI f fd) (TS : TxtS K mg fBy) (TW : TxtW K mg fMay fWE fStood fBad fOwner fWN) (TL : TxtLk K mg CL) (GO : FnOk P w K mg base CX0 2 fOwner fdO ["value"] spOwner) (bO : Binds K fdO ["value"] []) :
    FnOk P w K mg base CX0 3 f fd ["self", "follow", "last", "owners"] (spLkG K CL) := by
  have nd := scLkI.nd
  refine F.ok scLkI (fun vs H Q E h => ?_) (fun cdv A outer s H vs Q E hr h => ?_)
  · obtain ⟨p, dx, fo, la, ow, oo, H0, rfl, _⟩ := h
    rfl
  · obtain ⟨p, dx, fo, la, ow, oo, H0, rfl, hp, fp, s0, hO, k⟩ := h
    have hr2 : Room 2 _ := hr
    have hs : sizeLine = 16777216 := sizeLine_eq
    have up : ∀ {H' : Hp} {o : HO}, Same H0 H' → Same H0 (upd H' p o) := fun {H' o} s b u e => by rw [upd_ne (ne_of_none e fp)]; exact s _ _ e
    refine ⟨_, (pss_cons (ps_fld (pv 0) (pv 1) rfl)
  (pss_cons (ps_fld (pv 0) (pv 2) rfl)
  (pss_cons (ps_fld (pv 0) (pe_cut2 (pe_ifExp (pt_cmp (pc_isN (pv 3))) pe_non (pe_callTy call_tuple_of (by rfl) TS.m_tuple (by decide +kernel) (pa_cons (pv 3) pa_nil)))) rfl)
  (pss_one (ps_for PassesOwn.never rfl (pi_tup (pe_orT (pe_fld (pv 0) rfl) (pe_one (pe_tup pa_nil)))) (pg_name (i := 4) nd rfl (Or.inl rfl))
  (pss_one (ps_if (pt_not (pt_val (pe_call GO hr2 (by rfl) TW.g_is_owner TW.kp_is_owner bO .nil pass0 (pa_cons (pv 4) pa_nil)))) (pss_one ps_dead) pss_nil))))))), ?_⟩
    refine ⟨_, rfl, _, rfl, p, CL, dx, _, rfl, hp, TL.clL, TL.n1, (by show 0 < 1000; decide), ?_⟩
    have s1 := up (o := .ins CL dx (putF "follow" (.bl fo) [])) s0
    have p1 : (upd H p (.ins CL dx (putF "follow" (.bl fo) []))) p = some (.ins CL dx (putF "follow" (.bl fo) [])) := upd_same
    generalize upd H p (.ins CL dx (putF "follow" (.bl fo) [])) = H1 at s1 p1 ⊢
    have l1 : (putF "follow" (V.bl fo) []).length ≤ 1 := len_putF "follow" (V.bl fo) []
    have k1 : (putF "follow" (V.bl fo) []).lookup ("follow" : Str) = some (.bl fo) := by rw [lookup_putF, if_pos rfl]
    generalize putF "follow" (V.bl fo) [] = F1 at p1 l1 k1 ⊢
    refine ⟨_, rfl, _, rfl, p, CL, dx, _, rfl, p1, TL.clL, TL.n2, (by omega), ?_⟩
    have s2 := up (o := .ins CL dx (putF "last" (.bl la) F1)) s1
    have p2 : (upd H1 p (.ins CL dx (putF "last" (.bl la) F1))) p = some (.ins CL dx (putF "last" (.bl la) F1)) := upd_same
    generalize upd H1 p (.ins CL dx (putF "last" (.bl la) F1)) = H2 at s2 p2 ⊢
    have l2 : (putF "last" (V.bl la) F1).length ≤ 2 := by have := len_putF "last" (V.bl la) F1; omega
    have k2 : (putF "last" (V.bl la) F1).lookup ("follow" : Str) = some (.bl fo) := by rw [lookup_putF, if_neg (by decide +kernel)]; exact k1
    have k3 : (putF "last" (V.bl la) F1).lookup ("last" : Str) = some (.bl la) := by rw [lookup_putF, if_pos rfl]
    generalize putF "last" (V.bl la) F1 = F2 at p2 l2 k2 k3 ⊢
    cases oo with
    | none =>
      obtain rfl : ow = V.non := hO
      have LK : ∀ H' : Hp, H' p = some (.ins CL dx (putF "owners" .non F2)) → LookAt K CL H' p fo la none := fun H' e => ⟨dx, _, e, by rw [lookup_putF, if_neg (by decide +kernel)]; exact k2, by rw [lookup_putF, if_neg (by decide +kernel)]; exact k3, by show List.lookup _ _ = _; rw [lookup_putF, if_pos rfl]⟩
      refine ⟨fun v H' => v = V.non ∧ H' = H2, ⟨_, rfl, _, rfl, by rw [decide_eq_true (rfl : V.non = V.non)]; exact iteT ⟨rfl, rfl⟩⟩, ?_⟩
      rintro v H2b ⟨rfl, rfl⟩
      refine ⟨_, rfl, p, CL, dx, _, rfl, p2, TL.clL, TL.n3, (by omega), ?_⟩
      have s3 := up (o := .ins CL dx (putF "owners" .non F2)) s2
      have p3 : (upd H2b p (.ins CL dx (putF "owners" .non F2))) p = some (.ins CL dx (putF "owners" .non F2)) := upd_same
      generalize upd H2b p (.ins CL dx (putF "owners" .non F2)) = H3 at s3 p3 ⊢
      refine ⟨_, rfl, p, CL, dx, _, V.non, rfl, p3, TL.clL, TL.n3, (by rw [lookup_putF, if_pos rfl]), false, rfl, ?_⟩
      refine iteF ⟨(by show 0 ≤ sizeLine; omega), fun T hT => ⟨T, rfl, ⟨_, SqT.of upd_same⟩, for_it (walk_tup (K := K) (a := T) (xs := [])) (fun i σ H' => Same H0 H' ∧ H' T = some (.tup []) ∧ H' p = some (.ins CL dx (putF "owners" .non F2))) ⟨s3.trans (NG.Same.upd hT), upd_same, (NG.Same.upd hT) _ _ p3⟩ (fun i σ H' _ h => SqT.of h.2.1) (fun i x σ H' H'' hi _ _ => by cases hi) (fun σ H' h => k _ h.1 (LK _ h.2.2))⟩⟩
    | some ns =>
      obtain ⟨L, rfl, hL, hn, hl⟩ := hO
      refine ⟨fun v H' => ∃ T, v = V.ref T ∧ Same H2 H' ∧ H' T = some (.tup (ns.map V.int)), ⟨_, rfl, _, rfl, ?_⟩, ?_⟩
      · rw [decide_eq_false (fun z : V.ref L = V.non => by cases z)]
        refine iteF ⟨_, rfl, L, ns.map V.int, rfl, ?_⟩
        rcases hL with hL | hL
        · exact .inl ⟨SqL.of (s2 _ _ hL), fun T hT => ⟨T, rfl, NG.Same.upd hT, upd_same⟩⟩
        · exact .inr ⟨SqT.of (s2 _ _ hL), L, rfl, Same.refl _, s2 _ _ hL⟩
      rintro v H2' ⟨T, rfl, sT, eT⟩
      have sT0 := s2.trans sT
      have pT := sT _ _ p2
      refine ⟨_, rfl, p, CL, dx, _, rfl, pT, TL.clL, TL.n3, (by omega), ?_⟩
      have nTp : T ≠ p := ne_of eT pT (fun z => by cases z)
      have LK : ∀ H' : Hp, H' p = some (.ins CL dx (putF "owners" (.ref T) F2)) → H' T = some (.tup (ns.map V.int)) → LookAt K CL H' p fo la (some ns) := fun H' e e' => ⟨dx, _, e, by rw [lookup_putF, if_neg (by decide +kernel)]; exact k2, by rw [lookup_putF, if_neg (by decide +kernel)]; exact k3, T, by rw [lookup_putF, if_pos rfl], SqT.of e'⟩
      have s3 := up (o := .ins CL dx (putF "owners" (.ref T) F2)) sT0
      have p3 : (upd H2' p (.ins CL dx (putF "owners" (.ref T) F2))) p = some (.ins CL dx (putF "owners" (.ref T) F2)) := upd_same
      have e3 : (upd H2' p (.ins CL dx (putF "owners" (.ref T) F2))) T = some (.tup (ns.map V.int)) := by rw [upd_ne nTp]; exact eT
      generalize upd H2' p (.ins CL dx (putF "owners" (.ref T) F2)) = H3 at s3 p3 e3 ⊢
      refine ⟨_, rfl, p, CL, dx, _, V.ref T, rfl, p3, TL.clL, TL.n3, (by rw [lookup_putF, if_pos rfl]), !(ns.map V.int).isEmpty, .inr (.inl ⟨_, SqT.of e3, rfl⟩), ?_⟩
      cases ns with
      | nil => exact iteF ⟨(by show 0 ≤ sizeLine; omega), fun T2 hT2 => ⟨T2, rfl, ⟨_, SqT.of upd_same⟩, for_it (walk_tup (K := K) (a := T2) (xs := [])) (fun i σ H' => Same H0 H' ∧ H' T2 = some (.tup []) ∧ H' p = some (.ins CL dx (putF "owners" (.ref T) F2)) ∧ H' T = some (.tup [])) ⟨s3.trans (NG.Same.upd hT2), upd_same, (NG.Same.upd hT2) _ _ p3, (NG.Same.upd hT2) _ _ e3⟩ (fun i σ H' _ h => SqT.of h.2.1) (fun i x σ H' H'' hi _ _ => by cases hi) (fun σ H' h => k _ h.1 (LK _ h.2.2.1 h.2.2.2))⟩⟩
      | cons n ns =>
        refine iteT ⟨T, rfl, ⟨_, SqT.of e3⟩, for_it (walk_tup (K := K) (a := T) (xs := (n :: ns).map V.int)) (fun i σ H' => (∃ v4, σ = [some (.ref p), some (.bl fo), some (.bl la), some (.ref L), v4]) ∧ Same H0 H' ∧ H' T = some (.tup ((n :: ns).map V.int)) ∧ H' p = some (.ins CL dx (putF "owners" (.ref T) F2))) ⟨⟨_, rfl⟩, s3, e3, p3⟩ (fun i σ H' _ h => SqT.of h.2.2.1) ?_ (fun σ H' h => k _ h.2.1 (LK _ h.2.2.2 h.2.2.1))⟩
        rintro i x σ H4 H5 hi ⟨⟨v4, rfl⟩, s4, e4, p4⟩ ⟨rfl, hx⟩
        obtain ⟨m, hm, rfl⟩ : ∃ m ∈ n :: ns, x = V.int m := by
          obtain ⟨m, hm, e⟩ := List.mem_map.mp (List.mem_of_getElem? hx)
          exact ⟨m, hm, e.symm⟩
        refine ⟨_, rfl, m, rfl, _, rfl, ?_⟩
        rw [decide_eq_true (hn m hm)]
        exact iteF ⟨⟨_, rfl⟩, s4, e4, p4⟩

end
/-- a thing: its class and its fields -/
def things (x y : Int) : List (Nat × List PyData) := [(0, [.int x, .str "a", .int y]), (1, [.int x, .str "a", .int y]), (2, [.int x, .str "a", .int y, .str "b"]), (3, [.int x, .str "a", .int y]), (4, [.int x, .str "a"]), (5, [.int x, .str "a", .int y, .str "b"]), (6, [.int x]), (7, [.str "none"]), (8, [.bool true, .bool false, .tuple [.int x, .int y]]), (8, [.bool true, .bool false, .none]), (8, [.bool false, .bool true, .tuple [.int x, .int y]]), (8, [.bool true, .bool true, .tuple [.int x, .int y]]), (8, [.bool true, .bool false, .tuple []]), (9, [.int x]), (10, [.int x, .str "a"])]
def ThAt (K : PySem.W.Frag) (ct : Nat → Addr) (H : Hp) (a : Addr) (t : Nat × List PyData) : Prop := ∃ xs, HasF H (ct t.1) a (dns t.1) xs ∧ DpAll K H xs t.2 ∧ shAll t.2
theorem ThAt.same {K : PySem.W.Frag} {ct : Nat → Addr} {H H' : Hp} {a : Addr} {t : Nat × List PyData} (h : ThAt K ct H a t) (s : Same H H') : ThAt K ct H' a t := let ⟨xs, a, b, c⟩ := h; ⟨xs, a.same s, dps_same s b, c⟩
structure ThsAt (K : PySem.W.Frag) (ct : Nat → Addr) (H : Hp) (l : Addr) (ads : List Addr) (ts : List (Nat × List PyData)) : Prop where
  ls : H l = some (.lst (ads.map V.ref))
  len : ads.length = ts.length
  at_ : ∀ (k : Nat) (a : Addr) (t : Nat × List PyData), ads[k]? = some a → ts[k]? = some t → ThAt K ct H a t
def spThings (K : PySem.W.Frag) (ct : Nat → Addr) : Sp := fun vs H Q _ => ∃ (x y : Int), vs = [.int x, .int y] ∧ 0 ≤ x ∧ 0 ≤ y ∧ ∀ H' l ads, Same H H' → ThsAt K ct H' l ads (things x y) → Q (.ref l) H'
theorem sh_int (i : Int) : SeqAt.shaped (.int i) = true := by
  unfold SeqAt.shaped
  simp [PyData.canLay0, PyData.depth]
theorem sh_tup2 (i j : Int) : SeqAt.shaped (.tuple [.int i, .int j]) = true := by
  unfold SeqAt.shaped
  simp [PyData.canLay0, PyData.depth, PyData.canLayAll0, PyData.depthAll]
def ownD : Option (List Int) → PyData
  | none => .none
  | some ns => .tuple (ns.map PyData.int)
theorem look_th {K : PySem.W.Frag} {ct : Nat → Addr} {H : Hp} {p : Addr} {fo la : Bool} {oo : Option (List Int)} (h : LookAt K (ct 8) H p fo la oo) (ho : oo = none ∨ oo = some [] ∨ ∃ x y, oo = some [x, y]) :
    ThAt K ct H p (8, [.bool fo, .bool la, ownD oo]) := by
  obtain ⟨dx, F, e, l1, l2, l3⟩ := h
  rcases ho with rfl | rfl | ⟨x, y, rfl⟩
  · exact ⟨[.bl fo, .bl la, .non], ⟨dx, F, e, l1, l2, l3, True.intro⟩, .cons (.bl _) (.cons (.bl _) (.cons .non .nil)), by cases fo <;> decide +kernel, by cases la <;> decide +kernel, by show SeqAt.shaped _ = true; simp only [ownD, List.map_nil]; decide +kernel, True.intro⟩
  · obtain ⟨T, l3, hT⟩ := l3
    exact ⟨[.bl fo, .bl la, .ref T], ⟨dx, F, e, l1, l2, l3, True.intro⟩, .cons (.bl _) (.cons (.bl _) (.cons (.tup hT .nil) .nil)), by cases fo <;> decide +kernel, by cases la <;> decide +kernel, by show SeqAt.shaped _ = true; simp only [ownD, List.map_nil]; decide +kernel, True.intro⟩
  · obtain ⟨T, l3, hT⟩ := l3
    exact ⟨[.bl fo, .bl la, .ref T], ⟨dx, F, e, l1, l2, l3, True.intro⟩, .cons (.bl _) (.cons (.bl _) (.cons (.tup hT (.cons (.int _) (.cons (.int _) .nil))) .nil)), by cases fo <;> decide +kernel, by cases la <;> decide +kernel, sh_tup2 x y, True.intro⟩
section
variable {P : Program} {w : World} {K : PySem.W.Frag} {mg : Str → Option Value} {base : Heap} {f : Addr} {ct fa fi : Nat → Addr}
abbrev sThs : Stmt := top 66
theorem scThs : FnScope ["_law_x", "_law_y", "_law_found"] ["_law_x", "_law_y"] (defScope sThs) := ⟨rfl, rfl, rfl, by decide +kernel, rfl, by decide +kernel, by decide +kernel⟩
theorem ok_ths {fd fd0 fd1 fd2 fd3 fd4 fd5 fd6 fd7 fd8 fd9 fd10 : FuncData} (F : Fun K "_law_things" "_law_things" sThs f fd) (D : TxtDd K mg ct fa) (M : ∀ i, i < 11 → Mk K (ct i) (fi i))
    (G0 : FnOk P w K mg base CX0 1 (fi 0) fd0 ["self", "folder", "name", "owner"] (spMk (ct 0) (dns 0))) (b0 : Binds K fd0 ["self", "folder", "name", "owner"] []) (G1 : FnOk P w K mg base CX0 1 (fi 1) fd1 ["self", "folder", "name", "owner"] (spMk (ct 1) (dns 1))) (b1 : Binds K fd1 ["self", "folder", "name", "owner"] []) (G2 : FnOk P w K mg base CX0 1 (fi 2) fd2 ["self", "folder", "name", "owner", "text"] (spMk (ct 2) (dns 2))) (b2 : Binds K fd2 ["self", "folder", "name", "owner", "text"] []) (G3 : FnOk P w K mg base CX0 1 (fi 3) fd3 ["self", "folder", "name", "node"] (spMk (ct 3) (dns 3))) (b3 : Binds K fd3 ["self", "folder", "name", "node"] []) (G4 : FnOk P w K mg base CX0 1 (fi 4) fd4 ["self", "folder", "name"] (spMk (ct 4) (dns 4))) (b4 : Binds K fd4 ["self", "folder", "name"] []) (G5 : FnOk P w K mg base CX0 1 (fi 5) fd5 ["self", "folder", "name", "goal", "other"] (spMk (ct 5) (dns 5))) (b5 : Binds K fd5 ["self", "folder", "name", "goal", "other"] []) (G6 : FnOk P w K mg base CX0 1 (fi 6) fd6 ["self", "node"] (spMk (ct 6) (dns 6))) (b6 : Binds K fd6 ["self", "node"] []) (G7 : FnOk P w K mg base CX0 1 (fi 7) fd7 ["self", "why"] (spMk (ct 7) (dns 7))) (b7 : Binds K fd7 ["self", "why"] []) (G8 : FnOk P w K mg base CX0 3 (fi 8) fd8 ["self", "follow", "last", "owners"] (spLkG K (ct 8))) (b8 : Binds K fd8 ["self", "follow", "last", "owners"] []) (G9 : FnOk P w K mg base CX0 1 (fi 9) fd9 ["self", "owner"] (spMk (ct 9) (dns 9))) (b9 : Binds K fd9 ["self", "owner"] []) (G10 : FnOk P w K mg base CX0 1 (fi 10) fd10 ["self", "owner", "text"] (spMk (ct 10) (dns 10))) (b10 : Binds K fd10 ["self", "owner", "text"] []) :
    FnOk P w K mg base CX0 5 f fd ["_law_x", "_law_y"] (spThings K ct) := by
  have nd := scThs.nd
  refine F.ok scThs (fun vs H Q E h => ?_) (fun cdv A outer s H vs Q E hr h => ?_)
  · obtain ⟨x, y, rfl, _⟩ := h
    rfl
  · obtain ⟨x, y, rfl, hx, hy, k⟩ := h
    have hr4 : Room 4 _ := hr
    have hr2 : Room 2 _ := hr.mono (by decide)
    have hs : sizeLine = 16777216 := sizeLine_eq
    have o2 : ∀ n ∈ [x, y], (0 : Int) ≤ n := fun n hn => by
      rcases List.mem_cons.mp hn with rfl | hn
      · exact hx
      · rw [List.mem_singleton.mp hn]; exact hy
    refine ⟨_, (pss_cons (ps_set (i := 2) nd rfl (Or.inl rfl) (pe_lst (pa_cons (pe_make (M 0 (by decide)) G0 hr2 (by rfl) D.m_MakeFolder b0 .nil pass0 (pa_cons (pv 0) (pa_cons pe_str (pa_cons (pv 1) pa_nil))))
      (pa_cons (pe_make (M 1 (by decide)) G1 hr2 (by rfl) D.m_MakeFile b1 .nil pass0 (pa_cons (pv 0) (pa_cons pe_str (pa_cons (pv 1) pa_nil))))
      (pa_cons (pe_make (M 2 (by decide)) G2 hr2 (by rfl) D.m_MakeLink b2 .nil pass0 (pa_cons (pv 0) (pa_cons pe_str (pa_cons (pv 1) (pa_cons pe_str pa_nil)))))
      (pa_cons (pe_make (M 3 (by decide)) G3 hr2 (by rfl) D.m_Put b3 .nil pass0 (pa_cons (pv 0) (pa_cons pe_str (pa_cons (pv 1) pa_nil))))
      (pa_cons (pe_make (M 4 (by decide)) G4 hr2 (by rfl) D.m_Take b4 .nil pass0 (pa_cons (pv 0) (pa_cons pe_str pa_nil)))
      pa_nil)))))))
  (pss_cons (ps_set (i := 2) nd rfl (Or.inl rfl) (pe_op op_catS (pv 2) (pe_lst (pa_cons (pe_make (M 5 (by decide)) G5 hr2 (by rfl) D.m_Move b5 .nil pass0 (pa_cons (pv 0) (pa_cons pe_str (pa_cons (pv 1) (pa_cons pe_str pa_nil)))))
      (pa_cons (pe_make (M 6 (by decide)) G6 hr2 (by rfl) D.m_Came b6 .nil pass0 (pa_cons (pv 0) pa_nil))
      (pa_cons (pe_make (M 7 (by decide)) G7 hr2 (by rfl) D.m_Refused b7 .nil pass0 (pa_cons pe_str pa_nil))
      (pa_cons (pe_make (M 8 (by decide)) G8 hr4 (by rfl) D.m_Look b8 .nil pass0 (pa_cons pe_bl (pa_cons pe_bl (pa_cons (pe_lst (pa_cons (pv 0) (pa_cons (pv 1) pa_nil))) pa_nil))))
      (pa_cons (pe_make (M 8 (by decide)) G8 hr4 (by rfl) D.m_Look b8 .nil pass0 (pa_cons pe_bl (pa_cons pe_bl (pa_cons pe_non pa_nil))))
      pa_nil))))))))
  (pss_one (ps_ret (pe_op op_catS (pv 2) (pe_lst (pa_cons (pe_make (M 8 (by decide)) G8 hr4 (by rfl) D.m_Look b8 .nil pass0 (pa_cons pe_bl (pa_cons pe_bl (pa_cons (pe_lst (pa_cons (pv 0) (pa_cons (pv 1) pa_nil))) pa_nil))))
      (pa_cons (pe_make (M 8 (by decide)) G8 hr4 (by rfl) D.m_Look b8 .nil pass0 (pa_cons pe_bl (pa_cons pe_bl (pa_cons (pe_lst (pa_cons (pv 0) (pa_cons (pv 1) pa_nil))) pa_nil))))
      (pa_cons (pe_make (M 8 (by decide)) G8 hr4 (by rfl) D.m_Look b8 .nil pass0 (pa_cons pe_bl (pa_cons pe_bl (pa_cons (pe_lst pa_nil) pa_nil))))
      (pa_cons (pe_make (M 9 (by decide)) G9 hr2 (by rfl) D.m_File b9 .nil pass0 (pa_cons (pv 0) pa_nil))
      (pa_cons (pe_make (M 10 (by decide)) G10 hr2 (by rfl) D.m_Link b10 .nil pass0 (pa_cons (pv 0) (pa_cons pe_str pa_nil)))
      pa_nil))))))))))), ?_⟩
    refine ⟨_, rfl, _, rfl, fun p0 q0 n0 m0 u0 => ?_⟩
    refine ⟨p0, q0, [.int x, .str "a", .int y], rfl, rfl, upd_same, fun H0 b0_ h0 => ⟨rfl, ?_⟩⟩
    have s0 : Same H H0 := but_ext n0 (new_ext (C := ct 0) n0 m0) b0_
    have t0 : ThAt K ct H0 p0 (0, [.int x, .str "a", .int y]) := ⟨[.int x, .str "a", .int y], h0, (.cons (.int _) (.cons (.str _) (.cons (.int _) .nil))), sh_int _, by decide +kernel, sh_int _, True.intro⟩
    refine ⟨_, rfl, _, rfl, fun p1 q1 n1 m1 u1 => ?_⟩
    refine ⟨p1, q1, [.int x, .str "a", .int y], rfl, rfl, upd_same, fun H1 b1_ h1 => ⟨rfl, ?_⟩⟩
    have s1 : Same H0 H1 := but_ext n1 (new_ext (C := ct 1) n1 m1) b1_
    have t1 : ThAt K ct H1 p1 (1, [.int x, .str "a", .int y]) := ⟨[.int x, .str "a", .int y], h1, (.cons (.int _) (.cons (.str _) (.cons (.int _) .nil))), sh_int _, by decide +kernel, sh_int _, True.intro⟩
    refine ⟨_, rfl, _, rfl, fun p2 q2 n2 m2 u2 => ?_⟩
    refine ⟨p2, q2, [.int x, .str "a", .int y, .str "b"], rfl, rfl, upd_same, fun H2 b2_ h2 => ⟨rfl, ?_⟩⟩
    have s2 : Same H1 H2 := but_ext n2 (new_ext (C := ct 2) n2 m2) b2_
    have t2 : ThAt K ct H2 p2 (2, [.int x, .str "a", .int y, .str "b"]) := ⟨[.int x, .str "a", .int y, .str "b"], h2, (.cons (.int _) (.cons (.str _) (.cons (.int _) (.cons (.str _) .nil)))), sh_int _, by decide +kernel, sh_int _, by decide +kernel, True.intro⟩
    refine ⟨_, rfl, _, rfl, fun p3 q3 n3 m3 u3 => ?_⟩
    refine ⟨p3, q3, [.int x, .str "a", .int y], rfl, rfl, upd_same, fun H3 b3_ h3 => ⟨rfl, ?_⟩⟩
    have s3 : Same H2 H3 := but_ext n3 (new_ext (C := ct 3) n3 m3) b3_
    have t3 : ThAt K ct H3 p3 (3, [.int x, .str "a", .int y]) := ⟨[.int x, .str "a", .int y], h3, (.cons (.int _) (.cons (.str _) (.cons (.int _) .nil))), sh_int _, by decide +kernel, sh_int _, True.intro⟩
    refine ⟨_, rfl, fun p4 q4 n4 m4 u4 => ?_⟩
    refine ⟨p4, q4, [.int x, .str "a"], rfl, rfl, upd_same, fun H4 b4_ h4 => ⟨rfl, ?_⟩⟩
    have s4 : Same H3 H4 := but_ext n4 (new_ext (C := ct 4) n4 m4) b4_
    have t4 : ThAt K ct H4 p4 (4, [.int x, .str "a"]) := ⟨[.int x, .str "a"], h4, (.cons (.int _) (.cons (.str _) .nil)), sh_int _, by decide +kernel, True.intro⟩
    refine ⟨(by show 5 ≤ sizeLine; omega), fun A hA => ?_⟩
    have sA := NG.Same.upd (o := HO.lst [V.ref p0, V.ref p1, V.ref p2, V.ref p3, V.ref p4]) hA
    have eA : (upd H4 A (HO.lst [V.ref p0, V.ref p1, V.ref p2, V.ref p3, V.ref p4])) A = some (.lst [V.ref p0, V.ref p1, V.ref p2, V.ref p3, V.ref p4]) := upd_same
    generalize upd H4 A (HO.lst [V.ref p0, V.ref p1, V.ref p2, V.ref p3, V.ref p4]) = HA at sA eA ⊢
    refine ⟨_, rfl, ?_⟩
    refine ⟨_, rfl, _, rfl, fun p5 q5 n5 m5 u5 => ?_⟩
    refine ⟨p5, q5, [.int x, .str "a", .int y, .str "b"], rfl, rfl, upd_same, fun H5 b5_ h5 => ⟨rfl, ?_⟩⟩
    have s5 : Same HA H5 := but_ext n5 (new_ext (C := ct 5) n5 m5) b5_
    have t5 : ThAt K ct H5 p5 (5, [.int x, .str "a", .int y, .str "b"]) := ⟨[.int x, .str "a", .int y, .str "b"], h5, (.cons (.int _) (.cons (.str _) (.cons (.int _) (.cons (.str _) .nil)))), sh_int _, by decide +kernel, sh_int _, by decide +kernel, True.intro⟩
    refine ⟨_, rfl, fun p6 q6 n6 m6 u6 => ?_⟩
    refine ⟨p6, q6, [.int x], rfl, rfl, upd_same, fun H6 b6_ h6 => ⟨rfl, ?_⟩⟩
    have s6 : Same H5 H6 := but_ext n6 (new_ext (C := ct 6) n6 m6) b6_
    have t6 : ThAt K ct H6 p6 (6, [.int x]) := ⟨[.int x], h6, (.cons (.int _) .nil), sh_int _, True.intro⟩
    refine fun p7 q7 n7 m7 u7 => ?_
    refine ⟨p7, q7, [.str "none"], rfl, rfl, upd_same, fun H7 b7_ h7 => ⟨rfl, ?_⟩⟩
    have s7 : Same H6 H7 := but_ext n7 (new_ext (C := ct 7) n7 m7) b7_
    have t7 : ThAt K ct H7 p7 (7, [.str "none"]) := ⟨[.str "none"], h7, (.cons (.str _) .nil), by decide +kernel, True.intro⟩
    refine ⟨_, rfl, _, rfl, (by show 2 ≤ sizeLine; omega), fun l8 hl8 => ?_⟩
    have sl8 := NG.Same.upd (o := HO.lst [V.int x, V.int y]) hl8
    have el8 : (upd H7 l8 (HO.lst [V.int x, V.int y])) l8 = some (.lst [V.int x, V.int y]) := upd_same
    generalize upd H7 l8 (HO.lst [V.int x, V.int y]) = L8 at sl8 el8 ⊢
    refine fun p8 q8 n8 m8 u8 => ?_
    refine ⟨p8, q8, true, false, (.ref l8), (some [x, y]), L8, rfl, upd_same, n8, new_ext (C := ct 8) n8 m8, ⟨l8, rfl, .inl el8, o2, (by simp)⟩, fun H8 s8 T8 => ⟨rfl, ?_⟩⟩
    have t8 : ThAt K ct H8 p8 (8, [.bool true, .bool false, .tuple [.int x, .int y]]) := look_th T8 (.inr (.inr ⟨x, y, rfl⟩))
    have s8 := sl8.trans s8
    refine fun p9 q9 n9 m9 u9 => ?_
    refine ⟨p9, q9, true, false, .non, none, H8, rfl, upd_same, n9, new_ext (C := ct 8) n9 m9, rfl, fun H9 s9 T9 => ⟨rfl, ?_⟩⟩
    have t9 : ThAt K ct H9 p9 (8, [.bool true, .bool false, .none]) := look_th T9 (.inl rfl)
    refine ⟨(by show 5 ≤ sizeLine; omega), fun B hB => ?_⟩
    have sB := NG.Same.upd (o := HO.lst [V.ref p5, V.ref p6, V.ref p7, V.ref p8, V.ref p9]) hB
    have eB : (upd H9 B (HO.lst [V.ref p5, V.ref p6, V.ref p7, V.ref p8, V.ref p9])) B = some (.lst [V.ref p5, V.ref p6, V.ref p7, V.ref p8, V.ref p9]) := upd_same
    generalize upd H9 B (HO.lst [V.ref p5, V.ref p6, V.ref p7, V.ref p8, V.ref p9]) = HB at sB eB ⊢
    have eA2 := (((((s5.trans s6).trans s7).trans s8).trans s9).trans sB) _ _ eA
    refine ⟨A, B, _, _, rfl, rfl, SqL.of eA2, SqL.of eB, (by show 10 ≤ sizeLine; omega), fun C hC => ?_⟩
    have sC := NG.Same.upd (o := HO.lst ([V.ref p0, V.ref p1, V.ref p2, V.ref p3, V.ref p4] ++ [V.ref p5, V.ref p6, V.ref p7, V.ref p8, V.ref p9])) hC
    have eC : (upd HB C (HO.lst ([V.ref p0, V.ref p1, V.ref p2, V.ref p3, V.ref p4] ++ [V.ref p5, V.ref p6, V.ref p7, V.ref p8, V.ref p9]))) C = some (.lst ([V.ref p0, V.ref p1, V.ref p2, V.ref p3, V.ref p4] ++ [V.ref p5, V.ref p6, V.ref p7, V.ref p8, V.ref p9])) := upd_same
    generalize upd HB C (HO.lst ([V.ref p0, V.ref p1, V.ref p2, V.ref p3, V.ref p4] ++ [V.ref p5, V.ref p6, V.ref p7, V.ref p8, V.ref p9])) = HC at sC eC ⊢
    refine ⟨_, rfl, ?_⟩
    refine ⟨_, rfl, _, rfl, (by show 2 ≤ sizeLine; omega), fun l10 hl10 => ?_⟩
    have sl10 := NG.Same.upd (o := HO.lst [V.int x, V.int y]) hl10
    have el10 : (upd HC l10 (HO.lst [V.int x, V.int y])) l10 = some (.lst [V.int x, V.int y]) := upd_same
    generalize upd HC l10 (HO.lst [V.int x, V.int y]) = L10 at sl10 el10 ⊢
    refine fun p10 q10 n10 m10 u10 => ?_
    refine ⟨p10, q10, false, true, (.ref l10), (some [x, y]), L10, rfl, upd_same, n10, new_ext (C := ct 8) n10 m10, ⟨l10, rfl, .inl el10, o2, (by simp)⟩, fun H10 s10 T10 => ⟨rfl, ?_⟩⟩
    have t10 : ThAt K ct H10 p10 (8, [.bool false, .bool true, .tuple [.int x, .int y]]) := look_th T10 (.inr (.inr ⟨x, y, rfl⟩))
    have s10 := sl10.trans s10
    refine ⟨_, rfl, _, rfl, (by show 2 ≤ sizeLine; omega), fun l11 hl11 => ?_⟩
    have sl11 := NG.Same.upd (o := HO.lst [V.int x, V.int y]) hl11
    have el11 : (upd H10 l11 (HO.lst [V.int x, V.int y])) l11 = some (.lst [V.int x, V.int y]) := upd_same
    generalize upd H10 l11 (HO.lst [V.int x, V.int y]) = L11 at sl11 el11 ⊢
    refine fun p11 q11 n11 m11 u11 => ?_
    refine ⟨p11, q11, true, true, (.ref l11), (some [x, y]), L11, rfl, upd_same, n11, new_ext (C := ct 8) n11 m11, ⟨l11, rfl, .inl el11, o2, (by simp)⟩, fun H11 s11 T11 => ⟨rfl, ?_⟩⟩
    have t11 : ThAt K ct H11 p11 (8, [.bool true, .bool true, .tuple [.int x, .int y]]) := look_th T11 (.inr (.inr ⟨x, y, rfl⟩))
    have s11 := sl11.trans s11
    refine ⟨(by show 0 ≤ sizeLine; omega), fun l12 hl12 => ?_⟩
    have sl12 := NG.Same.upd (o := HO.lst ([] : List V)) hl12
    have el12 : (upd H11 l12 (HO.lst ([] : List V))) l12 = some (.lst ([] : List V)) := upd_same
    generalize upd H11 l12 (HO.lst ([] : List V)) = L12 at sl12 el12 ⊢
    refine fun p12 q12 n12 m12 u12 => ?_
    refine ⟨p12, q12, true, false, (.ref l12), (some ([] : List Int)), L12, rfl, upd_same, n12, new_ext (C := ct 8) n12 m12, ⟨l12, rfl, .inl el12, (by simp), (by simp)⟩, fun H12 s12 T12 => ⟨rfl, ?_⟩⟩
    have t12 : ThAt K ct H12 p12 (8, [.bool true, .bool false, .tuple []]) := look_th T12 (.inr (.inl rfl))
    have s12 := sl12.trans s12
    refine ⟨_, rfl, fun p13 q13 n13 m13 u13 => ?_⟩
    refine ⟨p13, q13, [.int x], rfl, rfl, upd_same, fun H13 b13_ h13 => ⟨rfl, ?_⟩⟩
    have s13 : Same H12 H13 := but_ext n13 (new_ext (C := ct 9) n13 m13) b13_
    have t13 : ThAt K ct H13 p13 (9, [.int x]) := ⟨[.int x], h13, (.cons (.int _) .nil), sh_int _, True.intro⟩
    refine ⟨_, rfl, fun p14 q14 n14 m14 u14 => ?_⟩
    refine ⟨p14, q14, [.int x, .str "a"], rfl, rfl, upd_same, fun H14 b14_ h14 => ⟨rfl, ?_⟩⟩
    have s14 : Same H13 H14 := but_ext n14 (new_ext (C := ct 10) n14 m14) b14_
    have t14 : ThAt K ct H14 p14 (10, [.int x, .str "a"]) := ⟨[.int x, .str "a"], h14, (.cons (.int _) (.cons (.str _) .nil)), sh_int _, by decide +kernel, True.intro⟩
    refine ⟨(by show 5 ≤ sizeLine; omega), fun DD hDD => ?_⟩
    have sDD := NG.Same.upd (o := HO.lst [V.ref p10, V.ref p11, V.ref p12, V.ref p13, V.ref p14]) hDD
    have eDD : (upd H14 DD (HO.lst [V.ref p10, V.ref p11, V.ref p12, V.ref p13, V.ref p14])) DD = some (.lst [V.ref p10, V.ref p11, V.ref p12, V.ref p13, V.ref p14]) := upd_same
    generalize upd H14 DD (HO.lst [V.ref p10, V.ref p11, V.ref p12, V.ref p13, V.ref p14]) = HDD at sDD eDD ⊢
    have eC2 := (((((s10.trans s11).trans s12).trans s13).trans s14).trans sDD) _ _ eC
    refine ⟨C, DD, _, _, rfl, rfl, SqL.of eC2, SqL.of eDD, (by show 15 ≤ sizeLine; omega), fun R hR => ?_⟩
    have sR := NG.Same.upd (o := HO.lst (([V.ref p0, V.ref p1, V.ref p2, V.ref p3, V.ref p4] ++ [V.ref p5, V.ref p6, V.ref p7, V.ref p8, V.ref p9]) ++ [V.ref p10, V.ref p11, V.ref p12, V.ref p13, V.ref p14])) hR
    refine k _ R [p0, p1, p2, p3, p4, p5, p6, p7, p8, p9, p10, p11, p12, p13, p14] (((((((((((((((((((s0.trans s1).trans s2).trans s3).trans s4).trans sA).trans s5).trans s6).trans s7).trans s8).trans s9).trans sB).trans sC).trans s10).trans s11).trans s12).trans s13).trans s14).trans sDD).trans sR) ⟨upd_same, rfl, fun j a t ha ht => ?_⟩
    match j, ha, ht with
    | 0, ha, ht => cases ha; cases ht; exact t0.same ((((((((((((((((((s1.trans s2).trans s3).trans s4).trans sA).trans s5).trans s6).trans s7).trans s8).trans s9).trans sB).trans sC).trans s10).trans s11).trans s12).trans s13).trans s14).trans sDD).trans sR)
    | 1, ha, ht => cases ha; cases ht; exact t1.same (((((((((((((((((s2.trans s3).trans s4).trans sA).trans s5).trans s6).trans s7).trans s8).trans s9).trans sB).trans sC).trans s10).trans s11).trans s12).trans s13).trans s14).trans sDD).trans sR)
    | 2, ha, ht => cases ha; cases ht; exact t2.same ((((((((((((((((s3.trans s4).trans sA).trans s5).trans s6).trans s7).trans s8).trans s9).trans sB).trans sC).trans s10).trans s11).trans s12).trans s13).trans s14).trans sDD).trans sR)
    | 3, ha, ht => cases ha; cases ht; exact t3.same (((((((((((((((s4.trans sA).trans s5).trans s6).trans s7).trans s8).trans s9).trans sB).trans sC).trans s10).trans s11).trans s12).trans s13).trans s14).trans sDD).trans sR)
    | 4, ha, ht => cases ha; cases ht; exact t4.same ((((((((((((((sA.trans s5).trans s6).trans s7).trans s8).trans s9).trans sB).trans sC).trans s10).trans s11).trans s12).trans s13).trans s14).trans sDD).trans sR)
    | 5, ha, ht => cases ha; cases ht; exact t5.same ((((((((((((s6.trans s7).trans s8).trans s9).trans sB).trans sC).trans s10).trans s11).trans s12).trans s13).trans s14).trans sDD).trans sR)
    | 6, ha, ht => cases ha; cases ht; exact t6.same (((((((((((s7.trans s8).trans s9).trans sB).trans sC).trans s10).trans s11).trans s12).trans s13).trans s14).trans sDD).trans sR)
    | 7, ha, ht => cases ha; cases ht; exact t7.same ((((((((((s8.trans s9).trans sB).trans sC).trans s10).trans s11).trans s12).trans s13).trans s14).trans sDD).trans sR)
    | 8, ha, ht => cases ha; cases ht; exact t8.same (((((((((s9.trans sB).trans sC).trans s10).trans s11).trans s12).trans s13).trans s14).trans sDD).trans sR)
    | 9, ha, ht => cases ha; cases ht; exact t9.same ((((((((sB.trans sC).trans s10).trans s11).trans s12).trans s13).trans s14).trans sDD).trans sR)
    | 10, ha, ht => cases ha; cases ht; exact t10.same (((((s11.trans s12).trans s13).trans s14).trans sDD).trans sR)
    | 11, ha, ht => cases ha; cases ht; exact t11.same ((((s12.trans s13).trans s14).trans sDD).trans sR)
    | 12, ha, ht => cases ha; cases ht; exact t12.same (((s13.trans s14).trans sDD).trans sR)
    | 13, ha, ht => cases ha; cases ht; exact t13.same ((s14.trans sDD).trans sR)
    | 14, ha, ht => cases ha; cases ht; exact t14.same (sDD.trans sR)
    | n + 15, ha, ht => cases ha
end
end NW

set_option maxRecDepth 100000
set_option maxHeartbeats 4000000
/-! the comparisons of things; deeds whose fields are odd -/
namespace NW
open PySem L2 NG TR LamX
theorem op_any {X : Cx} {n : Nat} {f : Value → Value → Sem Value} {r : Nat → R2} (h : ∀ i, i < n → OpR X f (r i)) : OpR X f (fun x y H Q => ∃ i, i < n ∧ r i x y H Q) := by
  intro pins s σ H x y v u Q I rx ry q
  obtain ⟨i, hi, q⟩ := q
  exact h i hi pins s σ H x y v u Q I rx ry q
def rTh (K : PySem.W.Frag) (ct : Nat → Addr) (g : Bool → Bool) : R2 := fun x y H Q => ∃ i, i < 11 ∧ rOwn K (ct i) (spEqD K (ct i) (dns i)) E0 g x y H Q
structure TxtNf (K : PySem.W.Frag) (ct fe : Nat → Addr) : Prop where
  eq : ∀ i, i < 11 → EqC K (ct i) (fe i)
  nf : ∀ i j, i < 11 → j < 11 → PySem.W.notFirst K (ct i) (.ref (ct j)) = true
  nfI : ∀ i, i < 11 → PySem.W.notFirst K (ct i) (.type "int") = true
  nfS : ∀ i, i < 11 → PySem.W.notFirst K (ct i) (.type "str") = true
  kI : ∀ i, i < 11 → PySem.W.kitOne K (.type "int") (.ref (ct i)) = some false
  kS : ∀ i, i < 11 → PySem.W.kitOne K (.type "str") (.ref (ct i)) = some false
/-- the == of the eleven classes -/
def EqFns (P : Program) (w : World) (K : PySem.W.Frag) (mg : Str → Option Value) (base : Heap) (ct fe : Nat → Addr) : Prop := ∀ i, i < 11 → ∃ fd, FnOk P w K mg base CX0 1 (fe i) fd ["self", "other"] (spEqD K (ct i) (dns i)) ∧ Binds K fd ["self", "other"] []
section
variable {X : Cx} {ct fe : Nat → Addr}
theorem op_eqTh (TN : TxtNf X.K ct fe) (hE : EqFns X.prog X.w X.K X.mg X.base ct fe) (hr : Room 1 X.A) : OpR X (compareOp .Eq) (rTh X.K ct fun k => k) := op_any fun i hi => by
  obtain ⟨fd, F, b⟩ := hE i hi
  exact op_eqOwn F hr (TN.eq i hi).e1 (TN.eq i hi).e2 b pass0
theorem op_neTh (TN : TxtNf X.K ct fe) (hE : EqFns X.prog X.w X.K X.mg X.base ct fe) (hr : Room 2 X.A) : OpR X (compareOp .NotEq) (rTh X.K ct fun k => !k) := op_any fun i hi => by
  obtain ⟨fd, F, b⟩ := hE i hi
  exact op_neOwn F hr (TN.eq i hi).e1 (TN.eq i hi).e2 (TN.eq i hi).e3 (TN.eq i hi).e4 b pass0
end
def thEq (t u : Nat × List PyData) : Bool := decide (t.1 = u.1) && eqAll t.2 u.2
theorem th_th {K : PySem.W.Frag} {ct fe : Nat → Addr} {H : Hp} {a b : Addr} {t u : Nat × List PyData} {g : Bool → Bool} {Q : VK} (TH : TxtTh K ct) (TN : TxtNf K ct fe) (ht : t.1 < 11) (hu : u.1 < 11) (ha : ThAt K ct H a t) (hb : ThAt K ct H b u) (k : Q (.bl (g (thEq t u))) H) : rTh K ct g (.ref a) (.ref b) H Q := by
  obtain ⟨xs, h1, h2, h3⟩ := ha
  obtain ⟨ys, g1, g2, g3⟩ := hb
  obtain ⟨i, ds⟩ := t
  obtain ⟨j, es⟩ := u
  obtain ⟨dx, fs, e1, l1⟩ := id h1
  obtain ⟨dy, gs, e2, l2⟩ := id g1
  refine ⟨i, ht, a, dx, fs, .ref (ct j), rfl, e1, deed_ty TH hu e2, TN.nf i j ht hu, a, .ref b, xs, ds, rfl, h1, h2, h3, ?_⟩
  by_cases e : i = j
  · subst e
    refine .inr ⟨b, ys, es, rfl, g1, g2, g3, _, rfl, ?_⟩
    have : thEq (i, ds) (i, es) = eqAll ds es := by unfold thEq; rw [decide_eq_true rfl, Bool.true_and]
    rw [this] at k
    exact k
  · refine .inl ⟨.ref (ct j), deed_ty TH hu e2, ?_, _, rfl, ?_⟩
    · rw [TH.kit j i hu ht, decide_eq_false (fun q => e q.symm)]
    · have : thEq (i, ds) (j, es) = false := by unfold thEq; rw [decide_eq_false e, Bool.false_and]
      rw [this] at k
      exact k
theorem th_no {K : PySem.W.Frag} {ct fe : Nat → Addr} {H : Hp} {a : Addr} {t : Nat × List PyData} {g : Bool → Bool} {Q : VK} (TN : TxtNf K ct fe) (ht : t.1 < 11) (ha : ThAt K ct H a t) {y : V} (hy : (∃ n, y = .int n) ∨ ∃ z, y = .str z) (k : Q (.bl (g false)) H) : rTh K ct g (.ref a) y H Q := by
  obtain ⟨xs, h1, h2, h3⟩ := ha
  obtain ⟨dx, fs, e1, l1⟩ := id h1
  rcases hy with ⟨n, rfl⟩ | ⟨z, rfl⟩
  · exact ⟨t.1, ht, a, dx, fs, .type "int", rfl, e1, .base (.int n), TN.nfI _ ht, a, .int n, xs, t.2, rfl, h1, h2, h3, .inl ⟨.type "int", .base (.int n), TN.kI _ ht, _, rfl, k⟩⟩
  · exact ⟨t.1, ht, a, dx, fs, .type "str", rfl, e1, .base (.str z), TN.nfS _ ht, a, .str z, xs, t.2, rfl, h1, h2, h3, .inl ⟨.type "str", .base (.str z), TN.kS _ ht, _, rfl, k⟩⟩
theorem things_len (x y : Int) : (things x y).length = 15 := rfl
theorem things_cls {x y : Int} {k : Nat} {t : Nat × List PyData} (h : (things x y)[k]? = some t) : t.1 < 11 := by
  have : ∀ t ∈ things x y, t.1 < 11 := by simp [things]
  exact this t (List.mem_of_getElem? h)
def unit15 : List (List Bool) := (List.range 15).map fun i => (List.range 15).map fun k => decide (k = i)
theorem table1 (x y : Int) : (things x y).map (fun t => (things x y).map (thEq t)) = unit15 := by
  have e : unit15 = (List.range 15).map fun i => (List.range 15).map fun k => decide (k = i) := rfl
  rw [e]
  simp [things, thEq, eqAll, PyData.eqv, PyData.eqvAll, List.range_succ]
theorem things_eq {x y : Int} {i k : Nat} {t u : Nat × List PyData} (h : (things x y)[i]? = some t) (g : (things x y)[k]? = some u) : thEq t u = decide (k = i) := by
  have hi : i < 15 := (List.getElem?_eq_some_iff.mp h).1
  have hk : k < 15 := (List.getElem?_eq_some_iff.mp g).1
  have e := congrArg (fun l : List (List Bool) => l[i]?.bind fun r => r[k]?) (table1 x y)
  simp only [List.getElem?_map, h, Option.map_some, Option.bind_some, g, unit15, List.getElem?_range hi, List.getElem?_range hk] at e
  exact Option.some.inj e
def no3 : List Bool := [false, false, false, false, false, false, false, true, false, true, false, false, true, false, false]
theorem table2 (x y : Int) : ((things x y).zip (things (x + 1) y)).map (fun p => thEq p.1 p.2) = no3 := by
  have h : ¬ x = x + 1 := by omega
  simp [things, thEq, eqAll, PyData.eqv, PyData.eqvAll, no3, h]
theorem things_next {x y : Int} {i : Nat} {t u : Nat × List PyData} (h : (things x y)[i]? = some t) (g : (things (x + 1) y)[i]? = some u) : thEq t u = decide (i = 7 ∨ i = 9 ∨ i = 12) := by
  have hl : i < 15 := (List.getElem?_eq_some_iff.mp h).1
  have hz : ((things x y).zip (things (x + 1) y))[i]? = some (t, u) := List.getElem?_zip_eq_some.mpr ⟨h, g⟩
  have e := congrArg (fun l : List Bool => l[i]?) (table2 x y)
  simp only [List.getElem?_map, hz, Option.map_some] at e
  rcases (by omega : i = 0 ∨ i = 1 ∨ i = 2 ∨ i = 3 ∨ i = 4 ∨ i = 5 ∨ i = 6 ∨ i = 7 ∨ i = 8 ∨ i = 9 ∨ i = 10 ∨ i = 11 ∨ i = 12 ∨ i = 13 ∨ i = 14) with rfl | rfl | rfl | rfl | rfl | rfl | rfl | rfl | rfl | rfl | rfl | rfl | rfl | rfl | rfl <;> exact Option.some.inj e
end NW

set_option maxRecDepth 100000
set_option maxHeartbeats 1000000
/-! deeds whose fields are odd, their words -/
namespace NW
open PySem L2 NG TR LamX
def Odds (K : PySem.W.Frag) (H : Hp) (i : Nat) (xs : List V) : Prop := (∀ v ∈ fosV i xs, IntOdd K H v) ∧ (∀ v ∈ nosV i xs, StrOdd K H v) ∧ (i < 4 → IntOdd K H (xs.getD 2 .non)) ∧ (i = 2 → StrOdd K H (xs.getD 3 .non))
theorem Odds.ext {K : PySem.W.Frag} {H H' : Hp} {i : Nat} {xs : List V} (h : Odds K H i xs) (s : ExtN H H') : Odds K H' i xs :=
  let ⟨e, f, g, j⟩ := h; ⟨fun v hv => (e v hv).ext s, fun v hv => (f v hv).ext s, fun q => (g q).ext s, fun q => (j q).ext s⟩
section
variable {K : PySem.W.Frag} {H : Hp}
theorem odds3 {i : Nat} (hi : i = 0 ∨ i = 1 ∨ i = 3) {f n o : V} (a : IntOdd K H f) (b : StrOdd K H n) (c : IntOdd K H o) : Odds K H i [f, n, o] := by
  have h5 : i ≠ 5 := by omega
  refine ⟨fun v hv => ?_, fun v hv => ?_, fun _ => c, fun h => by omega⟩
  · unfold fosV at hv; rw [if_neg h5] at hv; rw [List.mem_singleton.mp hv]; exact a
  · unfold nosV at hv; rw [if_neg h5] at hv; rw [List.mem_singleton.mp hv]; exact b
theorem odds2 {f n o t : V} (a : IntOdd K H f) (b : StrOdd K H n) (c : IntOdd K H o) (d : StrOdd K H t) : Odds K H 2 [f, n, o, t] := by
  refine ⟨fun v hv => ?_, fun v hv => ?_, fun _ => c, fun _ => d⟩
  · rw [List.mem_singleton.mp hv]; exact a
  · rw [List.mem_singleton.mp hv]; exact b
theorem odds4 {f n : V} (a : IntOdd K H f) (b : StrOdd K H n) : Odds K H 4 [f, n] := by
  refine ⟨fun v hv => ?_, fun v hv => ?_, fun h => by omega, fun h => by omega⟩
  · rw [List.mem_singleton.mp hv]; exact a
  · rw [List.mem_singleton.mp hv]; exact b
theorem odds5 {f n g m : V} (a : IntOdd K H f) (b : StrOdd K H n) (c : IntOdd K H g) (d : StrOdd K H m) : Odds K H 5 [f, n, g, m] := by
  refine ⟨fun v hv => ?_, fun v hv => ?_, fun h => by omega, fun h => by omega⟩
  · rcases List.mem_cons.mp hv with rfl | hv
    · exact a
    · rw [List.mem_singleton.mp hv]; exact c
  · rcases List.mem_cons.mp hv with rfl | hv
    · exact b
    · rw [List.mem_singleton.mp hv]; exact d
/-- a deed has been made -/
theorem why_pre {ct : Nat → Addr} {P0 : Addr} {i : Nat} {xs : List V} {x dx : Addr} {H1 : Hp} (hi : i < 6) (hl : xs.length = (dns i).length) (o : Odds K H i xs) (t : Tabs [(P0, qBy)] H) (nx : H x = none) (ndx : H dx = none)
    (b1 : But x (upd (upd H dx (.own x)) x (.ins (ct i) dx [])) H1) (h1 : HasF H1 (ct i) x (dns i) xs) : ExtN H H1 ∧ DeedO K ct H1 x i xs ∧ Tabs [(P0, qBy)] H1 := by
  have s1 : Same H H1 := but_ext nx (new_ext (C := ct i) nx ndx) b1
  have o1 := o.ext (ExtN.same s1)
  exact ⟨ExtN.same s1, ⟨hi, hl, h1, o1.1, o1.2.1, o1.2.2.1, o1.2.2.2⟩, t.ext s1⟩
theorem int_odd (n : Int) : IntOdd K H (.int n) := .inl ⟨n, rfl⟩
theorem str_short {z : Str} (h : z.length ≤ 20) (hp : ∀ p ∈ partsOf z, p.length ≤ 20) : StrOdd K H (.str z) := .inl ⟨z, rfl, by rw [sizeLine_eq]; omega, fun p h2 => by have := hp p h2; rw [sizeLine_eq]; omega⟩
theorem str_a : StrOdd K H (.str "a") := str_short (by decide +kernel) (by decide +kernel)
theorem str_f : StrOdd K H (.str "f") := str_short (by decide +kernel) (by decide +kernel)
theorem str_comp {z : Str} (h : compB z = true) : StrOdd K H (.str z) := by
  have e : Txt.join "/" [z] = z := by rw [TL.join_eq]; rfl
  have PA := parts_are (ps := [z]) (by simp) (fun p hp => by rw [List.mem_singleton.mp hp]; exact h) (by simp)
  rw [e] at PA
  exact .inl ⟨z, rfl, PA.zl, fun p hp => by rw [PA.sp] at hp; exact (PA.ok p hp).1⟩
theorem non_int : IntOdd K H .non := .inr ⟨fun n q => (by cases q), _, false, false, fun _ _ => .base .non, rfl, rfl, rfl⟩
theorem non_str : StrOdd K H .non := .inr ⟨fun n q => (by cases q), _, fun _ _ => .base .non, rfl⟩
theorem int_str (n : Int) : StrOdd K H (.int n) := .inr ⟨fun n q => (by cases q), _, fun _ _ => .base (.int n), rfl⟩
theorem bl_int (b : Bool) : IntOdd K H (.bl b) := .inr ⟨fun n q => (by cases q), _, true, true, fun _ _ => .base (.bl b), rfl, rfl, rfl⟩
theorem str_int (z : Str) : IntOdd K H (.str z) := .inr ⟨fun n q => (by cases q), _, false, false, fun _ _ => .base (.str z), rfl, rfl, rfl⟩
theorem lst_int {L : Addr} {xs : List V} (h : H L = some (.lst xs)) : IntOdd K H (.ref L) := .inr ⟨fun n q => (by cases q), _, false, false, fun H' e => .base (.lst (e _ _ h (fun _ z => by cases z))), rfl, rfl, rfl⟩
def badL (L : Addr) : List V := [.bl true, .non, .str "0", .ref L, .int (-1), .int 3, .int 1]
def worseL (L : Addr) : List V := [.bl true, .non, .str "0", .ref L, .int (-1)]
def oddNames : List V := [.non, .int 5, .str "", .str "..", .str ".", .str "a/b", .str "A", .str (Txt.mul "a" 13), .str (Txt.mul "a" 5000)]
def oddTexts : List V := [.non, .str "", .str "A", .str "a b", .int 5]
theorem badL_ok {L : Addr} (h : H L = some (.lst [.int 0])) : ∀ v ∈ badL L, IntOdd K H v ∧ folV nds0 v = false := by
  intro v hv
  simp only [badL, List.mem_cons, List.not_mem_nil, or_false] at hv
  rcases hv with rfl | rfl | rfl | rfl | rfl | rfl | rfl
  · exact ⟨bl_int _, rfl⟩
  · exact ⟨non_int, rfl⟩
  · exact ⟨str_int _, rfl⟩
  · exact ⟨lst_int h, rfl⟩
  · exact ⟨int_odd _, by decide +kernel⟩
  · exact ⟨int_odd _, by decide +kernel⟩
  · exact ⟨int_odd _, by decide +kernel⟩
theorem worseL_ok {L : Addr} (h : H L = some (.lst [.int 0])) : ∀ v ∈ worseL L, IntOdd K H v ∧ ownV v = false ∧ leafV nds0 v = false := by
  intro v hv
  simp only [worseL, List.mem_cons, List.not_mem_nil, or_false] at hv
  rcases hv with rfl | rfl | rfl | rfl | rfl
  · exact ⟨bl_int _, rfl, rfl⟩
  · exact ⟨non_int, rfl, rfl⟩
  · exact ⟨str_int _, rfl, rfl⟩
  · exact ⟨lst_int h, rfl, rfl⟩
  · exact ⟨int_odd _, by decide +kernel, by decide +kernel⟩
theorem mul_name : nameV (.str (Txt.mul "a" 5000)) = false := by
  have e : (Txt.mul "a" 5000).length = 5000 := by
    have e : (Txt.mul "a" 5000).cps.toList = List.replicate 5000 97 := by
      have h1 : ("a" : Str).cps = #[97] := by decide +kernel
      have h2 : Txt.mul "a" 5000 = ⟨(List.replicate 5000 ("a" : Str).cps).foldl (· ++ ·) #[]⟩ := by
        unfold Txt.mul
        rw [if_neg (by decide), if_neg (by decide +kernel)]
        rfl
      rw [h2, foldl_app, h1]
      show [] ++ (List.replicate 5000 [97]).flatten = _
      rw [List.nil_append]
      have : ∀ k : Nat, (List.replicate k [97]).flatten = List.replicate k 97 := fun k => by
        induction k with
        | zero => rfl
        | succ k ih => rw [List.replicate_succ, List.flatten_cons, ih, List.replicate_succ]; rfl
      exact this 5000
    rw [TL.len_tl]
    show (Txt.mul "a" 5000).cps.toList.length = 5000
    rw [e, List.length_replicate]
  show nameZ _ = false
  unfold nameZ
  rw [e]
  rfl
theorem oddNames_ok : ∀ v ∈ oddNames, StrOdd K H v ∧ nameV v = false := by
  intro v hv
  simp only [oddNames, List.mem_cons, List.not_mem_nil, or_false] at hv
  rcases hv with rfl | rfl | rfl | rfl | rfl | rfl | rfl | rfl | rfl
  · exact ⟨non_str, rfl⟩
  · exact ⟨int_str _, rfl⟩
  · exact ⟨str_short (by decide +kernel) (by decide +kernel), by decide +kernel⟩
  · exact ⟨str_short (by decide +kernel) (by decide +kernel), by decide +kernel⟩
  · exact ⟨str_short (by decide +kernel) (by decide +kernel), by decide +kernel⟩
  · exact ⟨str_short (by decide +kernel) (by decide +kernel), by decide +kernel⟩
  · exact ⟨str_short (by decide +kernel) (by decide +kernel), by decide +kernel⟩
  · exact ⟨str_short (by decide +kernel) (by decide +kernel), by decide +kernel⟩
  · exact ⟨str_comp long_a, mul_name⟩
theorem oddTexts_ok : ∀ v ∈ oddTexts, StrOdd K H v ∧ textV v = false := by
  intro v hv
  simp only [oddTexts, List.mem_cons, List.not_mem_nil, or_false] at hv
  rcases hv with rfl | rfl | rfl | rfl | rfl
  · exact ⟨non_str, rfl⟩
  · exact ⟨str_short (by decide +kernel) (by decide +kernel), by decide +kernel⟩
  · exact ⟨str_short (by decide +kernel) (by decide +kernel), by decide +kernel⟩
  · exact ⟨str_short (by decide +kernel) (by decide +kernel), by decide +kernel⟩
  · exact ⟨int_str _, rfl⟩
end
theorem n_a : nameV (.str "a") = true := by decide +kernel
theorem n_f : nameV (.str "f") = true := by decide +kernel
theorem f_0 : folV nds0 (.int 0) = true := by decide +kernel
theorem why_1 {v : V} (h : folV nds0 v = false) : whyV nds0 1 [v, .str "a", .int 0] = .str "folder" := by
  simp [whyV, fosV, h]
theorem why_5 {v : V} (h : folV nds0 v = false) : whyV nds0 5 [.int 0, .str "f", v, .str "a"] = .str "folder" ∧ ((fosV 5 [.int 0, .str "f", v, .str "a"]).all (folV nds0) && (nosV 5 [.int 0, .str "f", v, .str "a"]).all nameV) = false := by
  constructor
  · simp [whyV, fosV, h]
  · simp [fosV, h]
theorem why_0 {v : V} (h : ownV v = false) : whyV nds0 0 [.int 0, .str "a", v] = .str "owner" := by
  simp [whyV, fosV, nosV, f_0, n_a, h]
theorem why_3 {v : V} (h : leafV nds0 v = false) : whyV nds0 3 [.int 0, .str "a", v] = .str "none" := by
  simp [whyV, fosV, nosV, f_0, n_a, lackV, h]
theorem leaf_2 : leafV nds0 (.int 2) = false := by decide +kernel
theorem why_put : whyV nds0 3 [.int 0, .str "a", .int 1] = .non := by
  have h1 : leafV nds0 (.int 1) = true := by decide +kernel
  have h2 : isNon (entV nds0 (.int 0) (.str "a")) = true := by decide +kernel
  simp [whyV, fosV, nosV, f_0, n_a, lackV, takenV, h1, h2]
theorem why_4 {v : V} (h : nameV v = false) : whyV nds0 4 [.int 0, v] = .str "name" ∧ ((fosV 4 [.int 0, v]).all (folV nds0) && (nosV 4 [.int 0, v]).all nameV) = false := by
  constructor
  · simp [whyV, fosV, nosV, f_0, h]
  · simp [nosV, h]
theorem why_5n {v : V} (h : nameV v = false) : whyV nds0 5 [.int 0, .str "f", .int 0, v] = .str "name" ∧ ((fosV 5 [.int 0, .str "f", .int 0, v]).all (folV nds0) && (nosV 5 [.int 0, .str "f", .int 0, v]).all nameV) = false := by
  constructor
  · simp [whyV, fosV, nosV, f_0, h]
  · simp [nosV, h]
theorem why_2 {v : V} (h : textV v = false) : whyV nds0 2 [.int 0, .str "a", .int 0, v] = .str "text" := by
  have h1 : ownV (.int 0) = true := rfl
  simp [whyV, fosV, nosV, f_0, n_a, h1, h]
end NW

set_option maxRecDepth 100000
set_option maxHeartbeats 1000000
/-! the law -/
namespace NW
open PySem L2 NG TR LamX
theorem in3 {i : Nat} (hi : i < 15) : inV (V.int (i : Nat)) [.int 7, .int 9, .int 12] = decide (i = 7 ∨ i = 9 ∨ i = 12) := by
  rcases (by omega : i = 0 ∨ i = 1 ∨ i = 2 ∨ i = 3 ∨ i = 4 ∨ i = 5 ∨ i = 6 ∨ i = 7 ∨ i = 8 ∨ i = 9 ∨ i = 10 ∨ i = 11 ∨ i = 12 ∨ i = 13 ∨ i = 14) with rfl | rfl | rfl | rfl | rfl | rfl | rfl | rfl | rfl | rfl | rfl | rfl | rfl | rfl | rfl <;> rfl
theorem sh_lst1 (i : Int) : SeqAt.shaped (.list [.int i]) = true := by
  unfold SeqAt.shaped
  simp [PyData.canLay0, PyData.depth, PyData.canLayAll0, PyData.depthAll]
theorem eq_lst1 (i : Int) : PyData.eqv (.list [.int i]) (.list [.int i]) = true := by simp [PyData.eqv, PyData.eqvAll]
theorem sh_four (i j : Int) : SeqAt.shaped (.tuple [.int i, .str "a", .int j, .str "b"]) = true := by
  have h1 : PyData.strOk "a" = true := by decide +kernel
  have h2 : PyData.strOk "b" = true := by decide +kernel
  unfold SeqAt.shaped
  simp [PyData.canLay0, PyData.depth, PyData.canLayAll0, PyData.depthAll, h1, h2]
theorem eq_four (i j : Int) (a b : Str) : PyData.eqv (.tuple [.int i, .str a, .int j, .str b]) (.tuple [.int i, .str a, .int j, .str b]) = true := by simp [PyData.eqv, PyData.eqvAll]
theorem eq_two (i j : Int) : PyData.eqv (.tuple [.int i, .int j]) (.tuple [.int i, .int j]) = true := by simp [PyData.eqv, PyData.eqvAll]
theorem eq_one (i : Int) : PyData.eqv (.int i) (.int i) = true := by simp [PyData.eqv]
theorem only_at {i n : Nat} (h : i < n) : ((List.range n).filter fun k => decide (k = i)) = [i] := by
  induction n with
  | zero => omega
  | succ n ih =>
    rw [List.range_succ, List.filter_append]
    by_cases e : i = n
    · subst e
      have : (List.range i).filter (fun k => decide (k = i)) = [] := by
        rw [List.filter_eq_nil_iff]
        intro k hk
        have := List.mem_range.mp hk
        simp
        omega
      rw [this]
      simp
    · rw [ih (by omega)]
      have : [n].filter (fun k => decide (k = i)) = [] := by simp; omega
      rw [this, List.append_nil]
theorem dps4 {K : PySem.W.Frag} {H : Hp} {xs : List V} {x y : Int} {a b : Str} (h : DpAll K H xs [.int x, .str a, .int y, .str b]) : xs = [.int x, .str a, .int y, .str b] := by
  cases h with
  | cons h1 h => cases h with
    | cons h2 h => cases h with
      | cons h3 h => cases h with
        | cons h4 h => cases h; cases h1; cases h2; cases h3; cases h4; rfl
theorem dps3 {K : PySem.W.Frag} {H : Hp} {xs : List V} {x y : Int} {a : Str} (h : DpAll K H xs [.int x, .str a, .int y]) : xs = [.int x, .str a, .int y] := by
  cases h with
  | cons h1 h => cases h with
    | cons h2 h => cases h with
      | cons h3 h => cases h; cases h1; cases h2; cases h3; rfl
theorem ThsAt.same {K : PySem.W.Frag} {ct : Nat → Addr} {H H' : Hp} {l : Addr} {ads : List Addr} {ts : List (Nat × List PyData)} (h : ThsAt K ct H l ads ts) (s : Same H H') : ThsAt K ct H' l ads ts := ⟨s _ _ h.ls, h.len, fun k a t x y => (h.at_ k a t x y).same s⟩
/-- the thing at k -/
theorem ThsAt.get {K : PySem.W.Frag} {ct : Nat → Addr} {H : Hp} {l : Addr} {ads : List Addr} {ts : List (Nat × List PyData)} (h : ThsAt K ct H l ads ts) {k : Nat} (hk : k < ts.length) : ∃ a t, ads[k]? = some a ∧ ts[k]? = some t ∧ (ads.map V.ref)[k]? = some (.ref a) ∧ ThAt K ct H a t := by
  have h1 : k < ads.length := by rw [h.len]; exact hk
  have e1 := List.getElem?_eq_getElem h1
  have e2 := List.getElem?_eq_getElem hk
  exact ⟨_, _, e1, e2, by rw [List.getElem?_map, e1]; rfl, h.at_ k _ _ e1 e2⟩
abbrev sLaw : Stmt := top 68
def lawN : List Str := ["_law_script", "_law_cell", "_law_s", "_law_x", "_law_y", "_law_one", "_law_two", "_law_three", "_law_at", "_law_thing", "_law_move", "_law_look", "_law_bad", "_law_worse", "_law_name", "_law_k", "_law_other"]
def spLaw (K : PySem.W.Frag) (P0 : Addr) : Sp := fun vs H Q _ => ∃ (a : Addr) (ns : List Int), vs = [.ref a] ∧ SqL K H a (ns.map V.int) ∧ ns.length ≤ 63 ∧ Tabs [(P0, qBy)] H ∧ ∀ H', Q (.bl true) H'
structure TxtL (K : PySem.W.Frag) (mg : Str → Option Value) (fState fDigit fThings fWhy : Addr) : Prop where
  m_enumerate : mg "enumerate" = none
  g_state : mg "_law_state" = some (.ref fState)
  kp_state : PySem.W.keepIn K (.ref fState) = true
  g_digit : mg "_law_digit" = some (.ref fDigit)
  kp_digit : PySem.W.keepIn K (.ref fDigit) = true
  g_things : mg "_law_things" = some (.ref fThings)
  kp_things : PySem.W.keepIn K (.ref fThings) = true
  g_why : mg "_law_why" = some (.ref fWhy)
  kp_why : PySem.W.keepIn K (.ref fWhy) = true
/-- what stays while a cell is tried: all of before, the tables, the drawn numbers' state -/
structure Stay (P0 : Addr) (Hb : Hp) (p : Addr) (H : Hp) : Prop where
  nw : ∀ u, Hb p = some u → (∀ ps, u ≠ .tbl ps) → False
  ex : ExtN Hb H
  tb : Tabs [(P0, qBy)] H
  st : ∃ o, H p = some o ∧ DSo o
theorem dso_tbl {o : HO} (h : DSo o) : ∀ ps, o ≠ .tbl ps := fun _ z => by obtain ⟨_, _, _, q, _⟩ := h; rw [q] at z; cases z
theorem Stay.draw {P0 : Addr} {Hb H : Hp} {p : Addr} {o : HO} (h : Stay P0 Hb p H) (d : DSo o) : Stay P0 Hb p (upd H p o) := by
  obtain ⟨o1, e1, d1⟩ := h.st
  refine ⟨h.nw, fun b u e n => ?_, ?_, o, upd_same, d⟩
  · have nb : b ≠ p := fun q => h.nw u (q ▸ e) n
    rw [upd_ne nb]
    exact h.ex b u e n
  · obtain ⟨x, y, z, q, _⟩ := d
    obtain ⟨x1, y1, z1, q1, _⟩ := d1
    rw [q1] at e1
    subst q
    exact tabs_lst h.tb e1
theorem Stay.ext {P0 : Addr} {Hb H H' : Hp} {p : Addr} (h : Stay P0 Hb p H) (e : ExtN H H') (t : Tabs [(P0, qBy)] H') : Stay P0 Hb p H' :=
  let ⟨o, e1, d1⟩ := h.st; ⟨h.nw, h.ex.trans e, t, o, e _ _ e1 (dso_tbl d1), d1⟩
theorem Stay.same {P0 : Addr} {Hb H H' : Hp} {p : Addr} (h : Stay P0 Hb p H) (s : Same H H') : Stay P0 Hb p H' := h.ext (ExtN.same s) (h.tb.ext s)
section
variable {P : Program} {w : World} {K : PySem.W.Frag} {mg : Str → Option Value} {base : Heap} {fState fDigit fThings fWhy fLaw P0 : Addr} {ct fa fi fe : Nat → Addr}
theorem scLaw : FnScope lawN ["_law_script"] (defScope sLaw) := ⟨rfl, rfl, rfl, by decide +kernel, rfl, by decide +kernel, by decide +kernel⟩
theorem ok_law {fd fdS fdD fdT fdW fk0 fk1 fk2 fk3 fk4 fk5 fk8 : FuncData} (F : Fun K "law" "law" sLaw fLaw fd) (D : TxtDd K mg ct fa) (L : TxtL K mg fState fDigit fThings fWhy) (TH : TxtTh K ct) (TN : TxtNf K ct fe) (hE : EqFns P w K mg base ct fe) (M : ∀ i, i < 11 → Mk K (ct i) (fi i))
    (GS : FnOk P w K mg base CX0 1 fState fdS ["_law_source"] spState) (bS : Binds K fdS ["_law_source"] [])
    (GD : FnOk P w K mg base CX0 1 fDigit fdD ["_law_state_here", "_law_base"] spDigit) (bD : Binds K fdD ["_law_state_here", "_law_base"] [])
    (GTh : FnOk P w K mg base CX0 5 fThings fdT ["_law_x", "_law_y"] (spThings K ct)) (bTh : Binds K fdT ["_law_x", "_law_y"] [])
    (GW : FnOk P w K mg base CX0 11 fWhy fdW ["_law_deed"] (spLWhy K ct P0)) (bW : Binds K fdW ["_law_deed"] [])
    (G0 : FnOk P w K mg base CX0 1 (fi 0) fk0 ["self", "folder", "name", "owner"] (spMk (ct 0) (dns 0))) (b0 : Binds K fk0 ["self", "folder", "name", "owner"] [])
    (G1 : FnOk P w K mg base CX0 1 (fi 1) fk1 ["self", "folder", "name", "owner"] (spMk (ct 1) (dns 1))) (b1 : Binds K fk1 ["self", "folder", "name", "owner"] [])
    (G2 : FnOk P w K mg base CX0 1 (fi 2) fk2 ["self", "folder", "name", "owner", "text"] (spMk (ct 2) (dns 2))) (b2 : Binds K fk2 ["self", "folder", "name", "owner", "text"] [])
    (G3 : FnOk P w K mg base CX0 1 (fi 3) fk3 ["self", "folder", "name", "node"] (spMk (ct 3) (dns 3))) (b3 : Binds K fk3 ["self", "folder", "name", "node"] [])
    (G4 : FnOk P w K mg base CX0 1 (fi 4) fk4 ["self", "folder", "name"] (spMk (ct 4) (dns 4))) (b4 : Binds K fk4 ["self", "folder", "name"] [])
    (G5 : FnOk P w K mg base CX0 1 (fi 5) fk5 ["self", "folder", "name", "goal", "other"] (spMk (ct 5) (dns 5))) (b5 : Binds K fk5 ["self", "folder", "name", "goal", "other"] [])
    (G8 : FnOk P w K mg base CX0 3 (fi 8) fk8 ["self", "follow", "last", "owners"] (spLkG K (ct 8))) (b8 : Binds K fk8 ["self", "follow", "last", "owners"] []) :
    FnOk P w K mg base CX0 12 fLaw fd ["_law_script"] (spLaw K P0) := by
  have nd := scLaw.nd
  refine F.ok scLaw (fun vs H Q E h => ?_) (fun cdv A outer s H vs Q E hr h => ?_)
  · obtain ⟨a, ns, rfl, _⟩ := h
    rfl
  · obtain ⟨a, ns, rfl, hS, hlen, hT0, k⟩ := h
    have hr1 : Room 1 _ := hr.mono (by decide)
    have hr2 : Room 2 _ := hr.mono (by decide)
    have hr4 : Room 4 _ := hr.mono (by decide)
    have hr5 : Room 5 _ := hr.mono (by decide)
    have hr11 : Room 11 _ := hr.mono (by decide)
    have hs : sizeLine = 16777216 := sizeLine_eq
    have hu := hu64 hr
    refine ⟨_, (pss_cons (ps_for PassesOwn.never rfl (pi_list (pe_slice sl_list (pe_op op_catS (pv 0) (pe_lst (pa_cons pe_int pa_nil))) po_none (po_some pe_int))) (pg_name (i := 1) nd rfl (Or.inl rfl))
  (pss_cons (ps_set (i := 2) nd rfl (Or.inl rfl) (pe_call GS hr1 (by rfl) L.g_state L.kp_state bS .nil pass0 (pa_cons (pv 1) pa_nil)))
  (pss_cons (ps_par (i := 3) (j := 4) (by rfl) nd rfl rfl (by decide) rfl rfl (pa_cons (pe_call GD hr1 (by rfl) L.g_digit L.kp_digit bD .nil pass0 (pa_cons (pv 2) (pa_cons pe_int pa_nil))) (pa_cons (pe_op op_add pe_int (pe_call GD hr1 (by rfl) L.g_digit L.kp_digit bD .nil pass0 (pa_cons (pv 2) (pa_cons pe_int pa_nil)))) pa_nil)) (by rfl))
  (pss_cons (ps_par3 (i := 5) (j := 6) (l := 7) (by rfl) nd rfl rfl rfl (by decide) (by decide) (by decide) rfl rfl rfl (pa_cons (pe_call GTh hr5 (by rfl) L.g_things L.kp_things bTh .nil pass0 (pa_cons (pv 3) (pa_cons (pv 4) pa_nil))) (pa_cons (pe_call GTh hr5 (by rfl) L.g_things L.kp_things bTh .nil pass0 (pa_cons (pv 3) (pa_cons (pv 4) pa_nil))) (pa_cons (pe_call GTh hr5 (by rfl) L.g_things L.kp_things bTh .nil pass0 (pa_cons (pe_op op_add (pv 3) pe_int) (pa_cons (pv 4) pa_nil))) pa_nil))) (by rfl))
  (pss_cons (ps_for PassesOwn.never rfl (pi_enum (by rfl) L.m_enumerate (pa_cons (pv 5) pa_nil)) (pg_tup (by rfl) (pgs_cons (pg_name (i := 8) nd rfl (Or.inl rfl)) (pgs_cons (pg_name (i := 9) nd rfl (Or.inr rfl)) pgs_nil)))
  (pss_cons (ps_if (pt_cut (PW.pt (pw_or (pt_cmpR (op_neD hu) (pe_lc (own := [("_law_k", 15), ("_law_other", 16)]) (g := gTup K 2 (gCons (gName 15) (gCons (gName 16) gNil))) (tt := tTest (tOp (rTh K ct fun k => k) (tVar 9) (tVar 16))) rfl nd (pi_enum (by rfl) L.m_enumerate (pa_cons (pv 6) pa_nil)) (blkOk_by (N := lawN) (sc := defScope sLaw) (by decide +kernel)) (fun _ _ _ _ _ => (pg_tup (by rfl) (pgs_cons (pg_name (i := 15) nd rfl (Or.inl rfl)) (pgs_cons (pg_name (i := 16) nd rfl (Or.inl rfl)) pgs_nil)))) (fun _ _ _ _ _ => pts_one (pt_cmpR (op_eqTh TN hE hr1) (pv 9) (pv 16) (nomark _))) (fun _ _ _ _ _ => (pv 15))) (pe_lst (pa_cons (pv 8) pa_nil)) (nomark _)) (pw_or1 (pt_cmpR (op_neTh TN hE hr2) (pv 9) (pe_ix ix_list (pv 6) (pv 8) (fun _ _ => rfl)) (nomark _)))))) (pss_one (ps_ret pe_bl)) pss_nil)
  (pss_one (ps_if (pt_cut (PW.pt (pw_or (PW.pt (pw_and (pt_cmpR op_notIn_seq (pv 8) (pe_tup (pa_cons pe_int (pa_cons pe_int (pa_cons pe_int pa_nil)))) (by rfl)) (pw_and1 (pt_cmpR (op_eqTh TN hE hr1) (pv 9) (pe_ix ix_list (pv 7) (pv 8) (fun _ _ => rfl)) (nomark _))))) (pw_or (pt_cmpR (op_eqTh TN hE hr1) (pv 9) (pv 3) (nomark _)) (pw_or1 (pt_cmpR (op_eqTh TN hE hr1) (pv 9) pe_str (nomark _))))))) (pss_one (ps_ret pe_bl)) pss_nil))))
  (pss_cons (ps_par (i := 10) (j := 11) (by rfl) nd rfl rfl (by decide) rfl rfl (pa_cons (pe_ix ix_list (pv 5) pe_int (fun _ _ => rfl)) (pa_cons (pe_make (M 8 (by decide)) G8 hr4 (by rfl) D.m_Look b8 .nil pass0 (pa_cons pe_bl (pa_cons pe_bl (pa_cons (pe_lst (pa_cons (pv 3) (pa_cons (pv 4) pa_nil))) pa_nil)))) pa_nil)) (by rfl))
  (pss_cons (ps_if (pt_cut (PW.pt (pw_or (pt_cmpR (op_neD hu) (pe_tup (pa_cons (pe_fld (pv 10) rfl) (pa_cons (pe_fld (pv 10) rfl) (pa_cons (pe_fld (pv 10) rfl) (pa_cons (pe_fld (pv 10) rfl) pa_nil))))) (pe_tup (pa_cons (pv 3) (pa_cons pe_str (pa_cons (pv 4) (pa_cons pe_str pa_nil))))) (nomark _)) (pw_or1 (pt_cmpR (op_neD hu) (pe_fld (pv 11) rfl) (pe_tup (pa_cons (pv 3) (pa_cons (pv 4) pa_nil))) (nomark _)))))) (pss_one (ps_ret pe_bl)) pss_nil)
  (pss_cons (ps_if (pt_cut (PW.pt (pw_or (pt_cmpR (op_neD hu) (pe_tup (pa_cons (pe_fld (pe_ix ix_list (pv 5) pe_int (fun _ _ => rfl)) rfl) (pa_cons (pe_fld (pe_ix ix_list (pv 5) pe_int (fun _ _ => rfl)) rfl) (pa_cons (pe_fld (pe_ix ix_list (pv 5) pe_int (fun _ _ => rfl)) rfl) (pa_cons (pe_fld (pe_ix ix_list (pv 5) pe_int (fun _ _ => rfl)) rfl) pa_nil))))) (pe_tup (pa_cons (pv 3) (pa_cons pe_str (pa_cons (pv 4) (pa_cons pe_str pa_nil))))) (nomark _)) (pw_or1 (pt_cmpR (op_neD hu) (pe_fld (pe_ix ix_list (pv 5) pe_int (fun _ _ => rfl)) rfl) (pv 4) (nomark _)))))) (pss_one (ps_ret pe_bl)) pss_nil)
  (pss_cons (ps_set (i := 12) nd rfl (Or.inl rfl) (pe_ix ix_list (pe_lst (pa_cons pe_bl (pa_cons pe_non (pa_cons pe_str (pa_cons (pe_lst (pa_cons pe_int pa_nil)) (pa_cons (pe_un un_neg pe_int) (pa_cons pe_int (pa_cons pe_int pa_nil)))))))) (pe_call GD hr1 (by rfl) L.g_digit L.kp_digit bD .nil pass0 (pa_cons (pv 2) (pa_cons pe_int pa_nil))) (fun _ _ => rfl)))
  (pss_cons (ps_if (pt_cut (PW.pt (pw_or (pt_cmpR op_ne (pe_call GW hr11 (by rfl) L.g_why L.kp_why bW .nil pass0 (pa_cons (pe_make (M 1 (by decide)) G1 hr2 (by rfl) D.m_MakeFile b1 .nil pass0 (pa_cons (pv 12) (pa_cons pe_str (pa_cons pe_int pa_nil)))) pa_nil)) pe_str (nomark _)) (pw_or1 (pt_cmpR op_ne (pe_call GW hr11 (by rfl) L.g_why L.kp_why bW .nil pass0 (pa_cons (pe_make (M 5 (by decide)) G5 hr2 (by rfl) D.m_Move b5 .nil pass0 (pa_cons pe_int (pa_cons pe_str (pa_cons (pv 12) (pa_cons pe_str pa_nil))))) pa_nil)) pe_str (nomark _)))))) (pss_one (ps_ret pe_bl)) pss_nil)
  (pss_cons (ps_set (i := 13) nd rfl (Or.inl rfl) (pe_ix ix_list (pe_lst (pa_cons pe_bl (pa_cons pe_non (pa_cons pe_str (pa_cons (pe_lst (pa_cons pe_int pa_nil)) (pa_cons (pe_un un_neg pe_int) pa_nil)))))) (pe_call GD hr1 (by rfl) L.g_digit L.kp_digit bD .nil pass0 (pa_cons (pv 2) (pa_cons pe_int pa_nil))) (fun _ _ => rfl)))
  (pss_cons (ps_if (pt_cut (PW.pt (pw_or (pt_cmpR op_ne (pe_call GW hr11 (by rfl) L.g_why L.kp_why bW .nil pass0 (pa_cons (pe_make (M 0 (by decide)) G0 hr2 (by rfl) D.m_MakeFolder b0 .nil pass0 (pa_cons pe_int (pa_cons pe_str (pa_cons (pv 13) pa_nil)))) pa_nil)) pe_str (nomark _)) (pw_or1 (pt_cmpR op_ne (pe_call GW hr11 (by rfl) L.g_why L.kp_why bW .nil pass0 (pa_cons (pe_make (M 3 (by decide)) G3 hr2 (by rfl) D.m_Put b3 .nil pass0 (pa_cons pe_int (pa_cons pe_str (pa_cons (pv 13) pa_nil)))) pa_nil)) pe_str (nomark _)))))) (pss_one (ps_ret pe_bl)) pss_nil)
  (pss_cons (ps_if (pt_cut (PW.pt (pw_or (pt_cmpR op_ne (pe_call GW hr11 (by rfl) L.g_why L.kp_why bW .nil pass0 (pa_cons (pe_make (M 3 (by decide)) G3 hr2 (by rfl) D.m_Put b3 .nil pass0 (pa_cons pe_int (pa_cons pe_str (pa_cons pe_int pa_nil)))) pa_nil)) pe_str (nomark _)) (pw_or1 (pt_cmp (pc_notN (pe_call GW hr11 (by rfl) L.g_why L.kp_why bW .nil pass0 (pa_cons (pe_make (M 3 (by decide)) G3 hr2 (by rfl) D.m_Put b3 .nil pass0 (pa_cons pe_int (pa_cons pe_str (pa_cons pe_int pa_nil)))) pa_nil)))))))) (pss_one (ps_ret pe_bl)) pss_nil)
  (pss_cons (ps_set (i := 14) nd rfl (Or.inl rfl) (pe_ix ix_list (pe_lst (pa_cons pe_non (pa_cons pe_int (pa_cons pe_str (pa_cons pe_str (pa_cons pe_str (pa_cons pe_str (pa_cons pe_str (pa_cons (pe_op op_mulStr pe_str pe_int) (pa_cons (pe_op op_mulStr pe_str pe_int) pa_nil)))))))))) (pe_call GD hr1 (by rfl) L.g_digit L.kp_digit bD .nil pass0 (pa_cons (pv 2) (pa_cons pe_int pa_nil))) (fun _ _ => rfl)))
  (pss_cons (ps_if (pt_cut (PW.pt (pw_or (pt_cmpR op_ne (pe_call GW hr11 (by rfl) L.g_why L.kp_why bW .nil pass0 (pa_cons (pe_make (M 4 (by decide)) G4 hr2 (by rfl) D.m_Take b4 .nil pass0 (pa_cons pe_int (pa_cons (pv 14) pa_nil))) pa_nil)) pe_str (nomark _)) (pw_or1 (pt_cmpR op_ne (pe_call GW hr11 (by rfl) L.g_why L.kp_why bW .nil pass0 (pa_cons (pe_make (M 5 (by decide)) G5 hr2 (by rfl) D.m_Move b5 .nil pass0 (pa_cons pe_int (pa_cons pe_str (pa_cons pe_int (pa_cons (pv 14) pa_nil))))) pa_nil)) pe_str (nomark _)))))) (pss_one (ps_ret pe_bl)) pss_nil)
  (pss_one (ps_if (pt_cmpR op_ne (pe_call GW hr11 (by rfl) L.g_why L.kp_why bW .nil pass0 (pa_cons (pe_make (M 2 (by decide)) G2 hr2 (by rfl) D.m_MakeLink b2 .nil pass0 (pa_cons pe_int (pa_cons pe_str (pa_cons pe_int (pa_cons (pe_ix ix_list (pe_lst (pa_cons pe_non (pa_cons pe_str (pa_cons pe_str (pa_cons pe_str (pa_cons pe_int pa_nil)))))) (pe_call GD hr1 (by rfl) L.g_digit L.kp_digit bD .nil pass0 (pa_cons (pv 2) (pa_cons pe_int pa_nil))) (fun _ _ => rfl)) pa_nil))))) pa_nil)) pe_str (nomark _)) (pss_one (ps_ret pe_bl)) pss_nil)))))))))))))))))
  (pss_one (ps_ret pe_bl))), ?_⟩
    refine ⟨_, rfl, (by show 1 ≤ sizeLine; decide), fun q hq => ⟨a, q, ns.map V.int, [.int 0], rfl, rfl, (NG.Same.upd hq).seq hS, SqL.of upd_same, (by rw [List.length_map]; show ns.length + 1 ≤ _; omega), fun r hr' => ?_⟩⟩
    have sa : Same H (upd (upd H q (.lst [.int 0])) r (.lst (ns.map V.int ++ [.int 0]))) := (NG.Same.upd hq).trans (NG.Same.upd hr')
    have er : (upd (upd H q (.lst [.int 0])) r (.lst (ns.map V.int ++ [.int 0]))) r = some (.lst (ns.map V.int ++ [.int 0])) := upd_same
    generalize upd (upd H q (.lst [.int 0])) r (.lst (ns.map V.int ++ [.int 0])) = Ha at sa er
    refine ⟨_, rfl, r, _, rfl, SqL.of er, fun c hc => ?_⟩
    have sb : Same H (upd Ha c (.lst (cutV (ns.map V.int ++ [.int 0]) none (some 3)))) := sa.trans (NG.Same.upd hc)
    have ec : (upd Ha c (.lst (cutV (ns.map V.int ++ [.int 0]) none (some 3)))) c = some (.lst (cutV (ns.map V.int ++ [.int 0]) none (some 3))) := upd_same
    have hints : ∀ x ∈ cutV (ns.map V.int ++ [.int 0]) none (some 3), ∃ n, x = V.int n := fun x hx => by
      have h1 : x ∈ ns.map V.int ++ [.int 0] := List.mem_of_mem_drop (List.mem_of_mem_take hx)
      rcases List.mem_append.mp h1 with h | h
      · obtain ⟨n, _, e⟩ := List.mem_map.mp h
        exact ⟨n, e.symm⟩
      · exact ⟨0, List.mem_singleton.mp h⟩
    generalize cutV (ns.map V.int ++ [.int 0]) none (some 3) = cells at sb ec hints
    generalize upd Ha c (.lst cells) = Hb at sb ec
    have hTb : Tabs [(P0, qBy)] Hb := hT0.ext fun b u e => sb _ _ e
    refine ⟨c, rfl, ⟨_, SqL.of ec⟩, for_list (K := K) (a := c) (xs := cells) (fun i σ H' => (∃ v1 v2 v3 v4 v5 v6 v7 v8 v9 v10 v11 v12 v13 v14 v15 v16 : Option V, σ = [some (.ref a), v1, v2, v3, v4, v5, v6, v7, v8, v9, v10, v11, v12, v13, v14, v15, v16]) ∧ ExtN Hb H' ∧ Tabs [(P0, qBy)] H')
      ⟨⟨none, none, none, none, none, none, none, none, none, none, none, none, none, none, none, none, rfl⟩, ExtN.refl _, hTb⟩ (fun i σ H' _ h => ExtN.sqL h.2.1 (SqL.of ec)) ?_ ?_⟩
    · rintro i y σ H1 hi ⟨⟨v1, v2, v3, v4, v5, v6, v7, v8, v9, v10, v11, v12, v13, v14, v15, v16, rfl⟩, e1, t1⟩
      obtain ⟨n, rfl⟩ := hints y (List.mem_of_getElem? hi)
      refine ⟨_, rfl, n, rfl, fun p o hp ho => ?_⟩
      have S1 : Stay P0 Hb p (upd H1 p o) := by
        have nb : ∀ u, Hb p = some u → (∀ ps, u ≠ .tbl ps) → False := fun u e n => by rw [e1 _ _ e n] at hp; cases hp
        exact ⟨nb, e1.trans (ExtN.same (NG.Same.upd hp)), t1.ext (NG.Same.upd hp), o, upd_same, ho⟩
      generalize upd H1 p o = H2 at S1 ⊢
      obtain ⟨o1, ep1, ho1⟩ := S1.st
      refine ⟨_, rfl, p, 9, o1, rfl, by decide, by decide, ep1, ho1, fun x o2 x0 x1 ho2 => ?_⟩
      have S2 := S1.draw ho2
      generalize upd H2 p o2 = H3 at S2 ⊢
      obtain ⟨o3, ep3, ho3⟩ := S2.st
      refine ⟨_, rfl, p, 9, o3, rfl, by decide, by decide, ep3, ho3, fun y0 o4 y00 y01 ho4 => ?_⟩
      have S4 := S2.draw ho4
      generalize upd H3 p o4 = H4 at S4 ⊢
      refine ⟨_, _, rfl, rfl, V.int x, V.int (10 + y0), rfl, ?_⟩
      have y10 : 0 ≤ 10 + y0 := by omega
      generalize (10 : Int) + y0 = y at y10 ⊢
      refine ⟨_, rfl, _, rfl, x, y, rfl, x0, y10, fun H5 l1 ads1 s5 T1 => ?_⟩
      refine ⟨_, rfl, _, rfl, x, y, rfl, x0, y10, fun H6 l2 ads2 s6 T2 => ?_⟩
      refine ⟨_, rfl, _, _, rfl, rfl, _, rfl, x + 1, y, rfl, by omega, y10, fun H7 l3 ads3 s7 T3 => ?_⟩
      refine ⟨_, _, _, rfl, ?_⟩
      have S7 := S4.same (s5.trans (s6.trans s7))
      have T1' := T1.same (s6.trans s7)
      have T2' := T2.same s7
      clear S1 S2 S4 s5 s6 s7 T1 T2 ep1 ho1 ep3 ho3
      refine ⟨_, rfl, l1, _, rfl, SqL.of T1'.ls, for_it (walk_enum (K := K) (a := l1) (xs := ads1.map V.ref)) (fun i σ H' => (∃ w8 w9 w10 w11 w12 w13 w14 w15 w16 : Option V, σ = [some (.ref a), some (.int n), some (.ref p), some (.int x), some (.int y), some (.ref l1), some (.ref l2), some (.ref l3), w8, w9, w10, w11, w12, w13, w14, w15, w16]) ∧ Same H7 H')
        ⟨⟨_, _, _, _, _, _, _, _, _, rfl⟩, Same.refl _⟩ (fun i σ H' _ h => SqL.of (h.2 _ _ T1'.ls)) ?_ ?_⟩
      · rintro i xi σ M M' hi ⟨⟨w8, w9, w10, w11, w12, w13, w14, w15, w16, rfl⟩, sM⟩ ⟨Tq, ki, e, rfl, hTq, rfl, h1, h2⟩
        have hi15 : i < 15 := by
          have := (List.getElem?_eq_some_iff.mp h2).1
          rw [List.length_map, T1'.len] at this
          exact this
        cases Option.some.inj h1
        obtain ⟨a1, t, ha1, ht1, hr1', Th1⟩ := T1'.get (k := i) hi15
        cases Option.some.inj (hr1'.symm.trans h2)
        have ct1 := things_cls ht1
        have sT := sM.trans (NG.Same.upd (o := HO.tup [V.int (i : Nat), V.ref a1]) hTq)
        have eT : (upd M Tq (HO.tup [V.int (i : Nat), V.ref a1])) Tq = some (.tup [V.int (i : Nat), V.ref a1]) := upd_same
        generalize upd M Tq (HO.tup [V.int (i : Nat), V.ref a1]) = M1 at sT eT
        refine ⟨Tq, _, rfl, SqT.of eT, rfl, ?_⟩
        refine ⟨_, _, rfl, _, _, rfl, rfl, ?_⟩
        refine ⟨fun b H' => Same H7 H' ∧ b = false, ?_, ?_⟩
        · refine ⟨_, rfl, l2, _, rfl, SqL.of (sT _ _ T2'.ls), fun D1 hD1 => ?_⟩
          refine lc_enum (K := K) (a := l2) (xs := ads2.map V.ref) (i := 15) (j := 16) (by decide) (fun k => decide (k = i)) (fun k => V.int (k : Nat)) (by rw [List.length_map, T2'.len]; show 15 < sizeLine; omega) hD1 (fun H' s => SqL.of (s _ _ (sT _ _ T2'.ls))) (fun k x' H' R hx s hR => ?_) (fun k x' H' R _ _ s hR => ⟨_, rfl, hR _ (Same.refl _)⟩) (fun M2 s2 e2 => ?_)
          · have hk15 : k < 15 := by
              have := (List.getElem?_eq_some_iff.mp hx).1
              rw [List.length_map, T2'.len] at this
              exact this
            obtain ⟨a2, u, ha2, hu2, hr2', Th2⟩ := T2'.get (k := k) hk15
            cases Option.some.inj (hr2'.symm.trans hx)
            refine ⟨_, rfl, _, rfl, th_th TH TN ct1 (things_cls hu2) (Th1.same (sT.trans s)) (Th2.same (sT.trans s)) ⟨_, rfl, ?_⟩⟩
            rw [things_eq ht1 hu2]
            exact hR _ (Same.refl _)
          · have el : (ads2.map V.ref).length = 15 := by rw [List.length_map, T2'.len]; rfl
            rw [el, only_at hi15] at e2
            have sT2 := sT.trans s2
            refine ⟨_, rfl, (by show 1 ≤ sizeLine; omega), fun q1 hq1 => ?_⟩
            have s3 := NG.Same.upd (o := HO.lst [V.int (i : Nat)]) hq1
            refine ⟨.list [.int (i : Nat)], .list [.int (i : Nat)], .lst (SqL.of (s3 _ _ e2)) (.cons (.int _) .nil), .lst (SqL.of upd_same) (.cons (.int _) .nil), sh_lst1 _, sh_lst1 _, _, rfl, ?_⟩
            rw [eq_lst1]
            refine iteF ?_
            obtain ⟨a2, u, ha2, hu2, hr2', Th2⟩ := T2'.get (k := i) hi15
            have sT3 := sT2.trans s3
            refine ⟨_, rfl, _, rfl, _, rfl, l2, _, _, _, rfl, rfl, SqL.of (sT3 _ _ T2'.ls), atI_nat hr2', th_th TH TN ct1 (things_cls hu2) (Th1.same sT3) (Th2.same sT3) ⟨_, rfl, sT3, ?_⟩⟩
            rw [things_eq ht1 hu2]
            simp
        rintro b M3 ⟨s3, rfl⟩
        refine iteF ?_
        refine ⟨fun b H' => Same H7 H' ∧ b = false, ?_, ?_⟩
        · refine ⟨_, rfl, (by show 3 ≤ sizeLine; omega), fun q1 hq1 => ⟨q1, _, rfl, .inr (SqT.of upd_same), rfl, rfl, _, rfl, ?_⟩⟩
          have s4 := s3.trans (NG.Same.upd (o := HO.tup [V.int 7, V.int 9, V.int 12]) hq1)
          generalize upd M3 q1 (HO.tup [V.int 7, V.int 9, V.int 12]) = M4 at s4 ⊢
          rw [if_pos rfl, in3 hi15]
          refine ite2 (fun h => ?_) (fun h => ?_)
          · obtain ⟨a3, u, ha3, hu3, hr3', Th3⟩ := T3.get (k := i) hi15
            refine ⟨_, rfl, _, rfl, _, rfl, l3, _, _, _, rfl, rfl, SqL.of (s4 _ _ T3.ls), atI_nat hr3', th_th TH TN ct1 (things_cls hu3) (Th1.same s4) (Th3.same s4) ⟨_, rfl, ?_⟩⟩
            have hf : decide (i = 7 ∨ i = 9 ∨ i = 12) = false := by simpa using h
            rw [things_next ht1 hu3, hf]
            refine iteF ⟨_, rfl, _, rfl, th_no TN ct1 (Th1.same s4) (.inl ⟨x, rfl⟩) ⟨_, rfl, iteF ?_⟩⟩
            exact ⟨_, rfl, th_no TN ct1 (Th1.same s4) (.inr ⟨"none", rfl⟩) ⟨_, rfl, s4, rfl⟩⟩
          · refine iteF ⟨_, rfl, _, rfl, th_no TN ct1 (Th1.same s4) (.inl ⟨x, rfl⟩) ⟨_, rfl, iteF ?_⟩⟩
            exact ⟨_, rfl, th_no TN ct1 (Th1.same s4) (.inr ⟨"none", rfl⟩) ⟨_, rfl, s4, rfl⟩⟩
        rintro b M4 ⟨s4, rfl⟩
        exact iteF ⟨⟨_, _, _, _, _, _, _, _, _, rfl⟩, s4⟩
      rintro σ M ⟨⟨w8, w9, w10, w11, w12, w13, w14, w15, w16, rfl⟩, sM⟩
      -- fields
      have TM := T1'.same sM
      have SM := S7.same sM
      clear T2' T3
      obtain ⟨a5, t5, _, ht5, hr5', Th5⟩ := TM.get (k := 5) (by show 5 < 15; decide)
      obtain ⟨a2, t2, _, ht2, hr2', Th2⟩ := TM.get (k := 2) (by show 2 < 15; decide)
      obtain ⟨a3, t3, _, ht3, hr3', Th3⟩ := TM.get (k := 3) (by show 3 < 15; decide)
      cases Option.some.inj ht5
      cases Option.some.inj ht2
      cases Option.some.inj ht3
      have eL1 := TM.ls
      refine ⟨_, rfl, l1, _, 5, .ref a5, rfl, rfl, SqL.of eL1, atI_nat hr5', _, rfl, _, rfl, (by show 2 ≤ sizeLine; omega), fun lw hlw => ?_⟩
      have s1 := NG.Same.upd (o := HO.lst [V.int x, V.int y]) hlw
      have e1w : (upd M lw (HO.lst [V.int x, V.int y])) lw = some (.lst [V.int x, V.int y]) := upd_same
      generalize upd M lw (HO.lst [V.int x, V.int y]) = M1 at s1 e1w ⊢
      refine fun lk dlk nlk ndlk nelk => ?_
      have o2 : ∀ n ∈ [x, y], (0 : Int) ≤ n := fun n hn => by
        rcases List.mem_cons.mp hn with rfl | hn
        · exact x0
        · rw [List.mem_singleton.mp hn]; exact y10
      refine ⟨lk, dlk, true, false, (.ref lw), (some [x, y]), M1, rfl, upd_same, nlk, new_ext (C := ct 8) nlk ndlk, ⟨lw, rfl, .inl e1w, o2, (by simp)⟩, fun M2 s2 LK => ⟨rfl, V.ref a5, V.ref lk, rfl, ?_⟩⟩
      have s02 := s1.trans s2
      have S2 := SM.same s02
      obtain ⟨xs5, ⟨d5, f5, h5, k5⟩, dp5, _⟩ := Th5.same s02
      obtain ⟨xs2, ⟨d2, f2, h2, k2⟩, dp2, _⟩ := Th2.same s02
      obtain ⟨xs3, ⟨d3, f3, h3, k3⟩, dp3, _⟩ := Th3.same s02
      rw [dps4 dp5] at k5
      rw [dps4 dp2] at k2
      rw [dps3 dp3] at k3
      have eL2 := s02 _ _ eL1
      obtain ⟨dl, fl, hl, _, _, lo⟩ := LK
      obtain ⟨Tw, lo, hTw⟩ := lo
      obtain ⟨q50, q51, q52, q53, -⟩ := k5
      obtain ⟨q20, q21, q22, q23, -⟩ := k2
      obtain ⟨q30, q31, q32, -⟩ := k3
      refine ⟨fun b H' => Same M2 H' ∧ b = false, ?_, ?_⟩
      · refine ⟨_, rfl, a5, ct 5, d5, _, _, rfl, h5, TH.cl 5 (by decide), TH.na 5 (by decide) _ (by simp [dns]), q50, _, rfl, a5, ct 5, d5, _, _, rfl, h5, TH.cl 5 (by decide), TH.na 5 (by decide) _ (by simp [dns]), q51, _, rfl, a5, ct 5, d5, _, _, rfl, h5, TH.cl 5 (by decide), TH.na 5 (by decide) _ (by simp [dns]), q52, _, rfl, a5, ct 5, d5, _, _, rfl, h5, TH.cl 5 (by decide), TH.na 5 (by decide) _ (by simp [dns]), q53, (by show 4 ≤ sizeLine; omega), fun u1 hu1 => ?_⟩
        have su1 := NG.Same.upd (o := HO.tup [V.int x, V.str "a", V.int y, V.str "b"]) hu1
        have eu1 : (upd M2 u1 (HO.tup [V.int x, V.str "a", V.int y, V.str "b"])) u1 = some (.tup [V.int x, V.str "a", V.int y, V.str "b"]) := upd_same
        generalize upd M2 u1 (HO.tup [V.int x, V.str "a", V.int y, V.str "b"]) = M3 at su1 eu1 ⊢
        refine ⟨_, rfl, _, rfl, (by show 4 ≤ sizeLine; omega), fun u2 hu2 => ?_⟩
        have su2 := NG.Same.upd (o := HO.tup [V.int x, V.str "a", V.int y, V.str "b"]) hu2
        refine ⟨.tuple [.int x, .str "a", .int y, .str "b"], .tuple [.int x, .str "a", .int y, .str "b"], .tup (SqT.of (su2 _ _ eu1)) (.cons (.int _) (.cons (.str _) (.cons (.int _) (.cons (.str _) .nil)))), .tup (SqT.of upd_same) (.cons (.int _) (.cons (.str _) (.cons (.int _) (.cons (.str _) .nil)))), sh_four _ _, sh_four _ _, _, rfl, ?_⟩
        rw [eq_four]
        have s03 := su1.trans su2
        refine iteF ⟨_, rfl, lk, ct 8, dl, _, _, rfl, s03 _ _ hl, TH.cl 8 (by decide), TH.na 8 (by decide) _ (by simp [dns]), lo, _, rfl, _, rfl, (by show 2 ≤ sizeLine; omega), fun u3 hu3 => ?_⟩
        have su3 := NG.Same.upd (o := HO.tup [V.int x, V.int y]) hu3
        refine ⟨.tuple [.int x, .int y], .tuple [.int x, .int y], .tup (Same.sqT su3 (Same.sqT s03 hTw)) (.cons (.int _) (.cons (.int _) .nil)), .tup (SqT.of upd_same) (.cons (.int _) (.cons (.int _) .nil)), sh_tup2 _ _, sh_tup2 _ _, _, rfl, s03.trans su3, ?_⟩
        rw [eq_two]
        rfl
      rintro b M3 ⟨s23, rfl⟩
      refine iteF ?_
      have S3 := S2.same s23
      have eL2 := s23 _ _ eL2
      have h2 := s23 _ _ h2
      have h3 := s23 _ _ h3
      refine ⟨fun b H' => Same M3 H' ∧ b = false, ?_, ?_⟩
      · refine ⟨_, rfl, l1, _, 2, .ref a2, rfl, rfl, SqL.of eL2, atI_nat hr2', a2, ct 2, d2, _, _, rfl, h2, TH.cl 2 (by decide), TH.na 2 (by decide) _ (by simp [dns]), q20, _, rfl, l1, _, 2, .ref a2, rfl, rfl, SqL.of eL2, atI_nat hr2', a2, ct 2, d2, _, _, rfl, h2, TH.cl 2 (by decide), TH.na 2 (by decide) _ (by simp [dns]), q21, _, rfl, l1, _, 2, .ref a2, rfl, rfl, SqL.of eL2, atI_nat hr2', a2, ct 2, d2, _, _, rfl, h2, TH.cl 2 (by decide), TH.na 2 (by decide) _ (by simp [dns]), q22, _, rfl, l1, _, 2, .ref a2, rfl, rfl, SqL.of eL2, atI_nat hr2', a2, ct 2, d2, _, _, rfl, h2, TH.cl 2 (by decide), TH.na 2 (by decide) _ (by simp [dns]), q23, (by show 4 ≤ sizeLine; omega), fun u1 hu1 => ?_⟩
        have su1 := NG.Same.upd (o := HO.tup [V.int x, V.str "a", V.int y, V.str "b"]) hu1
        have eu1 : (upd M3 u1 (HO.tup [V.int x, V.str "a", V.int y, V.str "b"])) u1 = some (.tup [V.int x, V.str "a", V.int y, V.str "b"]) := upd_same
        generalize upd M3 u1 (HO.tup [V.int x, V.str "a", V.int y, V.str "b"]) = M4 at su1 eu1 ⊢
        refine ⟨_, rfl, _, rfl, (by show 4 ≤ sizeLine; omega), fun u2 hu2 => ?_⟩
        have su2 := NG.Same.upd (o := HO.tup [V.int x, V.str "a", V.int y, V.str "b"]) hu2
        refine ⟨.tuple [.int x, .str "a", .int y, .str "b"], .tuple [.int x, .str "a", .int y, .str "b"], .tup (SqT.of (su2 _ _ eu1)) (.cons (.int _) (.cons (.str _) (.cons (.int _) (.cons (.str _) .nil)))), .tup (SqT.of upd_same) (.cons (.int _) (.cons (.str _) (.cons (.int _) (.cons (.str _) .nil)))), sh_four _ _, sh_four _ _, _, rfl, ?_⟩
        rw [eq_four]
        have s03 := su1.trans su2
        have eL2 := s03 _ _ eL2
        have h3 := s03 _ _ h3
        refine iteF ⟨_, rfl, l1, _, 3, .ref a3, rfl, rfl, SqL.of eL2, atI_nat hr3', a3, ct 3, d3, _, _, rfl, h3, TH.cl 3 (by decide), TH.na 3 (by decide) _ (by simp [dns]), q32, _, rfl, .int y, .int y, .int _, .int _, sh_int _, sh_int _, _, rfl, s03, ?_⟩
        rw [eq_one]
        rfl
      rintro b M4 ⟨s34, rfl⟩
      refine iteF ?_
      have S4 := S3.same s34
      clear S7 SM S2 S3 TM T1' eL1 eL2 h5 h2 h3 s23 s34 s1 s02 hl hTw e1w
      clear Th5 Th2 Th3 dp5 dp2 dp3
      -- what is no folder
      refine ⟨(by show 1 ≤ sizeLine; omega), fun lb hlb => ?_⟩
      have sA := NG.Same.upd (o := HO.lst [V.int 0]) hlb
      have eA : (upd M4 lb (HO.lst [V.int 0])) lb = some (.lst [V.int 0]) := upd_same
      generalize upd M4 lb (HO.lst [V.int 0]) = MA at sA eA ⊢
      refine ⟨_, rfl, (by show 7 ≤ sizeLine; omega), fun lB hB => ?_⟩
      have sB := NG.Same.upd (o := HO.lst (badL lb)) hB
      have eB : (upd MA lB (HO.lst (badL lb))) lB = some (.lst (badL lb)) := upd_same
      change tCall spDigit [] E0 (tCons (tVar 2) (tCons (tC (V.int 7)) tNil)) _ (upd MA lB (HO.lst (badL lb))) _
      have eA := sB _ _ eA
      have SB := S4.same (sA.trans sB)
      generalize upd MA lB (HO.lst (badL lb)) = MB at sB eB SB eA ⊢
      obtain ⟨oD, eD, dD⟩ := SB.st
      refine ⟨_, rfl, p, 7, oD, rfl, by decide, by decide, eD, dD, fun dg oN dg0 dg1 hoN => ?_⟩
      have nLp : lB ≠ p := fun q => by
        rw [← q, eB] at eD
        cases eD
        obtain ⟨_, _, _, q2, _⟩ := dD
        simp [badL] at q2
      have eB2 : (upd MB p oN) lB = some (.lst (badL lb)) := by rw [upd_ne nLp]; exact eB
      have S6 := SB.draw hoN
      have nlp : lb ≠ p := fun q => by
        rw [← q, eA] at eD
        cases eD
        obtain ⟨_, _, _, q2, _⟩ := dD
        simp at q2
      have eA2 : (upd MB p oN) lb = some (.lst [V.int 0]) := by rw [upd_ne nlp]; exact eA
      generalize upd MB p oN = M6 at S6 eA2 eB2 ⊢
      obtain ⟨v, hv, av⟩ := pick (xs := (badL lb)) dg0 (by simpa [badL] using dg1)
      have hvv := (badL_ok (K := K) eA2) v hv
      refine ⟨lB, _, dg, v, rfl, rfl, SqL.of eB2, av, ?_⟩
      clear nLp eD dD eB hoN sB SB hv av dg0 dg1 nlp sA eA
      obtain ⟨hv1, hv2⟩ := hvv
      refine ⟨fun b H' => ExtN M6 H' ∧ Tabs [(P0, qBy)] H' ∧ b = false, ?_, ?_⟩
      · refine ⟨_, rfl, fun r0 d0 x0 y0 z0 => ⟨r0, d0, [v, .str "a", .int 0], rfl, rfl, upd_same, fun L0 b0 h0 => ⟨rfl, r0, 1, [v, .str "a", .int 0], rfl, (why_pre (K := K) (i := 1) (xs := [v, .str "a", .int 0]) (by decide) rfl (odds3 (.inr (.inl rfl)) hv1 str_a (int_odd _)) S6.tb x0 y0 b0 h0).2.1, (why_pre (K := K) (i := 1) (xs := [v, .str "a", .int 0]) (by decide) rfl (odds3 (.inr (.inl rfl)) hv1 str_a (int_odd _)) S6.tb x0 y0 b0 h0).2.2, (.inl ⟨⟨_, why_1 hv2⟩, fun h => by omega⟩), fun N0 m0 u0 => ?_⟩⟩⟩
        have n0 := (why_pre (K := K) (i := 1) (xs := [v, .str "a", .int 0]) (by decide) rfl (odds3 (.inr (.inl rfl)) hv1 str_a (int_odd _)) S6.tb x0 y0 b0 h0).1.trans m0
        rw [why_1 hv2]
        refine ⟨rfl, _, rfl, ?_⟩
        rw [decide_eq_true (rfl : V.str "folder" = V.str "folder")]
        refine iteF ⟨_, rfl, fun r1 d1 x1 y1 z1 => ⟨r1, d1, [.int 0, .str "f", v, .str "a"], rfl, rfl, upd_same, fun L1 b1 h1 => ⟨rfl, r1, 5, [.int 0, .str "f", v, .str "a"], rfl, (why_pre (K := K) (i := 5) (xs := [.int 0, .str "f", v, .str "a"]) (by decide) rfl (odds5 (int_odd _) str_f (hv1.ext n0) str_a) u0 x1 y1 b1 h1).2.1, (why_pre (K := K) (i := 5) (xs := [.int 0, .str "f", v, .str "a"]) (by decide) rfl (odds5 (int_odd _) str_f (hv1.ext n0) str_a) u0 x1 y1 b1 h1).2.2, (.inl ⟨⟨_, (why_5 hv2).1⟩, fun _ => (why_5 hv2).2⟩), fun N1 m1 u1 => ?_⟩⟩⟩
        have n1 := (why_pre (K := K) (i := 5) (xs := [.int 0, .str "f", v, .str "a"]) (by decide) rfl (odds5 (int_odd _) str_f (hv1.ext n0) str_a) u0 x1 y1 b1 h1).1.trans m1
        rw [(why_5 hv2).1]
        refine ⟨rfl, _, rfl, (n0.trans n1), u1, ?_⟩
        rw [decide_eq_true (rfl : V.str "folder" = V.str "folder")]
        rfl
      rintro b M7 ⟨eX, tX, rfl⟩
      refine iteF ?_
      have S7 := S6.ext eX tX
      clear eX tX
      clear S6 eA2 eB2 hv1 hv2
      -- what is no owner and no file
      refine ⟨(by show 1 ≤ sizeLine; omega), fun lb hlb => ?_⟩
      have sA := NG.Same.upd (o := HO.lst [V.int 0]) hlb
      have eA : (upd M7 lb (HO.lst [V.int 0])) lb = some (.lst [V.int 0]) := upd_same
      generalize upd M7 lb (HO.lst [V.int 0]) = MA at sA eA ⊢
      refine ⟨_, rfl, (by show 5 ≤ sizeLine; omega), fun lB hB => ?_⟩
      have sB := NG.Same.upd (o := HO.lst (worseL lb)) hB
      have eB : (upd MA lB (HO.lst (worseL lb))) lB = some (.lst (worseL lb)) := upd_same
      change tCall spDigit [] E0 (tCons (tVar 2) (tCons (tC (V.int 5)) tNil)) _ (upd MA lB (HO.lst (worseL lb))) _
      have eA := sB _ _ eA
      have SB := S7.same (sA.trans sB)
      generalize upd MA lB (HO.lst (worseL lb)) = MB at sB eB SB eA ⊢
      obtain ⟨oD, eD, dD⟩ := SB.st
      refine ⟨_, rfl, p, 5, oD, rfl, by decide, by decide, eD, dD, fun dg oN dg0 dg1 hoN => ?_⟩
      have nLp : lB ≠ p := fun q => by
        rw [← q, eB] at eD
        cases eD
        obtain ⟨_, _, _, q2, _⟩ := dD
        simp [worseL] at q2
      have eB2 : (upd MB p oN) lB = some (.lst (worseL lb)) := by rw [upd_ne nLp]; exact eB
      have S8 := SB.draw hoN
      have nlp : lb ≠ p := fun q => by
        rw [← q, eA] at eD
        cases eD
        obtain ⟨_, _, _, q2, _⟩ := dD
        simp at q2
      have eA2 : (upd MB p oN) lb = some (.lst [V.int 0]) := by rw [upd_ne nlp]; exact eA
      generalize upd MB p oN = M8 at S8 eA2 eB2 ⊢
      obtain ⟨v, hv, av⟩ := pick (xs := (worseL lb)) dg0 (by simpa [worseL] using dg1)
      have hvv := (worseL_ok (K := K) eA2) v hv
      refine ⟨lB, _, dg, v, rfl, rfl, SqL.of eB2, av, ?_⟩
      clear nLp eD dD eB hoN sB SB hv av dg0 dg1 nlp sA eA
      obtain ⟨hv1, hv2, hv3⟩ := hvv
      refine ⟨fun b H' => ExtN M8 H' ∧ Tabs [(P0, qBy)] H' ∧ b = false, ?_, ?_⟩
      · refine ⟨_, rfl, fun r0 d0 x0 y0 z0 => ⟨r0, d0, [.int 0, .str "a", v], rfl, rfl, upd_same, fun L0 b0 h0 => ⟨rfl, r0, 0, [.int 0, .str "a", v], rfl, (why_pre (K := K) (i := 0) (xs := [.int 0, .str "a", v]) (by decide) rfl (odds3 (.inl rfl) (int_odd _) str_a hv1) S8.tb x0 y0 b0 h0).2.1, (why_pre (K := K) (i := 0) (xs := [.int 0, .str "a", v]) (by decide) rfl (odds3 (.inl rfl) (int_odd _) str_a hv1) S8.tb x0 y0 b0 h0).2.2, (.inl ⟨⟨_, why_0 hv2⟩, fun h => by omega⟩), fun N0 m0 u0 => ?_⟩⟩⟩
        have n0 := (why_pre (K := K) (i := 0) (xs := [.int 0, .str "a", v]) (by decide) rfl (odds3 (.inl rfl) (int_odd _) str_a hv1) S8.tb x0 y0 b0 h0).1.trans m0
        rw [why_0 hv2]
        refine ⟨rfl, _, rfl, ?_⟩
        rw [decide_eq_true (rfl : V.str "owner" = V.str "owner")]
        refine iteF ⟨_, rfl, fun r1 d1 x1 y1 z1 => ⟨r1, d1, [.int 0, .str "a", v], rfl, rfl, upd_same, fun L1 b1 h1 => ⟨rfl, r1, 3, [.int 0, .str "a", v], rfl, (why_pre (K := K) (i := 3) (xs := [.int 0, .str "a", v]) (by decide) rfl (odds3 (.inr (.inr rfl)) (int_odd _) str_a (hv1.ext n0)) u0 x1 y1 b1 h1).2.1, (why_pre (K := K) (i := 3) (xs := [.int 0, .str "a", v]) (by decide) rfl (odds3 (.inr (.inr rfl)) (int_odd _) str_a (hv1.ext n0)) u0 x1 y1 b1 h1).2.2, (.inl ⟨⟨_, why_3 hv3⟩, fun h => by omega⟩), fun N1 m1 u1 => ?_⟩⟩⟩
        have n1 := (why_pre (K := K) (i := 3) (xs := [.int 0, .str "a", v]) (by decide) rfl (odds3 (.inr (.inr rfl)) (int_odd _) str_a (hv1.ext n0)) u0 x1 y1 b1 h1).1.trans m1
        rw [why_3 hv3]
        refine ⟨rfl, _, rfl, (n0.trans n1), u1, ?_⟩
        rw [decide_eq_true (rfl : V.str "none" = V.str "none")]
        rfl
      rintro b M9 ⟨eX, tX, rfl⟩
      refine iteF ?_
      have S9 := S8.ext eX tX
      clear eX tX
      clear S8 eA2 eB2 hv1 hv2 hv3
      refine ⟨fun b H' => ExtN M9 H' ∧ Tabs [(P0, qBy)] H' ∧ b = false, ?_, ?_⟩
      · refine fun r0 d0 x0 y0 z0 => ⟨r0, d0, [.int 0, .str "a", .int 2], rfl, rfl, upd_same, fun L0 b0 h0 => ⟨rfl, r0, 3, [.int 0, .str "a", .int 2], rfl, (why_pre (K := K) (i := 3) (xs := [.int 0, .str "a", .int 2]) (by decide) rfl (odds3 (.inr (.inr rfl)) (int_odd _) str_a (int_odd _)) S9.tb x0 y0 b0 h0).2.1, (why_pre (K := K) (i := 3) (xs := [.int 0, .str "a", .int 2]) (by decide) rfl (odds3 (.inr (.inr rfl)) (int_odd _) str_a (int_odd _)) S9.tb x0 y0 b0 h0).2.2, (.inl ⟨⟨_, why_3 leaf_2⟩, fun h => by omega⟩), fun N0 m0 u0 => ?_⟩⟩
        have n0 := (why_pre (K := K) (i := 3) (xs := [.int 0, .str "a", .int 2]) (by decide) rfl (odds3 (.inr (.inr rfl)) (int_odd _) str_a (int_odd _)) S9.tb x0 y0 b0 h0).1.trans m0
        rw [why_3 leaf_2]
        refine ⟨rfl, _, rfl, ?_⟩
        rw [decide_eq_true (rfl : V.str "none" = V.str "none")]
        refine iteF (fun r1 d1 x1 y1 z1 => ⟨r1, d1, [.int 0, .str "a", .int 1], rfl, rfl, upd_same, fun L1 b1 h1 => ⟨rfl, r1, 3, [.int 0, .str "a", .int 1], rfl, (why_pre (K := K) (i := 3) (xs := [.int 0, .str "a", .int 1]) (by decide) rfl (odds3 (.inr (.inr rfl)) (int_odd _) str_a (int_odd _)) u0 x1 y1 b1 h1).2.1, (why_pre (K := K) (i := 3) (xs := [.int 0, .str "a", .int 1]) (by decide) rfl (odds3 (.inr (.inr rfl)) (int_odd _) str_a (int_odd _)) u0 x1 y1 b1 h1).2.2, (.inr ⟨why_put, rfl, rfl⟩), fun N1 m1 u1 => ?_⟩⟩)
        have n1 := (why_pre (K := K) (i := 3) (xs := [.int 0, .str "a", .int 1]) (by decide) rfl (odds3 (.inr (.inr rfl)) (int_odd _) str_a (int_odd _)) u0 x1 y1 b1 h1).1.trans m1
        rw [why_put]
        refine ⟨_, rfl, (n0.trans n1), u1, ?_⟩
        rfl
      rintro b MC ⟨eX, tX, rfl⟩
      refine iteF ?_
      have SC := S9.ext eX tX
      clear eX tX
      clear S9
      -- what is no name
      refine ⟨_, _, rfl, rfl, (by unfold MulOk; decide +kernel), _, _, rfl, rfl, (by unfold MulOk; decide +kernel), (by show 9 ≤ sizeLine; omega), fun lB hB => ?_⟩
      have sB := NG.Same.upd (o := HO.lst (oddNames)) hB
      have eB : (upd MC lB (HO.lst (oddNames))) lB = some (.lst (oddNames)) := upd_same
      change tCall spDigit [] E0 (tCons (tVar 2) (tCons (tC (V.int 9)) tNil)) _ (upd MC lB (HO.lst (oddNames))) _
      have SB := SC.same sB
      generalize upd MC lB (HO.lst (oddNames)) = MB at sB eB SB ⊢
      obtain ⟨oD, eD, dD⟩ := SB.st
      refine ⟨_, rfl, p, 9, oD, rfl, by decide, by decide, eD, dD, fun dg oN dg0 dg1 hoN => ?_⟩
      have nLp : lB ≠ p := fun q => by
        rw [← q, eB] at eD
        cases eD
        obtain ⟨_, _, _, q2, _⟩ := dD
        simp [oddNames] at q2
      have eB2 : (upd MB p oN) lB = some (.lst (oddNames)) := by rw [upd_ne nLp]; exact eB
      have SD := SB.draw hoN
      generalize upd MB p oN = MD at SD eB2 ⊢
      obtain ⟨v, hv, av⟩ := pick (xs := (oddNames)) dg0 (by simpa [oddNames] using dg1)
      have hvv := (oddNames_ok (K := K) (H := MD)) v hv
      refine ⟨lB, _, dg, v, rfl, rfl, SqL.of eB2, av, ?_⟩
      clear nLp eD dD eB hoN sB SB hv av dg0 dg1 
      obtain ⟨hv1, hv2⟩ := hvv
      refine ⟨fun b H' => ExtN MD H' ∧ Tabs [(P0, qBy)] H' ∧ b = false, ?_, ?_⟩
      · refine ⟨_, rfl, fun r0 d0 x0 y0 z0 => ⟨r0, d0, [.int 0, v], rfl, rfl, upd_same, fun L0 b0 h0 => ⟨rfl, r0, 4, [.int 0, v], rfl, (why_pre (K := K) (i := 4) (xs := [.int 0, v]) (by decide) rfl (odds4 (int_odd _) hv1) SD.tb x0 y0 b0 h0).2.1, (why_pre (K := K) (i := 4) (xs := [.int 0, v]) (by decide) rfl (odds4 (int_odd _) hv1) SD.tb x0 y0 b0 h0).2.2, (.inl ⟨⟨_, (why_4 hv2).1⟩, fun _ => (why_4 hv2).2⟩), fun N0 m0 u0 => ?_⟩⟩⟩
        have n0 := (why_pre (K := K) (i := 4) (xs := [.int 0, v]) (by decide) rfl (odds4 (int_odd _) hv1) SD.tb x0 y0 b0 h0).1.trans m0
        rw [(why_4 hv2).1]
        refine ⟨rfl, _, rfl, ?_⟩
        rw [decide_eq_true (rfl : V.str "name" = V.str "name")]
        refine iteF ⟨_, rfl, fun r1 d1 x1 y1 z1 => ⟨r1, d1, [.int 0, .str "f", .int 0, v], rfl, rfl, upd_same, fun L1 b1 h1 => ⟨rfl, r1, 5, [.int 0, .str "f", .int 0, v], rfl, (why_pre (K := K) (i := 5) (xs := [.int 0, .str "f", .int 0, v]) (by decide) rfl (odds5 (int_odd _) str_f (int_odd _) (hv1.ext n0)) u0 x1 y1 b1 h1).2.1, (why_pre (K := K) (i := 5) (xs := [.int 0, .str "f", .int 0, v]) (by decide) rfl (odds5 (int_odd _) str_f (int_odd _) (hv1.ext n0)) u0 x1 y1 b1 h1).2.2, (.inl ⟨⟨_, (why_5n hv2).1⟩, fun _ => (why_5n hv2).2⟩), fun N1 m1 u1 => ?_⟩⟩⟩
        have n1 := (why_pre (K := K) (i := 5) (xs := [.int 0, .str "f", .int 0, v]) (by decide) rfl (odds5 (int_odd _) str_f (int_odd _) (hv1.ext n0)) u0 x1 y1 b1 h1).1.trans m1
        rw [(why_5n hv2).1]
        refine ⟨rfl, _, rfl, (n0.trans n1), u1, ?_⟩
        rw [decide_eq_true (rfl : V.str "name" = V.str "name")]
        rfl
      rintro b ME ⟨eX, tX, rfl⟩
      refine iteF ?_
      have SE := SD.ext eX tX
      clear eX tX
      clear SD eB2 hv1 hv2
      -- what is no text
      refine ⟨(by show 5 ≤ sizeLine; omega), fun lB hB => ?_⟩
      have sB := NG.Same.upd (o := HO.lst (oddTexts)) hB
      have eB : (upd ME lB (HO.lst (oddTexts))) lB = some (.lst (oddTexts)) := upd_same
      change tCall spDigit [] E0 (tCons (tVar 2) (tCons (tC (V.int 5)) tNil)) _ (upd ME lB (HO.lst (oddTexts))) _
      have SB := SE.same sB
      generalize upd ME lB (HO.lst (oddTexts)) = MB at sB eB SB ⊢
      obtain ⟨oD, eD, dD⟩ := SB.st
      refine ⟨_, rfl, p, 5, oD, rfl, by decide, by decide, eD, dD, fun dg oN dg0 dg1 hoN => ?_⟩
      have nLp : lB ≠ p := fun q => by
        rw [← q, eB] at eD
        cases eD
        obtain ⟨_, _, _, q2, _⟩ := dD
        simp [oddTexts] at q2
      have eB2 : (upd MB p oN) lB = some (.lst (oddTexts)) := by rw [upd_ne nLp]; exact eB
      have SF := SB.draw hoN
      generalize upd MB p oN = MF at SF eB2 ⊢
      obtain ⟨v, hv, av⟩ := pick (xs := (oddTexts)) dg0 (by simpa [oddTexts] using dg1)
      have hvv := (oddTexts_ok (K := K) (H := MF)) v hv
      refine ⟨lB, _, dg, v, rfl, rfl, SqL.of eB2, av, ?_⟩
      clear nLp eD dD eB hoN sB SB hv av dg0 dg1 
      obtain ⟨hv1, hv2⟩ := hvv
      refine fun r0 d0 x0' y0' z0 => ⟨r0, d0, [.int 0, .str "a", .int 0, v], rfl, rfl, upd_same, fun L0 b0 h0 => ⟨rfl, r0, 2, [.int 0, .str "a", .int 0, v], rfl, (why_pre (i := 2) (xs := [.int 0, .str "a", .int 0, v]) (by decide) rfl (odds2 (int_odd _) str_a (int_odd _) hv1) SF.tb x0' y0' b0 h0).2.1, (why_pre (i := 2) (xs := [.int 0, .str "a", .int 0, v]) (by decide) rfl (odds2 (int_odd _) str_a (int_odd _) hv1) SF.tb x0' y0' b0 h0).2.2, (.inl ⟨⟨_, why_2 hv2⟩, fun h => by omega⟩), fun N0 m0 u0 => ?_⟩⟩
      have n0 := (why_pre (i := 2) (xs := [.int 0, .str "a", .int 0, v]) (by decide) rfl (odds2 (int_odd _) str_a (int_odd _) hv1) SF.tb x0' y0' b0 h0).1.trans m0
      rw [why_2 hv2]
      refine ⟨rfl, _, rfl, ?_⟩
      rw [decide_eq_true (rfl : V.str "text" = V.str "text")]
      refine iteF ?_
      exact ⟨⟨_, _, _, _, _, _, _, _, _, _, _, _, _, _, _, _, rfl⟩, SF.ex.trans n0, u0⟩
    · rintro σ H9 ⟨⟨v1, v2, v3, v4, v5, v6, v7, v8, v9, v10, v11, v12, v13, v14, v15, v16, rfl⟩, e1, t1⟩
      exact k _
end
end NW

set_option maxRecDepth 100000
set_option maxHeartbeats 8000000
namespace NW
open PySem PySem.Spec PyProof.Rows L2 NG TR LamX
/-! ### the end, with the table of one def that holds a lambda -/
theorem walk_tab {l : PySem.W.OpenLaw} {n k : Nat} {q : Program} {loose : List Str} {XP : (Str → Option Value) → Heap → Prop} {YP : World → Heap → Prop} {d : DefRec} {K : Params → PySem.W.Frag} {CX : World → CXT} {x y : Str}
    (hn : l.most = some n) (hn2 : n ≤ sizeLine) (hdf : d.params.defaults = []) (hr : Room k callerA) (hrec : ((recsOf q).find? fun e => e.name == y).isSome = true) (hY : ∀ (w : World) (h : Heap), YP w h → (K w.params).In h)
    (F : ∀ (w : World) (mg : Str → Option Value) (fa : Addr) (h : Heap), YP w h → (K w.params).In h → h.Ns mainGlobals mg → mg d.name = some (.ref fa) → (∀ c P, PySem.W.tabIn (K w.params) y = some (c, P) → PySem.W.CodeHd h c P ∧ h.get? P = some (PySem.W.tabObj #[])) → LawAtS l w (K w.params) (CX w) k n x mg fa h)
    (hCX : ∀ (w : World) (H : Hp) (s : Shared) (e : Value) (s' : Shared), CX w [] H s (fun _ _ _ => False) e s' → False) :
    PySem.W.WalkO q loose XP YP l.row.toRowW d [] (fun f vs => PySem.call f vs) := by
  refine Att.attach_callB hn hdf fun w s₀ s₁ mg mb fa o pm cd doc a vs ns G Y ho hd hcd hmg hobj hints hlen hbits hg => ?_
  have KX := hY w _ Y
  obtain ⟨dL, hdL⟩ := Option.isSome_iff_exists.mp hrec
  obtain ⟨fd, cs, sp, hT, nT, C, hb, hsp, hF⟩ := F w mg fa _ Y KX G.T.g hmg fun c P ht => PySem.W.tab_of G.T KX hdL ht
  exact law_callTs KX G.T.g G.T.b G.T.builtins G.T.nolimit hg hT nT C G.T.bmain hobj hints (Nat.le_trans hlen hn2) hr hF hb (fun H hH hS => hsp H a ns hlen hbits hH hS) fun H e s' => hCX w H s₁ e s'
theorem one1 {α : Type} {p : α → Prop} {a : α} (h : p a) : ∀ b ∈ [a], p b := fun b hb => by rw [List.mem_singleton.mp hb]; exact h
def quad (a b c d : Addr) : Nat → Addr
  | 0 => a
  | 1 => b
  | 2 => c
  | _ => d
theorem all4 {p : Nat → Prop} (h0 : p 0) (h1 : p 1) (h2 : p 2) (h3 : p 3) : ∀ i, i < 4 → p i
  | 0, _ => h0
  | 1, _ => h1
  | 2, _ => h2
  | 3, _ => h3
  | _ + 4, h => absurd h (by omega)
theorem all44 {p : Nat → Nat → Prop} (a0 : p 0 0) (a1 : p 0 1) (a2 : p 0 2) (a3 : p 0 3) (b0 : p 1 0) (b1 : p 1 1) (b2 : p 1 2) (b3 : p 1 3) (c0 : p 2 0) (c1 : p 2 1) (c2 : p 2 2) (c3 : p 2 3) (d0 : p 3 0) (d1 : p 3 1) (d2 : p 3 2) (d3 : p 3 3) : ∀ i j, i < 4 → j < 4 → p i j := fun i j hi hj =>
  all4 (p := fun i => p i j) (all4 (p := p 0) a0 a1 a2 a3 j hj) (all4 (p := p 1) b0 b1 b2 b3 j hj) (all4 (p := p 2) c0 c1 c2 c3 j hj) (all4 (p := p 3) d0 d1 d2 d3 j hj) i hi
theorem tabIn_of {K : PySem.W.Frag} {y : Str} {f c P : Addr} {oc : Value} {od : Option Addr} {fd : FuncData} {sl sl' : Array (Option Value)} {e : Value} {dd : Option Addr} {vs : Array Value} (a : PySem.W.nsIn K mainGlobals y = some (some (.ref f))) (b : K.lookup f = some ⟨oc, od, .func fd, sl⟩) (c1 : fd.code = .ref c)
    (l : K.lookup c = some ⟨e, dd, .fields vs, sl'⟩) (v : vs[11]? = some (.ref P)) : PySem.W.tabIn K y = some (c, P) := by
  unfold PySem.W.tabIn
  rw [a]
  dsimp only
  rw [b]
  dsimp only
  rw [c1]
  dsimp only
  rw [l]
  dsimp only
  rw [v]
theorem kit_own {K : PySem.W.Frag} {C : Addr} {t : Value} (hh : PySem.W.hasDictIn K C = true) (ht : PySem.W.typeIn K (.ref C) = some (.type "type")) (hs : PySem.W.subIn K t (.ref C) = some false) (hn : (t == .ref C) = false) : PySem.W.kitOne K t (.ref C) = some false := by
  have hc : (PySem.W.clsIn K C).isSome = true := by
    obtain ⟨cd, hc, _⟩ := PySem.W.any_some hh
    rw [hc]
    rfl
  unfold PySem.W.kitOne
  rw [hn]
  show (if ((PySem.W.clsIn K C).isSome && PySem.W.typeIn K (.ref C) == some (.type "type")) = true then PySem.W.subIn K t (.ref C) else none) = some false
  rw [hc, ht, hs]
  rfl
def el11 (a0 a1 a2 a3 a4 a5 a6 a7 a8 a9 a10 : Addr) : Nat → Addr
  | 0 => a0
  | 1 => a1
  | 2 => a2
  | 3 => a3
  | 4 => a4
  | 5 => a5
  | 6 => a6
  | 7 => a7
  | 8 => a8
  | 9 => a9
  | _ => a10
theorem all11 {p : Nat → Prop} (h0 : p 0) (h1 : p 1) (h2 : p 2) (h3 : p 3) (h4 : p 4) (h5 : p 5) (h6 : p 6) (h7 : p 7) (h8 : p 8) (h9 : p 9) (h10 : p 10) : ∀ i, i < 11 → p i
  | 0, _ => h0
  | 1, _ => h1
  | 2, _ => h2
  | 3, _ => h3
  | 4, _ => h4
  | 5, _ => h5
  | 6, _ => h6
  | 7, _ => h7
  | 8, _ => h8
  | 9, _ => h9
  | 10, _ => h10
  | _ + 11, h => absurd h (by omega)
theorem nal_nil {K : PySem.W.Frag} {C : Addr} : ∀ n ∈ ([] : List Str), NoAttr K C n := fun n h => by cases h
theorem nal_cons {K : PySem.W.Frag} {C : Addr} {a : Str} {l : List Str} (h : NoAttr K C a) (t : ∀ n ∈ l, NoAttr K C n) : ∀ n ∈ a :: l, NoAttr K C n := fun n hn => by
  rcases List.mem_cons.mp hn with rfl | hn
  · exact h
  · exact t n hn
/-- a is no class of the others of l -/
def chkRow (K : PySem.W.Frag) (a : Addr) (l : List Addr) : Bool := l.all fun b => a == b || PySem.W.subIn K (.ref a) (.ref b) == some false
def chkTy (K : PySem.W.Frag) (l : List Addr) : Bool := l.all fun b => PySem.W.subIn K (.type "int") (.ref b) == some false && PySem.W.subIn K (.type "str") (.ref b) == some false
def nodA : List Addr → Bool
  | [] => true
  | x :: r => !r.contains x && nodA r
theorem nodA_ok : ∀ {l : List Addr}, nodA l = true → l.Nodup
  | [], _ => List.nodup_nil
  | x :: r, h => by
    rw [show nodA (x :: r) = (!r.contains x && nodA r) from rfl, Bool.and_eq_true] at h
    refine List.nodup_cons.mpr ⟨fun q => ?_, nodA_ok h.2⟩
    have : r.contains x = true := List.contains_iff_mem.mpr q
    rw [this] at h
    exact absurd h.1 (by simp)
section
variable {K : PySem.W.Frag} {a0 a1 a2 a3 a4 a5 a6 a7 a8 a9 a10 : Addr}
theorem el_get {i : Nat} (hi : i < 11) : [a0, a1, a2, a3, a4, a5, a6, a7, a8, a9, a10][i]? = some (el11 a0 a1 a2 a3 a4 a5 a6 a7 a8 a9 a10 i) :=
  all11 (p := fun i => [a0, a1, a2, a3, a4, a5, a6, a7, a8, a9, a10][i]? = some (el11 a0 a1 a2 a3 a4 a5 a6 a7 a8 a9 a10 i)) rfl rfl rfl rfl rfl rfl rfl rfl rfl rfl rfl i hi
theorem dist11 (h : nodA [a0, a1, a2, a3, a4, a5, a6, a7, a8, a9, a10] = true) : ∀ i j, i < 11 → j < 11 → i ≠ j → el11 a0 a1 a2 a3 a4 a5 a6 a7 a8 a9 a10 i ≠ el11 a0 a1 a2 a3 a4 a5 a6 a7 a8 a9 a10 j := fun i j hi hj hij e => by
  have n := nodA_ok h
  have e1 := el_get (a0 := a0) (a1 := a1) (a2 := a2) (a3 := a3) (a4 := a4) (a5 := a5) (a6 := a6) (a7 := a7) (a8 := a8) (a9 := a9) (a10 := a10) hi
  have e2 := el_get (a0 := a0) (a1 := a1) (a2 := a2) (a3 := a3) (a4 := a4) (a5 := a5) (a6 := a6) (a7 := a7) (a8 := a8) (a9 := a9) (a10 := a10) hj
  rw [e] at e1
  obtain ⟨h1, g1⟩ := List.getElem?_eq_some_iff.mp e1
  obtain ⟨h2, g2⟩ := List.getElem?_eq_some_iff.mp e2
  exact hij ((List.getElem_inj n).mp (g1.trans g2.symm))
theorem sub_row {a : Addr} (h : chkRow K a [a0, a1, a2, a3, a4, a5, a6, a7, a8, a9, a10] = true) {j : Nat} (hj : j < 11) (n : a ≠ el11 a0 a1 a2 a3 a4 a5 a6 a7 a8 a9 a10 j) : PySem.W.subIn K (.ref a) (.ref (el11 a0 a1 a2 a3 a4 a5 a6 a7 a8 a9 a10 j)) = some false := by
  have := List.all_eq_true.mp h _ (List.mem_of_getElem? (el_get hj))
  rw [Bool.or_eq_true] at this
  rcases this with q | q
  · exact absurd (beq_iff_eq.mp q) n
  · exact beq_iff_eq.mp q
theorem subs11 (nd : nodA [a0, a1, a2, a3, a4, a5, a6, a7, a8, a9, a10] = true) (rows : ∀ i, i < 11 → chkRow K (el11 a0 a1 a2 a3 a4 a5 a6 a7 a8 a9 a10 i) [a0, a1, a2, a3, a4, a5, a6, a7, a8, a9, a10] = true) : ∀ i j, i < 11 → j < 11 → i ≠ j → PySem.W.subIn K (.ref (el11 a0 a1 a2 a3 a4 a5 a6 a7 a8 a9 a10 i)) (.ref (el11 a0 a1 a2 a3 a4 a5 a6 a7 a8 a9 a10 j)) = some false :=
  fun i j hi hj hij => sub_row (rows i hi) hj (dist11 nd i j hi hj hij)
theorem tys11 (h : chkTy K [a0, a1, a2, a3, a4, a5, a6, a7, a8, a9, a10] = true) : ∀ i, i < 11 → PySem.W.subIn K (.type "int") (.ref (el11 a0 a1 a2 a3 a4 a5 a6 a7 a8 a9 a10 i)) = some false ∧ PySem.W.subIn K (.type "str") (.ref (el11 a0 a1 a2 a3 a4 a5 a6 a7 a8 a9 a10 i)) = some false := fun i hi => by
  have := List.all_eq_true.mp h _ (List.mem_of_getElem? (el_get hi))
  rw [Bool.and_eq_true] at this
  exact ⟨beq_iff_eq.mp this.1, beq_iff_eq.mp this.2⟩
end
section
variable {K : PySem.W.Frag} {ct : Nat → Addr}
theorem kit11 (hd : ∀ i, i < 11 → PySem.W.hasDictIn K (ct i) = true) (tp : ∀ i, i < 11 → PySem.W.typeIn K (.ref (ct i)) = some (.type "type")) (sb : ∀ i j, i < 11 → j < 11 → i ≠ j → PySem.W.subIn K (.ref (ct i)) (.ref (ct j)) = some false) (ds : ∀ i j, i < 11 → j < 11 → i ≠ j → ct i ≠ ct j) {i j : Nat} (hi : i < 11) (hj : j < 11) :
    PySem.W.kitOne K (.ref (ct i)) (.ref (ct j)) = some (decide (i = j)) := by
  by_cases e : i = j
  · subst e
    rw [decide_eq_true rfl]
    exact kit_self
  · rw [decide_eq_false e]
    exact kit_own (hd j hj) (tp j hj) (sb i j hi hj e) (by
      have := ds i j hi hj e
      simp [this])
theorem nf11 (sb : ∀ i j, i < 11 → j < 11 → i ≠ j → PySem.W.subIn K (.ref (ct i)) (.ref (ct j)) = some false) {i j : Nat} (hi : i < 11) (hj : j < 11) : PySem.W.notFirst K (ct i) (.ref (ct j)) = true := by
  by_cases e : i = j
  · subst e
    exact nf_self
  · unfold PySem.W.notFirst
    rw [sb j i hj hi (fun q => e q.symm)]
    simp
theorem nfT {C : Addr} {t : Value} (h : PySem.W.subIn K t (.ref C) = some false) : PySem.W.notFirst K C t = true := by
  unfold PySem.W.notFirst
  rw [h]
  simp
end
theorem all_mk {l : PySem.W.OpenLaw} {w : World} {K : PySem.W.Frag} {h : Heap} {mg : Str → Option Value} {fa C0 C1 C2 C3 D0 D1 D2 D3 D4 D5 D6 D7 D8 CT CD fName fStep fBad fNum fOwner fAt fState fDigit fI0 fI1 fI2 fTI fNDI fMay fStood fFF fBy c0 P0 fWE fWN fET fCN fCF fK0 fK1 fK2 fK3 fK4 fK5 fK6 fK7 fK8 fQ0 fQ1 fQ2 fQ3 fQ4 fQ5 fQ6 fQ7 fQ8 fQ9 fQ10 fMkg fFos fNos fIsF fEntd fWhy fLacks fTaken fFull fBelow fChg fEnt fDone fLW fTh fLaw : Addr} (X : K.In h) (G : h.Ns mainGlobals mg) (hfa : mg "law" = some (.ref fa)) {nmD_ qD_ : Str} {ND_ : Addr} {bsD_ bmD_ subD_ : List Value} {snD_ : List Str} {abD_ : Bool} {colD_ : Option Bool} {ddD_ od_fName an_fName od_fStep an_fStep od_fBad an_fBad od_fNum an_fNum od_fOwner an_fOwner od_fAt an_fAt od_fState an_fState od_fDigit an_fDigit od_fI0 an_fI0 od_fI1 an_fI1 od_fI2 an_fI2 od_fTI an_fTI od_fNDI an_fNDI od_fMay an_fMay od_fStood an_fStood od_fFF an_fFF od_fBy an_fBy dB od_fWE an_fWE od_fWN an_fWN od_fET an_fET od_fCN an_fCN od_fCF an_fCF od_fK0 an_fK0 od_fK1 an_fK1 od_fK2 an_fK2 od_fK3 an_fK3 od_fK4 an_fK4 od_fK5 an_fK5 od_fK6 an_fK6 od_fK7 an_fK7 od_fK8 an_fK8 od_fQ0 an_fQ0 od_fQ1 an_fQ1 od_fQ2 an_fQ2 od_fQ3 an_fQ3 od_fQ4 an_fQ4 od_fQ5 an_fQ5 od_fQ6 an_fQ6 od_fQ7 an_fQ7 od_fQ8 an_fQ8 od_fQ9 an_fQ9 od_fQ10 an_fQ10 od_fMkg an_fMkg od_fFos an_fFos od_fNos an_fNos od_fIsF an_fIsF od_fEntd an_fEntd od_fWhy an_fWhy od_fLacks an_fLacks od_fTaken an_fTaken od_fFull an_fFull od_fBelow an_fBelow od_fChg an_fChg od_fEnt an_fEnt od_fDone an_fDone od_fLW an_fLW od_fTh an_fTh od_fLaw an_fLaw : Option Addr} {m0D_ m1D_ m2D_ m3D_ m5D_ : Option Value} {tLN tLL tRO : Tok} {sl_fName sl_fStep sl_fBad sl_fNum sl_fOwner sl_fAt sl_fState sl_fDigit sl_fI0 sl_fI1 sl_fI2 sl_fTI sl_fNDI sl_fMay sl_fStood sl_fFF sl_fBy slB sl_fWE sl_fWN sl_fET sl_fCN sl_fCF sl_fK0 sl_fK1 sl_fK2 sl_fK3 sl_fK4 sl_fK5 sl_fK6 sl_fK7 sl_fK8 sl_fQ0 sl_fQ1 sl_fQ2 sl_fQ3 sl_fQ4 sl_fQ5 sl_fQ6 sl_fQ7 sl_fQ8 sl_fQ9 sl_fQ10 sl_fMkg sl_fFos sl_fNos sl_fIsF sl_fEntd sl_fWhy sl_fLacks sl_fTaken sl_fFull sl_fBelow sl_fChg sl_fEnt sl_fDone sl_fLW sl_fTh sl_fLaw : Array (Option Value)} {oc_fName kV_fName dc_fName pm_fName cd_fName ct_fName oc_fStep kV_fStep dc_fStep pm_fStep cd_fStep ct_fStep oc_fBad kV_fBad dc_fBad pm_fBad cd_fBad ct_fBad oc_fNum kV_fNum dc_fNum pm_fNum cd_fNum ct_fNum oc_fOwner kV_fOwner dc_fOwner pm_fOwner cd_fOwner ct_fOwner oc_fAt kV_fAt dc_fAt pm_fAt cd_fAt ct_fAt oc_fState kV_fState dc_fState pm_fState cd_fState ct_fState oc_fDigit kV_fDigit dc_fDigit pm_fDigit cd_fDigit ct_fDigit oc_fI0 kV_fI0 dc_fI0 pm_fI0 cd_fI0 ct_fI0 oc_fI1 kV_fI1 dc_fI1 pm_fI1 cd_fI1 ct_fI1 oc_fI2 kV_fI2 dc_fI2 pm_fI2 cd_fI2 ct_fI2 oc_fTI kV_fTI dc_fTI pm_fTI cd_fTI ct_fTI oc_fNDI kV_fNDI dc_fNDI pm_fNDI cd_fNDI ct_fNDI oc_fMay kV_fMay dc_fMay pm_fMay cd_fMay ct_fMay oc_fStood kV_fStood dc_fStood pm_fStood cd_fStood ct_fStood oc_fFF kV_fFF dc_fFF pm_fFF cd_fFF ct_fFF oc_fBy kV_fBy dc_fBy pm_fBy cd_fBy ct_fBy eB oc_fWE kV_fWE dc_fWE pm_fWE cd_fWE ct_fWE oc_fWN kV_fWN dc_fWN pm_fWN cd_fWN ct_fWN oc_fET kV_fET dc_fET pm_fET cd_fET ct_fET oc_fCN kV_fCN dc_fCN pm_fCN cd_fCN ct_fCN oc_fCF kV_fCF dc_fCF pm_fCF cd_fCF ct_fCF oc_fK0 kV_fK0 dc_fK0 pm_fK0 cd_fK0 ct_fK0 oc_fK1 kV_fK1 dc_fK1 pm_fK1 cd_fK1 ct_fK1 oc_fK2 kV_fK2 dc_fK2 pm_fK2 cd_fK2 ct_fK2 oc_fK3 kV_fK3 dc_fK3 pm_fK3 cd_fK3 ct_fK3 oc_fK4 kV_fK4 dc_fK4 pm_fK4 cd_fK4 ct_fK4 oc_fK5 kV_fK5 dc_fK5 pm_fK5 cd_fK5 ct_fK5 oc_fK6 kV_fK6 dc_fK6 pm_fK6 cd_fK6 ct_fK6 oc_fK7 kV_fK7 dc_fK7 pm_fK7 cd_fK7 ct_fK7 oc_fK8 kV_fK8 dc_fK8 pm_fK8 cd_fK8 ct_fK8 oc_fQ0 kV_fQ0 dc_fQ0 pm_fQ0 cd_fQ0 ct_fQ0 oc_fQ1 kV_fQ1 dc_fQ1 pm_fQ1 cd_fQ1 ct_fQ1 oc_fQ2 kV_fQ2 dc_fQ2 pm_fQ2 cd_fQ2 ct_fQ2 oc_fQ3 kV_fQ3 dc_fQ3 pm_fQ3 cd_fQ3 ct_fQ3 oc_fQ4 kV_fQ4 dc_fQ4 pm_fQ4 cd_fQ4 ct_fQ4 oc_fQ5 kV_fQ5 dc_fQ5 pm_fQ5 cd_fQ5 ct_fQ5 oc_fQ6 kV_fQ6 dc_fQ6 pm_fQ6 cd_fQ6 ct_fQ6 oc_fQ7 kV_fQ7 dc_fQ7 pm_fQ7 cd_fQ7 ct_fQ7 oc_fQ8 kV_fQ8 dc_fQ8 pm_fQ8 cd_fQ8 ct_fQ8 oc_fQ9 kV_fQ9 dc_fQ9 pm_fQ9 cd_fQ9 ct_fQ9 oc_fQ10 kV_fQ10 dc_fQ10 pm_fQ10 cd_fQ10 ct_fQ10 oc_fMkg kV_fMkg dc_fMkg pm_fMkg cd_fMkg ct_fMkg oc_fFos kV_fFos dc_fFos pm_fFos cd_fFos ct_fFos oc_fNos kV_fNos dc_fNos pm_fNos cd_fNos ct_fNos oc_fIsF kV_fIsF dc_fIsF pm_fIsF cd_fIsF ct_fIsF oc_fEntd kV_fEntd dc_fEntd pm_fEntd cd_fEntd ct_fEntd oc_fWhy kV_fWhy dc_fWhy pm_fWhy cd_fWhy ct_fWhy oc_fLacks kV_fLacks dc_fLacks pm_fLacks cd_fLacks ct_fLacks oc_fTaken kV_fTaken dc_fTaken pm_fTaken cd_fTaken ct_fTaken oc_fFull kV_fFull dc_fFull pm_fFull cd_fFull ct_fFull oc_fBelow kV_fBelow dc_fBelow pm_fBelow cd_fBelow ct_fBelow oc_fChg kV_fChg dc_fChg pm_fChg cd_fChg ct_fChg oc_fEnt kV_fEnt dc_fEnt pm_fEnt cd_fEnt ct_fEnt oc_fDone kV_fDone dc_fDone pm_fDone cd_fDone ct_fDone oc_fLW kV_fLW dc_fLW pm_fLW cd_fLW ct_fLW oc_fTh kV_fTh dc_fTh pm_fTh cd_fTh ct_fTh oc_fLaw kV_fLaw dc_fLaw pm_fLaw cd_fLaw ct_fLaw : Value} {vsB : Array Value}
    (tb : ∀ c P, PySem.W.tabIn K "by_names" = some (c, P) → PySem.W.CodeHd h c P ∧ h.get? P = some (PySem.W.tabObj #[]))
    (a_C0 : PySem.W.nsIn K mainGlobals "Folder" = some (some (.ref C0)))
    (k_C0 : PySem.W.keepIn K (.ref C0) = true)
    (pg_C0 : PySem.W.plainGet K C0 Str.empty = true)
    (hd_C0 : PySem.W.hasDictIn K C0 = true)
    (po_C0 : PySem.W.plainOver K C0 = true)
    (sa_C0 : PySem.W.findIn K (.ref C0) "__setattr__" = some (some (.builtin "object.__setattr__")))
    (mk_C0 : PySem.W.makesIn K C0 = true)
    (na_C0_owner : PySem.W.findIn K (.ref C0) "owner" = some none)
    (na_C0_entries : PySem.W.findIn K (.ref C0) "entries" = some none)
    (e3_C0 : PySem.W.mroIn K C0 (.type "object") = some true)
    (e1_C0 : PySem.W.findIn K (.ref C0) "__class__" = some (some (.builtin "object.__class__")))
    (tp_C0 : PySem.W.typeIn K (.ref C0) = some (.type "type"))
    (a_C1 : PySem.W.nsIn K mainGlobals "File" = some (some (.ref C1)))
    (k_C1 : PySem.W.keepIn K (.ref C1) = true)
    (pg_C1 : PySem.W.plainGet K C1 Str.empty = true)
    (hd_C1 : PySem.W.hasDictIn K C1 = true)
    (po_C1 : PySem.W.plainOver K C1 = true)
    (sa_C1 : PySem.W.findIn K (.ref C1) "__setattr__" = some (some (.builtin "object.__setattr__")))
    (mk_C1 : PySem.W.makesIn K C1 = true)
    (na_C1_owner : PySem.W.findIn K (.ref C1) "owner" = some none)
    (e3_C1 : PySem.W.mroIn K C1 (.type "object") = some true)
    (e1_C1 : PySem.W.findIn K (.ref C1) "__class__" = some (some (.builtin "object.__class__")))
    (tp_C1 : PySem.W.typeIn K (.ref C1) = some (.type "type"))
    (a_C2 : PySem.W.nsIn K mainGlobals "Link" = some (some (.ref C2)))
    (k_C2 : PySem.W.keepIn K (.ref C2) = true)
    (pg_C2 : PySem.W.plainGet K C2 Str.empty = true)
    (hd_C2 : PySem.W.hasDictIn K C2 = true)
    (po_C2 : PySem.W.plainOver K C2 = true)
    (sa_C2 : PySem.W.findIn K (.ref C2) "__setattr__" = some (some (.builtin "object.__setattr__")))
    (mk_C2 : PySem.W.makesIn K C2 = true)
    (na_C2_owner : PySem.W.findIn K (.ref C2) "owner" = some none)
    (na_C2_text : PySem.W.findIn K (.ref C2) "text" = some none)
    (e3_C2 : PySem.W.mroIn K C2 (.type "object") = some true)
    (e1_C2 : PySem.W.findIn K (.ref C2) "__class__" = some (some (.builtin "object.__class__")))
    (tp_C2 : PySem.W.typeIn K (.ref C2) = some (.type "type"))
    (a_C3 : PySem.W.nsIn K mainGlobals "Gone" = some (some (.ref C3)))
    (k_C3 : PySem.W.keepIn K (.ref C3) = true)
    (pg_C3 : PySem.W.plainGet K C3 Str.empty = true)
    (hd_C3 : PySem.W.hasDictIn K C3 = true)
    (po_C3 : PySem.W.plainOver K C3 = true)
    (sa_C3 : PySem.W.findIn K (.ref C3) "__setattr__" = some (some (.builtin "object.__setattr__")))
    (mk_C3 : PySem.W.makesIn K C3 = true)
    (na_C3_owner : PySem.W.findIn K (.ref C3) "owner" = some none)
    (na_C3_above : PySem.W.findIn K (.ref C3) "above" = some none)
    (e3_C3 : PySem.W.mroIn K C3 (.type "object") = some true)
    (e1_C3 : PySem.W.findIn K (.ref C3) "__class__" = some (some (.builtin "object.__class__")))
    (tp_C3 : PySem.W.typeIn K (.ref C3) = some (.type "type"))
    (a_D0 : PySem.W.nsIn K mainGlobals "MakeFolder" = some (some (.ref D0)))
    (k_D0 : PySem.W.keepIn K (.ref D0) = true)
    (pg_D0 : PySem.W.plainGet K D0 Str.empty = true)
    (hd_D0 : PySem.W.hasDictIn K D0 = true)
    (po_D0 : PySem.W.plainOver K D0 = true)
    (sa_D0 : PySem.W.findIn K (.ref D0) "__setattr__" = some (some (.builtin "object.__setattr__")))
    (mk_D0 : PySem.W.makesIn K D0 = true)
    (na_D0_folder : PySem.W.findIn K (.ref D0) "folder" = some none)
    (na_D0_name : PySem.W.findIn K (.ref D0) "name" = some none)
    (na_D0_owner : PySem.W.findIn K (.ref D0) "owner" = some none)
    (e3_D0 : PySem.W.mroIn K D0 (.type "object") = some true)
    (e1_D0 : PySem.W.findIn K (.ref D0) "__class__" = some (some (.builtin "object.__class__")))
    (tp_D0 : PySem.W.typeIn K (.ref D0) = some (.type "type"))
    (a_D1 : PySem.W.nsIn K mainGlobals "MakeFile" = some (some (.ref D1)))
    (k_D1 : PySem.W.keepIn K (.ref D1) = true)
    (pg_D1 : PySem.W.plainGet K D1 Str.empty = true)
    (hd_D1 : PySem.W.hasDictIn K D1 = true)
    (po_D1 : PySem.W.plainOver K D1 = true)
    (sa_D1 : PySem.W.findIn K (.ref D1) "__setattr__" = some (some (.builtin "object.__setattr__")))
    (mk_D1 : PySem.W.makesIn K D1 = true)
    (na_D1_folder : PySem.W.findIn K (.ref D1) "folder" = some none)
    (na_D1_name : PySem.W.findIn K (.ref D1) "name" = some none)
    (na_D1_owner : PySem.W.findIn K (.ref D1) "owner" = some none)
    (e3_D1 : PySem.W.mroIn K D1 (.type "object") = some true)
    (e1_D1 : PySem.W.findIn K (.ref D1) "__class__" = some (some (.builtin "object.__class__")))
    (tp_D1 : PySem.W.typeIn K (.ref D1) = some (.type "type"))
    (a_D2 : PySem.W.nsIn K mainGlobals "MakeLink" = some (some (.ref D2)))
    (k_D2 : PySem.W.keepIn K (.ref D2) = true)
    (pg_D2 : PySem.W.plainGet K D2 Str.empty = true)
    (hd_D2 : PySem.W.hasDictIn K D2 = true)
    (po_D2 : PySem.W.plainOver K D2 = true)
    (sa_D2 : PySem.W.findIn K (.ref D2) "__setattr__" = some (some (.builtin "object.__setattr__")))
    (mk_D2 : PySem.W.makesIn K D2 = true)
    (na_D2_folder : PySem.W.findIn K (.ref D2) "folder" = some none)
    (na_D2_name : PySem.W.findIn K (.ref D2) "name" = some none)
    (na_D2_owner : PySem.W.findIn K (.ref D2) "owner" = some none)
    (na_D2_text : PySem.W.findIn K (.ref D2) "text" = some none)
    (e3_D2 : PySem.W.mroIn K D2 (.type "object") = some true)
    (e1_D2 : PySem.W.findIn K (.ref D2) "__class__" = some (some (.builtin "object.__class__")))
    (tp_D2 : PySem.W.typeIn K (.ref D2) = some (.type "type"))
    (a_D3 : PySem.W.nsIn K mainGlobals "Put" = some (some (.ref D3)))
    (k_D3 : PySem.W.keepIn K (.ref D3) = true)
    (pg_D3 : PySem.W.plainGet K D3 Str.empty = true)
    (hd_D3 : PySem.W.hasDictIn K D3 = true)
    (po_D3 : PySem.W.plainOver K D3 = true)
    (sa_D3 : PySem.W.findIn K (.ref D3) "__setattr__" = some (some (.builtin "object.__setattr__")))
    (mk_D3 : PySem.W.makesIn K D3 = true)
    (na_D3_folder : PySem.W.findIn K (.ref D3) "folder" = some none)
    (na_D3_name : PySem.W.findIn K (.ref D3) "name" = some none)
    (na_D3_node : PySem.W.findIn K (.ref D3) "node" = some none)
    (e3_D3 : PySem.W.mroIn K D3 (.type "object") = some true)
    (e1_D3 : PySem.W.findIn K (.ref D3) "__class__" = some (some (.builtin "object.__class__")))
    (tp_D3 : PySem.W.typeIn K (.ref D3) = some (.type "type"))
    (a_D4 : PySem.W.nsIn K mainGlobals "Take" = some (some (.ref D4)))
    (k_D4 : PySem.W.keepIn K (.ref D4) = true)
    (pg_D4 : PySem.W.plainGet K D4 Str.empty = true)
    (hd_D4 : PySem.W.hasDictIn K D4 = true)
    (po_D4 : PySem.W.plainOver K D4 = true)
    (sa_D4 : PySem.W.findIn K (.ref D4) "__setattr__" = some (some (.builtin "object.__setattr__")))
    (mk_D4 : PySem.W.makesIn K D4 = true)
    (na_D4_folder : PySem.W.findIn K (.ref D4) "folder" = some none)
    (na_D4_name : PySem.W.findIn K (.ref D4) "name" = some none)
    (e3_D4 : PySem.W.mroIn K D4 (.type "object") = some true)
    (e1_D4 : PySem.W.findIn K (.ref D4) "__class__" = some (some (.builtin "object.__class__")))
    (tp_D4 : PySem.W.typeIn K (.ref D4) = some (.type "type"))
    (a_D5 : PySem.W.nsIn K mainGlobals "Move" = some (some (.ref D5)))
    (k_D5 : PySem.W.keepIn K (.ref D5) = true)
    (pg_D5 : PySem.W.plainGet K D5 Str.empty = true)
    (hd_D5 : PySem.W.hasDictIn K D5 = true)
    (po_D5 : PySem.W.plainOver K D5 = true)
    (sa_D5 : PySem.W.findIn K (.ref D5) "__setattr__" = some (some (.builtin "object.__setattr__")))
    (mk_D5 : PySem.W.makesIn K D5 = true)
    (na_D5_folder : PySem.W.findIn K (.ref D5) "folder" = some none)
    (na_D5_name : PySem.W.findIn K (.ref D5) "name" = some none)
    (na_D5_goal : PySem.W.findIn K (.ref D5) "goal" = some none)
    (na_D5_other : PySem.W.findIn K (.ref D5) "other" = some none)
    (e3_D5 : PySem.W.mroIn K D5 (.type "object") = some true)
    (e1_D5 : PySem.W.findIn K (.ref D5) "__class__" = some (some (.builtin "object.__class__")))
    (tp_D5 : PySem.W.typeIn K (.ref D5) = some (.type "type"))
    (a_D6 : PySem.W.nsIn K mainGlobals "Came" = some (some (.ref D6)))
    (k_D6 : PySem.W.keepIn K (.ref D6) = true)
    (pg_D6 : PySem.W.plainGet K D6 Str.empty = true)
    (hd_D6 : PySem.W.hasDictIn K D6 = true)
    (po_D6 : PySem.W.plainOver K D6 = true)
    (sa_D6 : PySem.W.findIn K (.ref D6) "__setattr__" = some (some (.builtin "object.__setattr__")))
    (mk_D6 : PySem.W.makesIn K D6 = true)
    (na_D6_node : PySem.W.findIn K (.ref D6) "node" = some none)
    (e3_D6 : PySem.W.mroIn K D6 (.type "object") = some true)
    (e1_D6 : PySem.W.findIn K (.ref D6) "__class__" = some (some (.builtin "object.__class__")))
    (tp_D6 : PySem.W.typeIn K (.ref D6) = some (.type "type"))
    (a_D7 : PySem.W.nsIn K mainGlobals "Refused" = some (some (.ref D7)))
    (k_D7 : PySem.W.keepIn K (.ref D7) = true)
    (pg_D7 : PySem.W.plainGet K D7 Str.empty = true)
    (hd_D7 : PySem.W.hasDictIn K D7 = true)
    (po_D7 : PySem.W.plainOver K D7 = true)
    (sa_D7 : PySem.W.findIn K (.ref D7) "__setattr__" = some (some (.builtin "object.__setattr__")))
    (mk_D7 : PySem.W.makesIn K D7 = true)
    (na_D7_why : PySem.W.findIn K (.ref D7) "why" = some none)
    (e3_D7 : PySem.W.mroIn K D7 (.type "object") = some true)
    (e1_D7 : PySem.W.findIn K (.ref D7) "__class__" = some (some (.builtin "object.__class__")))
    (tp_D7 : PySem.W.typeIn K (.ref D7) = some (.type "type"))
    (a_D8 : PySem.W.nsIn K mainGlobals "Look" = some (some (.ref D8)))
    (k_D8 : PySem.W.keepIn K (.ref D8) = true)
    (pg_D8 : PySem.W.plainGet K D8 Str.empty = true)
    (hd_D8 : PySem.W.hasDictIn K D8 = true)
    (po_D8 : PySem.W.plainOver K D8 = true)
    (sa_D8 : PySem.W.findIn K (.ref D8) "__setattr__" = some (some (.builtin "object.__setattr__")))
    (mk_D8 : PySem.W.makesIn K D8 = true)
    (na_D8_follow : PySem.W.findIn K (.ref D8) "follow" = some none)
    (na_D8_last : PySem.W.findIn K (.ref D8) "last" = some none)
    (na_D8_owners : PySem.W.findIn K (.ref D8) "owners" = some none)
    (e3_D8 : PySem.W.mroIn K D8 (.type "object") = some true)
    (e1_D8 : PySem.W.findIn K (.ref D8) "__class__" = some (some (.builtin "object.__class__")))
    (tp_D8 : PySem.W.typeIn K (.ref D8) = some (.type "type"))
    (s_01 : PySem.W.subIn K (.ref C0) (.ref C1) = some false)
    (n_01 : ((Value.ref C0) == .ref C1) = false)
    (s_02 : PySem.W.subIn K (.ref C0) (.ref C2) = some false)
    (n_02 : ((Value.ref C0) == .ref C2) = false)
    (s_03 : PySem.W.subIn K (.ref C0) (.ref C3) = some false)
    (n_03 : ((Value.ref C0) == .ref C3) = false)
    (s_10 : PySem.W.subIn K (.ref C1) (.ref C0) = some false)
    (n_10 : ((Value.ref C1) == .ref C0) = false)
    (s_12 : PySem.W.subIn K (.ref C1) (.ref C2) = some false)
    (n_12 : ((Value.ref C1) == .ref C2) = false)
    (s_13 : PySem.W.subIn K (.ref C1) (.ref C3) = some false)
    (n_13 : ((Value.ref C1) == .ref C3) = false)
    (s_20 : PySem.W.subIn K (.ref C2) (.ref C0) = some false)
    (n_20 : ((Value.ref C2) == .ref C0) = false)
    (s_21 : PySem.W.subIn K (.ref C2) (.ref C1) = some false)
    (n_21 : ((Value.ref C2) == .ref C1) = false)
    (s_23 : PySem.W.subIn K (.ref C2) (.ref C3) = some false)
    (n_23 : ((Value.ref C2) == .ref C3) = false)
    (s_30 : PySem.W.subIn K (.ref C3) (.ref C0) = some false)
    (n_30 : ((Value.ref C3) == .ref C0) = false)
    (s_31 : PySem.W.subIn K (.ref C3) (.ref C1) = some false)
    (n_31 : ((Value.ref C3) == .ref C1) = false)
    (s_32 : PySem.W.subIn K (.ref C3) (.ref C2) = some false)
    (n_32 : ((Value.ref C3) == .ref C2) = false)
    (row_0 : chkRow K D0 [D0, D1, D2, D3, D4, D5, D6, D7, D8, C1, C2] = true)
    (ob_0 : PySem.W.subIn K (.ref D0) (.type "object") = some true)
    (ne_0 : PySem.W.findIn K (.ref D0) "__ne__" = some (some (.builtin "object.__ne__")))
    (row_1 : chkRow K D1 [D0, D1, D2, D3, D4, D5, D6, D7, D8, C1, C2] = true)
    (ob_1 : PySem.W.subIn K (.ref D1) (.type "object") = some true)
    (ne_1 : PySem.W.findIn K (.ref D1) "__ne__" = some (some (.builtin "object.__ne__")))
    (row_2 : chkRow K D2 [D0, D1, D2, D3, D4, D5, D6, D7, D8, C1, C2] = true)
    (ob_2 : PySem.W.subIn K (.ref D2) (.type "object") = some true)
    (ne_2 : PySem.W.findIn K (.ref D2) "__ne__" = some (some (.builtin "object.__ne__")))
    (row_3 : chkRow K D3 [D0, D1, D2, D3, D4, D5, D6, D7, D8, C1, C2] = true)
    (ob_3 : PySem.W.subIn K (.ref D3) (.type "object") = some true)
    (ne_3 : PySem.W.findIn K (.ref D3) "__ne__" = some (some (.builtin "object.__ne__")))
    (row_4 : chkRow K D4 [D0, D1, D2, D3, D4, D5, D6, D7, D8, C1, C2] = true)
    (ob_4 : PySem.W.subIn K (.ref D4) (.type "object") = some true)
    (ne_4 : PySem.W.findIn K (.ref D4) "__ne__" = some (some (.builtin "object.__ne__")))
    (row_5 : chkRow K D5 [D0, D1, D2, D3, D4, D5, D6, D7, D8, C1, C2] = true)
    (ob_5 : PySem.W.subIn K (.ref D5) (.type "object") = some true)
    (ne_5 : PySem.W.findIn K (.ref D5) "__ne__" = some (some (.builtin "object.__ne__")))
    (row_6 : chkRow K D6 [D0, D1, D2, D3, D4, D5, D6, D7, D8, C1, C2] = true)
    (ob_6 : PySem.W.subIn K (.ref D6) (.type "object") = some true)
    (ne_6 : PySem.W.findIn K (.ref D6) "__ne__" = some (some (.builtin "object.__ne__")))
    (row_7 : chkRow K D7 [D0, D1, D2, D3, D4, D5, D6, D7, D8, C1, C2] = true)
    (ob_7 : PySem.W.subIn K (.ref D7) (.type "object") = some true)
    (ne_7 : PySem.W.findIn K (.ref D7) "__ne__" = some (some (.builtin "object.__ne__")))
    (row_8 : chkRow K D8 [D0, D1, D2, D3, D4, D5, D6, D7, D8, C1, C2] = true)
    (ob_8 : PySem.W.subIn K (.ref D8) (.type "object") = some true)
    (ne_8 : PySem.W.findIn K (.ref D8) "__ne__" = some (some (.builtin "object.__ne__")))
    (row_9 : chkRow K C1 [D0, D1, D2, D3, D4, D5, D6, D7, D8, C1, C2] = true)
    (ob_9 : PySem.W.subIn K (.ref C1) (.type "object") = some true)
    (ne_9 : PySem.W.findIn K (.ref C1) "__ne__" = some (some (.builtin "object.__ne__")))
    (row_10 : chkRow K C2 [D0, D1, D2, D3, D4, D5, D6, D7, D8, C1, C2] = true)
    (ob_10 : PySem.W.subIn K (.ref C2) (.type "object") = some true)
    (ne_10 : PySem.W.findIn K (.ref C2) "__ne__" = some (some (.builtin "object.__ne__")))
    (nd11 : nodA [D0, D1, D2, D3, D4, D5, D6, D7, D8, C1, C2] = true)
    (row_t : chkTy K [D0, D1, D2, D3, D4, D5, D6, D7, D8, C1, C2] = true)
    (c2 : PySem.W.specialIn K (.builtin "object.__class__") "__get__" = some (some (.builtin "getset_descriptor.__get__")))
    (c3 : PySem.W.takesIn K (.builtin "object.__class__") = some true)
    (a_CT : PySem.W.nsIn K mainGlobals "Tree" = some (some (.ref CT)))
    (k_CT : PySem.W.keepIn K (.ref CT) = true)
    (pg_CT : PySem.W.plainGet K CT Str.empty = true)
    (hd_CT : PySem.W.hasDictIn K CT = true)
    (po_CT : PySem.W.plainOver K CT = true)
    (sa_CT : PySem.W.findIn K (.ref CT) "__setattr__" = some (some (.builtin "object.__setattr__")))
    (mk_CT : PySem.W.makesIn K CT = true)
    (na_CT_nodes : PySem.W.findIn K (.ref CT) "nodes" = some none)
    (a_CD : PySem.W.nsIn K mainGlobals "NoDeed" = some (some (.ref CD)))
    (k_CD : PySem.W.keepIn K (.ref CD) = true)
    (xLD_ : K.lookup CD = some (excClassObj nmD_ qD_ CD ND_ bsD_ bmD_ true snD_ subD_ abD_ colD_ ddD_ m0D_ m1D_ m2D_ m3D_ m5D_ "ValueError.__new__"))
    (xRD_ : HandSPX.refsVE bmD_ = true)
    (saD_ : PySem.W.findIn K (.ref CD) "__setattr__" = some (some (.builtin "object.__setattr__")))
    (exD_ : PySem.W.subIn K (.ref CD) (.type "BaseException") = some true)
    (tyD_ : PySem.W.typeIn K (.ref CD) = some (.type "type"))
    (na_CD_why : PySem.W.findIn K (.ref CD) "why" = some none)
    (gaB : PySem.W.findIn K (.ref CD) "__getattribute__" = some (some (.builtin "BaseException.__getattribute__")))
    (ggB : PySem.W.findIn K (.ref CD) "__getattr__" = some none)
    (hdB : PySem.W.hasDictIn K CD = true)
    (teB : PySem.W.exmOne K (.ref CD) (.ref CD) = some true)
    (gLN : PySem.W.nsIn K mainGlobals "LONGEST_NAME" = some (some (.int 12 tLN)))
    (gLL : PySem.W.nsIn K mainGlobals "NAME_LETTERS" = some (some (.str letters tLL)))
    (gRO : PySem.W.nsIn K mainGlobals "ROOT" = some (some (.int 0 tRO)))
    (z_isinstance : PySem.W.nsIn K mainGlobals "isinstance" = some none)
    (z_str : PySem.W.nsIn K mainGlobals "str" = some none)
    (z_len : PySem.W.nsIn K mainGlobals "len" = some none)
    (z_all : PySem.W.nsIn K mainGlobals "all" = some none)
    (z_int : PySem.W.nsIn K mainGlobals "int" = some none)
    (z_abs : PySem.W.nsIn K mainGlobals "abs" = some none)
    (z_tuple : PySem.W.nsIn K mainGlobals "tuple" = some none)
    (z_range : PySem.W.nsIn K mainGlobals "range" = some none)
    (z_bool : PySem.W.nsIn K mainGlobals "bool" = some none)
    (z_min : PySem.W.nsIn K mainGlobals "min" = some none)
    (z_sorted : PySem.W.nsIn K mainGlobals "sorted" = some none)
    (z_enumerate : PySem.W.nsIn K mainGlobals "enumerate" = some none)
    (z_set : PySem.W.nsIn K mainGlobals "set" = some none)
    (z_list : PySem.W.nsIn K mainGlobals "list" = some none)
    (z_dict : PySem.W.nsIn K mainGlobals "dict" = some none)
    (a_fName : PySem.W.nsIn K mainGlobals "is_name" = some (some (.ref fName)))
    (l_fName : K.lookup fName = some ⟨oc_fName, od_fName, .func (PySem.W.fnOf "is_name" "is_name" (defArgs sName) (defBody sName) (defScope sName) .none kV_fName dc_fName pm_fName an_fName cd_fName ct_fName), sl_fName⟩)
    (c_fName : PySem.W.codeIn K cd_fName "is_name" = true)
    (k_fName : PySem.W.keepIn K (.ref fName) = true)
    (a_fStep : PySem.W.nsIn K mainGlobals "is_step" = some (some (.ref fStep)))
    (l_fStep : K.lookup fStep = some ⟨oc_fStep, od_fStep, .func (PySem.W.fnOf "is_step" "is_step" (defArgs sStep) (defBody sStep) (defScope sStep) .none kV_fStep dc_fStep pm_fStep an_fStep cd_fStep ct_fStep), sl_fStep⟩)
    (c_fStep : PySem.W.codeIn K cd_fStep "is_step" = true)
    (k_fStep : PySem.W.keepIn K (.ref fStep) = true)
    (a_fBad : PySem.W.nsIn K mainGlobals "bad_place" = some (some (.ref fBad)))
    (l_fBad : K.lookup fBad = some ⟨oc_fBad, od_fBad, .func (PySem.W.fnOf "bad_place" "bad_place" (defArgs sBad) (defBody sBad) (defScope sBad) .none kV_fBad dc_fBad pm_fBad an_fBad cd_fBad ct_fBad), sl_fBad⟩)
    (c_fBad : PySem.W.codeIn K cd_fBad "bad_place" = true)
    (k_fBad : PySem.W.keepIn K (.ref fBad) = true)
    (a_fNum : PySem.W.nsIn K mainGlobals "is_number" = some (some (.ref fNum)))
    (l_fNum : K.lookup fNum = some ⟨oc_fNum, od_fNum, .func (PySem.W.fnOf "is_number" "is_number" (defArgs sNum) (defBody sNum) (defScope sNum) .none kV_fNum dc_fNum pm_fNum an_fNum cd_fNum ct_fNum), sl_fNum⟩)
    (c_fNum : PySem.W.codeIn K cd_fNum "is_number" = true)
    (k_fNum : PySem.W.keepIn K (.ref fNum) = true)
    (a_fOwner : PySem.W.nsIn K mainGlobals "is_owner" = some (some (.ref fOwner)))
    (l_fOwner : K.lookup fOwner = some ⟨oc_fOwner, od_fOwner, .func (PySem.W.fnOf "is_owner" "is_owner" (defArgs sOwner) (defBody sOwner) (defScope sOwner) .none kV_fOwner dc_fOwner pm_fOwner an_fOwner cd_fOwner ct_fOwner), sl_fOwner⟩)
    (c_fOwner : PySem.W.codeIn K cd_fOwner "is_owner" = true)
    (k_fOwner : PySem.W.keepIn K (.ref fOwner) = true)
    (a_fAt : PySem.W.nsIn K mainGlobals "is_at" = some (some (.ref fAt)))
    (l_fAt : K.lookup fAt = some ⟨oc_fAt, od_fAt, .func (PySem.W.fnOf "is_at" "is_at" (defArgs sAt) (defBody sAt) (defScope sAt) .none kV_fAt dc_fAt pm_fAt an_fAt cd_fAt ct_fAt), sl_fAt⟩)
    (c_fAt : PySem.W.codeIn K cd_fAt "is_at" = true)
    (k_fAt : PySem.W.keepIn K (.ref fAt) = true)
    (a_fState : PySem.W.nsIn K mainGlobals "_law_state" = some (some (.ref fState)))
    (l_fState : K.lookup fState = some ⟨oc_fState, od_fState, .func (PySem.W.fnOf "_law_state" "_law_state" (defArgs sState) (defBody sState) (defScope sState) .none kV_fState dc_fState pm_fState an_fState cd_fState ct_fState), sl_fState⟩)
    (c_fState : PySem.W.codeIn K cd_fState "_law_state" = true)
    (k_fState : PySem.W.keepIn K (.ref fState) = true)
    (a_fDigit : PySem.W.nsIn K mainGlobals "_law_digit" = some (some (.ref fDigit)))
    (l_fDigit : K.lookup fDigit = some ⟨oc_fDigit, od_fDigit, .func (PySem.W.fnOf "_law_digit" "_law_digit" (defArgs sDigit) (defBody sDigit) (defScope sDigit) .none kV_fDigit dc_fDigit pm_fDigit an_fDigit cd_fDigit ct_fDigit), sl_fDigit⟩)
    (c_fDigit : PySem.W.codeIn K cd_fDigit "_law_digit" = true)
    (k_fDigit : PySem.W.keepIn K (.ref fDigit) = true)
    (a_fI0 : PySem.W.findIn K (.ref C0) "__init__" = some (some (.ref fI0)))
    (i_fI0 : PySem.W.isFn K (.ref fI0) = true)
    (l_fI0 : K.lookup fI0 = some ⟨oc_fI0, od_fI0, .func (PySem.W.fnOf "__init__" "Folder.__init__" (defArgs sFolI) (defBody sFolI) (defScope sFolI) .none kV_fI0 dc_fI0 pm_fI0 an_fI0 cd_fI0 ct_fI0), sl_fI0⟩)
    (c_fI0 : PySem.W.codeIn K cd_fI0 "Folder.__init__" = true)
    (k_fI0 : PySem.W.keepIn K (.ref fI0) = true)
    (a_fI1 : PySem.W.findIn K (.ref C1) "__init__" = some (some (.ref fI1)))
    (i_fI1 : PySem.W.isFn K (.ref fI1) = true)
    (l_fI1 : K.lookup fI1 = some ⟨oc_fI1, od_fI1, .func (PySem.W.fnOf "__init__" "File.__init__" (defArgs sFileI) (defBody sFileI) (defScope sFileI) .none kV_fI1 dc_fI1 pm_fI1 an_fI1 cd_fI1 ct_fI1), sl_fI1⟩)
    (c_fI1 : PySem.W.codeIn K cd_fI1 "File.__init__" = true)
    (k_fI1 : PySem.W.keepIn K (.ref fI1) = true)
    (a_fI2 : PySem.W.findIn K (.ref C2) "__init__" = some (some (.ref fI2)))
    (i_fI2 : PySem.W.isFn K (.ref fI2) = true)
    (l_fI2 : K.lookup fI2 = some ⟨oc_fI2, od_fI2, .func (PySem.W.fnOf "__init__" "Link.__init__" (defArgs sLinkI) (defBody sLinkI) (defScope sLinkI) .none kV_fI2 dc_fI2 pm_fI2 an_fI2 cd_fI2 ct_fI2), sl_fI2⟩)
    (c_fI2 : PySem.W.codeIn K cd_fI2 "Link.__init__" = true)
    (k_fI2 : PySem.W.keepIn K (.ref fI2) = true)
    (a_fTI : PySem.W.findIn K (.ref CT) "__init__" = some (some (.ref fTI)))
    (i_fTI : PySem.W.isFn K (.ref fTI) = true)
    (l_fTI : K.lookup fTI = some ⟨oc_fTI, od_fTI, .func (PySem.W.fnOf "__init__" "Tree.__init__" (defArgs sTreeI) (defBody sTreeI) (defScope sTreeI) .none kV_fTI dc_fTI pm_fTI an_fTI cd_fTI ct_fTI), sl_fTI⟩)
    (c_fTI : PySem.W.codeIn K cd_fTI "Tree.__init__" = true)
    (k_fTI : PySem.W.keepIn K (.ref fTI) = true)
    (a_fNDI : PySem.W.findIn K (.ref CD) "__init__" = some (some (.ref fNDI)))
    (i_fNDI : PySem.W.isFn K (.ref fNDI) = true)
    (l_fNDI : K.lookup fNDI = some ⟨oc_fNDI, od_fNDI, .func (PySem.W.fnOf "__init__" "NoDeed.__init__" (defArgs sNDI) (defBody sNDI) (defScope sNDI) .none kV_fNDI dc_fNDI pm_fNDI an_fNDI cd_fNDI ct_fNDI), sl_fNDI⟩)
    (c_fNDI : PySem.W.codeIn K cd_fNDI "NoDeed.__init__" = true)
    (k_fNDI : PySem.W.keepIn K (.ref fNDI) = true)
    (tID : PySem.W.typeIn K (.ref fNDI) = some (.type "function"))
    (a_fMay : PySem.W.nsIn K mainGlobals "may_be_entered" = some (some (.ref fMay)))
    (l_fMay : K.lookup fMay = some ⟨oc_fMay, od_fMay, .func (PySem.W.fnOf "may_be_entered" "may_be_entered" (defArgs sMay) (defBody sMay) (defScope sMay) .none kV_fMay dc_fMay pm_fMay an_fMay cd_fMay ct_fMay), sl_fMay⟩)
    (c_fMay : PySem.W.codeIn K cd_fMay "may_be_entered" = true)
    (k_fMay : PySem.W.keepIn K (.ref fMay) = true)
    (a_fStood : PySem.W.nsIn K mainGlobals "stood_in" = some (some (.ref fStood)))
    (l_fStood : K.lookup fStood = some ⟨oc_fStood, od_fStood, .func (PySem.W.fnOf "stood_in" "stood_in" (defArgs sStood) (defBody sStood) (defScope sStood) .none kV_fStood dc_fStood pm_fStood an_fStood cd_fStood ct_fStood), sl_fStood⟩)
    (c_fStood : PySem.W.codeIn K cd_fStood "stood_in" = true)
    (k_fStood : PySem.W.keepIn K (.ref fStood) = true)
    (a_fFF : PySem.W.nsIn K mainGlobals "found_folders" = some (some (.ref fFF)))
    (l_fFF : K.lookup fFF = some ⟨oc_fFF, od_fFF, .func (PySem.W.fnOf "found_folders" "found_folders" (defArgs sFound) (defBody sFound) (defScope sFound) .none kV_fFF dc_fFF pm_fFF an_fFF cd_fFF ct_fFF), sl_fFF⟩)
    (c_fFF : PySem.W.codeIn K cd_fFF "found_folders" = true)
    (k_fFF : PySem.W.keepIn K (.ref fFF) = true)
    (a_fBy : PySem.W.nsIn K mainGlobals "by_names" = some (some (.ref fBy)))
    (l_fBy : K.lookup fBy = some ⟨oc_fBy, od_fBy, .func (PySem.W.fnOf "by_names" "by_names" (defArgs sBy) (defBody sBy) (defScope sBy) .none kV_fBy dc_fBy pm_fBy an_fBy cd_fBy ct_fBy), sl_fBy⟩)
    (c_fBy : PySem.W.codeIn K cd_fBy "by_names" = true)
    (k_fBy : PySem.W.keepIn K (.ref fBy) = true)
    (cB : cd_fBy = .ref c0)
    (lB : K.lookup c0 = some ⟨eB, dB, .fields vsB, slB⟩)
    (vB : vsB[11]? = some (.ref P0))
    (nB : K.lookup P0 = none)
    (a_fWE : PySem.W.nsIn K mainGlobals "wrong_entries" = some (some (.ref fWE)))
    (l_fWE : K.lookup fWE = some ⟨oc_fWE, od_fWE, .func (PySem.W.fnOf "wrong_entries" "wrong_entries" (defArgs sWE) (defBody sWE) (defScope sWE) .none kV_fWE dc_fWE pm_fWE an_fWE cd_fWE ct_fWE), sl_fWE⟩)
    (c_fWE : PySem.W.codeIn K cd_fWE "wrong_entries" = true)
    (k_fWE : PySem.W.keepIn K (.ref fWE) = true)
    (a_fWN : PySem.W.nsIn K mainGlobals "wrong_node" = some (some (.ref fWN)))
    (l_fWN : K.lookup fWN = some ⟨oc_fWN, od_fWN, .func (PySem.W.fnOf "wrong_node" "wrong_node" (defArgs sWN) (defBody sWN) (defScope sWN) .none kV_fWN dc_fWN pm_fWN an_fWN cd_fWN ct_fWN), sl_fWN⟩)
    (c_fWN : PySem.W.codeIn K cd_fWN "wrong_node" = true)
    (k_fWN : PySem.W.keepIn K (.ref fWN) = true)
    (a_fET : PySem.W.nsIn K mainGlobals "entered_times" = some (some (.ref fET)))
    (l_fET : K.lookup fET = some ⟨oc_fET, od_fET, .func (PySem.W.fnOf "entered_times" "entered_times" (defArgs sET) (defBody sET) (defScope sET) .none kV_fET dc_fET pm_fET an_fET cd_fET ct_fET), sl_fET⟩)
    (c_fET : PySem.W.codeIn K cd_fET "entered_times" = true)
    (k_fET : PySem.W.keepIn K (.ref fET) = true)
    (a_fCN : PySem.W.nsIn K mainGlobals "check_nodes" = some (some (.ref fCN)))
    (l_fCN : K.lookup fCN = some ⟨oc_fCN, od_fCN, .func (PySem.W.fnOf "check_nodes" "check_nodes" (defArgs sCN) (defBody sCN) (defScope sCN) .none kV_fCN dc_fCN pm_fCN an_fCN cd_fCN ct_fCN), sl_fCN⟩)
    (c_fCN : PySem.W.codeIn K cd_fCN "check_nodes" = true)
    (k_fCN : PySem.W.keepIn K (.ref fCN) = true)
    (a_fCF : PySem.W.nsIn K mainGlobals "check_folders" = some (some (.ref fCF)))
    (l_fCF : K.lookup fCF = some ⟨oc_fCF, od_fCF, .func (PySem.W.fnOf "check_folders" "check_folders" (defArgs sCF) (defBody sCF) (defScope sCF) .none kV_fCF dc_fCF pm_fCF an_fCF cd_fCF ct_fCF), sl_fCF⟩)
    (c_fCF : PySem.W.codeIn K cd_fCF "check_folders" = true)
    (k_fCF : PySem.W.keepIn K (.ref fCF) = true)
    (a_fK0 : PySem.W.findIn K (.ref D0) "__init__" = some (some (.ref fK0)))
    (i_fK0 : PySem.W.isFn K (.ref fK0) = true)
    (l_fK0 : K.lookup fK0 = some ⟨oc_fK0, od_fK0, .func (PySem.W.fnOf "__init__" "MakeFolder.__init__" (defArgs sMakeFolderI) (defBody sMakeFolderI) (defScope sMakeFolderI) .none kV_fK0 dc_fK0 pm_fK0 an_fK0 cd_fK0 ct_fK0), sl_fK0⟩)
    (c_fK0 : PySem.W.codeIn K cd_fK0 "MakeFolder.__init__" = true)
    (k_fK0 : PySem.W.keepIn K (.ref fK0) = true)
    (a_fK1 : PySem.W.findIn K (.ref D1) "__init__" = some (some (.ref fK1)))
    (i_fK1 : PySem.W.isFn K (.ref fK1) = true)
    (l_fK1 : K.lookup fK1 = some ⟨oc_fK1, od_fK1, .func (PySem.W.fnOf "__init__" "MakeFile.__init__" (defArgs sMakeFileI) (defBody sMakeFileI) (defScope sMakeFileI) .none kV_fK1 dc_fK1 pm_fK1 an_fK1 cd_fK1 ct_fK1), sl_fK1⟩)
    (c_fK1 : PySem.W.codeIn K cd_fK1 "MakeFile.__init__" = true)
    (k_fK1 : PySem.W.keepIn K (.ref fK1) = true)
    (a_fK2 : PySem.W.findIn K (.ref D2) "__init__" = some (some (.ref fK2)))
    (i_fK2 : PySem.W.isFn K (.ref fK2) = true)
    (l_fK2 : K.lookup fK2 = some ⟨oc_fK2, od_fK2, .func (PySem.W.fnOf "__init__" "MakeLink.__init__" (defArgs sMakeLinkI) (defBody sMakeLinkI) (defScope sMakeLinkI) .none kV_fK2 dc_fK2 pm_fK2 an_fK2 cd_fK2 ct_fK2), sl_fK2⟩)
    (c_fK2 : PySem.W.codeIn K cd_fK2 "MakeLink.__init__" = true)
    (k_fK2 : PySem.W.keepIn K (.ref fK2) = true)
    (a_fK3 : PySem.W.findIn K (.ref D3) "__init__" = some (some (.ref fK3)))
    (i_fK3 : PySem.W.isFn K (.ref fK3) = true)
    (l_fK3 : K.lookup fK3 = some ⟨oc_fK3, od_fK3, .func (PySem.W.fnOf "__init__" "Put.__init__" (defArgs sPutI) (defBody sPutI) (defScope sPutI) .none kV_fK3 dc_fK3 pm_fK3 an_fK3 cd_fK3 ct_fK3), sl_fK3⟩)
    (c_fK3 : PySem.W.codeIn K cd_fK3 "Put.__init__" = true)
    (k_fK3 : PySem.W.keepIn K (.ref fK3) = true)
    (a_fK4 : PySem.W.findIn K (.ref D4) "__init__" = some (some (.ref fK4)))
    (i_fK4 : PySem.W.isFn K (.ref fK4) = true)
    (l_fK4 : K.lookup fK4 = some ⟨oc_fK4, od_fK4, .func (PySem.W.fnOf "__init__" "Take.__init__" (defArgs sTakeI) (defBody sTakeI) (defScope sTakeI) .none kV_fK4 dc_fK4 pm_fK4 an_fK4 cd_fK4 ct_fK4), sl_fK4⟩)
    (c_fK4 : PySem.W.codeIn K cd_fK4 "Take.__init__" = true)
    (k_fK4 : PySem.W.keepIn K (.ref fK4) = true)
    (a_fK5 : PySem.W.findIn K (.ref D5) "__init__" = some (some (.ref fK5)))
    (i_fK5 : PySem.W.isFn K (.ref fK5) = true)
    (l_fK5 : K.lookup fK5 = some ⟨oc_fK5, od_fK5, .func (PySem.W.fnOf "__init__" "Move.__init__" (defArgs sMoveI) (defBody sMoveI) (defScope sMoveI) .none kV_fK5 dc_fK5 pm_fK5 an_fK5 cd_fK5 ct_fK5), sl_fK5⟩)
    (c_fK5 : PySem.W.codeIn K cd_fK5 "Move.__init__" = true)
    (k_fK5 : PySem.W.keepIn K (.ref fK5) = true)
    (a_fK6 : PySem.W.findIn K (.ref D6) "__init__" = some (some (.ref fK6)))
    (i_fK6 : PySem.W.isFn K (.ref fK6) = true)
    (l_fK6 : K.lookup fK6 = some ⟨oc_fK6, od_fK6, .func (PySem.W.fnOf "__init__" "Came.__init__" (defArgs sCameI) (defBody sCameI) (defScope sCameI) .none kV_fK6 dc_fK6 pm_fK6 an_fK6 cd_fK6 ct_fK6), sl_fK6⟩)
    (c_fK6 : PySem.W.codeIn K cd_fK6 "Came.__init__" = true)
    (k_fK6 : PySem.W.keepIn K (.ref fK6) = true)
    (a_fK7 : PySem.W.findIn K (.ref D7) "__init__" = some (some (.ref fK7)))
    (i_fK7 : PySem.W.isFn K (.ref fK7) = true)
    (l_fK7 : K.lookup fK7 = some ⟨oc_fK7, od_fK7, .func (PySem.W.fnOf "__init__" "Refused.__init__" (defArgs sRefusedI) (defBody sRefusedI) (defScope sRefusedI) .none kV_fK7 dc_fK7 pm_fK7 an_fK7 cd_fK7 ct_fK7), sl_fK7⟩)
    (c_fK7 : PySem.W.codeIn K cd_fK7 "Refused.__init__" = true)
    (k_fK7 : PySem.W.keepIn K (.ref fK7) = true)
    (a_fK8 : PySem.W.findIn K (.ref D8) "__init__" = some (some (.ref fK8)))
    (i_fK8 : PySem.W.isFn K (.ref fK8) = true)
    (l_fK8 : K.lookup fK8 = some ⟨oc_fK8, od_fK8, .func (PySem.W.fnOf "__init__" "Look.__init__" (defArgs sLkI) (defBody sLkI) (defScope sLkI) .none kV_fK8 dc_fK8 pm_fK8 an_fK8 cd_fK8 ct_fK8), sl_fK8⟩)
    (c_fK8 : PySem.W.codeIn K cd_fK8 "Look.__init__" = true)
    (k_fK8 : PySem.W.keepIn K (.ref fK8) = true)
    (a_fQ0 : PySem.W.findIn K (.ref D0) "__eq__" = some (some (.ref fQ0)))
    (i_fQ0 : PySem.W.isFn K (.ref fQ0) = true)
    (l_fQ0 : K.lookup fQ0 = some ⟨oc_fQ0, od_fQ0, .func (PySem.W.fnOf "__eq__" "MakeFolder.__eq__" (defArgs sMakeFolderE) (defBody sMakeFolderE) (defScope sMakeFolderE) .none kV_fQ0 dc_fQ0 pm_fQ0 an_fQ0 cd_fQ0 ct_fQ0), sl_fQ0⟩)
    (c_fQ0 : PySem.W.codeIn K cd_fQ0 "MakeFolder.__eq__" = true)
    (k_fQ0 : PySem.W.keepIn K (.ref fQ0) = true)
    (a_fQ1 : PySem.W.findIn K (.ref D1) "__eq__" = some (some (.ref fQ1)))
    (i_fQ1 : PySem.W.isFn K (.ref fQ1) = true)
    (l_fQ1 : K.lookup fQ1 = some ⟨oc_fQ1, od_fQ1, .func (PySem.W.fnOf "__eq__" "MakeFile.__eq__" (defArgs sMakeFileE) (defBody sMakeFileE) (defScope sMakeFileE) .none kV_fQ1 dc_fQ1 pm_fQ1 an_fQ1 cd_fQ1 ct_fQ1), sl_fQ1⟩)
    (c_fQ1 : PySem.W.codeIn K cd_fQ1 "MakeFile.__eq__" = true)
    (k_fQ1 : PySem.W.keepIn K (.ref fQ1) = true)
    (a_fQ2 : PySem.W.findIn K (.ref D2) "__eq__" = some (some (.ref fQ2)))
    (i_fQ2 : PySem.W.isFn K (.ref fQ2) = true)
    (l_fQ2 : K.lookup fQ2 = some ⟨oc_fQ2, od_fQ2, .func (PySem.W.fnOf "__eq__" "MakeLink.__eq__" (defArgs sMakeLinkE) (defBody sMakeLinkE) (defScope sMakeLinkE) .none kV_fQ2 dc_fQ2 pm_fQ2 an_fQ2 cd_fQ2 ct_fQ2), sl_fQ2⟩)
    (c_fQ2 : PySem.W.codeIn K cd_fQ2 "MakeLink.__eq__" = true)
    (k_fQ2 : PySem.W.keepIn K (.ref fQ2) = true)
    (a_fQ3 : PySem.W.findIn K (.ref D3) "__eq__" = some (some (.ref fQ3)))
    (i_fQ3 : PySem.W.isFn K (.ref fQ3) = true)
    (l_fQ3 : K.lookup fQ3 = some ⟨oc_fQ3, od_fQ3, .func (PySem.W.fnOf "__eq__" "Put.__eq__" (defArgs sPutE) (defBody sPutE) (defScope sPutE) .none kV_fQ3 dc_fQ3 pm_fQ3 an_fQ3 cd_fQ3 ct_fQ3), sl_fQ3⟩)
    (c_fQ3 : PySem.W.codeIn K cd_fQ3 "Put.__eq__" = true)
    (k_fQ3 : PySem.W.keepIn K (.ref fQ3) = true)
    (a_fQ4 : PySem.W.findIn K (.ref D4) "__eq__" = some (some (.ref fQ4)))
    (i_fQ4 : PySem.W.isFn K (.ref fQ4) = true)
    (l_fQ4 : K.lookup fQ4 = some ⟨oc_fQ4, od_fQ4, .func (PySem.W.fnOf "__eq__" "Take.__eq__" (defArgs sTakeE) (defBody sTakeE) (defScope sTakeE) .none kV_fQ4 dc_fQ4 pm_fQ4 an_fQ4 cd_fQ4 ct_fQ4), sl_fQ4⟩)
    (c_fQ4 : PySem.W.codeIn K cd_fQ4 "Take.__eq__" = true)
    (k_fQ4 : PySem.W.keepIn K (.ref fQ4) = true)
    (a_fQ5 : PySem.W.findIn K (.ref D5) "__eq__" = some (some (.ref fQ5)))
    (i_fQ5 : PySem.W.isFn K (.ref fQ5) = true)
    (l_fQ5 : K.lookup fQ5 = some ⟨oc_fQ5, od_fQ5, .func (PySem.W.fnOf "__eq__" "Move.__eq__" (defArgs sMoveE) (defBody sMoveE) (defScope sMoveE) .none kV_fQ5 dc_fQ5 pm_fQ5 an_fQ5 cd_fQ5 ct_fQ5), sl_fQ5⟩)
    (c_fQ5 : PySem.W.codeIn K cd_fQ5 "Move.__eq__" = true)
    (k_fQ5 : PySem.W.keepIn K (.ref fQ5) = true)
    (a_fQ6 : PySem.W.findIn K (.ref D6) "__eq__" = some (some (.ref fQ6)))
    (i_fQ6 : PySem.W.isFn K (.ref fQ6) = true)
    (l_fQ6 : K.lookup fQ6 = some ⟨oc_fQ6, od_fQ6, .func (PySem.W.fnOf "__eq__" "Came.__eq__" (defArgs sCameE) (defBody sCameE) (defScope sCameE) .none kV_fQ6 dc_fQ6 pm_fQ6 an_fQ6 cd_fQ6 ct_fQ6), sl_fQ6⟩)
    (c_fQ6 : PySem.W.codeIn K cd_fQ6 "Came.__eq__" = true)
    (k_fQ6 : PySem.W.keepIn K (.ref fQ6) = true)
    (a_fQ7 : PySem.W.findIn K (.ref D7) "__eq__" = some (some (.ref fQ7)))
    (i_fQ7 : PySem.W.isFn K (.ref fQ7) = true)
    (l_fQ7 : K.lookup fQ7 = some ⟨oc_fQ7, od_fQ7, .func (PySem.W.fnOf "__eq__" "Refused.__eq__" (defArgs sRefusedE) (defBody sRefusedE) (defScope sRefusedE) .none kV_fQ7 dc_fQ7 pm_fQ7 an_fQ7 cd_fQ7 ct_fQ7), sl_fQ7⟩)
    (c_fQ7 : PySem.W.codeIn K cd_fQ7 "Refused.__eq__" = true)
    (k_fQ7 : PySem.W.keepIn K (.ref fQ7) = true)
    (a_fQ8 : PySem.W.findIn K (.ref D8) "__eq__" = some (some (.ref fQ8)))
    (i_fQ8 : PySem.W.isFn K (.ref fQ8) = true)
    (l_fQ8 : K.lookup fQ8 = some ⟨oc_fQ8, od_fQ8, .func (PySem.W.fnOf "__eq__" "Look.__eq__" (defArgs sLookE) (defBody sLookE) (defScope sLookE) .none kV_fQ8 dc_fQ8 pm_fQ8 an_fQ8 cd_fQ8 ct_fQ8), sl_fQ8⟩)
    (c_fQ8 : PySem.W.codeIn K cd_fQ8 "Look.__eq__" = true)
    (k_fQ8 : PySem.W.keepIn K (.ref fQ8) = true)
    (a_fQ9 : PySem.W.findIn K (.ref C1) "__eq__" = some (some (.ref fQ9)))
    (i_fQ9 : PySem.W.isFn K (.ref fQ9) = true)
    (l_fQ9 : K.lookup fQ9 = some ⟨oc_fQ9, od_fQ9, .func (PySem.W.fnOf "__eq__" "File.__eq__" (defArgs sFileE) (defBody sFileE) (defScope sFileE) .none kV_fQ9 dc_fQ9 pm_fQ9 an_fQ9 cd_fQ9 ct_fQ9), sl_fQ9⟩)
    (c_fQ9 : PySem.W.codeIn K cd_fQ9 "File.__eq__" = true)
    (k_fQ9 : PySem.W.keepIn K (.ref fQ9) = true)
    (a_fQ10 : PySem.W.findIn K (.ref C2) "__eq__" = some (some (.ref fQ10)))
    (i_fQ10 : PySem.W.isFn K (.ref fQ10) = true)
    (l_fQ10 : K.lookup fQ10 = some ⟨oc_fQ10, od_fQ10, .func (PySem.W.fnOf "__eq__" "Link.__eq__" (defArgs sLinkE) (defBody sLinkE) (defScope sLinkE) .none kV_fQ10 dc_fQ10 pm_fQ10 an_fQ10 cd_fQ10 ct_fQ10), sl_fQ10⟩)
    (c_fQ10 : PySem.W.codeIn K cd_fQ10 "Link.__eq__" = true)
    (k_fQ10 : PySem.W.keepIn K (.ref fQ10) = true)
    (a_fMkg : PySem.W.nsIn K mainGlobals "is_making" = some (some (.ref fMkg)))
    (l_fMkg : K.lookup fMkg = some ⟨oc_fMkg, od_fMkg, .func (PySem.W.fnOf "is_making" "is_making" (defArgs sMkg) (defBody sMkg) (defScope sMkg) .none kV_fMkg dc_fMkg pm_fMkg an_fMkg cd_fMkg ct_fMkg), sl_fMkg⟩)
    (c_fMkg : PySem.W.codeIn K cd_fMkg "is_making" = true)
    (k_fMkg : PySem.W.keepIn K (.ref fMkg) = true)
    (a_fFos : PySem.W.nsIn K mainGlobals "folders_of" = some (some (.ref fFos)))
    (l_fFos : K.lookup fFos = some ⟨oc_fFos, od_fFos, .func (PySem.W.fnOf "folders_of" "folders_of" (defArgs sFos) (defBody sFos) (defScope sFos) .none kV_fFos dc_fFos pm_fFos an_fFos cd_fFos ct_fFos), sl_fFos⟩)
    (c_fFos : PySem.W.codeIn K cd_fFos "folders_of" = true)
    (k_fFos : PySem.W.keepIn K (.ref fFos) = true)
    (a_fNos : PySem.W.nsIn K mainGlobals "names_of" = some (some (.ref fNos)))
    (l_fNos : K.lookup fNos = some ⟨oc_fNos, od_fNos, .func (PySem.W.fnOf "names_of" "names_of" (defArgs sNos) (defBody sNos) (defScope sNos) .none kV_fNos dc_fNos pm_fNos an_fNos cd_fNos ct_fNos), sl_fNos⟩)
    (c_fNos : PySem.W.codeIn K cd_fNos "names_of" = true)
    (k_fNos : PySem.W.keepIn K (.ref fNos) = true)
    (a_fIsF : PySem.W.nsIn K mainGlobals "is_folder" = some (some (.ref fIsF)))
    (l_fIsF : K.lookup fIsF = some ⟨oc_fIsF, od_fIsF, .func (PySem.W.fnOf "is_folder" "is_folder" (defArgs sIsFol) (defBody sIsFol) (defScope sIsFol) .none kV_fIsF dc_fIsF pm_fIsF an_fIsF cd_fIsF ct_fIsF), sl_fIsF⟩)
    (c_fIsF : PySem.W.codeIn K cd_fIsF "is_folder" = true)
    (k_fIsF : PySem.W.keepIn K (.ref fIsF) = true)
    (a_fEntd : PySem.W.nsIn K mainGlobals "entered" = some (some (.ref fEntd)))
    (l_fEntd : K.lookup fEntd = some ⟨oc_fEntd, od_fEntd, .func (PySem.W.fnOf "entered" "entered" (defArgs sEntd) (defBody sEntd) (defScope sEntd) .none kV_fEntd dc_fEntd pm_fEntd an_fEntd cd_fEntd ct_fEntd), sl_fEntd⟩)
    (c_fEntd : PySem.W.codeIn K cd_fEntd "entered" = true)
    (k_fEntd : PySem.W.keepIn K (.ref fEntd) = true)
    (a_fWhy : PySem.W.nsIn K mainGlobals "why_not" = some (some (.ref fWhy)))
    (l_fWhy : K.lookup fWhy = some ⟨oc_fWhy, od_fWhy, .func (PySem.W.fnOf "why_not" "why_not" (defArgs sWhy) (defBody sWhy) (defScope sWhy) .none kV_fWhy dc_fWhy pm_fWhy an_fWhy cd_fWhy ct_fWhy), sl_fWhy⟩)
    (c_fWhy : PySem.W.codeIn K cd_fWhy "why_not" = true)
    (k_fWhy : PySem.W.keepIn K (.ref fWhy) = true)
    (a_fLacks : PySem.W.nsIn K mainGlobals "lacks_node" = some (some (.ref fLacks)))
    (l_fLacks : K.lookup fLacks = some ⟨oc_fLacks, od_fLacks, .func (PySem.W.fnOf "lacks_node" "lacks_node" (defArgs sLacks) (defBody sLacks) (defScope sLacks) .none kV_fLacks dc_fLacks pm_fLacks an_fLacks cd_fLacks ct_fLacks), sl_fLacks⟩)
    (c_fLacks : PySem.W.codeIn K cd_fLacks "lacks_node" = true)
    (k_fLacks : PySem.W.keepIn K (.ref fLacks) = true)
    (a_fTaken : PySem.W.nsIn K mainGlobals "finds_name_taken" = some (some (.ref fTaken)))
    (l_fTaken : K.lookup fTaken = some ⟨oc_fTaken, od_fTaken, .func (PySem.W.fnOf "finds_name_taken" "finds_name_taken" (defArgs sTaken) (defBody sTaken) (defScope sTaken) .none kV_fTaken dc_fTaken pm_fTaken an_fTaken cd_fTaken ct_fTaken), sl_fTaken⟩)
    (c_fTaken : PySem.W.codeIn K cd_fTaken "finds_name_taken" = true)
    (k_fTaken : PySem.W.keepIn K (.ref fTaken) = true)
    (a_fFull : PySem.W.nsIn K mainGlobals "takes_full_folder" = some (some (.ref fFull)))
    (l_fFull : K.lookup fFull = some ⟨oc_fFull, od_fFull, .func (PySem.W.fnOf "takes_full_folder" "takes_full_folder" (defArgs sFull) (defBody sFull) (defScope sFull) .none kV_fFull dc_fFull pm_fFull an_fFull cd_fFull ct_fFull), sl_fFull⟩)
    (c_fFull : PySem.W.codeIn K cd_fFull "takes_full_folder" = true)
    (k_fFull : PySem.W.keepIn K (.ref fFull) = true)
    (a_fBelow : PySem.W.nsIn K mainGlobals "moves_below_itself" = some (some (.ref fBelow)))
    (l_fBelow : K.lookup fBelow = some ⟨oc_fBelow, od_fBelow, .func (PySem.W.fnOf "moves_below_itself" "moves_below_itself" (defArgs sBelow) (defBody sBelow) (defScope sBelow) .none kV_fBelow dc_fBelow pm_fBelow an_fBelow cd_fBelow ct_fBelow), sl_fBelow⟩)
    (c_fBelow : PySem.W.codeIn K cd_fBelow "moves_below_itself" = true)
    (k_fBelow : PySem.W.keepIn K (.ref fBelow) = true)
    (a_fChg : PySem.W.nsIn K mainGlobals "changed" = some (some (.ref fChg)))
    (l_fChg : K.lookup fChg = some ⟨oc_fChg, od_fChg, .func (PySem.W.fnOf "changed" "changed" (defArgs sChanged) (defBody sChanged) (defScope sChanged) .none kV_fChg dc_fChg pm_fChg an_fChg cd_fChg ct_fChg), sl_fChg⟩)
    (c_fChg : PySem.W.codeIn K cd_fChg "changed" = true)
    (k_fChg : PySem.W.keepIn K (.ref fChg) = true)
    (a_fEnt : PySem.W.nsIn K mainGlobals "enter" = some (some (.ref fEnt)))
    (l_fEnt : K.lookup fEnt = some ⟨oc_fEnt, od_fEnt, .func (PySem.W.fnOf "enter" "enter" (defArgs sEnter) (defBody sEnter) (defScope sEnter) .none kV_fEnt dc_fEnt pm_fEnt an_fEnt cd_fEnt ct_fEnt), sl_fEnt⟩)
    (c_fEnt : PySem.W.codeIn K cd_fEnt "enter" = true)
    (k_fEnt : PySem.W.keepIn K (.ref fEnt) = true)
    (a_fDone : PySem.W.nsIn K mainGlobals "done" = some (some (.ref fDone)))
    (l_fDone : K.lookup fDone = some ⟨oc_fDone, od_fDone, .func (PySem.W.fnOf "done" "done" (defArgs sDone) (defBody sDone) (defScope sDone) .none kV_fDone dc_fDone pm_fDone an_fDone cd_fDone ct_fDone), sl_fDone⟩)
    (c_fDone : PySem.W.codeIn K cd_fDone "done" = true)
    (k_fDone : PySem.W.keepIn K (.ref fDone) = true)
    (a_fLW : PySem.W.nsIn K mainGlobals "_law_why" = some (some (.ref fLW)))
    (l_fLW : K.lookup fLW = some ⟨oc_fLW, od_fLW, .func (PySem.W.fnOf "_law_why" "_law_why" (defArgs sLWhy) (defBody sLWhy) (defScope sLWhy) .none kV_fLW dc_fLW pm_fLW an_fLW cd_fLW ct_fLW), sl_fLW⟩)
    (c_fLW : PySem.W.codeIn K cd_fLW "_law_why" = true)
    (k_fLW : PySem.W.keepIn K (.ref fLW) = true)
    (a_fTh : PySem.W.nsIn K mainGlobals "_law_things" = some (some (.ref fTh)))
    (l_fTh : K.lookup fTh = some ⟨oc_fTh, od_fTh, .func (PySem.W.fnOf "_law_things" "_law_things" (defArgs sThs) (defBody sThs) (defScope sThs) .none kV_fTh dc_fTh pm_fTh an_fTh cd_fTh ct_fTh), sl_fTh⟩)
    (c_fTh : PySem.W.codeIn K cd_fTh "_law_things" = true)
    (k_fTh : PySem.W.keepIn K (.ref fTh) = true)
    (a_fLaw : PySem.W.nsIn K mainGlobals "law" = some (some (.ref fLaw)))
    (l_fLaw : K.lookup fLaw = some ⟨oc_fLaw, od_fLaw, .func (PySem.W.fnOf "law" "law" (defArgs sLaw) (defBody sLaw) (defScope sLaw) .none kV_fLaw dc_fLaw pm_fLaw an_fLaw cd_fLaw ct_fLaw), sl_fLaw⟩)
    (c_fLaw : PySem.W.codeIn K cd_fLaw "law" = true)
    (k_fLaw : PySem.W.keepIn K (.ref fLaw) = true) :
    LawAtS l w K CX0 12 63 "_law_script" mg fa h := by
  have e := hfa.symm.trans (PySem.W.mg_of X G a_fLaw)
  cases e
  have F_fName := fun_mk (st := sName) l_fName c_fName k_fName
  have b_fName := F_fName.binds (ps := ["value"]) fun _ _ _ _ _ _ us hl => match us, hl with | [_], _ => rfl
  have F_fStep := fun_mk (st := sStep) l_fStep c_fStep k_fStep
  have b_fStep := F_fStep.binds (ps := ["value"]) fun _ _ _ _ _ _ us hl => match us, hl with | [_], _ => rfl
  have F_fBad := fun_mk (st := sBad) l_fBad c_fBad k_fBad
  have b_fBad := F_fBad.binds (ps := ["text"]) fun _ _ _ _ _ _ us hl => match us, hl with | [_], _ => rfl
  have F_fNum := fun_mk (st := sNum) l_fNum c_fNum k_fNum
  have b_fNum := F_fNum.binds (ps := ["value"]) fun _ _ _ _ _ _ us hl => match us, hl with | [_], _ => rfl
  have F_fOwner := fun_mk (st := sOwner) l_fOwner c_fOwner k_fOwner
  have b_fOwner := F_fOwner.binds (ps := ["value"]) fun _ _ _ _ _ _ us hl => match us, hl with | [_], _ => rfl
  have F_fAt := fun_mk (st := sAt) l_fAt c_fAt k_fAt
  have b_fAt := F_fAt.binds (ps := ["nodes", "number"]) fun _ _ _ _ _ _ us hl => match us, hl with | [_, _], _ => rfl
  have F_fState := fun_mk (st := sState) l_fState c_fState k_fState
  have b_fState := F_fState.binds (ps := ["_law_source"]) fun _ _ _ _ _ _ us hl => match us, hl with | [_], _ => rfl
  have F_fDigit := fun_mk (st := sDigit) l_fDigit c_fDigit k_fDigit
  have b_fDigit := F_fDigit.binds (ps := ["_law_state_here", "_law_base"]) fun _ _ _ _ _ _ us hl => match us, hl with | [_, _], _ => rfl
  have F_fI0 := fun_mk (st := sFolI) l_fI0 c_fI0 k_fI0
  have b_fI0 := F_fI0.binds (ps := ["self", "owner", "entries"]) fun _ _ _ _ _ _ us hl => match us, hl with | [_, _, _], _ => rfl
  have F_fI1 := fun_mk (st := sFileI) l_fI1 c_fI1 k_fI1
  have b_fI1 := F_fI1.binds (ps := ["self", "owner"]) fun _ _ _ _ _ _ us hl => match us, hl with | [_, _], _ => rfl
  have F_fI2 := fun_mk (st := sLinkI) l_fI2 c_fI2 k_fI2
  have b_fI2 := F_fI2.binds (ps := ["self", "owner", "text"]) fun _ _ _ _ _ _ us hl => match us, hl with | [_, _, _], _ => rfl
  have F_fTI := fun_mk (st := sTreeI) l_fTI c_fTI k_fTI
  have b_fTI := F_fTI.binds (ps := ["self", "nodes"]) fun _ _ _ _ _ _ us hl => match us, hl with | [_, _], _ => rfl
  have F_fNDI := fun_mk (st := sNDI) l_fNDI c_fNDI k_fNDI
  have b_fNDI := F_fNDI.binds (ps := ["self", "why"]) fun _ _ _ _ _ _ us hl => match us, hl with | [_, _], _ => rfl
  have F_fMay := fun_mk (st := sMay) l_fMay c_fMay k_fMay
  have b_fMay := F_fMay.binds (ps := ["nodes", "number"]) fun _ _ _ _ _ _ us hl => match us, hl with | [_, _], _ => rfl
  have F_fStood := fun_mk (st := sStood) l_fStood c_fStood k_fStood
  have b_fStood := F_fStood.binds (ps := ["nodes", "number", "last"]) fun _ _ _ _ _ _ us hl => match us, hl with | [_, _, _], _ => rfl
  have F_fFF := fun_mk (st := sFound) l_fFF c_fFF k_fFF
  have b_fFF := F_fFF.binds (ps := ["nodes"]) fun _ _ _ _ _ _ us hl => match us, hl with | [_], _ => rfl
  have F_fBy := fun_mk (st := sBy) l_fBy c_fBy k_fBy
  have b_fBy := F_fBy.binds (ps := ["entries"]) fun _ _ _ _ _ _ us hl => match us, hl with | [_], _ => rfl
  have F_fWE := fun_mk (st := sWE) l_fWE c_fWE k_fWE
  have b_fWE := F_fWE.binds (ps := ["nodes", "entries"]) fun _ _ _ _ _ _ us hl => match us, hl with | [_, _], _ => rfl
  have F_fWN := fun_mk (st := sWN) l_fWN c_fWN k_fWN
  have b_fWN := F_fWN.binds (ps := ["nodes", "number"]) fun _ _ _ _ _ _ us hl => match us, hl with | [_, _], _ => rfl
  have F_fET := fun_mk (st := sET) l_fET c_fET k_fET
  have b_fET := F_fET.binds (ps := ["nodes"]) fun _ _ _ _ _ _ us hl => match us, hl with | [_], _ => rfl
  have F_fCN := fun_mk (st := sCN) l_fCN c_fCN k_fCN
  have b_fCN := F_fCN.binds (ps := ["nodes"]) fun _ _ _ _ _ _ us hl => match us, hl with | [_], _ => rfl
  have F_fCF := fun_mk (st := sCF) l_fCF c_fCF k_fCF
  have b_fCF := F_fCF.binds (ps := ["nodes"]) fun _ _ _ _ _ _ us hl => match us, hl with | [_], _ => rfl
  have F_fK0 := fun_mk (st := sMakeFolderI) l_fK0 c_fK0 k_fK0
  have b_fK0 := F_fK0.binds (ps := ["self", "folder", "name", "owner"]) fun _ _ _ _ _ _ us hl => match us, hl with | [_, _, _, _], _ => rfl
  have F_fK1 := fun_mk (st := sMakeFileI) l_fK1 c_fK1 k_fK1
  have b_fK1 := F_fK1.binds (ps := ["self", "folder", "name", "owner"]) fun _ _ _ _ _ _ us hl => match us, hl with | [_, _, _, _], _ => rfl
  have F_fK2 := fun_mk (st := sMakeLinkI) l_fK2 c_fK2 k_fK2
  have b_fK2 := F_fK2.binds (ps := ["self", "folder", "name", "owner", "text"]) fun _ _ _ _ _ _ us hl => match us, hl with | [_, _, _, _, _], _ => rfl
  have F_fK3 := fun_mk (st := sPutI) l_fK3 c_fK3 k_fK3
  have b_fK3 := F_fK3.binds (ps := ["self", "folder", "name", "node"]) fun _ _ _ _ _ _ us hl => match us, hl with | [_, _, _, _], _ => rfl
  have F_fK4 := fun_mk (st := sTakeI) l_fK4 c_fK4 k_fK4
  have b_fK4 := F_fK4.binds (ps := ["self", "folder", "name"]) fun _ _ _ _ _ _ us hl => match us, hl with | [_, _, _], _ => rfl
  have F_fK5 := fun_mk (st := sMoveI) l_fK5 c_fK5 k_fK5
  have b_fK5 := F_fK5.binds (ps := ["self", "folder", "name", "goal", "other"]) fun _ _ _ _ _ _ us hl => match us, hl with | [_, _, _, _, _], _ => rfl
  have F_fK6 := fun_mk (st := sCameI) l_fK6 c_fK6 k_fK6
  have b_fK6 := F_fK6.binds (ps := ["self", "node"]) fun _ _ _ _ _ _ us hl => match us, hl with | [_, _], _ => rfl
  have F_fK7 := fun_mk (st := sRefusedI) l_fK7 c_fK7 k_fK7
  have b_fK7 := F_fK7.binds (ps := ["self", "why"]) fun _ _ _ _ _ _ us hl => match us, hl with | [_, _], _ => rfl
  have F_fK8 := fun_mk (st := sLkI) l_fK8 c_fK8 k_fK8
  have b_fK8 := F_fK8.binds (ps := ["self", "follow", "last", "owners"]) fun _ _ _ _ _ _ us hl => match us, hl with | [_, _, _, _], _ => rfl
  have F_fQ0 := fun_mk (st := sMakeFolderE) l_fQ0 c_fQ0 k_fQ0
  have b_fQ0 := F_fQ0.binds (ps := ["self", "other"]) fun _ _ _ _ _ _ us hl => match us, hl with | [_, _], _ => rfl
  have F_fQ1 := fun_mk (st := sMakeFileE) l_fQ1 c_fQ1 k_fQ1
  have b_fQ1 := F_fQ1.binds (ps := ["self", "other"]) fun _ _ _ _ _ _ us hl => match us, hl with | [_, _], _ => rfl
  have F_fQ2 := fun_mk (st := sMakeLinkE) l_fQ2 c_fQ2 k_fQ2
  have b_fQ2 := F_fQ2.binds (ps := ["self", "other"]) fun _ _ _ _ _ _ us hl => match us, hl with | [_, _], _ => rfl
  have F_fQ3 := fun_mk (st := sPutE) l_fQ3 c_fQ3 k_fQ3
  have b_fQ3 := F_fQ3.binds (ps := ["self", "other"]) fun _ _ _ _ _ _ us hl => match us, hl with | [_, _], _ => rfl
  have F_fQ4 := fun_mk (st := sTakeE) l_fQ4 c_fQ4 k_fQ4
  have b_fQ4 := F_fQ4.binds (ps := ["self", "other"]) fun _ _ _ _ _ _ us hl => match us, hl with | [_, _], _ => rfl
  have F_fQ5 := fun_mk (st := sMoveE) l_fQ5 c_fQ5 k_fQ5
  have b_fQ5 := F_fQ5.binds (ps := ["self", "other"]) fun _ _ _ _ _ _ us hl => match us, hl with | [_, _], _ => rfl
  have F_fQ6 := fun_mk (st := sCameE) l_fQ6 c_fQ6 k_fQ6
  have b_fQ6 := F_fQ6.binds (ps := ["self", "other"]) fun _ _ _ _ _ _ us hl => match us, hl with | [_, _], _ => rfl
  have F_fQ7 := fun_mk (st := sRefusedE) l_fQ7 c_fQ7 k_fQ7
  have b_fQ7 := F_fQ7.binds (ps := ["self", "other"]) fun _ _ _ _ _ _ us hl => match us, hl with | [_, _], _ => rfl
  have F_fQ8 := fun_mk (st := sLookE) l_fQ8 c_fQ8 k_fQ8
  have b_fQ8 := F_fQ8.binds (ps := ["self", "other"]) fun _ _ _ _ _ _ us hl => match us, hl with | [_, _], _ => rfl
  have F_fQ9 := fun_mk (st := sFileE) l_fQ9 c_fQ9 k_fQ9
  have b_fQ9 := F_fQ9.binds (ps := ["self", "other"]) fun _ _ _ _ _ _ us hl => match us, hl with | [_, _], _ => rfl
  have F_fQ10 := fun_mk (st := sLinkE) l_fQ10 c_fQ10 k_fQ10
  have b_fQ10 := F_fQ10.binds (ps := ["self", "other"]) fun _ _ _ _ _ _ us hl => match us, hl with | [_, _], _ => rfl
  have F_fMkg := fun_mk (st := sMkg) l_fMkg c_fMkg k_fMkg
  have b_fMkg := F_fMkg.binds (ps := ["deed"]) fun _ _ _ _ _ _ us hl => match us, hl with | [_], _ => rfl
  have F_fFos := fun_mk (st := sFos) l_fFos c_fFos k_fFos
  have b_fFos := F_fFos.binds (ps := ["deed"]) fun _ _ _ _ _ _ us hl => match us, hl with | [_], _ => rfl
  have F_fNos := fun_mk (st := sNos) l_fNos c_fNos k_fNos
  have b_fNos := F_fNos.binds (ps := ["deed"]) fun _ _ _ _ _ _ us hl => match us, hl with | [_], _ => rfl
  have F_fIsF := fun_mk (st := sIsFol) l_fIsF c_fIsF k_fIsF
  have b_fIsF := F_fIsF.binds (ps := ["tree", "number"]) fun _ _ _ _ _ _ us hl => match us, hl with | [_, _], _ => rfl
  have F_fEntd := fun_mk (st := sEntd) l_fEntd c_fEntd k_fEntd
  have b_fEntd := F_fEntd.binds (ps := ["tree", "folder", "name"]) fun _ _ _ _ _ _ us hl => match us, hl with | [_, _, _], _ => rfl
  have F_fWhy := fun_mk (st := sWhy) l_fWhy c_fWhy k_fWhy
  have b_fWhy := F_fWhy.binds (ps := ["tree", "deed"]) fun _ _ _ _ _ _ us hl => match us, hl with | [_, _], _ => rfl
  have F_fLacks := fun_mk (st := sLacks) l_fLacks c_fLacks k_fLacks
  have b_fLacks := F_fLacks.binds (ps := ["tree", "deed"]) fun _ _ _ _ _ _ us hl => match us, hl with | [_, _], _ => rfl
  have F_fTaken := fun_mk (st := sTaken) l_fTaken c_fTaken k_fTaken
  have b_fTaken := F_fTaken.binds (ps := ["tree", "deed"]) fun _ _ _ _ _ _ us hl => match us, hl with | [_, _], _ => rfl
  have F_fFull := fun_mk (st := sFull) l_fFull c_fFull k_fFull
  have b_fFull := F_fFull.binds (ps := ["tree", "deed"]) fun _ _ _ _ _ _ us hl => match us, hl with | [_, _], _ => rfl
  have F_fBelow := fun_mk (st := sBelow) l_fBelow c_fBelow k_fBelow
  have b_fBelow := F_fBelow.binds (ps := ["tree", "deed"]) fun _ _ _ _ _ _ us hl => match us, hl with | [_, _], _ => rfl
  have F_fChg := fun_mk (st := sChanged) l_fChg c_fChg k_fChg
  have b_fChg := F_fChg.binds (ps := ["tree", "deed"]) fun _ _ _ _ _ _ us hl => match us, hl with | [_, _], _ => rfl
  have F_fEnt := fun_mk (st := sEnter) l_fEnt c_fEnt k_fEnt
  have b_fEnt := F_fEnt.binds (ps := ["nodes", "folder", "name", "number"]) fun _ _ _ _ _ _ us hl => match us, hl with | [_, _, _, _], _ => rfl
  have F_fDone := fun_mk (st := sDone) l_fDone c_fDone k_fDone
  have b_fDone := F_fDone.binds (ps := ["tree", "deed"]) fun _ _ _ _ _ _ us hl => match us, hl with | [_, _], _ => rfl
  have F_fLW := fun_mk (st := sLWhy) l_fLW c_fLW k_fLW
  have b_fLW := F_fLW.binds (ps := ["_law_deed"]) fun _ _ _ _ _ _ us hl => match us, hl with | [_], _ => rfl
  have F_fTh := fun_mk (st := sThs) l_fTh c_fTh k_fTh
  have b_fTh := F_fTh.binds (ps := ["_law_x", "_law_y"]) fun _ _ _ _ _ _ us hl => match us, hl with | [_, _], _ => rfl
  have F_fLaw := fun_mk (st := sLaw) l_fLaw c_fLaw k_fLaw
  have b_fLaw := F_fLaw.binds (ps := ["_law_script"]) fun _ _ _ _ _ _ us hl => match us, hl with | [_], _ => rfl
  have TA : TxtA mg := ⟨PySem.W.mg_none_of X G z_int, PySem.W.mg_none_of X G z_abs⟩
  have TN : TxtN K mg fName fStep := ⟨PySem.W.mg_none_of X G z_isinstance, PySem.W.mg_none_of X G z_str, PySem.W.mg_none_of X G z_len, PySem.W.mg_none_of X G z_all, ⟨_, PySem.W.mg_of X G gLN⟩, ⟨_, PySem.W.mg_of X G gLL⟩, PySem.W.mg_of X G a_fName, k_fName, PySem.W.mg_of X G a_fStep, k_fStep⟩
  have TK : TxtK K mg fNum fAt fDigit 0 := ⟨PySem.W.mg_none_of X G z_isinstance, PySem.W.mg_none_of X G z_int, PySem.W.mg_none_of X G z_bool, PySem.W.mg_none_of X G z_len, PySem.W.mg_none_of X G z_range, PySem.W.mg_none_of X G z_min, PySem.W.mg_of X G a_fNum, k_fNum, PySem.W.mg_of X G a_fAt, k_fAt, PySem.W.mg_of X G a_fDigit, k_fDigit⟩
  have TG : TxtG K mg (quad C0 C1 C2 C3) := ⟨all4 (⟨pg_C0, hd_C0, po_C0, sa_C0⟩) (⟨pg_C1, hd_C1, po_C1, sa_C1⟩) (⟨pg_C2, hd_C2, po_C2, sa_C2⟩) (⟨pg_C3, hd_C3, po_C3, sa_C3⟩), all4 (⟨e1_C0, c2, c3, e3_C0⟩) (⟨e1_C1, c2, c3, e3_C1⟩) (⟨e1_C2, c2, c3, e3_C2⟩) (⟨e1_C3, c2, c3, e3_C3⟩), all44 (kit_self) (kit_own hd_C1 tp_C1 s_01 n_01) (kit_own hd_C2 tp_C2 s_02 n_02) (kit_own hd_C3 tp_C3 s_03 n_03) (kit_own hd_C0 tp_C0 s_10 n_10) (kit_self) (kit_own hd_C2 tp_C2 s_12 n_12) (kit_own hd_C3 tp_C3 s_13 n_13) (kit_own hd_C0 tp_C0 s_20 n_20) (kit_own hd_C1 tp_C1 s_21 n_21) (kit_self) (kit_own hd_C3 tp_C3 s_23 n_23) (kit_own hd_C0 tp_C0 s_30 n_30) (kit_own hd_C1 tp_C1 s_31 n_31) (kit_own hd_C2 tp_C2 s_32 n_32) (kit_self), PySem.W.mg_of X G a_C0, PySem.W.mg_of X G a_C1, PySem.W.mg_of X G a_C2, PySem.W.mg_of X G a_C3, ⟨_, PySem.W.mg_of X G gRO⟩, all4 (na_C0_owner) (na_C1_owner) (na_C2_owner) (na_C3_owner), na_C0_entries, na_C2_text, na_C3_above⟩
  have TS : TxtS K mg fBy := ⟨PySem.W.mg_none_of X G z_all, PySem.W.mg_none_of X G z_isinstance, PySem.W.mg_none_of X G z_str, PySem.W.mg_none_of X G z_tuple, PySem.W.mg_none_of X G z_sorted, PySem.W.mg_of X G a_fBy, k_fBy⟩
  have TW : TxtW K mg fMay fWE fStood fBad fOwner fWN := ⟨PySem.W.mg_none_of X G z_set, PySem.W.mg_of X G a_fMay, k_fMay, PySem.W.mg_of X G a_fWE, k_fWE, PySem.W.mg_of X G a_fStood, k_fStood, PySem.W.mg_of X G a_fBad, k_fBad, PySem.W.mg_of X G a_fOwner, k_fOwner, PySem.W.mg_of X G a_fWN, k_fWN⟩
  have TT : TxtT K mg fET fFF fCN fCF := ⟨PySem.W.mg_none_of X G z_enumerate, PySem.W.mg_of X G a_fET, k_fET, PySem.W.mg_of X G a_fFF, k_fFF, PySem.W.mg_of X G a_fCN, k_fCN, PySem.W.mg_of X G a_fCF, k_fCF⟩
  have M0 : Mk K (quad C0 C1 C2 C3 0) fI0 := ⟨mk_C0, a_fI0, i_fI0, k_C0⟩
  have M1 : Mk K (quad C0 C1 C2 C3 1) fI1 := ⟨mk_C1, a_fI1, i_fI1, k_C1⟩
  have MT : Mk K CT fTI := ⟨mk_CT, a_fTI, i_fTI, k_CT⟩
  have MM : ∀ i, i < 11 → Mk K ((el11 D0 D1 D2 D3 D4 D5 D6 D7 D8 C1 C2) i) ((el11 fK0 fK1 fK2 fK3 fK4 fK5 fK6 fK7 fK8 fI1 fI2) i) := all11 (⟨mk_D0, a_fK0, i_fK0, k_D0⟩) (⟨mk_D1, a_fK1, i_fK1, k_D1⟩) (⟨mk_D2, a_fK2, i_fK2, k_D2⟩) (⟨mk_D3, a_fK3, i_fK3, k_D3⟩) (⟨mk_D4, a_fK4, i_fK4, k_D4⟩) (⟨mk_D5, a_fK5, i_fK5, k_D5⟩) (⟨mk_D6, a_fK6, i_fK6, k_D6⟩) (⟨mk_D7, a_fK7, i_fK7, k_D7⟩) (⟨mk_D8, a_fK8, i_fK8, k_D8⟩) (⟨mk_C1, a_fI1, i_fI1, k_C1⟩) (⟨mk_C2, a_fI2, i_fI2, k_C2⟩)
  have ALLK : ∀ i j, i < 11 → j < 11 → i ≠ j → PySem.W.subIn K (.ref ((el11 D0 D1 D2 D3 D4 D5 D6 D7 D8 C1 C2) i)) (.ref ((el11 D0 D1 D2 D3 D4 D5 D6 D7 D8 C1 C2) j)) = some false := subs11 nd11 (all11 (row_0) (row_1) (row_2) (row_3) (row_4) (row_5) (row_6) (row_7) (row_8) (row_9) (row_10))
  have HDS : ∀ i, i < 11 → PySem.W.hasDictIn K ((el11 D0 D1 D2 D3 D4 D5 D6 D7 D8 C1 C2) i) = true := all11 (hd_D0) (hd_D1) (hd_D2) (hd_D3) (hd_D4) (hd_D5) (hd_D6) (hd_D7) (hd_D8) (hd_C1) (hd_C2)
  have TPS : ∀ i, i < 11 → PySem.W.typeIn K (.ref ((el11 D0 D1 D2 D3 D4 D5 D6 D7 D8 C1 C2) i)) = some (.type "type") := all11 (tp_D0) (tp_D1) (tp_D2) (tp_D3) (tp_D4) (tp_D5) (tp_D6) (tp_D7) (tp_D8) (tp_C1) (tp_C2)
  have DST : ∀ i j, i < 11 → j < 11 → i ≠ j → (el11 D0 D1 D2 D3 D4 D5 D6 D7 D8 C1 C2) i ≠ (el11 D0 D1 D2 D3 D4 D5 D6 D7 D8 C1 C2) j := dist11 nd11
  have TYS : ∀ i, i < 11 → PySem.W.subIn K (.type "int") (.ref ((el11 D0 D1 D2 D3 D4 D5 D6 D7 D8 C1 C2) i)) = some false ∧ PySem.W.subIn K (.type "str") (.ref ((el11 D0 D1 D2 D3 D4 D5 D6 D7 D8 C1 C2) i)) = some false := tys11 row_t
  have TH : TxtTh K (el11 D0 D1 D2 D3 D4 D5 D6 D7 D8 C1 C2) := ⟨all11 (⟨pg_D0, hd_D0, po_D0, sa_D0⟩) (⟨pg_D1, hd_D1, po_D1, sa_D1⟩) (⟨pg_D2, hd_D2, po_D2, sa_D2⟩) (⟨pg_D3, hd_D3, po_D3, sa_D3⟩) (⟨pg_D4, hd_D4, po_D4, sa_D4⟩) (⟨pg_D5, hd_D5, po_D5, sa_D5⟩) (⟨pg_D6, hd_D6, po_D6, sa_D6⟩) (⟨pg_D7, hd_D7, po_D7, sa_D7⟩) (⟨pg_D8, hd_D8, po_D8, sa_D8⟩) (⟨pg_C1, hd_C1, po_C1, sa_C1⟩) (⟨pg_C2, hd_C2, po_C2, sa_C2⟩), all11 (⟨e1_D0, c2, c3, e3_D0⟩) (⟨e1_D1, c2, c3, e3_D1⟩) (⟨e1_D2, c2, c3, e3_D2⟩) (⟨e1_D3, c2, c3, e3_D3⟩) (⟨e1_D4, c2, c3, e3_D4⟩) (⟨e1_D5, c2, c3, e3_D5⟩) (⟨e1_D6, c2, c3, e3_D6⟩) (⟨e1_D7, c2, c3, e3_D7⟩) (⟨e1_D8, c2, c3, e3_D8⟩) (⟨e1_C1, c2, c3, e3_C1⟩) (⟨e1_C2, c2, c3, e3_C2⟩), fun i j hi hj => kit11 HDS TPS ALLK DST hi hj, all11 ((nal_cons na_D0_folder (nal_cons na_D0_name (nal_cons na_D0_owner nal_nil)))) ((nal_cons na_D1_folder (nal_cons na_D1_name (nal_cons na_D1_owner nal_nil)))) ((nal_cons na_D2_folder (nal_cons na_D2_name (nal_cons na_D2_owner (nal_cons na_D2_text nal_nil))))) ((nal_cons na_D3_folder (nal_cons na_D3_name (nal_cons na_D3_node nal_nil)))) ((nal_cons na_D4_folder (nal_cons na_D4_name nal_nil))) ((nal_cons na_D5_folder (nal_cons na_D5_name (nal_cons na_D5_goal (nal_cons na_D5_other nal_nil))))) ((nal_cons na_D6_node nal_nil)) ((nal_cons na_D7_why nal_nil)) ((nal_cons na_D8_follow (nal_cons na_D8_last (nal_cons na_D8_owners nal_nil)))) ((nal_cons na_C1_owner nal_nil)) ((nal_cons na_C2_owner (nal_cons na_C2_text nal_nil)))⟩
  have TNF : TxtNf K (el11 D0 D1 D2 D3 D4 D5 D6 D7 D8 C1 C2) (el11 fQ0 fQ1 fQ2 fQ3 fQ4 fQ5 fQ6 fQ7 fQ8 fQ9 fQ10) := ⟨all11 (⟨a_fQ0, i_fQ0, ob_0, ne_0⟩) (⟨a_fQ1, i_fQ1, ob_1, ne_1⟩) (⟨a_fQ2, i_fQ2, ob_2, ne_2⟩) (⟨a_fQ3, i_fQ3, ob_3, ne_3⟩) (⟨a_fQ4, i_fQ4, ob_4, ne_4⟩) (⟨a_fQ5, i_fQ5, ob_5, ne_5⟩) (⟨a_fQ6, i_fQ6, ob_6, ne_6⟩) (⟨a_fQ7, i_fQ7, ob_7, ne_7⟩) (⟨a_fQ8, i_fQ8, ob_8, ne_8⟩) (⟨a_fQ9, i_fQ9, ob_9, ne_9⟩) (⟨a_fQ10, i_fQ10, ob_10, ne_10⟩), fun i j hi hj => nf11 ALLK hi hj, fun i hi => nfT (TYS i hi).1, fun i hi => nfT (TYS i hi).2, fun i hi => kit_own (HDS i hi) (TPS i hi) (TYS i hi).1 rfl, fun i hi => kit_own (HDS i hi) (TPS i hi) (TYS i hi).2 rfl⟩
  have TD : TxtDd K mg (el11 D0 D1 D2 D3 D4 D5 D6 D7 D8 C1 C2) (fun i => [fAt, fName, fOwner, fBad, fMkg, fFos, fNos, fIsF, fEntd, fWhy, fLacks, fTaken, fFull, fBelow, fChg, fEnt, fDone].getD i 0) := ⟨PySem.W.mg_none_of X G z_isinstance, PySem.W.mg_none_of X G z_all, PySem.W.mg_none_of X G z_dict, PySem.W.mg_none_of X G z_list, PySem.W.mg_none_of X G z_str, PySem.W.mg_none_of X G z_len, PySem.W.mg_of X G a_D0, PySem.W.mg_of X G a_D1, PySem.W.mg_of X G a_D2, PySem.W.mg_of X G a_D3, PySem.W.mg_of X G a_D4, PySem.W.mg_of X G a_D5, PySem.W.mg_of X G a_D6, PySem.W.mg_of X G a_D7, PySem.W.mg_of X G a_D8, PySem.W.mg_of X G a_C1, PySem.W.mg_of X G a_C2, PySem.W.mg_of X G a_fAt, k_fAt, PySem.W.mg_of X G a_fName, k_fName, PySem.W.mg_of X G a_fOwner, k_fOwner, PySem.W.mg_of X G a_fBad, k_fBad, PySem.W.mg_of X G a_fMkg, k_fMkg, PySem.W.mg_of X G a_fFos, k_fFos, PySem.W.mg_of X G a_fNos, k_fNos, PySem.W.mg_of X G a_fIsF, k_fIsF, PySem.W.mg_of X G a_fEntd, k_fEntd, PySem.W.mg_of X G a_fWhy, k_fWhy, PySem.W.mg_of X G a_fLacks, k_fLacks, PySem.W.mg_of X G a_fTaken, k_fTaken, PySem.W.mg_of X G a_fFull, k_fFull, PySem.W.mg_of X G a_fBelow, k_fBelow, PySem.W.mg_of X G a_fChg, k_fChg, PySem.W.mg_of X G a_fEnt, k_fEnt, PySem.W.mg_of X G a_fDone, k_fDone⟩
  have TND : TxtND K mg CD fNDI := ⟨⟨⟨nmD_, qD_, ND_, bsD_, bmD_, snD_, subD_, abD_, colD_, ddD_, m0D_, m1D_, m2D_, m3D_, m5D_, xLD_, xRD_⟩, saD_, exD_, tyD_, k_CD⟩, na_CD_why, a_fNDI, tID, PySem.W.mg_of X G a_CD, ⟨gaB, ggB, exD_, hdB⟩, teB⟩
  have TLk : TxtLk K mg D8 := ⟨⟨pg_D8, hd_D8, po_D8, sa_D8⟩, na_D8_follow, na_D8_last, na_D8_owners, PySem.W.mg_of X G a_D8⟩
  have TL : TxtL K mg fState fDigit fTh fLW := ⟨PySem.W.mg_none_of X G z_enumerate, PySem.W.mg_of X G a_fState, k_fState, PySem.W.mg_of X G a_fDigit, k_fDigit, PySem.W.mg_of X G a_fTh, k_fTh, PySem.W.mg_of X G a_fLW, k_fLW⟩
  have tb := tb c0 P0 (tabIn_of a_fBy l_fBy cB lB vB)
  refine ⟨PySem.W.fnOf "law" "law" (defArgs sLaw) (defBody sLaw) (defScope sLaw) .none kV_fLaw dc_fLaw pm_fLaw an_fLaw cd_fLaw ct_fLaw, [(c0, P0)], spLaw K P0, one1 tb.2, one1 nB, one1 tb.1, fun s u => .of_eq rfl, fun H a ns hl _ hH hS => ⟨a, ns, rfl, hS, hl, one1 (TabS.nil (hH _ List.mem_cons_self)), fun _ => rfl⟩, fun base _ _ tbb => ?_⟩
  have TB : TabB base mg c0 P0 := tbb _ List.mem_cons_self
  have g_name := ok_name (P := l.prog) (w := w) (base := base) F_fName TN
  have g_nameX := ok_nameX (P := l.prog) (w := w) (base := base) F_fName TN
  have g_step := ok_step F_fStep TN g_name b_fName
  have g_bad := ok_bad F_fBad TN g_step b_fStep
  have g_num := ok_num (P := l.prog) (w := w) (base := base) F_fNum TK
  have g_owner := ok_owner F_fOwner TK g_num b_fNum
  have g_ownerX := ok_ownerX F_fOwner TK g_num b_fNum
  have g_at := ok_at F_fAt TK g_num b_fNum
  have g_state := ok_state (P := l.prog) (w := w) (base := base) F_fState TA
  have g_digit := ok_digit (P := l.prog) (w := w) (base := base) F_fDigit TA
  have g_f1 := ok_fileI (P := l.prog) (w := w) (base := base) (mg := mg) F_fI1 ⟨pg_C1, hd_C1, po_C1, sa_C1⟩ na_C1_owner
  have g_may := ok_may F_fMay TK TG g_at b_fAt
  have g_stood := ok_stood F_fStood TK TG g_at b_fAt
  have g_ff := ok_found (P := l.prog) (w := w) (base := base) F_fFF TK TG
  have g_by := ok_by (P := l.prog) (w := w) F_fBy cB TS TB
  have g_f0 := ok_folI F_fI0 TS ⟨pg_C0, hd_C0, po_C0, sa_C0⟩ na_C0_owner na_C0_entries g_by b_fBy
  have g_f0t := ok_folT F_fI0 TS ⟨pg_C0, hd_C0, po_C0, sa_C0⟩ na_C0_owner na_C0_entries g_by b_fBy
  have g_we := ok_we F_fWE TK TS TN TW g_name b_fName g_may b_fMay
  have g_wn := ok_wn F_fWN TK TG TW g_owner b_fOwner g_we b_fWE g_bad b_fBad g_stood b_fStood
  have g_et := ok_et (P := l.prog) (w := w) (base := base) F_fET TK TG
  have g_cn := ok_cn F_fCN TK TG TW g_wn b_fWN
  have g_cf := ok_cf F_fCF TK TT TG g_et b_fET g_ff b_fFF
  have g_ti := ok_treeI F_fTI TS TT ⟨pg_CT, hd_CT, po_CT, sa_CT⟩ na_CT_nodes g_cn b_fCN g_cf b_fCF
  have g_k0 := mk_MakeFolder (P := l.prog) (w := w) (base := base) (mg := mg) F_fK0 ⟨pg_D0, hd_D0, po_D0, sa_D0⟩ (nal_cons na_D0_folder (nal_cons na_D0_name (nal_cons na_D0_owner nal_nil)))
  have g_k1 := mk_MakeFile (P := l.prog) (w := w) (base := base) (mg := mg) F_fK1 ⟨pg_D1, hd_D1, po_D1, sa_D1⟩ (nal_cons na_D1_folder (nal_cons na_D1_name (nal_cons na_D1_owner nal_nil)))
  have g_k2 := mk_MakeLink (P := l.prog) (w := w) (base := base) (mg := mg) F_fK2 ⟨pg_D2, hd_D2, po_D2, sa_D2⟩ (nal_cons na_D2_folder (nal_cons na_D2_name (nal_cons na_D2_owner (nal_cons na_D2_text nal_nil))))
  have g_k3 := mk_Put (P := l.prog) (w := w) (base := base) (mg := mg) F_fK3 ⟨pg_D3, hd_D3, po_D3, sa_D3⟩ (nal_cons na_D3_folder (nal_cons na_D3_name (nal_cons na_D3_node nal_nil)))
  have g_k4 := mk_Take (P := l.prog) (w := w) (base := base) (mg := mg) F_fK4 ⟨pg_D4, hd_D4, po_D4, sa_D4⟩ (nal_cons na_D4_folder (nal_cons na_D4_name nal_nil))
  have g_k5 := mk_Move (P := l.prog) (w := w) (base := base) (mg := mg) F_fK5 ⟨pg_D5, hd_D5, po_D5, sa_D5⟩ (nal_cons na_D5_folder (nal_cons na_D5_name (nal_cons na_D5_goal (nal_cons na_D5_other nal_nil))))
  have g_k6 := mk_Came (P := l.prog) (w := w) (base := base) (mg := mg) F_fK6 ⟨pg_D6, hd_D6, po_D6, sa_D6⟩ (nal_cons na_D6_node nal_nil)
  have g_k7 := mk_Refused (P := l.prog) (w := w) (base := base) (mg := mg) F_fK7 ⟨pg_D7, hd_D7, po_D7, sa_D7⟩ (nal_cons na_D7_why nal_nil)
  have g_k8 := ok_lkG F_fK8 TS TW TLk g_owner b_fOwner
  have g_k9 := mk_File (P := l.prog) (w := w) (base := base) (mg := mg) F_fI1 ⟨pg_C1, hd_C1, po_C1, sa_C1⟩ (nal_cons na_C1_owner nal_nil)
  have g_k10 := mk_Link (P := l.prog) (w := w) (base := base) (mg := mg) F_fI2 ⟨pg_C2, hd_C2, po_C2, sa_C2⟩ (nal_cons na_C2_owner (nal_cons na_C2_text nal_nil))
  have hE : EqFns l.prog w K mg base (el11 D0 D1 D2 D3 D4 D5 D6 D7 D8 C1 C2) (el11 fQ0 fQ1 fQ2 fQ3 fQ4 fQ5 fQ6 fQ7 fQ8 fQ9 fQ10) := all11 (⟨_, eq_MakeFolder F_fQ0 (PySem.W.mg_none_of X G z_isinstance) (PySem.W.mg_of X G a_D0) ⟨pg_D0, hd_D0, po_D0, sa_D0⟩ ⟨e1_D0, c2, c3, e3_D0⟩ (nal_cons na_D0_folder (nal_cons na_D0_name (nal_cons na_D0_owner nal_nil))), b_fQ0⟩) (⟨_, eq_MakeFile F_fQ1 (PySem.W.mg_none_of X G z_isinstance) (PySem.W.mg_of X G a_D1) ⟨pg_D1, hd_D1, po_D1, sa_D1⟩ ⟨e1_D1, c2, c3, e3_D1⟩ (nal_cons na_D1_folder (nal_cons na_D1_name (nal_cons na_D1_owner nal_nil))), b_fQ1⟩) (⟨_, eq_MakeLink F_fQ2 (PySem.W.mg_none_of X G z_isinstance) (PySem.W.mg_of X G a_D2) ⟨pg_D2, hd_D2, po_D2, sa_D2⟩ ⟨e1_D2, c2, c3, e3_D2⟩ (nal_cons na_D2_folder (nal_cons na_D2_name (nal_cons na_D2_owner (nal_cons na_D2_text nal_nil)))), b_fQ2⟩) (⟨_, eq_Put F_fQ3 (PySem.W.mg_none_of X G z_isinstance) (PySem.W.mg_of X G a_D3) ⟨pg_D3, hd_D3, po_D3, sa_D3⟩ ⟨e1_D3, c2, c3, e3_D3⟩ (nal_cons na_D3_folder (nal_cons na_D3_name (nal_cons na_D3_node nal_nil))), b_fQ3⟩) (⟨_, eq_Take F_fQ4 (PySem.W.mg_none_of X G z_isinstance) (PySem.W.mg_of X G a_D4) ⟨pg_D4, hd_D4, po_D4, sa_D4⟩ ⟨e1_D4, c2, c3, e3_D4⟩ (nal_cons na_D4_folder (nal_cons na_D4_name nal_nil)), b_fQ4⟩) (⟨_, eq_Move F_fQ5 (PySem.W.mg_none_of X G z_isinstance) (PySem.W.mg_of X G a_D5) ⟨pg_D5, hd_D5, po_D5, sa_D5⟩ ⟨e1_D5, c2, c3, e3_D5⟩ (nal_cons na_D5_folder (nal_cons na_D5_name (nal_cons na_D5_goal (nal_cons na_D5_other nal_nil)))), b_fQ5⟩) (⟨_, eq_Came F_fQ6 (PySem.W.mg_none_of X G z_isinstance) (PySem.W.mg_of X G a_D6) ⟨pg_D6, hd_D6, po_D6, sa_D6⟩ ⟨e1_D6, c2, c3, e3_D6⟩ (nal_cons na_D6_node nal_nil), b_fQ6⟩) (⟨_, eq_Refused F_fQ7 (PySem.W.mg_none_of X G z_isinstance) (PySem.W.mg_of X G a_D7) ⟨pg_D7, hd_D7, po_D7, sa_D7⟩ ⟨e1_D7, c2, c3, e3_D7⟩ (nal_cons na_D7_why nal_nil), b_fQ7⟩) (⟨_, eq_Look F_fQ8 (PySem.W.mg_none_of X G z_isinstance) (PySem.W.mg_of X G a_D8) ⟨pg_D8, hd_D8, po_D8, sa_D8⟩ ⟨e1_D8, c2, c3, e3_D8⟩ (nal_cons na_D8_follow (nal_cons na_D8_last (nal_cons na_D8_owners nal_nil))), b_fQ8⟩) (⟨_, eq_File F_fQ9 (PySem.W.mg_none_of X G z_isinstance) (PySem.W.mg_of X G a_C1) ⟨pg_C1, hd_C1, po_C1, sa_C1⟩ ⟨e1_C1, c2, c3, e3_C1⟩ (nal_cons na_C1_owner nal_nil), b_fQ9⟩) (⟨_, eq_Link F_fQ10 (PySem.W.mg_none_of X G z_isinstance) (PySem.W.mg_of X G a_C2) ⟨pg_C2, hd_C2, po_C2, sa_C2⟩ ⟨e1_C2, c2, c3, e3_C2⟩ (nal_cons na_C2_owner (nal_cons na_C2_text nal_nil)), b_fQ10⟩)
  have g_mkg := ok_mkg (P := l.prog) (w := w) (base := base) F_fMkg TH TD
  have g_fos := ok_fos (P := l.prog) (w := w) (base := base) F_fFos TH TD
  have g_nos := ok_nos (P := l.prog) (w := w) (base := base) F_fNos TH TD
  have g_isf := ok_isFol F_fIsF TD TG ⟨pg_CT, hd_CT, po_CT, sa_CT⟩ na_CT_nodes g_at b_fAt
  have g_entd := ok_entd (P := l.prog) (w := w) (base := base) F_fEntd TD TG ⟨pg_CT, hd_CT, po_CT, sa_CT⟩ na_CT_nodes
  have g_full := ok_full F_fFull TH TD g_entd b_fEntd TG
  have g_below := ok_below F_fBelow TH TD TG g_entd b_fEntd
  have g_lacks := ok_lacks F_fLacks TH TD TG ⟨pg_CT, hd_CT, po_CT, sa_CT⟩ na_CT_nodes rfl rfl g_mkg b_fMkg g_at b_fAt g_entd b_fEntd
  have g_taken := ok_taken F_fTaken TH TD g_fos b_fFos g_nos b_fNos g_entd b_fEntd
  have g_why := ok_why F_fWhy TH TD g_fos b_fFos g_nos b_fNos g_isf b_fIsF g_nameX b_fName g_mkg b_fMkg g_ownerX b_fOwner g_bad b_fBad g_lacks b_fLacks g_taken b_fTaken g_full b_fFull g_below b_fBelow
  have g_ent := ok_enter F_fEnt TG M0 g_f0t b_fI0
  have g_chg := ok_changed F_fChg TH TD ⟨pg_CT, hd_CT, po_CT, sa_CT⟩ na_CT_nodes (PySem.W.mg_of X G a_CT) MT g_ent b_fEnt g_ti b_fTI
  have g_ndi := ok_ndi (P := l.prog) (w := w) (base := base) F_fNDI TND
  have g_done := ok_done F_fDone TD TND g_why b_fWhy g_chg b_fChg g_ndi b_fNDI
  have g_lw := ok_lwhy F_fLW TD TG TND M0 M1 (PySem.W.mg_of X G a_CT) MT g_f0 b_fI0 g_f1 b_fI1 g_ti b_fTI g_done b_fDone
  have g_th := ok_ths F_fTh TD MM g_k0 b_fK0 g_k1 b_fK1 g_k2 b_fK2 g_k3 b_fK3 g_k4 b_fK4 g_k5 b_fK5 g_k6 b_fK6 g_k7 b_fK7 g_k8 b_fK8 g_k9 b_fI1 g_k10 b_fI2
  exact ok_law F_fLaw TD TL TH TNF hE MM g_state b_fState g_digit b_fDigit g_th b_fTh g_lw b_fLW g_k0 b_fK0 g_k1 b_fK1 g_k2 b_fK2 g_k3 b_fK3 g_k4 b_fK4 g_k5 b_fK5 g_k8 b_fK8
theorem walk {l : PySem.W.OpenLaw} {q : Program} {loose : List Str} {XP : (Str → Option Value) → Heap → Prop} {YP : World → Heap → Prop} {d : DefRec} {K : Params → PySem.W.Frag} (hn : l.most = some 63) (hdf : d.params.defaults = []) (hrec : ((recsOf q).find? fun e => e.name == ("by_names" : Str)).isSome = true)
    (hY : ∀ (w : World) (h : Heap), YP w h → (K w.params).In h)
    (F : ∀ (w : World) (mg : Str → Option Value) (fa : Addr) (h : Heap), (K w.params).In h → h.Ns mainGlobals mg → mg d.name = some (.ref fa) → (∀ c P, PySem.W.tabIn (K w.params) "by_names" = some (c, P) → PySem.W.CodeHd h c P ∧ h.get? P = some (PySem.W.tabObj #[])) →
      LawAtS l w (K w.params) CX0 12 63 "_law_script" mg fa h) :
    PySem.W.WalkO q loose XP YP l.row.toRowW d [] (fun f vs => PySem.call f vs) :=
  walk_tab (n := 63) (k := 12) (x := "_law_script") (CX := fun _ => CX0) hn (by decide) hdf ⟨rfl, by decide, by decide⟩ hrec hY (fun w mg fa h _ KX G hm t => F w mg fa h KX G hm t) fun _ _ _ _ _ z => z
end NW

open PySem PySem.W PyProof.Rows
set_option maxRecDepth 100000 in
set_option maxHeartbeats 0 in
theorem PySem.Challenge.cw_namewalk_k12_deeds_as_things_holds : PySem.Challenge.rw_namewalk_k12_deeds_as_things.Holds := by
  w_on; o_law; k_head; (case hw => w_witness2)
  k_fill
  refine NW.walk (l := PySem.Challenge.rw_namewalk_k12_deeds_as_things) rfl rfl (by rfl) (fun w h Y => PySem.W.km_in_of Y) ?F
  case F =>
    intro w mg fa h KX G hmg tb
    refine' NW.all_mk KX G hmg tb ?a_C0 ?k_C0 ?pg_C0 ?hd_C0 ?po_C0 ?sa_C0 ?mk_C0 ?na_C0_owner ?na_C0_entries ?e3_C0 ?e1_C0 ?tp_C0 ?a_C1 ?k_C1 ?pg_C1 ?hd_C1 ?po_C1 ?sa_C1 ?mk_C1 ?na_C1_owner ?e3_C1 ?e1_C1 ?tp_C1 ?a_C2 ?k_C2 ?pg_C2 ?hd_C2 ?po_C2 ?sa_C2 ?mk_C2 ?na_C2_owner ?na_C2_text ?e3_C2 ?e1_C2 ?tp_C2 ?a_C3 ?k_C3 ?pg_C3 ?hd_C3 ?po_C3 ?sa_C3 ?mk_C3 ?na_C3_owner ?na_C3_above ?e3_C3 ?e1_C3 ?tp_C3 ?a_D0 ?k_D0 ?pg_D0 ?hd_D0 ?po_D0 ?sa_D0 ?mk_D0 ?na_D0_folder ?na_D0_name ?na_D0_owner ?e3_D0 ?e1_D0 ?tp_D0 ?a_D1 ?k_D1 ?pg_D1 ?hd_D1 ?po_D1 ?sa_D1 ?mk_D1 ?na_D1_folder ?na_D1_name ?na_D1_owner ?e3_D1 ?e1_D1 ?tp_D1 ?a_D2 ?k_D2 ?pg_D2 ?hd_D2 ?po_D2 ?sa_D2 ?mk_D2 ?na_D2_folder ?na_D2_name ?na_D2_owner ?na_D2_text ?e3_D2 ?e1_D2 ?tp_D2 ?a_D3 ?k_D3 ?pg_D3 ?hd_D3 ?po_D3 ?sa_D3 ?mk_D3 ?na_D3_folder ?na_D3_name ?na_D3_node ?e3_D3 ?e1_D3 ?tp_D3 ?a_D4 ?k_D4 ?pg_D4 ?hd_D4 ?po_D4 ?sa_D4 ?mk_D4 ?na_D4_folder ?na_D4_name ?e3_D4 ?e1_D4 ?tp_D4 ?a_D5 ?k_D5 ?pg_D5 ?hd_D5 ?po_D5 ?sa_D5 ?mk_D5 ?na_D5_folder ?na_D5_name ?na_D5_goal ?na_D5_other ?e3_D5 ?e1_D5 ?tp_D5 ?a_D6 ?k_D6 ?pg_D6 ?hd_D6 ?po_D6 ?sa_D6 ?mk_D6 ?na_D6_node ?e3_D6 ?e1_D6 ?tp_D6 ?a_D7 ?k_D7 ?pg_D7 ?hd_D7 ?po_D7 ?sa_D7 ?mk_D7 ?na_D7_why ?e3_D7 ?e1_D7 ?tp_D7 ?a_D8 ?k_D8 ?pg_D8 ?hd_D8 ?po_D8 ?sa_D8 ?mk_D8 ?na_D8_follow ?na_D8_last ?na_D8_owners ?e3_D8 ?e1_D8 ?tp_D8 ?s_01 ?n_01 ?s_02 ?n_02 ?s_03 ?n_03 ?s_10 ?n_10 ?s_12 ?n_12 ?s_13 ?n_13 ?s_20 ?n_20 ?s_21 ?n_21 ?s_23 ?n_23 ?s_30 ?n_30 ?s_31 ?n_31 ?s_32 ?n_32 ?row_0 ?ob_0 ?ne_0 ?row_1 ?ob_1 ?ne_1 ?row_2 ?ob_2 ?ne_2 ?row_3 ?ob_3 ?ne_3 ?row_4 ?ob_4 ?ne_4 ?row_5 ?ob_5 ?ne_5 ?row_6 ?ob_6 ?ne_6 ?row_7 ?ob_7 ?ne_7 ?row_8 ?ob_8 ?ne_8 ?row_9 ?ob_9 ?ne_9 ?row_10 ?ob_10 ?ne_10 ?nd11 ?row_t ?c2 ?c3 ?a_CT ?k_CT ?pg_CT ?hd_CT ?po_CT ?sa_CT ?mk_CT ?na_CT_nodes ?a_CD ?k_CD ?xLD_ ?xRD_ ?saD_ ?exD_ ?tyD_ ?na_CD_why ?gaB ?ggB ?hdB ?teB ?gLN ?gLL ?gRO ?z_isinstance ?z_str ?z_len ?z_all ?z_int ?z_abs ?z_tuple ?z_range ?z_bool ?z_min ?z_sorted ?z_enumerate ?z_set ?z_list ?z_dict ?a_fName ?l_fName ?c_fName ?k_fName ?a_fStep ?l_fStep ?c_fStep ?k_fStep ?a_fBad ?l_fBad ?c_fBad ?k_fBad ?a_fNum ?l_fNum ?c_fNum ?k_fNum ?a_fOwner ?l_fOwner ?c_fOwner ?k_fOwner ?a_fAt ?l_fAt ?c_fAt ?k_fAt ?a_fState ?l_fState ?c_fState ?k_fState ?a_fDigit ?l_fDigit ?c_fDigit ?k_fDigit ?a_fI0 ?i_fI0 ?l_fI0 ?c_fI0 ?k_fI0 ?a_fI1 ?i_fI1 ?l_fI1 ?c_fI1 ?k_fI1 ?a_fI2 ?i_fI2 ?l_fI2 ?c_fI2 ?k_fI2 ?a_fTI ?i_fTI ?l_fTI ?c_fTI ?k_fTI ?a_fNDI ?i_fNDI ?l_fNDI ?c_fNDI ?k_fNDI ?tID ?a_fMay ?l_fMay ?c_fMay ?k_fMay ?a_fStood ?l_fStood ?c_fStood ?k_fStood ?a_fFF ?l_fFF ?c_fFF ?k_fFF ?a_fBy ?l_fBy ?c_fBy ?k_fBy ?cB ?lB ?vB ?nB ?a_fWE ?l_fWE ?c_fWE ?k_fWE ?a_fWN ?l_fWN ?c_fWN ?k_fWN ?a_fET ?l_fET ?c_fET ?k_fET ?a_fCN ?l_fCN ?c_fCN ?k_fCN ?a_fCF ?l_fCF ?c_fCF ?k_fCF ?a_fK0 ?i_fK0 ?l_fK0 ?c_fK0 ?k_fK0 ?a_fK1 ?i_fK1 ?l_fK1 ?c_fK1 ?k_fK1 ?a_fK2 ?i_fK2 ?l_fK2 ?c_fK2 ?k_fK2 ?a_fK3 ?i_fK3 ?l_fK3 ?c_fK3 ?k_fK3 ?a_fK4 ?i_fK4 ?l_fK4 ?c_fK4 ?k_fK4 ?a_fK5 ?i_fK5 ?l_fK5 ?c_fK5 ?k_fK5 ?a_fK6 ?i_fK6 ?l_fK6 ?c_fK6 ?k_fK6 ?a_fK7 ?i_fK7 ?l_fK7 ?c_fK7 ?k_fK7 ?a_fK8 ?i_fK8 ?l_fK8 ?c_fK8 ?k_fK8 ?a_fQ0 ?i_fQ0 ?l_fQ0 ?c_fQ0 ?k_fQ0 ?a_fQ1 ?i_fQ1 ?l_fQ1 ?c_fQ1 ?k_fQ1 ?a_fQ2 ?i_fQ2 ?l_fQ2 ?c_fQ2 ?k_fQ2 ?a_fQ3 ?i_fQ3 ?l_fQ3 ?c_fQ3 ?k_fQ3 ?a_fQ4 ?i_fQ4 ?l_fQ4 ?c_fQ4 ?k_fQ4 ?a_fQ5 ?i_fQ5 ?l_fQ5 ?c_fQ5 ?k_fQ5 ?a_fQ6 ?i_fQ6 ?l_fQ6 ?c_fQ6 ?k_fQ6 ?a_fQ7 ?i_fQ7 ?l_fQ7 ?c_fQ7 ?k_fQ7 ?a_fQ8 ?i_fQ8 ?l_fQ8 ?c_fQ8 ?k_fQ8 ?a_fQ9 ?i_fQ9 ?l_fQ9 ?c_fQ9 ?k_fQ9 ?a_fQ10 ?i_fQ10 ?l_fQ10 ?c_fQ10 ?k_fQ10 ?a_fMkg ?l_fMkg ?c_fMkg ?k_fMkg ?a_fFos ?l_fFos ?c_fFos ?k_fFos ?a_fNos ?l_fNos ?c_fNos ?k_fNos ?a_fIsF ?l_fIsF ?c_fIsF ?k_fIsF ?a_fEntd ?l_fEntd ?c_fEntd ?k_fEntd ?a_fWhy ?l_fWhy ?c_fWhy ?k_fWhy ?a_fLacks ?l_fLacks ?c_fLacks ?k_fLacks ?a_fTaken ?l_fTaken ?c_fTaken ?k_fTaken ?a_fFull ?l_fFull ?c_fFull ?k_fFull ?a_fBelow ?l_fBelow ?c_fBelow ?k_fBelow ?a_fChg ?l_fChg ?c_fChg ?k_fChg ?a_fEnt ?l_fEnt ?c_fEnt ?k_fEnt ?a_fDone ?l_fDone ?c_fDone ?k_fDone ?a_fLW ?l_fLW ?c_fLW ?k_fLW ?a_fTh ?l_fTh ?c_fTh ?k_fTh ?a_fLaw ?l_fLaw ?c_fLaw ?k_fLaw
    (case a_C0 => k_is)
    (case k_C0 => k_is)
    (case pg_C0 => k_is)
    (case hd_C0 => k_is)
    (case po_C0 => k_is)
    (case sa_C0 => k_is)
    (case mk_C0 => k_is)
    (case na_C0_owner => k_is)
    (case na_C0_entries => k_is)
    (case e3_C0 => k_is)
    (case e1_C0 => k_is)
    (case tp_C0 => k_is)
    (case a_C1 => k_is)
    (case k_C1 => k_is)
    (case pg_C1 => k_is)
    (case hd_C1 => k_is)
    (case po_C1 => k_is)
    (case sa_C1 => k_is)
    (case mk_C1 => k_is)
    (case na_C1_owner => k_is)
    (case e3_C1 => k_is)
    (case e1_C1 => k_is)
    (case tp_C1 => k_is)
    (case a_C2 => k_is)
    (case k_C2 => k_is)
    (case pg_C2 => k_is)
    (case hd_C2 => k_is)
    (case po_C2 => k_is)
    (case sa_C2 => k_is)
    (case mk_C2 => k_is)
    (case na_C2_owner => k_is)
    (case na_C2_text => k_is)
    (case e3_C2 => k_is)
    (case e1_C2 => k_is)
    (case tp_C2 => k_is)
    (case a_C3 => k_is)
    (case k_C3 => k_is)
    (case pg_C3 => k_is)
    (case hd_C3 => k_is)
    (case po_C3 => k_is)
    (case sa_C3 => k_is)
    (case mk_C3 => k_is)
    (case na_C3_owner => k_is)
    (case na_C3_above => k_is)
    (case e3_C3 => k_is)
    (case e1_C3 => k_is)
    (case tp_C3 => k_is)
    (case a_D0 => k_is)
    (case k_D0 => k_is)
    (case pg_D0 => k_is)
    (case hd_D0 => k_is)
    (case po_D0 => k_is)
    (case sa_D0 => k_is)
    (case mk_D0 => k_is)
    (case na_D0_folder => k_is)
    (case na_D0_name => k_is)
    (case na_D0_owner => k_is)
    (case e3_D0 => k_is)
    (case e1_D0 => k_is)
    (case tp_D0 => k_is)
    (case a_D1 => k_is)
    (case k_D1 => k_is)
    (case pg_D1 => k_is)
    (case hd_D1 => k_is)
    (case po_D1 => k_is)
    (case sa_D1 => k_is)
    (case mk_D1 => k_is)
    (case na_D1_folder => k_is)
    (case na_D1_name => k_is)
    (case na_D1_owner => k_is)
    (case e3_D1 => k_is)
    (case e1_D1 => k_is)
    (case tp_D1 => k_is)
    (case a_D2 => k_is)
    (case k_D2 => k_is)
    (case pg_D2 => k_is)
    (case hd_D2 => k_is)
    (case po_D2 => k_is)
    (case sa_D2 => k_is)
    (case mk_D2 => k_is)
    (case na_D2_folder => k_is)
    (case na_D2_name => k_is)
    (case na_D2_owner => k_is)
    (case na_D2_text => k_is)
    (case e3_D2 => k_is)
    (case e1_D2 => k_is)
    (case tp_D2 => k_is)
    (case a_D3 => k_is)
    (case k_D3 => k_is)
    (case pg_D3 => k_is)
    (case hd_D3 => k_is)
    (case po_D3 => k_is)
    (case sa_D3 => k_is)
    (case mk_D3 => k_is)
    (case na_D3_folder => k_is)
    (case na_D3_name => k_is)
    (case na_D3_node => k_is)
    (case e3_D3 => k_is)
    (case e1_D3 => k_is)
    (case tp_D3 => k_is)
    (case a_D4 => k_is)
    (case k_D4 => k_is)
    (case pg_D4 => k_is)
    (case hd_D4 => k_is)
    (case po_D4 => k_is)
    (case sa_D4 => k_is)
    (case mk_D4 => k_is)
    (case na_D4_folder => k_is)
    (case na_D4_name => k_is)
    (case e3_D4 => k_is)
    (case e1_D4 => k_is)
    (case tp_D4 => k_is)
    (case a_D5 => k_is)
    (case k_D5 => k_is)
    (case pg_D5 => k_is)
    (case hd_D5 => k_is)
    (case po_D5 => k_is)
    (case sa_D5 => k_is)
    (case mk_D5 => k_is)
    (case na_D5_folder => k_is)
    (case na_D5_name => k_is)
    (case na_D5_goal => k_is)
    (case na_D5_other => k_is)
    (case e3_D5 => k_is)
    (case e1_D5 => k_is)
    (case tp_D5 => k_is)
    (case a_D6 => k_is)
    (case k_D6 => k_is)
    (case pg_D6 => k_is)
    (case hd_D6 => k_is)
    (case po_D6 => k_is)
    (case sa_D6 => k_is)
    (case mk_D6 => k_is)
    (case na_D6_node => k_is)
    (case e3_D6 => k_is)
    (case e1_D6 => k_is)
    (case tp_D6 => k_is)
    (case a_D7 => k_is)
    (case k_D7 => k_is)
    (case pg_D7 => k_is)
    (case hd_D7 => k_is)
    (case po_D7 => k_is)
    (case sa_D7 => k_is)
    (case mk_D7 => k_is)
    (case na_D7_why => k_is)
    (case e3_D7 => k_is)
    (case e1_D7 => k_is)
    (case tp_D7 => k_is)
    (case a_D8 => k_is)
    (case k_D8 => k_is)
    (case pg_D8 => k_is)
    (case hd_D8 => k_is)
    (case po_D8 => k_is)
    (case sa_D8 => k_is)
    (case mk_D8 => k_is)
    (case na_D8_follow => k_is)
    (case na_D8_last => k_is)
    (case na_D8_owners => k_is)
    (case e3_D8 => k_is)
    (case e1_D8 => k_is)
    (case tp_D8 => k_is)
    (case s_01 => k_is)
    (case n_01 => first | rfl | decide)
    (case s_02 => k_is)
    (case n_02 => first | rfl | decide)
    (case s_03 => k_is)
    (case n_03 => first | rfl | decide)
    (case s_10 => k_is)
    (case n_10 => first | rfl | decide)
    (case s_12 => k_is)
    (case n_12 => first | rfl | decide)
    (case s_13 => k_is)
    (case n_13 => first | rfl | decide)
    (case s_20 => k_is)
    (case n_20 => first | rfl | decide)
    (case s_21 => k_is)
    (case n_21 => first | rfl | decide)
    (case s_23 => k_is)
    (case n_23 => first | rfl | decide)
    (case s_30 => k_is)
    (case n_30 => first | rfl | decide)
    (case s_31 => k_is)
    (case n_31 => first | rfl | decide)
    (case s_32 => k_is)
    (case n_32 => first | rfl | decide)
    (case row_0 => first | rfl | kernel_rfl | k_is)
    (case ob_0 => k_is)
    (case ne_0 => k_is)
    (case row_1 => first | rfl | kernel_rfl | k_is)
    (case ob_1 => k_is)
    (case ne_1 => k_is)
    (case row_2 => first | rfl | kernel_rfl | k_is)
    (case ob_2 => k_is)
    (case ne_2 => k_is)
    (case row_3 => first | rfl | kernel_rfl | k_is)
    (case ob_3 => k_is)
    (case ne_3 => k_is)
    (case row_4 => first | rfl | kernel_rfl | k_is)
    (case ob_4 => k_is)
    (case ne_4 => k_is)
    (case row_5 => first | rfl | kernel_rfl | k_is)
    (case ob_5 => k_is)
    (case ne_5 => k_is)
    (case row_6 => first | rfl | kernel_rfl | k_is)
    (case ob_6 => k_is)
    (case ne_6 => k_is)
    (case row_7 => first | rfl | kernel_rfl | k_is)
    (case ob_7 => k_is)
    (case ne_7 => k_is)
    (case row_8 => first | rfl | kernel_rfl | k_is)
    (case ob_8 => k_is)
    (case ne_8 => k_is)
    (case row_9 => first | rfl | kernel_rfl | k_is)
    (case ob_9 => k_is)
    (case ne_9 => k_is)
    (case row_10 => first | rfl | kernel_rfl | k_is)
    (case ob_10 => k_is)
    (case ne_10 => k_is)
    (case nd11 => first | rfl | kernel_rfl | decide)
    (case row_t => first | rfl | kernel_rfl | k_is)
    (case c2 => k_is)
    (case c3 => k_is)
    (case a_CT => k_is)
    (case k_CT => k_is)
    (case pg_CT => k_is)
    (case hd_CT => k_is)
    (case po_CT => k_is)
    (case sa_CT => k_is)
    (case mk_CT => k_is)
    (case na_CT_nodes => k_is)
    (case a_CD => k_is)
    (case k_CD => k_is)
    (case xLD_ => k_is)
    (case xRD_ => first | decide +kernel | rfl | k_is)
    (case saD_ => k_is)
    (case exD_ => k_is)
    (case tyD_ => k_is)
    (case na_CD_why => k_is)
    (case gaB => k_is)
    (case ggB => k_is)
    (case hdB => k_is)
    (case teB => first | k_is | rfl | decide +kernel)
    (case gLN => k_is)
    (case gLL => k_is)
    (case gRO => k_is)
    (case z_isinstance => k_is)
    (case z_str => k_is)
    (case z_len => k_is)
    (case z_all => k_is)
    (case z_int => k_is)
    (case z_abs => k_is)
    (case z_tuple => k_is)
    (case z_range => k_is)
    (case z_bool => k_is)
    (case z_min => k_is)
    (case z_sorted => k_is)
    (case z_enumerate => k_is)
    (case z_set => k_is)
    (case z_list => k_is)
    (case z_dict => k_is)
    (case a_fName => k_is)
    (case l_fName => k_is)
    (case c_fName => k_is)
    (case k_fName => k_is)
    (case a_fStep => k_is)
    (case l_fStep => k_is)
    (case c_fStep => k_is)
    (case k_fStep => k_is)
    (case a_fBad => k_is)
    (case l_fBad => k_is)
    (case c_fBad => k_is)
    (case k_fBad => k_is)
    (case a_fNum => k_is)
    (case l_fNum => k_is)
    (case c_fNum => k_is)
    (case k_fNum => k_is)
    (case a_fOwner => k_is)
    (case l_fOwner => k_is)
    (case c_fOwner => k_is)
    (case k_fOwner => k_is)
    (case a_fAt => k_is)
    (case l_fAt => k_is)
    (case c_fAt => k_is)
    (case k_fAt => k_is)
    (case a_fState => k_is)
    (case l_fState => k_is)
    (case c_fState => k_is)
    (case k_fState => k_is)
    (case a_fDigit => k_is)
    (case l_fDigit => k_is)
    (case c_fDigit => k_is)
    (case k_fDigit => k_is)
    (case a_fI0 => k_is)
    (case i_fI0 => k_is)
    (case l_fI0 => k_is)
    (case c_fI0 => k_is)
    (case k_fI0 => k_is)
    (case a_fI1 => k_is)
    (case i_fI1 => k_is)
    (case l_fI1 => k_is)
    (case c_fI1 => k_is)
    (case k_fI1 => k_is)
    (case a_fI2 => k_is)
    (case i_fI2 => k_is)
    (case l_fI2 => k_is)
    (case c_fI2 => k_is)
    (case k_fI2 => k_is)
    (case a_fTI => k_is)
    (case i_fTI => k_is)
    (case l_fTI => k_is)
    (case c_fTI => k_is)
    (case k_fTI => k_is)
    (case a_fNDI => k_is)
    (case i_fNDI => k_is)
    (case l_fNDI => k_is)
    (case c_fNDI => k_is)
    (case k_fNDI => k_is)
    (case tID => k_is)
    (case a_fMay => k_is)
    (case l_fMay => k_is)
    (case c_fMay => k_is)
    (case k_fMay => k_is)
    (case a_fStood => k_is)
    (case l_fStood => k_is)
    (case c_fStood => k_is)
    (case k_fStood => k_is)
    (case a_fFF => k_is)
    (case l_fFF => k_is)
    (case c_fFF => k_is)
    (case k_fFF => k_is)
    (case a_fBy => k_is)
    (case l_fBy => k_is)
    (case c_fBy => k_is)
    (case k_fBy => k_is)
    (case cB => rfl)
    (case lB => k_is)
    (case vB => rfl)
    (case nB => first | k_is | rfl | kernel_rfl)
    (case a_fWE => k_is)
    (case l_fWE => k_is)
    (case c_fWE => k_is)
    (case k_fWE => k_is)
    (case a_fWN => k_is)
    (case l_fWN => k_is)
    (case c_fWN => k_is)
    (case k_fWN => k_is)
    (case a_fET => k_is)
    (case l_fET => k_is)
    (case c_fET => k_is)
    (case k_fET => k_is)
    (case a_fCN => k_is)
    (case l_fCN => k_is)
    (case c_fCN => k_is)
    (case k_fCN => k_is)
    (case a_fCF => k_is)
    (case l_fCF => k_is)
    (case c_fCF => k_is)
    (case k_fCF => k_is)
    (case a_fK0 => k_is)
    (case i_fK0 => k_is)
    (case l_fK0 => k_is)
    (case c_fK0 => k_is)
    (case k_fK0 => k_is)
    (case a_fK1 => k_is)
    (case i_fK1 => k_is)
    (case l_fK1 => k_is)
    (case c_fK1 => k_is)
    (case k_fK1 => k_is)
    (case a_fK2 => k_is)
    (case i_fK2 => k_is)
    (case l_fK2 => k_is)
    (case c_fK2 => k_is)
    (case k_fK2 => k_is)
    (case a_fK3 => k_is)
    (case i_fK3 => k_is)
    (case l_fK3 => k_is)
    (case c_fK3 => k_is)
    (case k_fK3 => k_is)
    (case a_fK4 => k_is)
    (case i_fK4 => k_is)
    (case l_fK4 => k_is)
    (case c_fK4 => k_is)
    (case k_fK4 => k_is)
    (case a_fK5 => k_is)
    (case i_fK5 => k_is)
    (case l_fK5 => k_is)
    (case c_fK5 => k_is)
    (case k_fK5 => k_is)
    (case a_fK6 => k_is)
    (case i_fK6 => k_is)
    (case l_fK6 => k_is)
    (case c_fK6 => k_is)
    (case k_fK6 => k_is)
    (case a_fK7 => k_is)
    (case i_fK7 => k_is)
    (case l_fK7 => k_is)
    (case c_fK7 => k_is)
    (case k_fK7 => k_is)
    (case a_fK8 => k_is)
    (case i_fK8 => k_is)
    (case l_fK8 => k_is)
    (case c_fK8 => k_is)
    (case k_fK8 => k_is)
    (case a_fQ0 => k_is)
    (case i_fQ0 => k_is)
    (case l_fQ0 => k_is)
    (case c_fQ0 => k_is)
    (case k_fQ0 => k_is)
    (case a_fQ1 => k_is)
    (case i_fQ1 => k_is)
    (case l_fQ1 => k_is)
    (case c_fQ1 => k_is)
    (case k_fQ1 => k_is)
    (case a_fQ2 => k_is)
    (case i_fQ2 => k_is)
    (case l_fQ2 => k_is)
    (case c_fQ2 => k_is)
    (case k_fQ2 => k_is)
    (case a_fQ3 => k_is)
    (case i_fQ3 => k_is)
    (case l_fQ3 => k_is)
    (case c_fQ3 => k_is)
    (case k_fQ3 => k_is)
    (case a_fQ4 => k_is)
    (case i_fQ4 => k_is)
    (case l_fQ4 => k_is)
    (case c_fQ4 => k_is)
    (case k_fQ4 => k_is)
    (case a_fQ5 => k_is)
    (case i_fQ5 => k_is)
    (case l_fQ5 => k_is)
    (case c_fQ5 => k_is)
    (case k_fQ5 => k_is)
    (case a_fQ6 => k_is)
    (case i_fQ6 => k_is)
    (case l_fQ6 => k_is)
    (case c_fQ6 => k_is)
    (case k_fQ6 => k_is)
    (case a_fQ7 => k_is)
    (case i_fQ7 => k_is)
    (case l_fQ7 => k_is)
    (case c_fQ7 => k_is)
    (case k_fQ7 => k_is)
    (case a_fQ8 => k_is)
    (case i_fQ8 => k_is)
    (case l_fQ8 => k_is)
    (case c_fQ8 => k_is)
    (case k_fQ8 => k_is)
    (case a_fQ9 => k_is)
    (case i_fQ9 => k_is)
    (case l_fQ9 => k_is)
    (case c_fQ9 => k_is)
    (case k_fQ9 => k_is)
    (case a_fQ10 => k_is)
    (case i_fQ10 => k_is)
    (case l_fQ10 => k_is)
    (case c_fQ10 => k_is)
    (case k_fQ10 => k_is)
    (case a_fMkg => k_is)
    (case l_fMkg => k_is)
    (case c_fMkg => k_is)
    (case k_fMkg => k_is)
    (case a_fFos => k_is)
    (case l_fFos => k_is)
    (case c_fFos => k_is)
    (case k_fFos => k_is)
    (case a_fNos => k_is)
    (case l_fNos => k_is)
    (case c_fNos => k_is)
    (case k_fNos => k_is)
    (case a_fIsF => k_is)
    (case l_fIsF => k_is)
    (case c_fIsF => k_is)
    (case k_fIsF => k_is)
    (case a_fEntd => k_is)
    (case l_fEntd => k_is)
    (case c_fEntd => k_is)
    (case k_fEntd => k_is)
    (case a_fWhy => k_is)
    (case l_fWhy => k_is)
    (case c_fWhy => k_is)
    (case k_fWhy => k_is)
    (case a_fLacks => k_is)
    (case l_fLacks => k_is)
    (case c_fLacks => k_is)
    (case k_fLacks => k_is)
    (case a_fTaken => k_is)
    (case l_fTaken => k_is)
    (case c_fTaken => k_is)
    (case k_fTaken => k_is)
    (case a_fFull => k_is)
    (case l_fFull => k_is)
    (case c_fFull => k_is)
    (case k_fFull => k_is)
    (case a_fBelow => k_is)
    (case l_fBelow => k_is)
    (case c_fBelow => k_is)
    (case k_fBelow => k_is)
    (case a_fChg => k_is)
    (case l_fChg => k_is)
    (case c_fChg => k_is)
    (case k_fChg => k_is)
    (case a_fEnt => k_is)
    (case l_fEnt => k_is)
    (case c_fEnt => k_is)
    (case k_fEnt => k_is)
    (case a_fDone => k_is)
    (case l_fDone => k_is)
    (case c_fDone => k_is)
    (case k_fDone => k_is)
    (case a_fLW => k_is)
    (case l_fLW => k_is)
    (case c_fLW => k_is)
    (case k_fLW => k_is)
    (case a_fTh => k_is)
    (case l_fTh => k_is)
    (case c_fTh => k_is)
    (case k_fTh => k_is)
    (case a_fLaw => k_is)
    (case l_fLaw => k_is)
    (case c_fLaw => k_is)
    (case k_fLaw => k_is)
