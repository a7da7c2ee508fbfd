import PyProof.Rows.All
import Wide.All
import OpenK.AllK
import Wide.FinOn
import HandS.ForMost
import HandS.IsInst
import HandS.Walk
import HandS.ForExc
import HandS.Small
import HandS.ExcInit
import HandS.ExcField
import HandS.ExcValue
import KE.KExcIs
import KE.KExcMore
import HandS.Iter
import PySem.Challenge.RW_namewalk_k01_errors
set_option Elab.async false
set_option maxRecDepth 100000
set_option maxHeartbeats 4000000
/-! NG: general lemmas over the hand layer -/
namespace NG
open PySem L2
theorem Same.upd {H : Hp} {p : Addr} {o : HO} (h : H p = none) : Same H (upd H p o) := fun a u e => by rw [upd_ne (ne_of_none e h)]; exact e
theorem Same.sqT {K : PySem.W.Frag} {H H' : Hp} {a : Addr} {xs : List V} (e : Same H H') (h : SqT K H a xs) : SqT K H' a xs := by
  rcases h with (h | ⟨o, h⟩) | h
  · exact .inl (.inl (e _ _ h))
  · exact .inl (.inr ⟨o, e _ _ h⟩)
  · exact .inr h
/-- all but p as it was -/
def But (p : Addr) (H H' : Hp) : Prop := ∀ b o, H b = some o → b ≠ p → H' b = some o
theorem But.refl (p : Addr) (H : Hp) : But p H H := fun _ _ h _ => h
theorem But.trans {p : Addr} {H H1 H2 : Hp} (a : But p H H1) (b : But p H1 H2) : But p H H2 := fun c o h n => b c o (a c o h n) n
theorem But.same {p : Addr} {H H1 H2 : Hp} (a : But p H H1) (b : Same H1 H2) : But p H H2 := fun c o h n => b c o (a c o h n)
theorem But.ofSame {p : Addr} {H H1 : Hp} (a : Same H H1) : But p H H1 := fun c o h _ => a c o h
theorem But.upd {p : Addr} {H H1 : Hp} {o : HO} (a : But p H H1) : But p H (L2.upd H1 p o) := fun c u h n => by rw [upd_ne n]; exact a c u h n
theorem But.sqT {K : PySem.W.Frag} {p dx C : Addr} {fs : List (Str × V)} {H H' : Hp} {a : Addr} {xs : List V} (hp : H p = some (.ins C dx fs)) (e : But p H H') (h : SqT K H a xs) : SqT K H' a xs := by
  rcases h with (h | ⟨o, h⟩) | h
  · exact .inl (.inl (e _ _ h (ne_of h hp (by intro z; cases z))))
  · exact .inl (.inr ⟨o, e _ _ h (ne_of h hp (by intro z; cases z))⟩)
  · exact .inr h
theorem len_putF (f : Str) (v : V) : ∀ fs : List (Str × V), (putF f v fs).length ≤ fs.length + 1
  | [] => by unfold putF; simp
  | (g, w) :: r => by
    have := len_putF f v r
    unfold putF
    split
    · simp
    · simp only [List.length_cons]; omega
theorem take_succ {α : Type} {l : List α} {i : Nat} {x : α} (h : l[i]? = some x) : l.take (i + 1) = l.take i ++ [x] := by rw [List.take_add_one, h]; rfl
/-- a comprehension of one clause over what a walk gives: items f x for those of xs with p x; tests and items may lay new objects -/
theorem lc_gen {J : It} {xs : List V} {G : Hp → Prop} (w : Walk J xs.length G (YAt xs)) {tt : TT} {te : TE} {i : Nat} {σ : St} {H1 : Hp} {D : Addr} {Q : Hp → Prop} (p : V → Bool) (f : V → V) (hx : xs.length < sizeLine) (hD : H1 D = none) (hG : ∀ H, Same H1 H → G H)
    (ht : ∀ (k : Nat) (x : V) (H : Hp) (R : Bool → Hp → Prop), xs[k]? = some x → Same H1 H → (∀ H', Same H H' → R (p x) H') → tt ((wipe σ [i]).set i (some x)) H R)
    (he : ∀ (k : Nat) (x : V) (H : Hp) (R : V → Hp → Prop), xs[k]? = some x → p x = true → Same H1 H → (∀ H', Same H H' → R (f x) H') → te ((wipe σ [i]).set i (some x)) H R)
    (hd : ∀ H, Same H1 H → H D = some (.lst ((xs.filter p).map f)) → Q H) :
    ∃ W : Nat → Nat → Hp → Prop, (∃ m, W 0 m (L2.upd H1 D (.lst []))) ∧ ∀ k m H, W k m H →
      (J.stop k H ∧ Q H) ∨ (J.go k H ∧ ∃ Nx : Hp → Prop, (∀ H', Nx H' → ∃ m', m' < m ∧ W (k + 1) m' H') ∧ ∀ x H', J.yld k H x H' → gName i x (wipe σ [i]) H' fun σ2 H2 => wipe σ2 [i] = wipe σ [i] ∧ tt σ2 H2 fun b H3 =>
        if b = true then te σ2 H3 fun y H4 => ∃ acc, H4 D = some (.lst acc) ∧ acc.length < sizeLine ∧ Nx (L2.upd H4 D (.lst (acc ++ [y]))) else Nx H3) := by
  refine lc_it w (fun k H => Same H1 H ∧ H D = some (.lst (((xs.take k).filter p).map f))) ⟨Same.upd hD, by rw [upd_same]; simp⟩ (fun _ H _ h => hG H h.1) ?_ ?_
  · rintro k x H H' hk ⟨s1, eD⟩ ⟨rfl, hxk⟩
    refine ⟨?_, ?_⟩
    · show List.set (List.set (List.set σ i none) i _) i none = List.set σ i none
      rw [List.set_set, List.set_set]
    · have et := take_succ hxk
      have ll : (((xs.take k).filter p).map f).length < sizeLine := by
        rw [List.length_map]
        have := List.length_filter_le p (xs.take k)
        have := List.length_take_le k xs
        omega
      refine ht k x _ _ hxk s1 (fun H3 s3 => ?_)
      have eD3 := s3 _ _ eD
      have s13 := s1.trans s3
      refine ite2 (fun hp => ?_) (fun hp => ?_)
      · refine he k x _ _ hxk hp s13 (fun H4 s4 => ⟨_, s4 _ _ eD3, ll, ?_, ?_⟩)
        · intro b o e
          have hb : b ≠ D := ne_of_none e hD
          rw [upd_ne hb]
          exact s4 _ _ (s13 _ _ e)
        · rw [upd_same, et, List.filter_append, List.map_append]
          congr 2
          congr 1
          have : [x].filter p = [x] := by simp [hp]
          rw [this]
          rfl
      · refine ⟨s13, ?_⟩
        rw [et, List.filter_append, List.map_append]
        have : [x].filter p = [] := by simp [hp]
        rw [this]
        simpa using eD3
  · rintro H ⟨s1, eD⟩
    rw [List.take_length] at eD
    exact hd H s1 eD
/-- the same without a test -/
theorem lc_map {J : It} {xs : List V} {G : Hp → Prop} (w : Walk J xs.length G (YAt xs)) {te : TE} {i : Nat} {σ : St} {H1 : Hp} {D : Addr} {Q : Hp → Prop} (f : V → V) (hx : xs.length < sizeLine) (hD : H1 D = none) (hG : ∀ H, Same H1 H → G H)
    (he : ∀ (k : Nat) (x : V) (H : Hp) (R : V → Hp → Prop), xs[k]? = some x → Same H1 H → (∀ H', Same H H' → R (f x) H') → te ((wipe σ [i]).set i (some x)) H R)
    (hd : ∀ H, Same H1 H → H D = some (.lst (xs.map f)) → Q H) :
    ∃ W : Nat → Nat → Hp → Prop, (∃ m, W 0 m (L2.upd H1 D (.lst []))) ∧ ∀ k m H, W k m H →
      (J.stop k H ∧ Q H) ∨ (J.go k H ∧ ∃ Nx : Hp → Prop, (∀ H', Nx H' → ∃ m', m' < m ∧ W (k + 1) m' H') ∧ ∀ x H', J.yld k H x H' → gName i x (wipe σ [i]) H' fun σ2 H2 => wipe σ2 [i] = wipe σ [i] ∧ tYes σ2 H2 fun b H3 =>
        if b = true then te σ2 H3 fun y H4 => ∃ acc, H4 D = some (.lst acc) ∧ acc.length < sizeLine ∧ Nx (L2.upd H4 D (.lst (acc ++ [y]))) else Nx H3) :=
  lc_gen w (fun _ => true) f hx hD hG (fun _ _ H _ _ _ h => h H (L2.Same.refl H)) (fun k x H R h _ s r => he k x H R h s r) (fun H s e => hd H s (by rw [List.filter_eq_self.mpr (fun _ _ => rfl)] at e; exact e))
end NG

set_option maxRecDepth 100000
set_option maxHeartbeats 4000000
namespace NG
open PySem L2
section
variable {X : Cx}
theorem op_mulStr : OpR X (binaryOp .Mult) (fun x y H Q => ∃ (i : Str) (n : Int), x = .str i ∧ y = .int n ∧ MulOk i n ∧ Q (.str (Txt.mul i n)) H) := by
  intro pins s σ H x y v u Q I rx ry h
  obtain ⟨i, n, rfl, rfl, hm, q⟩ := h
  obtain ⟨t, rfl⟩ := rx
  obtain ⟨t', rfl⟩ := ry
  exact SB.mul hm fun t' k => ⟨.str (Txt.mul i n), H, I.tok _, ⟨_, rfl⟩, q⟩
end
theorem foldl_app (a : Array Nat) : ∀ (k : Nat) (b : Array Nat), ((List.replicate k a).foldl (· ++ ·) b).toList = b.toList ++ (List.replicate k a.toList).flatten
  | 0, b => by simp
  | k + 1, b => by
    rw [List.replicate_succ, List.foldl_cons, foldl_app a k, List.replicate_succ, List.flatten_cons]
    simp
theorem pick {α : Type} {xs : List α} {d : Int} (h0 : 0 ≤ d) (h1 : d < (xs.length : Nat)) : ∃ v, v ∈ xs ∧ atI xs d = some v := by
  obtain ⟨k, rfl⟩ : ∃ k : Nat, d = (k : Int) := ⟨d.toNat, by omega⟩
  have hk : k < xs.length := by omega
  exact ⟨xs[k], List.getElem_mem hk, atI_nat (List.getElem?_eq_getElem hk)⟩
/-- a text's signs, as texts -/
def sgs (z : Str) : List V := z.cps.toList.map fun c => .str ⟨#[c]⟩
theorem sgs_len (z : Str) : (sgs z).length = z.length := by unfold sgs; simp [Str.length]
theorem walk_sgs {z : Str} : Walk (Its z) (sgs z).length (fun _ => True) (YAt (sgs z)) := by
  rw [sgs_len]
  refine Walk.mono (walk_str (z := z)) (fun _ h => h) (fun i H x H' hi _ ⟨e, c, hc, hx⟩ => ⟨e, ?_⟩)
  unfold sgs
  rw [List.getElem?_map]
  have : z.cps.toList[i]? = some c := by simpa using hc
  rw [this, hx]
  rfl
theorem sgs_get {z : Str} {k : Nat} {x : V} (h : (sgs z)[k]? = some x) : ∃ c, x = .str ⟨#[c]⟩ ∧ c ∈ z.cps.toList := by
  unfold sgs at h
  rw [List.getElem?_map] at h
  cases e : z.cps.toList[k]? with
  | none => rw [e] at h; cases h
  | some c => rw [e] at h; exact ⟨c, (Option.some.inj h).symm, List.mem_of_getElem? e⟩
/-! ### draws in loops: p holds the numbers' state -/
def DSo (o : HO) : Prop := ∃ a m c : Int, o = .lst [.int a, .int m, .int c] ∧ 0 ≤ a ∧ 7 ≤ m ∧ m < 2147483636 ∧ 0 ≤ c ∧ c < 2147483587
structure Dr (p : Addr) (H H' : Hp) : Prop where
  but : But p H H'
  st : ∃ o, H' p = some o ∧ DSo o
theorem Dr.refl {p : Addr} {H : Hp} {o : HO} (h : H p = some o) (d : DSo o) : Dr p H H := ⟨But.refl _ _, o, h, d⟩
theorem Dr.trans {p : Addr} {H H1 H2 : Hp} (a : Dr p H H1) (b : Dr p H1 H2) : Dr p H H2 := ⟨a.but.trans b.but, b.st⟩
theorem Dr.same {p : Addr} {H H1 H2 : Hp} (a : Dr p H H1) (b : Same H1 H2) : Dr p H H2 := ⟨a.but.same b, let ⟨o, h, d⟩ := a.st; ⟨o, b _ _ h, d⟩⟩
theorem Dr.next {p : Addr} {H H1 : Hp} {o : HO} (a : Dr p H H1) (d : DSo o) : Dr p H (L2.upd H1 p o) := ⟨a.but.upd, o, upd_same, d⟩
/-- a comprehension over range(n) whose items are drawn -/
theorem lc_draw {lo : Int} {n : Nat} {te : TE} {i : Nat} {σ : St} {p : Addr} {H1 : Hp} {D : Addr} {Q : Hp → Prop} (Px : V → Hp → Prop) (hn : n < sizeLine) (hD : H1 D = none) (h0 : Dr p H1 H1) (hm : ∀ x H H', But D H H' → Px x H → Px x H') (hm2 : ∀ x H H', Dr p H H' → Px x H → Px x H')
    (he : ∀ (k : Nat) (H : Hp) (R : V → Hp → Prop), k < n → Dr p H1 H → (∀ x H', Px x H' → Dr p H H' → R x H') → te ((wipe σ [i]).set i (some (.int (lo + k)))) H R)
    (hd : ∀ H xs, Dr p H1 H → H D = some (.lst xs) → xs.length = n → (∀ x ∈ xs, Px x H) → Q H) :
    ∃ W : Nat → Nat → Hp → Prop, (∃ m, W 0 m (L2.upd H1 D (.lst []))) ∧ ∀ k m H, W k m H →
      ((Itr lo n).stop k H ∧ Q H) ∨ ((Itr lo n).go k H ∧ ∃ Nx : Hp → Prop, (∀ H', Nx H' → ∃ m', m' < m ∧ W (k + 1) m' H') ∧ ∀ x H', (Itr lo n).yld k H x H' → gName i x (wipe σ [i]) H' fun σ2 H2 => wipe σ2 [i] = wipe σ [i] ∧ tYes σ2 H2 fun b H3 =>
        if b = true then te σ2 H3 fun y H4 => ∃ acc, H4 D = some (.lst acc) ∧ acc.length < sizeLine ∧ Nx (L2.upd H4 D (.lst (acc ++ [y]))) else Nx H3) := by
  obtain ⟨o0, ep0, d0⟩ := h0.st
  have npD : p ≠ D := ne_of_none ep0 hD
  refine lc_range (fun k H => Dr p H1 H ∧ ∃ acc, H D = some (.lst acc) ∧ acc.length = k ∧ ∀ x ∈ acc, Px x H) ⟨⟨But.ofSame (Same.upd hD), o0, by rw [upd_ne npD]; exact ep0, d0⟩, [], upd_same, rfl, by simp⟩ ?_ ?_
  · rintro k H hk ⟨dr, acc, eD, el, hx⟩
    refine ⟨?_, ?_⟩
    · show List.set (List.set (List.set σ i none) i _) i none = List.set σ i none
      rw [List.set_set, List.set_set]
    · refine he k H _ hk dr (fun x H' hpx dr' => ?_)
      have eD' : H' D = some (.lst acc) := dr'.but _ _ eD npD.symm
      have bD : But D H' (L2.upd H' D (.lst (acc ++ [x]))) := (But.refl D H').upd
      refine ⟨acc, eD', by omega, ⟨fun b o e n => ?_, ?_⟩, acc ++ [x], upd_same, by simp [el], fun y hy => ?_⟩
      · have hb : b ≠ D := ne_of_none e hD
        rw [upd_ne hb]
        exact (dr.trans dr').but _ _ e n
      · obtain ⟨o, e, d⟩ := dr'.st
        exact ⟨o, by rw [upd_ne npD]; exact e, d⟩
      · refine hm y _ _ bD ?_
        rcases List.mem_append.mp hy with h | h
        · exact hm2 y _ _ dr' (hx y h)
        · rw [List.mem_singleton.mp h]; exact hpx
  · rintro H ⟨dr, acc, eD, el, hx⟩
    exact hd H acc dr eD el hx
end NG

set_option maxRecDepth 100000
set_option maxHeartbeats 4000000
/-! xs + ys of lists that are to be read, locked ones too -/
namespace NG
open PySem L2 PyProof.Rows
def rCatS (K : PySem.W.Frag) : R2 := fun x y H Q => ∃ (l b : Addr) (xs zs : List V), x = .ref l ∧ y = .ref b ∧ SqL K H l xs ∧ SqL K H b zs ∧ xs.length + zs.length ≤ sizeLine ∧ ∀ p, H p = none → Q (.ref p) (L2.upd H p (.lst (xs ++ zs)))
theorem op_catS {X : Cx} : OpR X (binaryOp .Add) (rCatS X.K) := by
  intro pins s σ H x y v u Q I rx ry h
  obtain ⟨l, b, xs, zs, rfl, rfl, h1, h2, hz, q⟩ := h
  cases rx
  cases ry
  obtain ⟨its, r, ⟨⟨c1, d1, t1, s1⟩, n, e, ec, ed, et⟩, _⟩ := I.list h1
  obtain ⟨its2, r2, ⟨⟨c2, d2, t2, s2⟩, n2, e2, ec2, ed2, et2⟩, _⟩ := I.list h2
  simp only at ec ed et ec2 ed2 et2
  subst ec ed et ec2 ed2 et2
  have hl : its.toArray.size + its2.toArray.size ≤ sizeLine := by rw [List.size_toArray, List.size_toArray, ← r.length, ← r2.length]; exact hz
  have ea : its.toArray ++ its2.toArray = (its ++ its2).toArray := by simp
  refine concat_meets ⟨_, e, rfl⟩ ⟨_, e2, rfl⟩ noFill_list_add seq_list_add PySem.F.slot_list_add PySem.F.entry_list_add (PySem.F.args_list_add_2 _ _) (list_addW l b its.toArray its2.toArray n n2 none none s1 s2 hl) ⟨e, e2, ?_⟩
  rw [ea]
  exact ⟨.ref _, _, I.lnew (t' := s.toks) (r.append r2) (by rw [List.length_append]; omega), rfl, q _ I.fresh⟩
end NG

set_option maxRecDepth 100000
set_option maxHeartbeats 4000000
/-! own exceptions as values: made, their fields, methods and classes asked -/
namespace NG
open PySem L2 PyProof.Rows
/-- at a: an exception of the class at C that holds fs -/
def ExA (H : Hp) (a C : Addr) (fs : List (Str × V)) : Prop := (H a = some (exo a C none) ∧ fs = []) ∨ ∃ d, H a = some (exo a C (some d)) ∧ H d = some (exd d fs)
theorem ExA.mono {H H' : Hp} {a C : Addr} {fs : List (Str × V)} (h : ExA H a C fs) (s : Same H H') : ExA H' a C fs := h.imp (fun ⟨e, f⟩ => ⟨s _ _ e, f⟩) fun ⟨d, e, f⟩ => ⟨d, s _ _ e, s _ _ f⟩
section
variable {X : Cx} {pins : List (Addr × Obj)} {σ : L2.St} {H : Hp} {s : Shared} {a C : Addr} {fs : List (Str × V)}
theorem exA_at (I : Inv X pins σ H s) (h : ExA H a C fs) : ∃ (ox : Obj) (od : Option Obj), PySem.W.InstAt s.heap a ox C od ∧ (∀ n, fs.lookup n = none → PySem.W.shadowIn od n = some false) ∧
    ∀ n v, fs.lookup n = some v → ∃ (dd : Obj) (u : Value), od = some dd ∧ PySem.W.lookIn n dd = some (some u) ∧ RelV v u := by
  rcases h with ⟨e, rfl⟩ | ⟨d, e, f⟩
  · obtain ⟨t1, ho⟩ := exo_at I.hok e
    exact ⟨_, none, ⟨ho, rfl, rfl, trivial⟩, fun n _ => rfl, fun n v q => by cases q⟩
  · obtain ⟨t1, ho⟩ := exo_at I.hok e
    obtain ⟨mA, hns, rel⟩ := exd_at I.hok f
    obtain ⟨od, hd, hl⟩ := lookIn_ns hns
    refine ⟨_, some od, ⟨ho, rfl, rfl, hd⟩, fun n q => ?_, fun n v q => ?_⟩
    · have := rel n
      rw [q] at this
      have hm : mA n = none := RelO.none_of this
      show (PySem.W.lookIn n od).map (·.isSome) = some false
      rw [hl, hm]
      rfl
    · obtain ⟨u, hu, ru⟩ := RelO.some_of (v := v) (o := mA n) (by rw [← q]; exact rel n)
      exact ⟨od, u, rfl, by rw [hl, hu], ru⟩
end
/-- what the written part says of an own exception class whose instances are asked -/
structure XC (K : PySem.W.Frag) (C : Addr) : Prop where
  xf : XfC K C
  ha : PySem.W.findIn K (.ref C) "__class__" = some (some (.builtin "object.__class__"))
  hn : PySem.W.specialIn K (.builtin "object.__class__") "__get__" = some (some (.builtin "getset_descriptor.__get__"))
  ht : PySem.W.takesIn K (.builtin "object.__class__") = some true
  hm : PySem.W.mroIn K C (.type "object") = some true
section
variable {X : Cx} {CX : CXT} {C fI : Addr} {k : Nat} {fd : FuncData} {ps : List Str} {sp : Sp} {x n m : Str} {e o : Expr} {es : List Expr} {ta : TA} {te : TE} {p pos apos : Pos}
/-- X(): no own __init__ -/
def tExc0 (C : Addr) : TE := fun _ H Q => ∀ a, H a = none → Q (.ref a) (upd H a (exo a C none))
theorem pe_exc0 {bmB : List Value} {B newId initId : String} (F : ExcBaseFacts B newId initId bmB) (q : PySem.W.excIn X.K C bmB newId = true) (gC : X.mg x = some (.ref C)) (kC : PySem.W.keepIn X.K (.ref C) = true) (hg : Gl X x) (hdb : (x == ("__debug__" : Str)) = false := by decide) :
    PE X (.Call (.Name x p) [] [] pos) (tExc0 C) := by
  refine ⟨fun pins s σ H Q I h => ?_⟩
  refine wpAny_Call_Name_kw (ld_glob I hg gC ?_ hdb)
  refine PySem.W.callWith_K0 I.kIn kC ?_
  show wpAny _ _ (call (.ref C) []) _ _ _
  obtain ⟨bm, N, nm, qn, bs, hdct, sn, sub, ab, col, dd, k0, k1, k2, k3, k5, mN, hC, hN, hni, T⟩ := exc_obj I.kIn q
  refine wpAny_call_exc_subT F T hC hN hni (fun h' a hm => ?_) (by show 0 ≤ sizeLine; exact Nat.zero_le _)
  have hn : H a = none := I.hok.gone hm.new
  obtain ⟨t, ht, _, _⟩ := hm.there
  exact ⟨.ref a, upd H a (exo a C none), I.laidN hm.keeps hm.new hn (exo_ok ht), rfl, h a hn⟩
/-- X(e, ..): its own __init__ keeps sp -/
def tExcI (C : Addr) (sp : Sp) (ta : TA) : TE := fun σ H Q => ta σ H fun vs H1 => vs.length ≤ 1000 ∧ ∀ a, H1 a = none → sp (.ref a :: vs) (upd H1 a (exo a C none)) (fun v H2 => v = .non ∧ Q (.ref a) H2) (fun _ _ _ => False)
theorem pe_excI (T : OexC X.K C) (iC : PySem.W.findIn X.K (.ref C) "__init__" = some (some (.ref fI))) (tI : PySem.W.typeIn X.K (.ref fI) = some (.type "function"))
    (F1 : FnOk X.prog X.w X.K X.mg X.base CX k fI fd ps sp) (hr : Room (k + 1) X.A) (hb : Binds X.K fd ps []) (hx : Passes CX X (fun _ _ _ => False)) (hg : Gl X x) (hm : X.mg x = some (.ref C)) (ha : PA X (e :: es) ta)
    (hdb : (x == ("__debug__" : Str)) = false := by decide) (he : starEach (e :: es) X.env = (false, eval e X.env) :: starEach es X.env := by rfl) (hpl : (backTo pos (starEach es X.env)).any (·.1) = false := by rfl) :
    PE X (.Call (.Name x p) (e :: es) [] pos) (tExcI C sp ta) := by
  refine ⟨fun pins s σ H Q I h => ?_⟩
  obtain ⟨nm, q, N, bs, bm, sn, sub, ab, col, dd, k0, k1, k2, k3, k5, hC, hbm⟩ := T.cls
  refine wpAny_Call_Name_kw (ld_glob I hg hm ?_ hdb)
  refine PySem.W.callWith_K (h₀ := X.base) I.ok.mod.kin T.kC (thn (ha.run pos pins s σ H _ I h) fun us s1 ⟨vs, H1, I1, r1, hz, q1⟩ => ⟨I1.kIn, ?_⟩) he hpl
  show wpAny _ _ (call (.ref C) us) _ _ _
  obtain ⟨hp, g, dr, tk, os⟩ := s1
  have hsz : hp.objs.size ≤ hp.objs.size + 1 := Nat.le_succ _
  have hn : H1 (hp.objs.size + 1) = none := I1.hok.fresh hsz
  have hq := q1 (hp.objs.size + 1) hn
  have kk : ∀ b o, hp.get? b = some o → ((hp.push (PySem.W.kdv_tup us)).push (PySem.HandSPX.excO C hp.objs.size)).get? b = some o := fun b o e => Heap.get?_push_of_some _ (Heap.get?_push_of_some _ e)
  have hget : ((hp.push (PySem.W.kdv_tup us)).push (PySem.HandSPX.excO C hp.objs.size)).get? (hp.objs.size + 1) = some (PySem.HandSPX.excO C hp.objs.size) := by heap_get
  have I2 : Inv X pins σ (upd H1 (hp.objs.size + 1) (exo (hp.objs.size + 1) C none)) ⟨(hp.push (PySem.W.kdv_tup us)).push (PySem.HandSPX.excO C hp.objs.size), g, dr, tk, os⟩ :=
    I1.laid (t' := tk) (a := hp.objs.size + 1) (o := exo (hp.objs.size + 1) C none) (h' := (hp.push (PySem.W.kdv_tup us)).push (PySem.HandSPX.excO C hp.objs.size)) kk hsz (exo_ok hget)
  have r2 : Vals (V.ref (hp.objs.size + 1) :: vs) (Value.ref (hp.objs.size + 1) :: us) := .cons rfl r1
  have hl : (Value.ref (hp.objs.size + 1) :: us).length = ps.length := by
    have e := r2.length
    rw [F1.len _ _ _ _ hq] at e
    exact e.symm
  have hus : us.length ≤ sizeLine := by
    rw [← Paired.length r1, sizeLine_eq]
    omega
  have b := hb _ (Value.ref (hp.objs.size + 1) :: us) I2.kIn (by rw [List.append_nil]; exact hl)
  rw [List.append_nil] at b
  refine wpAny_call (PySem.HandSPX.call_own PySem.F.excBase_ValueError (fun Y => PySem.HandSPX.refsVE_contains Y bm hbm) (I1.kIn _ _ hC) (PySem.W.looks_findIn I1.kIn iC) (fun self => PySem.W.bind_fn I1.kIn self tI) hus
    (codeAny_mono (F1.run _ X.stack _ _ ⟨Value.ref (hp.objs.size + 1) :: us, []⟩ (Value.ref (hp.objs.size + 1) :: us) _ _ (fun _ _ _ => False) (hr.make C us []) (I2.env0.make C us []) b r2 hq) fun r s' hq' => ?_))
  cases r with
  | error er => exact hx pins σ _ _ er s' I2 hq'
  | ok fl =>
    cases fl with
    | ret u =>
      obtain ⟨v, H', I3, rv, ev, q3⟩ := I2.after hq'
      subst ev
      exact ⟨rv, ⟨V.ref (hp.objs.size + 1), H', I3, rfl, q3⟩⟩
    | next => exact False.elim hq'
    | brk => exact False.elim hq'
    | cont => exact False.elim hq'
/-- e.n -/
def tExF (K : PySem.W.Frag) (n : Str) (te : TE) : TE := fun σ H Q => te σ H fun x H1 => ∃ (a C : Addr) (fs : List (Str × V)) (v : V), x = .ref a ∧ XC K C ∧ PySem.W.findIn K (.ref C) n = some none ∧ ExA H1 a C fs ∧ fs.lookup n = some v ∧ Q v H1
theorem pe_exf (he : PE X e te) (hb : attributeBase e n X.env (eval e X.env) = eval e X.env := by rfl) : PE X (.Attribute e n pos) (tExF X.K n te) := by
  refine ⟨fun pins s σ H Q I h => ?_⟩
  refine attr_of hb (thn (he.run pins s σ H _ I h) fun u s1 hh => ?_)
  obtain ⟨x, H1, I1, rx, a, C, fs, v, ex, xc, hno, ea, l, q⟩ := hh
  subst ex
  obtain rfl : u = Value.ref a := rx
  obtain ⟨ox, od, J, _, hv⟩ := exA_at I1 ea
  obtain ⟨dd, u, rfl, hl, ru⟩ := hv n v l
  exact HandSPX.exc_get I1.kIn J xc.xf.ga xc.xf.gg xc.xf.exC (PySem.W.findObj_own xc.xf.hdC hno rfl hl) (handed_of ru) ⟨v, H1, I1.tok _, ru, q⟩
/-- isinstance(e, c) -/
def rIsX (K : PySem.W.Frag) : List V → Hp → VK → Prop := fun xs H Q => ∃ (a C : Addr) (fs : List (Str × V)) (c : V) (cv : Value) (b : Bool), xs = [.ref a, c] ∧ XC K C ∧ ExA H a C fs ∧ (∀ u, RelV c u → u = cv) ∧ PySem.W.kitOne K (.ref C) cv = some b ∧ Q (.bl b) H
theorem call_isX : CallR X (.builtin "isinstance") (rIsX X.K) := by
  intro pins s σ H xs us Q I r h
  obtain ⟨a, C, fs, c, cv, b, rfl, xc, ea, hcv, e, q⟩ := h
  obtain ⟨u, w', rfl, ru, rw'⟩ := vals2 r
  cases ru
  have ec := hcv _ rw'
  subst ec
  obtain ⟨ox, od, J, _, _⟩ := exA_at I ea
  have hcl : (PySem.W.clsIn X.K C).isSome = true := by
    obtain ⟨cd, hc, _⟩ := PySem.W.any_some xc.xf.hdC
    rw [hc]
    rfl
  exact PySem.W.kia_one (PySem.W.kitx_exc hcl xc.xf.ga xc.xf.gg xc.xf.exC xc.ha xc.hn xc.ht xc.hm) I.kIn J e (fun z => nomatch z) fun tk => ⟨.bl b, H, I.kept (t' := tk) fun _ _ z => z, rfl, q⟩
/-- e.m() : the method of whichever class -/
def Told (X : Cx) (CX : CXT) (k : Nat) (m : Str) (sp : Addr → Sp) (C : Addr) : Prop := ∃ (f : Addr) (fd : FuncData) (ps : List Str), XC X.K C ∧ PySem.W.findIn X.K (.ref C) m = some (some (.ref f)) ∧ PySem.W.isFn X.K (.ref f) = true ∧ PySem.W.keepIn X.K (.ref f) = true ∧
  FnOk X.prog X.w X.K X.mg X.base CX k f fd ps (sp C) ∧ Binds X.K fd ps []
def tExM (S : Addr → Prop) (m : Str) (sp : Addr → Sp) (E : XK) (te : TE) : TE := fun σ H Q => te σ H fun x H1 => ∃ (a C : Addr) (fs : List (Str × V)), x = .ref a ∧ S C ∧ ExA H1 a C fs ∧ fs.lookup m = none ∧ sp C [.ref a] H1 Q E
theorem pe_exm0 {S : Addr → Prop} {sp : Addr → Sp} {E : XK} {pl : Sem Bool} (he : PE X o te) (hS : ∀ C, S C → Told X CX k m sp C) (hr : Room k X.A) (hx : Passes CX X E)
    (ht : eval (.Call (.Attribute o m apos) [] [] pos) X.env = (do
      let ov ← eval o X.env
      standAt apos.atName
      let (f, first) ← holding [ov] (getMethod ov m pl)
      callWith pos f first (backTo pos (starEach [] X.env)) (backToKw pos (keywordEach [] X.env))) := by rfl) :
    PE X (.Call (.Attribute o m apos) [] [] pos) (tExM S m sp E te) := by
  refine ⟨fun pins s σ H Q I h => ?_⟩
  refine PySem.W.methodCall_KW (pl := pl) (thn (he.run pins s σ H _ I h) fun u s1 ⟨x, H1, I1, rx, a, C, fs, ex, sC, ea, l, q⟩ => ?_) ht
  subst ex
  obtain rfl : u = Value.ref a := rx
  obtain ⟨f, fd, ps, xc, hf, hfn, hk, F, hb⟩ := hS C sC
  obtain ⟨ox, od, J, hsh, _⟩ := exA_at I1 ea
  obtain ⟨mm, fr⟩ := I1.fr
  refine PySem.W.method_exc fr I1.ok.mod.kin J xc.xf.ga xc.xf.gg hf hfn (hsh m l) ?_
  exact PySem.W.callWith_K0 (first := [.ref a]) I1.kIn hk (run_fn (us := [.ref a]) (vs := [.ref a]) F hr hb .nil hx I1 (.cons rfl .nil) q)
end
end NG

set_option maxRecDepth 100000
set_option maxHeartbeats 4000000
namespace NW
open PySem L2 NG
def top (i : Nat) : Stmt := PySem.Challenge.pw_namewalk_k01_errors.main.body.getD i (.Pass ⟨0, 0, 0, 0⟩)
abbrev sState : Stmt := top 17
abbrev sDigit : Stmt := top 18
/-! ### draws -/
def spState : Sp := fun vs H Q _ => ∃ n : Int, vs = [.int n] ∧ ∀ p o, H p = none → DSo o → Q (.ref p) (upd H p o)
def spDigit : Sp := fun vs H Q _ => ∃ (p : Addr) (b : Int) (o : HO), vs = [.ref p, .int b] ∧ 0 < b ∧ b < 1073741824 ∧ H p = some o ∧ DSo o ∧
  ∀ (d : Int) (o' : HO), 0 ≤ d → d < b → DSo o' → Q (.int d) (upd H p o')
structure TxtA (mg : Str → Option Value) : Prop where
  m_int : mg "int" = none
  m_abs : mg "abs" = none
section
variable {P : Program} {w : World} {K : PySem.W.Frag} {mg : Str → Option Value} {base : Heap}
theorem scState : FnScope ["_law_source"] ["_law_source"] (defScope sState) := ⟨rfl, rfl, rfl, by decide +kernel, rfl, by decide +kernel, by decide +kernel⟩
theorem ok_state {f : Addr} {fd : FuncData} (F : Fun K "_law_state" "_law_state" sState f fd) (T : TxtA mg) : FnOk P w K mg base CX0 1 f fd ["_law_source"] spState := by
  have nd := scState.nd
  refine F.ok scState (fun vs H Q E h => ?_) (fun cdv A outer s H vs Q E hr h => ?_)
  · obtain ⟨n, rfl, _⟩ := h
    rfl
  · obtain ⟨n, rfl, k⟩ := h
    refine ⟨_, (pss_cons (ps_set (i := 0) nd rfl (Or.inl rfl) (pe_callB call_abs (by rfl) T.m_abs (by decide +kernel) (pa_cons (pv 0) pa_nil)))
  (pss_one (ps_ret (pe_lst (pa_cons (pe_op op_mul (pv 0) (pe_callTy call_int1 (by rfl) T.m_int (by decide +kernel) (pa_cons (pe_cmpR op_ge (pv 0) (pe_op op_pow pe_int pe_int) (nomark _)) pa_nil))) (pa_cons (pe_op op_add (pe_op op_mod (pe_callTy call_int1 (by rfl) T.m_int (by decide +kernel) (pa_cons (pv 0) pa_nil)) pe_int) pe_int) (pa_cons (pe_op op_mod (pe_callTy call_int1 (by rfl) T.m_int (by decide +kernel) (pa_cons (pv 0) pa_nil)) pe_int) pa_nil))))))), ?_⟩
    refine ⟨_, rfl, _, rfl, ?_⟩
    generalize hz : (if n < 0 then -n else n) = z
    have hz0 : 0 ≤ z := by rw [← hz]; split <;> omega
    refine ⟨_, rfl, _, rfl, _, _, rfl, rfl, ⟨by decide, by decide, by decide⟩, _, _, rfl, rfl, .inr ⟨_, rfl, ?_⟩⟩
    refine ⟨_, _, rfl, rfl, .inr ⟨by split <;> decide, by split <;> decide⟩, ?_⟩
    refine ⟨_, rfl, .inl ⟨_, rfl, _, _, rfl, rfl, (by show (0 : Int) < 2147483629; decide), _, _, rfl, rfl, ?_⟩⟩
    refine ⟨_, rfl, .inl ⟨_, rfl, _, _, rfl, rfl, (by show (0 : Int) < 2147483587; decide), ?_⟩⟩
    refine ⟨(by show 3 ≤ sizeLine; decide), fun p hp => k p _ hp ⟨_, _, _, rfl, ?_, ?_, ?_, ?_, ?_⟩⟩
    · split
      · omega
      · omega
    · have := Int.emod_nonneg z (by decide : (2147483629 : Int) ≠ 0); omega
    · have := Int.emod_lt_of_pos z (by decide : (0 : Int) < 2147483629); omega
    · exact Int.emod_nonneg z (by decide)
    · exact Int.emod_lt_of_pos z (by decide)
theorem scDigit : FnScope ["_law_state_here", "_law_base", "_law_found", "_law_mixed"] ["_law_state_here", "_law_base"] (defScope sDigit) := ⟨rfl, rfl, rfl, by decide +kernel, rfl, by decide +kernel, by decide +kernel⟩
theorem ok_digit {f : Addr} {fd : FuncData} (F : Fun K "_law_digit" "_law_digit" sDigit f fd) (T : TxtA mg) : FnOk P w K mg base CX0 1 f fd ["_law_state_here", "_law_base"] spDigit := by
  have nd := scDigit.nd
  refine F.ok scDigit (fun vs H Q E h => ?_) (fun cdv A outer s H vs Q E hr h => ?_)
  · obtain ⟨p, b, o, rfl, _⟩ := h
    rfl
  · obtain ⟨p, b, o, rfl, b0, b1, hp, ⟨a, m, c, rfl, ha, hm0, hm1, hc0, hc1⟩, k⟩ := h
    refine ⟨_, (pss_cons (ps_if (pt_cmpR op_gt (pe_ix ix_list (pv 0) pe_int (fun _ _ => rfl)) pe_int (nomark _)) (pss_cons (ps_set (i := 2) nd rfl (Or.inl rfl) (pe_op op_mod (pe_callTy call_int1 (by rfl) T.m_int (by decide +kernel) (pa_cons (pe_ix ix_list (pv 0) pe_int (fun _ _ => rfl)) pa_nil)) (pv 1)))
  (pss_cons (ps_asg (pe_op op_fdiv (pe_ix ix_list (pv 0) pe_int (fun _ _ => rfl)) (pv 1)) (pg_sub (pv 0) pe_int set_list))
  (pss_one (ps_ret (pv 2))))) pss_nil)
  (pss_cons (ps_set (i := 3) nd rfl (Or.inl rfl) (pe_op op_mul (pe_ix ix_list (pv 0) pe_int (fun _ _ => rfl)) (pe_op op_add (pe_op op_fdiv (pe_ix ix_list (pv 0) pe_int (fun _ _ => rfl)) pe_int) pe_int)))
  (pss_cons (ps_asg (pe_op op_add (pe_op op_mod (pe_callTy call_int1 (by rfl) T.m_int (by decide +kernel) (pa_cons (pe_op op_add (pv 3) (pe_ix ix_list (pv 0) pe_int (fun _ _ => rfl))) pa_nil)) pe_int) pe_int) (pg_sub (pv 0) pe_int set_list))
  (pss_one (ps_ret (pe_op op_mod (pe_callTy call_int1 (by rfl) T.m_int (by decide +kernel) (pa_cons (pe_op op_fdiv (pe_ix ix_list (pv 0) pe_int (fun _ _ => rfl)) pe_int) pa_nil)) (pv 1))))))), ?_⟩
    have sq : ∀ i : Int, SqL K H p [.int a, .int m, .int c] := fun _ => SqL.of hp
    refine ⟨_, rfl, p, _, _, _, rfl, rfl, SqL.of hp, rfl, _, _, rfl, rfl, _, rfl, ?_⟩
    refine ite2 (fun h => ?_) (fun h => ?_)
    · refine ⟨_, rfl, p, _, _, _, rfl, rfl, SqL.of hp, rfl, .inl ⟨_, rfl, _, rfl, _, _, rfl, rfl, b0, ?_⟩⟩
      refine ⟨_, rfl, p, _, _, _, rfl, rfl, SqL.of hp, rfl, _, rfl, _, _, rfl, rfl, ⟨b0, b1⟩, ?_⟩
      refine ⟨_, rfl, p, _, _, _, rfl, rfl, hp, rfl, _, rfl, ?_⟩
      exact k _ _ (Int.emod_nonneg _ (by omega)) (Int.emod_lt_of_pos _ b0) ⟨_, _, _, rfl, Int.ediv_nonneg ha (by omega), hm0, hm1, hc0, hc1⟩
    · refine ⟨_, rfl, p, _, _, _, rfl, rfl, SqL.of hp, rfl, _, rfl, p, _, _, _, rfl, rfl, SqL.of hp, rfl, _, _, rfl, rfl, ⟨by decide, by decide⟩, _, _, rfl, rfl, _, _, rfl, rfl, .inl ⟨by omega, by omega⟩, ?_⟩
      refine ⟨_, rfl, _, rfl, p, _, _, _, rfl, rfl, SqL.of hp, rfl, _, _, rfl, rfl, .inl ⟨_, rfl, _, _, rfl, rfl, (by show (0 : Int) < 2147483629; decide), _, _, rfl, rfl, ?_⟩⟩
      refine ⟨_, rfl, p, _, _, _, rfl, rfl, hp, rfl, ?_⟩
      refine ⟨_, rfl, p, _, _, _, rfl, rfl, SqL.of upd_same, rfl, _, _, rfl, rfl, ⟨by decide, by decide⟩, .inl ⟨_, rfl, _, rfl, _, _, rfl, rfl, b0, ?_⟩⟩
      have e0 := Int.emod_nonneg (m * (m / 1009 + 69621) + c) (by decide : (2147483629 : Int) ≠ 0)
      have e1 := Int.emod_lt_of_pos (m * (m / 1009 + 69621) + c) (by decide : (0 : Int) < 2147483629)
      exact k _ _ (Int.emod_nonneg _ (by omega)) (Int.emod_lt_of_pos _ b0) ⟨_, _, _, rfl, ha, by omega, by omega, hc0, hc1⟩
end
end NW

set_option maxRecDepth 100000
set_option maxHeartbeats 4000000
namespace NW
open PySem L2 NG
/-! ### the errors, numbered as the law lists them -/
def wordL : List Str := ["notree", "nonode", "badtext", "nopath", "noowner", "nodeed", "norow", "noweaving", "large", "busy", "idle", "forbidden", "noback"]
def word (i : Nat) : Str := wordL.getD i ""
def told (i : Nat) : Str := ("refused " : Str) ++ word i
def fnames (i : Nat) : List Str := match i with
  | 0 => ["why", "node"]
  | 1 => ["node"]
  | 2 => ["place"]
  | 4 => ["owner"]
  | 5 => ["why"]
  | 6 => ["index", "why"]
  | 8 => ["count"]
  | _ => []
def spTold (c : Nat → Addr) (C : Addr) : Sp := fun vs H Q _ => ∃ a, vs = [.ref a] ∧ ∀ i, i < 13 → C = c i → Q (.str (told i)) H
def spI1 (K : PySem.W.Frag) (C : Addr) (f : Str) : Sp := fun vs H Q _ => ∃ (a : Addr) (v : V), vs = [.ref a, v] ∧ H a = some (exo a C none) ∧ ∀ dx, H dx = none → dx ≠ a → Q .non (upd (upd H dx (exd dx [(f, v)])) a (exo a C (some dx)))
def spI2 (K : PySem.W.Frag) (C : Addr) (f g : Str) : Sp := fun vs H Q _ => ∃ (a : Addr) (v u : V), vs = [.ref a, v, u] ∧ H a = some (exo a C none) ∧ ∀ dx, H dx = none → dx ≠ a → Q .non (upd (upd (upd H dx (exd dx [(f, v)])) a (exo a C (some dx))) dx (exd dx [(g, u), (f, v)]))
section
variable {P : Program} {w : World} {K : PySem.W.Frag} {mg : Str → Option Value} {base : Heap} {c : Nat → Addr} {f C : Addr} {fd : FuncData}
/-- an __init__ of one field -/
abbrev sT0 : Stmt := inClass (top 2) 1
theorem scT0 : FnScope ["self"] ["self"] (defScope sT0) := ⟨rfl, rfl, rfl, by decide +kernel, rfl, by decide +kernel, by decide +kernel⟩
theorem ok_told0 (F : Fun K "told" "NoTree.told" sT0 f fd) : FnOk P w K mg base CX0 1 f fd ["self"] (spTold c (c 0)) := by
  refine F.ok scT0 (fun vs H Q E h => ?_) (fun cdv A outer s H vs Q E hr h => ?_)
  · obtain ⟨a, rfl, _⟩ := h
    rfl
  · obtain ⟨a, rfl, k⟩ := h
    refine ⟨_, pss_one (ps_ret pe_str), ?_⟩
    have := k 0 (by decide) rfl
    have e : told 0 = "refused notree" := by decide +kernel
    rw [e] at this
    exact this
abbrev sT1 : Stmt := inClass (top 3) 1
theorem scT1 : FnScope ["self"] ["self"] (defScope sT1) := ⟨rfl, rfl, rfl, by decide +kernel, rfl, by decide +kernel, by decide +kernel⟩
theorem ok_told1 (F : Fun K "told" "NoNode.told" sT1 f fd) : FnOk P w K mg base CX0 1 f fd ["self"] (spTold c (c 1)) := by
  refine F.ok scT1 (fun vs H Q E h => ?_) (fun cdv A outer s H vs Q E hr h => ?_)
  · obtain ⟨a, rfl, _⟩ := h
    rfl
  · obtain ⟨a, rfl, k⟩ := h
    refine ⟨_, pss_one (ps_ret pe_str), ?_⟩
    have := k 1 (by decide) rfl
    have e : told 1 = "refused nonode" := by decide +kernel
    rw [e] at this
    exact this
abbrev sT2 : Stmt := inClass (top 4) 1
theorem scT2 : FnScope ["self"] ["self"] (defScope sT2) := ⟨rfl, rfl, rfl, by decide +kernel, rfl, by decide +kernel, by decide +kernel⟩
theorem ok_told2 (F : Fun K "told" "BadText.told" sT2 f fd) : FnOk P w K mg base CX0 1 f fd ["self"] (spTold c (c 2)) := by
  refine F.ok scT2 (fun vs H Q E h => ?_) (fun cdv A outer s H vs Q E hr h => ?_)
  · obtain ⟨a, rfl, _⟩ := h
    rfl
  · obtain ⟨a, rfl, k⟩ := h
    refine ⟨_, pss_one (ps_ret pe_str), ?_⟩
    have := k 2 (by decide) rfl
    have e : told 2 = "refused badtext" := by decide +kernel
    rw [e] at this
    exact this
abbrev sT3 : Stmt := inClass (top 5) 0
theorem scT3 : FnScope ["self"] ["self"] (defScope sT3) := ⟨rfl, rfl, rfl, by decide +kernel, rfl, by decide +kernel, by decide +kernel⟩
theorem ok_told3 (F : Fun K "told" "NoPath.told" sT3 f fd) : FnOk P w K mg base CX0 1 f fd ["self"] (spTold c (c 3)) := by
  refine F.ok scT3 (fun vs H Q E h => ?_) (fun cdv A outer s H vs Q E hr h => ?_)
  · obtain ⟨a, rfl, _⟩ := h
    rfl
  · obtain ⟨a, rfl, k⟩ := h
    refine ⟨_, pss_one (ps_ret pe_str), ?_⟩
    have := k 3 (by decide) rfl
    have e : told 3 = "refused nopath" := by decide +kernel
    rw [e] at this
    exact this
abbrev sT4 : Stmt := inClass (top 6) 1
theorem scT4 : FnScope ["self"] ["self"] (defScope sT4) := ⟨rfl, rfl, rfl, by decide +kernel, rfl, by decide +kernel, by decide +kernel⟩
theorem ok_told4 (F : Fun K "told" "NoOwner.told" sT4 f fd) : FnOk P w K mg base CX0 1 f fd ["self"] (spTold c (c 4)) := by
  refine F.ok scT4 (fun vs H Q E h => ?_) (fun cdv A outer s H vs Q E hr h => ?_)
  · obtain ⟨a, rfl, _⟩ := h
    rfl
  · obtain ⟨a, rfl, k⟩ := h
    refine ⟨_, pss_one (ps_ret pe_str), ?_⟩
    have := k 4 (by decide) rfl
    have e : told 4 = "refused noowner" := by decide +kernel
    rw [e] at this
    exact this
abbrev sT5 : Stmt := inClass (top 7) 1
theorem scT5 : FnScope ["self"] ["self"] (defScope sT5) := ⟨rfl, rfl, rfl, by decide +kernel, rfl, by decide +kernel, by decide +kernel⟩
theorem ok_told5 (F : Fun K "told" "NoDeed.told" sT5 f fd) : FnOk P w K mg base CX0 1 f fd ["self"] (spTold c (c 5)) := by
  refine F.ok scT5 (fun vs H Q E h => ?_) (fun cdv A outer s H vs Q E hr h => ?_)
  · obtain ⟨a, rfl, _⟩ := h
    rfl
  · obtain ⟨a, rfl, k⟩ := h
    refine ⟨_, pss_one (ps_ret pe_str), ?_⟩
    have := k 5 (by decide) rfl
    have e : told 5 = "refused nodeed" := by decide +kernel
    rw [e] at this
    exact this
abbrev sT6 : Stmt := inClass (top 8) 1
theorem scT6 : FnScope ["self"] ["self"] (defScope sT6) := ⟨rfl, rfl, rfl, by decide +kernel, rfl, by decide +kernel, by decide +kernel⟩
theorem ok_told6 (F : Fun K "told" "NoRow.told" sT6 f fd) : FnOk P w K mg base CX0 1 f fd ["self"] (spTold c (c 6)) := by
  refine F.ok scT6 (fun vs H Q E h => ?_) (fun cdv A outer s H vs Q E hr h => ?_)
  · obtain ⟨a, rfl, _⟩ := h
    rfl
  · obtain ⟨a, rfl, k⟩ := h
    refine ⟨_, pss_one (ps_ret pe_str), ?_⟩
    have := k 6 (by decide) rfl
    have e : told 6 = "refused norow" := by decide +kernel
    rw [e] at this
    exact this
abbrev sT7 : Stmt := inClass (top 9) 0
theorem scT7 : FnScope ["self"] ["self"] (defScope sT7) := ⟨rfl, rfl, rfl, by decide +kernel, rfl, by decide +kernel, by decide +kernel⟩
theorem ok_told7 (F : Fun K "told" "NoWeaving.told" sT7 f fd) : FnOk P w K mg base CX0 1 f fd ["self"] (spTold c (c 7)) := by
  refine F.ok scT7 (fun vs H Q E h => ?_) (fun cdv A outer s H vs Q E hr h => ?_)
  · obtain ⟨a, rfl, _⟩ := h
    rfl
  · obtain ⟨a, rfl, k⟩ := h
    refine ⟨_, pss_one (ps_ret pe_str), ?_⟩
    have := k 7 (by decide) rfl
    have e : told 7 = "refused noweaving" := by decide +kernel
    rw [e] at this
    exact this
abbrev sT8 : Stmt := inClass (top 10) 1
theorem scT8 : FnScope ["self"] ["self"] (defScope sT8) := ⟨rfl, rfl, rfl, by decide +kernel, rfl, by decide +kernel, by decide +kernel⟩
theorem ok_told8 (F : Fun K "told" "Large.told" sT8 f fd) : FnOk P w K mg base CX0 1 f fd ["self"] (spTold c (c 8)) := by
  refine F.ok scT8 (fun vs H Q E h => ?_) (fun cdv A outer s H vs Q E hr h => ?_)
  · obtain ⟨a, rfl, _⟩ := h
    rfl
  · obtain ⟨a, rfl, k⟩ := h
    refine ⟨_, pss_one (ps_ret pe_str), ?_⟩
    have := k 8 (by decide) rfl
    have e : told 8 = "refused large" := by decide +kernel
    rw [e] at this
    exact this
abbrev sT9 : Stmt := inClass (top 11) 0
theorem scT9 : FnScope ["self"] ["self"] (defScope sT9) := ⟨rfl, rfl, rfl, by decide +kernel, rfl, by decide +kernel, by decide +kernel⟩
theorem ok_told9 (F : Fun K "told" "Busy.told" sT9 f fd) : FnOk P w K mg base CX0 1 f fd ["self"] (spTold c (c 9)) := by
  refine F.ok scT9 (fun vs H Q E h => ?_) (fun cdv A outer s H vs Q E hr h => ?_)
  · obtain ⟨a, rfl, _⟩ := h
    rfl
  · obtain ⟨a, rfl, k⟩ := h
    refine ⟨_, pss_one (ps_ret pe_str), ?_⟩
    have := k 9 (by decide) rfl
    have e : told 9 = "refused busy" := by decide +kernel
    rw [e] at this
    exact this
abbrev sT10 : Stmt := inClass (top 12) 0
theorem scT10 : FnScope ["self"] ["self"] (defScope sT10) := ⟨rfl, rfl, rfl, by decide +kernel, rfl, by decide +kernel, by decide +kernel⟩
theorem ok_told10 (F : Fun K "told" "Idle.told" sT10 f fd) : FnOk P w K mg base CX0 1 f fd ["self"] (spTold c (c 10)) := by
  refine F.ok scT10 (fun vs H Q E h => ?_) (fun cdv A outer s H vs Q E hr h => ?_)
  · obtain ⟨a, rfl, _⟩ := h
    rfl
  · obtain ⟨a, rfl, k⟩ := h
    refine ⟨_, pss_one (ps_ret pe_str), ?_⟩
    have := k 10 (by decide) rfl
    have e : told 10 = "refused idle" := by decide +kernel
    rw [e] at this
    exact this
abbrev sT11 : Stmt := inClass (top 13) 0
theorem scT11 : FnScope ["self"] ["self"] (defScope sT11) := ⟨rfl, rfl, rfl, by decide +kernel, rfl, by decide +kernel, by decide +kernel⟩
theorem ok_told11 (F : Fun K "told" "Forbidden.told" sT11 f fd) : FnOk P w K mg base CX0 1 f fd ["self"] (spTold c (c 11)) := by
  refine F.ok scT11 (fun vs H Q E h => ?_) (fun cdv A outer s H vs Q E hr h => ?_)
  · obtain ⟨a, rfl, _⟩ := h
    rfl
  · obtain ⟨a, rfl, k⟩ := h
    refine ⟨_, pss_one (ps_ret pe_str), ?_⟩
    have := k 11 (by decide) rfl
    have e : told 11 = "refused forbidden" := by decide +kernel
    rw [e] at this
    exact this
abbrev sT12 : Stmt := inClass (top 14) 0
theorem scT12 : FnScope ["self"] ["self"] (defScope sT12) := ⟨rfl, rfl, rfl, by decide +kernel, rfl, by decide +kernel, by decide +kernel⟩
theorem ok_told12 (F : Fun K "told" "NoBack.told" sT12 f fd) : FnOk P w K mg base CX0 1 f fd ["self"] (spTold c (c 12)) := by
  refine F.ok scT12 (fun vs H Q E h => ?_) (fun cdv A outer s H vs Q E hr h => ?_)
  · obtain ⟨a, rfl, _⟩ := h
    rfl
  · obtain ⟨a, rfl, k⟩ := h
    refine ⟨_, pss_one (ps_ret pe_str), ?_⟩
    have := k 12 (by decide) rfl
    have e : told 12 = "refused noback" := by decide +kernel
    rw [e] at this
    exact this
abbrev sI0 : Stmt := inClass (top 2) 0
theorem scI0 : FnScope ["self", "why", "node"] ["self", "why", "node"] (defScope sI0) := ⟨rfl, rfl, rfl, by decide +kernel, rfl, by decide +kernel, by decide +kernel⟩
theorem ok_init0 (F : Fun K "__init__" "NoTree.__init__" sI0 f fd) (T : OexC K C) (hwhy : PySem.W.findIn K (.ref C) "why" = some none) (hnode : PySem.W.findIn K (.ref C) "node" = some none) : FnOk P w K mg base CX0 1 f fd ["self", "why", "node"] (spI2 K C "why" "node") := by
  refine F.ok scI0 (fun vs H Q E h => ?_) (fun cdv A outer s H vs Q E hr h => ?_)
  · obtain ⟨a, v, u, rfl, _⟩ := h
    rfl
  · obtain ⟨a, v, u, rfl, ha, k⟩ := h
    refine ⟨_, pss_cons (ps_ost (pv 0) (pv 1)) (pss_one (ps_ost (pv 0) (pv 2))), ?_⟩
    refine ⟨_, rfl, _, rfl, a, C, rfl, T, hwhy, .inl ⟨ha, fun dx h1 h2 => ?_⟩⟩
    exact ⟨_, rfl, _, rfl, a, C, rfl, T, hnode, .inr ⟨dx, _, upd_same, by rw [upd_ne h2, upd_same], (by show 1 ≤ 900; decide), k dx h1 h2⟩⟩
abbrev sI1 : Stmt := inClass (top 3) 0
theorem scI1 : FnScope ["self", "node"] ["self", "node"] (defScope sI1) := ⟨rfl, rfl, rfl, by decide +kernel, rfl, by decide +kernel, by decide +kernel⟩
theorem ok_init1 (F : Fun K "__init__" "NoNode.__init__" sI1 f fd) (T : OexC K C) (hnode : PySem.W.findIn K (.ref C) "node" = some none) : FnOk P w K mg base CX0 1 f fd ["self", "node"] (spI1 K C "node") := by
  refine F.ok scI1 (fun vs H Q E h => ?_) (fun cdv A outer s H vs Q E hr h => ?_)
  · obtain ⟨a, v, rfl, _⟩ := h
    rfl
  · obtain ⟨a, v, rfl, ha, k⟩ := h
    refine ⟨_, pss_one (ps_ost (pv 0) (pv 1)), ?_⟩
    exact ⟨_, rfl, _, rfl, a, C, rfl, T, hnode, .inl ⟨ha, fun dx h1 h2 => k dx h1 h2⟩⟩
abbrev sI2 : Stmt := inClass (top 4) 0
theorem scI2 : FnScope ["self", "place"] ["self", "place"] (defScope sI2) := ⟨rfl, rfl, rfl, by decide +kernel, rfl, by decide +kernel, by decide +kernel⟩
theorem ok_init2 (F : Fun K "__init__" "BadText.__init__" sI2 f fd) (T : OexC K C) (hplace : PySem.W.findIn K (.ref C) "place" = some none) : FnOk P w K mg base CX0 1 f fd ["self", "place"] (spI1 K C "place") := by
  refine F.ok scI2 (fun vs H Q E h => ?_) (fun cdv A outer s H vs Q E hr h => ?_)
  · obtain ⟨a, v, rfl, _⟩ := h
    rfl
  · obtain ⟨a, v, rfl, ha, k⟩ := h
    refine ⟨_, pss_one (ps_ost (pv 0) (pv 1)), ?_⟩
    exact ⟨_, rfl, _, rfl, a, C, rfl, T, hplace, .inl ⟨ha, fun dx h1 h2 => k dx h1 h2⟩⟩
abbrev sI4 : Stmt := inClass (top 6) 0
theorem scI4 : FnScope ["self", "owner"] ["self", "owner"] (defScope sI4) := ⟨rfl, rfl, rfl, by decide +kernel, rfl, by decide +kernel, by decide +kernel⟩
theorem ok_init4 (F : Fun K "__init__" "NoOwner.__init__" sI4 f fd) (T : OexC K C) (howner : PySem.W.findIn K (.ref C) "owner" = some none) : FnOk P w K mg base CX0 1 f fd ["self", "owner"] (spI1 K C "owner") := by
  refine F.ok scI4 (fun vs H Q E h => ?_) (fun cdv A outer s H vs Q E hr h => ?_)
  · obtain ⟨a, v, rfl, _⟩ := h
    rfl
  · obtain ⟨a, v, rfl, ha, k⟩ := h
    refine ⟨_, pss_one (ps_ost (pv 0) (pv 1)), ?_⟩
    exact ⟨_, rfl, _, rfl, a, C, rfl, T, howner, .inl ⟨ha, fun dx h1 h2 => k dx h1 h2⟩⟩
abbrev sI5 : Stmt := inClass (top 7) 0
theorem scI5 : FnScope ["self", "why"] ["self", "why"] (defScope sI5) := ⟨rfl, rfl, rfl, by decide +kernel, rfl, by decide +kernel, by decide +kernel⟩
theorem ok_init5 (F : Fun K "__init__" "NoDeed.__init__" sI5 f fd) (T : OexC K C) (hwhy : PySem.W.findIn K (.ref C) "why" = some none) : FnOk P w K mg base CX0 1 f fd ["self", "why"] (spI1 K C "why") := by
  refine F.ok scI5 (fun vs H Q E h => ?_) (fun cdv A outer s H vs Q E hr h => ?_)
  · obtain ⟨a, v, rfl, _⟩ := h
    rfl
  · obtain ⟨a, v, rfl, ha, k⟩ := h
    refine ⟨_, pss_one (ps_ost (pv 0) (pv 1)), ?_⟩
    exact ⟨_, rfl, _, rfl, a, C, rfl, T, hwhy, .inl ⟨ha, fun dx h1 h2 => k dx h1 h2⟩⟩
abbrev sI6 : Stmt := inClass (top 8) 0
theorem scI6 : FnScope ["self", "index", "why"] ["self", "index", "why"] (defScope sI6) := ⟨rfl, rfl, rfl, by decide +kernel, rfl, by decide +kernel, by decide +kernel⟩
theorem ok_init6 (F : Fun K "__init__" "NoRow.__init__" sI6 f fd) (T : OexC K C) (hindex : PySem.W.findIn K (.ref C) "index" = some none) (hwhy : PySem.W.findIn K (.ref C) "why" = some none) : FnOk P w K mg base CX0 1 f fd ["self", "index", "why"] (spI2 K C "index" "why") := by
  refine F.ok scI6 (fun vs H Q E h => ?_) (fun cdv A outer s H vs Q E hr h => ?_)
  · obtain ⟨a, v, u, rfl, _⟩ := h
    rfl
  · obtain ⟨a, v, u, rfl, ha, k⟩ := h
    refine ⟨_, pss_cons (ps_ost (pv 0) (pv 1)) (pss_one (ps_ost (pv 0) (pv 2))), ?_⟩
    refine ⟨_, rfl, _, rfl, a, C, rfl, T, hindex, .inl ⟨ha, fun dx h1 h2 => ?_⟩⟩
    exact ⟨_, rfl, _, rfl, a, C, rfl, T, hwhy, .inr ⟨dx, _, upd_same, by rw [upd_ne h2, upd_same], (by show 1 ≤ 900; decide), k dx h1 h2⟩⟩
abbrev sI8 : Stmt := inClass (top 10) 0
theorem scI8 : FnScope ["self", "count"] ["self", "count"] (defScope sI8) := ⟨rfl, rfl, rfl, by decide +kernel, rfl, by decide +kernel, by decide +kernel⟩
theorem ok_init8 (F : Fun K "__init__" "Large.__init__" sI8 f fd) (T : OexC K C) (hcount : PySem.W.findIn K (.ref C) "count" = some none) : FnOk P w K mg base CX0 1 f fd ["self", "count"] (spI1 K C "count") := by
  refine F.ok scI8 (fun vs H Q E h => ?_) (fun cdv A outer s H vs Q E hr h => ?_)
  · obtain ⟨a, v, rfl, _⟩ := h
    rfl
  · obtain ⟨a, v, rfl, ha, k⟩ := h
    refine ⟨_, pss_one (ps_ost (pv 0) (pv 1)), ?_⟩
    exact ⟨_, rfl, _, rfl, a, C, rfl, T, hcount, .inl ⟨ha, fun dx h1 h2 => k dx h1 h2⟩⟩
end
end NW

set_option maxRecDepth 100000
set_option maxHeartbeats 4000000
namespace NW
open PySem L2 NG
abbrev sFields : Stmt := top 19
abbrev sClasses : Stmt := top 20
abbrev sLaw : Stmt := top 21
/-- the thirteen classes -/
structure TxtC (K : PySem.W.Frag) (mg : Str → Option Value) (c : Nat → Addr) (cW : Addr) : Prop where
  m_isinstance : mg "isinstance" = none
  m_ValueError : mg "ValueError" = none
  m0 : mg "NoTree" = some (.ref (c 0))
  m1 : mg "NoNode" = some (.ref (c 1))
  m2 : mg "BadText" = some (.ref (c 2))
  m3 : mg "NoPath" = some (.ref (c 3))
  m4 : mg "NoOwner" = some (.ref (c 4))
  m5 : mg "NoDeed" = some (.ref (c 5))
  m6 : mg "NoRow" = some (.ref (c 6))
  m7 : mg "NoWeaving" = some (.ref (c 7))
  m8 : mg "Large" = some (.ref (c 8))
  m9 : mg "Busy" = some (.ref (c 9))
  m10 : mg "Idle" = some (.ref (c 10))
  m11 : mg "Forbidden" = some (.ref (c 11))
  m12 : mg "NoBack" = some (.ref (c 12))
  x3 : PySem.W.excIn K (c 3) [.type "ValueError", .type "Exception", .type "BaseException", .type "object"] "ValueError.__new__" = true
  k3 : PySem.W.keepIn K (.ref (c 3)) = true
  x7 : PySem.W.excIn K (c 7) [.type "ValueError", .type "Exception", .type "BaseException", .type "object"] "ValueError.__new__" = true
  k7 : PySem.W.keepIn K (.ref (c 7)) = true
  x9 : PySem.W.excIn K (c 9) [.type "ValueError", .type "Exception", .type "BaseException", .type "object"] "ValueError.__new__" = true
  k9 : PySem.W.keepIn K (.ref (c 9)) = true
  x10 : PySem.W.excIn K (c 10) [.type "ValueError", .type "Exception", .type "BaseException", .type "object"] "ValueError.__new__" = true
  k10 : PySem.W.keepIn K (.ref (c 10)) = true
  x11 : PySem.W.excIn K (c 11) [.type "ValueError", .type "Exception", .type "BaseException", .type "object"] "ValueError.__new__" = true
  k11 : PySem.W.keepIn K (.ref (c 11)) = true
  x12 : PySem.W.excIn K (c 12) [.type "ValueError", .type "Exception", .type "BaseException", .type "object"] "ValueError.__new__" = true
  k12 : PySem.W.keepIn K (.ref (c 12)) = true
  mW : mg "WalkError" = some (.ref cW)
  xc : ∀ i, i < 13 → XC K (c i)
  kit : ∀ i j, i < 13 → j < 13 → PySem.W.kitOne K (.ref (c i)) (.ref (c j)) = some (decide (i = j))
  kitW : ∀ i, i < 13 → PySem.W.kitOne K (.ref (c i)) (.ref cW) = some true
  kitV : ∀ i, i < 13 → PySem.W.kitOne K (.ref (c i)) (.type "ValueError") = some true
  n0why : PySem.W.findIn K (.ref (c 0)) "why" = some none
  n0node : PySem.W.findIn K (.ref (c 0)) "node" = some none
  n1node : PySem.W.findIn K (.ref (c 1)) "node" = some none
  n2place : PySem.W.findIn K (.ref (c 2)) "place" = some none
  n4owner : PySem.W.findIn K (.ref (c 4)) "owner" = some none
  n5why : PySem.W.findIn K (.ref (c 5)) "why" = some none
  n6index : PySem.W.findIn K (.ref (c 6)) "index" = some none
  n6why : PySem.W.findIn K (.ref (c 6)) "why" = some none
  n8count : PySem.W.findIn K (.ref (c 8)) "count" = some none
theorem TxtC.inj {K : PySem.W.Frag} {mg : Str → Option Value} {c : Nat → Addr} {cW : Addr} (T : TxtC K mg c cW) {i j : Nat} (hi : i < 13) (hj : j < 13) (h : c i = c j) : i = j := by
  have h1 := T.kit i j hi hj
  have h2 := T.kit j j hj hj
  rw [h] at h1
  rw [h1] at h2
  simpa using h2
/-- the fields of the i-th error -/
def Flds (i : Nat) (fs : List (Str × V)) (l : List V) : Prop := (fnames i).map (fun n => fs.lookup n) = l.map some
def spFields (c : Nat → Addr) : Sp := fun vs H Q _ => ∃ (a : Addr) (i : Nat) (fs : List (Str × V)) (l : List V), vs = [.ref a] ∧ i < 13 ∧ ExA H a (c i) fs ∧ Flds i fs l ∧ ∀ p, H p = none → Q (.ref p) (upd H p (.lst l))
theorem two_of {l : List V} (h : l.length = 2) : ∃ v u, l = [v, u] := by
  match l, h with
  | [v, u], _ => exact ⟨v, u, rfl⟩
section
variable {P : Program} {w : World} {K : PySem.W.Frag} {mg : Str → Option Value} {base : Heap} {c : Nat → Addr} {cW f : Addr} {fd : FuncData}
theorem ref_eq {a : Addr} : ∀ u : Value, RelV (.ref a) u → u = .ref a := fun u r => r
theorem scFields : FnScope ["_law_error"] ["_law_error"] (defScope sFields) := ⟨rfl, rfl, rfl, by decide +kernel, rfl, by decide +kernel, by decide +kernel⟩
theorem ok_fields (F : Fun K "_law_fields" "_law_fields" sFields f fd) (TC : TxtC K mg c cW) : FnOk P w K mg base CX0 1 f fd ["_law_error"] (spFields c) := by
  have nd := scFields.nd
  refine F.ok scFields (fun vs H Q E h => ?_) (fun cdv A outer s H vs Q E hr h => ?_)
  · obtain ⟨a, i, fs, l, rfl, _⟩ := h
    rfl
  · obtain ⟨a, i, fs, l, rfl, hi, ea, fl, k⟩ := h
    refine ⟨_, (pss_cons (ps_if (pt_val (pe_callB call_isX (by rfl) TC.m_isinstance (by decide +kernel) (pa_cons (pv 0) (pa_cons (pe_glob (v := .ref (c 0)) (by rfl) TC.m0 rfl) pa_nil)))) (pss_one (ps_ret (pe_lst (pa_cons (pe_exf (pv 0)) (pa_cons (pe_exf (pv 0)) pa_nil))))) pss_nil)
  (pss_cons (ps_if (pt_val (pe_callB call_isX (by rfl) TC.m_isinstance (by decide +kernel) (pa_cons (pv 0) (pa_cons (pe_glob (v := .ref (c 1)) (by rfl) TC.m1 rfl) pa_nil)))) (pss_one (ps_ret (pe_lst (pa_cons (pe_exf (pv 0)) pa_nil)))) pss_nil)
  (pss_cons (ps_if (pt_val (pe_callB call_isX (by rfl) TC.m_isinstance (by decide +kernel) (pa_cons (pv 0) (pa_cons (pe_glob (v := .ref (c 2)) (by rfl) TC.m2 rfl) pa_nil)))) (pss_one (ps_ret (pe_lst (pa_cons (pe_exf (pv 0)) pa_nil)))) pss_nil)
  (pss_cons (ps_if (pt_val (pe_callB call_isX (by rfl) TC.m_isinstance (by decide +kernel) (pa_cons (pv 0) (pa_cons (pe_glob (v := .ref (c 4)) (by rfl) TC.m4 rfl) pa_nil)))) (pss_one (ps_ret (pe_lst (pa_cons (pe_exf (pv 0)) pa_nil)))) pss_nil)
  (pss_cons (ps_if (pt_val (pe_callB call_isX (by rfl) TC.m_isinstance (by decide +kernel) (pa_cons (pv 0) (pa_cons (pe_glob (v := .ref (c 5)) (by rfl) TC.m5 rfl) pa_nil)))) (pss_one (ps_ret (pe_lst (pa_cons (pe_exf (pv 0)) pa_nil)))) pss_nil)
  (pss_cons (ps_if (pt_val (pe_callB call_isX (by rfl) TC.m_isinstance (by decide +kernel) (pa_cons (pv 0) (pa_cons (pe_glob (v := .ref (c 6)) (by rfl) TC.m6 rfl) pa_nil)))) (pss_one (ps_ret (pe_lst (pa_cons (pe_exf (pv 0)) (pa_cons (pe_exf (pv 0)) pa_nil))))) pss_nil)
  (pss_one (ps_ret (pe_ifExp (pt_val (pe_callB call_isX (by rfl) TC.m_isinstance (by decide +kernel) (pa_cons (pv 0) (pa_cons (pe_glob (v := .ref (c 8)) (by rfl) TC.m8 rfl) pa_nil)))) (pe_lst (pa_cons (pe_exf (pv 0)) pa_nil)) (pe_lst pa_nil)))))))))), ?_⟩
    have no : ∀ (j : Nat) (hj : j < 13) (hn : i ≠ j) {R : Bool → Prop}, R false → (∃ (a' C' : Addr) (fs' : List (Str × V)) (c' : V) (cv : Value) (b : Bool), [V.ref a, V.ref (c j)] = [.ref a', c'] ∧ XC K C' ∧ ExA H a' C' fs' ∧ (∀ u, RelV c' u → u = cv) ∧ PySem.W.kitOne K (.ref C') cv = some b ∧ R b) := fun j hj hn R q =>
      ⟨a, c i, fs, _, _, false, rfl, TC.xc i hi, ea, ref_eq, by rw [TC.kit i j hi hj, decide_eq_false hn], q⟩
    have ys : ∀ (j : Nat) (hj : j < 13) (hn : i = j) {R : Bool → Prop}, R true → (∃ (a' C' : Addr) (fs' : List (Str × V)) (c' : V) (cv : Value) (b : Bool), [V.ref a, V.ref (c j)] = [.ref a', c'] ∧ XC K C' ∧ ExA H a' C' fs' ∧ (∀ u, RelV c' u → u = cv) ∧ PySem.W.kitOne K (.ref C') cv = some b ∧ R b) := fun j hj hn R q =>
      ⟨a, c i, fs, _, _, true, rfl, TC.xc i hi, ea, ref_eq, by rw [TC.kit i j hi hj, decide_eq_true hn], q⟩
    by_cases h0 : i = 0
    · subst h0
      refine ⟨_, rfl, ys 0 (by decide) rfl ⟨_, rfl, iteT ?_⟩⟩
      obtain ⟨v, u, rfl⟩ : ∃ v u, l = [v, u] := two_of (by have := congrArg List.length fl; simpa [fnames] using this.symm)
      have fl' : [List.lookup ("why" : Str) fs, List.lookup ("node" : Str) fs] = [some v, some u] := fl
      injection fl' with f1 f2
      injection f2 with f2 _
      exact ⟨_, rfl, a, c 0, fs, v, rfl, TC.xc 0 hi, TC.n0why, ea, f1, _, rfl, a, c 0, fs, u, rfl, TC.xc 0 hi, TC.n0node, ea, f2, (by show 2 ≤ sizeLine; decide), fun p hp => k p hp⟩
    refine ⟨_, rfl, no 0 (by decide) h0 ⟨_, rfl, iteF ?_⟩⟩
    by_cases h1 : i = 1
    · subst h1
      refine ⟨_, rfl, ys 1 (by decide) rfl ⟨_, rfl, iteT ?_⟩⟩
      obtain ⟨v, rfl⟩ : ∃ v, l = [v] := List.length_eq_one_iff.mp (by have := congrArg List.length fl; simpa [fnames] using this.symm)
      have fl' : [List.lookup ("node" : Str) fs] = [some v] := fl
      injection fl' with f1 _
      exact ⟨_, rfl, a, c 1, fs, v, rfl, TC.xc 1 hi, TC.n1node, ea, f1, (by show 1 ≤ sizeLine; decide), fun p hp => k p hp⟩
    refine ⟨_, rfl, no 1 (by decide) h1 ⟨_, rfl, iteF ?_⟩⟩
    by_cases h2 : i = 2
    · subst h2
      refine ⟨_, rfl, ys 2 (by decide) rfl ⟨_, rfl, iteT ?_⟩⟩
      obtain ⟨v, rfl⟩ : ∃ v, l = [v] := List.length_eq_one_iff.mp (by have := congrArg List.length fl; simpa [fnames] using this.symm)
      have fl' : [List.lookup ("place" : Str) fs] = [some v] := fl
      injection fl' with f1 _
      exact ⟨_, rfl, a, c 2, fs, v, rfl, TC.xc 2 hi, TC.n2place, ea, f1, (by show 1 ≤ sizeLine; decide), fun p hp => k p hp⟩
    refine ⟨_, rfl, no 2 (by decide) h2 ⟨_, rfl, iteF ?_⟩⟩
    by_cases h4 : i = 4
    · subst h4
      refine ⟨_, rfl, ys 4 (by decide) rfl ⟨_, rfl, iteT ?_⟩⟩
      obtain ⟨v, rfl⟩ : ∃ v, l = [v] := List.length_eq_one_iff.mp (by have := congrArg List.length fl; simpa [fnames] using this.symm)
      have fl' : [List.lookup ("owner" : Str) fs] = [some v] := fl
      injection fl' with f1 _
      exact ⟨_, rfl, a, c 4, fs, v, rfl, TC.xc 4 hi, TC.n4owner, ea, f1, (by show 1 ≤ sizeLine; decide), fun p hp => k p hp⟩
    refine ⟨_, rfl, no 4 (by decide) h4 ⟨_, rfl, iteF ?_⟩⟩
    by_cases h5 : i = 5
    · subst h5
      refine ⟨_, rfl, ys 5 (by decide) rfl ⟨_, rfl, iteT ?_⟩⟩
      obtain ⟨v, rfl⟩ : ∃ v, l = [v] := List.length_eq_one_iff.mp (by have := congrArg List.length fl; simpa [fnames] using this.symm)
      have fl' : [List.lookup ("why" : Str) fs] = [some v] := fl
      injection fl' with f1 _
      exact ⟨_, rfl, a, c 5, fs, v, rfl, TC.xc 5 hi, TC.n5why, ea, f1, (by show 1 ≤ sizeLine; decide), fun p hp => k p hp⟩
    refine ⟨_, rfl, no 5 (by decide) h5 ⟨_, rfl, iteF ?_⟩⟩
    by_cases h6 : i = 6
    · subst h6
      refine ⟨_, rfl, ys 6 (by decide) rfl ⟨_, rfl, iteT ?_⟩⟩
      obtain ⟨v, u, rfl⟩ : ∃ v u, l = [v, u] := two_of (by have := congrArg List.length fl; simpa [fnames] using this.symm)
      have fl' : [List.lookup ("index" : Str) fs, List.lookup ("why" : Str) fs] = [some v, some u] := fl
      injection fl' with f1 f2
      injection f2 with f2 _
      exact ⟨_, rfl, a, c 6, fs, v, rfl, TC.xc 6 hi, TC.n6index, ea, f1, _, rfl, a, c 6, fs, u, rfl, TC.xc 6 hi, TC.n6why, ea, f2, (by show 2 ≤ sizeLine; decide), fun p hp => k p hp⟩
    refine ⟨_, rfl, no 6 (by decide) h6 ⟨_, rfl, iteF ?_⟩⟩
    by_cases h8 : i = 8
    · subst h8
      refine ⟨_, rfl, ys 8 (by decide) rfl ⟨_, rfl, iteT ?_⟩⟩
      obtain ⟨v, rfl⟩ : ∃ v, l = [v] := List.length_eq_one_iff.mp (by have := congrArg List.length fl; simpa [fnames] using this.symm)
      have fl' : [List.lookup ("count" : Str) fs] = [some v] := fl
      injection fl' with f1 _
      exact ⟨_, rfl, a, c 8, fs, v, rfl, TC.xc 8 hi, TC.n8count, ea, f1, (by show 1 ≤ sizeLine; decide), fun p hp => k p hp⟩
    refine ⟨_, rfl, no 8 (by decide) h8 ⟨_, rfl, iteF ?_⟩⟩
    have e : fnames i = [] := by
      unfold fnames
      split <;> first | rfl | contradiction
    obtain rfl : l = [] := by
      have := congrArg List.length fl
      rw [e] at this
      exact List.eq_nil_of_length_eq_zero (by simpa using this.symm)
    exact ⟨Nat.zero_le _, fun p hp => k p hp⟩
/-! ### of which classes -/
def clsL (i : Nat) : List V := [.bl (decide (i = 0)), .bl (decide (i = 1)), .bl (decide (i = 2)), .bl (decide (i = 3)), .bl (decide (i = 4)), .bl (decide (i = 5)), .bl (decide (i = 6)), .bl (decide (i = 7)), .bl (decide (i = 8)), .bl (decide (i = 9)), .bl (decide (i = 10)), .bl (decide (i = 11)), .bl (decide (i = 12))]
def spClasses (c : Nat → Addr) : Sp := fun vs H Q _ => ∃ (a : Addr) (i : Nat) (fs : List (Str × V)), vs = [.ref a] ∧ i < 13 ∧ ExA H a (c i) fs ∧ ∀ p H', Same H H' → H' p = some (.lst (clsL i)) → Q (.ref p) H'
theorem scClasses : FnScope ["_law_error", "_law_found"] ["_law_error"] (defScope sClasses) := ⟨rfl, rfl, rfl, by decide +kernel, rfl, by decide +kernel, by decide +kernel⟩
theorem ok_classes (F : Fun K "_law_classes" "_law_classes" sClasses f fd) (TC : TxtC K mg c cW) : FnOk P w K mg base CX0 1 f fd ["_law_error"] (spClasses c) := by
  have nd := scClasses.nd
  refine F.ok scClasses (fun vs H Q E h => ?_) (fun cdv A outer s H vs Q E hr h => ?_)
  · obtain ⟨a, i, fs, rfl, _⟩ := h
    rfl
  · obtain ⟨a, i, fs, rfl, hi, ea, k⟩ := h
    refine ⟨_, (pss_cons (ps_set (i := 1) nd rfl (Or.inl rfl) (pe_lst (pa_cons (pe_callB call_isX (by rfl) TC.m_isinstance (by decide +kernel) (pa_cons (pv 0) (pa_cons (pe_glob (v := .ref (c 0)) (by rfl) TC.m0 rfl) pa_nil))) (pa_cons (pe_callB call_isX (by rfl) TC.m_isinstance (by decide +kernel) (pa_cons (pv 0) (pa_cons (pe_glob (v := .ref (c 1)) (by rfl) TC.m1 rfl) pa_nil))) (pa_cons (pe_callB call_isX (by rfl) TC.m_isinstance (by decide +kernel) (pa_cons (pv 0) (pa_cons (pe_glob (v := .ref (c 2)) (by rfl) TC.m2 rfl) pa_nil))) pa_nil)))))
  (pss_cons (ps_set (i := 1) nd rfl (Or.inl rfl) (pe_op op_catS (pv 1) (pe_lst (pa_cons (pe_callB call_isX (by rfl) TC.m_isinstance (by decide +kernel) (pa_cons (pv 0) (pa_cons (pe_glob (v := .ref (c 3)) (by rfl) TC.m3 rfl) pa_nil))) (pa_cons (pe_callB call_isX (by rfl) TC.m_isinstance (by decide +kernel) (pa_cons (pv 0) (pa_cons (pe_glob (v := .ref (c 4)) (by rfl) TC.m4 rfl) pa_nil))) (pa_cons (pe_callB call_isX (by rfl) TC.m_isinstance (by decide +kernel) (pa_cons (pv 0) (pa_cons (pe_glob (v := .ref (c 5)) (by rfl) TC.m5 rfl) pa_nil))) pa_nil))))))
  (pss_cons (ps_set (i := 1) nd rfl (Or.inl rfl) (pe_op op_catS (pv 1) (pe_lst (pa_cons (pe_callB call_isX (by rfl) TC.m_isinstance (by decide +kernel) (pa_cons (pv 0) (pa_cons (pe_glob (v := .ref (c 6)) (by rfl) TC.m6 rfl) pa_nil))) (pa_cons (pe_callB call_isX (by rfl) TC.m_isinstance (by decide +kernel) (pa_cons (pv 0) (pa_cons (pe_glob (v := .ref (c 7)) (by rfl) TC.m7 rfl) pa_nil))) (pa_cons (pe_callB call_isX (by rfl) TC.m_isinstance (by decide +kernel) (pa_cons (pv 0) (pa_cons (pe_glob (v := .ref (c 8)) (by rfl) TC.m8 rfl) pa_nil))) pa_nil))))))
  (pss_cons (ps_set (i := 1) nd rfl (Or.inl rfl) (pe_op op_catS (pv 1) (pe_lst (pa_cons (pe_callB call_isX (by rfl) TC.m_isinstance (by decide +kernel) (pa_cons (pv 0) (pa_cons (pe_glob (v := .ref (c 9)) (by rfl) TC.m9 rfl) pa_nil))) (pa_cons (pe_callB call_isX (by rfl) TC.m_isinstance (by decide +kernel) (pa_cons (pv 0) (pa_cons (pe_glob (v := .ref (c 10)) (by rfl) TC.m10 rfl) pa_nil))) (pa_cons (pe_callB call_isX (by rfl) TC.m_isinstance (by decide +kernel) (pa_cons (pv 0) (pa_cons (pe_glob (v := .ref (c 11)) (by rfl) TC.m11 rfl) pa_nil))) pa_nil))))))
  (pss_one (ps_ret (pe_op op_catS (pv 1) (pe_lst (pa_cons (pe_callB call_isX (by rfl) TC.m_isinstance (by decide +kernel) (pa_cons (pv 0) (pa_cons (pe_glob (v := .ref (c 12)) (by rfl) TC.m12 rfl) pa_nil))) pa_nil))))))))), ?_⟩
    have is : ∀ (j : Nat) (hj : j < 13) {H1 : Hp} (s : Same H H1) {R : Bool → Prop}, R (decide (i = j)) → (∃ (a' C' : Addr) (fs' : List (Str × V)) (c' : V) (cv : Value) (b : Bool), [V.ref a, V.ref (c j)] = [.ref a', c'] ∧ XC K C' ∧ ExA H1 a' C' fs' ∧ (∀ u, RelV c' u → u = cv) ∧ PySem.W.kitOne K (.ref C') cv = some b ∧ R b) := fun j hj H1 s R q =>
      ⟨a, c i, fs, _, _, _, rfl, TC.xc i hi, ea.mono s, ref_eq, TC.kit i j hi hj, q⟩
    have s0 := Same.refl H
    refine ⟨_, rfl, is 0 (by decide) s0 ⟨_, rfl, is 1 (by decide) s0 ⟨_, rfl, is 2 (by decide) s0 ⟨(by show 3 ≤ sizeLine; decide), fun q0 hq0 => ?_⟩⟩⟩⟩
    have s1 := s0.trans (NG.Same.upd (o := HO.lst [V.bl (decide (i = 0)), V.bl (decide (i = 1)), V.bl (decide (i = 2))]) hq0)
    have e1 : (upd H q0 (HO.lst [V.bl (decide (i = 0)), V.bl (decide (i = 1)), V.bl (decide (i = 2))])) q0 = some (.lst [V.bl (decide (i = 0)), V.bl (decide (i = 1)), V.bl (decide (i = 2))]) := upd_same
    generalize upd H q0 (HO.lst [V.bl (decide (i = 0)), V.bl (decide (i = 1)), V.bl (decide (i = 2))]) = H1 at s1 e1
    refine ⟨_, rfl, _, rfl, is 3 (by decide) s1 ⟨_, rfl, is 4 (by decide) s1 ⟨_, rfl, is 5 (by decide) s1 ⟨(by show 3 ≤ sizeLine; decide), fun q1 hq1 => ?_⟩⟩⟩⟩
    refine ⟨q0, q1, _, _, rfl, rfl, SqL.of ((NG.Same.upd hq1) _ _ e1), SqL.of upd_same, (by show 3 + 3 ≤ sizeLine; decide), fun r1 hr1 => ?_⟩
    have s2 := s1.trans ((NG.Same.upd (o := HO.lst [V.bl (decide (i = 3)), V.bl (decide (i = 4)), V.bl (decide (i = 5))]) hq1).trans (NG.Same.upd (o := HO.lst ([V.bl (decide (i = 0)), V.bl (decide (i = 1)), V.bl (decide (i = 2))] ++ [V.bl (decide (i = 3)), V.bl (decide (i = 4)), V.bl (decide (i = 5))])) hr1))
    have e2 : (upd (upd H1 q1 (HO.lst [V.bl (decide (i = 3)), V.bl (decide (i = 4)), V.bl (decide (i = 5))])) r1 (HO.lst ([V.bl (decide (i = 0)), V.bl (decide (i = 1)), V.bl (decide (i = 2))] ++ [V.bl (decide (i = 3)), V.bl (decide (i = 4)), V.bl (decide (i = 5))]))) r1 = some (.lst [V.bl (decide (i = 0)), V.bl (decide (i = 1)), V.bl (decide (i = 2)), V.bl (decide (i = 3)), V.bl (decide (i = 4)), V.bl (decide (i = 5))]) := upd_same
    generalize upd (upd H1 q1 (HO.lst [V.bl (decide (i = 3)), V.bl (decide (i = 4)), V.bl (decide (i = 5))])) r1 (HO.lst ([V.bl (decide (i = 0)), V.bl (decide (i = 1)), V.bl (decide (i = 2))] ++ [V.bl (decide (i = 3)), V.bl (decide (i = 4)), V.bl (decide (i = 5))])) = H2 at s2 e2
    refine ⟨_, rfl, _, rfl, is 6 (by decide) s2 ⟨_, rfl, is 7 (by decide) s2 ⟨_, rfl, is 8 (by decide) s2 ⟨(by show 3 ≤ sizeLine; decide), fun q2 hq2 => ?_⟩⟩⟩⟩
    refine ⟨r1, q2, _, _, rfl, rfl, SqL.of ((NG.Same.upd hq2) _ _ e2), SqL.of upd_same, (by show 6 + 3 ≤ sizeLine; decide), fun r2 hr2 => ?_⟩
    have s3 := s2.trans ((NG.Same.upd (o := HO.lst [V.bl (decide (i = 6)), V.bl (decide (i = 7)), V.bl (decide (i = 8))]) hq2).trans (NG.Same.upd (o := HO.lst ([V.bl (decide (i = 0)), V.bl (decide (i = 1)), V.bl (decide (i = 2)), V.bl (decide (i = 3)), V.bl (decide (i = 4)), V.bl (decide (i = 5))] ++ [V.bl (decide (i = 6)), V.bl (decide (i = 7)), V.bl (decide (i = 8))])) hr2))
    have e3 : (upd (upd H2 q2 (HO.lst [V.bl (decide (i = 6)), V.bl (decide (i = 7)), V.bl (decide (i = 8))])) r2 (HO.lst ([V.bl (decide (i = 0)), V.bl (decide (i = 1)), V.bl (decide (i = 2)), V.bl (decide (i = 3)), V.bl (decide (i = 4)), V.bl (decide (i = 5))] ++ [V.bl (decide (i = 6)), V.bl (decide (i = 7)), V.bl (decide (i = 8))]))) r2 = some (.lst [V.bl (decide (i = 0)), V.bl (decide (i = 1)), V.bl (decide (i = 2)), V.bl (decide (i = 3)), V.bl (decide (i = 4)), V.bl (decide (i = 5)), V.bl (decide (i = 6)), V.bl (decide (i = 7)), V.bl (decide (i = 8))]) := upd_same
    generalize upd (upd H2 q2 (HO.lst [V.bl (decide (i = 6)), V.bl (decide (i = 7)), V.bl (decide (i = 8))])) r2 (HO.lst ([V.bl (decide (i = 0)), V.bl (decide (i = 1)), V.bl (decide (i = 2)), V.bl (decide (i = 3)), V.bl (decide (i = 4)), V.bl (decide (i = 5))] ++ [V.bl (decide (i = 6)), V.bl (decide (i = 7)), V.bl (decide (i = 8))])) = H3 at s3 e3
    refine ⟨_, rfl, _, rfl, is 9 (by decide) s3 ⟨_, rfl, is 10 (by decide) s3 ⟨_, rfl, is 11 (by decide) s3 ⟨(by show 3 ≤ sizeLine; decide), fun q3 hq3 => ?_⟩⟩⟩⟩
    refine ⟨r2, q3, _, _, rfl, rfl, SqL.of ((NG.Same.upd hq3) _ _ e3), SqL.of upd_same, (by show 9 + 3 ≤ sizeLine; decide), fun r3 hr3 => ?_⟩
    have s4 := s3.trans ((NG.Same.upd (o := HO.lst [V.bl (decide (i = 9)), V.bl (decide (i = 10)), V.bl (decide (i = 11))]) hq3).trans (NG.Same.upd (o := HO.lst ([V.bl (decide (i = 0)), V.bl (decide (i = 1)), V.bl (decide (i = 2)), V.bl (decide (i = 3)), V.bl (decide (i = 4)), V.bl (decide (i = 5)), V.bl (decide (i = 6)), V.bl (decide (i = 7)), V.bl (decide (i = 8))] ++ [V.bl (decide (i = 9)), V.bl (decide (i = 10)), V.bl (decide (i = 11))])) hr3))
    have e4 : (upd (upd H3 q3 (HO.lst [V.bl (decide (i = 9)), V.bl (decide (i = 10)), V.bl (decide (i = 11))])) r3 (HO.lst ([V.bl (decide (i = 0)), V.bl (decide (i = 1)), V.bl (decide (i = 2)), V.bl (decide (i = 3)), V.bl (decide (i = 4)), V.bl (decide (i = 5)), V.bl (decide (i = 6)), V.bl (decide (i = 7)), V.bl (decide (i = 8))] ++ [V.bl (decide (i = 9)), V.bl (decide (i = 10)), V.bl (decide (i = 11))]))) r3 = some (.lst [V.bl (decide (i = 0)), V.bl (decide (i = 1)), V.bl (decide (i = 2)), V.bl (decide (i = 3)), V.bl (decide (i = 4)), V.bl (decide (i = 5)), V.bl (decide (i = 6)), V.bl (decide (i = 7)), V.bl (decide (i = 8)), V.bl (decide (i = 9)), V.bl (decide (i = 10)), V.bl (decide (i = 11))]) := upd_same
    generalize upd (upd H3 q3 (HO.lst [V.bl (decide (i = 9)), V.bl (decide (i = 10)), V.bl (decide (i = 11))])) r3 (HO.lst ([V.bl (decide (i = 0)), V.bl (decide (i = 1)), V.bl (decide (i = 2)), V.bl (decide (i = 3)), V.bl (decide (i = 4)), V.bl (decide (i = 5)), V.bl (decide (i = 6)), V.bl (decide (i = 7)), V.bl (decide (i = 8))] ++ [V.bl (decide (i = 9)), V.bl (decide (i = 10)), V.bl (decide (i = 11))])) = H4 at s4 e4
    refine ⟨_, rfl, _, rfl, is 12 (by decide) s4 ⟨(by show 1 ≤ sizeLine; decide), fun q4 hq4 => ?_⟩⟩
    refine ⟨r3, q4, _, _, rfl, rfl, SqL.of ((NG.Same.upd hq4) _ _ e4), SqL.of upd_same, (by show 12 + 1 ≤ sizeLine; decide), fun r4 hr4 => ?_⟩
    have s5 := s4.trans ((NG.Same.upd (o := HO.lst [V.bl (decide (i = 12))]) hq4).trans (NG.Same.upd (o := HO.lst ([V.bl (decide (i = 0)), V.bl (decide (i = 1)), V.bl (decide (i = 2)), V.bl (decide (i = 3)), V.bl (decide (i = 4)), V.bl (decide (i = 5)), V.bl (decide (i = 6)), V.bl (decide (i = 7)), V.bl (decide (i = 8)), V.bl (decide (i = 9)), V.bl (decide (i = 10)), V.bl (decide (i = 11))] ++ [V.bl (decide (i = 12))])) hr4))
    have e5 : (upd (upd H4 q4 (HO.lst [V.bl (decide (i = 12))])) r4 (HO.lst ([V.bl (decide (i = 0)), V.bl (decide (i = 1)), V.bl (decide (i = 2)), V.bl (decide (i = 3)), V.bl (decide (i = 4)), V.bl (decide (i = 5)), V.bl (decide (i = 6)), V.bl (decide (i = 7)), V.bl (decide (i = 8)), V.bl (decide (i = 9)), V.bl (decide (i = 10)), V.bl (decide (i = 11))] ++ [V.bl (decide (i = 12))]))) r4 = some (.lst [V.bl (decide (i = 0)), V.bl (decide (i = 1)), V.bl (decide (i = 2)), V.bl (decide (i = 3)), V.bl (decide (i = 4)), V.bl (decide (i = 5)), V.bl (decide (i = 6)), V.bl (decide (i = 7)), V.bl (decide (i = 8)), V.bl (decide (i = 9)), V.bl (decide (i = 10)), V.bl (decide (i = 11)), V.bl (decide (i = 12))]) := upd_same
    generalize upd (upd H4 q4 (HO.lst [V.bl (decide (i = 12))])) r4 (HO.lst ([V.bl (decide (i = 0)), V.bl (decide (i = 1)), V.bl (decide (i = 2)), V.bl (decide (i = 3)), V.bl (decide (i = 4)), V.bl (decide (i = 5)), V.bl (decide (i = 6)), V.bl (decide (i = 7)), V.bl (decide (i = 8)), V.bl (decide (i = 9)), V.bl (decide (i = 10)), V.bl (decide (i = 11))] ++ [V.bl (decide (i = 12))])) = H5 at s5 e5
    exact k r4 _ s5 e5
end
end NW

set_option maxRecDepth 100000
set_option maxHeartbeats 8000000
namespace NW
open PySem L2 NG
def spLaw (K : PySem.W.Frag) : Sp := fun vs H Q _ => ∃ (a : Addr) (ns : List Int), vs = [.ref a] ∧ SqL K H a (ns.map V.int) ∧ ns.length ≤ 63 ∧ ∀ H', Q (.bl true) H'
structure TxtL (K : PySem.W.Frag) (mg : Str → Option Value) (fDigit fState fFields fClasses : Addr) : Prop where
  m_range : mg "range" = none
  m_len : mg "len" = none
  m_enumerate : mg "enumerate" = none
  g_digit : mg "_law_digit" = some (.ref fDigit)
  kp_digit : PySem.W.keepIn K (.ref fDigit) = true
  g_state : mg "_law_state" = some (.ref fState)
  kp_state : PySem.W.keepIn K (.ref fState) = true
  g_fields : mg "_law_fields" = some (.ref fFields)
  kp_fields : PySem.W.keepIn K (.ref fFields) = true
  g_classes : mg "_law_classes" = some (.ref fClasses)
  kp_classes : PySem.W.keepIn K (.ref fClasses) = true
def S13 (c : Nat → Addr) (C : Addr) : Prop := ∃ i, i < 13 ∧ C = c i
/-! ### making -/
section
variable {K : PySem.W.Frag} {C : Addr} {v u : V} {f g : Str} {H : Hp} {Q : Addr → Hp → Prop}
theorem mk1_ok (k : ∀ a H', Same H H' → ExA H' a C [(f, v)] → Q a H') : ∀ a, H a = none → spI1 K C f [.ref a, v] (upd H a (exo a C none)) (fun r H2 => r = .non ∧ Q a H2) (fun _ _ _ => False) := fun a ha =>
  ⟨a, v, rfl, upd_same, fun dx hd hne => ⟨rfl, k a _ (fun b x e => by
    have h1 : b ≠ a := ne_of_none e ha
    have h2 : b ≠ dx := fun z => by
      rw [z] at e
      rw [upd_ne hne] at hd
      rw [hd] at e
      cases e
    rw [upd_ne h1, upd_ne h2, upd_ne h1]
    exact e) (.inr ⟨dx, upd_same, by rw [upd_ne hne, upd_same]⟩)⟩⟩
theorem mk2_ok (k : ∀ a H', Same H H' → ExA H' a C [(g, u), (f, v)] → Q a H') : ∀ a, H a = none → spI2 K C f g [.ref a, v, u] (upd H a (exo a C none)) (fun r H2 => r = .non ∧ Q a H2) (fun _ _ _ => False) := fun a ha =>
  ⟨a, v, u, rfl, upd_same, fun dx hd hne => ⟨rfl, k a _ (fun b x e => by
    have h1 : b ≠ a := ne_of_none e ha
    have h2 : b ≠ dx := fun z => by
      rw [z] at e
      rw [upd_ne hne] at hd
      rw [hd] at e
      cases e
    rw [upd_ne h2, upd_ne h1, upd_ne h2, upd_ne h1]
    exact e) (.inr ⟨dx, by rw [upd_ne hne.symm, upd_same], upd_same⟩)⟩⟩
end
theorem lk_ne {n f : Str} {v : V} {fs : List (Str × V)} (h : n ≠ f) : List.lookup n ((f, v) :: fs) = List.lookup n fs := by rw [lookup_put, if_neg h]
theorem lk_eq {f : Str} {v : V} {fs : List (Str × V)} : List.lookup f ((f, v) :: fs) = some v := by rw [lookup_put, if_pos rfl]
/-! ### the second value -/
def YK (H : Hp) (y : V) (x : Int) : Prop := y = .str "none" ∨ y = .non ∨ y = .int (x - 50) ∨ ∃ r, y = .ref r ∧ H r = some (.lst [.int x])
theorem YK.mono {H H' : Hp} {y : V} {x : Int} (h : YK H y x) (s : Same H H') : YK H' y x := h.imp id fun h => h.imp id fun h => h.imp id fun ⟨r, e, h⟩ => ⟨r, e, s _ _ h⟩
/-- a value that is equal to itself by its look -/
def SD (K : PySem.W.Frag) (H : Hp) (v : V) (d : PyData) : Prop := Dp K H v d ∧ PyData.canLay0 d = true ∧ PyData.depth d ≤ 1 ∧ PyData.eqv d d = true
theorem YK.sd {K : PySem.W.Frag} {H : Hp} {y : V} {x : Int} (h : YK H y x) : ∃ d, SD K H y d := by
  rcases h with rfl | rfl | rfl | ⟨r, rfl, e⟩
  · exact ⟨.str "none", .str _, by decide +kernel, by decide +kernel, by decide +kernel⟩
  · exact ⟨.none, .non, by decide +kernel, by decide +kernel, by decide +kernel⟩
  · exact ⟨.int (x - 50), .int _, by simp [PyData.canLay0], by simp [PyData.depth], by simp [PyData.eqv]⟩
  · exact ⟨.list [.int x], .lst (SqL.of e) (.cons (.int x) .nil), by simp [PyData.canLay0, PyData.canLayAll0], by simp [PyData.depth, PyData.depthAll], by simp [PyData.eqv, PyData.eqvAll]⟩
theorem sd_int {K : PySem.W.Frag} {H : Hp} {x : Int} : SD K H (.int x) (.int x) := ⟨.int x, by simp [PyData.canLay0], by simp [PyData.depth], by simp [PyData.eqv]⟩
def LD (K : PySem.W.Frag) (H : Hp) (l : List V) : Prop := ∃ ds, DpAll K H l ds ∧ SeqAt.shaped (.list ds) = true ∧ PyData.eqv (.list ds) (.list ds) = true
theorem ld0 {K : PySem.W.Frag} {H : Hp} : LD K H [] := ⟨[], .nil, by decide +kernel, by decide +kernel⟩
theorem ld1 {K : PySem.W.Frag} {H : Hp} {v : V} {d : PyData} (h : SD K H v d) : LD K H [v] := by
  obtain ⟨h1, h2, h3, h4⟩ := h
  refine ⟨[d], .cons h1 .nil, ?_, ?_⟩
  · unfold SeqAt.shaped
    simp [PyData.canLay0, PyData.canLayAll0, PyData.depth, PyData.depthAll, h2]
    omega
  · simp [PyData.eqv, PyData.eqvAll, h4]
theorem ld2 {K : PySem.W.Frag} {H : Hp} {v u : V} {d e : PyData} (h : SD K H v d) (g : SD K H u e) : LD K H [v, u] := by
  obtain ⟨h1, h2, h3, h4⟩ := h
  obtain ⟨g1, g2, g3, g4⟩ := g
  refine ⟨[d, e], .cons h1 (.cons g1 .nil), ?_, ?_⟩
  · unfold SeqAt.shaped
    simp [PyData.canLay0, PyData.canLayAll0, PyData.depth, PyData.depthAll, h2, g2]
    omega
  · simp [PyData.eqv, PyData.eqvAll, h4, g4]
/-! ### the classes, as listed -/
def bools (i : Nat) : List Bool := (List.range 13).map fun j => decide (i = j)
theorem clsL_eq (i : Nat) : clsL i = (bools i).map V.bl := rfl
theorem dp_bools {K : PySem.W.Frag} {H : Hp} : ∀ bs : List Bool, DpAll K H (bs.map V.bl) (bs.map PyData.bool)
  | [] => .nil
  | b :: r => .cons (.bl b) (dp_bools r)
theorem sh_bools (i : Nat) (hi : i < 13) : SeqAt.shaped (.list ((bools i).map PyData.bool)) = true ∧ PyData.eqv (.list ((bools i).map PyData.bool)) (.list ((bools i).map PyData.bool)) = true := by
  have : ∀ i : Fin 13, SeqAt.shaped (.list ((bools i.1).map PyData.bool)) = true ∧ PyData.eqv (.list ((bools i.1).map PyData.bool)) (.list ((bools i.1).map PyData.bool)) = true := by decide +kernel
  exact this ⟨i, hi⟩
theorem word_len (i : Nat) (hi : i < 13) : ("refused " : Str).length + (word i).length ≤ sizeLine := by
  have : ∀ i : Fin 13, ("refused " : Str).length + (word i.1).length ≤ 100 := by decide +kernel
  exact Nat.le_trans (this ⟨i, hi⟩) (by decide)
theorem word_at (i : Nat) (hi : i < 13) : atI (wordL.map V.str) (i : Int) = some (.str (word i)) := by
  refine atI_nat ?_
  have : ∀ i : Fin 13, (wordL.map V.str)[i.1]? = some (.str (word i.1)) := fun i => by
    have h : i.1 < wordL.length := i.2
    rw [List.getElem?_map, List.getElem?_eq_getElem h]
    show some (V.str wordL[i.1]) = some (.str (wordL.getD i.1 ""))
    rw [List.getD_eq_getElem?_getD, List.getElem?_eq_getElem h]
    rfl
  exact this ⟨i, hi⟩
theorem scLaw : FnScope ["_law_script", "_law_cell", "_law_s", "_law_x", "_law_y", "_law_errors", "_law_fields_here", "_law_words", "_law_at", "_law_error", "_law_k"] ["_law_script"] (defScope sLaw) := ⟨rfl, rfl, rfl, by decide +kernel, rfl, by decide +kernel, by decide +kernel⟩
/-- what the loop reads of the i-th error -/
def Row (K : PySem.W.Frag) (c : Nat → Addr) (H : Hp) (es fs : List V) (i : Nat) : Prop := ∃ (a : Addr) (p : List (Str × V)) (l : List V) (f : Addr), es[i]? = some (.ref a) ∧ ExA H a (c i) p ∧ Flds i p l ∧ List.lookup ("told" : Str) p = none ∧ fs[i]? = some (.ref f) ∧ H f = some (.lst l) ∧ ∀ H', Same H H' → LD K H' l

section
variable {P : Program} {w : World} {K : PySem.W.Frag} {mg : Str → Option Value} {base : Heap} {c : Nat → Addr} {cW fDigit fState fFields fClasses fLaw I0 I1 I2 I4 I5 I6 I8 : Addr}
theorem ok_law {fd fdD fdS fdF fdC fi0 fi1 fi2 fi4 fi5 fi6 fi8 : FuncData} (F : Fun K "law" "law" sLaw fLaw fd) (TC : TxtC K mg c cW) (TL : TxtL K mg fDigit fState fFields fClasses)
    (G_digit : FnOk P w K mg base CX0 1 fDigit fdD ["_law_state_here", "_law_base"] spDigit) (b_digit : Binds K fdD ["_law_state_here", "_law_base"] [])
    (G_state : FnOk P w K mg base CX0 1 fState fdS ["_law_source"] spState) (b_state : Binds K fdS ["_law_source"] [])
    (G_fields : FnOk P w K mg base CX0 1 fFields fdF ["_law_error"] (spFields c)) (b_fields : Binds K fdF ["_law_error"] [])
    (G_classes : FnOk P w K mg base CX0 1 fClasses fdC ["_law_error"] (spClasses c)) (b_classes : Binds K fdC ["_law_error"] [])
    (hT : ∀ C, S13 c C → ∃ (f : Addr) (fd : FuncData) (ps : List Str), XC K C ∧ PySem.W.findIn K (.ref C) "told" = some (some (.ref f)) ∧ PySem.W.isFn K (.ref f) = true ∧ PySem.W.keepIn K (.ref f) = true ∧ FnOk P w K mg base CX0 1 f fd ps (spTold c C) ∧ Binds K fd ps [])
    (O0 : OexC K (c 0)) (iC0 : PySem.W.findIn K (.ref (c 0)) "__init__" = some (some (.ref I0))) (tI0 : PySem.W.typeIn K (.ref I0) = some (.type "function")) (F0 : FnOk P w K mg base CX0 1 I0 fi0 ["self", "why", "node"] (spI2 K (c 0) "why" "node")) (b0 : Binds K fi0 ["self", "why", "node"] [])
    (O1 : OexC K (c 1)) (iC1 : PySem.W.findIn K (.ref (c 1)) "__init__" = some (some (.ref I1))) (tI1 : PySem.W.typeIn K (.ref I1) = some (.type "function")) (F1 : FnOk P w K mg base CX0 1 I1 fi1 ["self", "node"] (spI1 K (c 1) "node")) (b1 : Binds K fi1 ["self", "node"] [])
    (O2 : OexC K (c 2)) (iC2 : PySem.W.findIn K (.ref (c 2)) "__init__" = some (some (.ref I2))) (tI2 : PySem.W.typeIn K (.ref I2) = some (.type "function")) (F2 : FnOk P w K mg base CX0 1 I2 fi2 ["self", "place"] (spI1 K (c 2) "place")) (b2 : Binds K fi2 ["self", "place"] [])
    (O4 : OexC K (c 4)) (iC4 : PySem.W.findIn K (.ref (c 4)) "__init__" = some (some (.ref I4))) (tI4 : PySem.W.typeIn K (.ref I4) = some (.type "function")) (F4 : FnOk P w K mg base CX0 1 I4 fi4 ["self", "owner"] (spI1 K (c 4) "owner")) (b4 : Binds K fi4 ["self", "owner"] [])
    (O5 : OexC K (c 5)) (iC5 : PySem.W.findIn K (.ref (c 5)) "__init__" = some (some (.ref I5))) (tI5 : PySem.W.typeIn K (.ref I5) = some (.type "function")) (F5 : FnOk P w K mg base CX0 1 I5 fi5 ["self", "why"] (spI1 K (c 5) "why")) (b5 : Binds K fi5 ["self", "why"] [])
    (O6 : OexC K (c 6)) (iC6 : PySem.W.findIn K (.ref (c 6)) "__init__" = some (some (.ref I6))) (tI6 : PySem.W.typeIn K (.ref I6) = some (.type "function")) (F6 : FnOk P w K mg base CX0 1 I6 fi6 ["self", "index", "why"] (spI2 K (c 6) "index" "why")) (b6 : Binds K fi6 ["self", "index", "why"] [])
    (O8 : OexC K (c 8)) (iC8 : PySem.W.findIn K (.ref (c 8)) "__init__" = some (some (.ref I8))) (tI8 : PySem.W.typeIn K (.ref I8) = some (.type "function")) (F8 : FnOk P w K mg base CX0 1 I8 fi8 ["self", "count"] (spI1 K (c 8) "count")) (b8 : Binds K fi8 ["self", "count"] [])
    : FnOk P w K mg base CX0 3 fLaw fd ["_law_script"] (spLaw K) := by
  have nd := scLaw.nd
  refine F.ok scLaw (fun vs H Q E h => ?_) (fun cdv A outer s H vs Q E hr h => ?_)
  · obtain ⟨a, ns, rfl, _⟩ := h
    rfl
  · obtain ⟨a, ns, rfl, hS, hlen, k⟩ := h
    have hr1 : Room 1 _ := hr.mono (by decide)
    have hr2 : Room 2 _ := hr
    have hs : sizeLine = 16777216 := sizeLine_eq
    refine ⟨_, (pss_cons (ps_for PassesOwn.never rfl (pi_list (pe_slice sl_list (pe_op op_catS (pv 0) (pe_lst (pa_cons pe_int pa_nil))) po_none (po_some pe_int))) (pg_name (i := 1) nd rfl (Or.inl rfl))
  (pss_cons (ps_set (i := 2) nd rfl (Or.inl rfl) (pe_call G_state hr1 (by rfl) TL.g_state TL.kp_state b_state .nil pass0 (pa_cons (pv 1) pa_nil)))
  (pss_cons (ps_set (i := 3) nd rfl (Or.inl rfl) (pe_call G_digit hr1 (by rfl) TL.g_digit TL.kp_digit b_digit .nil pass0 (pa_cons (pv 2) (pa_cons pe_int pa_nil))))
  (pss_cons (ps_set (i := 4) nd rfl (Or.inl rfl) (pe_ix ix_list (pe_lst (pa_cons pe_str (pa_cons pe_non (pa_cons (pe_op op_sub (pv 3) pe_int) (pa_cons (pe_lst (pa_cons (pv 3) pa_nil)) pa_nil))))) (pe_call G_digit hr1 (by rfl) TL.g_digit TL.kp_digit b_digit .nil pass0 (pa_cons (pv 2) (pa_cons pe_int pa_nil))) (fun _ _ => rfl)))
  (pss_cons (ps_set (i := 5) nd rfl (Or.inl rfl) (pe_lst (pa_cons (pe_excI O0 iC0 tI0 F0 hr2 b0 pass0 (by rfl) TC.m0 (pa_cons (pv 3) (pa_cons (pv 4) pa_nil))) (pa_cons (pe_excI O1 iC1 tI1 F1 hr2 b1 pass0 (by rfl) TC.m1 (pa_cons (pv 4) pa_nil)) (pa_cons (pe_excI O2 iC2 tI2 F2 hr2 b2 pass0 (by rfl) TC.m2 (pa_cons (pv 3) pa_nil)) (pa_cons (pe_exc0 PySem.F.excBase_ValueError TC.x3 TC.m3 TC.k3 (by rfl)) (pa_cons (pe_excI O4 iC4 tI4 F4 hr2 b4 pass0 (by rfl) TC.m4 (pa_cons (pv 4) pa_nil)) (pa_cons (pe_excI O5 iC5 tI5 F5 hr2 b5 pass0 (by rfl) TC.m5 (pa_cons (pv 4) pa_nil)) (pa_cons (pe_excI O6 iC6 tI6 F6 hr2 b6 pass0 (by rfl) TC.m6 (pa_cons (pv 3) (pa_cons (pv 4) pa_nil))) (pa_cons (pe_exc0 PySem.F.excBase_ValueError TC.x7 TC.m7 TC.k7 (by rfl)) pa_nil))))))))))
  (pss_cons (ps_set (i := 5) nd rfl (Or.inl rfl) (pe_op op_catS (pv 5) (pe_lst (pa_cons (pe_excI O8 iC8 tI8 F8 hr2 b8 pass0 (by rfl) TC.m8 (pa_cons (pv 3) pa_nil)) (pa_cons (pe_exc0 PySem.F.excBase_ValueError TC.x9 TC.m9 TC.k9 (by rfl)) (pa_cons (pe_exc0 PySem.F.excBase_ValueError TC.x10 TC.m10 TC.k10 (by rfl)) (pa_cons (pe_exc0 PySem.F.excBase_ValueError TC.x11 TC.m11 TC.k11 (by rfl)) (pa_cons (pe_exc0 PySem.F.excBase_ValueError TC.x12 TC.m12 TC.k12 (by rfl)) pa_nil))))))))
  (pss_cons (ps_set (i := 6) nd rfl (Or.inl rfl) (pe_lst (pa_cons (pe_lst (pa_cons (pv 3) (pa_cons (pv 4) pa_nil))) (pa_cons (pe_lst (pa_cons (pv 4) pa_nil)) (pa_cons (pe_lst (pa_cons (pv 3) pa_nil)) (pa_cons (pe_lst pa_nil) (pa_cons (pe_lst (pa_cons (pv 4) pa_nil)) (pa_cons (pe_lst (pa_cons (pv 4) pa_nil)) (pa_cons (pe_lst (pa_cons (pv 3) (pa_cons (pv 4) pa_nil))) (pa_cons (pe_lst pa_nil) (pa_cons (pe_lst (pa_cons (pv 3) pa_nil)) (pa_cons (pe_lst pa_nil) (pa_cons (pe_lst pa_nil) (pa_cons (pe_lst pa_nil) (pa_cons (pe_lst pa_nil) pa_nil)))))))))))))))
  (pss_cons (ps_set (i := 7) nd rfl (Or.inl rfl) (pe_lst (pa_cons pe_str (pa_cons pe_str (pa_cons pe_str (pa_cons pe_str (pa_cons pe_str (pa_cons pe_str (pa_cons pe_str (pa_cons pe_str (pa_cons pe_str (pa_cons pe_str pa_nil))))))))))))
  (pss_cons (ps_set (i := 7) nd rfl (Or.inl rfl) (pe_op op_catS (pv 7) (pe_lst (pa_cons pe_str (pa_cons pe_str (pa_cons pe_str pa_nil))))))
  (pss_one (ps_for PassesOwn.never rfl (pi_enum (by rfl) TL.m_enumerate (pa_cons (pv 5) pa_nil)) (pg_tup (by rfl) (pgs_cons (pg_name (i := 8) nd rfl (Or.inr rfl)) (pgs_cons (pg_name (i := 9) nd rfl (Or.inl rfl)) pgs_nil)))
  (pss_cons (ps_if (PW.pt (pw_or (pt_cmpR op_ne (pe_exm0 (S := S13 c) (sp := spTold c) (CX := CX0) (k := 1) (m := "told") (pv 9) hT hr1 pass0) (pe_op op_add_str pe_str (pe_ix ix_list (pv 7) (pv 8) (fun _ _ => rfl))) (nomark _)) (pw_or1 (pt_cmpR (op_neD hr.units) (pe_call G_fields hr1 (by rfl) TL.g_fields TL.kp_fields b_fields .nil pass0 (pa_cons (pv 9) pa_nil)) (pe_ix ix_list (pv 6) (pv 8) (fun _ _ => rfl)) (nomark _))))) (pss_one (ps_ret pe_bl)) pss_nil)
  (pss_cons (ps_if (PW.pt (pw_or (pt_not (pt_val (pe_callB call_isX (by rfl) TC.m_isinstance (by decide +kernel) (pa_cons (pv 9) (pa_cons (pe_glob (v := .ref cW) (by rfl) TC.mW rfl) pa_nil))))) (pw_or1 (pt_not (pt_val (pe_callB call_isX (by rfl) TC.m_isinstance (by decide +kernel) (pa_cons (pv 9) (pa_cons (pe_bltn (v := .ty "ValueError") (by rfl) TC.m_ValueError (by decide +kernel) rfl) pa_nil)))))))) (pss_one (ps_ret pe_bl)) pss_nil)
  (pss_one (ps_if (pt_cmpR (op_neD hr.units) (pe_call G_classes hr1 (by rfl) TL.g_classes TL.kp_classes b_classes .nil pass0 (pa_cons (pv 9) pa_nil)) (pe_lc (own := [("_law_k", 10)]) rfl nd (pi_range1 (by rfl) TL.m_range (pa_cons (pe_callB call_len_seq (by rfl) TL.m_len (by decide +kernel) (pa_cons (pv 5) pa_nil)) pa_nil)) (blkOk_by (N := ["_law_script", "_law_cell", "_law_s", "_law_x", "_law_y", "_law_errors", "_law_fields_here", "_law_words", "_law_at", "_law_error", "_law_k"]) (sc := defScope sLaw) (by decide +kernel)) (fun _ _ _ _ _ => (pg_name (i := 10) nd rfl (Or.inl rfl))) (fun _ _ _ _ _ => pts_nil) (fun _ _ _ _ _ => (pe_cmpR op_eq (pv 10) (pv 8) (nomark _)))) (nomark _)) (pss_one (ps_ret pe_bl)) pss_nil)))))))))))))))
  (pss_one (ps_ret pe_bl))), ?_⟩
    refine ⟨_, rfl, (by show 1 ≤ sizeLine; decide), fun q hq => ⟨a, q, ns.map V.int, [.int 0], rfl, rfl, (NG.Same.upd hq).seq hS, SqL.of upd_same, (by rw [List.length_map]; show ns.length + 1 ≤ _; omega), fun r hr' => ?_⟩⟩
    have sa : Same H (upd (upd H q (.lst [.int 0])) r (.lst (ns.map V.int ++ [.int 0]))) := (NG.Same.upd hq).trans (NG.Same.upd hr')
    have er : (upd (upd H q (.lst [.int 0])) r (.lst (ns.map V.int ++ [.int 0]))) r = some (.lst (ns.map V.int ++ [.int 0])) := upd_same
    generalize upd (upd H q (.lst [.int 0])) r (.lst (ns.map V.int ++ [.int 0])) = Ha at sa er
    refine ⟨_, rfl, r, _, rfl, SqL.of er, fun cc hc => ?_⟩
    have sb : Same H (upd Ha cc (.lst (cutV (ns.map V.int ++ [.int 0]) none (some 3)))) := sa.trans (NG.Same.upd hc)
    have ec : (upd Ha cc (.lst (cutV (ns.map V.int ++ [.int 0]) none (some 3)))) cc = some (.lst (cutV (ns.map V.int ++ [.int 0]) none (some 3))) := upd_same
    have hints : ∀ x ∈ cutV (ns.map V.int ++ [.int 0]) none (some 3), ∃ n, x = V.int n := fun x hx => by
      have h1 : x ∈ ns.map V.int ++ [.int 0] := List.mem_of_mem_drop (List.mem_of_mem_take hx)
      rcases List.mem_append.mp h1 with h | h
      · obtain ⟨n, _, e⟩ := List.mem_map.mp h
        exact ⟨n, e.symm⟩
      · exact ⟨0, List.mem_singleton.mp h⟩
    generalize cutV (ns.map V.int ++ [.int 0]) none (some 3) = cells at sb ec hints
    generalize upd Ha cc (.lst cells) = Hb at sb ec
    refine ⟨cc, rfl, ⟨_, SqL.of ec⟩, for_list (K := K) (a := cc) (xs := cells) (fun i σ H' => (∃ v1 v2 v3 v4 v5 v6 v7 v8 v9 v10 : Option V, σ = [some (.ref a), v1, v2, v3, v4, v5, v6, v7, v8, v9, v10]) ∧ Same Hb H')
      ⟨⟨none, none, none, none, none, none, none, none, none, none, rfl⟩, Same.refl _⟩ (fun i σ H' _ h => SqL.of (h.2 _ _ ec)) ?_ ?_⟩
    · rintro i y σ H1 hi ⟨⟨v1, v2, v3, v4, v5, v6, v7, v8, v9, v10, rfl⟩, sH1⟩
      obtain ⟨n, rfl⟩ := hints y (List.mem_of_getElem? hi)
      refine ⟨_, rfl, n, rfl, fun p o hp ho => ?_⟩
      have d1 : Same H1 (upd H1 p o) := NG.Same.upd hp
      have ep : (upd H1 p o) p = some o := upd_same
      generalize upd H1 p o = H2 at d1 ep
      refine ⟨_, rfl, p, 100, o, rfl, by decide, by decide, ep, ho, fun x o2 x0 x1 ho2 => ?_⟩
      have sp2 : Same H1 (upd H2 p o2) := fun b u e => by rw [upd_ne (ne_of_none e hp)]; exact d1 _ _ e
      have ep2 : (upd H2 p o2) p = some o2 := upd_same
      generalize upd H2 p o2 = H3 at sp2 ep2
      refine ⟨_, rfl, _, _, rfl, rfl, _, rfl, (by show 1 ≤ sizeLine; decide), fun rx hrx => ⟨(by show 4 ≤ sizeLine; decide), fun ql hql => ?_⟩⟩
      have t4 := NG.Same.upd (o := HO.lst [V.int x]) hrx
      have t5 := NG.Same.upd (o := HO.lst [V.str "none", V.non, V.int (x - 50), V.ref rx]) hql
      have er4 : (upd (upd H3 rx (HO.lst [V.int x])) ql (HO.lst [V.str "none", V.non, V.int (x - 50), V.ref rx])) rx = some (.lst [V.int x]) := t5 _ _ upd_same
      have eq4 : (upd (upd H3 rx (HO.lst [V.int x])) ql (HO.lst [V.str "none", V.non, V.int (x - 50), V.ref rx])) ql = some (.lst [V.str "none", V.non, V.int (x - 50), V.ref rx]) := upd_same
      have ep4 := t5 _ _ (t4 _ _ ep2)
      have sp4 := sp2.trans (t4.trans t5)
      have nrp : rx ≠ p := (ne_of_none ep2 hrx).symm
      have nqp : ql ≠ p := (ne_of_none (t4 _ _ ep2) hql).symm
      generalize upd (upd H3 rx (HO.lst [V.int x])) ql (HO.lst [V.str "none", V.non, V.int (x - 50), V.ref rx]) = H4 at er4 eq4 ep4 sp4
      refine ⟨_, rfl, p, 4, o2, rfl, by decide, by decide, ep4, ho2, fun g o3 g0 g1 ho3 => ?_⟩
      have er5 : (upd H4 p o3) rx = some (.lst [V.int x]) := by rw [upd_ne nrp]; exact er4
      have eq5 : (upd H4 p o3) ql = some (.lst [V.str "none", V.non, V.int (x - 50), V.ref rx]) := by rw [upd_ne nqp]; exact eq4
      have sp5 : Same H1 (upd H4 p o3) := fun b u e => by rw [upd_ne (ne_of_none e hp)]; exact sp4 _ _ e
      generalize upd H4 p o3 = G at er5 eq5 sp5
      obtain ⟨y, hy, ey⟩ := pick (xs := [V.str "none", V.non, V.int (x - 50), V.ref rx]) g0 g1
      refine ⟨ql, _, g, y, rfl, rfl, SqL.of eq5, ey, ?_⟩
      have yk : YK G y x := by
        simp only [List.mem_cons, List.not_mem_nil, or_false] at hy
        rcases hy with rfl | rfl | rfl | rfl
        · exact .inl rfl
        · exact .inr (.inl rfl)
        · exact .inr (.inr (.inl rfl))
        · exact .inr (.inr (.inr ⟨rx, rfl, er5⟩))
      clear er5 eq5 ey hy
      have S0 : Same G G := Same.refl G
      refine ⟨_, rfl, _, rfl, (by show 2 ≤ 1000; decide), mk2_ok fun a0 G0 s0 x0 => ?_⟩
      replace S0 := S0.trans s0
      refine ⟨_, rfl, (by show 1 ≤ 1000; decide), mk1_ok fun a1 G1 s1 x1 => ?_⟩
      replace x0 := x0.mono s1
      replace S0 := S0.trans s1
      refine ⟨_, rfl, (by show 1 ≤ 1000; decide), mk1_ok fun a2 G2 s2 x2 => ?_⟩
      replace x0 := x0.mono s2
      replace x1 := x1.mono s2
      replace S0 := S0.trans s2
      intro a3 ha3
      have s3 := NG.Same.upd (o := exo a3 (c 3) none) ha3
      have x3 : ExA (upd G2 a3 (exo a3 (c 3) none)) a3 (c 3) [] := .inl ⟨upd_same, rfl⟩
      generalize upd G2 a3 (exo a3 (c 3) none) = G3 at s3 x3
      replace x0 := x0.mono s3
      replace x1 := x1.mono s3
      replace x2 := x2.mono s3
      replace S0 := S0.trans s3
      refine ⟨_, rfl, (by show 1 ≤ 1000; decide), mk1_ok fun a4 G4 s4 x4 => ?_⟩
      replace x0 := x0.mono s4
      replace x1 := x1.mono s4
      replace x2 := x2.mono s4
      replace x3 := x3.mono s4
      replace S0 := S0.trans s4
      refine ⟨_, rfl, (by show 1 ≤ 1000; decide), mk1_ok fun a5 G5 s5 x5 => ?_⟩
      replace x0 := x0.mono s5
      replace x1 := x1.mono s5
      replace x2 := x2.mono s5
      replace x3 := x3.mono s5
      replace x4 := x4.mono s5
      replace S0 := S0.trans s5
      refine ⟨_, rfl, _, rfl, (by show 2 ≤ 1000; decide), mk2_ok fun a6 G6 s6 x6 => ?_⟩
      replace x0 := x0.mono s6
      replace x1 := x1.mono s6
      replace x2 := x2.mono s6
      replace x3 := x3.mono s6
      replace x4 := x4.mono s6
      replace x5 := x5.mono s6
      replace S0 := S0.trans s6
      intro a7 ha7
      have s7 := NG.Same.upd (o := exo a7 (c 7) none) ha7
      have x7 : ExA (upd G6 a7 (exo a7 (c 7) none)) a7 (c 7) [] := .inl ⟨upd_same, rfl⟩
      generalize upd G6 a7 (exo a7 (c 7) none) = G7 at s7 x7
      replace x0 := x0.mono s7
      replace x1 := x1.mono s7
      replace x2 := x2.mono s7
      replace x3 := x3.mono s7
      replace x4 := x4.mono s7
      replace x5 := x5.mono s7
      replace x6 := x6.mono s7
      replace S0 := S0.trans s7
      refine ⟨(by show 8 ≤ sizeLine; decide), fun LE0 hLE0 => ?_⟩
      have sE0 := NG.Same.upd (o := HO.lst [V.ref a0, V.ref a1, V.ref a2, V.ref a3, V.ref a4, V.ref a5, V.ref a6, V.ref a7]) hLE0
      have eE0 : (upd G7 LE0 (HO.lst [V.ref a0, V.ref a1, V.ref a2, V.ref a3, V.ref a4, V.ref a5, V.ref a6, V.ref a7])) LE0 = some (.lst [V.ref a0, V.ref a1, V.ref a2, V.ref a3, V.ref a4, V.ref a5, V.ref a6, V.ref a7]) := upd_same
      generalize upd G7 LE0 (HO.lst [V.ref a0, V.ref a1, V.ref a2, V.ref a3, V.ref a4, V.ref a5, V.ref a6, V.ref a7]) = GE0 at sE0 eE0
      replace x0 := x0.mono sE0
      replace x1 := x1.mono sE0
      replace x2 := x2.mono sE0
      replace x3 := x3.mono sE0
      replace x4 := x4.mono sE0
      replace x5 := x5.mono sE0
      replace x6 := x6.mono sE0
      replace x7 := x7.mono sE0
      replace S0 := S0.trans sE0
      refine ⟨_, rfl, _, rfl, (by show 1 ≤ 1000; decide), mk1_ok fun a8 G8 s8 x8 => ?_⟩
      replace x0 := x0.mono s8
      replace x1 := x1.mono s8
      replace x2 := x2.mono s8
      replace x3 := x3.mono s8
      replace x4 := x4.mono s8
      replace x5 := x5.mono s8
      replace x6 := x6.mono s8
      replace x7 := x7.mono s8
      replace S0 := S0.trans s8
      replace eE0 := s8 _ _ eE0
      intro a9 ha9
      have s9 := NG.Same.upd (o := exo a9 (c 9) none) ha9
      have x9 : ExA (upd G8 a9 (exo a9 (c 9) none)) a9 (c 9) [] := .inl ⟨upd_same, rfl⟩
      generalize upd G8 a9 (exo a9 (c 9) none) = G9 at s9 x9
      replace x0 := x0.mono s9
      replace x1 := x1.mono s9
      replace x2 := x2.mono s9
      replace x3 := x3.mono s9
      replace x4 := x4.mono s9
      replace x5 := x5.mono s9
      replace x6 := x6.mono s9
      replace x7 := x7.mono s9
      replace x8 := x8.mono s9
      replace S0 := S0.trans s9
      replace eE0 := s9 _ _ eE0
      intro a10 ha10
      have s10 := NG.Same.upd (o := exo a10 (c 10) none) ha10
      have x10 : ExA (upd G9 a10 (exo a10 (c 10) none)) a10 (c 10) [] := .inl ⟨upd_same, rfl⟩
      generalize upd G9 a10 (exo a10 (c 10) none) = G10 at s10 x10
      replace x0 := x0.mono s10
      replace x1 := x1.mono s10
      replace x2 := x2.mono s10
      replace x3 := x3.mono s10
      replace x4 := x4.mono s10
      replace x5 := x5.mono s10
      replace x6 := x6.mono s10
      replace x7 := x7.mono s10
      replace x8 := x8.mono s10
      replace x9 := x9.mono s10
      replace S0 := S0.trans s10
      replace eE0 := s10 _ _ eE0
      intro a11 ha11
      have s11 := NG.Same.upd (o := exo a11 (c 11) none) ha11
      have x11 : ExA (upd G10 a11 (exo a11 (c 11) none)) a11 (c 11) [] := .inl ⟨upd_same, rfl⟩
      generalize upd G10 a11 (exo a11 (c 11) none) = G11 at s11 x11
      replace x0 := x0.mono s11
      replace x1 := x1.mono s11
      replace x2 := x2.mono s11
      replace x3 := x3.mono s11
      replace x4 := x4.mono s11
      replace x5 := x5.mono s11
      replace x6 := x6.mono s11
      replace x7 := x7.mono s11
      replace x8 := x8.mono s11
      replace x9 := x9.mono s11
      replace x10 := x10.mono s11
      replace S0 := S0.trans s11
      replace eE0 := s11 _ _ eE0
      intro a12 ha12
      have s12 := NG.Same.upd (o := exo a12 (c 12) none) ha12
      have x12 : ExA (upd G11 a12 (exo a12 (c 12) none)) a12 (c 12) [] := .inl ⟨upd_same, rfl⟩
      generalize upd G11 a12 (exo a12 (c 12) none) = G12 at s12 x12
      replace x0 := x0.mono s12
      replace x1 := x1.mono s12
      replace x2 := x2.mono s12
      replace x3 := x3.mono s12
      replace x4 := x4.mono s12
      replace x5 := x5.mono s12
      replace x6 := x6.mono s12
      replace x7 := x7.mono s12
      replace x8 := x8.mono s12
      replace x9 := x9.mono s12
      replace x10 := x10.mono s12
      replace x11 := x11.mono s12
      replace S0 := S0.trans s12
      replace eE0 := s12 _ _ eE0
      refine ⟨(by show 5 ≤ sizeLine; decide), fun LE1 hLE1 => ⟨LE0, LE1, _, _, rfl, rfl, SqL.of ((NG.Same.upd hLE1) _ _ eE0), SqL.of upd_same, (by show 8 + 5 ≤ sizeLine; decide), fun LE hLE => ?_⟩⟩
      have sE := (NG.Same.upd (o := HO.lst [V.ref a8, V.ref a9, V.ref a10, V.ref a11, V.ref a12]) hLE1).trans (NG.Same.upd (o := HO.lst ([V.ref a0, V.ref a1, V.ref a2, V.ref a3, V.ref a4, V.ref a5, V.ref a6, V.ref a7] ++ [V.ref a8, V.ref a9, V.ref a10, V.ref a11, V.ref a12])) hLE)
      have eE : (upd (upd G12 LE1 (HO.lst [V.ref a8, V.ref a9, V.ref a10, V.ref a11, V.ref a12])) LE (HO.lst ([V.ref a0, V.ref a1, V.ref a2, V.ref a3, V.ref a4, V.ref a5, V.ref a6, V.ref a7] ++ [V.ref a8, V.ref a9, V.ref a10, V.ref a11, V.ref a12]))) LE = some (.lst [V.ref a0, V.ref a1, V.ref a2, V.ref a3, V.ref a4, V.ref a5, V.ref a6, V.ref a7, V.ref a8, V.ref a9, V.ref a10, V.ref a11, V.ref a12]) := upd_same
      generalize upd (upd G12 LE1 (HO.lst [V.ref a8, V.ref a9, V.ref a10, V.ref a11, V.ref a12])) LE (HO.lst ([V.ref a0, V.ref a1, V.ref a2, V.ref a3, V.ref a4, V.ref a5, V.ref a6, V.ref a7] ++ [V.ref a8, V.ref a9, V.ref a10, V.ref a11, V.ref a12])) = GE at sE eE
      replace x0 := x0.mono sE
      replace x1 := x1.mono sE
      replace x2 := x2.mono sE
      replace x3 := x3.mono sE
      replace x4 := x4.mono sE
      replace x5 := x5.mono sE
      replace x6 := x6.mono sE
      replace x7 := x7.mono sE
      replace x8 := x8.mono sE
      replace x9 := x9.mono sE
      replace x10 := x10.mono sE
      replace x11 := x11.mono sE
      replace x12 := x12.mono sE
      replace S0 := S0.trans sE
      clear eE0
      have SF : Same GE GE := Same.refl GE
      refine ⟨_, rfl, _, rfl, (by show 2 ≤ sizeLine; decide), fun f0 hf0 => ?_⟩
      have q0 := NG.Same.upd (o := HO.lst [V.int x, y]) hf0
      have z0 : (upd GE f0 (HO.lst [V.int x, y])) f0 = some (.lst [V.int x, y]) := upd_same
      generalize upd GE f0 (HO.lst [V.int x, y]) = K0 at q0 z0
      replace SF := SF.trans q0
      refine ⟨_, rfl, (by show 1 ≤ sizeLine; decide), fun f1 hf1 => ?_⟩
      have q1 := NG.Same.upd (o := HO.lst [y]) hf1
      have z1 : (upd K0 f1 (HO.lst [y])) f1 = some (.lst [y]) := upd_same
      generalize upd K0 f1 (HO.lst [y]) = K1 at q1 z1
      replace z0 := q1 _ _ z0
      replace SF := SF.trans q1
      refine ⟨_, rfl, (by show 1 ≤ sizeLine; decide), fun f2 hf2 => ?_⟩
      have q2 := NG.Same.upd (o := HO.lst [V.int x]) hf2
      have z2 : (upd K1 f2 (HO.lst [V.int x])) f2 = some (.lst [V.int x]) := upd_same
      generalize upd K1 f2 (HO.lst [V.int x]) = K2 at q2 z2
      replace z0 := q2 _ _ z0
      replace z1 := q2 _ _ z1
      replace SF := SF.trans q2
      refine ⟨Nat.zero_le _, fun f3 hf3 => ?_⟩
      have q3 := NG.Same.upd (o := HO.lst []) hf3
      have z3 : (upd K2 f3 (HO.lst [])) f3 = some (.lst []) := upd_same
      generalize upd K2 f3 (HO.lst []) = K3 at q3 z3
      replace z0 := q3 _ _ z0
      replace z1 := q3 _ _ z1
      replace z2 := q3 _ _ z2
      replace SF := SF.trans q3
      refine ⟨_, rfl, (by show 1 ≤ sizeLine; decide), fun f4 hf4 => ?_⟩
      have q4 := NG.Same.upd (o := HO.lst [y]) hf4
      have z4 : (upd K3 f4 (HO.lst [y])) f4 = some (.lst [y]) := upd_same
      generalize upd K3 f4 (HO.lst [y]) = K4 at q4 z4
      replace z0 := q4 _ _ z0
      replace z1 := q4 _ _ z1
      replace z2 := q4 _ _ z2
      replace z3 := q4 _ _ z3
      replace SF := SF.trans q4
      refine ⟨_, rfl, (by show 1 ≤ sizeLine; decide), fun f5 hf5 => ?_⟩
      have q5 := NG.Same.upd (o := HO.lst [y]) hf5
      have z5 : (upd K4 f5 (HO.lst [y])) f5 = some (.lst [y]) := upd_same
      generalize upd K4 f5 (HO.lst [y]) = K5 at q5 z5
      replace z0 := q5 _ _ z0
      replace z1 := q5 _ _ z1
      replace z2 := q5 _ _ z2
      replace z3 := q5 _ _ z3
      replace z4 := q5 _ _ z4
      replace SF := SF.trans q5
      refine ⟨_, rfl, _, rfl, (by show 2 ≤ sizeLine; decide), fun f6 hf6 => ?_⟩
      have q6 := NG.Same.upd (o := HO.lst [V.int x, y]) hf6
      have z6 : (upd K5 f6 (HO.lst [V.int x, y])) f6 = some (.lst [V.int x, y]) := upd_same
      generalize upd K5 f6 (HO.lst [V.int x, y]) = K6 at q6 z6
      replace z0 := q6 _ _ z0
      replace z1 := q6 _ _ z1
      replace z2 := q6 _ _ z2
      replace z3 := q6 _ _ z3
      replace z4 := q6 _ _ z4
      replace z5 := q6 _ _ z5
      replace SF := SF.trans q6
      refine ⟨Nat.zero_le _, fun f7 hf7 => ?_⟩
      have q7 := NG.Same.upd (o := HO.lst []) hf7
      have z7 : (upd K6 f7 (HO.lst [])) f7 = some (.lst []) := upd_same
      generalize upd K6 f7 (HO.lst []) = K7 at q7 z7
      replace z0 := q7 _ _ z0
      replace z1 := q7 _ _ z1
      replace z2 := q7 _ _ z2
      replace z3 := q7 _ _ z3
      replace z4 := q7 _ _ z4
      replace z5 := q7 _ _ z5
      replace z6 := q7 _ _ z6
      replace SF := SF.trans q7
      refine ⟨_, rfl, (by show 1 ≤ sizeLine; decide), fun f8 hf8 => ?_⟩
      have q8 := NG.Same.upd (o := HO.lst [V.int x]) hf8
      have z8 : (upd K7 f8 (HO.lst [V.int x])) f8 = some (.lst [V.int x]) := upd_same
      generalize upd K7 f8 (HO.lst [V.int x]) = K8 at q8 z8
      replace z0 := q8 _ _ z0
      replace z1 := q8 _ _ z1
      replace z2 := q8 _ _ z2
      replace z3 := q8 _ _ z3
      replace z4 := q8 _ _ z4
      replace z5 := q8 _ _ z5
      replace z6 := q8 _ _ z6
      replace z7 := q8 _ _ z7
      replace SF := SF.trans q8
      refine ⟨Nat.zero_le _, fun f9 hf9 => ?_⟩
      have q9 := NG.Same.upd (o := HO.lst []) hf9
      have z9 : (upd K8 f9 (HO.lst [])) f9 = some (.lst []) := upd_same
      generalize upd K8 f9 (HO.lst []) = K9 at q9 z9
      replace z0 := q9 _ _ z0
      replace z1 := q9 _ _ z1
      replace z2 := q9 _ _ z2
      replace z3 := q9 _ _ z3
      replace z4 := q9 _ _ z4
      replace z5 := q9 _ _ z5
      replace z6 := q9 _ _ z6
      replace z7 := q9 _ _ z7
      replace z8 := q9 _ _ z8
      replace SF := SF.trans q9
      refine ⟨Nat.zero_le _, fun f10 hf10 => ?_⟩
      have q10 := NG.Same.upd (o := HO.lst []) hf10
      have z10 : (upd K9 f10 (HO.lst [])) f10 = some (.lst []) := upd_same
      generalize upd K9 f10 (HO.lst []) = K10 at q10 z10
      replace z0 := q10 _ _ z0
      replace z1 := q10 _ _ z1
      replace z2 := q10 _ _ z2
      replace z3 := q10 _ _ z3
      replace z4 := q10 _ _ z4
      replace z5 := q10 _ _ z5
      replace z6 := q10 _ _ z6
      replace z7 := q10 _ _ z7
      replace z8 := q10 _ _ z8
      replace z9 := q10 _ _ z9
      replace SF := SF.trans q10
      refine ⟨Nat.zero_le _, fun f11 hf11 => ?_⟩
      have q11 := NG.Same.upd (o := HO.lst []) hf11
      have z11 : (upd K10 f11 (HO.lst [])) f11 = some (.lst []) := upd_same
      generalize upd K10 f11 (HO.lst []) = K11 at q11 z11
      replace z0 := q11 _ _ z0
      replace z1 := q11 _ _ z1
      replace z2 := q11 _ _ z2
      replace z3 := q11 _ _ z3
      replace z4 := q11 _ _ z4
      replace z5 := q11 _ _ z5
      replace z6 := q11 _ _ z6
      replace z7 := q11 _ _ z7
      replace z8 := q11 _ _ z8
      replace z9 := q11 _ _ z9
      replace z10 := q11 _ _ z10
      replace SF := SF.trans q11
      refine ⟨Nat.zero_le _, fun f12 hf12 => ?_⟩
      have q12 := NG.Same.upd (o := HO.lst []) hf12
      have z12 : (upd K11 f12 (HO.lst [])) f12 = some (.lst []) := upd_same
      generalize upd K11 f12 (HO.lst []) = K12 at q12 z12
      replace z0 := q12 _ _ z0
      replace z1 := q12 _ _ z1
      replace z2 := q12 _ _ z2
      replace z3 := q12 _ _ z3
      replace z4 := q12 _ _ z4
      replace z5 := q12 _ _ z5
      replace z6 := q12 _ _ z6
      replace z7 := q12 _ _ z7
      replace z8 := q12 _ _ z8
      replace z9 := q12 _ _ z9
      replace z10 := q12 _ _ z10
      replace z11 := q12 _ _ z11
      replace SF := SF.trans q12
      refine ⟨(by show 13 ≤ sizeLine; decide), fun LF hLF => ?_⟩
      have sF := NG.Same.upd (o := HO.lst [V.ref f0, V.ref f1, V.ref f2, V.ref f3, V.ref f4, V.ref f5, V.ref f6, V.ref f7, V.ref f8, V.ref f9, V.ref f10, V.ref f11, V.ref f12]) hLF
      have eF : (upd K12 LF (HO.lst [V.ref f0, V.ref f1, V.ref f2, V.ref f3, V.ref f4, V.ref f5, V.ref f6, V.ref f7, V.ref f8, V.ref f9, V.ref f10, V.ref f11, V.ref f12])) LF = some (.lst [V.ref f0, V.ref f1, V.ref f2, V.ref f3, V.ref f4, V.ref f5, V.ref f6, V.ref f7, V.ref f8, V.ref f9, V.ref f10, V.ref f11, V.ref f12]) := upd_same
      generalize upd K12 LF (HO.lst [V.ref f0, V.ref f1, V.ref f2, V.ref f3, V.ref f4, V.ref f5, V.ref f6, V.ref f7, V.ref f8, V.ref f9, V.ref f10, V.ref f11, V.ref f12]) = GF at sF eF
      refine ⟨(by show 10 ≤ sizeLine; decide), fun LW0 hLW0 => ⟨_, rfl, (by show 3 ≤ sizeLine; decide), fun LW1 hLW1 => ⟨LW0, LW1, _, _, rfl, rfl, SqL.of ((NG.Same.upd hLW1) _ _ upd_same), SqL.of upd_same, (by show 10 + 3 ≤ sizeLine; decide), fun LW hLW => ?_⟩⟩⟩
      have sW := (NG.Same.upd (o := HO.lst [V.str "notree", V.str "nonode", V.str "badtext", V.str "nopath", V.str "noowner", V.str "nodeed", V.str "norow", V.str "noweaving", V.str "large", V.str "busy"]) hLW0).trans ((NG.Same.upd (o := HO.lst [V.str "idle", V.str "forbidden", V.str "noback"]) hLW1).trans (NG.Same.upd (o := HO.lst ([V.str "notree", V.str "nonode", V.str "badtext", V.str "nopath", V.str "noowner", V.str "nodeed", V.str "norow", V.str "noweaving", V.str "large", V.str "busy"] ++ [V.str "idle", V.str "forbidden", V.str "noback"])) hLW))
      have eW : (upd (upd (upd GF LW0 (HO.lst [V.str "notree", V.str "nonode", V.str "badtext", V.str "nopath", V.str "noowner", V.str "nodeed", V.str "norow", V.str "noweaving", V.str "large", V.str "busy"])) LW1 (HO.lst [V.str "idle", V.str "forbidden", V.str "noback"])) LW (HO.lst ([V.str "notree", V.str "nonode", V.str "badtext", V.str "nopath", V.str "noowner", V.str "nodeed", V.str "norow", V.str "noweaving", V.str "large", V.str "busy"] ++ [V.str "idle", V.str "forbidden", V.str "noback"]))) LW = some (.lst (wordL.map V.str)) := upd_same
      generalize upd (upd (upd GF LW0 (HO.lst [V.str "notree", V.str "nonode", V.str "badtext", V.str "nopath", V.str "noowner", V.str "nodeed", V.str "norow", V.str "noweaving", V.str "large", V.str "busy"])) LW1 (HO.lst [V.str "idle", V.str "forbidden", V.str "noback"])) LW (HO.lst ([V.str "notree", V.str "nonode", V.str "badtext", V.str "nopath", V.str "noowner", V.str "nodeed", V.str "norow", V.str "noweaving", V.str "large", V.str "busy"] ++ [V.str "idle", V.str "forbidden", V.str "noback"])) = L at sW eW
      have sL : Same GE L := SF.trans (sF.trans sW)
      have eE2 := sL _ _ eE
      have eF2 := sW _ _ eF
      have ykL : YK L y x := (yk.mono S0).mono sL
      have sHL : Same H1 L := sp5.trans (S0.trans sL)
      replace x0 := x0.mono sL
      replace z0 := (sF.trans sW) _ _ z0
      replace x1 := x1.mono sL
      replace z1 := (sF.trans sW) _ _ z1
      replace x2 := x2.mono sL
      replace z2 := (sF.trans sW) _ _ z2
      replace x3 := x3.mono sL
      replace z3 := (sF.trans sW) _ _ z3
      replace x4 := x4.mono sL
      replace z4 := (sF.trans sW) _ _ z4
      replace x5 := x5.mono sL
      replace z5 := (sF.trans sW) _ _ z5
      replace x6 := x6.mono sL
      replace z6 := (sF.trans sW) _ _ z6
      replace x7 := x7.mono sL
      replace z7 := (sF.trans sW) _ _ z7
      replace x8 := x8.mono sL
      replace z8 := (sF.trans sW) _ _ z8
      replace x9 := x9.mono sL
      replace z9 := (sF.trans sW) _ _ z9
      replace x10 := x10.mono sL
      replace z10 := (sF.trans sW) _ _ z10
      replace x11 := x11.mono sL
      replace z11 := (sF.trans sW) _ _ z11
      replace x12 := x12.mono sL
      replace z12 := (sF.trans sW) _ _ z12
      have row : ∀ i, i < 13 → Row K c L [V.ref a0, V.ref a1, V.ref a2, V.ref a3, V.ref a4, V.ref a5, V.ref a6, V.ref a7, V.ref a8, V.ref a9, V.ref a10, V.ref a11, V.ref a12] [V.ref f0, V.ref f1, V.ref f2, V.ref f3, V.ref f4, V.ref f5, V.ref f6, V.ref f7, V.ref f8, V.ref f9, V.ref f10, V.ref f11, V.ref f12] i := fun i hi => by
        match i, hi with
        | 0, _ => exact ⟨a0, _, [V.int x, y], f0, rfl, x0, (by show [List.lookup ("why" : Str) _, List.lookup ("node" : Str) _] = _; rw [lk_ne (by decide +kernel), lk_eq, lk_eq]; rfl), (by rw [lk_ne (by decide +kernel), lk_ne (by decide +kernel)]; rfl), rfl, z0, fun H' s' => let ⟨dy, sdy⟩ := (ykL.mono s').sd (K := K); ld2 sd_int sdy⟩
        | 1, _ => exact ⟨a1, _, [y], f1, rfl, x1, (by show [List.lookup ("node" : Str) _] = _; rw [lk_eq]; rfl), (by rw [lk_ne (by decide +kernel)]; rfl), rfl, z1, fun H' s' => let ⟨dy, sdy⟩ := (ykL.mono s').sd (K := K); ld1 sdy⟩
        | 2, _ => exact ⟨a2, _, [V.int x], f2, rfl, x2, (by show [List.lookup ("place" : Str) _] = _; rw [lk_eq]; rfl), (by rw [lk_ne (by decide +kernel)]; rfl), rfl, z2, fun _ _ => ld1 sd_int⟩
        | 3, _ => exact ⟨a3, _, [], f3, rfl, x3, rfl, rfl, rfl, z3, fun _ _ => ld0⟩
        | 4, _ => exact ⟨a4, _, [y], f4, rfl, x4, (by show [List.lookup ("owner" : Str) _] = _; rw [lk_eq]; rfl), (by rw [lk_ne (by decide +kernel)]; rfl), rfl, z4, fun H' s' => let ⟨dy, sdy⟩ := (ykL.mono s').sd (K := K); ld1 sdy⟩
        | 5, _ => exact ⟨a5, _, [y], f5, rfl, x5, (by show [List.lookup ("why" : Str) _] = _; rw [lk_eq]; rfl), (by rw [lk_ne (by decide +kernel)]; rfl), rfl, z5, fun H' s' => let ⟨dy, sdy⟩ := (ykL.mono s').sd (K := K); ld1 sdy⟩
        | 6, _ => exact ⟨a6, _, [V.int x, y], f6, rfl, x6, (by show [List.lookup ("index" : Str) _, List.lookup ("why" : Str) _] = _; rw [lk_ne (by decide +kernel), lk_eq, lk_eq]; rfl), (by rw [lk_ne (by decide +kernel), lk_ne (by decide +kernel)]; rfl), rfl, z6, fun H' s' => let ⟨dy, sdy⟩ := (ykL.mono s').sd (K := K); ld2 sd_int sdy⟩
        | 7, _ => exact ⟨a7, _, [], f7, rfl, x7, rfl, rfl, rfl, z7, fun _ _ => ld0⟩
        | 8, _ => exact ⟨a8, _, [V.int x], f8, rfl, x8, (by show [List.lookup ("count" : Str) _] = _; rw [lk_eq]; rfl), (by rw [lk_ne (by decide +kernel)]; rfl), rfl, z8, fun _ _ => ld1 sd_int⟩
        | 9, _ => exact ⟨a9, _, [], f9, rfl, x9, rfl, rfl, rfl, z9, fun _ _ => ld0⟩
        | 10, _ => exact ⟨a10, _, [], f10, rfl, x10, rfl, rfl, rfl, z10, fun _ _ => ld0⟩
        | 11, _ => exact ⟨a11, _, [], f11, rfl, x11, rfl, rfl, rfl, z11, fun _ _ => ld0⟩
        | 12, _ => exact ⟨a12, _, [], f12, rfl, x12, rfl, rfl, rfl, z12, fun _ _ => ld0⟩
        | i + 13, h => exact absurd h (by omega)
      generalize hES : [V.ref a0, V.ref a1, V.ref a2, V.ref a3, V.ref a4, V.ref a5, V.ref a6, V.ref a7, V.ref a8, V.ref a9, V.ref a10, V.ref a11, V.ref a12] = ES at row eE2
      generalize hFS : [V.ref f0, V.ref f1, V.ref f2, V.ref f3, V.ref f4, V.ref f5, V.ref f6, V.ref f7, V.ref f8, V.ref f9, V.ref f10, V.ref f11, V.ref f12] = FS at row eF2
      have lES : ES.length = 13 := by rw [← hES]; rfl
      have fin : ∀ {A B : Prop}, B → if (!true) = true then A else B := fun h => iteF h
      refine ⟨_, rfl, LE, _, rfl, SqL.of eE2, for_it (walk_enum (K := K) (a := LE) (xs := ES)) (fun i σ H' => (∃ v8 v9 v10 : Option V, σ = [some (.ref a), some (.int n), some (.ref p), some (.int x), some y, some (.ref LE), some (.ref LF), some (.ref LW), v8, v9, v10]) ∧ Same L H')
        ⟨⟨_, _, _, rfl⟩, Same.refl _⟩ (fun i σ H' _ h => SqL.of (h.2 _ _ eE2)) ?_ ?_⟩
      · rintro i xi σ M M' hi ⟨⟨v8, v9, v10, rfl⟩, sM⟩ ⟨Tq, ki, e, rfl, hTq, rfl, h1, h2⟩
        rw [lES] at hi
        cases Option.some.inj h1
        obtain ⟨ae, fs, l, fe, r1, r2, r3, r4, r5, r6, r7⟩ := row i hi
        cases Option.some.inj (r1.symm.trans h2)
        have sT := sM.trans (NG.Same.upd (o := HO.tup [V.int (i : Nat), V.ref ae]) hTq)
        have eT : (upd M Tq (HO.tup [V.int (i : Nat), V.ref ae])) Tq = some (.tup [V.int (i : Nat), V.ref ae]) := upd_same
        generalize upd M Tq (HO.tup [V.int (i : Nat), V.ref ae]) = M1 at sT eT
        refine ⟨Tq, _, rfl, SqT.of eT, rfl, ?_⟩
        have ea1 := r2.mono sT
        refine ⟨_, _, rfl, _, _, rfl, rfl, ?_⟩
        -- told
        refine ⟨_, rfl, ae, c i, fs, rfl, ⟨i, hi, rfl⟩, ea1, r4, ae, rfl, fun j hj ej => ?_⟩
        have eij := TC.inj hi hj ej
        subst eij
        refine ⟨_, rfl, _, rfl, LW, _, _, _, rfl, rfl, SqL.of (sT _ _ eW), word_at i hi, _, _, rfl, rfl, word_len i hi, rfl, _, rfl, ?_⟩
        have et : (!decide (V.str (told i) = V.str (("refused " : Str) ++ word i))) = false := by
          show (!decide (V.str (told i) = V.str (told i))) = false
          simp
        rw [et]
        refine iteF ?_
        -- fields
        refine ⟨_, rfl, ae, i, fs, l, rfl, hi, ea1, r3, fun pl hpl => ?_⟩
        have s2 := sT.trans (NG.Same.upd (o := HO.lst l) hpl)
        have epl : (upd M1 pl (HO.lst l)) pl = some (.lst l) := upd_same
        have ea2 := ea1.mono (NG.Same.upd (o := HO.lst l) hpl)
        generalize upd M1 pl (HO.lst l) = M2 at s2 epl ea2
        obtain ⟨ds, dl2, shd, eqd⟩ := r7 _ s2
        refine ⟨_, rfl, _, rfl, LF, _, _, _, rfl, rfl, SqL.of (s2 _ _ eF2), atI_nat r5, _, _, .lst (SqL.of epl) dl2, .lst (SqL.of (s2 _ _ r6)) dl2, shd, shd, _, rfl, ?_⟩
        rw [eqd]
        refine fin ?_
        -- WalkError, ValueError
        refine ⟨_, rfl, ae, c i, fs, _, _, true, rfl, TC.xc i hi, ea2, ref_eq, TC.kitW i hi, _, rfl, fin ?_⟩
        refine ⟨_, rfl, ae, c i, fs, _, _, true, rfl, TC.xc i hi, ea2, fun u r => r, TC.kitV i hi, _, rfl, fin ?_⟩
        -- classes
        refine ⟨_, rfl, ae, i, fs, rfl, hi, ea2, fun pc M3 s3 ec3 => ?_⟩
        have s4 := s2.trans s3
        have eE3 := s4 _ _ eE2
        refine ⟨_, rfl, LE, _, rfl, .inl (SqL.of eE3), _, rfl, by rw [lES]; decide, by rw [lES]; decide, fun D hD => ?_⟩
        have n13 : (((ES.length : Nat) : Int)).toNat = 13 := by rw [lES]; rfl
        refine lc_range (n := (((ES.length : Nat) : Int)).toNat) (lo := 0) (fun m Hm => Hm = upd M3 D (.lst ((List.range m).map fun j => V.bl (decide (i = j))))) rfl (fun j Hj hj ej => ?_) (fun Hd ed => ?_)
        · subst ej
          rw [n13] at hj
          have ed : decide (V.int (0 + (j : Int)) = V.int ((i : Nat) : Int)) = decide (i = j) := by
            by_cases h : i = j
            · subst h
              simp
            · rw [decide_eq_false h, decide_eq_false]
              intro q
              injection q with q
              omega
          refine ⟨rfl, _, rfl, _, rfl, rfl, _, upd_same, by rw [List.length_map, List.length_range]; omega, ?_⟩
          show upd (upd M3 D _) D (.lst (_ ++ [V.bl (decide (V.int (0 + (j : Int)) = V.int ((i : Nat) : Int)))])) = _
          rw [upd_upd, List.range_succ, List.map_append, ed]
          rfl
        · subst ed
          rw [n13]
          have sD := NG.Same.upd (o := HO.lst ((List.range 13).map fun j => V.bl (decide (i = j)))) hD
          have eD : (upd M3 D (HO.lst ((List.range 13).map fun j => V.bl (decide (i = j))))) D = some (.lst ((bools i).map V.bl)) := upd_same
          have ec5 : (upd M3 D (HO.lst ((List.range 13).map fun j => V.bl (decide (i = j))))) pc = some (.lst ((bools i).map V.bl)) := sD _ _ ec3
          generalize upd M3 D (HO.lst ((List.range 13).map fun j => V.bl (decide (i = j)))) = M5 at sD eD ec5
          refine ⟨_, _, .lst (SqL.of ec5) (dp_bools (bools i)), .lst (SqL.of eD) (dp_bools (bools i)), (sh_bools i hi).1, (sh_bools i hi).1, _, rfl, ?_⟩
          rw [(sh_bools i hi).2]
          refine fin ?_
          exact ⟨⟨_, _, _, rfl⟩, s4.trans sD⟩
      · rintro σ M ⟨⟨v8, v9, v10, rfl⟩, sM⟩
        exact ⟨⟨_, _, _, _, _, _, _, _, _, _, rfl⟩, sH1.trans (sHL.trans sM)⟩
    · rintro σ H1 ⟨⟨v1, v2, v3, v4, v5, v6, v7, v8, v9, v10, rfl⟩, s1⟩
      exact k _
end
end NW

set_option maxRecDepth 100000
set_option maxHeartbeats 8000000
namespace NW
open PySem L2 NG
section
variable {K : PySem.W.Frag} {C D : Addr}
theorem kit_self : PySem.W.kitOne K (.ref C) (.ref C) = some true := by unfold PySem.W.kitOne; rw [if_pos (by simp)]
theorem kit_cls (hh : PySem.W.hasDictIn K C = true) (ht : PySem.W.typeIn K (.ref C) = some (.type "type")) {t : Value} {b : Bool} (hs : PySem.W.subIn K t (.ref C) = some b) : PySem.W.kitCls K t (.ref C) = some b := by
  have hc : (PySem.W.clsIn K C).isSome = true := by
    obtain ⟨cd, hc, _⟩ := PySem.W.any_some hh
    rw [hc]
    rfl
  show (if ((PySem.W.clsIn K C).isSome && PySem.W.typeIn K (.ref C) == some (.type "type")) = true then PySem.W.subIn K t (.ref C) else none) = some b
  rw [hc, ht, hs]
  rfl
theorem kit_own (hh : PySem.W.hasDictIn K C = true) (ht : PySem.W.typeIn K (.ref C) = some (.type "type")) (hs : PySem.W.subIn K (.ref D) (.ref C) = some false) (h2 : PySem.W.subIn K (.ref C) (.ref C) = some true) : PySem.W.kitOne K (.ref D) (.ref C) = some false := by
  unfold PySem.W.kitOne
  have hn : ((Value.ref D) == (Value.ref C)) = false := by
    rw [Bool.eq_false_iff]
    intro q
    have e : D = C := Value.ref.inj (beq_iff_eq.mp q)
    rw [e, h2] at hs
    cases hs
  rw [hn]
  exact kit_cls hh ht hs
theorem kit_true (hh : PySem.W.hasDictIn K C = true) (ht : PySem.W.typeIn K (.ref C) = some (.type "type")) (hs : PySem.W.subIn K (.ref D) (.ref C) = some true) : PySem.W.kitOne K (.ref D) (.ref C) = some true := by
  unfold PySem.W.kitOne
  split
  · rfl
  · exact kit_cls hh ht hs
theorem kit_type {T : String} (hm : PySem.W.kitMeta T = true) (hs : PySem.W.subIn K (.ref D) (.type T) = some true) : PySem.W.kitOne K (.ref D) (.type T) = some true := by
  unfold PySem.W.kitOne
  split
  · rfl
  · show (if PySem.W.kitMeta T = true then PySem.W.subIn K (.ref D) (.type T) else none) = some true
    rw [if_pos hm]
    exact hs
end
/-! ### the end: what the top has written, and the head -/
theorem all_mk {l : PySem.W.OpenLaw} {w : World} {K : PySem.W.Frag} {h : Heap} {mg : Str → Option Value} {fa C0 C1 C2 C3 C4 C5 C6 C7 C8 C9 C10 C11 C12 CW T0 T1 T2 T3 T4 T5 T6 T7 T8 T9 T10 T11 T12 I0 I1 I2 I4 I5 I6 I8 fState fDigit fFields fClasses fLaw : Addr} (X : K.In h) (G : h.Ns mainGlobals mg) (hfa : mg "law" = some (.ref fa)) {nm_0 q_0 nm_1 q_1 nm_2 q_2 nm_4 q_4 nm_5 q_5 nm_6 q_6 nm_8 q_8 : Str} {N_0 N_1 N_2 N_4 N_5 N_6 N_8 : Addr} {bs_0 bm_0 sub_0 bs_1 bm_1 sub_1 bs_2 bm_2 sub_2 bs_4 bm_4 sub_4 bs_5 bm_5 sub_5 bs_6 bm_6 sub_6 bs_8 bm_8 sub_8 : List Value} {sn_0 sn_1 sn_2 sn_4 sn_5 sn_6 sn_8 : List Str} {ab_0 ab_1 ab_2 ab_4 ab_5 ab_6 ab_8 : Bool} {col_0 col_1 col_2 col_4 col_5 col_6 col_8 : Option Bool} {dd_0 dd_1 dd_2 dd_4 dd_5 dd_6 dd_8 od_T0 an_T0 od_T1 an_T1 od_T2 an_T2 od_T3 an_T3 od_T4 an_T4 od_T5 an_T5 od_T6 an_T6 od_T7 an_T7 od_T8 an_T8 od_T9 an_T9 od_T10 an_T10 od_T11 an_T11 od_T12 an_T12 od_I0 an_I0 od_I1 an_I1 od_I2 an_I2 od_I4 an_I4 od_I5 an_I5 od_I6 an_I6 od_I8 an_I8 od_fState an_fState od_fDigit an_fDigit od_fFields an_fFields od_fClasses an_fClasses od_fLaw an_fLaw : Option Addr} {m0_0 m1_0 m2_0 m3_0 m5_0 m0_1 m1_1 m2_1 m3_1 m5_1 m0_2 m1_2 m2_2 m3_2 m5_2 m0_4 m1_4 m2_4 m3_4 m5_4 m0_5 m1_5 m2_5 m3_5 m5_5 m0_6 m1_6 m2_6 m3_6 m5_6 m0_8 m1_8 m2_8 m3_8 m5_8 : Option Value} {sl_T0 sl_T1 sl_T2 sl_T3 sl_T4 sl_T5 sl_T6 sl_T7 sl_T8 sl_T9 sl_T10 sl_T11 sl_T12 sl_I0 sl_I1 sl_I2 sl_I4 sl_I5 sl_I6 sl_I8 sl_fState sl_fDigit sl_fFields sl_fClasses sl_fLaw : Array (Option Value)} {oc_T0 kV_T0 dc_T0 pm_T0 cd_T0 ct_T0 oc_T1 kV_T1 dc_T1 pm_T1 cd_T1 ct_T1 oc_T2 kV_T2 dc_T2 pm_T2 cd_T2 ct_T2 oc_T3 kV_T3 dc_T3 pm_T3 cd_T3 ct_T3 oc_T4 kV_T4 dc_T4 pm_T4 cd_T4 ct_T4 oc_T5 kV_T5 dc_T5 pm_T5 cd_T5 ct_T5 oc_T6 kV_T6 dc_T6 pm_T6 cd_T6 ct_T6 oc_T7 kV_T7 dc_T7 pm_T7 cd_T7 ct_T7 oc_T8 kV_T8 dc_T8 pm_T8 cd_T8 ct_T8 oc_T9 kV_T9 dc_T9 pm_T9 cd_T9 ct_T9 oc_T10 kV_T10 dc_T10 pm_T10 cd_T10 ct_T10 oc_T11 kV_T11 dc_T11 pm_T11 cd_T11 ct_T11 oc_T12 kV_T12 dc_T12 pm_T12 cd_T12 ct_T12 oc_I0 kV_I0 dc_I0 pm_I0 cd_I0 ct_I0 oc_I1 kV_I1 dc_I1 pm_I1 cd_I1 ct_I1 oc_I2 kV_I2 dc_I2 pm_I2 cd_I2 ct_I2 oc_I4 kV_I4 dc_I4 pm_I4 cd_I4 ct_I4 oc_I5 kV_I5 dc_I5 pm_I5 cd_I5 ct_I5 oc_I6 kV_I6 dc_I6 pm_I6 cd_I6 ct_I6 oc_I8 kV_I8 dc_I8 pm_I8 cd_I8 ct_I8 oc_fState kV_fState dc_fState pm_fState cd_fState ct_fState oc_fDigit kV_fDigit dc_fDigit pm_fDigit cd_fDigit ct_fDigit oc_fFields kV_fFields dc_fFields pm_fFields cd_fFields ct_fFields oc_fClasses kV_fClasses dc_fClasses pm_fClasses cd_fClasses ct_fClasses oc_fLaw kV_fLaw dc_fLaw pm_fLaw cd_fLaw ct_fLaw : Value}
    (a_C0 : PySem.W.nsIn K mainGlobals "NoTree" = some (some (.ref C0)))
    (k_C0 : PySem.W.keepIn K (.ref C0) = true)
    (a_C1 : PySem.W.nsIn K mainGlobals "NoNode" = some (some (.ref C1)))
    (k_C1 : PySem.W.keepIn K (.ref C1) = true)
    (a_C2 : PySem.W.nsIn K mainGlobals "BadText" = some (some (.ref C2)))
    (k_C2 : PySem.W.keepIn K (.ref C2) = true)
    (a_C3 : PySem.W.nsIn K mainGlobals "NoPath" = some (some (.ref C3)))
    (k_C3 : PySem.W.keepIn K (.ref C3) = true)
    (a_C4 : PySem.W.nsIn K mainGlobals "NoOwner" = some (some (.ref C4)))
    (k_C4 : PySem.W.keepIn K (.ref C4) = true)
    (a_C5 : PySem.W.nsIn K mainGlobals "NoDeed" = some (some (.ref C5)))
    (k_C5 : PySem.W.keepIn K (.ref C5) = true)
    (a_C6 : PySem.W.nsIn K mainGlobals "NoRow" = some (some (.ref C6)))
    (k_C6 : PySem.W.keepIn K (.ref C6) = true)
    (a_C7 : PySem.W.nsIn K mainGlobals "NoWeaving" = some (some (.ref C7)))
    (k_C7 : PySem.W.keepIn K (.ref C7) = true)
    (a_C8 : PySem.W.nsIn K mainGlobals "Large" = some (some (.ref C8)))
    (k_C8 : PySem.W.keepIn K (.ref C8) = true)
    (a_C9 : PySem.W.nsIn K mainGlobals "Busy" = some (some (.ref C9)))
    (k_C9 : PySem.W.keepIn K (.ref C9) = true)
    (a_C10 : PySem.W.nsIn K mainGlobals "Idle" = some (some (.ref C10)))
    (k_C10 : PySem.W.keepIn K (.ref C10) = true)
    (a_C11 : PySem.W.nsIn K mainGlobals "Forbidden" = some (some (.ref C11)))
    (k_C11 : PySem.W.keepIn K (.ref C11) = true)
    (a_C12 : PySem.W.nsIn K mainGlobals "NoBack" = some (some (.ref C12)))
    (k_C12 : PySem.W.keepIn K (.ref C12) = true)
    (a_CW : PySem.W.nsIn K mainGlobals "WalkError" = some (some (.ref CW)))
    (k_CW : PySem.W.keepIn K (.ref CW) = true)
    (c2 : PySem.W.specialIn K (.builtin "object.__class__") "__get__" = some (some (.builtin "getset_descriptor.__get__")))
    (c3 : PySem.W.takesIn K (.builtin "object.__class__") = some true)
    (ga0 : PySem.W.findIn K (.ref C0) "__getattribute__" = some (some (.builtin "BaseException.__getattribute__")))
    (gg0 : PySem.W.findIn K (.ref C0) "__getattr__" = some none)
    (ex0 : PySem.W.subIn K (.ref C0) (.type "BaseException") = some true)
    (hd0 : PySem.W.hasDictIn K C0 = true)
    (ha0 : PySem.W.findIn K (.ref C0) "__class__" = some (some (.builtin "object.__class__")))
    (hm0 : PySem.W.mroIn K C0 (.type "object") = some true)
    (ty0 : PySem.W.typeIn K (.ref C0) = some (.type "type"))
    (sv0 : PySem.W.subIn K (.ref C0) (.type "ValueError") = some true)
    (sw0 : PySem.W.subIn K (.ref C0) (.ref CW) = some true)
    (s0_0 : PySem.W.subIn K (.ref C0) (.ref C0) = some true)
    (s0_1 : PySem.W.subIn K (.ref C0) (.ref C1) = some false)
    (s0_2 : PySem.W.subIn K (.ref C0) (.ref C2) = some false)
    (s0_3 : PySem.W.subIn K (.ref C0) (.ref C3) = some false)
    (s0_4 : PySem.W.subIn K (.ref C0) (.ref C4) = some false)
    (s0_5 : PySem.W.subIn K (.ref C0) (.ref C5) = some false)
    (s0_6 : PySem.W.subIn K (.ref C0) (.ref C6) = some false)
    (s0_7 : PySem.W.subIn K (.ref C0) (.ref C7) = some false)
    (s0_8 : PySem.W.subIn K (.ref C0) (.ref C8) = some false)
    (s0_9 : PySem.W.subIn K (.ref C0) (.ref C9) = some false)
    (s0_10 : PySem.W.subIn K (.ref C0) (.ref C10) = some false)
    (s0_11 : PySem.W.subIn K (.ref C0) (.ref C11) = some false)
    (s0_12 : PySem.W.subIn K (.ref C0) (.ref C12) = some false)
    (ga1 : PySem.W.findIn K (.ref C1) "__getattribute__" = some (some (.builtin "BaseException.__getattribute__")))
    (gg1 : PySem.W.findIn K (.ref C1) "__getattr__" = some none)
    (ex1 : PySem.W.subIn K (.ref C1) (.type "BaseException") = some true)
    (hd1 : PySem.W.hasDictIn K C1 = true)
    (ha1 : PySem.W.findIn K (.ref C1) "__class__" = some (some (.builtin "object.__class__")))
    (hm1 : PySem.W.mroIn K C1 (.type "object") = some true)
    (ty1 : PySem.W.typeIn K (.ref C1) = some (.type "type"))
    (sv1 : PySem.W.subIn K (.ref C1) (.type "ValueError") = some true)
    (sw1 : PySem.W.subIn K (.ref C1) (.ref CW) = some true)
    (s1_0 : PySem.W.subIn K (.ref C1) (.ref C0) = some false)
    (s1_1 : PySem.W.subIn K (.ref C1) (.ref C1) = some true)
    (s1_2 : PySem.W.subIn K (.ref C1) (.ref C2) = some false)
    (s1_3 : PySem.W.subIn K (.ref C1) (.ref C3) = some false)
    (s1_4 : PySem.W.subIn K (.ref C1) (.ref C4) = some false)
    (s1_5 : PySem.W.subIn K (.ref C1) (.ref C5) = some false)
    (s1_6 : PySem.W.subIn K (.ref C1) (.ref C6) = some false)
    (s1_7 : PySem.W.subIn K (.ref C1) (.ref C7) = some false)
    (s1_8 : PySem.W.subIn K (.ref C1) (.ref C8) = some false)
    (s1_9 : PySem.W.subIn K (.ref C1) (.ref C9) = some false)
    (s1_10 : PySem.W.subIn K (.ref C1) (.ref C10) = some false)
    (s1_11 : PySem.W.subIn K (.ref C1) (.ref C11) = some false)
    (s1_12 : PySem.W.subIn K (.ref C1) (.ref C12) = some false)
    (ga2 : PySem.W.findIn K (.ref C2) "__getattribute__" = some (some (.builtin "BaseException.__getattribute__")))
    (gg2 : PySem.W.findIn K (.ref C2) "__getattr__" = some none)
    (ex2 : PySem.W.subIn K (.ref C2) (.type "BaseException") = some true)
    (hd2 : PySem.W.hasDictIn K C2 = true)
    (ha2 : PySem.W.findIn K (.ref C2) "__class__" = some (some (.builtin "object.__class__")))
    (hm2 : PySem.W.mroIn K C2 (.type "object") = some true)
    (ty2 : PySem.W.typeIn K (.ref C2) = some (.type "type"))
    (sv2 : PySem.W.subIn K (.ref C2) (.type "ValueError") = some true)
    (sw2 : PySem.W.subIn K (.ref C2) (.ref CW) = some true)
    (s2_0 : PySem.W.subIn K (.ref C2) (.ref C0) = some false)
    (s2_1 : PySem.W.subIn K (.ref C2) (.ref C1) = some false)
    (s2_2 : PySem.W.subIn K (.ref C2) (.ref C2) = some true)
    (s2_3 : PySem.W.subIn K (.ref C2) (.ref C3) = some false)
    (s2_4 : PySem.W.subIn K (.ref C2) (.ref C4) = some false)
    (s2_5 : PySem.W.subIn K (.ref C2) (.ref C5) = some false)
    (s2_6 : PySem.W.subIn K (.ref C2) (.ref C6) = some false)
    (s2_7 : PySem.W.subIn K (.ref C2) (.ref C7) = some false)
    (s2_8 : PySem.W.subIn K (.ref C2) (.ref C8) = some false)
    (s2_9 : PySem.W.subIn K (.ref C2) (.ref C9) = some false)
    (s2_10 : PySem.W.subIn K (.ref C2) (.ref C10) = some false)
    (s2_11 : PySem.W.subIn K (.ref C2) (.ref C11) = some false)
    (s2_12 : PySem.W.subIn K (.ref C2) (.ref C12) = some false)
    (ga3 : PySem.W.findIn K (.ref C3) "__getattribute__" = some (some (.builtin "BaseException.__getattribute__")))
    (gg3 : PySem.W.findIn K (.ref C3) "__getattr__" = some none)
    (ex3 : PySem.W.subIn K (.ref C3) (.type "BaseException") = some true)
    (hd3 : PySem.W.hasDictIn K C3 = true)
    (ha3 : PySem.W.findIn K (.ref C3) "__class__" = some (some (.builtin "object.__class__")))
    (hm3 : PySem.W.mroIn K C3 (.type "object") = some true)
    (ty3 : PySem.W.typeIn K (.ref C3) = some (.type "type"))
    (sv3 : PySem.W.subIn K (.ref C3) (.type "ValueError") = some true)
    (sw3 : PySem.W.subIn K (.ref C3) (.ref CW) = some true)
    (s3_0 : PySem.W.subIn K (.ref C3) (.ref C0) = some false)
    (s3_1 : PySem.W.subIn K (.ref C3) (.ref C1) = some false)
    (s3_2 : PySem.W.subIn K (.ref C3) (.ref C2) = some false)
    (s3_3 : PySem.W.subIn K (.ref C3) (.ref C3) = some true)
    (s3_4 : PySem.W.subIn K (.ref C3) (.ref C4) = some false)
    (s3_5 : PySem.W.subIn K (.ref C3) (.ref C5) = some false)
    (s3_6 : PySem.W.subIn K (.ref C3) (.ref C6) = some false)
    (s3_7 : PySem.W.subIn K (.ref C3) (.ref C7) = some false)
    (s3_8 : PySem.W.subIn K (.ref C3) (.ref C8) = some false)
    (s3_9 : PySem.W.subIn K (.ref C3) (.ref C9) = some false)
    (s3_10 : PySem.W.subIn K (.ref C3) (.ref C10) = some false)
    (s3_11 : PySem.W.subIn K (.ref C3) (.ref C11) = some false)
    (s3_12 : PySem.W.subIn K (.ref C3) (.ref C12) = some false)
    (ga4 : PySem.W.findIn K (.ref C4) "__getattribute__" = some (some (.builtin "BaseException.__getattribute__")))
    (gg4 : PySem.W.findIn K (.ref C4) "__getattr__" = some none)
    (ex4 : PySem.W.subIn K (.ref C4) (.type "BaseException") = some true)
    (hd4 : PySem.W.hasDictIn K C4 = true)
    (ha4 : PySem.W.findIn K (.ref C4) "__class__" = some (some (.builtin "object.__class__")))
    (hm4 : PySem.W.mroIn K C4 (.type "object") = some true)
    (ty4 : PySem.W.typeIn K (.ref C4) = some (.type "type"))
    (sv4 : PySem.W.subIn K (.ref C4) (.type "ValueError") = some true)
    (sw4 : PySem.W.subIn K (.ref C4) (.ref CW) = some true)
    (s4_0 : PySem.W.subIn K (.ref C4) (.ref C0) = some false)
    (s4_1 : PySem.W.subIn K (.ref C4) (.ref C1) = some false)
    (s4_2 : PySem.W.subIn K (.ref C4) (.ref C2) = some false)
    (s4_3 : PySem.W.subIn K (.ref C4) (.ref C3) = some false)
    (s4_4 : PySem.W.subIn K (.ref C4) (.ref C4) = some true)
    (s4_5 : PySem.W.subIn K (.ref C4) (.ref C5) = some false)
    (s4_6 : PySem.W.subIn K (.ref C4) (.ref C6) = some false)
    (s4_7 : PySem.W.subIn K (.ref C4) (.ref C7) = some false)
    (s4_8 : PySem.W.subIn K (.ref C4) (.ref C8) = some false)
    (s4_9 : PySem.W.subIn K (.ref C4) (.ref C9) = some false)
    (s4_10 : PySem.W.subIn K (.ref C4) (.ref C10) = some false)
    (s4_11 : PySem.W.subIn K (.ref C4) (.ref C11) = some false)
    (s4_12 : PySem.W.subIn K (.ref C4) (.ref C12) = some false)
    (ga5 : PySem.W.findIn K (.ref C5) "__getattribute__" = some (some (.builtin "BaseException.__getattribute__")))
    (gg5 : PySem.W.findIn K (.ref C5) "__getattr__" = some none)
    (ex5 : PySem.W.subIn K (.ref C5) (.type "BaseException") = some true)
    (hd5 : PySem.W.hasDictIn K C5 = true)
    (ha5 : PySem.W.findIn K (.ref C5) "__class__" = some (some (.builtin "object.__class__")))
    (hm5 : PySem.W.mroIn K C5 (.type "object") = some true)
    (ty5 : PySem.W.typeIn K (.ref C5) = some (.type "type"))
    (sv5 : PySem.W.subIn K (.ref C5) (.type "ValueError") = some true)
    (sw5 : PySem.W.subIn K (.ref C5) (.ref CW) = some true)
    (s5_0 : PySem.W.subIn K (.ref C5) (.ref C0) = some false)
    (s5_1 : PySem.W.subIn K (.ref C5) (.ref C1) = some false)
    (s5_2 : PySem.W.subIn K (.ref C5) (.ref C2) = some false)
    (s5_3 : PySem.W.subIn K (.ref C5) (.ref C3) = some false)
    (s5_4 : PySem.W.subIn K (.ref C5) (.ref C4) = some false)
    (s5_5 : PySem.W.subIn K (.ref C5) (.ref C5) = some true)
    (s5_6 : PySem.W.subIn K (.ref C5) (.ref C6) = some false)
    (s5_7 : PySem.W.subIn K (.ref C5) (.ref C7) = some false)
    (s5_8 : PySem.W.subIn K (.ref C5) (.ref C8) = some false)
    (s5_9 : PySem.W.subIn K (.ref C5) (.ref C9) = some false)
    (s5_10 : PySem.W.subIn K (.ref C5) (.ref C10) = some false)
    (s5_11 : PySem.W.subIn K (.ref C5) (.ref C11) = some false)
    (s5_12 : PySem.W.subIn K (.ref C5) (.ref C12) = some false)
    (ga6 : PySem.W.findIn K (.ref C6) "__getattribute__" = some (some (.builtin "BaseException.__getattribute__")))
    (gg6 : PySem.W.findIn K (.ref C6) "__getattr__" = some none)
    (ex6 : PySem.W.subIn K (.ref C6) (.type "BaseException") = some true)
    (hd6 : PySem.W.hasDictIn K C6 = true)
    (ha6 : PySem.W.findIn K (.ref C6) "__class__" = some (some (.builtin "object.__class__")))
    (hm6 : PySem.W.mroIn K C6 (.type "object") = some true)
    (ty6 : PySem.W.typeIn K (.ref C6) = some (.type "type"))
    (sv6 : PySem.W.subIn K (.ref C6) (.type "ValueError") = some true)
    (sw6 : PySem.W.subIn K (.ref C6) (.ref CW) = some true)
    (s6_0 : PySem.W.subIn K (.ref C6) (.ref C0) = some false)
    (s6_1 : PySem.W.subIn K (.ref C6) (.ref C1) = some false)
    (s6_2 : PySem.W.subIn K (.ref C6) (.ref C2) = some false)
    (s6_3 : PySem.W.subIn K (.ref C6) (.ref C3) = some false)
    (s6_4 : PySem.W.subIn K (.ref C6) (.ref C4) = some false)
    (s6_5 : PySem.W.subIn K (.ref C6) (.ref C5) = some false)
    (s6_6 : PySem.W.subIn K (.ref C6) (.ref C6) = some true)
    (s6_7 : PySem.W.subIn K (.ref C6) (.ref C7) = some false)
    (s6_8 : PySem.W.subIn K (.ref C6) (.ref C8) = some false)
    (s6_9 : PySem.W.subIn K (.ref C6) (.ref C9) = some false)
    (s6_10 : PySem.W.subIn K (.ref C6) (.ref C10) = some false)
    (s6_11 : PySem.W.subIn K (.ref C6) (.ref C11) = some false)
    (s6_12 : PySem.W.subIn K (.ref C6) (.ref C12) = some false)
    (ga7 : PySem.W.findIn K (.ref C7) "__getattribute__" = some (some (.builtin "BaseException.__getattribute__")))
    (gg7 : PySem.W.findIn K (.ref C7) "__getattr__" = some none)
    (ex7 : PySem.W.subIn K (.ref C7) (.type "BaseException") = some true)
    (hd7 : PySem.W.hasDictIn K C7 = true)
    (ha7 : PySem.W.findIn K (.ref C7) "__class__" = some (some (.builtin "object.__class__")))
    (hm7 : PySem.W.mroIn K C7 (.type "object") = some true)
    (ty7 : PySem.W.typeIn K (.ref C7) = some (.type "type"))
    (sv7 : PySem.W.subIn K (.ref C7) (.type "ValueError") = some true)
    (sw7 : PySem.W.subIn K (.ref C7) (.ref CW) = some true)
    (s7_0 : PySem.W.subIn K (.ref C7) (.ref C0) = some false)
    (s7_1 : PySem.W.subIn K (.ref C7) (.ref C1) = some false)
    (s7_2 : PySem.W.subIn K (.ref C7) (.ref C2) = some false)
    (s7_3 : PySem.W.subIn K (.ref C7) (.ref C3) = some false)
    (s7_4 : PySem.W.subIn K (.ref C7) (.ref C4) = some false)
    (s7_5 : PySem.W.subIn K (.ref C7) (.ref C5) = some false)
    (s7_6 : PySem.W.subIn K (.ref C7) (.ref C6) = some false)
    (s7_7 : PySem.W.subIn K (.ref C7) (.ref C7) = some true)
    (s7_8 : PySem.W.subIn K (.ref C7) (.ref C8) = some false)
    (s7_9 : PySem.W.subIn K (.ref C7) (.ref C9) = some false)
    (s7_10 : PySem.W.subIn K (.ref C7) (.ref C10) = some false)
    (s7_11 : PySem.W.subIn K (.ref C7) (.ref C11) = some false)
    (s7_12 : PySem.W.subIn K (.ref C7) (.ref C12) = some false)
    (ga8 : PySem.W.findIn K (.ref C8) "__getattribute__" = some (some (.builtin "BaseException.__getattribute__")))
    (gg8 : PySem.W.findIn K (.ref C8) "__getattr__" = some none)
    (ex8 : PySem.W.subIn K (.ref C8) (.type "BaseException") = some true)
    (hd8 : PySem.W.hasDictIn K C8 = true)
    (ha8 : PySem.W.findIn K (.ref C8) "__class__" = some (some (.builtin "object.__class__")))
    (hm8 : PySem.W.mroIn K C8 (.type "object") = some true)
    (ty8 : PySem.W.typeIn K (.ref C8) = some (.type "type"))
    (sv8 : PySem.W.subIn K (.ref C8) (.type "ValueError") = some true)
    (sw8 : PySem.W.subIn K (.ref C8) (.ref CW) = some true)
    (s8_0 : PySem.W.subIn K (.ref C8) (.ref C0) = some false)
    (s8_1 : PySem.W.subIn K (.ref C8) (.ref C1) = some false)
    (s8_2 : PySem.W.subIn K (.ref C8) (.ref C2) = some false)
    (s8_3 : PySem.W.subIn K (.ref C8) (.ref C3) = some false)
    (s8_4 : PySem.W.subIn K (.ref C8) (.ref C4) = some false)
    (s8_5 : PySem.W.subIn K (.ref C8) (.ref C5) = some false)
    (s8_6 : PySem.W.subIn K (.ref C8) (.ref C6) = some false)
    (s8_7 : PySem.W.subIn K (.ref C8) (.ref C7) = some false)
    (s8_8 : PySem.W.subIn K (.ref C8) (.ref C8) = some true)
    (s8_9 : PySem.W.subIn K (.ref C8) (.ref C9) = some false)
    (s8_10 : PySem.W.subIn K (.ref C8) (.ref C10) = some false)
    (s8_11 : PySem.W.subIn K (.ref C8) (.ref C11) = some false)
    (s8_12 : PySem.W.subIn K (.ref C8) (.ref C12) = some false)
    (ga9 : PySem.W.findIn K (.ref C9) "__getattribute__" = some (some (.builtin "BaseException.__getattribute__")))
    (gg9 : PySem.W.findIn K (.ref C9) "__getattr__" = some none)
    (ex9 : PySem.W.subIn K (.ref C9) (.type "BaseException") = some true)
    (hd9 : PySem.W.hasDictIn K C9 = true)
    (ha9 : PySem.W.findIn K (.ref C9) "__class__" = some (some (.builtin "object.__class__")))
    (hm9 : PySem.W.mroIn K C9 (.type "object") = some true)
    (ty9 : PySem.W.typeIn K (.ref C9) = some (.type "type"))
    (sv9 : PySem.W.subIn K (.ref C9) (.type "ValueError") = some true)
    (sw9 : PySem.W.subIn K (.ref C9) (.ref CW) = some true)
    (s9_0 : PySem.W.subIn K (.ref C9) (.ref C0) = some false)
    (s9_1 : PySem.W.subIn K (.ref C9) (.ref C1) = some false)
    (s9_2 : PySem.W.subIn K (.ref C9) (.ref C2) = some false)
    (s9_3 : PySem.W.subIn K (.ref C9) (.ref C3) = some false)
    (s9_4 : PySem.W.subIn K (.ref C9) (.ref C4) = some false)
    (s9_5 : PySem.W.subIn K (.ref C9) (.ref C5) = some false)
    (s9_6 : PySem.W.subIn K (.ref C9) (.ref C6) = some false)
    (s9_7 : PySem.W.subIn K (.ref C9) (.ref C7) = some false)
    (s9_8 : PySem.W.subIn K (.ref C9) (.ref C8) = some false)
    (s9_9 : PySem.W.subIn K (.ref C9) (.ref C9) = some true)
    (s9_10 : PySem.W.subIn K (.ref C9) (.ref C10) = some false)
    (s9_11 : PySem.W.subIn K (.ref C9) (.ref C11) = some false)
    (s9_12 : PySem.W.subIn K (.ref C9) (.ref C12) = some false)
    (ga10 : PySem.W.findIn K (.ref C10) "__getattribute__" = some (some (.builtin "BaseException.__getattribute__")))
    (gg10 : PySem.W.findIn K (.ref C10) "__getattr__" = some none)
    (ex10 : PySem.W.subIn K (.ref C10) (.type "BaseException") = some true)
    (hd10 : PySem.W.hasDictIn K C10 = true)
    (ha10 : PySem.W.findIn K (.ref C10) "__class__" = some (some (.builtin "object.__class__")))
    (hm10 : PySem.W.mroIn K C10 (.type "object") = some true)
    (ty10 : PySem.W.typeIn K (.ref C10) = some (.type "type"))
    (sv10 : PySem.W.subIn K (.ref C10) (.type "ValueError") = some true)
    (sw10 : PySem.W.subIn K (.ref C10) (.ref CW) = some true)
    (s10_0 : PySem.W.subIn K (.ref C10) (.ref C0) = some false)
    (s10_1 : PySem.W.subIn K (.ref C10) (.ref C1) = some false)
    (s10_2 : PySem.W.subIn K (.ref C10) (.ref C2) = some false)
    (s10_3 : PySem.W.subIn K (.ref C10) (.ref C3) = some false)
    (s10_4 : PySem.W.subIn K (.ref C10) (.ref C4) = some false)
    (s10_5 : PySem.W.subIn K (.ref C10) (.ref C5) = some false)
    (s10_6 : PySem.W.subIn K (.ref C10) (.ref C6) = some false)
    (s10_7 : PySem.W.subIn K (.ref C10) (.ref C7) = some false)
    (s10_8 : PySem.W.subIn K (.ref C10) (.ref C8) = some false)
    (s10_9 : PySem.W.subIn K (.ref C10) (.ref C9) = some false)
    (s10_10 : PySem.W.subIn K (.ref C10) (.ref C10) = some true)
    (s10_11 : PySem.W.subIn K (.ref C10) (.ref C11) = some false)
    (s10_12 : PySem.W.subIn K (.ref C10) (.ref C12) = some false)
    (ga11 : PySem.W.findIn K (.ref C11) "__getattribute__" = some (some (.builtin "BaseException.__getattribute__")))
    (gg11 : PySem.W.findIn K (.ref C11) "__getattr__" = some none)
    (ex11 : PySem.W.subIn K (.ref C11) (.type "BaseException") = some true)
    (hd11 : PySem.W.hasDictIn K C11 = true)
    (ha11 : PySem.W.findIn K (.ref C11) "__class__" = some (some (.builtin "object.__class__")))
    (hm11 : PySem.W.mroIn K C11 (.type "object") = some true)
    (ty11 : PySem.W.typeIn K (.ref C11) = some (.type "type"))
    (sv11 : PySem.W.subIn K (.ref C11) (.type "ValueError") = some true)
    (sw11 : PySem.W.subIn K (.ref C11) (.ref CW) = some true)
    (s11_0 : PySem.W.subIn K (.ref C11) (.ref C0) = some false)
    (s11_1 : PySem.W.subIn K (.ref C11) (.ref C1) = some false)
    (s11_2 : PySem.W.subIn K (.ref C11) (.ref C2) = some false)
    (s11_3 : PySem.W.subIn K (.ref C11) (.ref C3) = some false)
    (s11_4 : PySem.W.subIn K (.ref C11) (.ref C4) = some false)
    (s11_5 : PySem.W.subIn K (.ref C11) (.ref C5) = some false)
    (s11_6 : PySem.W.subIn K (.ref C11) (.ref C6) = some false)
    (s11_7 : PySem.W.subIn K (.ref C11) (.ref C7) = some false)
    (s11_8 : PySem.W.subIn K (.ref C11) (.ref C8) = some false)
    (s11_9 : PySem.W.subIn K (.ref C11) (.ref C9) = some false)
    (s11_10 : PySem.W.subIn K (.ref C11) (.ref C10) = some false)
    (s11_11 : PySem.W.subIn K (.ref C11) (.ref C11) = some true)
    (s11_12 : PySem.W.subIn K (.ref C11) (.ref C12) = some false)
    (ga12 : PySem.W.findIn K (.ref C12) "__getattribute__" = some (some (.builtin "BaseException.__getattribute__")))
    (gg12 : PySem.W.findIn K (.ref C12) "__getattr__" = some none)
    (ex12 : PySem.W.subIn K (.ref C12) (.type "BaseException") = some true)
    (hd12 : PySem.W.hasDictIn K C12 = true)
    (ha12 : PySem.W.findIn K (.ref C12) "__class__" = some (some (.builtin "object.__class__")))
    (hm12 : PySem.W.mroIn K C12 (.type "object") = some true)
    (ty12 : PySem.W.typeIn K (.ref C12) = some (.type "type"))
    (sv12 : PySem.W.subIn K (.ref C12) (.type "ValueError") = some true)
    (sw12 : PySem.W.subIn K (.ref C12) (.ref CW) = some true)
    (s12_0 : PySem.W.subIn K (.ref C12) (.ref C0) = some false)
    (s12_1 : PySem.W.subIn K (.ref C12) (.ref C1) = some false)
    (s12_2 : PySem.W.subIn K (.ref C12) (.ref C2) = some false)
    (s12_3 : PySem.W.subIn K (.ref C12) (.ref C3) = some false)
    (s12_4 : PySem.W.subIn K (.ref C12) (.ref C4) = some false)
    (s12_5 : PySem.W.subIn K (.ref C12) (.ref C5) = some false)
    (s12_6 : PySem.W.subIn K (.ref C12) (.ref C6) = some false)
    (s12_7 : PySem.W.subIn K (.ref C12) (.ref C7) = some false)
    (s12_8 : PySem.W.subIn K (.ref C12) (.ref C8) = some false)
    (s12_9 : PySem.W.subIn K (.ref C12) (.ref C9) = some false)
    (s12_10 : PySem.W.subIn K (.ref C12) (.ref C10) = some false)
    (s12_11 : PySem.W.subIn K (.ref C12) (.ref C11) = some false)
    (s12_12 : PySem.W.subIn K (.ref C12) (.ref C12) = some true)
    (hdW : PySem.W.hasDictIn K CW = true)
    (tyW : PySem.W.typeIn K (.ref CW) = some (.type "type"))
    (xL0 : K.lookup C0 = some (excClassObj nm_0 q_0 C0 N_0 bs_0 bm_0 true sn_0 sub_0 ab_0 col_0 dd_0 m0_0 m1_0 m2_0 m3_0 m5_0 "ValueError.__new__"))
    (xR0 : HandSPX.refsVE bm_0 = true)
    (sa0 : PySem.W.findIn K (.ref C0) "__setattr__" = some (some (.builtin "object.__setattr__")))
    (na_C0_why : PySem.W.findIn K (.ref C0) "why" = some none)
    (na_C0_node : PySem.W.findIn K (.ref C0) "node" = some none)
    (xL1 : K.lookup C1 = some (excClassObj nm_1 q_1 C1 N_1 bs_1 bm_1 true sn_1 sub_1 ab_1 col_1 dd_1 m0_1 m1_1 m2_1 m3_1 m5_1 "ValueError.__new__"))
    (xR1 : HandSPX.refsVE bm_1 = true)
    (sa1 : PySem.W.findIn K (.ref C1) "__setattr__" = some (some (.builtin "object.__setattr__")))
    (na_C1_node : PySem.W.findIn K (.ref C1) "node" = some none)
    (xL2 : K.lookup C2 = some (excClassObj nm_2 q_2 C2 N_2 bs_2 bm_2 true sn_2 sub_2 ab_2 col_2 dd_2 m0_2 m1_2 m2_2 m3_2 m5_2 "ValueError.__new__"))
    (xR2 : HandSPX.refsVE bm_2 = true)
    (sa2 : PySem.W.findIn K (.ref C2) "__setattr__" = some (some (.builtin "object.__setattr__")))
    (na_C2_place : PySem.W.findIn K (.ref C2) "place" = some none)
    (xE3 : PySem.W.excIn K C3 [.type "ValueError", .type "Exception", .type "BaseException", .type "object"] "ValueError.__new__" = true)
    (xL4 : K.lookup C4 = some (excClassObj nm_4 q_4 C4 N_4 bs_4 bm_4 true sn_4 sub_4 ab_4 col_4 dd_4 m0_4 m1_4 m2_4 m3_4 m5_4 "ValueError.__new__"))
    (xR4 : HandSPX.refsVE bm_4 = true)
    (sa4 : PySem.W.findIn K (.ref C4) "__setattr__" = some (some (.builtin "object.__setattr__")))
    (na_C4_owner : PySem.W.findIn K (.ref C4) "owner" = some none)
    (xL5 : K.lookup C5 = some (excClassObj nm_5 q_5 C5 N_5 bs_5 bm_5 true sn_5 sub_5 ab_5 col_5 dd_5 m0_5 m1_5 m2_5 m3_5 m5_5 "ValueError.__new__"))
    (xR5 : HandSPX.refsVE bm_5 = true)
    (sa5 : PySem.W.findIn K (.ref C5) "__setattr__" = some (some (.builtin "object.__setattr__")))
    (na_C5_why : PySem.W.findIn K (.ref C5) "why" = some none)
    (xL6 : K.lookup C6 = some (excClassObj nm_6 q_6 C6 N_6 bs_6 bm_6 true sn_6 sub_6 ab_6 col_6 dd_6 m0_6 m1_6 m2_6 m3_6 m5_6 "ValueError.__new__"))
    (xR6 : HandSPX.refsVE bm_6 = true)
    (sa6 : PySem.W.findIn K (.ref C6) "__setattr__" = some (some (.builtin "object.__setattr__")))
    (na_C6_index : PySem.W.findIn K (.ref C6) "index" = some none)
    (na_C6_why : PySem.W.findIn K (.ref C6) "why" = some none)
    (xE7 : PySem.W.excIn K C7 [.type "ValueError", .type "Exception", .type "BaseException", .type "object"] "ValueError.__new__" = true)
    (xL8 : K.lookup C8 = some (excClassObj nm_8 q_8 C8 N_8 bs_8 bm_8 true sn_8 sub_8 ab_8 col_8 dd_8 m0_8 m1_8 m2_8 m3_8 m5_8 "ValueError.__new__"))
    (xR8 : HandSPX.refsVE bm_8 = true)
    (sa8 : PySem.W.findIn K (.ref C8) "__setattr__" = some (some (.builtin "object.__setattr__")))
    (na_C8_count : PySem.W.findIn K (.ref C8) "count" = some none)
    (xE9 : PySem.W.excIn K C9 [.type "ValueError", .type "Exception", .type "BaseException", .type "object"] "ValueError.__new__" = true)
    (xE10 : PySem.W.excIn K C10 [.type "ValueError", .type "Exception", .type "BaseException", .type "object"] "ValueError.__new__" = true)
    (xE11 : PySem.W.excIn K C11 [.type "ValueError", .type "Exception", .type "BaseException", .type "object"] "ValueError.__new__" = true)
    (xE12 : PySem.W.excIn K C12 [.type "ValueError", .type "Exception", .type "BaseException", .type "object"] "ValueError.__new__" = true)
    (z_isinstance : PySem.W.nsIn K mainGlobals "isinstance" = some none)
    (z_ValueError : PySem.W.nsIn K mainGlobals "ValueError" = some none)
    (z_range : PySem.W.nsIn K mainGlobals "range" = some none)
    (z_len : PySem.W.nsIn K mainGlobals "len" = some none)
    (z_enumerate : PySem.W.nsIn K mainGlobals "enumerate" = some none)
    (z_int : PySem.W.nsIn K mainGlobals "int" = some none)
    (z_abs : PySem.W.nsIn K mainGlobals "abs" = some none)
    (a_T0 : PySem.W.findIn K (.ref C0) "told" = some (some (.ref T0)))
    (i_T0 : PySem.W.isFn K (.ref T0) = true)
    (l_T0 : K.lookup T0 = some ⟨oc_T0, od_T0, .func (PySem.W.fnOf "told" "NoTree.told" (defArgs sT0) (defBody sT0) (defScope sT0) .none kV_T0 dc_T0 pm_T0 an_T0 cd_T0 ct_T0), sl_T0⟩)
    (c_T0 : PySem.W.codeIn K cd_T0 "NoTree.told" = true)
    (k_T0 : PySem.W.keepIn K (.ref T0) = true)
    (a_T1 : PySem.W.findIn K (.ref C1) "told" = some (some (.ref T1)))
    (i_T1 : PySem.W.isFn K (.ref T1) = true)
    (l_T1 : K.lookup T1 = some ⟨oc_T1, od_T1, .func (PySem.W.fnOf "told" "NoNode.told" (defArgs sT1) (defBody sT1) (defScope sT1) .none kV_T1 dc_T1 pm_T1 an_T1 cd_T1 ct_T1), sl_T1⟩)
    (c_T1 : PySem.W.codeIn K cd_T1 "NoNode.told" = true)
    (k_T1 : PySem.W.keepIn K (.ref T1) = true)
    (a_T2 : PySem.W.findIn K (.ref C2) "told" = some (some (.ref T2)))
    (i_T2 : PySem.W.isFn K (.ref T2) = true)
    (l_T2 : K.lookup T2 = some ⟨oc_T2, od_T2, .func (PySem.W.fnOf "told" "BadText.told" (defArgs sT2) (defBody sT2) (defScope sT2) .none kV_T2 dc_T2 pm_T2 an_T2 cd_T2 ct_T2), sl_T2⟩)
    (c_T2 : PySem.W.codeIn K cd_T2 "BadText.told" = true)
    (k_T2 : PySem.W.keepIn K (.ref T2) = true)
    (a_T3 : PySem.W.findIn K (.ref C3) "told" = some (some (.ref T3)))
    (i_T3 : PySem.W.isFn K (.ref T3) = true)
    (l_T3 : K.lookup T3 = some ⟨oc_T3, od_T3, .func (PySem.W.fnOf "told" "NoPath.told" (defArgs sT3) (defBody sT3) (defScope sT3) .none kV_T3 dc_T3 pm_T3 an_T3 cd_T3 ct_T3), sl_T3⟩)
    (c_T3 : PySem.W.codeIn K cd_T3 "NoPath.told" = true)
    (k_T3 : PySem.W.keepIn K (.ref T3) = true)
    (a_T4 : PySem.W.findIn K (.ref C4) "told" = some (some (.ref T4)))
    (i_T4 : PySem.W.isFn K (.ref T4) = true)
    (l_T4 : K.lookup T4 = some ⟨oc_T4, od_T4, .func (PySem.W.fnOf "told" "NoOwner.told" (defArgs sT4) (defBody sT4) (defScope sT4) .none kV_T4 dc_T4 pm_T4 an_T4 cd_T4 ct_T4), sl_T4⟩)
    (c_T4 : PySem.W.codeIn K cd_T4 "NoOwner.told" = true)
    (k_T4 : PySem.W.keepIn K (.ref T4) = true)
    (a_T5 : PySem.W.findIn K (.ref C5) "told" = some (some (.ref T5)))
    (i_T5 : PySem.W.isFn K (.ref T5) = true)
    (l_T5 : K.lookup T5 = some ⟨oc_T5, od_T5, .func (PySem.W.fnOf "told" "NoDeed.told" (defArgs sT5) (defBody sT5) (defScope sT5) .none kV_T5 dc_T5 pm_T5 an_T5 cd_T5 ct_T5), sl_T5⟩)
    (c_T5 : PySem.W.codeIn K cd_T5 "NoDeed.told" = true)
    (k_T5 : PySem.W.keepIn K (.ref T5) = true)
    (a_T6 : PySem.W.findIn K (.ref C6) "told" = some (some (.ref T6)))
    (i_T6 : PySem.W.isFn K (.ref T6) = true)
    (l_T6 : K.lookup T6 = some ⟨oc_T6, od_T6, .func (PySem.W.fnOf "told" "NoRow.told" (defArgs sT6) (defBody sT6) (defScope sT6) .none kV_T6 dc_T6 pm_T6 an_T6 cd_T6 ct_T6), sl_T6⟩)
    (c_T6 : PySem.W.codeIn K cd_T6 "NoRow.told" = true)
    (k_T6 : PySem.W.keepIn K (.ref T6) = true)
    (a_T7 : PySem.W.findIn K (.ref C7) "told" = some (some (.ref T7)))
    (i_T7 : PySem.W.isFn K (.ref T7) = true)
    (l_T7 : K.lookup T7 = some ⟨oc_T7, od_T7, .func (PySem.W.fnOf "told" "NoWeaving.told" (defArgs sT7) (defBody sT7) (defScope sT7) .none kV_T7 dc_T7 pm_T7 an_T7 cd_T7 ct_T7), sl_T7⟩)
    (c_T7 : PySem.W.codeIn K cd_T7 "NoWeaving.told" = true)
    (k_T7 : PySem.W.keepIn K (.ref T7) = true)
    (a_T8 : PySem.W.findIn K (.ref C8) "told" = some (some (.ref T8)))
    (i_T8 : PySem.W.isFn K (.ref T8) = true)
    (l_T8 : K.lookup T8 = some ⟨oc_T8, od_T8, .func (PySem.W.fnOf "told" "Large.told" (defArgs sT8) (defBody sT8) (defScope sT8) .none kV_T8 dc_T8 pm_T8 an_T8 cd_T8 ct_T8), sl_T8⟩)
    (c_T8 : PySem.W.codeIn K cd_T8 "Large.told" = true)
    (k_T8 : PySem.W.keepIn K (.ref T8) = true)
    (a_T9 : PySem.W.findIn K (.ref C9) "told" = some (some (.ref T9)))
    (i_T9 : PySem.W.isFn K (.ref T9) = true)
    (l_T9 : K.lookup T9 = some ⟨oc_T9, od_T9, .func (PySem.W.fnOf "told" "Busy.told" (defArgs sT9) (defBody sT9) (defScope sT9) .none kV_T9 dc_T9 pm_T9 an_T9 cd_T9 ct_T9), sl_T9⟩)
    (c_T9 : PySem.W.codeIn K cd_T9 "Busy.told" = true)
    (k_T9 : PySem.W.keepIn K (.ref T9) = true)
    (a_T10 : PySem.W.findIn K (.ref C10) "told" = some (some (.ref T10)))
    (i_T10 : PySem.W.isFn K (.ref T10) = true)
    (l_T10 : K.lookup T10 = some ⟨oc_T10, od_T10, .func (PySem.W.fnOf "told" "Idle.told" (defArgs sT10) (defBody sT10) (defScope sT10) .none kV_T10 dc_T10 pm_T10 an_T10 cd_T10 ct_T10), sl_T10⟩)
    (c_T10 : PySem.W.codeIn K cd_T10 "Idle.told" = true)
    (k_T10 : PySem.W.keepIn K (.ref T10) = true)
    (a_T11 : PySem.W.findIn K (.ref C11) "told" = some (some (.ref T11)))
    (i_T11 : PySem.W.isFn K (.ref T11) = true)
    (l_T11 : K.lookup T11 = some ⟨oc_T11, od_T11, .func (PySem.W.fnOf "told" "Forbidden.told" (defArgs sT11) (defBody sT11) (defScope sT11) .none kV_T11 dc_T11 pm_T11 an_T11 cd_T11 ct_T11), sl_T11⟩)
    (c_T11 : PySem.W.codeIn K cd_T11 "Forbidden.told" = true)
    (k_T11 : PySem.W.keepIn K (.ref T11) = true)
    (a_T12 : PySem.W.findIn K (.ref C12) "told" = some (some (.ref T12)))
    (i_T12 : PySem.W.isFn K (.ref T12) = true)
    (l_T12 : K.lookup T12 = some ⟨oc_T12, od_T12, .func (PySem.W.fnOf "told" "NoBack.told" (defArgs sT12) (defBody sT12) (defScope sT12) .none kV_T12 dc_T12 pm_T12 an_T12 cd_T12 ct_T12), sl_T12⟩)
    (c_T12 : PySem.W.codeIn K cd_T12 "NoBack.told" = true)
    (k_T12 : PySem.W.keepIn K (.ref T12) = true)
    (a_I0 : PySem.W.findIn K (.ref C0) "__init__" = some (some (.ref I0)))
    (i_I0 : PySem.W.isFn K (.ref I0) = true)
    (l_I0 : K.lookup I0 = some ⟨oc_I0, od_I0, .func (PySem.W.fnOf "__init__" "NoTree.__init__" (defArgs sI0) (defBody sI0) (defScope sI0) .none kV_I0 dc_I0 pm_I0 an_I0 cd_I0 ct_I0), sl_I0⟩)
    (c_I0 : PySem.W.codeIn K cd_I0 "NoTree.__init__" = true)
    (k_I0 : PySem.W.keepIn K (.ref I0) = true)
    (tI0 : PySem.W.typeIn K (.ref I0) = some (.type "function"))
    (a_I1 : PySem.W.findIn K (.ref C1) "__init__" = some (some (.ref I1)))
    (i_I1 : PySem.W.isFn K (.ref I1) = true)
    (l_I1 : K.lookup I1 = some ⟨oc_I1, od_I1, .func (PySem.W.fnOf "__init__" "NoNode.__init__" (defArgs sI1) (defBody sI1) (defScope sI1) .none kV_I1 dc_I1 pm_I1 an_I1 cd_I1 ct_I1), sl_I1⟩)
    (c_I1 : PySem.W.codeIn K cd_I1 "NoNode.__init__" = true)
    (k_I1 : PySem.W.keepIn K (.ref I1) = true)
    (tI1 : PySem.W.typeIn K (.ref I1) = some (.type "function"))
    (a_I2 : PySem.W.findIn K (.ref C2) "__init__" = some (some (.ref I2)))
    (i_I2 : PySem.W.isFn K (.ref I2) = true)
    (l_I2 : K.lookup I2 = some ⟨oc_I2, od_I2, .func (PySem.W.fnOf "__init__" "BadText.__init__" (defArgs sI2) (defBody sI2) (defScope sI2) .none kV_I2 dc_I2 pm_I2 an_I2 cd_I2 ct_I2), sl_I2⟩)
    (c_I2 : PySem.W.codeIn K cd_I2 "BadText.__init__" = true)
    (k_I2 : PySem.W.keepIn K (.ref I2) = true)
    (tI2 : PySem.W.typeIn K (.ref I2) = some (.type "function"))
    (a_I4 : PySem.W.findIn K (.ref C4) "__init__" = some (some (.ref I4)))
    (i_I4 : PySem.W.isFn K (.ref I4) = true)
    (l_I4 : K.lookup I4 = some ⟨oc_I4, od_I4, .func (PySem.W.fnOf "__init__" "NoOwner.__init__" (defArgs sI4) (defBody sI4) (defScope sI4) .none kV_I4 dc_I4 pm_I4 an_I4 cd_I4 ct_I4), sl_I4⟩)
    (c_I4 : PySem.W.codeIn K cd_I4 "NoOwner.__init__" = true)
    (k_I4 : PySem.W.keepIn K (.ref I4) = true)
    (tI4 : PySem.W.typeIn K (.ref I4) = some (.type "function"))
    (a_I5 : PySem.W.findIn K (.ref C5) "__init__" = some (some (.ref I5)))
    (i_I5 : PySem.W.isFn K (.ref I5) = true)
    (l_I5 : K.lookup I5 = some ⟨oc_I5, od_I5, .func (PySem.W.fnOf "__init__" "NoDeed.__init__" (defArgs sI5) (defBody sI5) (defScope sI5) .none kV_I5 dc_I5 pm_I5 an_I5 cd_I5 ct_I5), sl_I5⟩)
    (c_I5 : PySem.W.codeIn K cd_I5 "NoDeed.__init__" = true)
    (k_I5 : PySem.W.keepIn K (.ref I5) = true)
    (tI5 : PySem.W.typeIn K (.ref I5) = some (.type "function"))
    (a_I6 : PySem.W.findIn K (.ref C6) "__init__" = some (some (.ref I6)))
    (i_I6 : PySem.W.isFn K (.ref I6) = true)
    (l_I6 : K.lookup I6 = some ⟨oc_I6, od_I6, .func (PySem.W.fnOf "__init__" "NoRow.__init__" (defArgs sI6) (defBody sI6) (defScope sI6) .none kV_I6 dc_I6 pm_I6 an_I6 cd_I6 ct_I6), sl_I6⟩)
    (c_I6 : PySem.W.codeIn K cd_I6 "NoRow.__init__" = true)
    (k_I6 : PySem.W.keepIn K (.ref I6) = true)
    (tI6 : PySem.W.typeIn K (.ref I6) = some (.type "function"))
    (a_I8 : PySem.W.findIn K (.ref C8) "__init__" = some (some (.ref I8)))
    (i_I8 : PySem.W.isFn K (.ref I8) = true)
    (l_I8 : K.lookup I8 = some ⟨oc_I8, od_I8, .func (PySem.W.fnOf "__init__" "Large.__init__" (defArgs sI8) (defBody sI8) (defScope sI8) .none kV_I8 dc_I8 pm_I8 an_I8 cd_I8 ct_I8), sl_I8⟩)
    (c_I8 : PySem.W.codeIn K cd_I8 "Large.__init__" = true)
    (k_I8 : PySem.W.keepIn K (.ref I8) = true)
    (tI8 : PySem.W.typeIn K (.ref I8) = some (.type "function"))
    (a_fState : PySem.W.nsIn K mainGlobals "_law_state" = some (some (.ref fState)))
    (l_fState : K.lookup fState = some ⟨oc_fState, od_fState, .func (PySem.W.fnOf "_law_state" "_law_state" (defArgs sState) (defBody sState) (defScope sState) .none kV_fState dc_fState pm_fState an_fState cd_fState ct_fState), sl_fState⟩)
    (c_fState : PySem.W.codeIn K cd_fState "_law_state" = true)
    (k_fState : PySem.W.keepIn K (.ref fState) = true)
    (a_fDigit : PySem.W.nsIn K mainGlobals "_law_digit" = some (some (.ref fDigit)))
    (l_fDigit : K.lookup fDigit = some ⟨oc_fDigit, od_fDigit, .func (PySem.W.fnOf "_law_digit" "_law_digit" (defArgs sDigit) (defBody sDigit) (defScope sDigit) .none kV_fDigit dc_fDigit pm_fDigit an_fDigit cd_fDigit ct_fDigit), sl_fDigit⟩)
    (c_fDigit : PySem.W.codeIn K cd_fDigit "_law_digit" = true)
    (k_fDigit : PySem.W.keepIn K (.ref fDigit) = true)
    (a_fFields : PySem.W.nsIn K mainGlobals "_law_fields" = some (some (.ref fFields)))
    (l_fFields : K.lookup fFields = some ⟨oc_fFields, od_fFields, .func (PySem.W.fnOf "_law_fields" "_law_fields" (defArgs sFields) (defBody sFields) (defScope sFields) .none kV_fFields dc_fFields pm_fFields an_fFields cd_fFields ct_fFields), sl_fFields⟩)
    (c_fFields : PySem.W.codeIn K cd_fFields "_law_fields" = true)
    (k_fFields : PySem.W.keepIn K (.ref fFields) = true)
    (a_fClasses : PySem.W.nsIn K mainGlobals "_law_classes" = some (some (.ref fClasses)))
    (l_fClasses : K.lookup fClasses = some ⟨oc_fClasses, od_fClasses, .func (PySem.W.fnOf "_law_classes" "_law_classes" (defArgs sClasses) (defBody sClasses) (defScope sClasses) .none kV_fClasses dc_fClasses pm_fClasses an_fClasses cd_fClasses ct_fClasses), sl_fClasses⟩)
    (c_fClasses : PySem.W.codeIn K cd_fClasses "_law_classes" = true)
    (k_fClasses : PySem.W.keepIn K (.ref fClasses) = true)
    (a_fLaw : PySem.W.nsIn K mainGlobals "law" = some (some (.ref fLaw)))
    (l_fLaw : K.lookup fLaw = some ⟨oc_fLaw, od_fLaw, .func (PySem.W.fnOf "law" "law" (defArgs sLaw) (defBody sLaw) (defScope sLaw) .none kV_fLaw dc_fLaw pm_fLaw an_fLaw cd_fLaw ct_fLaw), sl_fLaw⟩)
    (c_fLaw : PySem.W.codeIn K cd_fLaw "law" = true)
    (k_fLaw : PySem.W.keepIn K (.ref fLaw) = true) :
    ∃ fd : FuncData, (∀ (s : Shared) (v : Value), BindsTo s fd ⟨[v], []⟩ [("_law_script", v)]) ∧ ∀ base : Heap, K.In base → base.Ns mainGlobals mg → FnOk l.prog w K mg base CX0 3 fa fd ["_law_script"] (spLaw K) := by
  have e := hfa.symm.trans (PySem.W.mg_of X G a_fLaw)
  cases e
  have F_T0 := fun_mk (st := sT0) l_T0 c_T0 k_T0
  have b_T0 := F_T0.binds (ps := ["self"]) fun _ _ _ _ _ _ us hl => match us, hl with | [_], _ => rfl
  have F_T1 := fun_mk (st := sT1) l_T1 c_T1 k_T1
  have b_T1 := F_T1.binds (ps := ["self"]) fun _ _ _ _ _ _ us hl => match us, hl with | [_], _ => rfl
  have F_T2 := fun_mk (st := sT2) l_T2 c_T2 k_T2
  have b_T2 := F_T2.binds (ps := ["self"]) fun _ _ _ _ _ _ us hl => match us, hl with | [_], _ => rfl
  have F_T3 := fun_mk (st := sT3) l_T3 c_T3 k_T3
  have b_T3 := F_T3.binds (ps := ["self"]) fun _ _ _ _ _ _ us hl => match us, hl with | [_], _ => rfl
  have F_T4 := fun_mk (st := sT4) l_T4 c_T4 k_T4
  have b_T4 := F_T4.binds (ps := ["self"]) fun _ _ _ _ _ _ us hl => match us, hl with | [_], _ => rfl
  have F_T5 := fun_mk (st := sT5) l_T5 c_T5 k_T5
  have b_T5 := F_T5.binds (ps := ["self"]) fun _ _ _ _ _ _ us hl => match us, hl with | [_], _ => rfl
  have F_T6 := fun_mk (st := sT6) l_T6 c_T6 k_T6
  have b_T6 := F_T6.binds (ps := ["self"]) fun _ _ _ _ _ _ us hl => match us, hl with | [_], _ => rfl
  have F_T7 := fun_mk (st := sT7) l_T7 c_T7 k_T7
  have b_T7 := F_T7.binds (ps := ["self"]) fun _ _ _ _ _ _ us hl => match us, hl with | [_], _ => rfl
  have F_T8 := fun_mk (st := sT8) l_T8 c_T8 k_T8
  have b_T8 := F_T8.binds (ps := ["self"]) fun _ _ _ _ _ _ us hl => match us, hl with | [_], _ => rfl
  have F_T9 := fun_mk (st := sT9) l_T9 c_T9 k_T9
  have b_T9 := F_T9.binds (ps := ["self"]) fun _ _ _ _ _ _ us hl => match us, hl with | [_], _ => rfl
  have F_T10 := fun_mk (st := sT10) l_T10 c_T10 k_T10
  have b_T10 := F_T10.binds (ps := ["self"]) fun _ _ _ _ _ _ us hl => match us, hl with | [_], _ => rfl
  have F_T11 := fun_mk (st := sT11) l_T11 c_T11 k_T11
  have b_T11 := F_T11.binds (ps := ["self"]) fun _ _ _ _ _ _ us hl => match us, hl with | [_], _ => rfl
  have F_T12 := fun_mk (st := sT12) l_T12 c_T12 k_T12
  have b_T12 := F_T12.binds (ps := ["self"]) fun _ _ _ _ _ _ us hl => match us, hl with | [_], _ => rfl
  have F_I0 := fun_mk (st := sI0) l_I0 c_I0 k_I0
  have b_I0 := F_I0.binds (ps := ["self", "why", "node"]) fun _ _ _ _ _ _ us hl => match us, hl with | [_, _, _], _ => rfl
  have F_I1 := fun_mk (st := sI1) l_I1 c_I1 k_I1
  have b_I1 := F_I1.binds (ps := ["self", "node"]) fun _ _ _ _ _ _ us hl => match us, hl with | [_, _], _ => rfl
  have F_I2 := fun_mk (st := sI2) l_I2 c_I2 k_I2
  have b_I2 := F_I2.binds (ps := ["self", "place"]) fun _ _ _ _ _ _ us hl => match us, hl with | [_, _], _ => rfl
  have F_I4 := fun_mk (st := sI4) l_I4 c_I4 k_I4
  have b_I4 := F_I4.binds (ps := ["self", "owner"]) fun _ _ _ _ _ _ us hl => match us, hl with | [_, _], _ => rfl
  have F_I5 := fun_mk (st := sI5) l_I5 c_I5 k_I5
  have b_I5 := F_I5.binds (ps := ["self", "why"]) fun _ _ _ _ _ _ us hl => match us, hl with | [_, _], _ => rfl
  have F_I6 := fun_mk (st := sI6) l_I6 c_I6 k_I6
  have b_I6 := F_I6.binds (ps := ["self", "index", "why"]) fun _ _ _ _ _ _ us hl => match us, hl with | [_, _, _], _ => rfl
  have F_I8 := fun_mk (st := sI8) l_I8 c_I8 k_I8
  have b_I8 := F_I8.binds (ps := ["self", "count"]) fun _ _ _ _ _ _ us hl => match us, hl with | [_, _], _ => rfl
  have F_fState := fun_mk (st := sState) l_fState c_fState k_fState
  have b_fState := F_fState.binds (ps := ["_law_source"]) fun _ _ _ _ _ _ us hl => match us, hl with | [_], _ => rfl
  have F_fDigit := fun_mk (st := sDigit) l_fDigit c_fDigit k_fDigit
  have b_fDigit := F_fDigit.binds (ps := ["_law_state_here", "_law_base"]) fun _ _ _ _ _ _ us hl => match us, hl with | [_, _], _ => rfl
  have F_fFields := fun_mk (st := sFields) l_fFields c_fFields k_fFields
  have b_fFields := F_fFields.binds (ps := ["_law_error"]) fun _ _ _ _ _ _ us hl => match us, hl with | [_], _ => rfl
  have F_fClasses := fun_mk (st := sClasses) l_fClasses c_fClasses k_fClasses
  have b_fClasses := F_fClasses.binds (ps := ["_law_error"]) fun _ _ _ _ _ _ us hl => match us, hl with | [_], _ => rfl
  have F_fLaw := fun_mk (st := sLaw) l_fLaw c_fLaw k_fLaw
  have b_fLaw := F_fLaw.binds (ps := ["_law_script"]) fun _ _ _ _ _ _ us hl => match us, hl with | [_], _ => rfl
  let c : Nat → Addr := fun i => match i with | 0 => C0 | 1 => C1 | 2 => C2 | 3 => C3 | 4 => C4 | 5 => C5 | 6 => C6 | 7 => C7 | 8 => C8 | 9 => C9 | 10 => C10 | 11 => C11 | _ => C12
  have TA : TxtA mg := ⟨PySem.W.mg_none_of X G z_int, PySem.W.mg_none_of X G z_abs⟩
  have xc0 : XC K C0 := ⟨⟨ga0, gg0, ex0, hd0⟩, ha0, c2, c3, hm0⟩
  have xc1 : XC K C1 := ⟨⟨ga1, gg1, ex1, hd1⟩, ha1, c2, c3, hm1⟩
  have xc2 : XC K C2 := ⟨⟨ga2, gg2, ex2, hd2⟩, ha2, c2, c3, hm2⟩
  have xc3 : XC K C3 := ⟨⟨ga3, gg3, ex3, hd3⟩, ha3, c2, c3, hm3⟩
  have xc4 : XC K C4 := ⟨⟨ga4, gg4, ex4, hd4⟩, ha4, c2, c3, hm4⟩
  have xc5 : XC K C5 := ⟨⟨ga5, gg5, ex5, hd5⟩, ha5, c2, c3, hm5⟩
  have xc6 : XC K C6 := ⟨⟨ga6, gg6, ex6, hd6⟩, ha6, c2, c3, hm6⟩
  have xc7 : XC K C7 := ⟨⟨ga7, gg7, ex7, hd7⟩, ha7, c2, c3, hm7⟩
  have xc8 : XC K C8 := ⟨⟨ga8, gg8, ex8, hd8⟩, ha8, c2, c3, hm8⟩
  have xc9 : XC K C9 := ⟨⟨ga9, gg9, ex9, hd9⟩, ha9, c2, c3, hm9⟩
  have xc10 : XC K C10 := ⟨⟨ga10, gg10, ex10, hd10⟩, ha10, c2, c3, hm10⟩
  have xc11 : XC K C11 := ⟨⟨ga11, gg11, ex11, hd11⟩, ha11, c2, c3, hm11⟩
  have xc12 : XC K C12 := ⟨⟨ga12, gg12, ex12, hd12⟩, ha12, c2, c3, hm12⟩
  have TC : TxtC K mg c CW := { m_isinstance := PySem.W.mg_none_of X G z_isinstance, m_ValueError := PySem.W.mg_none_of X G z_ValueError, m0 := PySem.W.mg_of X G a_C0, m1 := PySem.W.mg_of X G a_C1, m2 := PySem.W.mg_of X G a_C2, m3 := PySem.W.mg_of X G a_C3, m4 := PySem.W.mg_of X G a_C4, m5 := PySem.W.mg_of X G a_C5, m6 := PySem.W.mg_of X G a_C6, m7 := PySem.W.mg_of X G a_C7, m8 := PySem.W.mg_of X G a_C8, m9 := PySem.W.mg_of X G a_C9, m10 := PySem.W.mg_of X G a_C10, m11 := PySem.W.mg_of X G a_C11, m12 := PySem.W.mg_of X G a_C12, x3 := xE3, k3 := k_C3, x7 := xE7, k7 := k_C7, x9 := xE9, k9 := k_C9, x10 := xE10, k10 := k_C10, x11 := xE11, k11 := k_C11, x12 := xE12, k12 := k_C12, mW := PySem.W.mg_of X G a_CW, xc := fun i hi => match i, hi with | 0, _ => xc0 | 1, _ => xc1 | 2, _ => xc2 | 3, _ => xc3 | 4, _ => xc4 | 5, _ => xc5 | 6, _ => xc6 | 7, _ => xc7 | 8, _ => xc8 | 9, _ => xc9 | 10, _ => xc10 | 11, _ => xc11 | 12, _ => xc12 | i + 13, h => absurd h (by omega), kit := fun i j hi hj => match i, j, hi, hj with | 0, 0, _, _ => kit_self | 0, 1, _, _ => kit_own hd1 ty1 s0_1 s1_1 | 0, 2, _, _ => kit_own hd2 ty2 s0_2 s2_2 | 0, 3, _, _ => kit_own hd3 ty3 s0_3 s3_3 | 0, 4, _, _ => kit_own hd4 ty4 s0_4 s4_4 | 0, 5, _, _ => kit_own hd5 ty5 s0_5 s5_5 | 0, 6, _, _ => kit_own hd6 ty6 s0_6 s6_6 | 0, 7, _, _ => kit_own hd7 ty7 s0_7 s7_7 | 0, 8, _, _ => kit_own hd8 ty8 s0_8 s8_8 | 0, 9, _, _ => kit_own hd9 ty9 s0_9 s9_9 | 0, 10, _, _ => kit_own hd10 ty10 s0_10 s10_10 | 0, 11, _, _ => kit_own hd11 ty11 s0_11 s11_11 | 0, 12, _, _ => kit_own hd12 ty12 s0_12 s12_12 | 1, 0, _, _ => kit_own hd0 ty0 s1_0 s0_0 | 1, 1, _, _ => kit_self | 1, 2, _, _ => kit_own hd2 ty2 s1_2 s2_2 | 1, 3, _, _ => kit_own hd3 ty3 s1_3 s3_3 | 1, 4, _, _ => kit_own hd4 ty4 s1_4 s4_4 | 1, 5, _, _ => kit_own hd5 ty5 s1_5 s5_5 | 1, 6, _, _ => kit_own hd6 ty6 s1_6 s6_6 | 1, 7, _, _ => kit_own hd7 ty7 s1_7 s7_7 | 1, 8, _, _ => kit_own hd8 ty8 s1_8 s8_8 | 1, 9, _, _ => kit_own hd9 ty9 s1_9 s9_9 | 1, 10, _, _ => kit_own hd10 ty10 s1_10 s10_10 | 1, 11, _, _ => kit_own hd11 ty11 s1_11 s11_11 | 1, 12, _, _ => kit_own hd12 ty12 s1_12 s12_12 | 2, 0, _, _ => kit_own hd0 ty0 s2_0 s0_0 | 2, 1, _, _ => kit_own hd1 ty1 s2_1 s1_1 | 2, 2, _, _ => kit_self | 2, 3, _, _ => kit_own hd3 ty3 s2_3 s3_3 | 2, 4, _, _ => kit_own hd4 ty4 s2_4 s4_4 | 2, 5, _, _ => kit_own hd5 ty5 s2_5 s5_5 | 2, 6, _, _ => kit_own hd6 ty6 s2_6 s6_6 | 2, 7, _, _ => kit_own hd7 ty7 s2_7 s7_7 | 2, 8, _, _ => kit_own hd8 ty8 s2_8 s8_8 | 2, 9, _, _ => kit_own hd9 ty9 s2_9 s9_9 | 2, 10, _, _ => kit_own hd10 ty10 s2_10 s10_10 | 2, 11, _, _ => kit_own hd11 ty11 s2_11 s11_11 | 2, 12, _, _ => kit_own hd12 ty12 s2_12 s12_12 | 3, 0, _, _ => kit_own hd0 ty0 s3_0 s0_0 | 3, 1, _, _ => kit_own hd1 ty1 s3_1 s1_1 | 3, 2, _, _ => kit_own hd2 ty2 s3_2 s2_2 | 3, 3, _, _ => kit_self | 3, 4, _, _ => kit_own hd4 ty4 s3_4 s4_4 | 3, 5, _, _ => kit_own hd5 ty5 s3_5 s5_5 | 3, 6, _, _ => kit_own hd6 ty6 s3_6 s6_6 | 3, 7, _, _ => kit_own hd7 ty7 s3_7 s7_7 | 3, 8, _, _ => kit_own hd8 ty8 s3_8 s8_8 | 3, 9, _, _ => kit_own hd9 ty9 s3_9 s9_9 | 3, 10, _, _ => kit_own hd10 ty10 s3_10 s10_10 | 3, 11, _, _ => kit_own hd11 ty11 s3_11 s11_11 | 3, 12, _, _ => kit_own hd12 ty12 s3_12 s12_12 | 4, 0, _, _ => kit_own hd0 ty0 s4_0 s0_0 | 4, 1, _, _ => kit_own hd1 ty1 s4_1 s1_1 | 4, 2, _, _ => kit_own hd2 ty2 s4_2 s2_2 | 4, 3, _, _ => kit_own hd3 ty3 s4_3 s3_3 | 4, 4, _, _ => kit_self | 4, 5, _, _ => kit_own hd5 ty5 s4_5 s5_5 | 4, 6, _, _ => kit_own hd6 ty6 s4_6 s6_6 | 4, 7, _, _ => kit_own hd7 ty7 s4_7 s7_7 | 4, 8, _, _ => kit_own hd8 ty8 s4_8 s8_8 | 4, 9, _, _ => kit_own hd9 ty9 s4_9 s9_9 | 4, 10, _, _ => kit_own hd10 ty10 s4_10 s10_10 | 4, 11, _, _ => kit_own hd11 ty11 s4_11 s11_11 | 4, 12, _, _ => kit_own hd12 ty12 s4_12 s12_12 | 5, 0, _, _ => kit_own hd0 ty0 s5_0 s0_0 | 5, 1, _, _ => kit_own hd1 ty1 s5_1 s1_1 | 5, 2, _, _ => kit_own hd2 ty2 s5_2 s2_2 | 5, 3, _, _ => kit_own hd3 ty3 s5_3 s3_3 | 5, 4, _, _ => kit_own hd4 ty4 s5_4 s4_4 | 5, 5, _, _ => kit_self | 5, 6, _, _ => kit_own hd6 ty6 s5_6 s6_6 | 5, 7, _, _ => kit_own hd7 ty7 s5_7 s7_7 | 5, 8, _, _ => kit_own hd8 ty8 s5_8 s8_8 | 5, 9, _, _ => kit_own hd9 ty9 s5_9 s9_9 | 5, 10, _, _ => kit_own hd10 ty10 s5_10 s10_10 | 5, 11, _, _ => kit_own hd11 ty11 s5_11 s11_11 | 5, 12, _, _ => kit_own hd12 ty12 s5_12 s12_12 | 6, 0, _, _ => kit_own hd0 ty0 s6_0 s0_0 | 6, 1, _, _ => kit_own hd1 ty1 s6_1 s1_1 | 6, 2, _, _ => kit_own hd2 ty2 s6_2 s2_2 | 6, 3, _, _ => kit_own hd3 ty3 s6_3 s3_3 | 6, 4, _, _ => kit_own hd4 ty4 s6_4 s4_4 | 6, 5, _, _ => kit_own hd5 ty5 s6_5 s5_5 | 6, 6, _, _ => kit_self | 6, 7, _, _ => kit_own hd7 ty7 s6_7 s7_7 | 6, 8, _, _ => kit_own hd8 ty8 s6_8 s8_8 | 6, 9, _, _ => kit_own hd9 ty9 s6_9 s9_9 | 6, 10, _, _ => kit_own hd10 ty10 s6_10 s10_10 | 6, 11, _, _ => kit_own hd11 ty11 s6_11 s11_11 | 6, 12, _, _ => kit_own hd12 ty12 s6_12 s12_12 | 7, 0, _, _ => kit_own hd0 ty0 s7_0 s0_0 | 7, 1, _, _ => kit_own hd1 ty1 s7_1 s1_1 | 7, 2, _, _ => kit_own hd2 ty2 s7_2 s2_2 | 7, 3, _, _ => kit_own hd3 ty3 s7_3 s3_3 | 7, 4, _, _ => kit_own hd4 ty4 s7_4 s4_4 | 7, 5, _, _ => kit_own hd5 ty5 s7_5 s5_5 | 7, 6, _, _ => kit_own hd6 ty6 s7_6 s6_6 | 7, 7, _, _ => kit_self | 7, 8, _, _ => kit_own hd8 ty8 s7_8 s8_8 | 7, 9, _, _ => kit_own hd9 ty9 s7_9 s9_9 | 7, 10, _, _ => kit_own hd10 ty10 s7_10 s10_10 | 7, 11, _, _ => kit_own hd11 ty11 s7_11 s11_11 | 7, 12, _, _ => kit_own hd12 ty12 s7_12 s12_12 | 8, 0, _, _ => kit_own hd0 ty0 s8_0 s0_0 | 8, 1, _, _ => kit_own hd1 ty1 s8_1 s1_1 | 8, 2, _, _ => kit_own hd2 ty2 s8_2 s2_2 | 8, 3, _, _ => kit_own hd3 ty3 s8_3 s3_3 | 8, 4, _, _ => kit_own hd4 ty4 s8_4 s4_4 | 8, 5, _, _ => kit_own hd5 ty5 s8_5 s5_5 | 8, 6, _, _ => kit_own hd6 ty6 s8_6 s6_6 | 8, 7, _, _ => kit_own hd7 ty7 s8_7 s7_7 | 8, 8, _, _ => kit_self | 8, 9, _, _ => kit_own hd9 ty9 s8_9 s9_9 | 8, 10, _, _ => kit_own hd10 ty10 s8_10 s10_10 | 8, 11, _, _ => kit_own hd11 ty11 s8_11 s11_11 | 8, 12, _, _ => kit_own hd12 ty12 s8_12 s12_12 | 9, 0, _, _ => kit_own hd0 ty0 s9_0 s0_0 | 9, 1, _, _ => kit_own hd1 ty1 s9_1 s1_1 | 9, 2, _, _ => kit_own hd2 ty2 s9_2 s2_2 | 9, 3, _, _ => kit_own hd3 ty3 s9_3 s3_3 | 9, 4, _, _ => kit_own hd4 ty4 s9_4 s4_4 | 9, 5, _, _ => kit_own hd5 ty5 s9_5 s5_5 | 9, 6, _, _ => kit_own hd6 ty6 s9_6 s6_6 | 9, 7, _, _ => kit_own hd7 ty7 s9_7 s7_7 | 9, 8, _, _ => kit_own hd8 ty8 s9_8 s8_8 | 9, 9, _, _ => kit_self | 9, 10, _, _ => kit_own hd10 ty10 s9_10 s10_10 | 9, 11, _, _ => kit_own hd11 ty11 s9_11 s11_11 | 9, 12, _, _ => kit_own hd12 ty12 s9_12 s12_12 | 10, 0, _, _ => kit_own hd0 ty0 s10_0 s0_0 | 10, 1, _, _ => kit_own hd1 ty1 s10_1 s1_1 | 10, 2, _, _ => kit_own hd2 ty2 s10_2 s2_2 | 10, 3, _, _ => kit_own hd3 ty3 s10_3 s3_3 | 10, 4, _, _ => kit_own hd4 ty4 s10_4 s4_4 | 10, 5, _, _ => kit_own hd5 ty5 s10_5 s5_5 | 10, 6, _, _ => kit_own hd6 ty6 s10_6 s6_6 | 10, 7, _, _ => kit_own hd7 ty7 s10_7 s7_7 | 10, 8, _, _ => kit_own hd8 ty8 s10_8 s8_8 | 10, 9, _, _ => kit_own hd9 ty9 s10_9 s9_9 | 10, 10, _, _ => kit_self | 10, 11, _, _ => kit_own hd11 ty11 s10_11 s11_11 | 10, 12, _, _ => kit_own hd12 ty12 s10_12 s12_12 | 11, 0, _, _ => kit_own hd0 ty0 s11_0 s0_0 | 11, 1, _, _ => kit_own hd1 ty1 s11_1 s1_1 | 11, 2, _, _ => kit_own hd2 ty2 s11_2 s2_2 | 11, 3, _, _ => kit_own hd3 ty3 s11_3 s3_3 | 11, 4, _, _ => kit_own hd4 ty4 s11_4 s4_4 | 11, 5, _, _ => kit_own hd5 ty5 s11_5 s5_5 | 11, 6, _, _ => kit_own hd6 ty6 s11_6 s6_6 | 11, 7, _, _ => kit_own hd7 ty7 s11_7 s7_7 | 11, 8, _, _ => kit_own hd8 ty8 s11_8 s8_8 | 11, 9, _, _ => kit_own hd9 ty9 s11_9 s9_9 | 11, 10, _, _ => kit_own hd10 ty10 s11_10 s10_10 | 11, 11, _, _ => kit_self | 11, 12, _, _ => kit_own hd12 ty12 s11_12 s12_12 | 12, 0, _, _ => kit_own hd0 ty0 s12_0 s0_0 | 12, 1, _, _ => kit_own hd1 ty1 s12_1 s1_1 | 12, 2, _, _ => kit_own hd2 ty2 s12_2 s2_2 | 12, 3, _, _ => kit_own hd3 ty3 s12_3 s3_3 | 12, 4, _, _ => kit_own hd4 ty4 s12_4 s4_4 | 12, 5, _, _ => kit_own hd5 ty5 s12_5 s5_5 | 12, 6, _, _ => kit_own hd6 ty6 s12_6 s6_6 | 12, 7, _, _ => kit_own hd7 ty7 s12_7 s7_7 | 12, 8, _, _ => kit_own hd8 ty8 s12_8 s8_8 | 12, 9, _, _ => kit_own hd9 ty9 s12_9 s9_9 | 12, 10, _, _ => kit_own hd10 ty10 s12_10 s10_10 | 12, 11, _, _ => kit_own hd11 ty11 s12_11 s11_11 | 12, 12, _, _ => kit_self | i + 13, _, h, _ => absurd h (by omega) | _, j + 13, _, h => absurd h (by omega), kitW := fun i hi => match i, hi with | 0, _ => kit_true hdW tyW sw0 | 1, _ => kit_true hdW tyW sw1 | 2, _ => kit_true hdW tyW sw2 | 3, _ => kit_true hdW tyW sw3 | 4, _ => kit_true hdW tyW sw4 | 5, _ => kit_true hdW tyW sw5 | 6, _ => kit_true hdW tyW sw6 | 7, _ => kit_true hdW tyW sw7 | 8, _ => kit_true hdW tyW sw8 | 9, _ => kit_true hdW tyW sw9 | 10, _ => kit_true hdW tyW sw10 | 11, _ => kit_true hdW tyW sw11 | 12, _ => kit_true hdW tyW sw12 | i + 13, h => absurd h (by omega), kitV := fun i hi => match i, hi with | 0, _ => kit_type (by decide +kernel) sv0 | 1, _ => kit_type (by decide +kernel) sv1 | 2, _ => kit_type (by decide +kernel) sv2 | 3, _ => kit_type (by decide +kernel) sv3 | 4, _ => kit_type (by decide +kernel) sv4 | 5, _ => kit_type (by decide +kernel) sv5 | 6, _ => kit_type (by decide +kernel) sv6 | 7, _ => kit_type (by decide +kernel) sv7 | 8, _ => kit_type (by decide +kernel) sv8 | 9, _ => kit_type (by decide +kernel) sv9 | 10, _ => kit_type (by decide +kernel) sv10 | 11, _ => kit_type (by decide +kernel) sv11 | 12, _ => kit_type (by decide +kernel) sv12 | i + 13, h => absurd h (by omega), n0why := na_C0_why, n0node := na_C0_node, n1node := na_C1_node, n2place := na_C2_place, n4owner := na_C4_owner, n5why := na_C5_why, n6index := na_C6_index, n6why := na_C6_why, n8count := na_C8_count }
  have TL : TxtL K mg fDigit fState fFields fClasses := ⟨PySem.W.mg_none_of X G z_range, PySem.W.mg_none_of X G z_len, PySem.W.mg_none_of X G z_enumerate, PySem.W.mg_of X G a_fDigit, k_fDigit, PySem.W.mg_of X G a_fState, k_fState, PySem.W.mg_of X G a_fFields, k_fFields, PySem.W.mg_of X G a_fClasses, k_fClasses⟩
  have O0 : OexC K C0 := ⟨⟨nm_0, q_0, N_0, bs_0, bm_0, sn_0, sub_0, ab_0, col_0, dd_0, m0_0, m1_0, m2_0, m3_0, m5_0, xL0, xR0⟩, sa0, ex0, ty0, k_C0⟩
  have O1 : OexC K C1 := ⟨⟨nm_1, q_1, N_1, bs_1, bm_1, sn_1, sub_1, ab_1, col_1, dd_1, m0_1, m1_1, m2_1, m3_1, m5_1, xL1, xR1⟩, sa1, ex1, ty1, k_C1⟩
  have O2 : OexC K C2 := ⟨⟨nm_2, q_2, N_2, bs_2, bm_2, sn_2, sub_2, ab_2, col_2, dd_2, m0_2, m1_2, m2_2, m3_2, m5_2, xL2, xR2⟩, sa2, ex2, ty2, k_C2⟩
  have O4 : OexC K C4 := ⟨⟨nm_4, q_4, N_4, bs_4, bm_4, sn_4, sub_4, ab_4, col_4, dd_4, m0_4, m1_4, m2_4, m3_4, m5_4, xL4, xR4⟩, sa4, ex4, ty4, k_C4⟩
  have O5 : OexC K C5 := ⟨⟨nm_5, q_5, N_5, bs_5, bm_5, sn_5, sub_5, ab_5, col_5, dd_5, m0_5, m1_5, m2_5, m3_5, m5_5, xL5, xR5⟩, sa5, ex5, ty5, k_C5⟩
  have O6 : OexC K C6 := ⟨⟨nm_6, q_6, N_6, bs_6, bm_6, sn_6, sub_6, ab_6, col_6, dd_6, m0_6, m1_6, m2_6, m3_6, m5_6, xL6, xR6⟩, sa6, ex6, ty6, k_C6⟩
  have O8 : OexC K C8 := ⟨⟨nm_8, q_8, N_8, bs_8, bm_8, sn_8, sub_8, ab_8, col_8, dd_8, m0_8, m1_8, m2_8, m3_8, m5_8, xL8, xR8⟩, sa8, ex8, ty8, k_C8⟩
  refine ⟨PySem.W.fnOf "law" "law" (defArgs sLaw) (defBody sLaw) (defScope sLaw) .none kV_fLaw dc_fLaw pm_fLaw an_fLaw cd_fLaw ct_fLaw, fun s u => .of_eq rfl, fun base _ _ => ?_⟩
  have g_state := ok_state (P := l.prog) (w := w) (base := base) F_fState TA
  have g_digit := ok_digit (P := l.prog) (w := w) (base := base) F_fDigit TA
  have g_fields := ok_fields (P := l.prog) (w := w) (base := base) F_fFields TC
  have g_classes := ok_classes (P := l.prog) (w := w) (base := base) F_fClasses TC
  have g_t0 : FnOk l.prog w K mg base CX0 1 T0 _ ["self"] (spTold c C0) := ok_told0 (c := c) F_T0
  have g_t1 : FnOk l.prog w K mg base CX0 1 T1 _ ["self"] (spTold c C1) := ok_told1 (c := c) F_T1
  have g_t2 : FnOk l.prog w K mg base CX0 1 T2 _ ["self"] (spTold c C2) := ok_told2 (c := c) F_T2
  have g_t3 : FnOk l.prog w K mg base CX0 1 T3 _ ["self"] (spTold c C3) := ok_told3 (c := c) F_T3
  have g_t4 : FnOk l.prog w K mg base CX0 1 T4 _ ["self"] (spTold c C4) := ok_told4 (c := c) F_T4
  have g_t5 : FnOk l.prog w K mg base CX0 1 T5 _ ["self"] (spTold c C5) := ok_told5 (c := c) F_T5
  have g_t6 : FnOk l.prog w K mg base CX0 1 T6 _ ["self"] (spTold c C6) := ok_told6 (c := c) F_T6
  have g_t7 : FnOk l.prog w K mg base CX0 1 T7 _ ["self"] (spTold c C7) := ok_told7 (c := c) F_T7
  have g_t8 : FnOk l.prog w K mg base CX0 1 T8 _ ["self"] (spTold c C8) := ok_told8 (c := c) F_T8
  have g_t9 : FnOk l.prog w K mg base CX0 1 T9 _ ["self"] (spTold c C9) := ok_told9 (c := c) F_T9
  have g_t10 : FnOk l.prog w K mg base CX0 1 T10 _ ["self"] (spTold c C10) := ok_told10 (c := c) F_T10
  have g_t11 : FnOk l.prog w K mg base CX0 1 T11 _ ["self"] (spTold c C11) := ok_told11 (c := c) F_T11
  have g_t12 : FnOk l.prog w K mg base CX0 1 T12 _ ["self"] (spTold c C12) := ok_told12 (c := c) F_T12
  have g_i0 := ok_init0 (P := l.prog) (w := w) (base := base) (mg := mg) F_I0 O0 na_C0_why na_C0_node
  have g_i1 := ok_init1 (P := l.prog) (w := w) (base := base) (mg := mg) F_I1 O1 na_C1_node
  have g_i2 := ok_init2 (P := l.prog) (w := w) (base := base) (mg := mg) F_I2 O2 na_C2_place
  have g_i4 := ok_init4 (P := l.prog) (w := w) (base := base) (mg := mg) F_I4 O4 na_C4_owner
  have g_i5 := ok_init5 (P := l.prog) (w := w) (base := base) (mg := mg) F_I5 O5 na_C5_why
  have g_i6 := ok_init6 (P := l.prog) (w := w) (base := base) (mg := mg) F_I6 O6 na_C6_index na_C6_why
  have g_i8 := ok_init8 (P := l.prog) (w := w) (base := base) (mg := mg) F_I8 O8 na_C8_count
  have hT : ∀ C, S13 c C → ∃ (f : Addr) (fd : FuncData) (ps : List Str), XC K C ∧ PySem.W.findIn K (.ref C) "told" = some (some (.ref f)) ∧ PySem.W.isFn K (.ref f) = true ∧ PySem.W.keepIn K (.ref f) = true ∧ FnOk l.prog w K mg base CX0 1 f fd ps (spTold c C) ∧ Binds K fd ps [] := by
    rintro C ⟨i, hi, rfl⟩
    match i, hi with
    | 0, _ => exact ⟨T0, _, _, xc0, a_T0, i_T0, k_T0, g_t0, b_T0⟩
    | 1, _ => exact ⟨T1, _, _, xc1, a_T1, i_T1, k_T1, g_t1, b_T1⟩
    | 2, _ => exact ⟨T2, _, _, xc2, a_T2, i_T2, k_T2, g_t2, b_T2⟩
    | 3, _ => exact ⟨T3, _, _, xc3, a_T3, i_T3, k_T3, g_t3, b_T3⟩
    | 4, _ => exact ⟨T4, _, _, xc4, a_T4, i_T4, k_T4, g_t4, b_T4⟩
    | 5, _ => exact ⟨T5, _, _, xc5, a_T5, i_T5, k_T5, g_t5, b_T5⟩
    | 6, _ => exact ⟨T6, _, _, xc6, a_T6, i_T6, k_T6, g_t6, b_T6⟩
    | 7, _ => exact ⟨T7, _, _, xc7, a_T7, i_T7, k_T7, g_t7, b_T7⟩
    | 8, _ => exact ⟨T8, _, _, xc8, a_T8, i_T8, k_T8, g_t8, b_T8⟩
    | 9, _ => exact ⟨T9, _, _, xc9, a_T9, i_T9, k_T9, g_t9, b_T9⟩
    | 10, _ => exact ⟨T10, _, _, xc10, a_T10, i_T10, k_T10, g_t10, b_T10⟩
    | 11, _ => exact ⟨T11, _, _, xc11, a_T11, i_T11, k_T11, g_t11, b_T11⟩
    | 12, _ => exact ⟨T12, _, _, xc12, a_T12, i_T12, k_T12, g_t12, b_T12⟩
    | i + 13, h => exact absurd h (by omega)
  exact ok_law F_fLaw TC TL g_digit b_fDigit g_state b_fState g_fields b_fFields g_classes b_fClasses hT O0 a_I0 tI0 g_i0 b_I0 O1 a_I1 tI1 g_i1 b_I1 O2 a_I2 tI2 g_i2 b_I2 O4 a_I4 tI4 g_i4 b_I4 O5 a_I5 tI5 g_i5 b_I5 O6 a_I6 tI6 g_i6 b_I6 O8 a_I8 tI8 g_i8 b_I8
theorem walk {l : PySem.W.OpenLaw} {q : Program} {loose : List Str} {XP : (Str → Option Value) → Heap → Prop} {YP : World → Heap → Prop} {d : DefRec} {K : Params → PySem.W.Frag} (hn : l.most = some 63) (hdf : d.params.defaults = [])
    (hY : ∀ (w : World) (h : Heap), YP w h → (K w.params).In h)
    (F : ∀ (w : World) (mg : Str → Option Value) (fa : Addr) (h : Heap), (K w.params).In h → h.Ns mainGlobals mg → mg d.name = some (.ref fa) →
      ∃ fd : FuncData, (∀ (s : Shared) (u : Value), BindsTo s fd ⟨[u], []⟩ [("_law_script", u)]) ∧ ∀ base : Heap, (K w.params).In base → base.Ns mainGlobals mg → FnOk l.prog w (K w.params) mg base CX0 3 fa fd ["_law_script"] (spLaw (K w.params))) :
    PySem.W.WalkO q loose XP YP l.row.toRowW d [] (fun f vs => PySem.call f vs) :=
  L2.walk_of (n := 63) (k := 3) (x := "_law_script") (CX := fun _ => CX0) (sp := fun w => spLaw (K w.params)) hn (by decide) hdf ⟨rfl, by decide, by decide⟩ hY F (fun _ _ a ns hl _ hS => ⟨a, ns, rfl, hS, hl, fun _ => rfl⟩) fun _ _ _ _ _ z => z
end NW

open PySem PySem.W PyProof.Rows
set_option maxRecDepth 100000 in
set_option maxHeartbeats 0 in
theorem PySem.Challenge.cw_namewalk_k01_errors_holds : PySem.Challenge.rw_namewalk_k01_errors.Holds := by
  w_on; o_law; k_head; (case hw => w_witness2)
  k_fill
  refine NW.walk (l := PySem.Challenge.rw_namewalk_k01_errors) rfl rfl (fun w h Y => PySem.W.kIn_of Y) ?F
  case F =>
    intro w mg fa h KX G hmg
    refine' NW.all_mk KX G hmg ?a_C0 ?k_C0 ?a_C1 ?k_C1 ?a_C2 ?k_C2 ?a_C3 ?k_C3 ?a_C4 ?k_C4 ?a_C5 ?k_C5 ?a_C6 ?k_C6 ?a_C7 ?k_C7 ?a_C8 ?k_C8 ?a_C9 ?k_C9 ?a_C10 ?k_C10 ?a_C11 ?k_C11 ?a_C12 ?k_C12 ?a_CW ?k_CW ?c2 ?c3 ?ga0 ?gg0 ?ex0 ?hd0 ?ha0 ?hm0 ?ty0 ?sv0 ?sw0 ?s0_0 ?s0_1 ?s0_2 ?s0_3 ?s0_4 ?s0_5 ?s0_6 ?s0_7 ?s0_8 ?s0_9 ?s0_10 ?s0_11 ?s0_12 ?ga1 ?gg1 ?ex1 ?hd1 ?ha1 ?hm1 ?ty1 ?sv1 ?sw1 ?s1_0 ?s1_1 ?s1_2 ?s1_3 ?s1_4 ?s1_5 ?s1_6 ?s1_7 ?s1_8 ?s1_9 ?s1_10 ?s1_11 ?s1_12 ?ga2 ?gg2 ?ex2 ?hd2 ?ha2 ?hm2 ?ty2 ?sv2 ?sw2 ?s2_0 ?s2_1 ?s2_2 ?s2_3 ?s2_4 ?s2_5 ?s2_6 ?s2_7 ?s2_8 ?s2_9 ?s2_10 ?s2_11 ?s2_12 ?ga3 ?gg3 ?ex3 ?hd3 ?ha3 ?hm3 ?ty3 ?sv3 ?sw3 ?s3_0 ?s3_1 ?s3_2 ?s3_3 ?s3_4 ?s3_5 ?s3_6 ?s3_7 ?s3_8 ?s3_9 ?s3_10 ?s3_11 ?s3_12 ?ga4 ?gg4 ?ex4 ?hd4 ?ha4 ?hm4 ?ty4 ?sv4 ?sw4 ?s4_0 ?s4_1 ?s4_2 ?s4_3 ?s4_4 ?s4_5 ?s4_6 ?s4_7 ?s4_8 ?s4_9 ?s4_10 ?s4_11 ?s4_12 ?ga5 ?gg5 ?ex5 ?hd5 ?ha5 ?hm5 ?ty5 ?sv5 ?sw5 ?s5_0 ?s5_1 ?s5_2 ?s5_3 ?s5_4 ?s5_5 ?s5_6 ?s5_7 ?s5_8 ?s5_9 ?s5_10 ?s5_11 ?s5_12 ?ga6 ?gg6 ?ex6 ?hd6 ?ha6 ?hm6 ?ty6 ?sv6 ?sw6 ?s6_0 ?s6_1 ?s6_2 ?s6_3 ?s6_4 ?s6_5 ?s6_6 ?s6_7 ?s6_8 ?s6_9 ?s6_10 ?s6_11 ?s6_12 ?ga7 ?gg7 ?ex7 ?hd7 ?ha7 ?hm7 ?ty7 ?sv7 ?sw7 ?s7_0 ?s7_1 ?s7_2 ?s7_3 ?s7_4 ?s7_5 ?s7_6 ?s7_7 ?s7_8 ?s7_9 ?s7_10 ?s7_11 ?s7_12 ?ga8 ?gg8 ?ex8 ?hd8 ?ha8 ?hm8 ?ty8 ?sv8 ?sw8 ?s8_0 ?s8_1 ?s8_2 ?s8_3 ?s8_4 ?s8_5 ?s8_6 ?s8_7 ?s8_8 ?s8_9 ?s8_10 ?s8_11 ?s8_12 ?ga9 ?gg9 ?ex9 ?hd9 ?ha9 ?hm9 ?ty9 ?sv9 ?sw9 ?s9_0 ?s9_1 ?s9_2 ?s9_3 ?s9_4 ?s9_5 ?s9_6 ?s9_7 ?s9_8 ?s9_9 ?s9_10 ?s9_11 ?s9_12 ?ga10 ?gg10 ?ex10 ?hd10 ?ha10 ?hm10 ?ty10 ?sv10 ?sw10 ?s10_0 ?s10_1 ?s10_2 ?s10_3 ?s10_4 ?s10_5 ?s10_6 ?s10_7 ?s10_8 ?s10_9 ?s10_10 ?s10_11 ?s10_12 ?ga11 ?gg11 ?ex11 ?hd11 ?ha11 ?hm11 ?ty11 ?sv11 ?sw11 ?s11_0 ?s11_1 ?s11_2 ?s11_3 ?s11_4 ?s11_5 ?s11_6 ?s11_7 ?s11_8 ?s11_9 ?s11_10 ?s11_11 ?s11_12 ?ga12 ?gg12 ?ex12 ?hd12 ?ha12 ?hm12 ?ty12 ?sv12 ?sw12 ?s12_0 ?s12_1 ?s12_2 ?s12_3 ?s12_4 ?s12_5 ?s12_6 ?s12_7 ?s12_8 ?s12_9 ?s12_10 ?s12_11 ?s12_12 ?hdW ?tyW ?xL0 ?xR0 ?sa0 ?na_C0_why ?na_C0_node ?xL1 ?xR1 ?sa1 ?na_C1_node ?xL2 ?xR2 ?sa2 ?na_C2_place ?xE3 ?xL4 ?xR4 ?sa4 ?na_C4_owner ?xL5 ?xR5 ?sa5 ?na_C5_why ?xL6 ?xR6 ?sa6 ?na_C6_index ?na_C6_why ?xE7 ?xL8 ?xR8 ?sa8 ?na_C8_count ?xE9 ?xE10 ?xE11 ?xE12 ?z_isinstance ?z_ValueError ?z_range ?z_len ?z_enumerate ?z_int ?z_abs ?a_T0 ?i_T0 ?l_T0 ?c_T0 ?k_T0 ?a_T1 ?i_T1 ?l_T1 ?c_T1 ?k_T1 ?a_T2 ?i_T2 ?l_T2 ?c_T2 ?k_T2 ?a_T3 ?i_T3 ?l_T3 ?c_T3 ?k_T3 ?a_T4 ?i_T4 ?l_T4 ?c_T4 ?k_T4 ?a_T5 ?i_T5 ?l_T5 ?c_T5 ?k_T5 ?a_T6 ?i_T6 ?l_T6 ?c_T6 ?k_T6 ?a_T7 ?i_T7 ?l_T7 ?c_T7 ?k_T7 ?a_T8 ?i_T8 ?l_T8 ?c_T8 ?k_T8 ?a_T9 ?i_T9 ?l_T9 ?c_T9 ?k_T9 ?a_T10 ?i_T10 ?l_T10 ?c_T10 ?k_T10 ?a_T11 ?i_T11 ?l_T11 ?c_T11 ?k_T11 ?a_T12 ?i_T12 ?l_T12 ?c_T12 ?k_T12 ?a_I0 ?i_I0 ?l_I0 ?c_I0 ?k_I0 ?tI0 ?a_I1 ?i_I1 ?l_I1 ?c_I1 ?k_I1 ?tI1 ?a_I2 ?i_I2 ?l_I2 ?c_I2 ?k_I2 ?tI2 ?a_I4 ?i_I4 ?l_I4 ?c_I4 ?k_I4 ?tI4 ?a_I5 ?i_I5 ?l_I5 ?c_I5 ?k_I5 ?tI5 ?a_I6 ?i_I6 ?l_I6 ?c_I6 ?k_I6 ?tI6 ?a_I8 ?i_I8 ?l_I8 ?c_I8 ?k_I8 ?tI8 ?a_fState ?l_fState ?c_fState ?k_fState ?a_fDigit ?l_fDigit ?c_fDigit ?k_fDigit ?a_fFields ?l_fFields ?c_fFields ?k_fFields ?a_fClasses ?l_fClasses ?c_fClasses ?k_fClasses ?a_fLaw ?l_fLaw ?c_fLaw ?k_fLaw
    (case a_C0 => k_is)
    (case k_C0 => k_is)
    (case a_C1 => k_is)
    (case k_C1 => k_is)
    (case a_C2 => k_is)
    (case k_C2 => k_is)
    (case a_C3 => k_is)
    (case k_C3 => k_is)
    (case a_C4 => k_is)
    (case k_C4 => k_is)
    (case a_C5 => k_is)
    (case k_C5 => k_is)
    (case a_C6 => k_is)
    (case k_C6 => k_is)
    (case a_C7 => k_is)
    (case k_C7 => k_is)
    (case a_C8 => k_is)
    (case k_C8 => k_is)
    (case a_C9 => k_is)
    (case k_C9 => k_is)
    (case a_C10 => k_is)
    (case k_C10 => k_is)
    (case a_C11 => k_is)
    (case k_C11 => k_is)
    (case a_C12 => k_is)
    (case k_C12 => k_is)
    (case a_CW => k_is)
    (case k_CW => k_is)
    (case c2 => k_is)
    (case c3 => k_is)
    (case ga0 => k_is)
    (case gg0 => k_is)
    (case ex0 => k_is)
    (case hd0 => k_is)
    (case ha0 => k_is)
    (case hm0 => k_is)
    (case ty0 => k_is)
    (case sv0 => k_is)
    (case sw0 => k_is)
    (case s0_0 => k_is)
    (case s0_1 => k_is)
    (case s0_2 => k_is)
    (case s0_3 => k_is)
    (case s0_4 => k_is)
    (case s0_5 => k_is)
    (case s0_6 => k_is)
    (case s0_7 => k_is)
    (case s0_8 => k_is)
    (case s0_9 => k_is)
    (case s0_10 => k_is)
    (case s0_11 => k_is)
    (case s0_12 => k_is)
    (case ga1 => k_is)
    (case gg1 => k_is)
    (case ex1 => k_is)
    (case hd1 => k_is)
    (case ha1 => k_is)
    (case hm1 => k_is)
    (case ty1 => k_is)
    (case sv1 => k_is)
    (case sw1 => k_is)
    (case s1_0 => k_is)
    (case s1_1 => k_is)
    (case s1_2 => k_is)
    (case s1_3 => k_is)
    (case s1_4 => k_is)
    (case s1_5 => k_is)
    (case s1_6 => k_is)
    (case s1_7 => k_is)
    (case s1_8 => k_is)
    (case s1_9 => k_is)
    (case s1_10 => k_is)
    (case s1_11 => k_is)
    (case s1_12 => k_is)
    (case ga2 => k_is)
    (case gg2 => k_is)
    (case ex2 => k_is)
    (case hd2 => k_is)
    (case ha2 => k_is)
    (case hm2 => k_is)
    (case ty2 => k_is)
    (case sv2 => k_is)
    (case sw2 => k_is)
    (case s2_0 => k_is)
    (case s2_1 => k_is)
    (case s2_2 => k_is)
    (case s2_3 => k_is)
    (case s2_4 => k_is)
    (case s2_5 => k_is)
    (case s2_6 => k_is)
    (case s2_7 => k_is)
    (case s2_8 => k_is)
    (case s2_9 => k_is)
    (case s2_10 => k_is)
    (case s2_11 => k_is)
    (case s2_12 => k_is)
    (case ga3 => k_is)
    (case gg3 => k_is)
    (case ex3 => k_is)
    (case hd3 => k_is)
    (case ha3 => k_is)
    (case hm3 => k_is)
    (case ty3 => k_is)
    (case sv3 => k_is)
    (case sw3 => k_is)
    (case s3_0 => k_is)
    (case s3_1 => k_is)
    (case s3_2 => k_is)
    (case s3_3 => k_is)
    (case s3_4 => k_is)
    (case s3_5 => k_is)
    (case s3_6 => k_is)
    (case s3_7 => k_is)
    (case s3_8 => k_is)
    (case s3_9 => k_is)
    (case s3_10 => k_is)
    (case s3_11 => k_is)
    (case s3_12 => k_is)
    (case ga4 => k_is)
    (case gg4 => k_is)
    (case ex4 => k_is)
    (case hd4 => k_is)
    (case ha4 => k_is)
    (case hm4 => k_is)
    (case ty4 => k_is)
    (case sv4 => k_is)
    (case sw4 => k_is)
    (case s4_0 => k_is)
    (case s4_1 => k_is)
    (case s4_2 => k_is)
    (case s4_3 => k_is)
    (case s4_4 => k_is)
    (case s4_5 => k_is)
    (case s4_6 => k_is)
    (case s4_7 => k_is)
    (case s4_8 => k_is)
    (case s4_9 => k_is)
    (case s4_10 => k_is)
    (case s4_11 => k_is)
    (case s4_12 => k_is)
    (case ga5 => k_is)
    (case gg5 => k_is)
    (case ex5 => k_is)
    (case hd5 => k_is)
    (case ha5 => k_is)
    (case hm5 => k_is)
    (case ty5 => k_is)
    (case sv5 => k_is)
    (case sw5 => k_is)
    (case s5_0 => k_is)
    (case s5_1 => k_is)
    (case s5_2 => k_is)
    (case s5_3 => k_is)
    (case s5_4 => k_is)
    (case s5_5 => k_is)
    (case s5_6 => k_is)
    (case s5_7 => k_is)
    (case s5_8 => k_is)
    (case s5_9 => k_is)
    (case s5_10 => k_is)
    (case s5_11 => k_is)
    (case s5_12 => k_is)
    (case ga6 => k_is)
    (case gg6 => k_is)
    (case ex6 => k_is)
    (case hd6 => k_is)
    (case ha6 => k_is)
    (case hm6 => k_is)
    (case ty6 => k_is)
    (case sv6 => k_is)
    (case sw6 => k_is)
    (case s6_0 => k_is)
    (case s6_1 => k_is)
    (case s6_2 => k_is)
    (case s6_3 => k_is)
    (case s6_4 => k_is)
    (case s6_5 => k_is)
    (case s6_6 => k_is)
    (case s6_7 => k_is)
    (case s6_8 => k_is)
    (case s6_9 => k_is)
    (case s6_10 => k_is)
    (case s6_11 => k_is)
    (case s6_12 => k_is)
    (case ga7 => k_is)
    (case gg7 => k_is)
    (case ex7 => k_is)
    (case hd7 => k_is)
    (case ha7 => k_is)
    (case hm7 => k_is)
    (case ty7 => k_is)
    (case sv7 => k_is)
    (case sw7 => k_is)
    (case s7_0 => k_is)
    (case s7_1 => k_is)
    (case s7_2 => k_is)
    (case s7_3 => k_is)
    (case s7_4 => k_is)
    (case s7_5 => k_is)
    (case s7_6 => k_is)
    (case s7_7 => k_is)
    (case s7_8 => k_is)
    (case s7_9 => k_is)
    (case s7_10 => k_is)
    (case s7_11 => k_is)
    (case s7_12 => k_is)
    (case ga8 => k_is)
    (case gg8 => k_is)
    (case ex8 => k_is)
    (case hd8 => k_is)
    (case ha8 => k_is)
    (case hm8 => k_is)
    (case ty8 => k_is)
    (case sv8 => k_is)
    (case sw8 => k_is)
    (case s8_0 => k_is)
    (case s8_1 => k_is)
    (case s8_2 => k_is)
    (case s8_3 => k_is)
    (case s8_4 => k_is)
    (case s8_5 => k_is)
    (case s8_6 => k_is)
    (case s8_7 => k_is)
    (case s8_8 => k_is)
    (case s8_9 => k_is)
    (case s8_10 => k_is)
    (case s8_11 => k_is)
    (case s8_12 => k_is)
    (case ga9 => k_is)
    (case gg9 => k_is)
    (case ex9 => k_is)
    (case hd9 => k_is)
    (case ha9 => k_is)
    (case hm9 => k_is)
    (case ty9 => k_is)
    (case sv9 => k_is)
    (case sw9 => k_is)
    (case s9_0 => k_is)
    (case s9_1 => k_is)
    (case s9_2 => k_is)
    (case s9_3 => k_is)
    (case s9_4 => k_is)
    (case s9_5 => k_is)
    (case s9_6 => k_is)
    (case s9_7 => k_is)
    (case s9_8 => k_is)
    (case s9_9 => k_is)
    (case s9_10 => k_is)
    (case s9_11 => k_is)
    (case s9_12 => k_is)
    (case ga10 => k_is)
    (case gg10 => k_is)
    (case ex10 => k_is)
    (case hd10 => k_is)
    (case ha10 => k_is)
    (case hm10 => k_is)
    (case ty10 => k_is)
    (case sv10 => k_is)
    (case sw10 => k_is)
    (case s10_0 => k_is)
    (case s10_1 => k_is)
    (case s10_2 => k_is)
    (case s10_3 => k_is)
    (case s10_4 => k_is)
    (case s10_5 => k_is)
    (case s10_6 => k_is)
    (case s10_7 => k_is)
    (case s10_8 => k_is)
    (case s10_9 => k_is)
    (case s10_10 => k_is)
    (case s10_11 => k_is)
    (case s10_12 => k_is)
    (case ga11 => k_is)
    (case gg11 => k_is)
    (case ex11 => k_is)
    (case hd11 => k_is)
    (case ha11 => k_is)
    (case hm11 => k_is)
    (case ty11 => k_is)
    (case sv11 => k_is)
    (case sw11 => k_is)
    (case s11_0 => k_is)
    (case s11_1 => k_is)
    (case s11_2 => k_is)
    (case s11_3 => k_is)
    (case s11_4 => k_is)
    (case s11_5 => k_is)
    (case s11_6 => k_is)
    (case s11_7 => k_is)
    (case s11_8 => k_is)
    (case s11_9 => k_is)
    (case s11_10 => k_is)
    (case s11_11 => k_is)
    (case s11_12 => k_is)
    (case ga12 => k_is)
    (case gg12 => k_is)
    (case ex12 => k_is)
    (case hd12 => k_is)
    (case ha12 => k_is)
    (case hm12 => k_is)
    (case ty12 => k_is)
    (case sv12 => k_is)
    (case sw12 => k_is)
    (case s12_0 => k_is)
    (case s12_1 => k_is)
    (case s12_2 => k_is)
    (case s12_3 => k_is)
    (case s12_4 => k_is)
    (case s12_5 => k_is)
    (case s12_6 => k_is)
    (case s12_7 => k_is)
    (case s12_8 => k_is)
    (case s12_9 => k_is)
    (case s12_10 => k_is)
    (case s12_11 => k_is)
    (case s12_12 => k_is)
    (case hdW => k_is)
    (case tyW => k_is)
    (case xL0 => k_is)
    (case xR0 => first | decide +kernel | rfl | k_is)
    (case sa0 => k_is)
    (case na_C0_why => k_is)
    (case na_C0_node => k_is)
    (case xL1 => k_is)
    (case xR1 => first | decide +kernel | rfl | k_is)
    (case sa1 => k_is)
    (case na_C1_node => k_is)
    (case xL2 => k_is)
    (case xR2 => first | decide +kernel | rfl | k_is)
    (case sa2 => k_is)
    (case na_C2_place => k_is)
    (case xE3 => first | k_exc | k_is)
    (case xL4 => k_is)
    (case xR4 => first | decide +kernel | rfl | k_is)
    (case sa4 => k_is)
    (case na_C4_owner => k_is)
    (case xL5 => k_is)
    (case xR5 => first | decide +kernel | rfl | k_is)
    (case sa5 => k_is)
    (case na_C5_why => k_is)
    (case xL6 => k_is)
    (case xR6 => first | decide +kernel | rfl | k_is)
    (case sa6 => k_is)
    (case na_C6_index => k_is)
    (case na_C6_why => k_is)
    (case xE7 => first | k_exc | k_is)
    (case xL8 => k_is)
    (case xR8 => first | decide +kernel | rfl | k_is)
    (case sa8 => k_is)
    (case na_C8_count => k_is)
    (case xE9 => first | k_exc | k_is)
    (case xE10 => first | k_exc | k_is)
    (case xE11 => first | k_exc | k_is)
    (case xE12 => first | k_exc | k_is)
    (case z_isinstance => k_is)
    (case z_ValueError => k_is)
    (case z_range => k_is)
    (case z_len => k_is)
    (case z_enumerate => k_is)
    (case z_int => k_is)
    (case z_abs => k_is)
    (case a_T0 => k_is)
    (case i_T0 => k_is)
    (case l_T0 => k_is)
    (case c_T0 => k_is)
    (case k_T0 => k_is)
    (case a_T1 => k_is)
    (case i_T1 => k_is)
    (case l_T1 => k_is)
    (case c_T1 => k_is)
    (case k_T1 => k_is)
    (case a_T2 => k_is)
    (case i_T2 => k_is)
    (case l_T2 => k_is)
    (case c_T2 => k_is)
    (case k_T2 => k_is)
    (case a_T3 => k_is)
    (case i_T3 => k_is)
    (case l_T3 => k_is)
    (case c_T3 => k_is)
    (case k_T3 => k_is)
    (case a_T4 => k_is)
    (case i_T4 => k_is)
    (case l_T4 => k_is)
    (case c_T4 => k_is)
    (case k_T4 => k_is)
    (case a_T5 => k_is)
    (case i_T5 => k_is)
    (case l_T5 => k_is)
    (case c_T5 => k_is)
    (case k_T5 => k_is)
    (case a_T6 => k_is)
    (case i_T6 => k_is)
    (case l_T6 => k_is)
    (case c_T6 => k_is)
    (case k_T6 => k_is)
    (case a_T7 => k_is)
    (case i_T7 => k_is)
    (case l_T7 => k_is)
    (case c_T7 => k_is)
    (case k_T7 => k_is)
    (case a_T8 => k_is)
    (case i_T8 => k_is)
    (case l_T8 => k_is)
    (case c_T8 => k_is)
    (case k_T8 => k_is)
    (case a_T9 => k_is)
    (case i_T9 => k_is)
    (case l_T9 => k_is)
    (case c_T9 => k_is)
    (case k_T9 => k_is)
    (case a_T10 => k_is)
    (case i_T10 => k_is)
    (case l_T10 => k_is)
    (case c_T10 => k_is)
    (case k_T10 => k_is)
    (case a_T11 => k_is)
    (case i_T11 => k_is)
    (case l_T11 => k_is)
    (case c_T11 => k_is)
    (case k_T11 => k_is)
    (case a_T12 => k_is)
    (case i_T12 => k_is)
    (case l_T12 => k_is)
    (case c_T12 => k_is)
    (case k_T12 => k_is)
    (case a_I0 => k_is)
    (case i_I0 => k_is)
    (case l_I0 => k_is)
    (case c_I0 => k_is)
    (case k_I0 => k_is)
    (case tI0 => k_is)
    (case a_I1 => k_is)
    (case i_I1 => k_is)
    (case l_I1 => k_is)
    (case c_I1 => k_is)
    (case k_I1 => k_is)
    (case tI1 => k_is)
    (case a_I2 => k_is)
    (case i_I2 => k_is)
    (case l_I2 => k_is)
    (case c_I2 => k_is)
    (case k_I2 => k_is)
    (case tI2 => k_is)
    (case a_I4 => k_is)
    (case i_I4 => k_is)
    (case l_I4 => k_is)
    (case c_I4 => k_is)
    (case k_I4 => k_is)
    (case tI4 => k_is)
    (case a_I5 => k_is)
    (case i_I5 => k_is)
    (case l_I5 => k_is)
    (case c_I5 => k_is)
    (case k_I5 => k_is)
    (case tI5 => k_is)
    (case a_I6 => k_is)
    (case i_I6 => k_is)
    (case l_I6 => k_is)
    (case c_I6 => k_is)
    (case k_I6 => k_is)
    (case tI6 => k_is)
    (case a_I8 => k_is)
    (case i_I8 => k_is)
    (case l_I8 => k_is)
    (case c_I8 => k_is)
    (case k_I8 => k_is)
    (case tI8 => k_is)
    (case a_fState => k_is)
    (case l_fState => k_is)
    (case c_fState => k_is)
    (case k_fState => k_is)
    (case a_fDigit => k_is)
    (case l_fDigit => k_is)
    (case c_fDigit => k_is)
    (case k_fDigit => k_is)
    (case a_fFields => k_is)
    (case l_fFields => k_is)
    (case c_fFields => k_is)
    (case k_fFields => k_is)
    (case a_fClasses => k_is)
    (case l_fClasses => k_is)
    (case c_fClasses => k_is)
    (case k_fClasses => k_is)
    (case a_fLaw => k_is)
    (case l_fLaw => k_is)
    (case c_fLaw => k_is)
    (case k_fLaw => k_is)
