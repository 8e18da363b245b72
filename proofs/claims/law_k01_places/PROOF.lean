import PyProof.Rows.All
import Wide.All
import OpenK.AllK
import Wide.FinOn
import HandS.ForMost
import HandS.ForExc
import HandS.Walk
import HandS.Style
import HandS.IsInst
import HandS.Deep
import HandS.StrMore
import HandS.Wide
import HandS.Conv
import HandS.Flow
import HandS.TupAny
import PySem.Challenge.RW_fieldrest_k01_places
set_option Elab.async false
set_option linter.all false
set_option maxRecDepth 100000
set_option maxHeartbeats 4000000
/-! PD: what a def does, told as a plain function over data and a store of own lists; sound over the hand layer. -/
namespace PD
open PySem PySem.Spec PyProof.Rows L2

/-! ### data, cells, results -/
inductive D where
  | non | bl (b : Bool) | int (i : Int) | str (s : Str)
  | lst (xs : List D) | tup (xs : List D) | scr (xs : List D)
  | own (k : Nat)
  deriving Inhabited
inductive Cell where
  | lst (xs : List D) | dic (kvs : List (Key × D)) | gone
  deriving Inhabited
abbrev Sto := List Cell
abbrev Sl := List (Option D)
inductive R (α : Type) where
  | ok (a : α) (s : Sto) | ex (c : Str) (s : Sto)
abbrev M (α : Type) := Sto → Option (R α)
inductive RS where
  | nx (l : Sl) (s : Sto) | rt (d : D) (s : Sto) | bk (l : Sl) (s : Sto) | ct (l : Sl) (s : Sto) | ex (c : Str) (l : Sl) (s : Sto)

mutual
/-- all own numbers are below n -/
def D.low (n : Nat) : D → Bool
  | .lst xs => D.lowAll n xs | .tup xs => D.lowAll n xs | .scr xs => D.lowAll n xs
  | .own k => decide (k < n)
  | .non => true | .bl _ => true | .int _ => true | .str _ => true
def D.lowAll (n : Nat) : List D → Bool
  | [] => true | x :: xs => D.low n x && D.lowAll n xs
end
mutual
def py : D → PyData
  | .non => .none | .bl b => .bool b | .int i => .int i | .str s => .str s
  | .lst xs => .list (pyAll xs) | .tup xs => .tuple (pyAll xs) | .scr xs => .list (pyAll xs) | .own _ => .none
def pyAll : List D → List PyData
  | [] => [] | x :: xs => py x :: pyAll xs
end

/-! ### data stands in the heap -/
mutual
inductive Rp (K : PySem.W.Frag) (H : Hp) (O : List Addr) : V → D → Prop
  | non : Rp K H O .non .non
  | bl (b : Bool) : Rp K H O (.bl b) (.bl b)
  | int (i : Int) : Rp K H O (.int i) (.int i)
  | str (x : Str) : Rp K H O (.str x) (.str x)
  | lst {a : Addr} {vs : List V} {ds : List D} : H a = some (.lst vs) → RpAll K H O vs ds → Rp K H O (.ref a) (.lst ds)
  | tup {a : Addr} {vs : List V} {ds : List D} : SqT K H a vs → RpAll K H O vs ds → Rp K H O (.ref a) (.tup ds)
  | scr {a : Addr} {vs : List V} {ds : List D} : SqL K H a vs → RpAll K H O vs ds → Rp K H O (.ref a) (.scr ds)
  | own {k : Nat} {a : Addr} : O[k]? = some a → Rp K H O (.ref a) (.own k)
inductive RpAll (K : PySem.W.Frag) (H : Hp) (O : List Addr) : List V → List D → Prop
  | nil : RpAll K H O [] []
  | cons {v : V} {vs : List V} {d : D} {ds : List D} : Rp K H O v d → RpAll K H O vs ds → RpAll K H O (v :: vs) (d :: ds)
end
theorem sameT {K : PySem.W.Frag} {H H' : Hp} {a : Addr} {xs : List V} (e : Same H H') (h : SqT K H a xs) : SqT K H' a xs := by
  rcases h with (h | ⟨o, h⟩) | h
  · exact .inl (.inl (e _ _ h))
  · exact .inl (.inr ⟨o, e _ _ h⟩)
  · exact .inr h
def Pre (O O' : List Addr) : Prop := ∃ t, O' = O ++ t
theorem Pre.refl (O : List Addr) : Pre O O := ⟨[], (List.append_nil _).symm⟩
theorem Pre.trans {A B C : List Addr} (a : Pre A B) (b : Pre B C) : Pre A C := by
  obtain ⟨t, rfl⟩ := a
  obtain ⟨u, rfl⟩ := b
  exact ⟨t ++ u, List.append_assoc _ _ _⟩
theorem Pre.get {O O' : List Addr} (p : Pre O O') {k : Nat} {a : Addr} (h : O[k]? = some a) : O'[k]? = some a := by
  obtain ⟨t, rfl⟩ := p
  rw [List.getElem?_append_left (List.getElem?_eq_some_iff.mp h).1]
  exact h
section
variable {K : PySem.W.Frag} {H H' : Hp} {O O' : List Addr}
mutual
theorem Rp.mono (e : Same H H') (p : ∀ (k : Nat) (a : Addr), O[k]? = some a → O'[k]? = some a) : ∀ (d : D) (v : V), Rp K H O v d → Rp K H' O' v d
  | .non, _, h => by cases h; exact .non
  | .bl b, _, h => by cases h; exact .bl b
  | .int i, _, h => by cases h; exact .int i
  | .str x, _, h => by cases h; exact .str x
  | .lst ds, _, h => by cases h with | lst h1 h2 => exact .lst (e _ _ h1) (RpAll.mono e p ds _ h2)
  | .tup ds, _, h => by cases h with | tup h1 h2 => exact .tup (sameT e h1) (RpAll.mono e p ds _ h2)
  | .scr ds, _, h => by cases h with | scr h1 h2 => exact .scr (e.seq h1) (RpAll.mono e p ds _ h2)
  | .own k, _, h => by cases h with | own h1 => exact .own (p _ _ h1)
theorem RpAll.mono (e : Same H H') (p : ∀ (k : Nat) (a : Addr), O[k]? = some a → O'[k]? = some a) : ∀ (ds : List D) (vs : List V), RpAll K H O vs ds → RpAll K H' O' vs ds
  | [], _, h => by cases h; exact .nil
  | d :: ds, _, h => by cases h with | cons h1 h2 => exact .cons (Rp.mono e p d _ h1) (RpAll.mono e p ds _ h2)
end
mutual
/-- what is below n stands with the first n own lists alone -/
theorem Rp.cut (n : Nat) : ∀ (d : D) (v : V), D.low n d = true → Rp K H O v d → Rp K H (O.take n) v d
  | .non, _, _, h => by cases h; exact .non
  | .bl b, _, _, h => by cases h; exact .bl b
  | .int i, _, _, h => by cases h; exact .int i
  | .str x, _, _, h => by cases h; exact .str x
  | .lst ds, _, b, h => by cases h with | lst h1 h2 => exact .lst h1 (RpAll.cut n ds _ b h2)
  | .tup ds, _, b, h => by cases h with | tup h1 h2 => exact .tup h1 (RpAll.cut n ds _ b h2)
  | .scr ds, _, b, h => by cases h with | scr h1 h2 => exact .scr h1 (RpAll.cut n ds _ b h2)
  | .own k, _, b, h => by
    cases h with
    | own h1 =>
      refine .own ?_
      have hk : k < n := of_decide_eq_true b
      rw [List.getElem?_take, if_pos hk]
      exact h1
theorem RpAll.cut (n : Nat) : ∀ (ds : List D) (vs : List V), D.lowAll n ds = true → RpAll K H O vs ds → RpAll K H (O.take n) vs ds
  | [], _, _, h => by cases h; exact .nil
  | d :: ds, _, b, h => by
    cases h with
    | cons h1 h2 =>
      have b' := Bool.and_eq_true_iff.mp b
      exact .cons (Rp.cut n d _ b'.1 h1) (RpAll.cut n ds _ b'.2 h2)
end
mutual
theorem Rp.bel : ∀ (d : D) (v : V), Rp K H O v d → D.low O.length d = true
  | .non, _, h => rfl
  | .bl b, _, h => rfl
  | .int i, _, h => rfl
  | .str x, _, h => rfl
  | .lst ds, _, h => by cases h with | lst h1 h2 => exact RpAll.bel ds _ h2
  | .tup ds, _, h => by cases h with | tup h1 h2 => exact RpAll.bel ds _ h2
  | .scr ds, _, h => by cases h with | scr h1 h2 => exact RpAll.bel ds _ h2
  | .own k, _, h => by cases h with | own h1 => exact decide_eq_true (List.getElem?_eq_some_iff.mp h1).1
theorem RpAll.bel : ∀ (ds : List D) (vs : List V), RpAll K H O vs ds → D.lowAll O.length ds = true
  | [], _, h => rfl
  | d :: ds, _, h => by cases h with | cons h1 h2 => exact Bool.and_eq_true_iff.mpr ⟨Rp.bel d _ h1, RpAll.bel ds _ h2⟩
end
theorem RpAll.length : ∀ {vs : List V} {ds : List D}, RpAll K H O vs ds → vs.length = ds.length
  | _, _, .nil => rfl
  | _, _, .cons _ t => congrArg (· + 1) (RpAll.length t)
theorem RpAll.get : ∀ {vs : List V} {ds : List D} {i : Nat} {d : D}, RpAll K H O vs ds → ds[i]? = some d → ∃ v, vs[i]? = some v ∧ Rp K H O v d
  | _, _, _, _, .nil, e => by simp at e
  | _, _, 0, _, .cons r _, e => by simp at e; subst e; exact ⟨_, rfl, r⟩
  | _, _, i + 1, d, .cons _ t, e => by
    obtain ⟨v, h1, h2⟩ := RpAll.get (i := i) (d := d) t (by simpa using e)
    exact ⟨v, by simpa using h1, h2⟩
theorem RpAll.getV : ∀ {vs : List V} {ds : List D} {i : Nat} {v : V}, RpAll K H O vs ds → vs[i]? = some v → ∃ d, ds[i]? = some d ∧ Rp K H O v d
  | _, _, _, _, .nil, e => by simp at e
  | _, _, 0, _, .cons r _, e => by simp at e; subst e; exact ⟨_, rfl, r⟩
  | _, _, i + 1, v, .cons _ t, e => by
    obtain ⟨d, h1, h2⟩ := RpAll.getV (i := i) (v := v) t (by simpa using e)
    exact ⟨d, by simpa using h1, h2⟩
theorem RpAll.append : ∀ {vs us : List V} {ds es : List D}, RpAll K H O vs ds → RpAll K H O us es → RpAll K H O (vs ++ us) (ds ++ es)
  | _, _, _, _, .nil, s => s
  | _, _, _, _, .cons r t, s => .cons r (RpAll.append t s)
theorem RpAll.one {v : V} {d : D} (h : Rp K H O v d) : RpAll K H O [v] [d] := .cons h .nil
theorem RpAll.take : ∀ {vs : List V} {ds : List D} (n : Nat), RpAll K H O vs ds → RpAll K H O (vs.take n) (ds.take n)
  | _, _, 0, _ => .nil
  | _, _, _ + 1, .nil => .nil
  | _, _, n + 1, .cons r t => .cons r (RpAll.take n t)
theorem RpAll.drop : ∀ {vs : List V} {ds : List D} (n : Nat), RpAll K H O vs ds → RpAll K H O (vs.drop n) (ds.drop n)
  | _, _, 0, r => r
  | _, _, _ + 1, .nil => .nil
  | _, _, n + 1, .cons _ t => RpAll.drop n t
theorem RpAll.reverse : ∀ {vs : List V} {ds : List D}, RpAll K H O vs ds → RpAll K H O vs.reverse ds.reverse
  | _, _, .nil => .nil
  | _, _, .cons r t => by rw [List.reverse_cons, List.reverse_cons]; exact RpAll.append (RpAll.reverse t) (.one r)
theorem RpAll.set {v : V} {d : D} (r : Rp K H O v d) : ∀ {vs : List V} {ds : List D} (i : Nat), RpAll K H O vs ds → RpAll K H O (vs.set i v) (ds.set i d)
  | _, _, _, .nil => .nil
  | _, _, 0, .cons _ t => .cons r t
  | _, _, i + 1, .cons q t => .cons q (RpAll.set r i t)
theorem RpAll.dropLast {vs : List V} {ds : List D} (h : RpAll K H O vs ds) : RpAll K H O vs.dropLast ds.dropLast := by
  rw [List.dropLast_eq_take, List.dropLast_eq_take, h.length]
  exact h.take _
end

/-! ### the base: the stable part H0 of the heap, the own lists at O -/
def CellOk (K : PySem.W.Frag) (H H0 : Hp) (O : List Addr) (a : Addr) : Cell → Prop
  | .lst xs => ∃ vs, H a = some (.lst vs) ∧ RpAll K H0 O vs xs ∧ H0 a = none
  | .dic kvs => ∃ ks, H a = some (.dK ks) ∧ Paired (fun (p : Key × V) (q : Key × D) => p.1 = q.1 ∧ Rp K H0 O p.2 q.2) ks kvs ∧ H0 a = none
  | .gone => True
structure Base (K : PySem.W.Frag) (H H0 : Hp) (O : List Addr) (sto : Sto) : Prop where
  sub : Same H0 H
  nd : O.Nodup
  len : O.length = sto.length
  live : ∀ a ∈ O, H a ≠ none
  cell : ∀ (k : Nat) (a : Addr) (c : Cell), O[k]? = some a → sto[k]? = some c → CellOk K H H0 O a c
structure Ext (H H0 : Hp) (O : List Addr) (H' H0' : Hp) (O' : List Addr) : Prop where
  h0 : Same H0 H0'
  o : Pre O O'
  fresh : ∀ a ∈ O', a ∈ O ∨ H a = none
  frame : ∀ a o, H a = some o → a ∉ O → H' a = some o
  live : ∀ a, H a ≠ none → H' a ≠ none
  h0n : ∀ a, H0' a ≠ none → H0 a ≠ none ∨ H a = none ∨ a ∈ O
theorem Ext.refl (H H0 : Hp) (O : List Addr) : Ext H H0 O H H0 O := ⟨.refl _, .refl _, fun _ h => .inl h, fun _ _ h _ => h, fun _ h => h, fun _ h => .inl h⟩
theorem Ext.trans {A A0 B B0 C C0 : Hp} {P Q R : List Addr} (a : Ext A A0 P B B0 Q) (b : Ext B B0 Q C C0 R) : Ext A A0 P C C0 R where
  h0 := a.h0.trans b.h0
  o := a.o.trans b.o
  fresh := fun x hx => by
    rcases b.fresh x hx with h | h
    · exact a.fresh x h
    · refine .inr ?_
      cases q : A x with
      | none => rfl
      | some o => exact absurd h (a.live x (by rw [q]; simp))
  frame := fun x o h hn => b.frame x o (a.frame x o h hn) fun hx => (a.fresh x hx).elim hn fun z => by rw [z] at h; cases h
  live := fun x h => b.live x (a.live x h)
  h0n := fun x h => by
    rcases b.h0n x h with h | h | h
    · exact a.h0n x h
    · refine .inr (.inl ?_)
      cases q : A x with
      | none => rfl
      | some o => exact absurd h (a.live x (by rw [q]; simp))
    · rcases a.fresh x h with h | h
      · exact .inr (.inr h)
      · exact .inr (.inl h)
section
variable {K : PySem.W.Frag} {H H0 H' H0' : Hp} {O O' : List Addr} {sto sto' : Sto}
theorem Ext.rp {d : D} {v : V} (e : Ext H H0 O H' H0' O') (r : Rp K H0 O v d) : Rp K H0' O' v d := Rp.mono e.h0 (fun _ _ h => e.o.get h) d v r
theorem Ext.rps {ds : List D} {vs : List V} (e : Ext H H0 O H' H0' O') (r : RpAll K H0 O vs ds) : RpAll K H0' O' vs ds := RpAll.mono e.h0 (fun _ _ h => e.o.get h) ds vs r
theorem CellOk.mono {a : Addr} {c : Cell} (h : CellOk K H H0 O a c) (e : Same H0 H0') (p : ∀ (k : Nat) (a : Addr), O[k]? = some a → O'[k]? = some a) (ha : H' a = H a) (h0 : H0' a = none) : CellOk K H' H0' O' a c := by
  cases c with
  | lst xs => obtain ⟨vs, h1, h2, _⟩ := h; exact ⟨vs, ha.trans h1, RpAll.mono e p _ _ h2, h0⟩
  | dic kvs => obtain ⟨ks, h1, h2, _⟩ := h; exact ⟨ks, ha.trans h1, Paired.mapP h2 fun _ _ z => ⟨z.1, Rp.mono e p _ _ z.2⟩, h0⟩
  | gone => trivial
theorem CellOk.none {a : Addr} {c : Cell} (h : CellOk K H H0 O a c) (hc : c ≠ .gone) : H0 a = Option.none := by
  cases c with
  | lst xs => obtain ⟨_, _, _, z⟩ := h; exact z
  | dic kvs => obtain ⟨_, _, _, z⟩ := h; exact z
  | gone => exact absurd rfl hc
theorem get_mem {O : List Addr} {k : Nat} {a : Addr} (h : O[k]? = some a) : a ∈ O := List.mem_iff_getElem?.mpr ⟨k, h⟩
theorem get_inj {O : List Addr} (nd : O.Nodup) {j k : Nat} {a : Addr} (h : O[j]? = some a) (h' : O[k]? = some a) : j = k := by
  obtain ⟨h1, e1⟩ := List.getElem?_eq_some_iff.mp h
  obtain ⟨h2, e2⟩ := List.getElem?_eq_some_iff.mp h'
  exact (List.getElem_inj nd).mp (e1.trans e2.symm)
/-- a new stable object -/
theorem Base.new (B : Base K H H0 O sto) {p : Addr} (hp : H p = none) (o : HO) : Base K (upd H p o) (upd H0 p o) O sto ∧ Ext H H0 O (upd H p o) (upd H0 p o) O := by
  have hp0 : H0 p = none := by
    cases q : H0 p with
    | none => rfl
    | some u => rw [B.sub _ _ q] at hp; cases hp
  have s0 : Same H0 (upd H0 p o) := fun b u e => by rw [upd_ne (ne_of_none e hp0)]; exact e
  have ne : ∀ a ∈ O, a ≠ p := fun a ha e => by subst e; exact B.live a ha hp
  refine ⟨⟨fun b u e => ?_, B.nd, B.len, fun a ha => ?_, fun k a c h1 h2 => ?_⟩, ⟨s0, .refl _, fun _ h => .inl h, fun a u h _ => ?_, fun a h => ?_, fun a h => ?_⟩⟩
  · by_cases hb : b = p
    · subst hb; rw [upd_same] at e ⊢; exact e
    · rw [upd_ne hb] at e ⊢; exact B.sub _ _ e
  · rw [upd_ne (ne a ha)]; exact B.live a ha
  · have q := B.cell k a c h1 h2
    have hn := ne a (get_mem h1)
    by_cases hg : c = .gone
    · subst hg; trivial
    · exact q.mono s0 (fun _ _ h => h) (upd_ne hn) (by rw [upd_ne hn]; exact q.none hg)
  · rw [upd_ne (ne_of_none h hp)]; exact h
  · by_cases hb : a = p
    · subst hb; exact absurd hp h
    · rw [upd_ne hb]; exact h
  · by_cases hb : a = p
    · subst hb; exact .inr (.inl hp)
    · rw [upd_ne hb] at h; exact .inl h
/-- a new own object -/
theorem Base.newOwn (B : Base K H H0 O sto) {p : Addr} (hp : H p = none) {o : HO} {c : Cell} (hc : CellOk K (upd H p o) H0 O p c) :
    Base K (upd H p o) H0 (O ++ [p]) (sto ++ [c]) ∧ Ext H H0 O (upd H p o) H0 (O ++ [p]) := by
  have ne : ∀ a ∈ O, a ≠ p := fun a ha e => by subst e; exact B.live a ha hp
  have pr : ∀ (k : Nat) (a : Addr), O[k]? = some a → (O ++ [p])[k]? = some a := fun k a h => Pre.get ⟨_, rfl⟩ h
  have hp0 : H0 p = none := by
    cases q : H0 p with
    | none => rfl
    | some u => rw [B.sub _ _ q] at hp; cases hp
  refine ⟨⟨fun b u e => ?_, ?_, by simp [B.len], fun a ha => ?_, fun k a c' h1 h2 => ?_⟩, ⟨.refl _, ⟨_, rfl⟩, fun a h => ?_, fun a u h _ => ?_, fun a h => ?_, fun _ h => .inl h⟩⟩
  · rw [upd_ne (ne_of_none e hp0)]; exact B.sub _ _ e
  · rw [List.nodup_append]
    refine ⟨B.nd, by simp, fun a ha b hb => ?_⟩
    rw [List.mem_singleton.mp hb]
    exact ne a ha
  · rcases List.mem_append.mp ha with ha | ha
    · rw [upd_ne (ne a ha)]; exact B.live a ha
    · rw [List.mem_singleton.mp ha, upd_same]; simp
  · by_cases hk : k < O.length
    · rw [List.getElem?_append_left hk] at h1
      rw [List.getElem?_append_left (by rw [← B.len]; exact hk)] at h2
      have q := B.cell k a c' h1 h2
      by_cases hg : c' = .gone
      · subst hg; trivial
      · exact q.mono (.refl _) pr (upd_ne (ne a (get_mem h1))) (q.none hg)
    · have hk2 : k = O.length := by
        have := (List.getElem?_eq_some_iff.mp h1).1
        rw [List.length_append, List.length_singleton] at this
        omega
      subst hk2
      rw [List.getElem?_append_right (Nat.le_refl _), Nat.sub_self] at h1
      rw [List.getElem?_append_right (by rw [B.len]; exact Nat.le_refl _), B.len, Nat.sub_self] at h2
      cases h1; cases h2
      by_cases hg : c = .gone
      · subst hg; trivial
      · exact hc.mono (.refl _) pr rfl (hc.none hg)
  · rcases List.mem_append.mp h with h | h
    · exact .inl h
    · rw [List.mem_singleton.mp h]; exact .inr hp
  · rw [upd_ne (ne_of_none h hp)]; exact h
  · by_cases hb : a = p
    · subst hb; exact absurd hp h
    · rw [upd_ne hb]; exact h
/-- an own object is written -/
theorem Base.write (B : Base K H H0 O sto) {k : Nat} {a : Addr} (hk : O[k]? = some a) (h0 : H0 a = none) {o : HO} {c : Cell} (hc : CellOk K (upd H a o) H0 O a c) :
    Base K (upd H a o) H0 O (sto.set k c) ∧ Ext H H0 O (upd H a o) H0 O := by
  refine ⟨⟨fun b u e => ?_, B.nd, by rw [List.length_set]; exact B.len, fun b hb => ?_, fun j b c' h1 h2 => ?_⟩, ⟨.refl _, .refl _, fun _ h => .inl h, fun b u h hn => ?_, fun b h => ?_, fun _ h => .inl h⟩⟩
  · rw [upd_ne (ne_of_none e h0)]; exact B.sub _ _ e
  · by_cases e : b = a
    · subst e; rw [upd_same]; simp
    · rw [upd_ne e]; exact B.live b hb
  · by_cases hj : j = k
    · subst hj
      rw [hk] at h1; cases h1
      rw [List.getElem?_set_self (by rw [← B.len]; exact (List.getElem?_eq_some_iff.mp hk).1)] at h2
      cases h2
      exact hc
    · rw [List.getElem?_set_ne (Ne.symm hj)] at h2
      have q := B.cell j b c' h1 h2
      have hb : b ≠ a := fun e => by subst e; exact hj (get_inj B.nd h1 hk)
      by_cases hg : c' = .gone
      · subst hg; trivial
      · exact q.mono (.refl _) (fun _ _ h => h) (upd_ne hb) (q.none hg)
  · have hb : b ≠ a := fun e => by subst e; exact hn (get_mem hk)
    rw [upd_ne hb]; exact h
  · by_cases e : b = a
    · subst e; rw [upd_same]; simp
    · rw [upd_ne e]; exact h
/-- an own list becomes stable -/
theorem Base.freeze (B : Base K H H0 O sto) {k : Nat} {a : Addr} {vs : List V} (hk : O[k]? = some a) (h0 : H0 a = none) (ha : H a = some (.lst vs)) :
    Base K H (upd H0 a (.lst vs)) O (sto.set k .gone) ∧ Ext H H0 O H (upd H0 a (.lst vs)) O := by
  have s0 : Same H0 (upd H0 a (.lst vs)) := fun b u e => by rw [upd_ne (ne_of_none e h0)]; exact e
  refine ⟨⟨fun b u e => ?_, B.nd, by rw [List.length_set]; exact B.len, B.live, fun j b c' h1 h2 => ?_⟩, ⟨s0, .refl _, fun _ h => .inl h, fun _ _ h _ => h, fun _ h => h, fun b h => ?_⟩⟩
  · by_cases hb : b = a
    · subst hb; rw [upd_same] at e; cases e; exact ha
    · rw [upd_ne hb] at e; exact B.sub _ _ e
  · by_cases hj : j = k
    · subst hj
      rw [List.getElem?_set_self (by rw [← B.len]; exact (List.getElem?_eq_some_iff.mp hk).1)] at h2
      cases h2
      trivial
    · rw [List.getElem?_set_ne (Ne.symm hj)] at h2
      have q := B.cell j b c' h1 h2
      have hb : b ≠ a := fun e => by subst e; exact hj (get_inj B.nd h1 hk)
      by_cases hg : c' = .gone
      · subst hg; trivial
      · exact q.mono s0 (fun _ _ h => h) rfl (by rw [upd_ne hb]; exact q.none hg)
  · by_cases hb : b = a
    · subst hb; exact .inr (.inr (get_mem hk))
    · rw [upd_ne hb] at h; exact .inl h
/-- forgetting the own lists from n on -/
theorem Base.cut (B : Base K H H0 O sto) {n : Nat} (s0 : Sto) (hl : s0.length = n) (hs : ∃ t, sto = s0 ++ t) (hb : ∀ c ∈ s0, match c with | .lst xs => D.lowAll n xs = true | .dic kvs => ∀ q ∈ kvs, D.low n q.2 = true | .gone => True) :
    Base K H H0 (O.take n) s0 := by
  obtain ⟨t, rfl⟩ := hs
  have hO : n ≤ O.length := by rw [B.len, List.length_append]; omega
  refine ⟨B.sub, B.nd.sublist (List.take_sublist _ _), by rw [List.length_take]; omega, fun a ha => B.live a (List.mem_of_mem_take ha), fun k a c h1 h2 => ?_⟩
  have hk : k < n := by rw [← hl]; exact (List.getElem?_eq_some_iff.mp h2).1
  rw [List.getElem?_take, if_pos hk] at h1
  have q := B.cell k a c h1 (by rw [List.getElem?_append_left (by omega)]; exact h2)
  have m := hb c (List.mem_iff_getElem?.mpr ⟨k, h2⟩)
  cases c with
  | lst xs => obtain ⟨vs, e1, e2, e3⟩ := q; exact ⟨vs, e1, RpAll.cut n _ _ m e2, e3⟩
  | dic kvs =>
    obtain ⟨ks, e1, e2, e3⟩ := q
    refine ⟨ks, e1, ?_, e3⟩
    clear e1 h2
    induction e2 with
    | nil => exact .nil
    | cons r _ ih => exact .cons ⟨r.1, Rp.cut n _ _ (m _ List.mem_cons_self) r.2⟩ (ih fun q hq => m q (List.mem_cons_of_mem _ hq))
  | gone => trivial
end
end PD

set_option Elab.async false
set_option linter.all false
set_option maxRecDepth 100000
set_option maxHeartbeats 4000000
/-! PD: readings of expressions. -/
namespace PD
open PySem PySem.Spec PyProof.Rows L2

/-! ### the monad -/
def retM {α : Type} (a : α) : M α := fun s => some (.ok a s)
def bindM {α β : Type} (m : M α) (k : α → M β) : M β := fun s => match m s with
  | none => none
  | some (.ok a s') => k a s'
  | some (.ex c s') => some (.ex c s')
def liftO {α : Type} (o : Sto → Option α) : M α := fun s => match o s with
  | none => none
  | some a => some (.ok a s)

abbrev Rep (β α : Type) := Hp → List Addr → β → α → Prop
def PostG (K : PySem.W.Frag) (mg : Str → Option Value) {β α : Type} (rp : Rep β α) (H H0 : Hp) (O : List Addr) (Q : β → Hp → Prop) (E : XK) : R α → Prop
  | .ok a s => ∀ b H' H0' O', Base K H' H0' O' s → Ext H H0 O H' H0' O' → rp H0' O' b a → Q b H'
  | .ex c s => ∀ cls dd H' H0' O', mg c = some cls → Base K H' H0' O' s → Ext H H0 O H' H0' O' → E cls dd H'
section
variable {K : PySem.W.Frag} {mg : Str → Option Value} {β α β' α' : Type} {rp : Rep β α} {rp' : Rep β' α'} {H H0 H1 H01 : Hp} {O O1 : List Addr} {E : XK}
theorem PostG.mono {Q Q' : β → Hp → Prop} {r : R α} (p : PostG K mg rp H H0 O Q E r) (h : ∀ b H, Q b H → Q' b H) : PostG K mg rp H H0 O Q' E r := by
  cases r with
  | ok a s => exact fun b H' H0' O' x y z => h _ _ (p b H' H0' O' x y z)
  | ex c s => exact p
theorem PostG.monoE {E' : XK} {Q : β → Hp → Prop} {r : R α} (p : PostG K mg rp H H0 O Q E r) (h : ∀ c d H, E c d H → E' c d H) : PostG K mg rp H H0 O Q E' r := by
  cases r with
  | ok a s => exact p
  | ex c s => exact fun cls dd H' H0' O' x y z => h _ _ _ (p cls dd H' H0' O' x y z)
theorem PostG.ext {Q : β → Hp → Prop} {r : R α} (p : PostG K mg rp H H0 O Q E r) (X : Ext H H0 O H1 H01 O1) : PostG K mg rp H1 H01 O1 Q E r := by
  cases r with
  | ok a s => exact fun b H' H0' O' x y z => p b H' H0' O' x (X.trans y) z
  | ex c s => exact fun cls dd H' H0' O' x y z => p cls dd H' H0' O' x y (X.trans z)
/-- where one stands in the midst of an expression -/
def Mid (K : PySem.W.Frag) (mg : Str → Option Value) {β α β' α' : Type} (rp : Rep β α) (rp' : Rep β' α') (k : α → M α') (H H0 : Hp) (O : List Addr) (Q : β' → Hp → Prop) (E : XK) (b : β) (H1 : Hp) : Prop :=
  ∃ H0' O' s a r, Base K H1 H0' O' s ∧ Ext H H0 O H1 H0' O' ∧ rp H0' O' b a ∧ k a s = some r ∧ PostG K mg rp' H1 H0' O' Q E r
theorem PostG.bind {m : M α} {k : α → M α'} {sto : Sto} {r : R α'} {Q : β' → Hp → Prop} (h : bindM m k sto = some r) (p : PostG K mg rp' H H0 O Q E r) :
    ∃ r1, m sto = some r1 ∧ PostG K mg rp H H0 O (Mid K mg rp rp' k H H0 O Q E) E r1 := by
  unfold bindM at h
  cases e : m sto with
  | none => rw [e] at h; cases h
  | some r1 =>
    rw [e] at h
    refine ⟨r1, rfl, ?_⟩
    cases r1 with
    | ok a s => exact fun b H' H0' O' x y z => ⟨H0', O', s, a, r, x, y, z, h, p.ext y⟩
    | ex c s =>
      cases h
      exact p
theorem PostG.one {o : Sto → Option α} {sto : Sto} {r : R α} {Q : β → Hp → Prop} (h : liftO o sto = some r) : ∃ a, o sto = some a ∧ r = .ok a sto := by
  unfold liftO at h
  cases e : o sto with
  | none => rw [e] at h; cases h
  | some a => rw [e] at h; cases h; exact ⟨a, rfl, rfl⟩
end

/-! ### slots -/
structure RpSl (K : PySem.W.Frag) (H0 : Hp) (O : List Addr) (σ : L2.St) (sl : Sl) : Prop where
  len : σ.length = sl.length
  at_ : ∀ (i : Nat) (d : D), sl[i]? = some (some d) → ∃ v, σ[i]? = some (some v) ∧ Rp K H0 O v d
section
variable {K : PySem.W.Frag} {H H0 H' H0' : Hp} {O O' : List Addr} {σ : L2.St} {sl : Sl}
theorem RpSl.ext (r : RpSl K H0 O σ sl) (e : Ext H H0 O H' H0' O') : RpSl K H0' O' σ sl :=
  ⟨r.len, fun i d h => let ⟨v, h1, h2⟩ := r.at_ i d h; ⟨v, h1, e.rp h2⟩⟩
theorem RpSl.set (r : RpSl K H0 O σ sl) {v : V} {d : D} (h : Rp K H0 O v d) (i : Nat) : RpSl K H0 O (σ.set i (some v)) (sl.set i (some d)) := by
  refine ⟨by rw [List.length_set, List.length_set]; exact r.len, fun j e h1 => ?_⟩
  by_cases hj : j = i
  · subst hj
    have hl : j < sl.length := by
      have := (List.getElem?_eq_some_iff.mp h1).1
      rw [List.length_set] at this
      exact this
    rw [List.getElem?_set_self hl] at h1
    cases h1
    rw [List.getElem?_set_self (by rw [r.len]; exact hl)]
    exact ⟨v, rfl, h⟩
  · rw [List.getElem?_set_ne (Ne.symm hj)] at h1 ⊢
    exact r.at_ j e h1
def wipeS (sl : Sl) : List Nat → Sl
  | [] => sl
  | v :: vs => (wipeS sl vs).set v none
theorem RpSl.forget (r : RpSl K H0 O σ sl) (i : Nat) : RpSl K H0 O (σ.set i none) (sl.set i none) := by
  refine ⟨by rw [List.length_set, List.length_set]; exact r.len, fun j e h1 => ?_⟩
  by_cases hj : j = i
  · subst hj
    have hl : j < sl.length := by
      have := (List.getElem?_eq_some_iff.mp h1).1
      rw [List.length_set] at this
      exact this
    rw [List.getElem?_set_self hl] at h1
    cases h1
  · rw [List.getElem?_set_ne (Ne.symm hj)] at h1 ⊢
    exact r.at_ j e h1
theorem RpSl.wipe (r : RpSl K H0 O σ sl) : ∀ vs : List Nat, RpSl K H0 O (wipe σ vs) (wipeS sl vs)
  | [] => r
  | v :: vs => (RpSl.wipe r vs).forget v
end

/-! ### the reading -/
/-- a reading by a function over the slots -/
def tG (K : PySem.W.Frag) (mg : Str → Option Value) (W : WX) {β α : Type} (rp : Rep β α) (f : Sl → M α) : L2.St → Hp → (β → Hp → Prop) → Prop := fun σ H Q =>
  ∃ H0 O sl sto r, Base K H H0 O sto ∧ RpSl K H0 O σ sl ∧ f sl sto = some r ∧ PostG K mg rp H H0 O Q (fun c d H' => W c d σ H') r
abbrev eqB : Rep Bool Bool := fun _ _ b a => b = a
abbrev tE (K : PySem.W.Frag) (mg : Str → Option Value) (W : WX) (f : Sl → M D) : TE := tG K mg W (Rp K) f
abbrev tA (K : PySem.W.Frag) (mg : Str → Option Value) (W : WX) (f : Sl → M (List D)) : TA := tG K mg W (RpAll K) f
abbrev tT (K : PySem.W.Frag) (mg : Str → Option Value) (W : WX) (f : Sl → M Bool) : TT := tG K mg W eqB f
section
variable {X : Cx} {e : Expr} {es : List Expr}
theorem PE.imp {t t' : TE} (h : PE X e t) (i : ∀ σ H Q, t' σ H Q → t σ H Q) : PE X e t' := ⟨fun pins s σ H Q I q => h.run pins s σ H Q I (i _ _ _ q)⟩
theorem PT.imp {t t' : TT} (h : PT X e t) (i : ∀ σ H Q, t' σ H Q → t σ H Q) : PT X e t' := ⟨fun pins s σ H Q I q => h.run pins s σ H Q I (i _ _ _ q)⟩
theorem PW.imp {t t' : TT} (h : PW X e t) (i : ∀ σ H Q, t' σ H Q → t σ H Q) : PW X e t' := ⟨fun wh pins s σ H Q I q => h.run wh pins s σ H Q I (i _ _ _ q)⟩
theorem PA.imp {t t' : TA} (h : PA X es t) (i : ∀ σ H Q, t' σ H Q → t σ H Q) : PA X es t' := ⟨fun p pins s σ H Q I q => h.run p pins s σ H Q I (i _ _ _ q)⟩
end
/-- the step: the first of a chain -/
theorem tG_bind {K : PySem.W.Frag} {mg : Str → Option Value} {W : WX} {β α β' α' : Type} {rp : Rep β α} {rp' : Rep β' α'} {f : Sl → M α} {k : Sl → α → M α'} {σ : L2.St} {H : Hp} {Q : β' → Hp → Prop}
    (h : tG K mg W rp' (fun sl => bindM (f sl) (k sl)) σ H Q) :
    tG K mg W rp f σ H (fun b H1 => ∃ H0 O sl s a r, Base K H1 H0 O s ∧ RpSl K H0 O σ sl ∧ rp H0 O b a ∧ k sl a s = some r ∧ PostG K mg rp' H1 H0 O Q (fun c d H' => W c d σ H') r) := by
  obtain ⟨H0, O, sl, sto, r, B, S, e, p⟩ := h
  obtain ⟨r1, e1, p1⟩ := PostG.bind (rp := rp) e p
  refine ⟨H0, O, sl, sto, r1, B, S, e1, p1.mono fun b H1 q => ?_⟩
  obtain ⟨H0', O', s, a, r', B', X', ra, e', p'⟩ := q
  exact ⟨H0', O', sl, s, a, r', B', S.ext X', ra, e', p'⟩
theorem tG_mono {K : PySem.W.Frag} {mg : Str → Option Value} {W : WX} {β α : Type} {rp : Rep β α} {f : Sl → M α} {σ : L2.St} {H : Hp} {Q Q' : β → Hp → Prop} (t : tG K mg W rp f σ H Q) (h : ∀ b H, Q b H → Q' b H) : tG K mg W rp f σ H Q' := by
  obtain ⟨H0, O, sl, sto, r, B, S, e, p⟩ := t
  exact ⟨H0, O, sl, sto, r, B, S, e, p.mono h⟩
/-- the last of a chain: what is told of values -/
theorem post_ok {K : PySem.W.Frag} {mg : Str → Option Value} {β α : Type} {rp : Rep β α} {H H0 : Hp} {O : List Addr} {Q : β → Hp → Prop} {E : XK} {a : α} {s : Sto} {b : β}
    (p : PostG K mg rp H H0 O Q E (.ok a s)) (B : Base K H H0 O s) (r : rp H0 O b a) : Q b H := p b H H0 O B (.refl _ _ _) r

/-! ### values of one sort -/
def lsOf (sto : Sto) : D → Option (List D)
  | .lst xs => some xs
  | .scr xs => some xs
  | .own k => match sto[k]? with | some (.lst xs) => some xs | _ => none
  | _ => none
def seqOf (sto : Sto) : D → Option (List D)
  | .tup xs => some xs
  | d => lsOf sto d
section
variable {K : PySem.W.Frag} {H H0 : Hp} {O : List Addr} {sto : Sto} {d : D} {v : V} {xs : List D}
theorem lsOf_ok (B : Base K H H0 O sto) (r : Rp K H0 O v d) (h : lsOf sto d = some xs) : ∃ a vs, v = .ref a ∧ SqL K H a vs ∧ RpAll K H0 O vs xs := by
  cases d with
  | lst ys => cases h; cases r with | lst h1 h2 => exact ⟨_, _, rfl, SqL.of (B.sub _ _ h1), h2⟩
  | scr ys => cases h; cases r with | scr h1 h2 => exact ⟨_, _, rfl, B.sub.seq h1, h2⟩
  | own k =>
    cases r with
    | own h1 =>
      rename_i a
      cases e : sto[k]? with
      | none => simp only [lsOf, e] at h; cases h
      | some c =>
        cases c with
        | lst ys =>
          simp only [lsOf, e] at h
          cases h
          obtain ⟨vs, q1, q2, _⟩ := B.cell k _ _ h1 e
          exact ⟨a, vs, rfl, SqL.of q1, q2⟩
        | dic _ => simp only [lsOf, e] at h; cases h
        | gone => simp only [lsOf, e] at h; cases h
  | _ => cases h
theorem seqOf_ok (B : Base K H H0 O sto) (r : Rp K H0 O v d) (h : seqOf sto d = some xs) : ∃ a vs, v = .ref a ∧ (SqL K H a vs ∨ SqT K H a vs) ∧ RpAll K H0 O vs xs := by
  cases d with
  | tup ys => cases h; cases r with | tup h1 h2 => exact ⟨_, _, rfl, .inr (sameT B.sub h1), h2⟩
  | lst ys => obtain ⟨a, vs, e, h1, h2⟩ := lsOf_ok B r h; exact ⟨a, vs, e, .inl h1, h2⟩
  | scr ys => obtain ⟨a, vs, e, h1, h2⟩ := lsOf_ok B r h; exact ⟨a, vs, e, .inl h1, h2⟩
  | own k => obtain ⟨a, vs, e, h1, h2⟩ := lsOf_ok B r h; exact ⟨a, vs, e, .inl h1, h2⟩
  | _ => cases h
end

/-! ### names, constants, chains -/
section
variable {X : Cx} {W : WX} {e a b c : Expr} {es : List Expr} {pos : Pos} {f g : Sl → M D} {h : Sl → M (List D)}
def fVar (i : Nat) : Sl → M D := fun sl s => match sl[i]? with | some (some d) => some (.ok d s) | _ => none
theorem tG_of {K : PySem.W.Frag} {mg : Str → Option Value} {β α : Type} {rp : Rep β α} {f : Sl → M α} {σ : L2.St} {H : Hp} {Q : β → Hp → Prop} (t : tG K mg W rp f σ H Q) :
    ∃ H0 O sl sto r, Base K H H0 O sto ∧ RpSl K H0 O σ sl ∧ f sl sto = some r ∧ PostG K mg rp H H0 O Q (fun c d H' => W c d σ H') r := t
theorem e_var (i : Nat) {x : Str} {pos : Pos} (hN : X.N[i]? = some x := by rfl) (hv : Vis X.env.scope x := by first | exact Or.inl rfl | exact Or.inr (Or.inl rfl) | exact Or.inr (Or.inr rfl)) (hd : (x == ("__debug__" : Str)) = false := by decide)
    (hcd : (x == ("__classdict__" : Str)) = false := by decide) : PE X (.Name x pos) (tE X.K X.mg W (fVar i)) := by
  refine PE.imp (pe_var (i := i) hN hv hd hcd) fun σ H Q t => ?_
  obtain ⟨H0, O, sl, sto, r, B, S, q, p⟩ := t
  unfold fVar at q
  split at q
  · rename_i d hd
    cases q
    obtain ⟨v, h1, h2⟩ := S.at_ i d hd
    exact ⟨v, h1, post_ok p B h2⟩
  · cases q
def fC (d : D) : Sl → M D := fun _ => retM d
theorem e_const {v : V} {d : D} (he : PE X e (tC v)) (hd : ∀ H O, Rp X.K H O v d) : PE X e (tE X.K X.mg W (fC d)) := by
  refine PE.imp he fun σ H Q t => ?_
  obtain ⟨H0, O, sl, sto, r, B, S, q, p⟩ := t
  cases q
  exact post_ok p B (hd _ _)
theorem e_int {i j pos} : PE X (.Constant (.int i) j pos) (tE X.K X.mg W (fC (.int i))) := e_const pe_int fun _ _ => .int i
theorem e_bl {b j pos} : PE X (.Constant (.bool b) j pos) (tE X.K X.mg W (fC (.bl b))) := e_const pe_bl fun _ _ => .bl b
theorem e_non {j pos} : PE X (.Constant .none j pos) (tE X.K X.mg W (fC .non)) := e_const pe_non fun _ _ => .non
theorem e_str {x j pos} : PE X (.Constant (.str x) j pos) (tE X.K X.mg W (fC (.str x))) := e_const pe_str fun _ _ => .str x
/-- arguments -/
def fNil : Sl → M (List D) := fun _ => retM []
def fCons (f : Sl → M D) (h : Sl → M (List D)) : Sl → M (List D) := fun sl => bindM (f sl) fun x => bindM (h sl) fun xs => retM (x :: xs)
theorem a_nil : PA X [] (tA X.K X.mg W fNil) := by
  refine PA.imp pa_nil fun σ H Q t => ?_
  obtain ⟨H0, O, sl, sto, r, B, S, q, p⟩ := t
  cases q
  exact post_ok p B .nil
theorem a_cons (he : PE X e (tE X.K X.mg W f)) (hr : PA X es (tA X.K X.mg W h)) (hs : starEach (e :: es) X.env = (false, eval e X.env) :: starEach es X.env := by rfl) : PA X (e :: es) (tA X.K X.mg W (fCons f h)) := by
  refine PA.imp (pa_cons he hr hs) fun σ H Q t => ?_
  refine tG_mono (tG_bind t) fun v H1 z => ?_
  obtain ⟨H0', O', sl', s', x, r', B', S', rx, q', p'⟩ := z
  obtain ⟨r2, e2, p2⟩ := PostG.bind (rp := RpAll X.K) q' p'
  refine ⟨H0', O', sl', s', r2, B', S', e2, p2.mono fun vs H2 z => ?_⟩
  obtain ⟨H02, O2, s2, xs, r3, B2, X2, rxs, q3, p3⟩ := z
  cases q3
  exact post_ok p3 B2 (.cons (X2.rp rx) rxs)
/-- one operand -/
def f1 (o : Sto → D → Option D) (f : Sl → M D) : Sl → M D := fun sl => bindM (f sl) fun x => liftO fun s => o s x
def f2 (o : Sto → D → D → Option D) (f g : Sl → M D) : Sl → M D := fun sl => bindM (f sl) fun x => bindM (g sl) fun y => liftO fun s => o s x y
/-- what an operation on values keeps -/
def rD1 (K : PySem.W.Frag) (o : Sto → D → Option D) : V → Hp → VK → Prop := fun x H Q => ∃ H0 O sto d z, Base K H H0 O sto ∧ Rp K H0 O x d ∧ o sto d = some z ∧ ∀ v H' H0', Base K H' H0' O sto → Ext H H0 O H' H0' O → Rp K H0' O v z → Q v H'
def rD2 (K : PySem.W.Frag) (o : Sto → D → D → Option D) : R2 := fun x y H Q => ∃ H0 O sto d e z, Base K H H0 O sto ∧ Rp K H0 O x d ∧ Rp K H0 O y e ∧ o sto d e = some z ∧ ∀ v H' H0', Base K H' H0' O sto → Ext H H0 O H' H0' O → Rp K H0' O v z → Q v H'
theorem tE_f1 {o : Sto → D → Option D} {σ : L2.St} {H : Hp} {Q : VK} (t : tE X.K X.mg W (f1 o f) σ H Q) : tE X.K X.mg W f σ H fun x H1 => rD1 X.K o x H1 Q := by
  refine tG_mono (tG_bind t) fun v H1 z => ?_
  obtain ⟨H0', O', sl', s', x, r', B', S', rx, q', p'⟩ := z
  obtain ⟨y, hy, rfl⟩ := PostG.one (Q := Q) q'
  exact ⟨H0', O', s', x, y, B', rx, hy, fun v H' H0'' b x r => p' v H' H0'' O' b x r⟩
theorem tE_f2 {o : Sto → D → D → Option D} {σ : L2.St} {H : Hp} {Q : VK} (t : tE X.K X.mg W (f2 o f g) σ H Q) : tE X.K X.mg W f σ H fun x H1 => tE X.K X.mg W g σ H1 fun y H2 => rD2 X.K o x y H2 Q := by
  refine tG_mono (tG_bind t) fun v H1 z => ?_
  obtain ⟨H0', O', sl', s', x, r', B', S', rx, q', p'⟩ := z
  obtain ⟨r2, e2, p2⟩ := PostG.bind (rp := Rp X.K) q' p'
  refine ⟨H0', O', sl', s', r2, B', S', e2, p2.mono fun y H2 z => ?_⟩
  obtain ⟨H02, O2, s2, ys, r3, B2, X2, ry, q3, p3⟩ := z
  obtain ⟨y', hy, rfl⟩ := PostG.one (Q := Q) q3
  exact ⟨H02, O2, s2, x, ys, y', B2, X2.rp rx, ry, hy, fun v H' H0'' b x r => p3 v H' H0'' O2 b x r⟩
theorem e_bin {op : Operator} {o : Sto → D → D → Option D} (ho : OpR X (binaryOp op) (rD2 X.K o)) (ha : PE X a (tE X.K X.mg W f)) (hb : PE X b (tE X.K X.mg W g)) : PE X (.BinOp a op b pos) (tE X.K X.mg W (f2 o f g)) :=
  PE.imp (pe_op ho ha hb) fun _ _ _ t => tE_f2 t
theorem e_cmp {op : CmpOp} {o : Sto → D → D → Option D} (ho : OpR X (compareOp op) (rD2 X.K o)) (ha : PE X a (tE X.K X.mg W f)) (hb : PE X b (tE X.K X.mg W g)) (hm : behindInMarks op b = false := by first | exact nomark _ | rfl) : PE X (.Compare a [op] [b] pos) (tE X.K X.mg W (f2 o f g)) :=
  PE.imp (pe_cmpR ho ha hb hm) fun _ _ _ t => tE_f2 t
/-- tests -/
def asB : D → Option Bool | .bl b => some b | _ => none
def fB (f : Sl → M D) : Sl → M Bool := fun sl => bindM (f sl) fun x => liftO fun _ => asB x
theorem tT_fB {σ : L2.St} {H : Hp} {Q : Bool → Hp → Prop} (t : tT X.K X.mg W (fB f) σ H Q) : tE X.K X.mg W f σ H fun x H1 => ∃ k, x = .bl k ∧ Q k H1 := by
  refine tG_mono (tG_bind t) fun v H1 z => ?_
  obtain ⟨H0', O', sl', s', x, r', B', S', rx, q', p'⟩ := z
  obtain ⟨y, hy, rfl⟩ := PostG.one (Q := Q) q'
  cases x with
  | bl k => cases hy; cases rx; exact ⟨_, rfl, post_ok p' B' rfl⟩
  | _ => cases hy
theorem b_cmp {op : CmpOp} {o : Sto → D → D → Option D} (ho : OpR X (compareOp op) (rD2 X.K o)) (ha : PE X a (tE X.K X.mg W f)) (hb : PE X b (tE X.K X.mg W g)) (hm : behindInMarks op b = false := by first | exact nomark _ | rfl) : PT X (.Compare a [op] [b] pos) (tT X.K X.mg W (fB (f2 o f g))) :=
  PT.imp (pt_cmpR ho ha hb hm) fun _ _ _ t => (tE_f2 (tT_fB t))
/-- the truth of a value -/
def truO (s : Sto) : D → Option Bool
  | .non => some false
  | .bl b => some b
  | .int i => some (i != 0)
  | .str x => if x.length ≤ 16777216 then some ((x.length : Int) != 0) else none
  | d => (seqOf s d).map fun xs => !xs.isEmpty
def fTru (f : Sl → M D) : Sl → M Bool := fun sl => bindM (f sl) fun x => liftO fun s => truO s x
theorem empty_of {K : PySem.W.Frag} {H : Hp} {O : List Addr} {vs : List V} {xs : List D} (r : RpAll K H O vs xs) : vs.isEmpty = xs.isEmpty := by
  cases r <;> rfl
theorem b_tru (ha : PE X e (tE X.K X.mg W f)) (he : ∀ whole, isTrue e X.env whole = (do let v ← whole; standAt e.pos; holding [v] (truthy v)) := by intro _; rfl) : PT X e (tT X.K X.mg W (fTru f)) := by
  refine PT.imp (pt_truth ha he) fun σ H Q t => ?_
  refine tG_mono (tG_bind t) fun v H1 z => ?_
  obtain ⟨H0', O', sl', s', x, r', B', S', rx, q', p'⟩ := z
  obtain ⟨y, hy, rfl⟩ := PostG.one (Q := Q) q'
  refine ⟨y, ?_, post_ok p' B' rfl⟩
  have seq : ∀ d, Rp X.K H0' O' v d → (seqOf s' d).map (fun xs => !xs.isEmpty) = some y → TruV X.K v H1 y := fun d rd h => by
    cases e : seqOf s' d with
    | none => rw [e] at h; cases h
    | some xs =>
      rw [e] at h
      cases h
      obtain ⟨a, vs, rfl, hs, rs⟩ := seqOf_ok B' rd e
      rcases hs with hs | hs
      · exact .inl ⟨vs, hs, by rw [empty_of rs]⟩
      · exact .inr (.inl ⟨vs, hs, by rw [empty_of rs]⟩)
  cases x with
  | non => cases rx; cases hy; rfl
  | bl b => cases rx; cases hy; rfl
  | int i => cases rx; cases hy; rfl
  | str z =>
    cases rx
    have hy' : (if z.length ≤ 16777216 then some ((z.length : Int) != 0) else none) = some y := hy
    split at hy'
    · rename_i hz
      cases hy'
      exact ⟨by rw [sizeLine_eq]; exact hz, rfl⟩
    · cases hy'
  | lst xs => exact seq _ rx hy
  | tup xs => exact seq _ rx hy
  | scr xs => exact seq _ rx hy
  | own k => exact seq _ rx hy
def fNot (f : Sl → M Bool) : Sl → M Bool := fun sl => bindM (f sl) fun x => retM (!x)
def fAnd (f g : Sl → M Bool) : Sl → M Bool := fun sl => bindM (f sl) fun x => if x = true then g sl else retM false
def fOr (f g : Sl → M Bool) : Sl → M Bool := fun sl => bindM (f sl) fun x => if x = true then retM true else g sl
variable {u v : Sl → M Bool}
theorem b_not (ha : PT X a (tT X.K X.mg W u)) : PT X (.UnaryOp .Not a pos) (tT X.K X.mg W (fNot u)) := by
  refine PT.imp (pt_not ha) fun σ H Q t => ?_
  refine tG_mono (tG_bind t) fun v H1 z => ?_
  obtain ⟨H0', O', sl', s', x, r', B', S', rx, q', p'⟩ := z
  cases rx
  cases q'
  exact post_ok p' B' rfl
theorem w_and {rest : List Expr} (ha : PT X a (tT X.K X.mg W u)) (hb : PW X (.BoolOp .And (b :: rest) pos) (tT X.K X.mg W v)) : PW X (.BoolOp .And (a :: b :: rest) pos) (tT X.K X.mg W (fAnd u v)) := by
  refine PW.imp (pw_and ha hb) fun σ H Q t => ?_
  refine tG_mono (tG_bind t) fun y H1 z => ?_
  obtain ⟨H0', O', sl', s', x, r', B', S', rx, q', p'⟩ := z
  cases rx
  cases y with
  | true => exact iteT ⟨H0', O', sl', s', r', B', S', q', p'⟩
  | false => cases q'; exact iteF (post_ok p' B' rfl)
theorem w_or {rest : List Expr} (ha : PT X a (tT X.K X.mg W u)) (hb : PW X (.BoolOp .Or (b :: rest) pos) (tT X.K X.mg W v)) : PW X (.BoolOp .Or (a :: b :: rest) pos) (tT X.K X.mg W (fOr u v)) := by
  refine PW.imp (pw_or ha hb) fun σ H Q t => ?_
  refine tG_mono (tG_bind t) fun y H1 z => ?_
  obtain ⟨H0', O', sl', s', x, r', B', S', rx, q', p'⟩ := z
  cases rx
  cases y with
  | true => cases q'; exact iteT (post_ok p' B' rfl)
  | false => exact iteF ⟨H0', O', sl', s', r', B', S', q', p'⟩
theorem w_and1 (ha : PT X a (tT X.K X.mg W u)) : PW X (.BoolOp .And [a] pos) (tT X.K X.mg W u) := pw_and1 ha
theorem w_or1 (ha : PT X a (tT X.K X.mg W u)) : PW X (.BoolOp .Or [a] pos) (tT X.K X.mg W u) := pw_or1 ha
theorem b_w (h : PW X e (tT X.K X.mg W u)) : PT X e (tT X.K X.mg W u) := h.pt
/-- and, or, not as values of truths -/
def fAndV (f g : Sl → M D) : Sl → M D := fun sl => bindM (f sl) fun x => match x with | .bl true => g sl | .bl false => retM (.bl false) | _ => fun _ => none
def fOrV (f g : Sl → M D) : Sl → M D := fun sl => bindM (f sl) fun x => match x with | .bl true => retM (.bl true) | .bl false => g sl | _ => fun _ => none
theorem e_and {rest : List Expr} (ha : PE X a (tE X.K X.mg W f)) (hb : PE X (.BoolOp .And (b :: rest) pos) (tE X.K X.mg W g)) : PE X (.BoolOp .And (a :: b :: rest) pos) (tE X.K X.mg W (fAndV f g)) := by
  refine PE.imp (pe_and ha hb) fun σ H Q t => ?_
  refine tG_mono (tG_bind t) fun y H1 z => ?_
  obtain ⟨H0', O', sl', s', x, r', B', S', rx, q', p'⟩ := z
  cases x with
  | bl k =>
    cases rx
    refine ⟨k, rfl, ?_⟩
    cases k with
    | true => exact iteT ⟨H0', O', sl', s', r', B', S', q', p'⟩
    | false => cases q'; exact iteF (post_ok p' B' (.bl false))
  | _ => cases q'
theorem e_or {rest : List Expr} (ha : PE X a (tE X.K X.mg W f)) (hb : PE X (.BoolOp .Or (b :: rest) pos) (tE X.K X.mg W g)) : PE X (.BoolOp .Or (a :: b :: rest) pos) (tE X.K X.mg W (fOrV f g)) := by
  refine PE.imp (pe_or ha hb) fun σ H Q t => ?_
  refine tG_mono (tG_bind t) fun y H1 z => ?_
  obtain ⟨H0', O', sl', s', x, r', B', S', rx, q', p'⟩ := z
  cases x with
  | bl k =>
    cases rx
    refine ⟨k, rfl, ?_⟩
    cases k with
    | true => cases q'; exact iteT (post_ok p' B' (.bl true))
    | false => exact iteF ⟨H0', O', sl', s', r', B', S', q', p'⟩
  | _ => cases q'
theorem e_one {op} (h : PE X a (tE X.K X.mg W f)) : PE X (.BoolOp op [a] pos) (tE X.K X.mg W f) := pe_one h
def notO (_ : Sto) : D → Option D | .bl b => some (.bl (!b)) | _ => none
theorem e_not (ha : PE X a (tE X.K X.mg W f)) : PE X (.UnaryOp .Not a pos) (tE X.K X.mg W (f1 notO f)) := by
  refine PE.imp (pe_not ha) fun σ H Q t => ?_
  refine tG_mono (tE_f1 t) fun y H1 z => ?_
  obtain ⟨H0', O', s', x, z', B', rx, hz, k⟩ := z
  cases x with
  | bl b => cases rx; cases hz; exact ⟨b, rfl, k _ _ _ B' (.refl _ _ _) (.bl _)⟩
  | _ => cases hz
def fIf (u : Sl → M Bool) (f g : Sl → M D) : Sl → M D := fun sl => bindM (u sl) fun x => if x = true then f sl else g sl
theorem e_if (hc : PT X c (tT X.K X.mg W u)) (ha : PE X a (tE X.K X.mg W f)) (hb : PE X b (tE X.K X.mg W g)) : PE X (.IfExp c a b pos) (tE X.K X.mg W (fIf u f g)) := by
  refine PE.imp (pe_ifExp hc ha hb) fun σ H Q t => ?_
  refine tG_mono (tG_bind t) fun y H1 z => ?_
  obtain ⟨H0', O', sl', s', x, r', B', S', rx, q', p'⟩ := z
  cases rx
  cases y with
  | true => exact iteT ⟨H0', O', sl', s', r', B', S', q', p'⟩
  | false => exact iteF ⟨H0', O', sl', s', r', B', S', q', p'⟩
/-- -a -/
def negO (_ : Sto) : D → Option D | .int i => some (.int (-i)) | _ => none
theorem e_neg (ha : PE X a (tE X.K X.mg W f)) : PE X (.UnaryOp .USub a pos) (tE X.K X.mg W (f1 negO f)) := by
  refine PE.imp (pe_un un_neg ha) fun σ H Q t => ?_
  refine tG_mono (tE_f1 t) fun y H1 z => ?_
  obtain ⟨H0', O', s', x, z', B', rx, hz, k⟩ := z
  cases x with
  | int i => cases rx; cases hz; exact ⟨i, rfl, k _ _ _ B' (.refl _ _ _) (.int _)⟩
  | _ => cases hz
/-! ### displays -/
def small (n : Nat) : Bool := decide (n ≤ 16777216)
def fTup (h : Sl → M (List D)) : Sl → M D := fun sl => bindM (h sl) fun xs => liftO fun _ => if small xs.length = true then some (.tup xs) else none
def fLst (h : Sl → M (List D)) : Sl → M D := fun sl => bindM (h sl) fun xs => liftO fun _ => if small xs.length = true then some (.lst xs) else none
/-- a display of a list of one's own -/
def fOwn (h : Sl → M (List D)) : Sl → M D := fun sl => bindM (h sl) fun xs s => if small xs.length = true then some (.ok (.own s.length) (s ++ [.lst xs])) else none
theorem small_ok {n : Nat} (h : small n = true) : n ≤ sizeLine := by rw [sizeLine_eq]; exact of_decide_eq_true h
theorem e_tup {x1} (ha : PA X es (tA X.K X.mg W h)) : PE X (.Tuple es x1 pos) (tE X.K X.mg W (fTup h)) := by
  refine PE.imp (pe_tup ha) fun σ H Q t => ?_
  refine tG_mono (tG_bind t) fun vs H1 z => ?_
  obtain ⟨H0', O', sl', s', xs, r', B', S', rx, q', p'⟩ := z
  obtain ⟨y, hy, rfl⟩ := PostG.one (Q := Q) q'
  split at hy
  · rename_i hz
    cases hy
    refine ⟨by rw [rx.length]; exact small_ok hz, fun p0 hp => ?_⟩
    obtain ⟨b1, b2⟩ := B'.new hp (.tup vs)
    exact p' _ _ _ _ b1 b2 (.tup (SqT.of upd_same) (b2.rps rx))
  · cases hy
theorem e_lst (ha : PA X es (tA X.K X.mg W h)) : PE X (.List es pos) (tE X.K X.mg W (fLst h)) := by
  refine PE.imp (pe_lst ha) fun σ H Q t => ?_
  refine tG_mono (tG_bind t) fun vs H1 z => ?_
  obtain ⟨H0', O', sl', s', xs, r', B', S', rx, q', p'⟩ := z
  obtain ⟨y, hy, rfl⟩ := PostG.one (Q := Q) q'
  split at hy
  · rename_i hz
    cases hy
    refine ⟨by rw [rx.length]; exact small_ok hz, fun p0 hp => ?_⟩
    obtain ⟨b1, b2⟩ := B'.new hp (.lst vs)
    exact p' _ _ _ _ b1 b2 (.lst upd_same (b2.rps rx))
  · cases hy
theorem none0 {K : PySem.W.Frag} {H H0 : Hp} {O : List Addr} {sto : Sto} (B : Base K H H0 O sto) {p : Addr} (hp : H p = none) : H0 p = none := by
  cases q : H0 p with
  | none => rfl
  | some u => rw [B.sub _ _ q] at hp; cases hp
theorem own_new {K : PySem.W.Frag} {H H0 : Hp} {O : List Addr} {sto : Sto} (B : Base K H H0 O sto) {p : Addr} (hp : H p = none) {vs : List V} {xs : List D} (rx : RpAll K H0 O vs xs) :
    Base K (upd H p (.lst vs)) H0 (O ++ [p]) (sto ++ [.lst xs]) ∧ Ext H H0 O (upd H p (.lst vs)) H0 (O ++ [p]) ∧ Rp K H0 (O ++ [p]) (.ref p) (.own sto.length) := by
  obtain ⟨b1, b2⟩ := B.newOwn hp (o := .lst vs) (c := .lst xs) ⟨vs, upd_same, rx, none0 B hp⟩
  refine ⟨b1, b2, .own ?_⟩
  rw [← B.len, List.getElem?_append_right (Nat.le_refl _), Nat.sub_self]
  rfl
theorem e_own (ha : PA X es (tA X.K X.mg W h)) : PE X (.List es pos) (tE X.K X.mg W (fOwn h)) := by
  refine PE.imp (pe_lst ha) fun σ H Q t => ?_
  refine tG_mono (tG_bind t) fun vs H1 z => ?_
  obtain ⟨H0', O', sl', s', xs, r', B', S', rx, q', p'⟩ := z
  have q2 : (if small xs.length = true then some (R.ok (D.own s'.length) (s' ++ [.lst xs])) else none) = some r' := q'
  split at q2
  · rename_i hz
    cases q2
    refine ⟨by rw [rx.length]; exact small_ok hz, fun p0 hp => ?_⟩
    obtain ⟨b1, b2, b3⟩ := own_new B' hp rx
    exact p' _ _ _ _ b1 b2 b3
  · cases q2
end
end PD

set_option Elab.async false
set_option linter.all false
set_option maxRecDepth 100000
set_option maxHeartbeats 4000000
/-! PD: operations on data. -/
namespace PD
open PySem PySem.Spec PyProof.Rows L2
section
variable {X : Cx}

/-! ### arithmetic -/
/-- a list whose object is tracked -/
def rawOf (sto : Sto) : D → Option (List D)
  | .lst xs => some xs
  | .own k => match sto[k]? with | some (.lst xs) => some xs | _ => none
  | _ => none
theorem rawOf_ok {K : PySem.W.Frag} {H H0 : Hp} {O : List Addr} {sto : Sto} {d : D} {v : V} {xs : List D} (B : Base K H H0 O sto) (r : Rp K H0 O v d) (h : rawOf sto d = some xs) : ∃ a vs, v = .ref a ∧ H a = some (.lst vs) ∧ RpAll K H0 O vs xs := by
  cases d with
  | lst ys => cases h; cases r with | lst h1 h2 => exact ⟨_, _, rfl, B.sub _ _ h1, h2⟩
  | own k =>
    cases r with
    | own h1 =>
      rename_i a
      cases e : sto[k]? with
      | none => simp only [rawOf, e] at h; cases h
      | some c =>
        cases c with
        | lst ys =>
          simp only [rawOf, e] at h
          cases h
          obtain ⟨vs, q1, q2, _⟩ := B.cell k _ _ h1 e
          exact ⟨a, vs, rfl, q1, q2⟩
        | dic _ => simp only [rawOf, e] at h; cases h
        | gone => simp only [rawOf, e] at h; cases h
  | _ => cases h
def addO (s : Sto) : D → D → Option D
  | .int i, .int j => some (.int (i + j))
  | .str a, .str b => if small (a.length + b.length) = true then some (.str (a ++ b)) else none
  | .tup a, .tup b => if small (a.length + b.length) = true then some (.tup (a ++ b)) else none
  | d, e => match rawOf s d, rawOf s e with
    | some a, some b => if small (a.length + b.length) = true then some (.lst (a ++ b)) else none
    | _, _ => none
theorem o_add : OpR X (binaryOp .Add) (rD2 X.K addO) := by
  intro pins s σ H x y v u Q I rx ry h
  obtain ⟨H0, O, sto, d, e, z, B, rd, re, hz, k⟩ := h
  unfold addO at hz
  split at hz
  · cases rd; cases re; cases hz
    exact op_add pins s σ H _ _ v u Q I rx ry ⟨_, _, rfl, rfl, k _ _ _ B (.refl _ _ _) (.int _)⟩
  · split at hz
    · rename_i hs
      cases rd; cases re; cases hz
      exact op_add_str pins s σ H _ _ v u Q I rx ry ⟨_, _, rfl, rfl, small_ok hs, k _ _ _ B (.refl _ _ _) (.str _)⟩
    · cases hz
  · split at hz
    · rename_i hs
      cases hz
      cases rd with
      | tup h1 h2 =>
        cases re with
        | tup g1 g2 =>
          refine op_catA pins s σ H _ _ v u Q I rx ry ⟨_, _, _, _, rfl, rfl, sameT B.sub h1, sameT B.sub g1, by rw [h2.length, g2.length]; exact small_ok hs, fun e => ?_, fun _ e => ?_, fun _ _ p hp => ?_⟩
          · subst e
            cases h2
            exact k _ _ _ B (.refl _ _ _) (.tup g1 g2)
          · subst e
            cases g2
            refine k _ _ _ B (.refl _ _ _) ?_
            rw [List.append_nil]
            exact .tup h1 h2
          · obtain ⟨b1, b2⟩ := B.new hp (.tup _)
            exact k _ _ _ b1 b2 (.tup (SqT.of upd_same) ((b2.rps h2).append (b2.rps g2)))
    · cases hz
  · split at hz
    · rename_i a b ha hb
      split at hz
      · rename_i hs
        cases hz
        obtain ⟨p1, vs, rfl, h1, h2⟩ := rawOf_ok B rd ha
        obtain ⟨p2, us, rfl, g1, g2⟩ := rawOf_ok B re hb
        refine op_cat pins s σ H _ _ v u Q I rx ry ⟨_, _, _, _, rfl, rfl, h1, g1, by rw [h2.length, g2.length]; exact small_ok hs, fun p hp => ?_⟩
        obtain ⟨b1, b2⟩ := B.new hp (.lst (vs ++ us))
        exact k _ _ _ b1 b2 (.lst upd_same ((b2.rps h2).append (b2.rps g2)))
      · cases hz
    · cases hz
def subO (_ : Sto) : D → D → Option D
  | .int i, .int j => some (.int (i - j))
  | _, _ => none
theorem o_sub : OpR X (binaryOp .Sub) (rD2 X.K subO) := by
  intro pins s σ H x y v u Q I rx ry h
  obtain ⟨H0, O, sto, d, e, z, B, rd, re, hz, k⟩ := h
  unfold subO at hz
  split at hz
  · cases rd; cases re; cases hz
    exact op_sub pins s σ H _ _ v u Q I rx ry ⟨_, _, rfl, rfl, k _ _ _ B (.refl _ _ _) (.int _)⟩
  · cases hz
def mulOk (i j : Int) : Bool := (decide (-(2 ^ 64) < i) && decide (i < 2 ^ 64)) || (decide (-(2 ^ 64) < j) && decide (j < 2 ^ 64))
def mulO (_ : Sto) : D → D → Option D
  | .int i, .int j => if mulOk i j = true then some (.int (i * j)) else none
  | _, _ => none
theorem mulOk_ok {i j : Int} (h : mulOk i j = true) : CMul i j := by
  unfold mulOk at h
  simp only [Bool.or_eq_true, Bool.and_eq_true, decide_eq_true_eq] at h
  exact h
theorem o_mul : OpR X (binaryOp .Mult) (rD2 X.K mulO) := by
  intro pins s σ H x y v u Q I rx ry h
  obtain ⟨H0, O, sto, d, e, z, B, rd, re, hz, k⟩ := h
  unfold mulO at hz
  split at hz
  · split at hz
    · rename_i hs
      cases rd; cases re; cases hz
      exact op_mul pins s σ H _ _ v u Q I rx ry ⟨_, _, rfl, rfl, mulOk_ok hs, k _ _ _ B (.refl _ _ _) (.int _)⟩
    · cases hz
  · cases hz
def modO (_ : Sto) : D → D → Option D
  | .int i, .int j => if 0 < j then some (.int (i % j)) else none
  | _, _ => none
theorem o_mod : OpR X (binaryOp .Mod) (rD2 X.K modO) := by
  intro pins s σ H x y v u Q I rx ry h
  obtain ⟨H0, O, sto, d, e, z, B, rd, re, hz, k⟩ := h
  unfold modO at hz
  split at hz
  · split at hz
    · rename_i i j hs
      cases rd; cases re; cases hz
      refine op_modN pins s σ H _ _ v u Q I rx ry ⟨_, _, rfl, rfl, by omega, ?_⟩
      have e : i.fmod j = i % j := Int.fmod_eq_emod_of_nonneg i (by omega)
      show Q (V.int (i.fmod j)) H
      rw [e]
      exact k _ _ _ B (.refl _ _ _) (.int _)
    · cases hz
  · cases hz
def fdivO (_ : Sto) : D → D → Option D
  | .int i, .int j => if 0 < j ∧ j < 1073741824 then some (.int (i / j)) else none
  | _, _ => none
theorem o_fdiv : OpR X (binaryOp .FloorDiv) (rD2 X.K fdivO) := by
  intro pins s σ H x y v u Q I rx ry h
  obtain ⟨H0, O, sto, d, e, z, B, rd, re, hz, k⟩ := h
  unfold fdivO at hz
  split at hz
  · split at hz
    · rename_i i j hs
      cases rd; cases re; cases hz
      refine op_fdivN pins s σ H _ _ v u Q I rx ry ⟨_, _, rfl, rfl, ⟨by omega, by omega⟩, ?_⟩
      have e : i.fdiv j = i / j := Int.fdiv_eq_ediv_of_nonneg i (by omega)
      show Q (V.int (i.fdiv j)) H
      rw [e]
      exact k _ _ _ B (.refl _ _ _) (.int _)
    · cases hz
  · cases hz
def powO (_ : Sto) : D → D → Option D
  | .int i, .int j => if 0 ≤ j ∧ j ≤ 64 ∧ i.natAbs < 2 ^ 64 then some (.int (i ^ j.toNat)) else none
  | _, _ => none
theorem o_pow : OpR X (binaryOp .Pow) (rD2 X.K powO) := by
  intro pins s σ H x y v u Q I rx ry h
  obtain ⟨H0, O, sto, d, e, z, B, rd, re, hz, k⟩ := h
  unfold powO at hz
  split at hz
  · split at hz
    · rename_i i j hs
      cases rd; cases re; cases hz
      exact op_pow pins s σ H _ _ v u Q I rx ry ⟨_, _, rfl, rfl, ⟨hs.1, by omega, hs.2.2⟩, k _ _ _ B (.refl _ _ _) (.int _)⟩
    · cases hz
  · cases hz

/-! ### equality -/
mutual
theorem Rp.dp {K : PySem.W.Frag} {H : Hp} {O : List Addr} : ∀ (d : D) (v : V), D.low 0 d = true → Rp K H O v d → Dp K H v (py d)
  | .non, _, _, h => by cases h; exact .non
  | .bl b, _, _, h => by cases h; exact .bl b
  | .int i, _, _, h => by cases h; exact .int i
  | .str x, _, _, h => by cases h; exact .str x
  | .lst ds, _, b, h => by cases h with | lst h1 h2 => exact .lst (SqL.of h1) (RpAll.dp ds _ b h2)
  | .tup ds, _, b, h => by cases h with | tup h1 h2 => exact .tup h1 (RpAll.dp ds _ b h2)
  | .scr ds, _, b, h => by cases h with | scr h1 h2 => exact .lst h1 (RpAll.dp ds _ b h2)
  | .own k, _, b, h => absurd (show decide (k < 0) = true from b) (by simp)
theorem RpAll.dp {K : PySem.W.Frag} {H : Hp} {O : List Addr} : ∀ (ds : List D) (vs : List V), D.lowAll 0 ds = true → RpAll K H O vs ds → DpAll K H vs (pyAll ds)
  | [], _, _, h => by cases h; exact .nil
  | d :: ds, _, b, h => by
    cases h with
    | cons h1 h2 =>
      have b' := Bool.and_eq_true_iff.mp b
      exact .cons (Rp.dp d _ b'.1 h1) (RpAll.dp ds _ b'.2 h2)
end
def peek (sto : Sto) : D → D
  | .own k => match sto[k]? with | some (.lst xs) => .scr xs | _ => .own k
  | d => d
theorem peek_rp {K : PySem.W.Frag} {H H0 : Hp} {O : List Addr} {sto : Sto} {d : D} {v : V} (B : Base K H H0 O sto) (r : Rp K H0 O v d) : Rp K H O v (peek sto d) := by
  have go : ∀ d, Rp K H0 O v d → Rp K H O v d := fun d r => Rp.mono B.sub (fun _ _ h => h) d v r
  unfold peek
  split
  · rename_i k
    split
    · rename_i xs e
      cases r with
      | own h1 =>
        obtain ⟨vs, q1, q2, _⟩ := B.cell k _ _ h1 e
        exact .scr (SqL.of q1) (RpAll.mono B.sub (fun _ _ h => h) _ _ q2)
    · exact go _ r
  · exact go _ r
def plainPy (s : Sto) (d : D) : Option PyData := if (D.low 0 (peek s d) && SeqAt.shaped (py (peek s d))) = true then some (py (peek s d)) else none
theorem plainPy_ok {K : PySem.W.Frag} {H H0 : Hp} {O : List Addr} {sto : Sto} {d : D} {v : V} {z : PyData} (B : Base K H H0 O sto) (r : Rp K H0 O v d) (h : plainPy sto d = some z) : Dp K H v z ∧ SeqAt.shaped z = true := by
  unfold plainPy at h
  split at h
  · rename_i c
    cases h
    have c' := Bool.and_eq_true_iff.mp c
    exact ⟨Rp.dp _ _ c'.1 (peek_rp B r), c'.2⟩
  · cases h
def scD : D → Option V
  | .non => some .non | .bl b => some (.bl b) | .int i => some (.int i) | .str x => some (.str x)
  | _ => none
theorem scD_ok {K : PySem.W.Frag} {H : Hp} {O : List Addr} {d : D} {v x : V} (r : Rp K H O v d) (h : scD d = some x) : v = x := by
  cases d with
  | non => cases r; cases h; rfl
  | bl _ => cases r; cases h; rfl
  | int _ => cases r; cases h; rfl
  | str _ => cases r; cases h; rfl
  | _ => cases h
def deepB (s : Sto) (d e : D) : Option Bool := match plainPy s d, plainPy s e with
  | some a, some b => some (PyData.eqv a b)
  | _, _ => none
def eqBo (s : Sto) (d e : D) : Option Bool := match scD d, scD e with
  | some x, some y => if scal x y = true then some (decide (x = y)) else deepB s d e
  | _, _ => deepB s d e
def ng (neg b : Bool) : Bool := match neg with | true => !b | false => b
def eqO (neg : Bool) (s : Sto) (d e : D) : Option D := (eqBo s d e).map fun b => .bl (ng neg b)
theorem o_eqAux {op : CmpOp} {neg : Bool} (h1 : OpR X (compareOp op) (fun x y H Q => scal x y = true ∧ Q (.bl (ng neg (decide (x = y)))) H))
    (h2 : OpR X (compareOp op) (fun x y H Q => ∃ d e, Dp X.K H x d ∧ Dp X.K H y e ∧ SeqAt.shaped d = true ∧ SeqAt.shaped e = true ∧ Q (.bl (ng neg (PyData.eqv d e))) H)) :
    OpR X (compareOp op) (rD2 X.K (eqO neg)) := by
  intro pins s σ H x y v u Q I rx ry h
  obtain ⟨H0, O, sto, d, e, z, B, rd, re, hz, k⟩ := h
  have deep : ∀ b, deepB sto d e = some b → z = .bl (ng neg b) → wpAny (model X.prog X.w) X.A (compareOp op v u) (EP X pins σ Q) X.xe s := by
    intro b hb ez
    unfold deepB at hb
    split at hb
    · rename_i p q hp hq
      cases hb
      obtain ⟨a1, a2⟩ := plainPy_ok B rd hp
      obtain ⟨b1, b2⟩ := plainPy_ok B re hq
      refine h2 pins s σ H _ _ v u Q I rx ry ⟨_, _, a1, b1, a2, b2, k _ _ _ B (.refl _ _ _) ?_⟩
      rw [ez]
      exact .bl _
    · cases hb
  unfold eqO at hz
  cases hE : eqBo sto d e with
  | none => rw [hE] at hz; cases hz
  | some b =>
    rw [hE] at hz
    have ez : z = .bl (ng neg b) := (Option.some.inj hz).symm
    unfold eqBo at hE
    split at hE
    · rename_i p q ha hb
      split at hE
      · rename_i hs
        have e1 := scD_ok rd ha
        have e2 := scD_ok re hb
        subst e1 e2
        cases hE
        subst ez
        exact h1 pins s σ H _ _ v u Q I rx ry ⟨hs, k _ _ _ B (.refl _ _ _) (.bl _)⟩
      · exact deep b hE ez
    · exact deep b hE ez
theorem o_eq (hu : X.A.units + 64 < cLine) : OpR X (compareOp .Eq) (rD2 X.K (eqO false)) := o_eqAux (fun pins s σ H x y v u Q I rx ry h => op_eq pins s σ H x y v u Q I rx ry ⟨h.1, h.2⟩) (fun pins s σ H x y v u Q I rx ry h => op_eqD hu pins s σ H x y v u Q I rx ry h)
theorem o_ne (hu : X.A.units + 64 < cLine) : OpR X (compareOp .NotEq) (rD2 X.K (eqO true)) := o_eqAux (fun pins s σ H x y v u Q I rx ry h => op_ne pins s σ H x y v u Q I rx ry ⟨h.1, h.2⟩) (fun pins s σ H x y v u Q I rx ry h => op_neD hu pins s σ H x y v u Q I rx ry h)
def ltO (_ : Sto) : D → D → Option D
  | .int i, .int j => some (.bl (decide (i < j)))
  | .str a, .str b => some (.bl (decide (a.cps.toList < b.cps.toList)))
  | _, _ => none
def leO (_ : Sto) : D → D → Option D
  | .int i, .int j => some (.bl (decide (i ≤ j)))
  | .str a, .str b => some (.bl (!decide (b.cps.toList < a.cps.toList)))
  | _, _ => none
def gtO (_ : Sto) : D → D → Option D
  | .int i, .int j => some (.bl (decide (j < i)))
  | .str a, .str b => some (.bl (decide (b.cps.toList < a.cps.toList)))
  | _, _ => none
def geO (_ : Sto) : D → D → Option D
  | .int i, .int j => some (.bl (decide (j ≤ i)))
  | .str a, .str b => some (.bl (!decide (a.cps.toList < b.cps.toList)))
  | _, _ => none
theorem o_lt : OpR X (compareOp .Lt) (rD2 X.K ltO) := by
  intro pins s σ H x y v u Q I rx ry h
  obtain ⟨H0, O, sto, d, e, z, B, rd, re, hz, k⟩ := h
  unfold ltO at hz
  split at hz
  · cases rd; cases re; cases hz
    exact op_lt pins s σ H _ _ v u Q I rx ry ⟨_, _, rfl, rfl, k _ _ _ B (.refl _ _ _) (.bl _)⟩
  · cases rd; cases re; cases hz
    exact op_lt_str pins s σ H _ _ v u Q I rx ry ⟨_, _, rfl, rfl, k _ _ _ B (.refl _ _ _) (.bl _)⟩
  · cases hz
theorem o_le : OpR X (compareOp .LtE) (rD2 X.K leO) := by
  intro pins s σ H x y v u Q I rx ry h
  obtain ⟨H0, O, sto, d, e, z, B, rd, re, hz, k⟩ := h
  unfold leO at hz
  split at hz
  · cases rd; cases re; cases hz
    exact op_le pins s σ H _ _ v u Q I rx ry ⟨_, _, rfl, rfl, k _ _ _ B (.refl _ _ _) (.bl _)⟩
  · cases rd; cases re; cases hz
    exact op_le_str pins s σ H _ _ v u Q I rx ry ⟨_, _, rfl, rfl, k _ _ _ B (.refl _ _ _) (.bl _)⟩
  · cases hz
theorem o_gt : OpR X (compareOp .Gt) (rD2 X.K gtO) := by
  intro pins s σ H x y v u Q I rx ry h
  obtain ⟨H0, O, sto, d, e, z, B, rd, re, hz, k⟩ := h
  unfold gtO at hz
  split at hz
  · cases rd; cases re; cases hz
    exact op_gt pins s σ H _ _ v u Q I rx ry ⟨_, _, rfl, rfl, k _ _ _ B (.refl _ _ _) (.bl _)⟩
  · cases rd; cases re; cases hz
    exact op_gt_str pins s σ H _ _ v u Q I rx ry ⟨_, _, rfl, rfl, k _ _ _ B (.refl _ _ _) (.bl _)⟩
  · cases hz
theorem o_ge : OpR X (compareOp .GtE) (rD2 X.K geO) := by
  intro pins s σ H x y v u Q I rx ry h
  obtain ⟨H0, O, sto, d, e, z, B, rd, re, hz, k⟩ := h
  unfold geO at hz
  split at hz
  · cases rd; cases re; cases hz
    exact op_ge pins s σ H _ _ v u Q I rx ry ⟨_, _, rfl, rfl, k _ _ _ B (.refl _ _ _) (.bl _)⟩
  · cases rd; cases re; cases hz
    exact op_ge_str pins s σ H _ _ v u Q I rx ry ⟨_, _, rfl, rfl, k _ _ _ B (.refl _ _ _) (.bl _)⟩
  · cases hz
/-- a is None -/
def isNO (neg : Bool) (_ : Sto) (d e : D) : Option D := match e with
  | .non => some (.bl (match d with | .non => !neg | _ => neg))
  | _ => none
theorem is_aux {K : PySem.W.Frag} {H : Hp} {O : List Addr} {d : D} {v : V} (r : Rp K H O v d) : decide (v = V.non) = (match d with | .non => true | _ => false) := by
  cases r <;> first | exact decide_eq_true rfl | exact decide_eq_false (fun z => nomatch z)
theorem o_is : OpR X (compareOp .Is) (rD2 X.K (isNO false)) := by
  intro pins s σ H x y v u Q I rx ry h
  obtain ⟨H0, O, sto, d, e, z, B, rd, re, hz, k⟩ := h
  unfold isNO at hz
  split at hz
  · cases re; cases hz
    refine op_isN pins s σ H _ _ v u Q I rx ry ⟨rfl, k _ _ _ B (.refl _ _ _) ?_⟩
    rw [is_aux rd]
    cases d <;> exact .bl _
  · cases hz
theorem o_isNot : OpR X (compareOp .IsNot) (rD2 X.K (isNO true)) := by
  intro pins s σ H x y v u Q I rx ry h
  obtain ⟨H0, O, sto, d, e, z, B, rd, re, hz, k⟩ := h
  unfold isNO at hz
  split at hz
  · cases re; cases hz
    refine op_notN pins s σ H _ _ v u Q I rx ry ⟨rfl, k _ _ _ B (.refl _ _ _) ?_⟩
    rw [is_aux rd]
    cases d <;> exact .bl _
  · cases hz
/-! ### in -/
theorem mapSc_ok {K : PySem.W.Frag} {H : Hp} {O : List Addr} : ∀ {xs : List D} {vs ys : List V}, RpAll K H O vs xs → xs.mapM scD = some ys → vs = ys
  | [], _, _, .nil, h => by cases h; rfl
  | x :: xs, v :: vs, ys, .cons r t, h => by
    rw [List.mapM_cons] at h
    cases e : scD x with
    | none => rw [e] at h; cases h
    | some y =>
      rw [e] at h
      cases e2 : xs.mapM scD with
      | none => rw [e2] at h; cases h
      | some zs =>
        rw [e2] at h
        cases h
        rw [scD_ok r e, mapSc_ok t e2]
def inFlat (s : Sto) (d e : D) : Option Bool := match scD d, (seqOf s e).bind (fun xs => xs.mapM scD) with
  | some x, some ys => if (flatV x && ys.all flatV) = true then some (inV x ys) else none
  | _, _ => none
def inDeep (s : Sto) (d e : D) : Option Bool := match plainPy s d, lsOf s e with
  | some a, some xs => if (D.lowAll 0 xs && SeqAt.shaped (.list (pyAll xs))) = true then some ((pyAll xs).any fun z => PyData.eqv z a) else none
  | _, _ => none
def inO (neg : Bool) (s : Sto) (d e : D) : Option D := match inFlat s d e with
  | some b => some (.bl (ng neg b))
  | none => (inDeep s d e).map fun b => .bl (ng neg b)
theorem o_inAux {op : CmpOp} {neg : Bool} (h1 : OpR X (compareOp op) (rIn X.K neg))
    (h2 : OpR X (compareOp op) (fun x y H Q => ∃ d ds, Dp X.K H x d ∧ Dp X.K H y (.list ds) ∧ SeqAt.shaped d = true ∧ SeqAt.shaped (.list ds) = true ∧ Q (.bl (ng neg (ds.any fun z => PyData.eqv z d))) H)) :
    OpR X (compareOp op) (rD2 X.K (inO neg)) := by
  intro pins s σ H x y v u Q I rx ry h
  obtain ⟨H0, O, sto, d, e, z, B, rd, re, hz, k⟩ := h
  unfold inO at hz
  split at hz
  · rename_i b hb
    cases hz
    unfold inFlat at hb
    split at hb
    · rename_i a ys ha hy
      split at hb
      · rename_i hf
        cases hb
        have e1 := scD_ok rd ha
        subst e1
        cases hq : seqOf sto e with
        | none => rw [hq] at hy; cases hy
        | some xs =>
          rw [hq] at hy
          obtain ⟨p, vs, rfl, g1, g2⟩ := seqOf_ok B re hq
          have e2 := mapSc_ok g2 hy
          subst e2
          have hf' := Bool.and_eq_true_iff.mp hf
          refine h1 pins s σ H _ _ v u Q I rx ry ⟨p, vs, rfl, g1, hf'.1, hf'.2, ?_⟩
          cases neg <;> exact k _ _ _ B (.refl _ _ _) (.bl _)
      · cases hb
    · cases hb
  · cases hd : inDeep sto d e with
    | none => rw [hd] at hz; cases hz
    | some b =>
      rw [hd] at hz
      cases hz
      unfold inDeep at hd
      split at hd
      · rename_i a xs ha hx
        split at hd
        · rename_i hf
          cases hd
          obtain ⟨p, vs, rfl, g1, g2⟩ := lsOf_ok B re hx
          have hf' := Bool.and_eq_true_iff.mp hf
          obtain ⟨a1, a2⟩ := plainPy_ok B rd ha
          exact h2 pins s σ H _ _ v u Q I rx ry ⟨_, _, a1, .lst g1 (RpAll.dp _ _ hf'.1 (RpAll.mono B.sub (fun _ _ h => h) _ _ g2)), a2, hf'.2, k _ _ _ B (.refl _ _ _) (.bl _)⟩
        · cases hd
      · cases hd
theorem o_in (hu : X.A.units + 65 < cLine) : OpR X (compareOp .In) (rD2 X.K (inO false)) := o_inAux op_in_seq fun pins s σ H x y v u Q I rx ry h => op_inD hu pins s σ H x y v u Q I rx ry h
theorem o_notIn (hu : X.A.units + 65 < cLine) : OpR X (compareOp .NotIn) (rD2 X.K (inO true)) := o_inAux op_notIn_seq fun pins s σ H x y v u Q I rx ry h => op_notInD hu pins s σ H x y v u Q I rx ry h
/-! ### index, slices -/
def ixO (s : Sto) (d e : D) : Option D := match e with
  | .int i => match d with
    | .str z => if small z.length = true then (atI z.cps.toList i).map fun c => .str ⟨#[c]⟩ else none
    | d => (seqOf s d).bind fun xs => atI xs i
  | _ => none
theorem atI_rp {K : PySem.W.Frag} {H : Hp} {O : List Addr} {vs : List V} {xs : List D} {i : Int} {d : D} (r : RpAll K H O vs xs) (h : atI xs i = some d) : ∃ v, atI vs i = some v ∧ Rp K H O v d := by
  unfold atI at h ⊢
  rw [r.length]
  cases e : ixN xs.length i with
  | none => rw [e] at h; cases h
  | some j => rw [e] at h; exact r.get h
variable {W : WX} {e a b c o : Expr} {es : List Expr} {pos p2 : Pos} {f g : Sl → M D} {h : Sl → M (List D)}
theorem e_ix (ha : PE X a (tE X.K X.mg W f)) (hb : PE X b (tE X.K X.mg W g)) (hs : PlainIx b := by intro _ _; rfl) : PE X (.Subscript a b pos) (tE X.K X.mg W (f2 ixO f g)) := by
  refine PE.imp (pe_ix ix_seq ha hb hs) fun σ H Q t => ?_
  refine tG_mono (tE_f2 t) fun x H1 z => tG_mono z fun y H2 z => ?_
  obtain ⟨H0, O, sto, d, e, z, B, rd, re, hz, k⟩ := z
  unfold ixO at hz
  split at hz
  · rename_i i
    cases re
    split at hz
    · rename_i z'
      split at hz
      · rename_i hs
        cases rd
        cases hc : atI z'.cps.toList i with
        | none => rw [hc] at hz; cases hz
        | some c =>
          rw [hc] at hz
          cases hz
          exact .inr (.inr ⟨z', i, c, rfl, rfl, small_ok hs, hc, k _ _ _ B (.refl _ _ _) (.str _)⟩)
      · cases hz
    · rename_i d' _
      cases hq : seqOf sto d with
      | none => rw [hq] at hz; cases hz
      | some xs =>
        rw [hq] at hz
        obtain ⟨p, vs, rfl, g1, g2⟩ := seqOf_ok B rd hq
        obtain ⟨w, q1, q2⟩ := atI_rp g2 hz
        rcases g1 with g1 | g1
        · exact .inl ⟨p, vs, i, w, rfl, rfl, g1, q1, k _ _ _ B (.refl _ _ _) q2⟩
        · exact .inr (.inl ⟨p, vs, i, w, rfl, rfl, g1, q1, k _ _ _ B (.refl _ _ _) q2⟩)
  · cases hz
abbrev eqI : Rep (Option Int) (Option Int) := fun _ _ b a => b = a
abbrev tPo (K : PySem.W.Frag) (mg : Str → Option Value) (W : WX) (f : Sl → M (Option Int)) : TO := tG K mg W eqI f
def fNo : Sl → M (Option Int) := fun _ => retM none
def asI : D → Option (Option Int) | .int i => some (some i) | _ => none
def fSome (f : Sl → M D) : Sl → M (Option Int) := fun sl => bindM (f sl) fun x => liftO fun _ => asI x
theorem PO.imp {e : Option Expr} {t t' : TO} (h : PO X e t) (i : ∀ σ H Q, t' σ H Q → t σ H Q) : PO X e t' := ⟨fun pins s σ H Q I q => h.run pins s σ H Q I (i _ _ _ q)⟩
theorem s_none : PO X none (tPo X.K X.mg W fNo) := by
  refine PO.imp po_none fun σ H Q t => ?_
  obtain ⟨H0, O, sl, sto, r, B, S, q, p⟩ := t
  cases q
  exact post_ok p B rfl
theorem s_some (he : PE X e (tE X.K X.mg W f)) : PO X (some e) (tPo X.K X.mg W (fSome f)) := by
  refine PO.imp (po_some he) fun σ H Q t => ?_
  refine tG_mono (tG_bind t) fun v H1 z => ?_
  obtain ⟨H0', O', sl', s', x, r', B', S', rx, q', p'⟩ := z
  obtain ⟨y, hy, rfl⟩ := PostG.one (Q := Q) q'
  cases x with
  | int i => cases hy; cases rx; exact ⟨i, rfl, post_ok p' B' rfl⟩
  | _ => cases hy
def cutL {α : Type} (xs : List α) (lo hi : Option Int) : List α := (xs.drop (HT.sIx xs.length 0 lo)).take (HT.sIx xs.length xs.length hi - HT.sIx xs.length 0 lo)
theorem cut_rp {K : PySem.W.Frag} {H : Hp} {O : List Addr} {vs : List V} {xs : List D} (lo hi : Option Int) (r : RpAll K H O vs xs) : RpAll K H O (cutV vs lo hi) (cutL xs lo hi) := by
  unfold cutV cutL
  rw [r.length]
  exact (r.drop _).take _
def slO (s : Sto) (d : D) (lo hi : Option Int) : Option D := match d with
  | .str z => if small z.length = true then some (.str (cutS z lo hi)) else none
  | .tup xs => some (.tup (cutL xs lo hi))
  | d => (lsOf s d).map fun xs => .lst (cutL xs lo hi)
def fSl (f : Sl → M D) (u v : Sl → M (Option Int)) : Sl → M D := fun sl => bindM (f sl) fun x => bindM (u sl) fun lo => bindM (v sl) fun hi => liftO fun s => slO s x lo hi
variable {lo hi : Option Expr} {u v : Sl → M (Option Int)}
theorem sIx_whole (n : Nat) (lo hi : Option Int) {α : Type} (xs : List α) (hn : xs.length = n) (h : HT.sIx n 0 lo = 0 ∧ HT.sIx n n hi = n) : cutL xs lo hi = xs := by
  unfold cutL
  rw [hn, h.1, h.2, ← hn]
  simp
theorem e_sl (he : PE X e (tE X.K X.mg W f)) (hl : PO X lo (tPo X.K X.mg W u)) (hh : PO X hi (tPo X.K X.mg W v)) : PE X (.Subscript e (.Slice lo hi none p2) pos) (tE X.K X.mg W (fSl f u v)) := by
  refine PE.imp (pe_slice (sl_list.or (sl_tupA.or sl_str)) he hl hh) fun σ H Q t => ?_
  refine tG_mono (tG_bind t) fun x H1 z => ?_
  obtain ⟨H0', O', sl', s', d, r', B', S', rx, q', p'⟩ := z
  obtain ⟨r2, e2, p2⟩ := PostG.bind (rp := eqI) q' p'
  refine ⟨H0', O', sl', s', r2, B', S', e2, p2.mono fun l H2 z => ?_⟩
  obtain ⟨H02, O2, s2, l', r3, B2, X2, rl, q3, p3⟩ := z
  obtain ⟨r4, e4, p4⟩ := PostG.bind (rp := eqI) q3 p3
  refine ⟨H02, O2, sl', s2, r4, B2, S'.ext X2, e4, p4.mono fun u H3 z => ?_⟩
  obtain ⟨H03, O3, s3, u', r5, B3, X3, ru, q5, p5⟩ := z
  obtain ⟨y, hy, rfl⟩ := PostG.one (Q := Q) q5
  cases rl
  cases ru
  have rd := X3.rp (X2.rp rx)
  unfold slO at hy
  split at hy
  · rename_i z
    split at hy
    · rename_i hs
      cases hy
      cases rd
      exact .inr (.inr ⟨z, rfl, small_ok hs, post_ok p5 B3 (.str _)⟩)
    · cases hy
  · rename_i xs
    cases hy
    cases rd with
    | tup h1 h2 =>
      refine .inr (.inl ⟨_, _, rfl, sameT B3.sub h1, fun hw => ?_, fun hw p hp => ?_⟩)
      · rw [sIx_whole _ l u xs h2.length.symm hw] at p5
        exact post_ok p5 B3 (.tup h1 h2)
      · obtain ⟨b1, b2⟩ := B3.new hp (.tup (cutV _ l u))
        exact p5 _ _ _ _ b1 b2 (.tup (SqT.of upd_same) (cut_rp l u (b2.rps h2)))
  · cases hq : lsOf s3 d with
    | none => rw [hq] at hy; cases hy
    | some xs =>
      rw [hq] at hy
      cases hy
      obtain ⟨a, vs, rfl, g1, g2⟩ := lsOf_ok B3 rd hq
      refine .inl ⟨a, vs, rfl, g1, fun p hp => ?_⟩
      obtain ⟨b1, b2⟩ := B3.new hp (.lst (cutV vs l u))
      exact p5 _ _ _ _ b1 b2 (.lst upd_same (cut_rp l u (b2.rps g2)))
def revO (s : Sto) (d : D) : Option D := (lsOf s d).map fun xs => .lst xs.reverse
theorem e_rev {k : Nat} {q1 q2 q3 : Pos} (he : PE X e (tE X.K X.mg W f)) : PE X (.Subscript e (.Slice none none (some (.UnaryOp .USub (.Constant (.int 1) k q1) q2)) q3) pos) (tE X.K X.mg W (f1 revO f)) := by
  refine PE.imp (pe_revL he) fun σ H Q t => ?_
  refine tG_mono (tE_f1 t) fun x H1 z => ?_
  obtain ⟨H0, O, sto, d, z, B, rd, hz, k⟩ := z
  unfold revO at hz
  cases hq : lsOf sto d with
  | none => rw [hq] at hz; cases hz
  | some xs =>
    rw [hq] at hz
    cases hz
    obtain ⟨a, vs, rfl, g1, g2⟩ := lsOf_ok B rd hq
    refine ⟨a, vs, rfl, g1, fun p hp => ?_⟩
    obtain ⟨b1, b2⟩ := B.new hp (.lst vs.reverse)
    exact k _ _ _ b1 b2 (.lst upd_same (b2.rps g2).reverse)
end
end PD

set_option Elab.async false
set_option linter.all false
set_option maxRecDepth 100000
set_option maxHeartbeats 4000000
/-! PD: calls. -/
namespace PD
open PySem PySem.Spec PyProof.Rows L2
section
variable {X : Cx} {W : WX} {e a b c o : Expr} {es : List Expr} {x : Str} {p pos apos : Pos} {f g : Sl → M D} {h : Sl → M (List D)} {id T : String}

/-! ### built-ins by name -/
def rDn (K : PySem.W.Frag) (o : Sto → List D → Option D) : List V → Hp → VK → Prop := fun vs H Q => ∃ H0 O sto ds z, Base K H H0 O sto ∧ RpAll K H0 O vs ds ∧ o sto ds = some z ∧ ∀ v H' H0', Base K H' H0' O sto → Ext H H0 O H' H0' O → Rp K H0' O v z → Q v H'
def fN (o : Sto → List D → Option D) (h : Sl → M (List D)) : Sl → M D := fun sl => bindM (h sl) fun xs => liftO fun s => o s xs
theorem tE_fN {o : Sto → List D → Option D} {σ : L2.St} {H : Hp} {Q : VK} (t : tE X.K X.mg W (fN o h) σ H Q) : tA X.K X.mg W h σ H fun xs H1 => rDn X.K o xs H1 Q := by
  refine tG_mono (tG_bind t) fun v H1 z => ?_
  obtain ⟨H0', O', sl', s', x, r', B', S', rx, q', p'⟩ := z
  obtain ⟨y, hy, rfl⟩ := PostG.one (Q := Q) q'
  exact ⟨H0', O', s', x, y, B', rx, hy, fun v H' H0'' b x r => p' v H' H0'' O' b x r⟩
theorem e_callB {o : Sto → List D → Option D} (hc : CallR X (.builtin id) (rDn X.K o)) (hg : Gl X x) (hm : X.mg x = none) (hv : bootBuiltins x = some (.builtin id)) (ha : PA X (e :: es) (tA X.K X.mg W h)) (hn : x ≠ "__name__" := by decide) (hdb : (x == ("__debug__" : Str)) = false := by decide)
    (he : starEach (e :: es) X.env = (false, eval e X.env) :: starEach es X.env := by rfl) (hpl : (backTo pos (starEach es X.env)).any (·.1) = false := by rfl) : PE X (.Call (.Name x p) (e :: es) [] pos) (tE X.K X.mg W (fN o h)) :=
  PE.imp (pe_callB hc hg hm hv ha hn hdb he hpl) fun _ _ _ t => tE_fN t
theorem e_callTy {o : Sto → List D → Option D} (hc : CallR X (.type T) (rDn X.K o)) (hg : Gl X x) (hm : X.mg x = none) (hv : bootBuiltins x = some (.type T)) (ha : PA X (e :: es) (tA X.K X.mg W h)) (hn : x ≠ "__name__" := by decide) (hdb : (x == ("__debug__" : Str)) = false := by decide)
    (he : starEach (e :: es) X.env = (false, eval e X.env) :: starEach es X.env := by rfl) (hpl : (backTo pos (starEach es X.env)).any (·.1) = false := by rfl) : PE X (.Call (.Name x p) (e :: es) [] pos) (tE X.K X.mg W (fN o h)) :=
  PE.imp (pe_callTy hc hg hm hv ha hn hdb he hpl) fun _ _ _ t => tE_fN t
def lenO (s : Sto) : List D → Option D
  | [.str z] => if small z.length = true then some (.int z.length) else none
  | [d] => (seqOf s d).map fun xs => .int xs.length
  | _ => none
theorem o_len : CallR X (.builtin "len") (rDn X.K lenO) := by
  intro pins s σ H xs us Q I r h
  obtain ⟨H0, O, sto, ds, z, B, rd, hz, k⟩ := h
  unfold lenO at hz
  split at hz
  · split at hz
    · rename_i hs
      cases hz
      cases rd with
      | cons r1 r2 =>
        cases r2
        cases r1
        exact call_len pins s σ H _ us Q I r ⟨_, _, rfl, ⟨small_ok hs, rfl⟩, k _ _ _ B (.refl _ _ _) (.int _)⟩
    · cases hz
  · rename_i d _
    cases hq : seqOf sto d with
    | none => rw [hq] at hz; cases hz
    | some ys =>
      rw [hq] at hz
      cases hz
      cases rd with
      | cons r1 r2 =>
        cases r2
        obtain ⟨q, vs, rfl, g1, g2⟩ := seqOf_ok B r1 hq
        refine call_len_seq pins s σ H _ us Q I r ⟨q, vs, rfl, g1, ?_⟩
        rw [g2.length]
        exact k _ _ _ B (.refl _ _ _) (.int _)
  · cases hz
def listO (s : Sto) : List D → Option D
  | [d] => (seqOf s d).map fun xs => .lst xs
  | _ => none
theorem o_list : CallR X (.type "list") (rDn X.K listO) := by
  intro pins s σ H xs us Q I r h
  obtain ⟨H0, O, sto, ds, z, B, rd, hz, k⟩ := h
  unfold listO at hz
  split at hz
  · rename_i d
    cases hq : seqOf sto d with
    | none => rw [hq] at hz; cases hz
    | some ys =>
      rw [hq] at hz
      cases hz
      cases rd with
      | cons r1 r2 =>
        cases r2
        obtain ⟨q, vs, rfl, g1, g2⟩ := seqOf_ok B r1 hq
        refine call_list_of pins s σ H _ us Q I r ⟨q, vs, rfl, g1, fun l hl => ?_⟩
        obtain ⟨b1, b2⟩ := B.new hl (.lst vs)
        exact k _ _ _ b1 b2 (.lst upd_same (b2.rps g2))
  · cases hz
def tupleO (s : Sto) : List D → Option D
  | [.tup xs] => some (.tup xs)
  | [d] => (lsOf s d).map fun xs => .tup xs
  | _ => none
theorem o_tuple : CallR X (.type "tuple") (rDn X.K tupleO) := by
  intro pins s σ H xs us Q I r h
  obtain ⟨H0, O, sto, ds, z, B, rd, hz, k⟩ := h
  unfold tupleO at hz
  split at hz
  · cases hz
    cases rd with
    | cons r1 r2 =>
      cases r2
      cases r1 with
      | tup h1 h2 => exact call_tuple_of pins s σ H _ us Q I r ⟨_, _, rfl, .inr ⟨sameT B.sub h1, k _ _ _ B (.refl _ _ _) (.tup h1 h2)⟩⟩
  · rename_i d _
    cases hq : lsOf sto d with
    | none => rw [hq] at hz; cases hz
    | some ys =>
      rw [hq] at hz
      cases hz
      cases rd with
      | cons r1 r2 =>
        cases r2
        obtain ⟨q, vs, rfl, g1, g2⟩ := lsOf_ok B r1 hq
        refine call_tuple_of pins s σ H _ us Q I r ⟨q, vs, rfl, .inl ⟨g1, fun l hl => ?_⟩⟩
        obtain ⟨b1, b2⟩ := B.new hl (.tup vs)
        exact k _ _ _ b1 b2 (.tup (SqT.of upd_same) (b2.rps g2))
  · cases hz
/-! ### isinstance(x, T), T a built-in class -/
def tyName (s : Sto) : D → Option String
  | .non => some "NoneType" | .bl _ => some "bool" | .int _ => some "int" | .str _ => some "str"
  | .lst _ => some "list" | .scr _ => some "list" | .tup _ => some "tuple"
  | .own k => match s[k]? with | some (.lst _) => some "list" | some (.dic _) => some "dict" | _ => none
theorem tyX_list {K : PySem.W.Frag} {H : Hp} {a : Addr} {vs : List V} (h : SqL K H a vs) : TyX K H (.ref a) (.type "list") := by
  rcases h with (h | ⟨o, h⟩) | ⟨o, its, n, hk, hc, _⟩
  · exact .base (.lst h)
  · exact .base (.frz h)
  · exact .kList hk hc
theorem tyX_tup {K : PySem.W.Frag} {H : Hp} {a : Addr} {vs : List V} (h : SqT K H a vs) : TyX K H (.ref a) (.type "tuple") := by
  rcases h with (h | ⟨o, h⟩) | ⟨o, its, n, hk, hc, _⟩
  · exact .base (.tup h)
  · exact .fTuple h
  · exact .kTuple hk hc
theorem tyName_ok {K : PySem.W.Frag} {H H0 : Hp} {O : List Addr} {sto : Sto} {d : D} {v : V} {n : String} (B : Base K H H0 O sto) (r : Rp K H0 O v d) (h : tyName sto d = some n) : TyX K H v (.type n) := by
  cases d with
  | non => cases r; cases h; exact .base .non
  | bl _ => cases r; cases h; exact .base (.bl _)
  | int _ => cases r; cases h; exact .base (.int _)
  | str _ => cases r; cases h; exact .base (.str _)
  | lst _ => cases h; cases r with | lst h1 h2 => exact .base (.lst (B.sub _ _ h1))
  | scr _ => cases h; cases r with | scr h1 h2 => exact tyX_list (B.sub.seq h1)
  | tup _ => cases h; cases r with | tup h1 h2 => exact tyX_tup (sameT B.sub h1)
  | own k =>
    cases r with
    | own h1 =>
      unfold tyName at h
      simp only at h
      split at h
      · rename_i e
        cases h
        obtain ⟨vs, q1, _⟩ := B.cell k _ _ h1 e
        exact .base (.lst q1)
      · rename_i e
        cases h
        obtain ⟨vs, q1, _⟩ := B.cell k _ _ h1 e
        exact .base (.dK q1)
      · cases h
/-- isinstance of two built-in classes' names -/
def isiT (a b : String) : Option Bool := match a, b with
  | "NoneType", "int" => some false | "NoneType", "str" => some false | "NoneType", "list" => some false | "NoneType", "tuple" => some false | "NoneType", "dict" => some false | "NoneType", "bool" => some false
  | "bool", "int" => some true | "bool", "str" => some false | "bool", "list" => some false | "bool", "tuple" => some false | "bool", "dict" => some false | "bool", "bool" => some true
  | "int", "int" => some true | "int", "str" => some false | "int", "list" => some false | "int", "tuple" => some false | "int", "dict" => some false | "int", "bool" => some false
  | "str", "int" => some false | "str", "str" => some true | "str", "list" => some false | "str", "tuple" => some false | "str", "dict" => some false | "str", "bool" => some false
  | "list", "int" => some false | "list", "str" => some false | "list", "list" => some true | "list", "tuple" => some false | "list", "dict" => some false | "list", "bool" => some false
  | "tuple", "int" => some false | "tuple", "str" => some false | "tuple", "list" => some false | "tuple", "tuple" => some true | "tuple", "dict" => some false | "tuple", "bool" => some false
  | "dict", "int" => some false | "dict", "str" => some false | "dict", "list" => some false | "dict", "tuple" => some false | "dict", "dict" => some true | "dict", "bool" => some false
  | _, _ => none
theorem isiT_ok {K : PySem.W.Frag} {a b : String} {r : Bool} (h : isiT a b = some r) : PySem.W.kitOne K (.type a) (.type b) = some r := by
  unfold isiT at h
  split at h <;> first | (cases h; done) | (cases h; exact kit_ty (by decide +kernel))
def isiO (T : String) (s : Sto) (d : D) : Option D := ((tyName s d).bind fun n => isiT n T).map .bl
theorem e_isi {q : Pos} {y : Str} (hg : Gl X "isinstance") (hm : X.mg "isinstance" = none) (hgT : Gl X y) (hmT : X.mg y = none) (hvT : bootBuiltins y = some (.type T)) (hn : y ≠ "__name__" := by decide) (hd : (y == ("__debug__" : Str)) = false := by decide) (ha : PE X a (tE X.K X.mg W f))
    (he : starEach [a, .Name y q] X.env = (false, eval a X.env) :: starEach [.Name y q] X.env := by rfl) (he2 : starEach [.Name y q] X.env = (false, eval (.Name y q) X.env) :: starEach [] X.env := by rfl) (hpl : (backTo pos (starEach [.Name y q] X.env)).any (·.1) = false := by rfl) :
    PE X (.Call (.Name "isinstance" p) [a, .Name y q] [] pos) (tE X.K X.mg W (f1 (isiO T) f)) := by
  have hT : PE X (.Name y q) (tC (.ty T)) := pe_bltn hgT hmT hvT rfl hn hd
  refine PE.imp (pe_callB call_isi hg hm (by decide +kernel) (pa_cons ha (pa_cons hT pa_nil he2) he) (by decide) (by decide) he hpl) fun σ H Q t => ?_
  refine tG_mono (tE_f1 t) fun x H1 z => ?_
  obtain ⟨H0, O, sto, d, z, B, rd, hz, k⟩ := z
  unfold isiO at hz
  cases hq : tyName sto d with
  | none => rw [hq] at hz; cases hz
  | some n =>
    rw [hq] at hz
    have hz' : (isiT n T).map D.bl = some z := hz
    cases hr : isiT n T with
    | none => rw [hr] at hz'; cases hz'
    | some b =>
      rw [hr] at hz'
      cases hz'
      exact ⟨x, .ty T, .type n, .type T, b, rfl, .ty T, tyName_ok B rd hq, isiT_ok hr, k _ _ _ B (.refl _ _ _) (.bl _)⟩
/-! ### join -/
def strD : D → Option Str | .str x => some x | _ => none
theorem mapStr_ok {K : PySem.W.Frag} {H : Hp} {O : List Addr} : ∀ {xs : List D} {vs : List V} {ys : List Str}, RpAll K H O vs xs → xs.mapM strD = some ys → vs = ys.map V.str
  | [], _, _, .nil, h => by cases h; rfl
  | x :: xs, v :: vs, ys, .cons r t, h => by
    rw [List.mapM_cons] at h
    cases e : strD x with
    | none => rw [e] at h; cases h
    | some y =>
      rw [e] at h
      cases e2 : xs.mapM strD with
      | none => rw [e2] at h; cases h
      | some zs =>
        rw [e2] at h
        cases h
        have ex : x = .str y := by
          unfold strD at e
          split at e
          · cases e; rfl
          · cases e
        subst ex
        cases r
        rw [mapStr_ok t e2]
        rfl
def joinO (s : Sto) (d e : D) : Option D := match d with
  | .str a => match (seqOf s e).bind fun xs => xs.mapM strD with
    | some ys => if small ((ys.map (·.length)).sum + ys.length * a.length) = true then some (.str (Txt.join a ys)) else none
    | none => none
  | _ => none
def isStr : D → Option D | .str x => some (.str x) | _ => none
def fJoin (f g : Sl → M D) : Sl → M D := fun sl => bindM (f sl) fun x => bindM (liftO fun _ => isStr x) fun _ => bindM (g sl) fun y => liftO fun s => joinO s x y
theorem e_join (ho : PE X o (tE X.K X.mg W f)) (he : PE X e (tE X.K X.mg W g)) (hs : starEach [e] X.env = [(false, eval e X.env)] := by rfl) (hbase : attributeBase o "join" X.env (eval o X.env) = eval o X.env := by rfl) (hline : (apos.endLine == pos.line) = true := by rfl) :
    PE X (.Call (.Attribute o "join" apos) [e] [] pos) (tE X.K X.mg W (fJoin f g)) := by
  refine PE.imp (pe_join ho he hs hbase hline) fun σ H Q t => ?_
  refine tG_mono (tG_bind t) fun v H1 z => ?_
  obtain ⟨H0', O', sl', s', x, r', B', S', rx, q', p'⟩ := z
  obtain ⟨r2, e2, p2⟩ := PostG.bind (rp := Rp X.K) q' p'
  obtain ⟨y, hy, rfl⟩ := PostG.one (β := V) (Q := fun _ _ => True) e2
  cases x with
  | str w =>
    cases hy
    cases rx
    refine ⟨⟨w, rfl⟩, ?_⟩
    obtain ⟨H02, O2, s2, xs, r3, B2, X2, _, q3, p3⟩ := post_ok p2 B' (.str w)
    obtain ⟨r4, e4, p4⟩ := PostG.bind (rp := Rp X.K) q3 p3
    refine ⟨H02, O2, sl', s2, r4, B2, S'.ext X2, e4, p4.mono fun u H3 z => ?_⟩
    obtain ⟨H03, O3, s3, d3, r5, B3, X3, r3', q5, p5⟩ := z
    obtain ⟨y5, hy5, rfl⟩ := PostG.one (Q := Q) q5
    unfold joinO at hy5
    simp only at hy5
    split at hy5
    · rename_i ys hys
      split at hy5
      · rename_i hsm
        cases hy5
        cases hq : seqOf s3 d3 with
        | none => rw [hq] at hys; cases hys
        | some zs =>
          rw [hq] at hys
          obtain ⟨q, vs, rfl, g1, g2⟩ := seqOf_ok B3 r3' hq
          have ev := mapStr_ok g2 hys
          subst ev
          exact ⟨w, q, ys, rfl, rfl, g1, by have := small_ok hsm; rw [sizeLine_eq] at this; exact this, post_ok p5 B3 (.str _)⟩
      · cases hy5
    · cases hy5
  | _ => cases hy
/-! ### methods of lists -/
def fM0 (o : D → M D) (f : Sl → M D) : Sl → M D := fun sl => bindM (f sl) fun x => bindM (liftO fun s => (lsOf s x).map fun _ => D.non) fun _ => o x
def fM1 (o : D → List D → M D) (f : Sl → M D) (h : Sl → M (List D)) : Sl → M D := fun sl => bindM (f sl) fun x => bindM (liftO fun s => (lsOf s x).map fun _ => D.non) fun _ => bindM (h sl) fun xs => o x xs
def appendM (d : D) (ds : List D) : M D := fun s => match d, ds with
  | .own k, [y] => match s[k]? with
    | some (.lst xs) => if small (xs.length + 1) = true then some (.ok .non (s.set k (.lst (xs ++ [y])))) else none
    | _ => none
  | _, _ => none
def popM (d : D) : M D := fun s => match d with
  | .own k => match s[k]? with
    | some (.lst xs) => match xs[xs.length - 1]? with
      | some y => some (.ok y (s.set k (.lst xs.dropLast)))
      | none => none
    | _ => none
  | _ => none
theorem tyV_of {K : PySem.W.Frag} {H H0 : Hp} {O : List Addr} {sto : Sto} {d : D} {v : V} {y : D} (B : Base K H H0 O sto) (r : Rp K H0 O v d) (h : (lsOf sto d).map (fun _ => D.non) = some y) : tyV K "list" v H := by
  cases hq : lsOf sto d with
  | none => rw [hq] at h; cases h
  | some xs =>
    obtain ⟨a, vs, rfl, g1, g2⟩ := lsOf_ok B r hq
    exact .inl ⟨rfl, vs, g1⟩
theorem e_append (ho : PE X o (tE X.K X.mg W f)) (ha : PA X (e :: es) (tA X.K X.mg W h))
    (hbase : attributeBase o "append" X.env (eval o X.env) = eval o X.env := by rfl)
    (hfew : ((backTo pos (starEach (e :: es) X.env)).all (fun x => !x.1) && (backToKw pos (keywordEach [] X.env)).all (fun x => x.1.isSome)
      && decide ((e :: es).length + ([] : List Keyword).length + (if ([] : List Keyword).isEmpty then 0 else 1) < 30)) = true := by rfl) (hline : (apos.endLine == pos.line) = true := by rfl)
    (hs : starEach (e :: es) X.env = (false, eval e X.env) :: starEach es X.env := by rfl) (hplain : (backTo pos (starEach es X.env)).any (·.1) = false := by rfl) :
    PE X (.Call (.Attribute o "append" apos) (e :: es) [] pos) (tE X.K X.mg W (fM1 appendM f h)) := by
  refine PE.imp (pe_bm PySem.F.plainAttrs_list PySem.F.slot_list_append PySem.F.type_list_append mt_append ho ha hbase hfew (hline := hline) (hs := hs) (hplain := hplain)) fun σ H Q t => ?_
  refine tG_mono (tG_bind t) fun v H1 z => ?_
  obtain ⟨H0', O', sl', s', x, r', B', S', rx, q', p'⟩ := z
  obtain ⟨r2, e2, p2⟩ := PostG.bind (rp := Rp X.K) q' p'
  obtain ⟨y, hy, rfl⟩ := PostG.one (β := V) (Q := fun _ _ => True) e2
  refine ⟨tyV_of B' rx hy, ?_⟩
  obtain ⟨H02, O2, s2, xs, r3, B2, X2, _, q3, p3⟩ := p2 .non _ _ _ B' (.refl _ _ _) (by
    cases hq : lsOf s' x with
    | none => rw [hq] at hy; cases hy
    | some _ => rw [hq] at hy; cases hy; exact .non)
  obtain ⟨r4, e4, p4⟩ := PostG.bind (rp := RpAll X.K) q3 p3
  refine ⟨H02, O2, sl', s2, r4, B2, S'.ext X2, e4, p4.mono fun us H3 z => ?_⟩
  obtain ⟨H03, O3, s3, ds, r5, B3, X3, rs, q5, p5⟩ := z
  have rx3 := X3.rp (X2.rp rx)
  replace q5 : appendM x ds s3 = some r5 := q5
  unfold appendM at q5
  split at q5
  · rename_i k y5
    split at q5
    · rename_i ys hk
      split at q5
      · rename_i hsm
        cases q5
        cases rx3 with
        | own h1 =>
          rename_i a
          obtain ⟨vs, g1, g2, g3⟩ := B3.cell k _ _ h1 hk
          cases rs with
          | cons ry rn =>
            cases rn
            rename_i w
            have hl : vs.length < sizeLine := by
              have := small_ok hsm
              rw [g2.length]
              omega
            obtain ⟨b1, b2⟩ := B3.write (o := .lst (vs ++ [w])) (c := .lst (ys ++ [y5])) h1 g3 ⟨_, upd_same, g2.append (.one ry), g3⟩
            exact ⟨a, vs, w, rfl, rfl, g1, hl, p5 _ _ _ _ b1 b2 .non⟩
      · cases q5
    · cases q5
  · cases q5
theorem e_pop (ho : PE X o (tE X.K X.mg W f)) (hbase : attributeBase o "pop" X.env (eval o X.env) = eval o X.env := by rfl) (hline : (apos.endLine == pos.line) = true := by rfl) :
    PE X (.Call (.Attribute o "pop" apos) [] [] pos) (tE X.K X.mg W (fM0 popM f)) := by
  refine PE.imp (pe_bm0 PySem.F.plainAttrs_list PySem.F.slot_list_pop PySem.F.type_list_pop mt_pop ho hbase hline) fun σ H Q t => ?_
  refine tG_mono (tG_bind t) fun v H1 z => ?_
  obtain ⟨H0', O', sl', s', x, r', B', S', rx, q', p'⟩ := z
  obtain ⟨r2, e2, p2⟩ := PostG.bind (rp := Rp X.K) q' p'
  obtain ⟨y, hy, rfl⟩ := PostG.one (β := V) (Q := fun _ _ => True) e2
  refine ⟨tyV_of B' rx hy, ?_⟩
  obtain ⟨H03, O3, s3, xs, r3, B3, X3, _, q5, p5⟩ := p2 .non _ _ _ B' (.refl _ _ _) (by
    cases hq : lsOf s' x with
    | none => rw [hq] at hy; cases hy
    | some _ => rw [hq] at hy; cases hy; exact .non)
  have rx3 := X3.rp rx
  replace q5 : popM x s3 = some r3 := q5
  unfold popM at q5
  split at q5
  · rename_i k
    split at q5
    · rename_i ys hk
      split at q5
      · rename_i y5 hl5
        cases q5
        cases rx3 with
        | own h1 =>
          rename_i a
          obtain ⟨vs, g1, g2, g3⟩ := B3.cell k _ _ h1 hk
          obtain ⟨w, hw, rw'⟩ := g2.get hl5
          obtain ⟨b1, b2⟩ := B3.write (o := .lst vs.dropLast) (c := .lst ys.dropLast) h1 g3 ⟨_, upd_same, g2.dropLast, g3⟩
          exact ⟨a, vs, w, rfl, rfl, g1, by rw [g2.length]; exact hw, p5 _ _ _ _ b1 b2 rw'⟩
      · cases q5
    · cases q5
  · cases q5
end

/-! ### defs -/
def spD (K : PySem.W.Frag) (mg : Str → Option Value) (n : Nat) (g : List D → M D) : Sp := fun vs H Q E =>
  ∃ H0 O sto ds r, ds.length = n ∧ Base K H H0 O sto ∧ RpAll K H0 O vs ds ∧ g ds sto = some r ∧ PostG K mg (Rp K) H H0 O Q E r
def fCall (n : Nat) (g : List D → M D) (h : Sl → M (List D)) : Sl → M D := fun sl => bindM (h sl) fun ds => if ds.length = n then g ds else fun _ => none
section
variable {X : Cx} {W : WX} {k : Nat} {f : Addr} {fd : FuncData} {ps : List Str} {n : Nat} {g : List D → M D} {x : Str} {p pos : Pos} {e : Expr} {es : List Expr} {h : Sl → M (List D)}
theorem e_call (F : FnOk X.prog X.w X.K X.mg X.base (L2.CX X.prog X.w) k f fd ps (spD X.K X.mg n g)) (tk : L2.Takes X W) (hr : Room k X.A) (hg : Gl X x) (hm : X.mg x = some (.ref f)) (hk : PySem.W.keepIn X.K (.ref f) = true) (hb : Binds X.K fd ps [])
    (ha : PA X (e :: es) (tA X.K X.mg W h)) (hdb : (x == ("__debug__" : Str)) = false := by decide) (he : starEach (e :: es) X.env = (false, eval e X.env) :: starEach es X.env := by rfl) (hpl : (backTo pos (starEach es X.env)).any (·.1) = false := by rfl) :
    PE X (.Call (.Name x p) (e :: es) [] pos) (tE X.K X.mg W (fCall n g h)) := by
  refine PE.imp (pe_callS F hr hg hm hk hb (fun σ => passAt tk σ) ha hdb he hpl) fun σ H Q t => ?_
  refine tG_mono (tG_bind t) fun vs H1 z => ?_
  obtain ⟨H0', O', sl', s', ds, r', B', S', rx, q', p'⟩ := z
  split at q'
  · rename_i hn
    exact ⟨H0', O', s', ds, r', hn, B', rx, q', p'⟩
  · cases q'
end
end PD

set_option Elab.async false
set_option linter.all false
set_option maxRecDepth 100000
set_option maxHeartbeats 4000000
/-! PD: statements, loops, comprehensions. -/
namespace PD
open PySem PySem.Spec PyProof.Rows L2

abbrev SD := Sl → Sto → Option RS
def PostS (K : PySem.W.Frag) (mg : Str → Option Value) (W : WX) (H H0 : Hp) (O : List Addr) (D : Ends) : RS → Prop
  | .nx l s => ∀ σ' H' H0' O', Base K H' H0' O' s → Ext H H0 O H' H0' O' → RpSl K H0' O' σ' l → D.nx σ' H'
  | .bk l s => ∀ σ' H' H0' O', Base K H' H0' O' s → Ext H H0 O H' H0' O' → RpSl K H0' O' σ' l → D.bk σ' H'
  | .ct l s => ∀ σ' H' H0' O', Base K H' H0' O' s → Ext H H0 O H' H0' O' → RpSl K H0' O' σ' l → D.ct σ' H'
  | .rt d s => ∀ v H' H0' O', Base K H' H0' O' s → Ext H H0 O H' H0' O' → Rp K H0' O' v d → D.rt v H'
  | .ex c l s => ∀ cls dd σ' H' H0' O', mg c = some cls → Base K H' H0' O' s → Ext H H0 O H' H0' O' → RpSl K H0' O' σ' l → W cls dd σ' H'
def tS (K : PySem.W.Frag) (mg : Str → Option Value) (W : WX) (g : SD) : TS := fun D σ H => ∃ H0 O sl sto r, Base K H H0 O sto ∧ RpSl K H0 O σ sl ∧ g sl sto = some r ∧ PostS K mg W H H0 O D r
def bindS {α : Type} (m : M α) (sl : Sl) (k : α → Sto → Option RS) : Sto → Option RS := fun s => match m s with
  | none => none
  | some (.ok a s') => k a s'
  | some (.ex c s') => some (.ex c sl s')
section
variable {K : PySem.W.Frag} {mg : Str → Option Value} {W : WX} {H H0 H1 H01 : Hp} {O O1 : List Addr} {D D' : Ends} {σ : L2.St} {sl : Sl} {sto : Sto}
theorem PostS.ext {r : RS} (p : PostS K mg W H H0 O D r) (X : Ext H H0 O H1 H01 O1) : PostS K mg W H1 H01 O1 D r := by
  cases r with
  | nx l s => exact fun σ' H' H0' O' x y z => p σ' H' H0' O' x (X.trans y) z
  | bk l s => exact fun σ' H' H0' O' x y z => p σ' H' H0' O' x (X.trans y) z
  | ct l s => exact fun σ' H' H0' O' x y z => p σ' H' H0' O' x (X.trans y) z
  | rt d s => exact fun σ' H' H0' O' x y z => p σ' H' H0' O' x (X.trans y) z
  | ex c l s => exact fun cls dd σ' H' H0' O' w x y z => p cls dd σ' H' H0' O' w x (X.trans y) z
/-- in the midst of a statement -/
def MidS (K : PySem.W.Frag) (mg : Str → Option Value) (W : WX) {β α : Type} (rp : Rep β α) (k : α → Sto → Option RS) (H H0 : Hp) (O : List Addr) (D : Ends) (b : β) (H1 : Hp) : Prop :=
  ∃ H0' O' s a r, Base K H1 H0' O' s ∧ Ext H H0 O H1 H0' O' ∧ rp H0' O' b a ∧ k a s = some r ∧ PostS K mg W H1 H0' O' D r
theorem PostS.bind {β α : Type} {rp : Rep β α} {m : M α} {k : α → Sto → Option RS} {r : RS} (S : RpSl K H0 O σ sl) (h : bindS m sl k sto = some r) (p : PostS K mg W H H0 O D r) :
    ∃ r1, m sto = some r1 ∧ PostG K mg rp H H0 O (MidS K mg W rp k H H0 O D) (fun c d H' => W c d σ H') r1 := by
  unfold bindS at h
  cases e : m sto with
  | none => rw [e] at h; cases h
  | some r1 =>
    rw [e] at h
    refine ⟨r1, rfl, ?_⟩
    cases r1 with
    | ok a s => exact fun b H' H0' O' x y z => ⟨H0', O', s, a, r, x, y, z, h, p.ext y⟩
    | ex c s =>
      cases h
      exact fun cls dd H' H0' O' w x y => p cls dd σ H' H0' O' w x y (S.ext y)
theorem tS_bind {β α : Type} {rp : Rep β α} {f : Sl → M α} {k : Sl → α → Sto → Option RS} {H : Hp} (t : tS K mg W (fun sl => bindS (f sl) sl (k sl)) D σ H) :
    tG K mg W rp f σ H (fun b H1 => ∃ H0 O sl s a r, Base K H1 H0 O s ∧ RpSl K H0 O σ sl ∧ rp H0 O b a ∧ k sl a s = some r ∧ PostS K mg W H1 H0 O D r) := by
  obtain ⟨H0, O, sl, sto, r, B, S, e, p⟩ := t
  obtain ⟨r1, e1, p1⟩ := PostS.bind (rp := rp) S e p
  refine ⟨H0, O, sl, sto, r1, B, S, e1, p1.mono fun b H1 q => ?_⟩
  obtain ⟨H0', O', s, a, r', B', X', ra, e', p'⟩ := q
  exact ⟨H0', O', sl, s, a, r', B', S.ext X', ra, e', p'⟩
end
section
variable {X : Cx} {W : WX} {e a b c o : Expr} {es : List Expr} {pos p2 : Pos} {f g : Sl → M D} {h : Sl → M (List D)} {st : Stmt} {rest : List Stmt} {s1 s2 : SD}
theorem PS.imp {t t' : TS} (h : PS X st t) (i : ∀ D σ H, t' D σ H → t D σ H) : PS X st t' := ⟨fun pins s σ H D I q => h.run pins s σ H D I (i _ _ _ q)⟩
theorem PSs.imp {t t' : TS} (h : PSs X rest t) (i : ∀ D σ H, t' D σ H → t D σ H) : PSs X rest t' := ⟨fun pins s σ H D I q => h.run pins s σ H D I (i _ _ _ q)⟩
def seqS (g1 g2 : SD) : SD := fun sl s => match g1 sl s with
  | some (.nx sl' s') => g2 sl' s'
  | r => r
theorem c_cons (h1 : PS X st (tS X.K X.mg W s1)) (h2 : PSs X rest (tS X.K X.mg W s2)) : PSs X (st :: rest) (tS X.K X.mg W (seqS s1 s2)) := by
  refine PSs.imp (pss_cons h1 h2) fun D σ H t => ?_
  obtain ⟨H0, O, sl, sto, r, B, S, e, p⟩ := t
  unfold seqS at e
  cases q : s1 sl sto with
  | none => rw [q] at e; cases e
  | some r1 =>
    rw [q] at e
    refine ⟨H0, O, sl, sto, r1, B, S, q, ?_⟩
    cases r1 with
    | nx l s => exact fun σ' H' H0' O' x y z => ⟨H0', O', l, s, r, x, z, e, p.ext y⟩
    | bk l s => cases e; exact p
    | ct l s => cases e; exact p
    | rt d s => cases e; exact p
    | ex c l s => cases e; exact p
theorem c_one (h1 : PS X st (tS X.K X.mg W s1)) : PSs X [st] (tS X.K X.mg W s1) := pss_one h1
def nextS : SD := fun sl s => some (.nx sl s)
theorem c_nil : PSs X [] (tS X.K X.mg W nextS) := by
  refine PSs.imp pss_nil fun D σ H t => ?_
  obtain ⟨H0, O, sl, sto, r, B, S, e, p⟩ := t
  cases e
  exact p _ _ _ _ B (.refl _ _ _) S
theorem d_pass : PS X (.Pass pos) (tS X.K X.mg W nextS) := by
  refine PS.imp ps_pass fun D σ H t => ?_
  obtain ⟨H0, O, sl, sto, r, B, S, e, p⟩ := t
  cases e
  exact p _ _ _ _ B (.refl _ _ _) S
theorem d_doc {x j pos pos'} : PS X (.Expr (.Constant (.str x) j pos) pos') (tS X.K X.mg W nextS) := by
  refine PS.imp ps_doc fun D σ H t => ?_
  obtain ⟨H0, O, sl, sto, r, B, S, e, p⟩ := t
  cases e
  exact p _ _ _ _ B (.refl _ _ _) S
def breakS : SD := fun sl s => some (.bk sl s)
def contS : SD := fun sl s => some (.ct sl s)
theorem d_break : PS X (.Break pos) (tS X.K X.mg W breakS) := by
  refine PS.imp ps_break fun D σ H t => ?_
  obtain ⟨H0, O, sl, sto, r, B, S, e, p⟩ := t
  cases e
  exact p _ _ _ _ B (.refl _ _ _) S
theorem d_cont : PS X (.Continue pos) (tS X.K X.mg W contS) := by
  refine PS.imp ps_continue fun D σ H t => ?_
  obtain ⟨H0, O, sl, sto, r, B, S, e, p⟩ := t
  cases e
  exact p _ _ _ _ B (.refl _ _ _) S
def neverS : SD := fun _ _ => none
theorem d_never : PS X st (tS X.K X.mg W neverS) := by
  refine PS.imp ps_never fun D σ H t => ?_
  obtain ⟨H0, O, sl, sto, r, B, S, e, p⟩ := t
  cases e
def exprS (f : Sl → M D) : SD := fun sl => bindS (f sl) sl fun _ s => some (.nx sl s)
theorem d_expr (he : PE X e (tE X.K X.mg W f)) (hs : swapsWith e none pos.line X.env = pure false := by rfl) : PS X (.Expr e pos) (tS X.K X.mg W (exprS f)) := by
  refine PS.imp (ps_expr he hs) fun D σ H t => ?_
  refine tG_mono (tS_bind t) fun v H1 z => ?_
  obtain ⟨H0', O', sl', s', x, r', B', S', rx, q', p'⟩ := z
  cases q'
  exact p' _ _ _ _ B' (.refl _ _ _) S'
def retS (f : Sl → M D) : SD := fun sl => bindS (f sl) sl fun d s => some (.rt d s)
theorem d_ret (he : PE X e (tE X.K X.mg W f)) : PS X (.Return (some e) pos) (tS X.K X.mg W (retS f)) := by
  refine PS.imp (ps_ret he) fun D σ H t => ?_
  refine tG_mono (tS_bind t) fun v H1 z => ?_
  obtain ⟨H0', O', sl', s', x, r', B', S', rx, q', p'⟩ := z
  cases q'
  exact p' _ _ _ _ B' (.refl _ _ _) rx
def retNS : SD := fun _ s => some (.rt .non s)
theorem d_retN : PS X (.Return none pos) (tS X.K X.mg W retNS) := by
  refine PS.imp ps_retN fun D σ H t => ?_
  obtain ⟨H0, O, sl, sto, r, B, S, e, p⟩ := t
  cases e
  exact p _ _ _ _ B (.refl _ _ _) .non
def ifS (u : Sl → M Bool) (g1 g2 : SD) : SD := fun sl => bindS (u sl) sl fun b s => if b = true then g1 sl s else g2 sl s
theorem d_if {a b : List Stmt} {u : Sl → M Bool} (hc : PT X c (tT X.K X.mg W u)) (ha : PSs X a (tS X.K X.mg W s1)) (hb : PSs X b (tS X.K X.mg W s2)) : PS X (.If c a b pos) (tS X.K X.mg W (ifS u s1 s2)) := by
  refine PS.imp (ps_if hc ha hb) fun D σ H t => ?_
  refine tG_mono (tS_bind t) fun v H1 z => ?_
  obtain ⟨H0', O', sl', s', x, r', B', S', rx, q', p'⟩ := z
  cases rx
  cases v with
  | true => exact iteT ⟨H0', O', sl', s', r', B', S', q', p'⟩
  | false => exact iteF ⟨H0', O', sl', s', r', B', S', q', p'⟩
/-! ### stores -/
def setS (i : Nat) (f : Sl → M D) : SD := fun sl => bindS (f sl) sl fun d s => some (.nx (sl.set i (some d)) s)
theorem d_set {i : Nat} {x : Str} {pos' : Pos} (hN : X.N.Nodup) (hi : X.N[i]? = some x) (hx : Loc X.env.scope x) (he : PE X e (tE X.K X.mg W f)) (hs : swapsWith e (some (.Name x pos')) pos.line X.env = pure false := by rfl) (hf : X.fn x = true ∨ X.env.scope.names.lookup x = some .local := by first | exact .inl rfl | exact .inr rfl | assumption) :
    PS X (.Assign [.Name x pos'] e pos) (tS X.K X.mg W (setS i f)) := by
  refine PS.imp (ps_set hN hi hx he hs hf) fun D σ H t => ?_
  refine tG_mono (tS_bind t) fun v H1 z => ?_
  obtain ⟨H0', O', sl', s', x, r', B', S', rx, q', p'⟩ := z
  cases q'
  exact p' _ _ _ _ B' (.refl _ _ _) (S'.set rx i)
/-- targets: names and tuples of them -/
abbrev TD := D → Sl → Option Sl
theorem wipe_set (i : Nat) (x : Option V) : ∀ (vs : List Nat) (σ : L2.St), i ∈ vs → wipe (σ.set i x) vs = wipe σ vs := by
  have gen : ∀ (vs : List Nat) (σ : L2.St), wipe (σ.set i x) vs = if i ∈ vs then wipe σ vs else (wipe σ vs).set i x := by
    intro vs
    induction vs with
    | nil => intro σ; simp [wipe]
    | cons v vs ih =>
      intro σ
      show (wipe (σ.set i x) vs).set v none = if i ∈ v :: vs then (wipe σ vs).set v none else ((wipe σ vs).set v none).set i x
      rw [ih σ]
      by_cases h1 : i ∈ vs
      · rw [if_pos h1, if_pos (List.mem_cons_of_mem _ h1)]
      · rw [if_neg h1]
        by_cases h2 : i = v
        · subst h2
          rw [if_pos List.mem_cons_self, List.set_set]
        · rw [if_neg (by simp [h1, h2]), List.set_comm _ _ h2]
  intro vs σ h
  rw [gen vs σ, if_pos h]
structure TgOk (K : PySem.W.Frag) (vs : List Nat) (G : TG) (T : TD) : Prop where
  run : ∀ (H0 H : Hp) (O : List Addr) (v : V) (d : D) (σ : L2.St) (sl sl' : Sl) (Q : L2.St → Hp → Prop), Same H0 H → Rp K H0 O v d → RpSl K H0 O σ sl → T d sl = some sl' →
    (∀ σ', RpSl K H0 O σ' sl' → wipe σ' vs = wipe σ vs → Q σ' H) → G v σ H Q
def tdName (i : Nat) : TD := fun d sl => some (sl.set i (some d))
theorem g_name {K : PySem.W.Frag} {vs : List Nat} (i : Nat) (h : i ∈ vs := by decide) : TgOk K vs (gName i) (tdName i) := by
  refine ⟨fun H0 H O v d σ sl sl' Q s r S e q => ?_⟩
  cases e
  exact q _ (S.set r i) (wipe_set i _ vs σ h)
abbrev TDs := List D → Sl → Option Sl
structure TgsOk (K : PySem.W.Frag) (vs : List Nat) (n : Nat) (G : TGs) (T : TDs) : Prop where
  len : ∀ ds sl sl', T ds sl = some sl' → ds.length = n
  run : ∀ (H0 H : Hp) (O : List Addr) (us : List V) (ds : List D) (σ : L2.St) (sl sl' : Sl) (Q : L2.St → Hp → Prop), Same H0 H → RpAll K H0 O us ds → RpSl K H0 O σ sl → T ds sl = some sl' →
    (∀ σ', RpSl K H0 O σ' sl' → wipe σ' vs = wipe σ vs → Q σ' H) → G us σ H Q
def tdNil : TDs := fun ds sl => match ds with | [] => some sl | _ => none
def tdCons (T : TD) (U : TDs) : TDs := fun ds sl => match ds with
  | d :: r => match T d sl with | some sl1 => U r sl1 | none => none
  | [] => none
theorem g_nil {K : PySem.W.Frag} {vs : List Nat} : TgsOk K vs 0 gNil tdNil := by
  refine ⟨fun ds sl sl' e => ?_, fun H0 H O us ds σ sl sl' Q s r S e q => ?_⟩
  · unfold tdNil at e
    split at e
    · rfl
    · cases e
  · unfold tdNil at e
    split at e
    · cases e
      cases r
      exact ⟨rfl, q _ S rfl⟩
    · cases e
theorem g_cons {K : PySem.W.Frag} {vs : List Nat} {n : Nat} {G : TG} {T : TD} {Gs : TGs} {Ts : TDs} (h1 : TgOk K vs G T) (h2 : TgsOk K vs n Gs Ts) : TgsOk K vs (n + 1) (gCons G Gs) (tdCons T Ts) := by
  refine ⟨fun ds sl sl' e => ?_, fun H0 H O us ds σ sl sl' Q s r S e q => ?_⟩
  · unfold tdCons at e
    split at e
    · split at e
      · rw [List.length_cons, h2.len _ _ _ e]
      · cases e
    · cases e
  · unfold tdCons at e
    split at e
    · split at e
      · rename_i sl1 e1
        cases r with
        | cons r1 r2 => exact ⟨_, _, rfl, h1.run H0 H O _ _ σ sl sl1 _ s r1 S e1 fun σ1 S1 w1 => h2.run H0 H O _ _ σ1 sl1 sl' _ s r2 S1 e fun σ2 S2 w2 => q σ2 S2 (w2.trans w1)⟩
      · cases e
    · cases e
def tdTup (T : TDs) : TD := fun d sl => match d with | .tup xs => T xs sl | _ => none
theorem g_tup {K : PySem.W.Frag} {vs : List Nat} {n : Nat} {Gs : TGs} {Ts : TDs} (h : TgsOk K vs n Gs Ts) : TgOk K vs (gTup K n Gs) (tdTup Ts) := by
  refine ⟨fun H0 H O v d σ sl sl' Q s r S e q => ?_⟩
  unfold tdTup at e
  split at e
  · cases r with
    | tup r1 r2 => exact ⟨_, _, rfl, sameT s r1, by rw [r2.length]; exact h.len _ _ _ e, h.run H0 H O _ _ σ sl sl' Q s r2 S e q⟩
  · cases e
def asgS (T : TD) (f : Sl → M D) : SD := fun sl => bindS (f sl) sl fun d s => match T d sl with | some sl' => some (.nx sl' s) | none => none
theorem d_asg {tg : Expr} {G : TG} {T : TD} {vs : List Nat} (he : PE X e (tE X.K X.mg W f)) (hg : PG X tg G) (ht : TgOk X.K vs G T) (hs : swapsWithSole [tg] e pos.line X.env = pure false := by rfl) (hw : swappedStores [tg] e X.env = pure none := by rfl)
    (h1 : (assignEach [tg] X.env).map (·.2) = [assign tg X.env] := by rfl) : PS X (.Assign [tg] e pos) (tS X.K X.mg W (asgS T f)) := by
  refine PS.imp (ps_asg he hg hs hw h1) fun D σ H t => ?_
  refine tG_mono (tS_bind t) fun v H1 z => ?_
  obtain ⟨H0', O', sl', s', x, r', B', S', rx, q', p'⟩ := z
  split at q'
  · rename_i sl2 e2
    cases q'
    exact ht.run H0' H1 O' v x σ sl' sl2 _ B'.sub rx S' e2 fun σ2 S2 _ => p' _ _ _ _ B' (.refl _ _ _) S2
  · cases q'
/-- xs[i] = e -/
def setIx (s : Sto) (d e y : D) : Option Sto := match d, e with
  | .own k, .int i => match s[k]? with
    | some (.lst xs) => (ixN xs.length i).map fun j => s.set k (.lst (xs.set j y))
    | _ => none
  | _, _ => none
def setIxS (f o i : Sl → M D) : SD := fun sl => bindS (f sl) sl fun y => bindS (o sl) sl fun d => bindS (i sl) sl fun e s => match setIx s d e y with | some s' => some (.nx sl s') | none => none
theorem d_setIx {i : Expr} {fi fo : Sl → M D} (he : PE X e (tE X.K X.mg W f)) (ho : PE X o (tE X.K X.mg W fo)) (hi : PE X i (tE X.K X.mg W fi))
    (ha : ∀ v, assign (.Subscript o i p2) X.env v = (do
      let ov ← holding [v] (eval o X.env)
      let iv ← holding [v, ov] (eval i X.env)
      standAt p2
      holding [v, ov, iv] (setItem ov iv v)
      release [v, ov, iv] []) := by intro _; rfl)
    (hs : swapsWithSole [.Subscript o i p2] e pos.line X.env = pure false := by rfl) (hw : swappedStores [.Subscript o i p2] e X.env = pure none := by rfl)
    (h1 : (assignEach [.Subscript o i p2] X.env).map (·.2) = [assign (.Subscript o i p2) X.env] := by rfl) : PS X (.Assign [.Subscript o i p2] e pos) (tS X.K X.mg W (setIxS f fo fi)) := by
  refine PS.imp (ps_asg he (pg_sub ho hi set_list ha) hs hw h1) fun D σ H t => ?_
  refine tG_mono (tS_bind t) fun v H1 z => ?_
  obtain ⟨H0', O', sl', s', y, r', B', S', rx, q', p'⟩ := z
  obtain ⟨r1, e1, p1⟩ := PostS.bind (rp := Rp X.K) S' q' p'
  refine ⟨H0', O', sl', s', r1, B', S', e1, p1.mono fun u H2 z => ?_⟩
  obtain ⟨H02, O2, s2, d, r2, B2, X2, rd, q2, p2⟩ := z
  obtain ⟨r3, e3, p3⟩ := PostS.bind (rp := Rp X.K) (S'.ext X2) q2 p2
  refine ⟨H02, O2, sl', s2, r3, B2, S'.ext X2, e3, p3.mono fun w H3 z => ?_⟩
  obtain ⟨H03, O3, s3, ei, r4, B3, X3, ri, q3, p3⟩ := z
  have q3' : (match setIx s3 d ei y with | some s' => some (RS.nx sl' s') | none => none) = some r4 := q3
  cases hx : setIx s3 d ei y with
  | none => rw [hx] at q3'; cases q3'
  | some s4 =>
    rw [hx] at q3'
    cases q3'
    unfold setIx at hx
    split at hx
    · rename_i k j
      split at hx
      · rename_i xs hk
        have rd3 := X3.rp rd
        have ry3 := X3.rp (X2.rp rx)
        cases rd3 with
        | own h1 =>
          cases ri
          rename_i a
          obtain ⟨vs, g1, g2, g3⟩ := B3.cell _ _ _ h1 hk
          cases hj : ixN xs.length j with
          | none => rw [hj] at hx; cases hx
          | some m =>
            rw [hj] at hx
            cases hx
            obtain ⟨b1, b2⟩ := B3.write (o := .lst (vs.set m v)) (c := .lst (xs.set m y)) h1 g3 ⟨_, upd_same, RpAll.set ry3 m g2, g3⟩
            exact ⟨a, vs, j, m, rfl, rfl, g1, by rw [g2.length]; exact hj, p3 _ _ _ _ b1 b2 (((S'.ext X2).ext X3).ext b2)⟩
      · cases hx
    · cases hx
/-- x += e, whole numbers -/
def augO (op : Int → Int → Int) : D → D → Option D
  | .int i, .int j => some (.int (op i j))
  | _, _ => none
def augS (i : Nat) (op : Int → Int → Int) (f : Sl → M D) : SD := fun sl s => match sl[i]? with
  | some (some d) => bindS (f sl) sl (fun e s => match augO op d e with | some z => some (.nx (sl.set i (some z)) s) | none => none) s
  | _ => none
theorem d_aug {i : Nat} {x : Str} {op : Operator} {fo : Int → Int → Int} {pos' : Pos} (hN : X.N.Nodup) (hi : X.N[i]? = some x) (hx : Loc X.env.scope x) (he : PE X e (tE X.K X.mg W f)) (ho : PIp X op (ipI fo)) (hf : X.fn x = true ∨ X.env.scope.names.lookup x = some .local := by first | exact .inl rfl | exact .inr rfl | assumption) :
    PS X (.AugAssign (.Name x pos') op e pos) (tS X.K X.mg W (augS i fo f)) := by
  refine PS.imp (ps_aug hN hi hx he ho hf) fun D σ H t => ?_
  obtain ⟨H0, O, sl, sto, r, B, S, q, p⟩ := t
  unfold augS at q
  split at q
  · rename_i d hd
    obtain ⟨v, h1, h2⟩ := S.at_ i d hd
    refine ⟨v, h1, ?_⟩
    obtain ⟨r1, e1, p1⟩ := PostS.bind (rp := Rp X.K) S q p
    refine ⟨H0, O, sl, sto, r1, B, S, e1, p1.mono fun u H2 z => ?_⟩
    obtain ⟨H02, O2, s2, d2, r2, B2, X2, rd, q2, p2⟩ := z
    replace q2 : (match augO fo d d2 with | some z => some (RS.nx (sl.set i (some z)) s2) | none => none) = some r2 := q2
    cases hx : augO fo d d2 with
    | none => rw [hx] at q2; cases q2
    | some z =>
      rw [hx] at q2
      cases q2
      unfold augO at hx
      split at hx
      · cases hx
        cases h2
        cases rd
        exact ⟨_, _, rfl, rfl, p2 _ _ _ _ B2 (.refl _ _ _) ((S.ext X2).set (.int _) i)⟩
      · cases hx
  · cases q
end
end PD

set_option Elab.async false
set_option linter.all false
set_option maxRecDepth 100000
set_option maxHeartbeats 4000000
/-! PD: loops, comprehensions, defs. -/
namespace PD
open PySem PySem.Spec PyProof.Rows L2

/-! ### what is walked -/
abbrev Src := List D × Option Nat
/-- an own list that is walked stands as it stood -/
def Ck (a : Src) (s : Sto) : Prop := match a.2 with | none => True | some k => s[k]? = some (.lst a.1)
noncomputable instance instCk (a : Src) (s : Sto) : Decidable (Ck a s) := Classical.propDecidable _
structure WalkD (K : PySem.W.Frag) (J : It) (H0 : Hp) (O : List Addr) (a : Src) : Prop where
  goes : ∀ i H H0' O' s, i < a.1.length → Base K H H0' O' s → Same H0 H0' → Pre O O' → Ck a s → J.go i H
  stops : ∀ H H0' O' s, Base K H H0' O' s → Same H0 H0' → Pre O O' → Ck a s → J.stop a.1.length H
  yields : ∀ i H H0' O' s v H', i < a.1.length → Base K H H0' O' s → Same H0 H0' → Pre O O' → Ck a s → J.yld i H v H' →
    ∃ H0'' d, Base K H' H0'' O' s ∧ Ext H H0' O' H' H0'' O' ∧ a.1[i]? = some d ∧ Rp K H0'' O' v d
abbrev WkR (K : PySem.W.Frag) : Rep It Src := fun H0 O J a => WalkD K J H0 O a
def itO (s : Sto) : D → Option Src
  | .lst xs => some (xs, none)
  | .scr xs => some (xs, none)
  | .own k => match s[k]? with | some (.lst xs) => some (xs, some k) | _ => none
  | _ => none
section
variable {K : PySem.W.Frag} {H H0 : Hp} {O : List Addr}
theorem walkD_list {a : Addr} {vs : List V} {xs : List D} (h : SqL K H0 a vs) (r : RpAll K H0 O vs xs) : WalkD K (Itl K a) H0 O (xs, none) := by
  refine ⟨fun i H H0' O' s hi B e p _ => ?_, fun H H0' O' s B e p _ => ?_, fun i H H0' O' s v H' hi B e p _ y => ?_⟩
  · have hv : i < vs.length := by rw [r.length]; exact hi
    exact ⟨vs, vs[i], (e.trans B.sub).seq h, List.getElem?_eq_getElem hv⟩
  · exact ⟨vs, (e.trans B.sub).seq h, by rw [r.length]; exact Nat.le_refl _⟩
  · obtain ⟨rfl, f⟩ := y
    obtain ⟨d, h1, h2⟩ := r.getV (f vs ((e.trans B.sub).seq h))
    exact ⟨H0', d, B, .refl _ _ _, h1, Rp.mono e (fun _ _ h => p.get h) _ _ h2⟩
theorem walkD_tup {a : Addr} {vs : List V} {xs : List D} (h : SqT K H0 a vs) (r : RpAll K H0 O vs xs) : WalkD K (Itt K a) H0 O (xs, none) := by
  refine ⟨fun i H H0' O' s hi B e p _ => ?_, fun H H0' O' s B e p _ => ?_, fun i H H0' O' s v H' hi B e p _ y => ?_⟩
  · have hv : i < vs.length := by rw [r.length]; exact hi
    exact ⟨vs, vs[i], sameT (e.trans B.sub) h, List.getElem?_eq_getElem hv⟩
  · exact ⟨vs, sameT (e.trans B.sub) h, by rw [r.length]; exact Nat.le_refl _⟩
  · obtain ⟨rfl, f⟩ := y
    obtain ⟨d, h1, h2⟩ := r.getV (f vs (sameT (e.trans B.sub) h))
    exact ⟨H0', d, B, .refl _ _ _, h1, Rp.mono e (fun _ _ h => p.get h) _ _ h2⟩
theorem walkD_own {a : Addr} {k : Nat} {xs : List D} (h : O[k]? = some a) : WalkD K (Itl K a) H0 O (xs, some k) := by
  refine ⟨fun i H H0' O' s hi B e p c => ?_, fun H H0' O' s B e p c => ?_, fun i H H0' O' s v H' hi B e p c y => ?_⟩
  · obtain ⟨vs, g1, g2, _⟩ := B.cell k _ _ (p.get h) c
    have hv : i < vs.length := by rw [g2.length]; exact hi
    exact ⟨vs, vs[i], SqL.of g1, List.getElem?_eq_getElem hv⟩
  · obtain ⟨vs, g1, g2, _⟩ := B.cell k _ _ (p.get h) c
    exact ⟨vs, SqL.of g1, by rw [g2.length]; exact Nat.le_refl _⟩
  · obtain ⟨rfl, f⟩ := y
    obtain ⟨vs, g1, g2, _⟩ := B.cell k _ _ (p.get h) c
    obtain ⟨d, h1, h2⟩ := g2.getV (f vs (SqL.of g1))
    exact ⟨H0', d, B, .refl _ _ _, h1, h2⟩
def rangeD (lo : Int) (n : Nat) : List D := (List.range n).map fun i => .int (lo + (i : Nat))
theorem walkD_range (lo : Int) (n : Nat) : WalkD K (Itr lo n) H0 O (rangeD lo n, none) := by
  have hl : (rangeD lo n).length = n := by unfold rangeD; rw [List.length_map, List.length_range]
  refine ⟨fun i H H0' O' s hi B e p _ => by rw [hl] at hi; exact hi, fun H H0' O' s B e p _ => by show n ≤ (rangeD lo n).length; rw [hl]; exact Nat.le_refl _, fun i H H0' O' s v H' hi B e p _ y => ?_⟩
  obtain ⟨rfl, rfl⟩ := y
  rw [hl] at hi
  refine ⟨H0', .int (lo + (i : Nat)), B, .refl _ _ _, ?_, .int _⟩
  show (rangeD lo n)[i]? = _
  unfold rangeD
  rw [List.getElem?_map, List.getElem?_range hi]
  rfl
/-- enumerate -/
def enumD : Nat → List D → List D
  | _, [] => []
  | i, x :: xs => .tup [.int (i : Nat), x] :: enumD (i + 1) xs
theorem enumD_length : ∀ (i : Nat) (xs : List D), (enumD i xs).length = xs.length
  | _, [] => rfl
  | i, x :: xs => congrArg (· + 1) (enumD_length (i + 1) xs)
theorem enumD_get : ∀ (i : Nat) (xs : List D) (j : Nat) (d : D), xs[j]? = some d → (enumD i xs)[j]? = some (.tup [.int ((i + j : Nat) : Int), d])
  | _, [], _, _, h => by simp at h
  | i, x :: xs, 0, d, h => by
    have e : x = d := by simpa using h
    subst e
    rfl
  | i, x :: xs, j + 1, d, h => by
    have q := enumD_get (i + 1) xs j d (by simpa using h)
    show (enumD (i + 1) xs)[j]? = _
    rw [q, show i + 1 + j = i + (j + 1) by omega]
theorem walkD_enum {a : Addr} {vs : List V} {xs : List D} (h : SqL K H0 a vs) (r : RpAll K H0 O vs xs) : WalkD K (Ite K a) H0 O (enumD 0 xs, none) := by
  refine ⟨fun i H H0' O' s hi B e p _ => ?_, fun H H0' O' s B e p _ => ?_, fun i H H0' O' s v H' hi B e p _ y => ?_⟩
  · have hi' : i < xs.length := by rw [← enumD_length 0 xs]; exact hi
    have hv : i < vs.length := by rw [r.length]; exact hi'
    exact ⟨vs, vs[i], (e.trans B.sub).seq h, List.getElem?_eq_getElem hv⟩
  · exact ⟨vs, (e.trans B.sub).seq h, by rw [r.length, ← enumD_length 0 xs]; exact Nat.le_refl _⟩
  · obtain ⟨T, x, rfl, nT, rfl, f⟩ := y
    obtain ⟨d, h1, h2⟩ := r.getV (f vs ((e.trans B.sub).seq h))
    obtain ⟨b1, b2⟩ := B.new nT (.tup [.int (i : Nat), x])
    refine ⟨_, _, b1, b2, ?_, .tup (SqT.of upd_same) (.cons (.int (i : Nat)) (.one (b2.rp (Rp.mono e (fun _ _ h => p.get h) _ _ h2))))⟩
    have q := enumD_get 0 xs i d h1
    rw [Nat.zero_add] at q
    exact q
end
section
variable {X : Cx} {W : WX} {e a b c o tg iter elt : Expr} {es : List Expr} {pos p p2 : Pos} {f g : Sl → M D} {h : Sl → M (List D)} {x : Str}
abbrev tI (K : PySem.W.Frag) (mg : Str → Option Value) (W : WX) (f : Sl → M Src) : TI := tG K mg W (WkR K) f
/-- a list or tuple that is walked -/
def seqIt (s : Sto) : D → Option Src
  | .tup xs => some (xs, none)
  | d => itO s d
def fIt (f : Sl → M D) : Sl → M Src := fun sl => bindM (f sl) fun d => liftO fun s => seqIt s d
theorem tG_cut {α α' : Type} {m : M α} {k : α → M α'} {sto : Sto} {r : R α'} (q : bindM m k sto = some r) : (∃ d s', m sto = some (.ok d s') ∧ k d s' = some r) ∨ (∃ c s', m sto = some (.ex c s') ∧ r = .ex c s') := by
  unfold bindM at q
  cases e : m sto with
  | none => rw [e] at q; cases q
  | some r1 =>
    rw [e] at q
    cases r1 with
    | ok d s' => exact .inl ⟨d, s', rfl, q⟩
    | ex c s' => cases q; exact .inr ⟨c, s', rfl, rfl⟩
theorem i_seq (he : PE X e (tE X.K X.mg W f)) : PI X tg e (tI X.K X.mg W (fIt f)) := by
  refine ⟨fun pins s σ H R I t => ?_⟩
  obtain ⟨H0, O, sl, sto, r, B, S, q, p⟩ := t
  rcases tG_cut q with ⟨d, s', e1, q1⟩ | ⟨c, s', e1, rfl⟩
  · obtain ⟨y, hy, rfl⟩ := PostG.one (β := It) (Q := R) q1
    unfold seqIt at hy
    split at hy
    · cases hy
      refine (pi_tup he).run pins s σ H R I ⟨H0, O, sl, sto, _, B, S, e1, fun v H1 H01 O1 B1 X1 rv => ?_⟩
      cases rv with
      | tup h1 h2 => exact ⟨_, rfl, ⟨_, sameT B1.sub h1⟩, p _ _ _ _ B1 X1 (walkD_tup h1 h2)⟩
    · refine (pi_list he).run pins s σ H R I ⟨H0, O, sl, sto, _, B, S, e1, fun v H1 H01 O1 B1 X1 rv => ?_⟩
      unfold itO at hy
      split at hy
      · cases hy
        cases rv with
        | lst h1 h2 => exact ⟨_, rfl, ⟨_, SqL.of (B1.sub _ _ h1)⟩, p _ _ _ _ B1 X1 (walkD_list (SqL.of h1) h2)⟩
      · cases hy
        cases rv with
        | scr h1 h2 => exact ⟨_, rfl, ⟨_, B1.sub.seq h1⟩, p _ _ _ _ B1 X1 (walkD_list h1 h2)⟩
      · split at hy
        · rename_i k xs hk
          cases hy
          cases rv with
          | own h1 =>
            obtain ⟨vs, g1, _⟩ := B1.cell _ _ _ h1 hk
            exact ⟨_, rfl, ⟨_, SqL.of g1⟩, p _ _ _ _ B1 X1 (walkD_own h1)⟩
        · cases hy
      · cases hy
  · exact (pi_list he).run pins s σ H R I ⟨H0, O, sl, sto, _, B, S, e1, p⟩
def rngO (d : D) : Option Src := match d with
  | .int n => if n < 2 ^ 62 ∧ -(2 ^ 62) ≤ n then some (rangeD 0 n.toNat, none) else none
  | _ => none
def fRng1 (f : Sl → M D) : Sl → M Src := fun sl => bindM (f sl) fun d => liftO fun _ => rngO d
theorem i_range1 (hg : Gl X "range") (hm : X.mg "range" = none) (ha : PE X a (tE X.K X.mg W f)) (hs : starEach [a] X.env = [(false, eval a X.env)] := by rfl) (hs2 : starEach (a :: []) X.env = (false, eval a X.env) :: starEach [] X.env := by rfl) : PI X tg (.Call (.Name "range" p) [a] [] pos) (tI X.K X.mg W (fRng1 f)) := by
  refine ⟨fun pins s σ H R I t => ?_⟩
  refine (pi_range1 hg hm (pa_cons ha pa_nil hs2) hs).run pins s σ H R I ?_
  refine tG_mono (tG_bind t) fun v H1 z => ?_
  obtain ⟨H0', O', sl', s', x, r', B', S', rx, q', p'⟩ := z
  obtain ⟨y, hy, rfl⟩ := PostG.one (β := It) (Q := R) q'
  unfold rngO at hy
  split at hy
  · split at hy
    · rename_i hn
      cases hy
      cases rx
      exact ⟨_, rfl, hn.2, hn.1, post_ok p' B' (walkD_range 0 _)⟩
    · cases hy
  · cases hy
def rngO2 (d e : D) : Option Src := match d, e with
  | .int m, .int n => if (-(2 ^ 62) ≤ m ∧ m < 2 ^ 62) ∧ -(2 ^ 62) ≤ n ∧ n < 2 ^ 62 then some (rangeD m (n - m).toNat, none) else none
  | _, _ => none
def fRng2 (f g : Sl → M D) : Sl → M Src := fun sl => bindM (f sl) fun d => bindM (g sl) fun e => liftO fun _ => rngO2 d e
theorem i_range2 (hg : Gl X "range") (hm : X.mg "range" = none) (ha : PE X a (tE X.K X.mg W f)) (hb : PE X b (tE X.K X.mg W g)) (hs : starEach [a, b] X.env = [(false, eval a X.env), (false, eval b X.env)] := by rfl) (hs2 : starEach [b] X.env = [(false, eval b X.env)] := by rfl)
    (hs3 : starEach (a :: [b]) X.env = (false, eval a X.env) :: starEach [b] X.env := by rfl) (hs4 : starEach (b :: []) X.env = (false, eval b X.env) :: starEach [] X.env := by rfl) : PI X tg (.Call (.Name "range" p) [a, b] [] pos) (tI X.K X.mg W (fRng2 f g)) := by
  refine ⟨fun pins s σ H R I t => ?_⟩
  refine (pi_range2 hg hm (pa_cons ha (pa_cons hb pa_nil hs4) hs3) hs hs2).run pins s σ H R I ?_
  refine tG_mono (tG_bind t) fun v H1 z => ?_
  obtain ⟨H0', O', sl', s', x, r', B', S', rx, q', p'⟩ := z
  obtain ⟨r2, e2, p2⟩ := PostG.bind (rp := Rp X.K) q' p'
  refine ⟨H0', O', sl', s', r2, B', S', e2, p2.mono fun u H2 z => ?_⟩
  obtain ⟨H02, O2, s2, y, r3, B2, X2, ry, q3, p3⟩ := z
  obtain ⟨w, hy, rfl⟩ := PostG.one (β := It) (Q := R) q3
  unfold rngO2 at hy
  split at hy
  · split at hy
    · rename_i hn
      cases hy
      cases rx
      cases ry
      exact ⟨_, _, rfl, ⟨hn.1.1, hn.1.2, hn.2.1, hn.2.2⟩, post_ok p3 B2 (walkD_range _ _)⟩
    · cases hy
  · cases hy
def fEnum (f : Sl → M D) : Sl → M Src := fun sl => bindM (f sl) fun d => liftO fun _ => match d with | .lst xs => some (enumD 0 xs, none) | .scr xs => some (enumD 0 xs, none) | _ => none
theorem i_enum {tpos : Pos} {elts : List Expr} {kk : Nat} (hg : Gl X "enumerate") (hm : X.mg "enumerate" = none) (ha : PE X a (tE X.K X.mg W f)) (hs : starEach [a] X.env = [(false, eval a X.env)] := by rfl) (hs2 : starEach (a :: []) X.env = (false, eval a X.env) :: starEach [] X.env := by rfl) :
    PI X (.Tuple elts kk tpos) (.Call (.Name "enumerate" p) [a] [] pos) (tI X.K X.mg W (fEnum f)) := by
  refine ⟨fun pins s σ H R I t => ?_⟩
  refine (pi_enum hg hm (pa_cons ha pa_nil hs2) hs).run pins s σ H R I ?_
  refine tG_mono (tG_bind t) fun v H1 z => ?_
  obtain ⟨H0', O', sl', s', x, r', B', S', rx, q', p'⟩ := z
  obtain ⟨y, hy, rfl⟩ := PostG.one (β := It) (Q := R) q'
  split at hy
  · cases hy
    cases rx with
    | lst h1 h2 => exact ⟨_, _, rfl, SqL.of (B'.sub _ _ h1), post_ok p' B' (walkD_enum (SqL.of h1) h2)⟩
  · cases hy
    cases rx with
    | scr h1 h2 => exact ⟨_, _, rfl, B'.sub.seq h1, post_ok p' B' (walkD_enum h1 h2)⟩
  · cases hy

/-! ### for -/
/-- the turns of a loop -/
noncomputable def forL (T : TD) (g : SD) (a : Src) : List D → Sl → Sto → Option RS
  | [], sl, s => some (.nx sl s)
  | x :: xs, sl, s => match T x sl with
    | none => none
    | some sl1 => match g sl1 s with
      | some (.nx sl2 s2) => if Ck a s2 then forL T g a xs sl2 s2 else none
      | some (.ct sl2 s2) => if Ck a s2 then forL T g a xs sl2 s2 else none
      | some (.bk sl2 s2) => some (.nx sl2 s2)
      | r => r
noncomputable def forS (T : TD) (i : Sl → M Src) (g : SD) : SD := fun sl => bindS (i sl) sl fun a s => if Ck a s then forL T g a a.1 sl s else none
theorem d_for {G : TG} {T : TD} {vs : List Nat} {i : Sl → M Src} {body : List Stmt} {s1 : SD} (hp : PassesOwn (model X.prog X.w) X.A X.env X.xe) (hc : X.calm = true) (hi : PI X tg iter (tI X.K X.mg W i)) (hg : PG X tg G) (ht : TgOk X.K vs G T) (hb : PSs X body (tS X.K X.mg W s1))
    (hs : ∀ x, foldedSetIterable iter X.env x = pure x := by intro _; rfl) : PS X (.For tg iter body [] pos) (tS X.K X.mg W (forS T i s1)) := by
  refine PS.imp (ps_for hp hc hi hg hb hs) fun D σ H t => ?_
  refine tG_mono (tS_bind t) fun J H1 z => ?_
  obtain ⟨H0, O, sl, s, a, r, B, S, wk, q, p⟩ := z
  by_cases hck : Ck a s
  · rw [if_pos hck] at q
    refine ⟨fun i m σ H => m = a.1.length - i ∧ i ≤ a.1.length ∧ ∃ H0' O' sl' s', Base X.K H H0' O' s' ∧ Ext H1 H0 O H H0' O' ∧ RpSl X.K H0' O' σ sl' ∧ Ck a s' ∧ forL T s1 a (a.1.drop i) sl' s' = some r,
      ⟨a.1.length, by simp, Nat.zero_le _, H0, O, sl, s, B, .refl _ _ _, S, hck, q⟩, ?_⟩
    rintro i m σ H ⟨rfl, hi, H0', O', sl', s', B', X', S', ck, e⟩
    by_cases hlt : i < a.1.length
    · refine .inr ⟨wk.goes i H H0' O' s' hlt B' X'.h0 X'.o ck, _, fun σ' H' nq => ⟨a.1.length - (i + 1), by omega, rfl, hlt, nq⟩, fun x H' y => ?_⟩
      obtain ⟨H0'', d, B2, X2, hd, rd⟩ := wk.yields i H H0' O' s' x H' hlt B' X'.h0 X'.o ck y
      have hdrop : a.1.drop i = d :: a.1.drop (i + 1) := by
        rw [List.drop_eq_getElem_cons hlt]
        have := List.getElem?_eq_getElem hlt
        rw [this] at hd
        cases hd
        rfl
      rw [hdrop] at e
      unfold forL at e
      split at e
      · cases e
      · rename_i sl1 e1
        refine ht.run H0'' H' O' x d σ sl' sl1 _ B2.sub rd (S'.ext X2) e1 fun σ1 S1 _ => ?_
        cases eg : s1 sl1 s' with
        | none => rw [eg] at e; cases e
        | some r1 =>
          refine ⟨H0'', O', sl1, s', r1, B2, S1, eg, ?_⟩
          rw [eg] at e
          cases r1 with
          | nx sl2 s2 =>
            intro σ' H2 H02 O2 Bx Xx Sx
            replace e : (if Ck a s2 then forL T s1 a (a.1.drop (i + 1)) sl2 s2 else none) = some r := e
            split at e
            · rename_i c2
              exact ⟨H02, O2, sl2, s2, Bx, (X'.trans X2).trans Xx, Sx, c2, e⟩
            · cases e
          | ct sl2 s2 =>
            intro σ' H2 H02 O2 Bx Xx Sx
            replace e : (if Ck a s2 then forL T s1 a (a.1.drop (i + 1)) sl2 s2 else none) = some r := e
            split at e
            · rename_i c2
              exact ⟨H02, O2, sl2, s2, Bx, (X'.trans X2).trans Xx, Sx, c2, e⟩
            · cases e
          | bk sl2 s2 =>
            cases e
            exact p.ext (X'.trans X2)
          | rt d2 s2 =>
            cases e
            exact p.ext (X'.trans X2)
          | ex c l s2 =>
            cases e
            exact p.ext (X'.trans X2)
    · have ei : i = a.1.length := by omega
      subst ei
      refine .inl ⟨wk.stops H H0' O' s' B' X'.h0 X'.o ck, ?_⟩
      rw [List.drop_length] at e
      cases e
      exact p σ H H0' O' B' X' S'
  · rw [if_neg hck] at q
    cases q
/-! ### while -/
def whileN (u : Sl → M Bool) (g : SD) : Nat → SD
  | 0, _, _ => none
  | n + 1, sl, s => match u sl s with
    | none => none
    | some (.ex c s') => some (.ex c sl s')
    | some (.ok false s') => some (.nx sl s')
    | some (.ok true s') => match g sl s' with
      | some (.nx sl2 s2) => whileN u g n sl2 s2
      | some (.ct sl2 s2) => whileN u g n sl2 s2
      | some (.bk sl2 s2) => some (.nx sl2 s2)
      | r => r
open Classical in
noncomputable def whileS (u : Sl → M Bool) (g : SD) : SD := fun sl s => if h : ∃ n r, whileN u g n sl s = some r then some (Classical.choose (Classical.choose_spec h)) else none
theorem whileN_mono {u : Sl → M Bool} {g : SD} : ∀ {n : Nat} {sl : Sl} {s : Sto} {r : RS}, whileN u g n sl s = some r → whileN u g (n + 1) sl s = some r := by
  intro n
  induction n with
  | zero => intro sl s r h; cases h
  | succ n ih =>
    intro sl s r h
    unfold whileN at h ⊢
    cases e : u sl s with
    | none => rw [e] at h; cases h
    | some r1 =>
      rw [e] at h
      cases r1 with
      | ex c s' => exact h
      | ok b s' =>
        cases b with
        | false => exact h
        | true =>
          cases eg : g sl s' with
          | none => simp only [eg] at h; cases h
          | some r2 =>
            simp only [eg] at h ⊢
            cases r2 with
            | nx l2 s2 => exact ih h
            | ct l2 s2 => exact ih h
            | bk l2 s2 => exact h
            | rt d s2 => exact h
            | ex c l s2 => exact h
theorem whileN_le {u : Sl → M Bool} {g : SD} {n m : Nat} {sl : Sl} {s : Sto} {r : RS} (h : whileN u g n sl s = some r) (hm : n ≤ m) : whileN u g m sl s = some r := by
  induction hm with
  | refl => exact h
  | step _ ih => exact whileN_mono ih
theorem whileS_eq {u : Sl → M Bool} {g : SD} {n : Nat} {sl : Sl} {s : Sto} {r : RS} (h : whileN u g n sl s = some r) : whileS u g sl s = some r := by
  have ex : ∃ n r, whileN u g n sl s = some r := ⟨n, r, h⟩
  unfold whileS
  rw [dif_pos ex]
  have q := Classical.choose_spec (Classical.choose_spec ex)
  have a := whileN_le q (Nat.le_max_left (Classical.choose ex) n)
  have b := whileN_le h (Nat.le_max_right (Classical.choose ex) n)
  rw [a] at b
  exact b
theorem whileS_ex {u : Sl → M Bool} {g : SD} {sl : Sl} {s : Sto} {r : RS} (h : whileS u g sl s = some r) : ∃ n, whileN u g n sl s = some r := by
  unfold whileS at h
  split at h
  · rename_i ex
    cases h
    exact ⟨_, Classical.choose_spec (Classical.choose_spec ex)⟩
  · cases h
theorem d_while {c : Expr} {u : Sl → M Bool} {body : List Stmt} {s1 : SD} (hp : PassesOwn (model X.prog X.w) X.A X.env X.xe) (hc : PT X c (tT X.K X.mg W u)) (hb : PSs X body (tS X.K X.mg W s1)) : PS X (.While c body [] pos) (tS X.K X.mg W (whileS u s1)) := by
  refine PS.imp (ps_while hp hc hb) fun D σ H t => ?_
  obtain ⟨H0, O, sl, sto, r, B, S, q, p⟩ := t
  obtain ⟨n, hn⟩ := whileS_ex q
  refine ⟨fun m σ' H' => ∃ H0' O' sl' s', Base X.K H' H0' O' s' ∧ Ext H H0 O H' H0' O' ∧ RpSl X.K H0' O' σ' sl' ∧ whileN u s1 m sl' s' = some r, ⟨n, H0, O, sl, sto, B, .refl _ _ _, S, hn⟩, ?_⟩
  rintro m σ' H' ⟨H0', O', sl', s', B', X', S', e⟩
  cases m with
  | zero => cases e
  | succ m =>
    unfold whileN at e
    cases eu : u sl' s' with
    | none => rw [eu] at e; cases e
    | some r1 =>
      refine ⟨H0', O', sl', s', r1, B', S', eu, ?_⟩
      rw [eu] at e
      cases r1 with
      | ex c s2 =>
        cases e
        exact fun cls dd H2 H02 O2 w b x => p cls dd σ' H2 H02 O2 w b (X'.trans x) (S'.ext x)
      | ok b s2 =>
        intro b' H2 H02 O2 B2 X2 eb
        cases eb
        cases b with
        | false =>
          cases e
          exact iteF (p _ _ _ _ B2 (X'.trans X2) (S'.ext X2))
        | true =>
          refine iteT ⟨fun σ3 H3 => ∃ H0' O' sl' s', Base X.K H3 H0' O' s' ∧ Ext H H0 O H3 H0' O' ∧ RpSl X.K H0' O' σ3 sl' ∧ whileN u s1 m sl' s' = some r, fun σ3 H3 h => ⟨m, Nat.lt_succ_self _, h⟩, ?_⟩
          cases eg : s1 sl' s2 with
          | none => simp only [eg] at e; cases e
          | some r2 =>
            refine ⟨H02, O2, sl', s2, r2, B2, S'.ext X2, eg, ?_⟩
            simp only [eg] at e
            cases r2 with
            | nx l3 s3 => exact fun σ3 H3 H03 O3 b x z => ⟨H03, O3, l3, s3, b, (X'.trans X2).trans x, z, e⟩
            | ct l3 s3 => exact fun σ3 H3 H03 O3 b x z => ⟨H03, O3, l3, s3, b, (X'.trans X2).trans x, z, e⟩
            | bk l3 s3 => cases e; exact p.ext (X'.trans X2)
            | rt d s3 => cases e; exact p.ext (X'.trans X2)
            | ex c l s3 => cases e; exact p.ext (X'.trans X2)
end
end PD

set_option Elab.async false
set_option linter.all false
set_option maxRecDepth 100000
set_option maxHeartbeats 4000000
/-! PD: comprehensions, defs. -/
namespace PD
open PySem PySem.Spec PyProof.Rows L2

/-! ### comprehensions -/
abbrev wF : WX := fun _ _ _ _ => False
def noex {α : Type} (m : M α) : M α := fun s => match m s with | some (.ex _ _) => none | r => r
noncomputable def ckM (a : Src) : M Unit := fun s => if Ck a s then some (.ok () s) else none
/-- the turns of a comprehension; each begins with the slots sl -/
noncomputable def lcL (T : TD) (u : Sl → M Bool) (f : Sl → M D) (a : Src) (sl : Sl) : List D → M (List D)
  | [] => retM []
  | x :: xs => match T x sl with
    | none => fun _ => none
    | some sl1 => bindM (noex (u sl1)) fun b => if b = true then bindM (noex (f sl1)) fun y => bindM (ckM a) fun _ => bindM (lcL T u f a sl xs) fun ys => retM (y :: ys) else bindM (ckM a) fun _ => lcL T u f a sl xs
noncomputable def fLc (T : TD) (u : Sl → M Bool) (f : Sl → M D) (i : Sl → M Src) (vs : List Nat) : Sl → M D := fun sl =>
  bindM (i sl) fun a => bindM (ckM a) fun _ => bindM (lcL T u f a (wipeS sl vs) a.1) fun ys => liftO fun _ => if small ys.length = true then some (.lst ys) else none
noncomputable def fLcOwn (T : TD) (u : Sl → M Bool) (f : Sl → M D) (i : Sl → M Src) (vs : List Nat) : Sl → M D := fun sl =>
  bindM (i sl) fun a => bindM (ckM a) fun _ => bindM (lcL T u f a (wipeS sl vs) a.1) fun ys s => if small ys.length = true then some (.ok (.own s.length) (s ++ [.lst ys])) else none
def fYes : Sl → M Bool := fun _ => retM true
section
variable {X : Cx} {W : WX} {e a b c o tg iter elt : Expr} {es : List Expr} {pos p p2 : Pos} {f : Sl → M D} {x : Str}
theorem noex_ok {α : Type} {m : M α} {s : Sto} {r : R α} (h : noex m s = some r) : ∃ a s', r = .ok a s' ∧ m s = some (.ok a s') := by
  unfold noex at h
  cases e : m s with
  | none => rw [e] at h; cases h
  | some r1 =>
    rw [e] at h
    cases r1 with
    | ok a s' => cases h; exact ⟨a, s', rfl, rfl⟩
    | ex c s' => cases h
theorem ckM_ok {a : Src} {s : Sto} {r : R Unit} (h : ckM a s = some r) : r = .ok () s ∧ Ck a s := by
  unfold ckM at h
  split at h
  · rename_i c
    cases h
    exact ⟨rfl, c⟩
  · cases h
theorem lcL_ok {T : TD} {u : Sl → M Bool} {f : Sl → M D} {a : Src} {sl : Sl} : ∀ (xs : List D) (s : Sto) (r : R (List D)), lcL T u f a sl xs s = some r → ∃ ys s', r = .ok ys s' := by
  intro xs
  induction xs with
  | nil => intro s r h; cases h; exact ⟨_, _, rfl⟩
  | cons x xs ih =>
    intro s r h
    unfold lcL at h
    cases e1 : T x sl with
    | none => simp only [e1] at h; cases h
    | some sl1 =>
      simp only [e1] at h
      rcases tG_cut h with ⟨b, s1, h1, h2⟩ | ⟨c, s1, h1, h2⟩
      · split at h2
        · rcases tG_cut h2 with ⟨y, s2, h3, h4⟩ | ⟨c, s2, h3, h4⟩
          · rcases tG_cut h4 with ⟨_, s3, h5, h6⟩ | ⟨c, s3, h5, h6⟩
            · rcases tG_cut h6 with ⟨ys, s4, h7, h8⟩ | ⟨c, s4, h7, h8⟩
              · cases h8; exact ⟨_, _, rfl⟩
              · obtain ⟨_, _, z⟩ := ih _ _ h7; cases z
            · obtain ⟨z, _⟩ := ckM_ok h5; cases z
          · obtain ⟨_, _, z, _⟩ := noex_ok h3; cases z
        · rcases tG_cut h2 with ⟨_, s3, h5, h6⟩ | ⟨c, s3, h5, h6⟩
          · exact ih _ _ h6
          · obtain ⟨z, _⟩ := ckM_ok h5; cases z
      · obtain ⟨_, _, z, _⟩ := noex_ok h1; cases z
/-- one step of the new list -/
theorem Base.acc {K : PySem.W.Frag} {H H0 : Hp} {O : List Addr} {sto : Sto} (B : Base K H H0 O sto) {p : Addr} (h0 : H0 p = none) (hO : p ∉ O) (hl : H p ≠ none) (o : HO) : Base K (upd H p o) H0 O sto := by
  refine ⟨fun b u e => ?_, B.nd, B.len, fun a ha => ?_, fun k a c h1 h2 => ?_⟩
  · rw [upd_ne (ne_of_none e h0)]; exact B.sub _ _ e
  · by_cases e : a = p
    · subst e; rw [upd_same]; simp
    · rw [upd_ne e]; exact B.live a ha
  · have q := B.cell k a c h1 h2
    have hn : a ≠ p := fun e => hO (by subst e; exact get_mem h1)
    by_cases hg : c = .gone
    · subst hg; trivial
    · exact q.mono (.refl _) (fun _ _ h => h) (upd_ne hn) (q.none hg)
/-- the new list at D stands apart from all else -/
structure Apart (H0 : Hp) (O : List Addr) (H : Hp) (Dd : Addr) (acc : List V) : Prop where
  at_ : H Dd = some (.lst acc)
  no0 : H0 Dd = none
  noO : Dd ∉ O
theorem Apart.ext {H H0 H' H0' : Hp} {O O' : List Addr} {Dd : Addr} {acc : List V} (A : Apart H0 O H Dd acc) (E : Ext H H0 O H' H0' O') : Apart H0' O' H' Dd acc := by
  refine ⟨E.frame _ _ A.at_ A.noO, ?_, fun h => ?_⟩
  · cases q : H0' Dd with
    | none => rfl
    | some u =>
      rcases E.h0n Dd (by rw [q]; simp) with h | h | h
      · exact absurd A.no0 h
      · rw [A.at_] at h; cases h
      · exact absurd h A.noO
  · rcases E.fresh _ h with h | h
    · exact A.noO h
    · rw [A.at_] at h; cases h
/-- behind a step on the new list: what came, as seen from the start H1, H0, O -/
structure LcAt (K : PySem.W.Frag) (H1 H0 : Hp) (O : List Addr) (H H0' : Hp) (O' : List Addr) (s : Sto) (Dd : Addr) (acc : List V) (ds : List D) : Prop where
  base : Base K H H0' O' s
  h0 : Same H0 H0'
  o : Pre O O'
  fresh : ∀ a ∈ O', a ∈ O ∨ H1 a = none
  frame : ∀ a u, H1 a = some u → a ∉ O → H a = some u
  live : ∀ a, H1 a ≠ none → H a ≠ none
  h0n : ∀ a, H0' a ≠ none → H0 a ≠ none ∨ H1 a = none ∨ a ∈ O
  apart : Apart H0' O' H Dd acc
  acc : RpAll K H0' O' acc ds
section
variable {K : PySem.W.Frag} {H1 H0 H H0' H2 H02 : Hp} {O O' O2 : List Addr} {s s2 : Sto} {Dd : Addr} {acc : List V} {ds : List D}
theorem LcAt.step (L : LcAt K H1 H0 O H H0' O' s Dd acc ds) (B : Base K H2 H02 O2 s2) (E : Ext H H0' O' H2 H02 O2) : LcAt K H1 H0 O H2 H02 O2 s2 Dd acc ds where
  base := B
  h0 := L.h0.trans E.h0
  o := L.o.trans E.o
  fresh := fun x hx => by
    rcases E.fresh x hx with h | h
    · exact L.fresh x h
    · refine .inr ?_
      cases q : H1 x with
      | none => rfl
      | some o => exact absurd h (L.live x (by rw [q]; simp))
  frame := fun x o h hn => E.frame x o (L.frame x o h hn) fun hx => (L.fresh x hx).elim hn fun z => by rw [z] at h; cases h
  live := fun x h => E.live x (L.live x h)
  h0n := fun x h => by
    rcases E.h0n x h with h | h | h
    · exact L.h0n x h
    · refine .inr (.inl ?_)
      cases q : H1 x with
      | none => rfl
      | some o => exact absurd h (L.live x (by rw [q]; simp))
    · rcases L.fresh x h with h | h
      · exact .inr (.inr h)
      · exact .inr (.inl h)
  apart := L.apart.ext E
  acc := E.rps L.acc
theorem LcAt.push (L : LcAt K H1 H0 O H H0' O' s Dd acc ds) (hD : H1 Dd = none) {v : V} {d : D} (r : Rp K H0' O' v d) : LcAt K H1 H0 O (upd H Dd (.lst (acc ++ [v]))) H0' O' s Dd (acc ++ [v]) (ds ++ [d]) where
  base := L.base.acc L.apart.no0 L.apart.noO (by rw [L.apart.at_]; simp) _
  h0 := L.h0
  o := L.o
  fresh := L.fresh
  frame := fun a u h hn => by rw [upd_ne (ne_of_none h hD)]; exact L.frame a u h hn
  live := fun a h => by
    by_cases e : a = Dd
    · subst e; exact absurd hD h
    · rw [upd_ne e]; exact L.live a h
  h0n := L.h0n
  apart := ⟨upd_same, L.apart.no0, L.apart.noO⟩
  acc := L.acc.append (.one r)
theorem LcAt.start (B : Base K H1 H0 O s) (hD : H1 Dd = none) : LcAt K H1 H0 O (upd H1 Dd (.lst [])) H0 O s Dd [] [] where
  base := by
    refine ⟨fun b u e => ?_, B.nd, B.len, fun a ha => ?_, fun k a c h1 h2 => ?_⟩
    · rw [upd_ne (ne_of_none (B.sub _ _ e) hD)]; exact B.sub _ _ e
    · have hn : a ≠ Dd := fun e => by subst e; exact B.live _ ha hD
      rw [upd_ne hn]; exact B.live a ha
    · have q := B.cell k a c h1 h2
      have hn : a ≠ Dd := fun e => by subst e; exact B.live _ (get_mem h1) hD
      by_cases hg : c = .gone
      · subst hg; trivial
      · exact q.mono (.refl _) (fun _ _ h => h) (upd_ne hn) (q.none hg)
  h0 := .refl _
  o := .refl _
  fresh := fun _ h => .inl h
  frame := fun a u h _ => by rw [upd_ne (ne_of_none h hD)]; exact h
  live := fun a h => by
    by_cases e : a = Dd
    · subst e; exact absurd hD h
    · rw [upd_ne e]; exact h
  h0n := fun _ h => .inl h
  apart := ⟨upd_same, none0 B hD, fun h => B.live _ h hD⟩
  acc := .nil
/-- at the end the new list is one of the stable ones -/
theorem LcAt.done (L : LcAt K H1 H0 O H H0' O' s Dd acc ds) (hD : H1 Dd = none) : Base K H (upd H0' Dd (.lst acc)) O' s ∧ Ext H1 H0 O H (upd H0' Dd (.lst acc)) O' ∧ Rp K (upd H0' Dd (.lst acc)) O' (.ref Dd) (.lst ds) := by
  have s0 : Same H0' (upd H0' Dd (.lst acc)) := fun b u e => by rw [upd_ne (ne_of_none e L.apart.no0)]; exact e
  refine ⟨⟨fun b u e => ?_, L.base.nd, L.base.len, L.base.live, fun k a c h1 h2 => ?_⟩, ⟨L.h0.trans s0, L.o, L.fresh, L.frame, L.live, fun a h => ?_⟩, .lst upd_same (RpAll.mono s0 (fun _ _ h => h) _ _ L.acc)⟩
  · by_cases hb : b = Dd
    · subst hb; rw [upd_same] at e; cases e; exact L.apart.at_
    · rw [upd_ne hb] at e; exact L.base.sub _ _ e
  · have q := L.base.cell k a c h1 h2
    have hn : a ≠ Dd := fun e => by subst e; exact L.apart.noO (get_mem h1)
    by_cases hg : c = .gone
    · subst hg; trivial
    · exact q.mono s0 (fun _ _ h => h) rfl (by rw [upd_ne hn]; exact q.none hg)
  · by_cases hb : a = Dd
    · subst hb; exact .inr (.inl hD)
    · rw [upd_ne hb] at h; exact L.h0n a h
/-- .. or one's own -/
theorem LcAt.doneOwn (L : LcAt K H1 H0 O H H0' O' s Dd acc ds) (hD : H1 Dd = none) : Base K H H0' (O' ++ [Dd]) (s ++ [.lst ds]) ∧ Ext H1 H0 O H H0' (O' ++ [Dd]) ∧ Rp K H0' (O' ++ [Dd]) (.ref Dd) (.own s.length) := by
  have pr : ∀ (k : Nat) (a : Addr), O'[k]? = some a → (O' ++ [Dd])[k]? = some a := fun k a h => Pre.get ⟨_, rfl⟩ h
  refine ⟨⟨L.base.sub, ?_, by simp [L.base.len], fun a ha => ?_, fun k a c' h1 h2 => ?_⟩, ⟨L.h0, L.o.trans ⟨_, rfl⟩, fun a h => ?_, L.frame, L.live, L.h0n⟩, .own ?_⟩
  · rw [List.nodup_append]
    refine ⟨L.base.nd, by simp, fun a ha b hb e => ?_⟩
    rw [List.mem_singleton.mp hb] at e
    exact L.apart.noO (e ▸ ha)
  · rcases List.mem_append.mp ha with ha | ha
    · exact L.base.live a ha
    · rw [List.mem_singleton.mp ha, L.apart.at_]; simp
  · by_cases hk : k < O'.length
    · rw [List.getElem?_append_left hk] at h1
      rw [List.getElem?_append_left (by rw [← L.base.len]; exact hk)] at h2
      have q := L.base.cell k a c' h1 h2
      by_cases hg : c' = .gone
      · subst hg; trivial
      · exact q.mono (.refl _) pr rfl (q.none hg)
    · have hk2 : k = O'.length := by
        have := (List.getElem?_eq_some_iff.mp h1).1
        rw [List.length_append, List.length_singleton] at this
        omega
      subst hk2
      rw [List.getElem?_append_right (Nat.le_refl _), Nat.sub_self] at h1
      rw [List.getElem?_append_right (by rw [L.base.len]; exact Nat.le_refl _), L.base.len, Nat.sub_self] at h2
      cases h1; cases h2
      exact ⟨acc, L.apart.at_, RpAll.mono (.refl _) pr _ _ L.acc, L.apart.no0⟩
  · rcases List.mem_append.mp h with h | h
    · exact L.fresh a h
    · rw [List.mem_singleton.mp h]; exact .inr hD
  · rw [← L.base.len, List.getElem?_append_right (Nat.le_refl _), Nat.sub_self]
    rfl
end
theorem lc_size (n : Nat) (h : small n = true) : n ≤ sizeLine := small_ok h
/-- the reading of a comprehension -/
theorem lc_read {mg : Str → Option Value} {K : PySem.W.Frag} {G : TG} {T : TD} {vs : List Nat} {u : Sl → M Bool} {σ : L2.St} {H1 H0 : Hp} {O : List Addr} {sl : Sl} {s : Sto} {a : Src} {J : It} {r : R (List D)} {Qd : Addr → Hp → Prop}
    (B : Base K H1 H0 O s) (S : RpSl K H0 O σ sl) (wk : WalkD K J H0 O a) (ck : Ck a s) (ht : TgOk K vs G T) (q : lcL T u f a (wipeS sl vs) a.1 s = some r)
    (hsz : ∀ ys s', r = .ok ys s' → small ys.length = true)
    (hd : ∀ Dd ys s' acc H H0' O', r = .ok ys s' → H1 Dd = none → LcAt K H1 H0 O H H0' O' s' Dd acc ys → Qd Dd H) (Dd : Addr) (hD : H1 Dd = none) :
    ∃ Wt : Nat → Nat → Hp → Prop, (∃ m, Wt 0 m (upd H1 Dd (.lst []))) ∧ ∀ i m H, Wt i m H →
      (J.stop i H ∧ Qd Dd H) ∨ (J.go i H ∧ ∃ Nx : Hp → Prop, (∀ H', Nx H' → ∃ m', m' < m ∧ Wt (i + 1) m' H') ∧ ∀ x H', J.yld i H x H' → G x (wipe σ vs) H' fun σ2 H2 => wipe σ2 vs = wipe σ vs ∧ tT K mg wF u σ2 H2 fun b H3 =>
        if b = true then tE K mg wF f σ2 H3 fun y H4 => ∃ acc, H4 Dd = some (.lst acc) ∧ acc.length < sizeLine ∧ Nx (upd H4 Dd (.lst (acc ++ [y]))) else Nx H3) := by
  have lcLen : ∀ (xs : List D) (s : Sto) (ys : List D) (s' : Sto), lcL T u f a (wipeS sl vs) xs s = some (.ok ys s') → True := fun _ _ _ _ _ => trivial
  refine ⟨fun i m H => m = a.1.length - i ∧ i ≤ a.1.length ∧ ∃ H0' O' s' acc ds zs s'', LcAt K H1 H0 O H H0' O' s' Dd acc ds ∧ Ck a s' ∧ lcL T u f a (wipeS sl vs) (a.1.drop i) s' = some (.ok zs s'') ∧ r = .ok (ds ++ zs) s'',
    ?_, ?_⟩
  · obtain ⟨ys, s', rfl⟩ := lcL_ok _ _ _ q
    exact ⟨a.1.length, by simp, Nat.zero_le _, H0, O, s, [], [], ys, s', LcAt.start B hD, ck, q, rfl⟩
  rintro i m H ⟨rfl, hi, H0', O', s', acc, ds, zs, s'', L, ck', e, er⟩
  by_cases hlt : i < a.1.length
  · refine .inr ⟨wk.goes i H H0' O' s' hlt L.base L.h0 L.o ck', _, fun H' nq => ⟨a.1.length - (i + 1), by omega, rfl, hlt, nq⟩, fun x H' y => ?_⟩
    obtain ⟨H0'', d, B2, X2, hd', rd⟩ := wk.yields i H H0' O' s' x H' hlt L.base L.h0 L.o ck' y
    have L2' := L.step B2 X2
    have hdrop : a.1.drop i = d :: a.1.drop (i + 1) := by
      rw [List.drop_eq_getElem_cons hlt]
      have := List.getElem?_eq_getElem hlt
      rw [this] at hd'
      cases hd'
      rfl
    rw [hdrop] at e
    unfold lcL at e
    cases e1 : T d (wipeS sl vs) with
    | none => simp only [e1] at e; cases e
    | some sl1 =>
      simp only [e1] at e
      have Sw : RpSl K H0'' O' (wipe σ vs) (wipeS sl vs) := by
        have S' : RpSl K H0'' O' σ sl := ⟨S.len, fun j dd hh => let ⟨v, h1, h2⟩ := S.at_ j dd hh; ⟨v, h1, Rp.mono L2'.h0 (fun _ _ h => L2'.o.get h) _ _ h2⟩⟩
        exact S'.wipe vs
      refine ht.run H0'' H' O' x d (wipe σ vs) (wipeS sl vs) sl1 _ B2.sub rd Sw e1 fun σ1 S1 w1 => ⟨?_, ?_⟩
      · rw [w1]
        clear w1 S1
        have idem : ∀ vs' : List Nat, (∀ v ∈ vs', v ∈ vs) → wipe (wipe σ vs') vs = wipe σ vs := by
          intro vs'
          induction vs' with
          | nil => intro _; rfl
          | cons v vs' ih =>
            intro hv
            show wipe ((wipe σ vs').set v none) vs = wipe σ vs
            rw [wipe_set v none vs _ (hv v List.mem_cons_self)]
            exact ih fun w hw => hv w (List.mem_cons_of_mem _ hw)
        exact idem vs fun _ h => h
      · rcases tG_cut e with ⟨b, s1, h1, h2⟩ | ⟨c, s1, h1, h2⟩
        · obtain ⟨b', s1', z1, h1'⟩ := noex_ok h1
          cases z1
          refine ⟨H0'', O', sl1, s', _, B2, S1, h1', fun b' H3 H03 O3 B3 X3 eb => ?_⟩
          cases eb
          cases b with
          | true =>
            refine iteT ?_
            rw [if_pos rfl] at h2
            rcases tG_cut h2 with ⟨y', s2, h3, h4⟩ | ⟨c, s2, h3, h4⟩
            · obtain ⟨y2, s2', z2, h3'⟩ := noex_ok h3
              cases z2
              refine ⟨H03, O3, sl1, s1, _, B3, S1.ext X3, h3', fun v H4 H04 O4 B4 X4 rv => ?_⟩
              have L4 := (L2'.step B3 X3).step B4 X4
              rcases tG_cut h4 with ⟨_, s3, h5, h6⟩ | ⟨c, s3, h5, h6⟩
              · obtain ⟨z3, ck3⟩ := ckM_ok h5
                cases z3
                rcases tG_cut h6 with ⟨ys, s4, h7, h8⟩ | ⟨c, s4, h7, h8⟩
                · cases h8
                  refine ⟨acc, L4.apart.at_, ?_, H04, O4, _, acc ++ [v], ds ++ [y'], ys, _, L4.push hD rv, ck3, h7, by rw [er, List.append_assoc]; rfl⟩
                  have hz := small_ok (hsz _ _ er)
                  rw [List.length_append, List.length_cons] at hz
                  rw [L.acc.length]
                  omega
                · cases h8
              · obtain ⟨z3, _⟩ := ckM_ok h5
                cases z3
            · obtain ⟨_, _, z2, _⟩ := noex_ok h3
              cases z2
          | false =>
            refine iteF ?_
            rw [if_neg (by simp)] at h2
            rcases tG_cut h2 with ⟨_, s3, h5, h6⟩ | ⟨c, s3, h5, h6⟩
            · obtain ⟨z3, ck3⟩ := ckM_ok h5
              cases z3
              exact ⟨H03, O3, s1, acc, ds, zs, s'', L2'.step B3 X3, ck3, h6, er⟩
            · obtain ⟨z3, _⟩ := ckM_ok h5
              cases z3
        · obtain ⟨_, _, z, _⟩ := noex_ok h1
          cases z
  · have ei : i = a.1.length := by omega
    subst ei
    rw [List.drop_length] at e
    cases e
    rw [List.append_nil] at er
    exact .inl ⟨wk.stops H H0' O' s' L.base L.h0 L.o ck', hd Dd ds s' acc H H0' O' er hD L⟩
end
end PD

set_option Elab.async false
set_option linter.all false
set_option maxRecDepth 100000
set_option maxHeartbeats 4000000
/-! PD: the comprehension's rules, defs. -/
namespace PD
open PySem PySem.Spec PyProof.Rows L2
section
variable {X : Cx} {W : WX} {e a b c o tg iter elt : Expr} {es : List Expr} {pos p p2 spos py : Pos} {f : Sl → M D} {x y : Str} {G : TG} {T : TD} {vs : List Nat} {u : Sl → M Bool} {i : Sl → M Src} {ifs : List Expr} {scope : Scope} {own : List (Str × Nat)}
theorem t_nil : PTs X [] (tT X.K X.mg W fYes) := ⟨fun pins s σ H Q I t => pts_nil.run pins s σ H Q I (by
  obtain ⟨H0, O, sl, sto, r, B, S, q, p⟩ := t
  cases q
  exact post_ok p B rfl)⟩
theorem t_one (h : PT X c (tT X.K X.mg W u)) : PTs X [c] (tT X.K X.mg W u) := pts_one h
/-- what the two makings of a comprehension's value have alike -/
theorem lc_tE (own' : Bool) {k : Src → List D → M D} {σ : L2.St} {H : Hp} {Q : VK} (ht : TgOk X.K vs G T)
    (hk : k = fun _ ys => if own' = true then (fun s => if small ys.length = true then some (.ok (.own s.length) (s ++ [.lst ys])) else none) else liftO fun _ => if small ys.length = true then some (.lst ys) else none)
    (t : tE X.K X.mg W (fun sl => bindM (i sl) fun a => bindM (ckM a) fun _ => bindM (lcL T u f a (wipeS sl vs) a.1) (k a)) σ H Q) :
    tLc (tI X.K X.mg W i) G (tT X.K X.mg wF u) (tE X.K X.mg wF f) vs σ H Q := by
  refine tG_mono (tG_bind t) fun J H1 z => ?_
  obtain ⟨H0, O, sl, s, a, r, B, S, wk, q, p⟩ := z
  intro Dd hD
  rcases tG_cut q with ⟨_, s1, h1, h2⟩ | ⟨c, s1, h1, h2⟩
  · obtain ⟨z, ck⟩ := ckM_ok h1
    cases z
    rcases tG_cut h2 with ⟨ys, s2, h3, h4⟩ | ⟨c, s2, h3, h4⟩
    · have hsm : small ys.length = true := by
        rw [hk] at h4
        cases hb : small ys.length with
        | true => rfl
        | false =>
          cases own' with
          | true => simp [hb] at h4
          | false => simp [liftO, hb] at h4
      refine lc_read (mg := X.mg) (Qd := fun Dd H => Q (V.ref Dd) H) B S wk ck ht h3 (fun ys' s' e => by cases e; exact hsm) (fun Dd ys' s' acc H H0' O' e hD L => ?_) Dd hD
      cases e
      rw [hk] at h4
      cases own' with
      | true =>
        simp only [if_true, hsm] at h4
        cases h4
        obtain ⟨b1, b2, b3⟩ := L.doneOwn hD
        exact p _ _ _ _ b1 b2 b3
      | false =>
        simp only [liftO, hsm, if_true] at h4
        cases h4
        obtain ⟨b1, b2, b3⟩ := L.done hD
        exact p _ _ _ _ b1 b2 b3
    · obtain ⟨_, _, z⟩ := lcL_ok _ _ _ h3
      cases z
  · obtain ⟨z, _⟩ := ckM_ok h1
    cases z
theorem e_lc (hc : X.calm = true) (hN : X.N.Nodup) (hi : PI X tg iter (tI X.K X.mg W i)) (ok : BlkOk X.N X.env.scope scope own) (ht : TgOk X.K (own.map (·.2)) G T)
    (hg : ∀ (s : Shared) (H : Hp) (C : Addr) (cl : List (Str × Addr)) (fp : List Addr), PG (X.blk s H scope (compEnvC scope cl C X.env) fp) tg G) (hu : ∀ (s : Shared) (H : Hp) (C : Addr) (cl : List (Str × Addr)) (fp : List Addr), PTs (X.blk s H scope (compEnvC scope cl C X.env) fp) ifs (tT X.K X.mg wF u))
    (he : ∀ (s : Shared) (H : Hp) (C : Addr) (cl : List (Str × Addr)) (fp : List Addr), PE (X.blk s H scope (compEnvC scope cl C X.env) fp) elt (tE X.K X.mg wF f)) (hs : ∀ x, foldedSetIterable iter X.env x = pure x := by intro _; rfl) :
    PE X (.ListComp elt [⟨tg, iter, ifs, 0⟩] scope pos) (tE X.K X.mg W (fLc T u f i (own.map (·.2)))) :=
  PE.imp (pe_lc hc hN hi ok hg hu he hs) fun σ H Q t => lc_tE false ht rfl t
theorem e_lcOwn (hc : X.calm = true) (hN : X.N.Nodup) (hi : PI X tg iter (tI X.K X.mg W i)) (ok : BlkOk X.N X.env.scope scope own) (ht : TgOk X.K (own.map (·.2)) G T)
    (hg : ∀ (s : Shared) (H : Hp) (C : Addr) (cl : List (Str × Addr)) (fp : List Addr), PG (X.blk s H scope (compEnvC scope cl C X.env) fp) tg G) (hu : ∀ (s : Shared) (H : Hp) (C : Addr) (cl : List (Str × Addr)) (fp : List Addr), PTs (X.blk s H scope (compEnvC scope cl C X.env) fp) ifs (tT X.K X.mg wF u))
    (he : ∀ (s : Shared) (H : Hp) (C : Addr) (cl : List (Str × Addr)) (fp : List Addr), PE (X.blk s H scope (compEnvC scope cl C X.env) fp) elt (tE X.K X.mg wF f)) (hs : ∀ x, foldedSetIterable iter X.env x = pure x := by intro _; rfl) :
    PE X (.ListComp elt [⟨tg, iter, ifs, 0⟩] scope pos) (tE X.K X.mg W (fLcOwn T u f i (own.map (·.2)))) :=
  PE.imp (pe_lc hc hN hi ok hg hu he hs) fun σ H Q t => lc_tE true ht rfl t
theorem tS_asg {D : Ends} {σ : L2.St} {H : Hp} {n : Nat} {te : TE} (h : ∀ Q : VK, tE X.K X.mg W f σ H Q → te σ H Q) (t : tS X.K X.mg W (setS n f) D σ H) : tAsg te (gName n) D σ H := by
  refine h _ (tG_mono (tS_bind t) fun v H1 z => ?_)
  obtain ⟨H0', O', sl', s', x, r', B', S', rx, q', p'⟩ := z
  cases q'
  exact p' _ _ _ _ B' (.refl _ _ _) (S'.set rx n)
theorem d_setLc {n : Nat} (own' : Bool) (hc : X.calm = true) (hN : X.N.Nodup) (hy : X.N[n]? = some y) (hyl : X.env.scope.names.lookup y = some .local)
    (hsw : swapsWith (.ListComp elt [⟨tg, iter, ifs, 0⟩] scope pos) (some (.Name y py)) spos.line X.env = pure true) (hi : PI X tg iter (tI X.K X.mg W i)) (ok : BlkOk X.N X.env.scope scope own) (ht : TgOk X.K (own.map (·.2)) G T)
    (hg : ∀ (s : Shared) (H : Hp) (C : Addr) (cl : List (Str × Addr)) (fp : List Addr), PG (X.blk s H scope (compEnvC scope cl C X.env) fp) tg G) (hu : ∀ (s : Shared) (H : Hp) (C : Addr) (cl : List (Str × Addr)) (fp : List Addr), PTs (X.blk s H scope (compEnvC scope cl C X.env) fp) ifs (tT X.K X.mg wF u))
    (he : ∀ (s : Shared) (H : Hp) (C : Addr) (cl : List (Str × Addr)) (fp : List Addr), PE (X.blk s H scope (compEnvC scope cl C X.env) fp) elt (tE X.K X.mg wF f)) (hs : ∀ x, foldedSetIterable iter X.env x = pure x := by intro _; rfl) :
    PS X (.Assign [.Name y py] (.ListComp elt [⟨tg, iter, ifs, 0⟩] scope pos) spos) (tS X.K X.mg W (setS n ((if own' = true then fLcOwn else fLc) T u f i (own.map (·.2))))) := by
  refine PS.imp (ps_setLc hc hN hy hyl hsw hi ok hg hu he hs) fun D σ H t => tS_asg (fun Q q => ?_) t
  cases own' with
  | true => exact lc_tE true ht rfl q
  | false => exact lc_tE false ht rfl q
end

/-! ### defs -/
def CellLow (n : Nat) : Cell → Prop
  | .lst xs => D.lowAll n xs = true
  | .dic kvs => ∀ q ∈ kvs, D.low n q.2 = true
  | .gone => True
/-- t: the first of them, each as it was or with nothing of the def's own -/
def Keeps (s t : Sto) : Prop := ∀ (j : Nat) (c : Cell), t[j]? = some c → s[j]? = some c ∨ CellLow s.length c
noncomputable instance (s t : Sto) : Decidable (Keeps s t) := Classical.propDecidable _
noncomputable instance (n : Nat) (c : Cell) : Decidable (CellLow n c) := Classical.propDecidable _
/-- what a def gives back: its own lists are forgotten, a list that is given back is a stable one (keep: one's own) -/
noncomputable def closeM (keep : Bool) (s : Sto) (d : D) (s' : Sto) : Option (R D) :=
  if Keeps s (s'.take s.length) then match d with
    | .own k => if k < s.length then some (.ok (.own k) (s'.take s.length)) else match s'[k]? with
      | some (.lst xs) => if D.lowAll s.length xs = true then (if keep = true then some (.ok (.own s.length) (s'.take s.length ++ [.lst xs])) else some (.ok (.lst xs) (s'.take s.length))) else none
      | some (.dic kvs) => if keep = true ∧ CellLow s.length (.dic kvs) then some (.ok (.own s.length) (s'.take s.length ++ [.dic kvs])) else none
      | _ => none
    | d => if D.low s.length d = true then some (.ok d (s'.take s.length)) else none
  else none
noncomputable def closeX (c : Str) (s s' : Sto) : Option (R D) := if Keeps s (s'.take s.length) then some (.ex c (s'.take s.length)) else none
noncomputable def fnD (keep : Bool) (n : Nat) (g : SD) : List D → M D := fun ds s =>
  match g (ds.map some ++ List.replicate (n - ds.length) none) s with
  | some (.nx _ s') => closeM keep s .non s'
  | some (.rt d s') => closeM keep s d s'
  | some (.ex c _ s') => closeX c s s'
  | _ => none
section
variable {K : PySem.W.Frag} {mg : Str → Option Value} {H H0 H' H0' : Hp} {O O' : List Addr} {s s' : Sto}
theorem Ext.cutO (E : Ext H H0 O H' H0' O') : Ext H H0 O H' H0' O := ⟨E.h0, .refl _, fun _ h => .inl h, E.frame, E.live, E.h0n⟩
theorem take_pre {O O' : List Addr} (p : Pre O O') : O'.take O.length = O := by
  obtain ⟨t, rfl⟩ := p
  exact List.take_left
theorem close_base (B : Base K H H0 O s) (B' : Base K H' H0' O' s') (E : Ext H H0 O H' H0' O') (h : Keeps s (s'.take s.length)) : Base K H' H0' O (s'.take s.length) := by
  have hl : s.length ≤ s'.length := by
    obtain ⟨t, e⟩ := E.o
    rw [← B.len, ← B'.len, e, List.length_append]
    exact Nat.le_add_right _ _
  have q := B'.cut (n := s.length) (s'.take s.length) (by rw [List.length_take]; omega) ⟨s'.drop s.length, (List.take_append_drop _ _).symm⟩ (fun c hc => ?_)
  · have e := take_pre E.o
    rw [B.len] at e
    rw [e] at q
    exact q
  · obtain ⟨j, hj⟩ := List.mem_iff_getElem?.mp hc
    have low : CellLow s.length c := by
      rcases h j c hj with z | z
      · have hjO : j < O.length := by rw [B.len]; exact (List.getElem?_eq_some_iff.mp z).1
        have q := B.cell j _ c (List.getElem?_eq_getElem hjO) z
        cases c with
        | lst xs =>
          obtain ⟨vs, _, q2, _⟩ := q
          have := RpAll.bel _ _ q2
          rw [B.len] at this
          exact this
        | dic kvs =>
          obtain ⟨ks, _, q2, _⟩ := q
          intro w hw
          obtain ⟨k0, hk0⟩ := Paired.right q2 w hw
          have := Rp.bel _ _ hk0.2
          rw [B.len] at this
          exact this
        | gone => trivial
      · exact z
    cases c with
    | lst xs => exact low
    | dic kvs => exact low
    | gone => trivial
theorem paired_cut {K : PySem.W.Frag} {H0' : Hp} {O' : List Addr} (n : Nat) : ∀ {kvs : List (Key × D)} {ks : List (Key × V)}, (∀ q ∈ kvs, D.low n q.2 = true) → Paired (fun (p : Key × V) (q : Key × D) => p.1 = q.1 ∧ Rp K H0' O' p.2 q.2) ks kvs →
    Paired (fun (p : Key × V) (q : Key × D) => p.1 = q.1 ∧ Rp K H0' (O'.take n) p.2 q.2) ks kvs
  | _, _, _, .nil => .nil
  | _, _, low, .cons r t => .cons ⟨r.1, Rp.cut n _ _ (low _ List.mem_cons_self) r.2⟩ (paired_cut n (fun q hq => low q (List.mem_cons_of_mem _ hq)) t)
theorem closeM_ok {keep : Bool} {Q : VK} {E : XK} {v : V} {d : D} {r : R D} (B : Base K H H0 O s) (p : PostG K mg (Rp K) H H0 O Q E r) (hc : closeM keep s d s' = some r)
    (B' : Base K H' H0' O' s') (X : Ext H H0 O H' H0' O') (rv : Rp K H0' O' v d) : Q v H' := by
  unfold closeM at hc
  split at hc
  · rename_i hk
    have b := close_base B B' X hk
    have hO : O'.take s.length = O := by rw [← B.len]; exact take_pre X.o
    split at hc
    · rename_i k
      split at hc
      · rename_i hlt
        cases hc
        cases rv with
        | own h1 =>
          refine p _ _ _ _ b X.cutO (.own ?_)
          rw [← hO, List.getElem?_take, if_pos hlt]
          exact h1
      · rename_i hge
        split at hc
        · rename_i xs hx
          split at hc
          · rename_i hlow
            cases rv with
            | own h1 =>
              rename_i a
              obtain ⟨vs, g1, g2, g3⟩ := B'.cell _ _ _ h1 hx
              have g2' : RpAll K H0' O vs xs := by
                have := RpAll.cut s.length _ _ hlow g2
                rw [hO] at this
                exact this
              have haO : a ∉ O := fun hm => by
                obtain ⟨j, hj⟩ := List.mem_iff_getElem?.mp hm
                have e := get_inj B'.nd (X.o.get hj) h1
                have := (List.getElem?_eq_some_iff.mp hj).1
                rw [B.len] at this
                omega
              have hfr : H a = none := (X.fresh a (get_mem h1)).resolve_left haO
              split at hc
              · cases hc
                have pr : ∀ (k : Nat) (b : Addr), O[k]? = some b → (O ++ [a])[k]? = some b := fun k b h => Pre.get ⟨_, rfl⟩ h
                have len : O.length = (s'.take s.length).length := b.len
                refine p (.ref a) H' H0' (O ++ [a]) ⟨b.sub, ?_, by rw [List.length_append, List.length_append, len]; rfl, fun c hc => ?_, fun j c cc h1' h2' => ?_⟩ ⟨X.h0, ⟨_, rfl⟩, fun c hc => ?_, X.frame, X.live, X.h0n⟩ (.own ?_)
                · rw [List.nodup_append]
                  refine ⟨b.nd, by simp, fun c hc d hd e => ?_⟩
                  rw [List.mem_singleton.mp hd] at e
                  exact haO (e ▸ hc)
                · rcases List.mem_append.mp hc with hc | hc
                  · exact b.live c hc
                  · rw [List.mem_singleton.mp hc, g1]; simp
                · by_cases hj : j < O.length
                  · rw [List.getElem?_append_left hj] at h1'
                    rw [List.getElem?_append_left (by rw [← len]; exact hj)] at h2'
                    have q := b.cell j c cc h1' h2'
                    by_cases hg : cc = .gone
                    · subst hg; trivial
                    · exact q.mono (.refl _) pr rfl (q.none hg)
                  · have hj2 : j = O.length := by
                      have := (List.getElem?_eq_some_iff.mp h1').1
                      rw [List.length_append, List.length_singleton] at this
                      omega
                    subst hj2
                    rw [List.getElem?_append_right (Nat.le_refl _), Nat.sub_self] at h1'
                    rw [List.getElem?_append_right (by rw [len]; exact Nat.le_refl _), len, Nat.sub_self] at h2'
                    cases h1'; cases h2'
                    exact ⟨vs, g1, RpAll.mono (.refl _) pr _ _ g2', g3⟩
                · rcases List.mem_append.mp hc with hc | hc
                  · exact .inl hc
                  · rw [List.mem_singleton.mp hc]; exact .inr hfr
                · rw [← B.len, List.getElem?_append_right (Nat.le_refl _), Nat.sub_self]
                  rfl
              · cases hc
                have s0 : Same H0' (upd H0' a (.lst vs)) := fun b u e => by rw [upd_ne (ne_of_none e g3)]; exact e
                refine p (.ref a) H' (upd H0' a (.lst vs)) O ⟨fun c u e => ?_, b.nd, b.len, b.live, fun j c cc h1' h2' => ?_⟩ ⟨X.h0.trans s0, .refl _, fun _ h => .inl h, X.frame, X.live, fun c hc => ?_⟩ (.lst upd_same (RpAll.mono s0 (fun _ _ h => h) _ _ g2'))
                · by_cases hb : c = a
                  · subst hb; rw [upd_same] at e; cases e; exact g1
                  · rw [upd_ne hb] at e; exact b.sub _ _ e
                · have q := b.cell j c cc h1' h2'
                  have hn : c ≠ a := fun e => by subst e; exact haO (get_mem h1')
                  by_cases hg : cc = .gone
                  · subst hg; trivial
                  · exact q.mono s0 (fun _ _ h => h) rfl (by rw [upd_ne hn]; exact q.none hg)
                · by_cases hb : c = a
                  · subst hb; exact .inr (.inl hfr)
                  · rw [upd_ne hb] at hc; exact X.h0n c hc
          · cases hc
        · rename_i kvs hx
          split at hc
          · rename_i hlow
            cases hc
            cases rv with
            | own h1 =>
              rename_i a
              obtain ⟨ks, g1, g2, g3⟩ := B'.cell _ _ _ h1 hx
              have low : ∀ q ∈ kvs, D.low s.length q.2 = true := hlow.2
              have g2' : Paired (fun (p : Key × V) (q : Key × D) => p.1 = q.1 ∧ Rp K H0' O p.2 q.2) ks kvs := by
                have := paired_cut s.length low g2
                rw [hO] at this
                exact this
              have haO : a ∉ O := fun hm => by
                obtain ⟨j, hj⟩ := List.mem_iff_getElem?.mp hm
                have e := get_inj B'.nd (X.o.get hj) h1
                have := (List.getElem?_eq_some_iff.mp hj).1
                rw [B.len] at this
                omega
              have hfr : H a = none := (X.fresh a (get_mem h1)).resolve_left haO
              have pr : ∀ (k : Nat) (b : Addr), O[k]? = some b → (O ++ [a])[k]? = some b := fun k b h => Pre.get ⟨_, rfl⟩ h
              have len : O.length = (s'.take s.length).length := b.len
              refine p (.ref a) H' H0' (O ++ [a]) ⟨b.sub, ?_, by rw [List.length_append, List.length_append, len]; rfl, fun c hc => ?_, fun j c cc h1' h2' => ?_⟩ ⟨X.h0, ⟨_, rfl⟩, fun c hc => ?_, X.frame, X.live, X.h0n⟩ (.own ?_)
              · rw [List.nodup_append]
                refine ⟨b.nd, by simp, fun c hc d hd e => ?_⟩
                rw [List.mem_singleton.mp hd] at e
                exact haO (e ▸ hc)
              · rcases List.mem_append.mp hc with hc | hc
                · exact b.live c hc
                · rw [List.mem_singleton.mp hc, g1]; simp
              · by_cases hj : j < O.length
                · rw [List.getElem?_append_left hj] at h1'
                  rw [List.getElem?_append_left (by rw [← len]; exact hj)] at h2'
                  have q := b.cell j c cc h1' h2'
                  by_cases hg : cc = .gone
                  · subst hg; trivial
                  · exact q.mono (.refl _) pr rfl (q.none hg)
                · have hj2 : j = O.length := by
                    have := (List.getElem?_eq_some_iff.mp h1').1
                    rw [List.length_append, List.length_singleton] at this
                    omega
                  subst hj2
                  rw [List.getElem?_append_right (Nat.le_refl _), Nat.sub_self] at h1'
                  rw [List.getElem?_append_right (by rw [len]; exact Nat.le_refl _), len, Nat.sub_self] at h2'
                  cases h1'; cases h2'
                  exact ⟨ks, g1, Paired.mapP g2' fun _ _ z => ⟨z.1, Rp.mono (.refl _) pr _ _ z.2⟩, g3⟩
              · rcases List.mem_append.mp hc with hc | hc
                · exact .inl hc
                · rw [List.mem_singleton.mp hc]; exact .inr hfr
              · rw [← B.len, List.getElem?_append_right (Nat.le_refl _), Nat.sub_self]
                rfl
          · cases hc
        · cases hc
    · split at hc
      · rename_i hlow
        cases hc
        have := Rp.cut s.length _ _ hlow rv
        rw [hO] at this
        exact p _ _ _ _ b X.cutO this
      · cases hc
  · cases hc
theorem rpSl_start {vs : List V} {ds : List D} {N : List Str} (r : RpAll K H0 O vs ds) : RpSl K H0 O (L2.start N vs) (ds.map some ++ List.replicate (N.length - ds.length) none) := by
  have hl := r.length
  refine ⟨by unfold L2.start; simp [hl], fun j d h => ?_⟩
  unfold L2.start
  by_cases hj : j < ds.length
  · rw [List.getElem?_append_left (by simpa using hj), List.getElem?_map] at h
    cases e : ds[j]? with
    | none => rw [e] at h; cases h
    | some d' =>
      rw [e] at h
      cases h
      obtain ⟨v, h1, h2⟩ := r.get e
      refine ⟨v, ?_, h2⟩
      rw [List.getElem?_append_left (by simp; omega), List.getElem?_map, h1]
      rfl
  · rw [List.getElem?_append_right (by simpa using hj)] at h
    have := List.mem_of_getElem? h
    simp at this
end
section
variable {P : Program} {w : World} {K : PySem.W.Frag} {mg : Str → Option Value} {base : Heap}
/-- where a def's body is walked -/
structure At (X : Cx) (k : Nat) (W : WX) : Prop where
  room : Room k X.A
  takes : L2.Takes X W
  own : PassesOwn (model X.prog X.w) X.A X.env X.xe
  calm : X.calm = true
theorem fn_ok {x qual : Str} {st : Stmt} {f : Addr} {fd : FuncData} {N ps : List Str} {k : Nat} {n : Nat} (keep : Bool) {g : SD} (F : Fun K x qual st f fd) (S : FnScope N ps (defScope st)) (hn : ps.length = n)
    (hb : ∀ (cdv : Value) (A : Around) (outer : List Env) (s : Shared) (H : Hp) (E : XK), At (cxOf (L2.CX P w) P w K mg base N qual (defScope st) f cdv A outer s H E) k (fun cls d _ H => E cls d H) →
      PSs (cxOf (L2.CX P w) P w K mg base N qual (defScope st) f cdv A outer s H E) (defBody st) (tS K mg (fun cls d _ H => E cls d H) g)) :
    FnOk P w K mg base (L2.CX P w) (k + 1) f fd ps (spD K mg n (fnD keep N.length g)) := by
  refine F.okX S (fun vs H Q E h => ?_) (fun cdv A outer s H vs Q E hr h => ⟨_, hb cdv A outer s H E ⟨hr, takes_of rfl rfl rfl rfl, passes_of rfl, rfl⟩, ?_⟩)
  · obtain ⟨H0, O, sto, ds, r, hl, B, rv, _⟩ := h
    rw [rv.length, hl, hn]
  · obtain ⟨H0, O, sto, ds, r, hl, B, rv, e, p⟩ := h
    unfold fnD at e
    cases eg : g (ds.map some ++ List.replicate (N.length - ds.length) none) sto with
    | none => rw [eg] at e; cases e
    | some r1 =>
      refine ⟨H0, O, _, sto, r1, B, rpSl_start rv, eg, ?_⟩
      rw [eg] at e
      cases r1 with
      | nx l s' => exact fun σ' H' H0' O' B' X' S' => closeM_ok B p e B' X' .non
      | rt d s' => exact fun v H' H0' O' B' X' r' => closeM_ok B p e B' X' r'
      | ex c l s' =>
        intro cls dd σ' H' H0' O' hw B' X' S'
        replace e : closeX c sto s' = some r := e
        unfold closeX at e
        split at e
        · rename_i hk
          cases e
          exact p cls dd H' H0' O hw (close_base B B' X' hk) X'.cutO
        · cases e
      | bk l s' => cases e
      | ct l s' => cases e
/-- nothing is promised of a def at level 0 -/
theorem fn_zero {f : Addr} {fd : FuncData} {ps : List Str} {n : Nat} (hn : ps.length = n) : FnOk P w K mg base (L2.CX P w) 0 f fd ps (spD K mg n (fun _ _ => none)) := by
  have no : ∀ vs H Q E, ¬ spD K mg n (fun _ _ => none) vs H Q E := fun vs H Q E h => by
    obtain ⟨_, _, _, _, _, _, _, _, e, _⟩ := h
    cases e
  exact ⟨fun vs H Q E h => absurd h (no vs H Q E), fun A outer s H args us vs Q E _ _ _ _ h => absurd h (no vs H Q E)⟩
end
end PD

set_option Elab.async false
set_option linter.all false
set_option maxRecDepth 100000
set_option maxHeartbeats 4000000
/-! PD: calls by name, further makings of own lists, the law's end. -/
namespace PD
open PySem PySem.Spec PyProof.Rows L2
theorem u64 {k : Nat} {A : Around} (r : Room k A) : A.units + 64 < cLine := by have := r.un; omega
theorem u65 {k : Nat} {A : Around} (r : Room k A) : A.units + 65 < cLine := by have := r.un; omega
/-- a def that may be called: its denotation is g -/
structure Cal (P : Program) (w : World) (K : PySem.W.Frag) (mg : Str → Option Value) (base : Heap) (k : Nat) (x : Str) (n : Nat) (g : List D → M D) : Prop where
  ex : ∃ (f : Addr) (fd : FuncData) (ps : List Str), FnOk P w K mg base (L2.CX P w) k f fd ps (spD K mg n g) ∧ mg x = some (.ref f) ∧ PySem.W.keepIn K (.ref f) = true ∧ Binds K fd ps []
section
variable {P : Program} {w : World} {K : PySem.W.Frag} {mg : Str → Option Value} {base : Heap} {j k : Nat} {x : Str} {n : Nat} {g : List D → M D}
theorem Cal.mono (c : Cal P w K mg base j x n g) (h : j ≤ k) : Cal P w K mg base k x n g := by
  obtain ⟨f, fd, ps, F, a, b, d⟩ := c.ex
  exact ⟨f, fd, ps, F.mono h, a, b, d⟩
theorem Cal.mk' {qual : Str} {st : Stmt} {f : Addr} {fd : FuncData} {ps : List Str} (F : Fun K x qual st f fd) (gf : mg x = some (.ref f)) (b : Binds K fd ps []) (h : FnOk P w K mg base (L2.CX P w) k f fd ps (spD K mg n g)) : Cal P w K mg base k x n g :=
  ⟨f, fd, ps, h, gf, F.kp, b⟩
theorem Cal.zero {qual : Str} {st : Stmt} {f : Addr} {fd : FuncData} {ps : List Str} (F : Fun K x qual st f fd) (gf : mg x = some (.ref f)) (b : Binds K fd ps []) (hn : ps.length = n) : Cal P w K mg base k x n (fun _ _ => none) :=
  ⟨f, fd, ps, (fn_zero hn).mono (Nat.zero_le _), gf, F.kp, b⟩
end
section
variable {X : Cx} {W : WX} {k n : Nat} {g : List D → M D} {x : Str} {p pos : Pos} {e : Expr} {es : List Expr} {h : Sl → M (List D)} {f : Sl → M D}
theorem e_callC (c : Cal X.prog X.w X.K X.mg X.base k x n g) (tk : L2.Takes X W) (hr : Room k X.A) (hg : Gl X x)
    (ha : PA X (e :: es) (tA X.K X.mg W h)) (hdb : (x == ("__debug__" : Str)) = false := by decide) (he : starEach (e :: es) X.env = (false, eval e X.env) :: starEach es X.env := by rfl) (hpl : (backTo pos (starEach es X.env)).any (·.1) = false := by rfl) :
    PE X (.Call (.Name x p) (e :: es) [] pos) (tE X.K X.mg W (fCall n g h)) := by
  obtain ⟨f, fd, ps, F, a, b, d⟩ := c.ex
  exact e_call F tk hr hg a b d ha hdb he hpl
def revOwnM (d : D) : M D := fun s => match lsOf s d with
  | some xs => some (.ok (.own s.length) (s ++ [.lst xs.reverse]))
  | none => none
def fRevOwn (f : Sl → M D) : Sl → M D := fun sl => bindM (f sl) fun x => revOwnM x
theorem e_revOwn {k : Nat} {q1 q2 q3 : Pos} (he : PE X e (tE X.K X.mg W f)) : PE X (.Subscript e (.Slice none none (some (.UnaryOp .USub (.Constant (.int 1) k q1) q2)) q3) pos) (tE X.K X.mg W (fRevOwn f)) := by
  refine PE.imp (pe_revL he) fun σ H Q t => ?_
  refine tG_mono (tG_bind t) fun x H1 z => ?_
  obtain ⟨H0', O', sl', s', d, r', B', S', rx, q', p'⟩ := z
  unfold revOwnM at q'
  split at q'
  · rename_i xs hq
    cases q'
    obtain ⟨a, vs, rfl, g1, g2⟩ := lsOf_ok B' rx hq
    refine ⟨a, vs, rfl, g1, fun p hp => ?_⟩
    obtain ⟨b1, b2, b3⟩ := own_new B' hp g2.reverse
    exact p' _ _ _ _ b1 b2 b3
  · cases q'
end
/-! ### the law -/
theorem law_spQ {K : PySem.W.Frag} {mg : Str → Option Value} {g : List D → M D} (n : Nat) (h : ∀ ns : List Int, ns.length ≤ n → ∃ s, g [.scr (ns.map D.int)] [] = some (.ok (.bl true) s))
    (H : Hp) (a : Addr) (ns : List Int) (hn : ns.length ≤ n) (hS : SqL K H a (ns.map V.int)) {Q : VK} {E : XK} (q : ∀ H', Q (.bl true) H') : spD K mg 1 g [.ref a] H Q E := by
  obtain ⟨s, e⟩ := h ns hn
  have all : ∀ ns : List Int, RpAll K H [] (ns.map V.int) (ns.map D.int) := by
    intro ns
    induction ns with
    | nil => exact .nil
    | cons x r ih => exact .cons (.int x) ih
  refine ⟨H, [], [], _, _, rfl, ⟨fun _ _ h => h, List.nodup_nil, rfl, (fun a h => by cases h), (fun k a c h _ => by simp at h)⟩, .one (.scr hS (all ns)), e, fun v H' H0' O' _ _ r => ?_⟩
  cases r
  exact q H'
theorem cx_none {P : Program} {w : World} {H : Hp} {s : Shared} {e : Value} {s' : Shared} (h : L2.CX P w [] H s (fun _ _ _ => False) e s') : False := by
  obtain ⟨_, _, _, _, _, _, _, _, _, _, _, _, z⟩ := h
  exact z
end PD

set_option Elab.async false
set_option linter.all false
set_option maxRecDepth 100000
set_option maxHeartbeats 4000000
/-! PDM: how the plain functions of PD are reckoned. -/
namespace PD
open PySem L2
/-! ### stores -/
theorem keeps_refl (s : Sto) : Keeps s s := fun j c h => .inl h
theorem keeps_set {s : Sto} {k : Nat} {c : Cell} (h : CellLow s.length c) : Keeps s (s.set k c) := by
  intro j c' hj
  by_cases e : j = k
  · subst e
    have hl : j < s.length := by
      have := (List.getElem?_eq_some_iff.mp hj).1
      rw [List.length_set] at this
      exact this
    rw [List.getElem?_set_self hl] at hj
    cases hj
    exact .inr h
  · rw [List.getElem?_set_ne (Ne.symm e)] at hj
    exact .inl hj
theorem cellLow_ints (n : Nat) (a b : Int) : CellLow n (.lst [.int a, .int b]) := rfl
theorem set_at {s : Sto} {k : Nat} {c0 : Cell} (h : s[k]? = some c0) (c : Cell) : (s.set k c)[k]? = some c := List.getElem?_set_self (List.getElem?_eq_some_iff.mp h).1
theorem app_at (s : Sto) (c : Cell) (t : Sto) : (s ++ c :: t)[s.length]? = some c := by
  rw [List.getElem?_append_right (Nat.le_refl _), Nat.sub_self]
  rfl
theorem app_at1 (s : Sto) (c d : Cell) (t : Sto) : (s ++ c :: d :: t)[s.length + 1]? = some d := by
  rw [List.getElem?_append_right (Nat.le_add_right _ _), Nat.add_sub_cancel_left]
  rfl
theorem app_set (s : Sto) (c c' : Cell) (t : Sto) : (s ++ c :: t).set s.length c' = s ++ c' :: t := by
  rw [List.set_append_right _ _ (Nat.le_refl _), Nat.sub_self]
  rfl
theorem app_set1 (s : Sto) (c d c' : Cell) (t : Sto) : (s ++ c :: d :: t).set (s.length + 1) c' = s ++ c :: c' :: t := by
  rw [List.set_append_right _ _ (Nat.le_add_right _ _), Nat.add_sub_cancel_left]
  rfl
theorem app_old {s : Sto} {k : Nat} {c : Cell} (h : s[k]? = some c) (t : Sto) : (s ++ t)[k]? = some c := by
  rw [List.getElem?_append_left (List.getElem?_eq_some_iff.mp h).1]
  exact h
theorem app_oldset {s : Sto} {k : Nat} {c0 : Cell} (h : s[k]? = some c0) (c : Cell) (t : Sto) : (s ++ t).set k c = s.set k c ++ t :=
  List.set_append_left _ _ (List.getElem?_eq_some_iff.mp h).1
/-! ### what a def gives back -/
theorem closeM_low {keep : Bool} {s t junk : Sto} {d : D} (hl : t.length = s.length) (hk : Keeps s t) (hd : D.low s.length d = true) (hn : ∀ k, d ≠ .own k) : closeM keep s d (t ++ junk) = some (.ok d t) := by
  have e : (t ++ junk).take s.length = t := by rw [← hl]; exact List.take_left
  unfold closeM
  rw [e, if_pos hk]
  cases d with
  | own k => exact absurd rfl (hn k)
  | non => simp only; rw [if_pos hd]
  | bl b => simp only; rw [if_pos hd]
  | int i => simp only; rw [if_pos hd]
  | str x => simp only; rw [if_pos hd]
  | lst xs => simp only; rw [if_pos hd]
  | tup xs => simp only; rw [if_pos hd]
  | scr xs => simp only; rw [if_pos hd]
theorem closeM_lst {s t junk : Sto} {k : Nat} {xs : List D} (hl : t.length = s.length) (hk : Keeps s t) (hge : s.length ≤ k) (hx : (t ++ junk)[k]? = some (.lst xs)) (hd : D.lowAll s.length xs = true) : closeM false s (.own k) (t ++ junk) = some (.ok (.lst xs) t) := by
  have e : (t ++ junk).take s.length = t := by rw [← hl]; exact List.take_left
  unfold closeM
  rw [e, if_pos hk]
  simp only
  rw [if_neg (by omega), hx]
  simp only
  rw [if_pos hd, if_neg (by simp)]
theorem closeM_keep {s t junk : Sto} {k : Nat} {xs : List D} (hl : t.length = s.length) (hk : Keeps s t) (hge : s.length ≤ k) (hx : (t ++ junk)[k]? = some (.lst xs)) (hd : D.lowAll s.length xs = true) : closeM true s (.own k) (t ++ junk) = some (.ok (.own s.length) (t ++ [.lst xs])) := by
  have e : (t ++ junk).take s.length = t := by rw [← hl]; exact List.take_left
  unfold closeM
  rw [e, if_pos hk]
  simp only
  rw [if_neg (by omega), hx]
  simp only
  rw [if_pos hd]
  simp
theorem fnD_rt {keep : Bool} {n : Nat} {g : SD} {ds : List D} {s s' : Sto} {d : D} {r : R D} (e : g (ds.map some ++ List.replicate (n - ds.length) none) s = some (.rt d s')) (c : closeM keep s d s' = some r) : fnD keep n g ds s = some r := by
  unfold fnD
  rw [e]
  exact c
/-! ### lows -/
mutual
theorem low_mono {m n : Nat} (h : m ≤ n) : ∀ d : D, D.low m d = true → D.low n d = true
  | .non, _ => rfl
  | .bl _, _ => rfl
  | .int _, _ => rfl
  | .str _, _ => rfl
  | .lst xs, q => lowAll_mono h xs q
  | .tup xs, q => lowAll_mono h xs q
  | .scr xs, q => lowAll_mono h xs q
  | .own k, q => by
    have : k < m := of_decide_eq_true q
    exact decide_eq_true (by omega)
theorem lowAll_mono {m n : Nat} (h : m ≤ n) : ∀ ds : List D, D.lowAll m ds = true → D.lowAll n ds = true
  | [], _ => rfl
  | d :: ds, q => by
    have q' := Bool.and_eq_true_iff.mp q
    exact Bool.and_eq_true_iff.mpr ⟨low_mono h d q'.1, lowAll_mono h ds q'.2⟩
end
theorem lowAll_iff {n : Nat} : ∀ {ds : List D}, D.lowAll n ds = true ↔ ∀ d ∈ ds, D.low n d = true
  | [] => by simp [D.lowAll]
  | d :: ds => by
    show (D.low n d && D.lowAll n ds) = true ↔ _
    rw [Bool.and_eq_true, lowAll_iff (ds := ds)]
    simp
/-! ### loops -/
theorem ck_none (xs : List D) (s : Sto) : Ck (xs, none) s := trivial
theorem forL_nil {T : TD} {g : SD} {a : Src} {sl : Sl} {s : Sto} : forL T g a [] sl s = some (.nx sl s) := rfl
theorem forL_cons {T : TD} {g : SD} {a : Src} {x : D} {xs : List D} {sl sl1 sl2 : Sl} {s s2 : Sto} (h1 : T x sl = some sl1) (h2 : g sl1 s = some (.nx sl2 s2)) (ck : Ck a s2) : forL T g a (x :: xs) sl s = forL T g a xs sl2 s2 := by
  conv => lhs; unfold forL
  rw [h1]
  simp only [h2]
  rw [if_pos ck]
theorem forL_rt {T : TD} {g : SD} {a : Src} {x : D} {xs : List D} {sl sl1 : Sl} {s s2 : Sto} {d : D} (h1 : T x sl = some sl1) (h2 : g sl1 s = some (.rt d s2)) : forL T g a (x :: xs) sl s = some (.rt d s2) := by
  conv => lhs; unfold forL
  rw [h1]
  simp only [h2]
/-- a loop that goes on at each turn -/
theorem forL_inv {T : TD} {g : SD} {a : Src} (I : List D → Sl → Sto → Prop) (step : ∀ x xs sl s, I (x :: xs) sl s → ∃ sl1 sl2 s2, T x sl = some sl1 ∧ g sl1 s = some (.nx sl2 s2) ∧ Ck a s2 ∧ I xs sl2 s2) :
    ∀ xs sl s, I xs sl s → ∃ sl' s', forL T g a xs sl s = some (.nx sl' s') ∧ I [] sl' s'
  | [], sl, s, h => ⟨sl, s, rfl, h⟩
  | x :: xs, sl, s, h => by
    obtain ⟨sl1, sl2, s2, h1, h2, ck, h3⟩ := step x xs sl s h
    obtain ⟨sl', s', e, i⟩ := forL_inv I step xs sl2 s2 h3
    exact ⟨sl', s', by rw [forL_cons h1 h2 ck]; exact e, i⟩
theorem rngO_int {z : Int} (h0 : 0 ≤ z) (h1 : z ≤ 1000000) : rngO (.int z) = some (rangeD 0 z.toNat, none) := by
  have c : z < 2 ^ 62 ∧ -(2 ^ 62) ≤ z := by omega
  simp only [rngO, if_pos c]
theorem rngO_nat {n : Nat} (h : n ≤ 1000000) : rngO (.int (n : Nat)) = some (rangeD 0 n, none) :=
  (rngO_int (z := (n : Int)) (Int.natCast_nonneg n) (by omega)).trans (by rw [Int.toNat_natCast])
theorem fRng1_of {f : Sl → M D} {sl : Sl} {s s' : Sto} {d : D} {a : Src} (e : f sl s = some (.ok d s')) (h : rngO d = some a) : fRng1 f sl s = some (.ok a s') := by
  unfold fRng1 bindM liftO
  rw [e]
  simp only
  rw [h]
/-- a loop over a range, by the turn's number -/
theorem forL_range {T : TD} {g : SD} {a : Src} (P : Nat → Sl → Sto → Prop) (n : Nat) (step : ∀ i sl s, i < n → P i sl s → ∃ sl1 sl2 s2, T (.int (i : Nat)) sl = some sl1 ∧ g sl1 s = some (.nx sl2 s2) ∧ Ck a s2 ∧ P (i + 1) sl2 s2) (sl : Sl) (s : Sto) (h : P 0 sl s) :
    ∃ sl' s', forL T g a (rangeD 0 n) sl s = some (.nx sl' s') ∧ P n sl' s' := by
  have e : rangeD 0 n = (List.range n).map fun i => D.int (i : Nat) := by
    unfold rangeD
    exact List.map_congr_left fun i _ => by rw [Int.zero_add]
  rw [e]
  obtain ⟨sl', s', e1, i, hi, h1⟩ := forL_inv (T := T) (g := g) (a := a) (fun xs sl s => ∃ i, i ≤ n ∧ xs = ((List.range n).drop i).map (fun i => D.int (i : Nat)) ∧ P i sl s) (fun x xs sl s ⟨i, hi, ex, hp⟩ => by
    by_cases hlt : i < n
    · have hd : (List.range n).drop i = i :: (List.range n).drop (i + 1) := by
        rw [List.drop_eq_getElem_cons (by simpa using hlt)]
        simp
      rw [hd, List.map_cons] at ex
      injection ex with ex1 ex2
      subst ex1
      obtain ⟨sl1, sl2, s2, h1, h2, h3, h4⟩ := step i sl s hlt hp
      exact ⟨sl1, sl2, s2, h1, h2, h3, i + 1, hlt, ex2, h4⟩
    · have : i = n := by omega
      subst this
      rw [List.drop_of_length_le (by simp)] at ex
      cases ex) ((List.range n).map fun i => D.int (i : Nat)) sl s ⟨0, Nat.zero_le _, by simp, h⟩
  refine ⟨sl', s', e1, ?_⟩
  have : i = n := by
    by_cases hlt : i < n
    · have := congrArg List.length h1.1
      simp at this
      omega
    · omega
  subst this
  exact h1.2
theorem forS_of {T : TD} {i : Sl → M Src} {g : SD} {sl : Sl} {s s1 : Sto} {a : Src} (h : i sl s = some (.ok a s1)) (ck : Ck a s1) : forS T i g sl s = forL T g a a.1 sl s1 := by
  unfold forS bindS
  rw [h]
  simp only
  rw [if_pos ck]
/-! ### comprehensions -/
theorem lcL_map {T : TD} {u : Sl → M Bool} {f : Sl → M D} {a : Src} {sl : Sl} {s : Sto} (y : D → D) (ck : Ck a s) :
    ∀ (xs : List D), (∀ x ∈ xs, ∃ sl1, T x sl = some sl1 ∧ u sl1 s = some (.ok true s) ∧ f sl1 s = some (.ok (y x) s)) → lcL T u f a sl xs s = some (.ok (xs.map y) s)
  | [], _ => rfl
  | x :: xs, h => by
    obtain ⟨sl1, h1, h2, h3⟩ := h x List.mem_cons_self
    have ih := lcL_map (T := T) (u := u) (f := f) (a := a) (sl := sl) (s := s) y ck xs fun z hz => h z (List.mem_cons_of_mem _ hz)
    unfold lcL
    simp only [h1, bindM, noex, h2, h3, ckM, if_pos ck, ih, retM, if_true]
    rfl
theorem lcL_filter {T : TD} {u : Sl → M Bool} {f : Sl → M D} {a : Src} {sl : Sl} {s : Sto} (p : D → Bool) (y : D → D) (ck : Ck a s) :
    ∀ (xs : List D), (∀ x ∈ xs, ∃ sl1, T x sl = some sl1 ∧ u sl1 s = some (.ok (p x) s) ∧ (p x = true → f sl1 s = some (.ok (y x) s))) → lcL T u f a sl xs s = some (.ok ((xs.filter p).map y) s)
  | [], _ => rfl
  | x :: xs, h => by
    obtain ⟨sl1, h1, h2, h3⟩ := h x List.mem_cons_self
    have ih := lcL_filter (T := T) (u := u) (f := f) (a := a) (sl := sl) (s := s) p y ck xs fun z hz => h z (List.mem_cons_of_mem _ hz)
    unfold lcL
    cases hp : p x with
    | true =>
      rw [hp] at h2
      have h3' := h3 hp
      simp only [h1, bindM, noex, h2, h3', ckM, if_pos ck, ih, retM, if_true, List.filter_cons, hp, List.map_cons]
    | false =>
      rw [hp] at h2
      simp [h1, bindM, noex, h2, ckM, if_pos ck, ih, List.filter_cons, hp]
/-- a comprehension whose turns may change the store -/
theorem lcL_inv {T : TD} {u : Sl → M Bool} {f : Sl → M D} {a : Src} {sl : Sl} (I : List D → List D → Sto → Prop)
    (step : ∀ x xs acc s, I (x :: xs) acc s → ∃ sl1 y s1, T x sl = some sl1 ∧ u sl1 s = some (.ok true s) ∧ f sl1 s = some (.ok y s1) ∧ Ck a s1 ∧ I xs (acc ++ [y]) s1) :
    ∀ xs acc s, I xs acc s → ∃ ys s', lcL T u f a sl xs s = some (.ok ys s') ∧ I [] (acc ++ ys) s'
  | [], acc, s, h => ⟨[], s, rfl, by rw [List.append_nil]; exact h⟩
  | x :: xs, acc, s, h => by
    obtain ⟨sl1, y, s1, h1, h2, h3, ck, h4⟩ := step x xs acc s h
    obtain ⟨ys, s', e, i⟩ := lcL_inv I step xs _ _ h4
    refine ⟨y :: ys, s', ?_, by rw [List.append_assoc] at i; exact i⟩
    unfold lcL
    simp only [h1, bindM, noex, h2, h3, ckM, if_pos ck, e, retM, if_true]
theorem fLc_of {T : TD} {u : Sl → M Bool} {f : Sl → M D} {i : Sl → M Src} {vs : List Nat} {sl : Sl} {s s1 s2 : Sto} {a : Src} {ys : List D} (h : i sl s = some (.ok a s1)) (ck : Ck a s1) (hl : lcL T u f a (wipeS sl vs) a.1 s1 = some (.ok ys s2)) (hs : ys.length ≤ 16777216) :
    fLc T u f i vs sl s = some (.ok (.lst ys) s2) := by
  have hs' : small ys.length = true := decide_eq_true hs
  unfold fLc
  simp only [bindM, h, ckM, if_pos ck, hl, liftO, hs', if_true]
theorem fLc_pure {T : TD} {u : Sl → M Bool} {f : Sl → M D} {i : Sl → M Src} {vs : List Nat} {sl : Sl} {s : Sto} {xs ys : List D} (h : i sl s = some (.ok (xs, none) s)) (hl : lcL T u f (xs, none) (wipeS sl vs) xs s = some (.ok ys s)) (hs : ys.length ≤ 16777216) :
    fLc T u f i vs sl s = some (.ok (.lst ys) s) := fLc_of h (ck_none _ _) hl hs
/-! ### statements, one after another -/
theorem seqS_nx {g1 g2 : SD} {sl sl' : Sl} {s s' : Sto} (h : g1 sl s = some (.nx sl' s')) : seqS g1 g2 sl s = g2 sl' s' := by
  unfold seqS
  rw [h]
theorem seqS_rt {g1 g2 : SD} {sl : Sl} {s s' : Sto} {d : D} (h : g1 sl s = some (.rt d s')) : seqS g1 g2 sl s = some (.rt d s') := by
  unfold seqS
  rw [h]
theorem setS_ok {i : Nat} {f : Sl → M D} {sl : Sl} {s s' : Sto} {d : D} (h : f sl s = some (.ok d s')) : setS i f sl s = some (.nx (sl.set i (some d)) s') := by
  unfold setS bindS
  rw [h]
theorem retS_ok {f : Sl → M D} {sl : Sl} {s s' : Sto} {d : D} (h : f sl s = some (.ok d s')) : retS f sl s = some (.rt d s') := by
  unfold retS bindS
  rw [h]
theorem exprS_ok {f : Sl → M D} {sl : Sl} {s s' : Sto} {d : D} (h : f sl s = some (.ok d s')) : exprS f sl s = some (.nx sl s') := by
  unfold exprS bindS
  rw [h]
theorem ifS_t {u : Sl → M Bool} {g1 g2 : SD} {sl : Sl} {s s' : Sto} (h : u sl s = some (.ok true s')) : ifS u g1 g2 sl s = g1 sl s' := by
  unfold ifS bindS
  rw [h]
  rfl
theorem ifS_f {u : Sl → M Bool} {g1 g2 : SD} {sl : Sl} {s s' : Sto} (h : u sl s = some (.ok false s')) : ifS u g1 g2 sl s = g2 sl s' := by
  unfold ifS bindS
  rw [h]
  rfl
theorem fCall_ok {n : Nat} {g : List D → M D} {h : Sl → M (List D)} {sl : Sl} {s s1 : Sto} {ds : List D} (e : h sl s = some (.ok ds s1)) (hn : ds.length = n) : fCall n g h sl s = g ds s1 := by
  unfold fCall bindM
  rw [e]
  simp only
  rw [if_pos hn]
theorem fCall_eq {n : Nat} {g : List D → M D} {h : Sl → M (List D)} {sl : Sl} {s s1 : Sto} {ds : List D} {r : Option (R D)} (e : h sl s = some (.ok ds s1)) (hn : ds.length = n) (k : g ds s1 = r) : fCall n g h sl s = r :=
  (fCall_ok e hn).trans k
theorem eqO_int (neg : Bool) (s : Sto) (i j : Int) : eqO neg s (.int i) (.int j) = some (.bl (ng neg (decide (i = j)))) := by
  have h : decide (V.int i = V.int j) = decide (i = j) := by
    by_cases e : i = j
    · subst e; simp
    · simp [e]
  show ((if scal (V.int i) (V.int j) = true then some (decide (V.int i = V.int j)) else deepB s (.int i) (.int j)).map fun b => D.bl (ng neg b)) = _
  rw [if_pos (show scal _ _ = true from rfl), h]
  rfl
theorem eqO_str (neg : Bool) (s : Sto) (x y : Str) : eqO neg s (.str x) (.str y) = some (.bl (ng neg (decide (x = y)))) := by
  have h : decide (V.str x = V.str y) = decide (x = y) := by
    by_cases e : x = y
    · subst e; simp
    · simp [e]
  show ((if scal (V.str x) (V.str y) = true then some (decide (V.str x = V.str y)) else deepB s (.str x) (.str y)).map fun b => D.bl (ng neg b)) = _
  rw [if_pos (show scal _ _ = true from rfl), h]
  rfl
/-! ### the eq of equal data -/
theorem plain_eq {s : Sto} {d : D} {z : PyData} (h : plainPy s d = some z) : PyData.eqv z z = true := by
  unfold plainPy at h
  split at h
  · rename_i c
    cases h
    exact PySem.SeqAt.eqv_refl _ (PySem.SeqAt.canLay_of_shaped (Bool.and_eq_true_iff.mp c).2)
  · cases h
end PD

set_option Elab.async false
set_option linter.all false
set_option maxRecDepth 100000
set_option maxHeartbeats 8000000
namespace Pr
open PySem PySem.Spec PyProof.Rows L2 PD
def topS (i : Nat) : Stmt := PySem.Challenge.pw_fieldrest_k01_places.main.body.getD i (.Pass ⟨0, 0, 0, 0⟩)
/-! bodies_within -/
theorem sc_bodies_within : FnScope [("body" : PySem.Str), ("form" : PySem.Str), ("field" : PySem.Str)] [("body" : PySem.Str)] (defScope (topS 1)) := ⟨rfl, rfl, rfl, by decide +kernel, rfl, by decide +kernel, by decide +kernel⟩
noncomputable def g_bodies_within : SD := (seqS (setS 1 (f2 ixO (fVar 0) (fC (.int 0))))
    (seqS (ifS (fB (f2 (eqO false) (fVar 1) (fC (.str (PySem.Str.ofString "make"))))) (retS (fLc (tdName 2) fYes (f2 ixO (fVar 2) (fC (.int 1))) (fIt (f2 ixO (fVar 0) (fC (.int 1)))) [2])) nextS)
    (seqS (ifS (fB (f2 (eqO false) (fVar 1) (fC (.str (PySem.Str.ofString "get"))))) (retS (fLst (fCons (f2 ixO (fVar 0) (fC (.int 1))) fNil))) nextS)
    (seqS (ifS (fB (f2 (eqO false) (fVar 1) (fC (.str (PySem.Str.ofString "put"))))) (retS (fLst (fCons (f2 ixO (fVar 0) (fC (.int 1))) (fCons (f2 ixO (fVar 0) (fC (.int 3))) fNil)))) nextS)
    (seqS (ifS (fB (f2 (inO false) (fVar 1) (fTup (fCons (fC (.str (PySem.Str.ofString "sum"))) (fCons (fC (.str (PySem.Str.ofString "if"))) fNil))))) (retS (fN listO (fCons (fSl (fVar 0) (fSome (fC (.int 1))) fNo) fNil))) nextS)
    (seqS (ifS (fB (f2 (eqO false) (fVar 1) (fC (.str (PySem.Str.ofString "call"))))) (retS (fN listO (fCons (f2 ixO (fVar 0) (fC (.int 2))) fNil))) nextS)
    (retS (fLst fNil))))))))
noncomputable def D_bodies_within : List D → M D := fnD false 3 g_bodies_within
/-! places_of -/
theorem sc_places_of : FnScope [("body" : PySem.Str), ("waiting" : PySem.Str), ("backwards" : PySem.Str), ("place" : PySem.Str), ("here" : PySem.Str), ("number" : PySem.Str), ("inner" : PySem.Str)] [("body" : PySem.Str)] (defScope (topS 2)) := ⟨rfl, rfl, rfl, by decide +kernel, rfl, by decide +kernel, by decide +kernel⟩
noncomputable def g_places_of : SD := (seqS (setS 1 (fOwn (fCons (fTup (fCons (fTup fNil) (fCons (fVar 0) fNil))) fNil)))
    (seqS (setS 2 (fOwn fNil))
    (seqS (whileS (fTru (fVar 1)) (seqS (asgS (tdTup (tdCons (tdName 3) (tdCons (tdName 4) tdNil))) (fM0 popM (fVar 1)))
    (seqS (exprS (fM1 appendM (fVar 2) (fCons (fVar 3) fNil)))
    (forS (tdTup (tdCons (tdName 5) (tdCons (tdName 6) tdNil))) (fEnum (fCall 1 D_bodies_within (fCons (fVar 4) fNil))) (exprS (fM1 appendM (fVar 1) (fCons (fTup (fCons (f2 addO (fVar 3) (fTup (fCons (fVar 5) fNil))) (fCons (fVar 6) fNil))) fNil)))))))
    (retS (fRevOwn (fVar 2))))))
noncomputable def D_places_of : List D → M D := fnD true 7 g_places_of
/-! at_place -/
theorem sc_at_place : FnScope [("body" : PySem.Str), ("place" : PySem.Str), ("here" : PySem.Str), ("number" : PySem.Str)] [("body" : PySem.Str), ("place" : PySem.Str)] (defScope (topS 3)) := ⟨rfl, rfl, rfl, by decide +kernel, rfl, by decide +kernel, by decide +kernel⟩
noncomputable def g_at_place : SD := (seqS (setS 2 (fVar 0))
    (seqS (forS (tdName 3) (fIt (fVar 1)) (setS 2 (f2 ixO (fCall 1 D_bodies_within (fCons (fVar 2) fNil)) (fVar 3))))
    (retS (fVar 2))))
noncomputable def D_at_place : List D → M D := fnD false 4 g_at_place
/-! cell -/
theorem sc_cell : FnScope [("_law_script" : PySem.Str), ("_law_k" : PySem.Str)] [("_law_script" : PySem.Str), ("_law_k" : PySem.Str)] (defScope (topS 5)) := ⟨rfl, rfl, rfl, by decide +kernel, rfl, by decide +kernel, by decide +kernel⟩
noncomputable def g_cell : SD := (seqS (ifS (fB (f2 ltO (fVar 1) (fN lenO (fCons (fVar 0) fNil)))) (retS (f2 modO (f2 mulO (f2 ixO (fVar 0) (fVar 1)) (fC (.int 48271))) (fC (.int 2147483647)))) nextS)
    (retS (fC (.int 0))))
noncomputable def D_cell : List D → M D := fnD false 2 g_cell
/-! next -/
theorem sc_next : FnScope [("_law_state" : PySem.Str)] [("_law_state" : PySem.Str)] (defScope (topS 6)) := ⟨rfl, rfl, rfl, by decide +kernel, rfl, by decide +kernel, by decide +kernel⟩
noncomputable def g_next : SD := (seqS (setIxS (f2 modO (f2 addO (f2 mulO (f2 ixO (fVar 0) (fC (.int 0))) (fC (.int 48271))) (fC (.int 11))) (fC (.int 2147483647))) (fVar 0) (fC (.int 0)))
    (seqS (setIxS (f2 subO (f2 ixO (fVar 0) (fC (.int 1))) (fC (.int 1))) (fVar 0) (fC (.int 1)))
    (retS (f2 fdivO (f2 ixO (fVar 0) (fC (.int 0))) (fC (.int 7))))))
noncomputable def D_next : List D → M D := fnD false 1 g_next
/-! labels -/
theorem sc_labels : FnScope [("_law_cell_here" : PySem.Str), ("_law_many" : PySem.Str), ("_law_signs" : PySem.Str), ("_law_size" : PySem.Str), ("_law_at" : PySem.Str), ("_law_step" : PySem.Str), ("_law_base" : PySem.Str), ("_law_k" : PySem.Str), ("_law_found" : PySem.Str), ("_law_sign" : PySem.Str)] [("_law_cell_here" : PySem.Str), ("_law_many" : PySem.Str)] (defScope (topS 7)) := ⟨rfl, rfl, rfl, by decide +kernel, rfl, by decide +kernel, by decide +kernel⟩
noncomputable def g_labels : SD := (seqS (setS 2 (fC (.str (PySem.Str.ofString "abcdefghijklmnopqrstuvwxyz"))))
    (seqS (setS 3 (f2 modO (fVar 0) (fC (.int 7))))
    (seqS (setS 4 (f2 modO (f2 fdivO (fVar 0) (fC (.int 7))) (f2 addO (fVar 3) (fC (.int 1)))))
    (seqS (setS 5 (f2 modO (f2 fdivO (fVar 0) (fC (.int 49))) (fC (.int 26))))
    (seqS (setS 6 (fJoin (fC (.str (PySem.Str.ofString ""))) (fLc (tdName 7) fYes (f2 ixO (fVar 2) (f2 modO (f2 addO (fVar 5) (f2 mulO (f2 fdivO (fVar 0) (fC (.int 1274))) (fVar 7))) (fC (.int 26)))) (fRng1 (fVar 3)) [7])))
    (seqS (setS 8 (fOwn fNil))
    (seqS (forS (tdName 7) (fRng1 (fVar 1)) (seqS (setS 9 (f2 ixO (fVar 2) (f2 modO (f2 addO (f2 fdivO (fVar 0) (fC (.int 49))) (f2 mulO (fC (.int 3)) (fVar 7))) (fC (.int 26)))))
    (exprS (fM1 appendM (fVar 8) (fCons (f2 addO (f2 addO (fSl (fVar 6) fNo (fSome (fVar 4))) (fVar 9)) (fSl (fVar 6) (fSome (fVar 4)) fNo)) fNil)))))
    (retS (fVar 8)))))))))
noncomputable def D_labels : List D → M D := fnD false 10 g_labels
/-! leaf -/
theorem sc_leaf : FnScope [("_law_number" : PySem.Str), ("_law_many" : PySem.Str)] [("_law_number" : PySem.Str), ("_law_many" : PySem.Str)] (defScope (topS 8)) := ⟨rfl, rfl, rfl, by decide +kernel, rfl, by decide +kernel, by decide +kernel⟩
noncomputable def g_leaf : SD := (seqS (ifS (fAnd (fB (f2 gtO (fVar 1) (fC (.int 0)))) (fB (f2 gtO (f2 modO (fVar 0) (fC (.int 3))) (fC (.int 0))))) (retS (fTup (fCons (fC (.str (PySem.Str.ofString "input"))) (fCons (f2 modO (f2 fdivO (fVar 0) (fC (.int 3))) (fVar 1)) fNil)))) nextS)
    (retS (fTup (fCons (fC (.str (PySem.Str.ofString "number"))) (fCons (f2 ixO (fLst (fCons (fC (.int 0)) (fCons (fC (.int 1)) (fCons (f1 negO (fC (.int 1))) (fCons (f2 subO (f2 modO (f2 fdivO (fVar 0) (fC (.int 4))) (f2 addO (f2 mulO (fC (.int 2)) (f2 powO (fC (.int 10)) (fC (.int 12)))) (fC (.int 1)))) (f2 powO (fC (.int 10)) (fC (.int 12)))) fNil))))) (f2 modO (fVar 0) (fC (.int 4)))) fNil)))))
noncomputable def D_leaf : List D → M D := fnD false 2 g_leaf
/-! fields -/
theorem sc_fields : FnScope [("_law_state" : PySem.Str), ("_law_many" : PySem.Str), ("_law_known" : PySem.Str), ("_law_labels_here" : PySem.Str), ("_law_left" : PySem.Str), ("_law_number" : PySem.Str), ("_law_found" : PySem.Str), ("_law_k" : PySem.Str), ("_law_step" : PySem.Str), ("_law_label" : PySem.Str), ("_law_pair" : PySem.Str)] [("_law_state" : PySem.Str), ("_law_many" : PySem.Str), ("_law_known" : PySem.Str), ("_law_labels_here" : PySem.Str), ("_law_left" : PySem.Str)] (defScope (topS 9)) := ⟨rfl, rfl, rfl, by decide +kernel, rfl, by decide +kernel, by decide +kernel⟩
noncomputable def g_fields (D_fields : List D → M D) (D_body : List D → M D) : SD := (seqS (setS 5 (fCall 1 D_next (fCons (fVar 0) fNil)))
    (seqS (setS 6 (fOwn fNil))
    (seqS (forS (tdName 7) (fRng1 (f2 modO (fVar 5) (fC (.int 4)))) (seqS (setS 8 (f2 addO (fC (.int 1)) (f2 mulO (fC (.int 2)) (f2 modO (f2 fdivO (fVar 5) (fC (.int 16))) (fC (.int 2))))))
    (seqS (setS 9 (f2 ixO (fVar 3) (f2 modO (f2 addO (f2 fdivO (fVar 5) (fC (.int 4))) (f2 mulO (fVar 7) (fVar 8))) (fN lenO (fCons (fVar 3) fNil)))))
    (ifS (fB (f2 (inO true) (fVar 9) (fLc (tdName 10) fYes (f2 ixO (fVar 10) (fC (.int 0))) (fIt (fVar 6)) [10]))) (exprS (fM1 appendM (fVar 6) (fCons (fTup (fCons (fVar 9) (fCons (fCall 5 D_body (fCons (fVar 0) (fCons (fVar 1) (fCons (fVar 2) (fCons (fVar 3) (fCons (fVar 4) fNil)))))) fNil))) fNil))) nextS))))
    (retS (fN tupleO (fCons (fVar 6) fNil))))))
/-! body -/
theorem sc_body : FnScope [("_law_state" : PySem.Str), ("_law_many" : PySem.Str), ("_law_known" : PySem.Str), ("_law_labels_here" : PySem.Str), ("_law_left" : PySem.Str), ("_law_number" : PySem.Str), ("_law_way" : PySem.Str), ("_law_more" : PySem.Str), ("_law_label" : PySem.Str), ("_law_name" : PySem.Str), ("_law_size" : PySem.Str), ("_law_kids_here" : PySem.Str), ("_law_k" : PySem.Str), ("_law_first" : PySem.Str), ("_law_second" : PySem.Str)] [("_law_state" : PySem.Str), ("_law_many" : PySem.Str), ("_law_known" : PySem.Str), ("_law_labels_here" : PySem.Str), ("_law_left" : PySem.Str)] (defScope (topS 10)) := ⟨rfl, rfl, rfl, by decide +kernel, rfl, by decide +kernel, by decide +kernel⟩
noncomputable def g_body (D_fields : List D → M D) (D_body : List D → M D) : SD := (seqS (setS 5 (fCall 1 D_next (fCons (fVar 0) fNil)))
    (seqS (setS 6 (f2 modO (fVar 5) (fC (.int 14))))
    (seqS (setS 7 (f2 fdivO (fVar 5) (fC (.int 14))))
    (seqS (setS 8 (f2 ixO (fVar 3) (f2 modO (fVar 7) (fN lenO (fCons (fVar 3) fNil)))))
    (seqS (ifS (fOr (fB (f2 leO (fVar 4) (fC (.int 1)))) (fOr (fB (f2 leO (f2 ixO (fVar 0) (fC (.int 1))) (fC (.int 0)))) (fB (f2 ltO (fVar 6) (fC (.int 2)))))) (retS (fCall 2 D_leaf (fCons (fVar 7) (fCons (fVar 1) fNil)))) nextS)
    (seqS (ifS (fAnd (fB (f2 gtO (fVar 6) (fC (.int 7)))) (fAnd (fB (f2 (eqO true) (fVar 2) (fLst fNil))) (fB (f2 (eqO false) (fVar 4) (fC (.int 6)))))) (seqS (asgS (tdTup (tdCons (tdName 9) (tdCons (tdName 10) tdNil))) (f2 ixO (fVar 2) (f2 modO (fVar 7) (fN lenO (fCons (fVar 2) fNil)))))
    (seqS (setS 11 (fLc (tdName 12) fYes (fCall 5 D_body (fCons (fVar 0) (fCons (fVar 1) (fCons (fVar 2) (fCons (fVar 3) (fCons (f2 subO (fVar 4) (fC (.int 1))) fNil)))))) (fRng1 (fVar 10)) [12]))
    (retS (fTup (fCons (fC (.str (PySem.Str.ofString "call"))) (fCons (fVar 9) (fCons (fN tupleO (fCons (fVar 11) fNil)) fNil))))))) nextS)
    (seqS (ifS (fOr (fB (f2 ltO (fVar 6) (fC (.int 5)))) (fB (f2 gtO (fVar 6) (fC (.int 11))))) (retS (fTup (fCons (fC (.str (PySem.Str.ofString "get"))) (fCons (fCall 5 D_body (fCons (fVar 0) (fCons (fVar 1) (fCons (fVar 2) (fCons (fVar 3) (fCons (f2 subO (fVar 4) (fC (.int 1))) fNil)))))) (fCons (fVar 8) fNil))))) nextS)
    (seqS (ifS (fB (f2 ltO (fVar 6) (fC (.int 7)))) (seqS (setS 13 (fCall 5 D_body (fCons (fVar 0) (fCons (fVar 1) (fCons (fVar 2) (fCons (fVar 3) (fCons (f2 subO (fVar 4) (fC (.int 1))) fNil)))))))
    (retS (fTup (fCons (fC (.str (PySem.Str.ofString "put"))) (fCons (fVar 13) (fCons (fVar 8) (fCons (fCall 5 D_body (fCons (fVar 0) (fCons (fVar 1) (fCons (fVar 2) (fCons (fVar 3) (fCons (f2 subO (fVar 4) (fC (.int 1))) fNil)))))) fNil))))))) nextS)
    (seqS (ifS (fB (f2 ltO (fVar 6) (fC (.int 9)))) (retS (fTup (fCons (fC (.str (PySem.Str.ofString "make"))) (fCons (fCall 5 D_fields (fCons (fVar 0) (fCons (fVar 1) (fCons (fVar 2) (fCons (fVar 3) (fCons (f2 subO (fVar 4) (fC (.int 1))) fNil)))))) fNil)))) nextS)
    (seqS (setS 13 (fCall 5 D_body (fCons (fVar 0) (fCons (fVar 1) (fCons (fVar 2) (fCons (fVar 3) (fCons (f2 subO (fVar 4) (fC (.int 1))) fNil)))))))
    (seqS (setS 14 (fCall 5 D_body (fCons (fVar 0) (fCons (fVar 1) (fCons (fVar 2) (fCons (fVar 3) (fCons (f2 subO (fVar 4) (fC (.int 1))) fNil)))))))
    (seqS (ifS (fB (f2 (eqO false) (fVar 6) (fC (.int 9)))) (retS (fTup (fCons (fC (.str (PySem.Str.ofString "sum"))) (fCons (fVar 13) (fCons (fVar 14) fNil))))) nextS)
    (retS (fTup (fCons (fC (.str (PySem.Str.ofString "if"))) (fCons (fVar 13) (fCons (fVar 14) (fCons (fCall 5 D_body (fCons (fVar 0) (fCons (fVar 1) (fCons (fVar 2) (fCons (fVar 3) (fCons (f2 subO (fVar 4) (fC (.int 1))) fNil)))))) fNil))))))))))))))))))
noncomputable def R_fields_body : Nat → (List D → M D) × (List D → M D)
  | 0 => (fun _ _ => none, fun _ _ => none)
  | n + 1 => (fnD false 11 (g_fields ((R_fields_body n).1) ((R_fields_body n).2)), fnD false 15 (g_body ((R_fields_body n).1) ((R_fields_body n).2)))
noncomputable def D_fields : List D → M D := (R_fields_body 20).1
noncomputable def D_body : List D → M D := (R_fields_body 20).2
/-! kids -/
theorem sc_kids : FnScope [("_law_body_here" : PySem.Str), ("_law_pair" : PySem.Str), ("_law_part" : PySem.Str)] [("_law_body_here" : PySem.Str)] (defScope (topS 11)) := ⟨rfl, rfl, rfl, by decide +kernel, rfl, by decide +kernel, by decide +kernel⟩
noncomputable def g_kids : SD := (seqS (ifS (fB (f2 (eqO false) (f2 ixO (fVar 0) (fC (.int 0))) (fC (.str (PySem.Str.ofString "make"))))) (retS (fLc (tdName 1) fYes (f2 ixO (fVar 1) (fC (.int 1))) (fIt (f2 ixO (fVar 0) (fC (.int 1)))) [1])) nextS)
    (seqS (ifS (fB (f2 (eqO false) (f2 ixO (fVar 0) (fC (.int 0))) (fC (.str (PySem.Str.ofString "call"))))) (retS (fN listO (fCons (f2 ixO (fVar 0) (fC (.int 2))) fNil))) nextS)
    (retS (fLc (tdName 2) (fTru (f1 (isiO "tuple") (fVar 2))) (fVar 2) (fIt (fSl (fVar 0) (fSome (fC (.int 1))) fNo)) [2]))))
noncomputable def D_kids : List D → M D := fnD false 3 g_kids
/-! places -/
theorem sc_places : FnScope [("_law_body_here" : PySem.Str), ("_law_found" : PySem.Str), ("_law_kids_here" : PySem.Str), ("_law_k" : PySem.Str), ("_law_place" : PySem.Str), ("_law_inner" : PySem.Str)] [("_law_body_here" : PySem.Str)] (defScope (topS 12)) := ⟨rfl, rfl, rfl, by decide +kernel, rfl, by decide +kernel, by decide +kernel⟩
noncomputable def g_places (D_places : List D → M D) : SD := (seqS (setS 1 (fOwn fNil))
    (seqS (setS 2 (fCall 1 D_kids (fCons (fVar 0) fNil)))
    (seqS (forS (tdName 3) (fRng1 (fN lenO (fCons (fVar 2) fNil))) (forS (tdTup (tdCons (tdName 4) (tdCons (tdName 5) tdNil))) (fIt (fCall 1 D_places (fCons (f2 ixO (fVar 2) (fVar 3)) fNil))) (exprS (fM1 appendM (fVar 1) (fCons (fTup (fCons (f2 addO (fTup (fCons (fVar 3) fNil)) (fVar 4)) (fCons (fVar 5) fNil))) fNil)))))
    (seqS (exprS (fM1 appendM (fVar 1) (fCons (fTup (fCons (fTup fNil) (fCons (fVar 0) fNil))) fNil)))
    (retS (fVar 1))))))
noncomputable def R_places : Nat → (List D → M D)
  | 0 => fun _ _ => none
  | n + 1 => fnD false 6 (g_places (R_places n))
noncomputable def D_places : List D → M D := (R_places 20)
/-! law -/
theorem sc_law : FnScope [("_law_script" : PySem.Str), ("_law_state" : PySem.Str), ("_law_labels_here" : PySem.Str), ("_law_known" : PySem.Str), ("_law_body_here" : PySem.Str), ("_law_due" : PySem.Str), ("_law_found" : PySem.Str), ("_law_pair" : PySem.Str), ("_law_place" : PySem.Str), ("_law_k" : PySem.Str)] [("_law_script" : PySem.Str)] (defScope (topS 13)) := ⟨rfl, rfl, rfl, by decide +kernel, rfl, by decide +kernel, by decide +kernel⟩
noncomputable def g_law : SD := (seqS (setS 1 (fOwn (fCons (f2 addO (fC (.int 1)) (f2 modO (fCall 2 D_cell (fCons (fVar 0) (fCons (fC (.int 0)) fNil))) (fC (.int 2147483645)))) (fCons (f2 addO (fC (.int 4)) (f2 modO (fCall 2 D_cell (fCons (fVar 0) (fCons (fC (.int 1)) fNil))) (fC (.int 10)))) fNil))))
    (seqS (setS 2 (fCall 2 D_labels (fCons (fCall 2 D_cell (fCons (fVar 0) (fCons (fC (.int 2)) fNil))) (fCons (fC (.int 4)) fNil))))
    (seqS (setS 3 (fLst (fCons (fTup (fCons (fC (.str (PySem.Str.ofString "f"))) (fCons (fC (.int 1)) fNil))) (fCons (fTup (fCons (fC (.str (PySem.Str.ofString "g"))) (fCons (fC (.int 2)) fNil))) (fCons (fTup (fCons (fC (.str (PySem.Str.ofString "h"))) (fCons (fC (.int 0)) fNil))) fNil)))))
    (seqS (setS 4 (fCall 5 D_body (fCons (fVar 1) (fCons (f2 modO (f2 fdivO (fCall 2 D_cell (fCons (fVar 0) (fCons (fC (.int 1)) fNil))) (fC (.int 10))) (fC (.int 5))) (fCons (fVar 3) (fCons (fVar 2) (fCons (fC (.int 8)) fNil)))))))
    (seqS (setS 5 (fCall 1 D_places (fCons (fVar 4) fNil)))
    (seqS (setS 6 (fCall 1 D_places_of (fCons (fVar 4) fNil)))
    (seqS (ifS (fOr (fNot (fTru (f1 (isiO "list") (fVar 6)))) (fB (f2 (eqO true) (fVar 6) (fLc (tdName 7) fYes (f2 ixO (fVar 7) (fC (.int 0))) (fIt (fVar 5)) [7])))) (retS (fC (.bl false))) nextS)
    (seqS (forS (tdName 8) (fIt (fVar 6)) (ifS (fOr (fNot (fTru (f1 (isiO "tuple") (fVar 8)))) (fB (f2 (eqO true) (fLc (tdName 9) (fOr (fTru (f1 (isiO "bool") (fVar 9))) (fNot (fTru (f1 (isiO "int") (fVar 9))))) (fVar 9) (fIt (fVar 8)) [9]) (fLst fNil)))) (retS (fC (.bl false))) nextS))
    (seqS (exprS (fM1 appendM (fVar 6) (fCons (fC (.str (PySem.Str.ofString "more"))) fNil)))
    (seqS (setS 6 (fCall 1 D_places_of (fCons (fVar 4) fNil)))
    (seqS (ifS (fB (f2 (eqO true) (fVar 6) (fLc (tdName 7) fYes (f2 ixO (fVar 7) (fC (.int 0))) (fIt (fVar 5)) [7]))) (retS (fC (.bl false))) nextS)
    (retS (f2 (eqO false) (fLc (tdName 8) fYes (fCall 2 D_at_place (fCons (fVar 4) (fCons (fVar 8) fNil))) (fIt (fVar 6)) [8]) (fLc (tdName 7) fYes (f2 ixO (fVar 7) (fC (.int 1))) (fIt (fVar 5)) [7]))))))))))))))
noncomputable def D_law : List D → M D := fnD false 10 g_law
structure Blt (mg : Str → Option Value) : Prop where
  b_bool : mg "bool" = none
  b_enumerate : mg "enumerate" = none
  b_int : mg "int" = none
  b_isinstance : mg "isinstance" = none
  b_len : mg "len" = none
  b_list : mg "list" = none
  b_range : mg "range" = none
  b_tuple : mg "tuple" = none
section
variable {P : Program} {w : World} {K : PySem.W.Frag} {mg : Str → Option Value} {base : Heap}
theorem c_bodies_within {k : Nat} {f : Addr} {fd : FuncData} (F : Fun K "bodies_within" "bodies_within" (topS 1) f fd) (gf : mg "bodies_within" = some (.ref f)) (B : Blt mg) : Cal P w K mg base (k + 1) "bodies_within" 1 D_bodies_within := by
  refine Cal.mk' F gf (F.binds (ps := [("body" : PySem.Str)]) fun _ _ _ _ _ _ us hl => match us, hl with | [_], _ => rfl) (fn_ok (N := [("body" : PySem.Str), ("form" : PySem.Str), ("field" : PySem.Str)]) false F sc_bodies_within rfl fun cdv A outer s H E a => ?_)
  exact (c_cons (d_set (i := 1) sc_bodies_within.nd rfl (by first | exact Or.inl rfl | exact Or.inr rfl) (e_ix (e_var 0) e_int))
    (c_cons (d_if (b_cmp (o_eq (u64 a.room)) (e_var 1) e_str) (c_one (d_ret (e_lc a.calm sc_bodies_within.nd (i_seq (e_ix (e_var 0) e_int)) (blkOk_by (N := [("body" : PySem.Str), ("form" : PySem.Str), ("field" : PySem.Str)]) (sc := defScope (topS 1)) (own := [(("field" : PySem.Str), 2)]) (by decide +kernel)) (g_name (vs := [2]) 2) (fun _ _ _ _ _ => (pg_name (i := 2) sc_bodies_within.nd rfl (by first | exact Or.inl rfl | exact Or.inr rfl))) (fun _ _ _ _ _ => t_nil) (fun _ _ _ _ _ => (e_ix (e_var 2) e_int))))) c_nil)
    (c_cons (d_if (b_cmp (o_eq (u64 a.room)) (e_var 1) e_str) (c_one (d_ret (e_lst (a_cons (e_ix (e_var 0) e_int) a_nil)))) c_nil)
    (c_cons (d_if (b_cmp (o_eq (u64 a.room)) (e_var 1) e_str) (c_one (d_ret (e_lst (a_cons (e_ix (e_var 0) e_int) (a_cons (e_ix (e_var 0) e_int) a_nil))))) c_nil)
    (c_cons (d_if (b_cmp (o_in (u65 a.room)) (e_var 1) (e_tup (a_cons e_str (a_cons e_str a_nil)))) (c_one (d_ret (e_callTy o_list (by rfl) B.b_list (by decide +kernel) (a_cons (e_sl (e_var 0) (s_some e_int) s_none) a_nil)))) c_nil)
    (c_cons (d_if (b_cmp (o_eq (u64 a.room)) (e_var 1) e_str) (c_one (d_ret (e_callTy o_list (by rfl) B.b_list (by decide +kernel) (a_cons (e_ix (e_var 0) e_int) a_nil)))) c_nil)
    (c_one (d_ret (e_lst a_nil)))))))))
theorem c_places_of {k : Nat} {f : Addr} {fd : FuncData} (F : Fun K "places_of" "places_of" (topS 2) f fd) (gf : mg "places_of" = some (.ref f)) (B : Blt mg) (C_bodies_within : Cal P w K mg base k "bodies_within" 1 D_bodies_within) : Cal P w K mg base (k + 1) "places_of" 1 D_places_of := by
  refine Cal.mk' F gf (F.binds (ps := [("body" : PySem.Str)]) fun _ _ _ _ _ _ us hl => match us, hl with | [_], _ => rfl) (fn_ok (N := [("body" : PySem.Str), ("waiting" : PySem.Str), ("backwards" : PySem.Str), ("place" : PySem.Str), ("here" : PySem.Str), ("number" : PySem.Str), ("inner" : PySem.Str)]) true F sc_places_of rfl fun cdv A outer s H E a => ?_)
  exact (c_cons (d_set (i := 1) sc_places_of.nd rfl (by first | exact Or.inl rfl | exact Or.inr rfl) (e_own (a_cons (e_tup (a_cons (e_tup a_nil) (a_cons (e_var 0) a_nil))) a_nil)))
    (c_cons (d_set (i := 2) sc_places_of.nd rfl (by first | exact Or.inl rfl | exact Or.inr rfl) (e_own a_nil))
    (c_cons (d_while a.own (b_tru (e_var 1)) (c_cons (d_asg (e_pop (e_var 1)) (pg_tup rfl (pgs_cons (pg_name (i := 3) sc_places_of.nd rfl (by first | exact Or.inl rfl | exact Or.inr rfl)) (pgs_cons (pg_name (i := 4) sc_places_of.nd rfl (by first | exact Or.inl rfl | exact Or.inr rfl)) pgs_nil))) (g_tup (g_cons (g_name (vs := [3, 4]) 3) (g_cons (g_name (vs := [3, 4]) 4) (g_nil (vs := [3, 4]))))))
    (c_cons (d_expr (e_append (e_var 2) (a_cons (e_var 3) a_nil)))
    (c_one (d_for a.own a.calm (i_enum (by rfl) B.b_enumerate (e_callC C_bodies_within a.takes a.room (by rfl) (a_cons (e_var 4) a_nil))) (pg_tup rfl (pgs_cons (pg_name (i := 5) sc_places_of.nd rfl (by first | exact Or.inl rfl | exact Or.inr rfl)) (pgs_cons (pg_name (i := 6) sc_places_of.nd rfl (by first | exact Or.inl rfl | exact Or.inr rfl)) pgs_nil))) (g_tup (g_cons (g_name (vs := [5, 6]) 5) (g_cons (g_name (vs := [5, 6]) 6) (g_nil (vs := [5, 6]))))) (c_one (d_expr (e_append (e_var 1) (a_cons (e_tup (a_cons (e_bin o_add (e_var 3) (e_tup (a_cons (e_var 5) a_nil))) (a_cons (e_var 6) a_nil))) a_nil)))))))))
    (c_one (d_ret (e_revOwn (e_var 2)))))))
theorem c_at_place {k : Nat} {f : Addr} {fd : FuncData} (F : Fun K "at_place" "at_place" (topS 3) f fd) (gf : mg "at_place" = some (.ref f)) (B : Blt mg) (C_bodies_within : Cal P w K mg base k "bodies_within" 1 D_bodies_within) : Cal P w K mg base (k + 1) "at_place" 2 D_at_place := by
  refine Cal.mk' F gf (F.binds (ps := [("body" : PySem.Str), ("place" : PySem.Str)]) fun _ _ _ _ _ _ us hl => match us, hl with | [_, _], _ => rfl) (fn_ok (N := [("body" : PySem.Str), ("place" : PySem.Str), ("here" : PySem.Str), ("number" : PySem.Str)]) false F sc_at_place rfl fun cdv A outer s H E a => ?_)
  exact (c_cons (d_set (i := 2) sc_at_place.nd rfl (by first | exact Or.inl rfl | exact Or.inr rfl) (e_var 0))
    (c_cons (d_for a.own a.calm (i_seq (e_var 1)) (pg_name (i := 3) sc_at_place.nd rfl (by first | exact Or.inl rfl | exact Or.inr rfl)) (g_name (vs := [3]) 3) (c_one (d_set (i := 2) sc_at_place.nd rfl (by first | exact Or.inl rfl | exact Or.inr rfl) (e_ix (e_callC C_bodies_within a.takes a.room (by rfl) (a_cons (e_var 2) a_nil)) (e_var 3)))))
    (c_one (d_ret (e_var 2)))))
theorem c_cell {k : Nat} {f : Addr} {fd : FuncData} (F : Fun K "_law_cell" "_law_cell" (topS 5) f fd) (gf : mg "_law_cell" = some (.ref f)) (B : Blt mg) : Cal P w K mg base (k + 1) "_law_cell" 2 D_cell := by
  refine Cal.mk' F gf (F.binds (ps := [("_law_script" : PySem.Str), ("_law_k" : PySem.Str)]) fun _ _ _ _ _ _ us hl => match us, hl with | [_, _], _ => rfl) (fn_ok (N := [("_law_script" : PySem.Str), ("_law_k" : PySem.Str)]) false F sc_cell rfl fun cdv A outer s H E a => ?_)
  exact (c_cons (d_if (b_cmp o_lt (e_var 1) (e_callB o_len (by rfl) B.b_len (by decide +kernel) (a_cons (e_var 0) a_nil))) (c_one (d_ret (e_bin o_mod (e_bin o_mul (e_ix (e_var 0) (e_var 1)) e_int) e_int))) c_nil)
    (c_one (d_ret e_int)))
theorem c_next {k : Nat} {f : Addr} {fd : FuncData} (F : Fun K "_law_next" "_law_next" (topS 6) f fd) (gf : mg "_law_next" = some (.ref f)) (B : Blt mg) : Cal P w K mg base (k + 1) "_law_next" 1 D_next := by
  refine Cal.mk' F gf (F.binds (ps := [("_law_state" : PySem.Str)]) fun _ _ _ _ _ _ us hl => match us, hl with | [_], _ => rfl) (fn_ok (N := [("_law_state" : PySem.Str)]) false F sc_next rfl fun cdv A outer s H E a => ?_)
  exact (c_cons (d_setIx (e_bin o_mod (e_bin o_add (e_bin o_mul (e_ix (e_var 0) e_int) e_int) e_int) e_int) (e_var 0) e_int)
    (c_cons (d_setIx (e_bin o_sub (e_ix (e_var 0) e_int) e_int) (e_var 0) e_int)
    (c_one (d_ret (e_bin o_fdiv (e_ix (e_var 0) e_int) e_int)))))
theorem c_labels {k : Nat} {f : Addr} {fd : FuncData} (F : Fun K "_law_labels" "_law_labels" (topS 7) f fd) (gf : mg "_law_labels" = some (.ref f)) (B : Blt mg) : Cal P w K mg base (k + 1) "_law_labels" 2 D_labels := by
  refine Cal.mk' F gf (F.binds (ps := [("_law_cell_here" : PySem.Str), ("_law_many" : PySem.Str)]) fun _ _ _ _ _ _ us hl => match us, hl with | [_, _], _ => rfl) (fn_ok (N := [("_law_cell_here" : PySem.Str), ("_law_many" : PySem.Str), ("_law_signs" : PySem.Str), ("_law_size" : PySem.Str), ("_law_at" : PySem.Str), ("_law_step" : PySem.Str), ("_law_base" : PySem.Str), ("_law_k" : PySem.Str), ("_law_found" : PySem.Str), ("_law_sign" : PySem.Str)]) false F sc_labels rfl fun cdv A outer s H E a => ?_)
  exact (c_cons (d_set (i := 2) sc_labels.nd rfl (by first | exact Or.inl rfl | exact Or.inr rfl) e_str)
    (c_cons (d_set (i := 3) sc_labels.nd rfl (by first | exact Or.inl rfl | exact Or.inr rfl) (e_bin o_mod (e_var 0) e_int))
    (c_cons (d_set (i := 4) sc_labels.nd rfl (by first | exact Or.inl rfl | exact Or.inr rfl) (e_bin o_mod (e_bin o_fdiv (e_var 0) e_int) (e_bin o_add (e_var 3) e_int)))
    (c_cons (d_set (i := 5) sc_labels.nd rfl (by first | exact Or.inl rfl | exact Or.inr rfl) (e_bin o_mod (e_bin o_fdiv (e_var 0) e_int) e_int))
    (c_cons (d_set (i := 6) sc_labels.nd rfl (by first | exact Or.inl rfl | exact Or.inr rfl) (e_join e_str (e_lc a.calm sc_labels.nd (i_range1 (by rfl) B.b_range (e_var 3)) (blkOk_by (N := [("_law_cell_here" : PySem.Str), ("_law_many" : PySem.Str), ("_law_signs" : PySem.Str), ("_law_size" : PySem.Str), ("_law_at" : PySem.Str), ("_law_step" : PySem.Str), ("_law_base" : PySem.Str), ("_law_k" : PySem.Str), ("_law_found" : PySem.Str), ("_law_sign" : PySem.Str)]) (sc := defScope (topS 7)) (own := [(("_law_k" : PySem.Str), 7)]) (by decide +kernel)) (g_name (vs := [7]) 7) (fun _ _ _ _ _ => (pg_name (i := 7) sc_labels.nd rfl (by first | exact Or.inl rfl | exact Or.inr rfl))) (fun _ _ _ _ _ => t_nil) (fun _ _ _ _ _ => (e_ix (e_var 2) (e_bin o_mod (e_bin o_add (e_var 5) (e_bin o_mul (e_bin o_fdiv (e_var 0) e_int) (e_var 7))) e_int))))))
    (c_cons (d_set (i := 8) sc_labels.nd rfl (by first | exact Or.inl rfl | exact Or.inr rfl) (e_own a_nil))
    (c_cons (d_for a.own a.calm (i_range1 (by rfl) B.b_range (e_var 1)) (pg_name (i := 7) sc_labels.nd rfl (by first | exact Or.inl rfl | exact Or.inr rfl)) (g_name (vs := [7]) 7) (c_cons (d_set (i := 9) sc_labels.nd rfl (by first | exact Or.inl rfl | exact Or.inr rfl) (e_ix (e_var 2) (e_bin o_mod (e_bin o_add (e_bin o_fdiv (e_var 0) e_int) (e_bin o_mul e_int (e_var 7))) e_int)))
    (c_one (d_expr (e_append (e_var 8) (a_cons (e_bin o_add (e_bin o_add (e_sl (e_var 6) s_none (s_some (e_var 4))) (e_var 9)) (e_sl (e_var 6) (s_some (e_var 4)) s_none)) a_nil))))))
    (c_one (d_ret (e_var 8))))))))))
theorem c_leaf {k : Nat} {f : Addr} {fd : FuncData} (F : Fun K "_law_leaf" "_law_leaf" (topS 8) f fd) (gf : mg "_law_leaf" = some (.ref f)) (B : Blt mg) : Cal P w K mg base (k + 1) "_law_leaf" 2 D_leaf := by
  refine Cal.mk' F gf (F.binds (ps := [("_law_number" : PySem.Str), ("_law_many" : PySem.Str)]) fun _ _ _ _ _ _ us hl => match us, hl with | [_, _], _ => rfl) (fn_ok (N := [("_law_number" : PySem.Str), ("_law_many" : PySem.Str)]) false F sc_leaf rfl fun cdv A outer s H E a => ?_)
  exact (c_cons (d_if (b_w (w_and (b_cmp o_gt (e_var 1) e_int) (w_and1 (b_cmp o_gt (e_bin o_mod (e_var 0) e_int) e_int)))) (c_one (d_ret (e_tup (a_cons e_str (a_cons (e_bin o_mod (e_bin o_fdiv (e_var 0) e_int) (e_var 1)) a_nil))))) c_nil)
    (c_one (d_ret (e_tup (a_cons e_str (a_cons (e_ix (e_lst (a_cons e_int (a_cons e_int (a_cons (e_neg e_int) (a_cons (e_bin o_sub (e_bin o_mod (e_bin o_fdiv (e_var 0) e_int) (e_bin o_add (e_bin o_mul e_int (e_bin o_pow e_int e_int)) e_int)) (e_bin o_pow e_int e_int)) a_nil))))) (e_bin o_mod (e_var 0) e_int)) a_nil))))))
theorem c_fields (D_fields : List D → M D) (D_body : List D → M D) {k : Nat} {f : Addr} {fd : FuncData} (F : Fun K "_law_fields" "_law_fields" (topS 9) f fd) (gf : mg "_law_fields" = some (.ref f)) (B : Blt mg) (C_next : Cal P w K mg base k "_law_next" 1 D_next) (C_body : Cal P w K mg base k "_law_body" 5 D_body) : Cal P w K mg base (k + 1) "_law_fields" 5 (fnD false 11 (g_fields D_fields D_body)) := by
  refine Cal.mk' F gf (F.binds (ps := [("_law_state" : PySem.Str), ("_law_many" : PySem.Str), ("_law_known" : PySem.Str), ("_law_labels_here" : PySem.Str), ("_law_left" : PySem.Str)]) fun _ _ _ _ _ _ us hl => match us, hl with | [_, _, _, _, _], _ => rfl) (fn_ok (N := [("_law_state" : PySem.Str), ("_law_many" : PySem.Str), ("_law_known" : PySem.Str), ("_law_labels_here" : PySem.Str), ("_law_left" : PySem.Str), ("_law_number" : PySem.Str), ("_law_found" : PySem.Str), ("_law_k" : PySem.Str), ("_law_step" : PySem.Str), ("_law_label" : PySem.Str), ("_law_pair" : PySem.Str)]) false F sc_fields rfl fun cdv A outer s H E a => ?_)
  exact (c_cons (d_set (i := 5) sc_fields.nd rfl (by first | exact Or.inl rfl | exact Or.inr rfl) (e_callC C_next a.takes a.room (by rfl) (a_cons (e_var 0) a_nil)))
    (c_cons (d_set (i := 6) sc_fields.nd rfl (by first | exact Or.inl rfl | exact Or.inr rfl) (e_own a_nil))
    (c_cons (d_for a.own a.calm (i_range1 (by rfl) B.b_range (e_bin o_mod (e_var 5) e_int)) (pg_name (i := 7) sc_fields.nd rfl (by first | exact Or.inl rfl | exact Or.inr rfl)) (g_name (vs := [7]) 7) (c_cons (d_set (i := 8) sc_fields.nd rfl (by first | exact Or.inl rfl | exact Or.inr rfl) (e_bin o_add e_int (e_bin o_mul e_int (e_bin o_mod (e_bin o_fdiv (e_var 5) e_int) e_int))))
    (c_cons (d_set (i := 9) sc_fields.nd rfl (by first | exact Or.inl rfl | exact Or.inr rfl) (e_ix (e_var 3) (e_bin o_mod (e_bin o_add (e_bin o_fdiv (e_var 5) e_int) (e_bin o_mul (e_var 7) (e_var 8))) (e_callB o_len (by rfl) B.b_len (by decide +kernel) (a_cons (e_var 3) a_nil)))))
    (c_one (d_if (b_cmp (o_notIn (u65 a.room)) (e_var 9) (e_lc a.calm sc_fields.nd (i_seq (e_var 6)) (blkOk_by (N := [("_law_state" : PySem.Str), ("_law_many" : PySem.Str), ("_law_known" : PySem.Str), ("_law_labels_here" : PySem.Str), ("_law_left" : PySem.Str), ("_law_number" : PySem.Str), ("_law_found" : PySem.Str), ("_law_k" : PySem.Str), ("_law_step" : PySem.Str), ("_law_label" : PySem.Str), ("_law_pair" : PySem.Str)]) (sc := defScope (topS 9)) (own := [(("_law_pair" : PySem.Str), 10)]) (by decide +kernel)) (g_name (vs := [10]) 10) (fun _ _ _ _ _ => (pg_name (i := 10) sc_fields.nd rfl (by first | exact Or.inl rfl | exact Or.inr rfl))) (fun _ _ _ _ _ => t_nil) (fun _ _ _ _ _ => (e_ix (e_var 10) e_int)))) (c_one (d_expr (e_append (e_var 6) (a_cons (e_tup (a_cons (e_var 9) (a_cons (e_callC C_body a.takes a.room (by rfl) (a_cons (e_var 0) (a_cons (e_var 1) (a_cons (e_var 2) (a_cons (e_var 3) (a_cons (e_var 4) a_nil)))))) a_nil))) a_nil)))) c_nil)))))
    (c_one (d_ret (e_callTy o_tuple (by rfl) B.b_tuple (by decide +kernel) (a_cons (e_var 6) a_nil)))))))
theorem c_body (D_fields : List D → M D) (D_body : List D → M D) {k : Nat} {f : Addr} {fd : FuncData} (F : Fun K "_law_body" "_law_body" (topS 10) f fd) (gf : mg "_law_body" = some (.ref f)) (B : Blt mg) (C_next : Cal P w K mg base k "_law_next" 1 D_next) (C_body : Cal P w K mg base k "_law_body" 5 D_body) (C_leaf : Cal P w K mg base k "_law_leaf" 2 D_leaf) (C_fields : Cal P w K mg base k "_law_fields" 5 D_fields) : Cal P w K mg base (k + 1) "_law_body" 5 (fnD false 15 (g_body D_fields D_body)) := by
  refine Cal.mk' F gf (F.binds (ps := [("_law_state" : PySem.Str), ("_law_many" : PySem.Str), ("_law_known" : PySem.Str), ("_law_labels_here" : PySem.Str), ("_law_left" : PySem.Str)]) fun _ _ _ _ _ _ us hl => match us, hl with | [_, _, _, _, _], _ => rfl) (fn_ok (N := [("_law_state" : PySem.Str), ("_law_many" : PySem.Str), ("_law_known" : PySem.Str), ("_law_labels_here" : PySem.Str), ("_law_left" : PySem.Str), ("_law_number" : PySem.Str), ("_law_way" : PySem.Str), ("_law_more" : PySem.Str), ("_law_label" : PySem.Str), ("_law_name" : PySem.Str), ("_law_size" : PySem.Str), ("_law_kids_here" : PySem.Str), ("_law_k" : PySem.Str), ("_law_first" : PySem.Str), ("_law_second" : PySem.Str)]) false F sc_body rfl fun cdv A outer s H E a => ?_)
  exact (c_cons (d_set (i := 5) sc_body.nd rfl (by first | exact Or.inl rfl | exact Or.inr rfl) (e_callC C_next a.takes a.room (by rfl) (a_cons (e_var 0) a_nil)))
    (c_cons (d_set (i := 6) sc_body.nd rfl (by first | exact Or.inl rfl | exact Or.inr rfl) (e_bin o_mod (e_var 5) e_int))
    (c_cons (d_set (i := 7) sc_body.nd rfl (by first | exact Or.inl rfl | exact Or.inr rfl) (e_bin o_fdiv (e_var 5) e_int))
    (c_cons (d_set (i := 8) sc_body.nd rfl (by first | exact Or.inl rfl | exact Or.inr rfl) (e_ix (e_var 3) (e_bin o_mod (e_var 7) (e_callB o_len (by rfl) B.b_len (by decide +kernel) (a_cons (e_var 3) a_nil)))))
    (c_cons (d_if (b_w (w_or (b_cmp o_le (e_var 4) e_int) (w_or (b_cmp o_le (e_ix (e_var 0) e_int) e_int) (w_or1 (b_cmp o_lt (e_var 6) e_int))))) (c_one (d_ret (e_callC C_leaf a.takes a.room (by rfl) (a_cons (e_var 7) (a_cons (e_var 1) a_nil))))) c_nil)
    (c_cons (d_if (b_w (w_and (b_cmp o_gt (e_var 6) e_int) (w_and (b_cmp (o_ne (u64 a.room)) (e_var 2) (e_lst a_nil)) (w_and1 (b_cmp (o_eq (u64 a.room)) (e_var 4) e_int))))) (c_cons (d_asg (e_ix (e_var 2) (e_bin o_mod (e_var 7) (e_callB o_len (by rfl) B.b_len (by decide +kernel) (a_cons (e_var 2) a_nil)))) (pg_tup rfl (pgs_cons (pg_name (i := 9) sc_body.nd rfl (by first | exact Or.inl rfl | exact Or.inr rfl)) (pgs_cons (pg_name (i := 10) sc_body.nd rfl (by first | exact Or.inl rfl | exact Or.inr rfl)) pgs_nil))) (g_tup (g_cons (g_name (vs := [9, 10]) 9) (g_cons (g_name (vs := [9, 10]) 10) (g_nil (vs := [9, 10]))))))
    (c_cons (d_setLc (n := 11) false a.calm sc_body.nd rfl rfl (sw_true rfl rfl rfl (by decide +kernel)) (i_range1 (by rfl) B.b_range (e_var 10)) (blkOk_by (N := [("_law_state" : PySem.Str), ("_law_many" : PySem.Str), ("_law_known" : PySem.Str), ("_law_labels_here" : PySem.Str), ("_law_left" : PySem.Str), ("_law_number" : PySem.Str), ("_law_way" : PySem.Str), ("_law_more" : PySem.Str), ("_law_label" : PySem.Str), ("_law_name" : PySem.Str), ("_law_size" : PySem.Str), ("_law_kids_here" : PySem.Str), ("_law_k" : PySem.Str), ("_law_first" : PySem.Str), ("_law_second" : PySem.Str)]) (sc := defScope (topS 10)) (own := [(("_law_k" : PySem.Str), 12)]) (by decide +kernel)) (g_name (vs := [12]) 12) (fun _ _ _ _ _ => (pg_name (i := 12) sc_body.nd rfl (by first | exact Or.inl rfl | exact Or.inr rfl))) (fun _ _ _ _ _ => t_nil) (fun _ _ _ _ _ => (e_callC C_body takes0 a.room (by rfl) (a_cons (e_var 0) (a_cons (e_var 1) (a_cons (e_var 2) (a_cons (e_var 3) (a_cons (e_bin o_sub (e_var 4) e_int) a_nil))))))))
    (c_one (d_ret (e_tup (a_cons e_str (a_cons (e_var 9) (a_cons (e_callTy o_tuple (by rfl) B.b_tuple (by decide +kernel) (a_cons (e_var 11) a_nil)) a_nil)))))))) c_nil)
    (c_cons (d_if (b_w (w_or (b_cmp o_lt (e_var 6) e_int) (w_or1 (b_cmp o_gt (e_var 6) e_int)))) (c_one (d_ret (e_tup (a_cons e_str (a_cons (e_callC C_body a.takes a.room (by rfl) (a_cons (e_var 0) (a_cons (e_var 1) (a_cons (e_var 2) (a_cons (e_var 3) (a_cons (e_bin o_sub (e_var 4) e_int) a_nil)))))) (a_cons (e_var 8) a_nil)))))) c_nil)
    (c_cons (d_if (b_cmp o_lt (e_var 6) e_int) (c_cons (d_set (i := 13) sc_body.nd rfl (by first | exact Or.inl rfl | exact Or.inr rfl) (e_callC C_body a.takes a.room (by rfl) (a_cons (e_var 0) (a_cons (e_var 1) (a_cons (e_var 2) (a_cons (e_var 3) (a_cons (e_bin o_sub (e_var 4) e_int) a_nil)))))))
    (c_one (d_ret (e_tup (a_cons e_str (a_cons (e_var 13) (a_cons (e_var 8) (a_cons (e_callC C_body a.takes a.room (by rfl) (a_cons (e_var 0) (a_cons (e_var 1) (a_cons (e_var 2) (a_cons (e_var 3) (a_cons (e_bin o_sub (e_var 4) e_int) a_nil)))))) a_nil)))))))) c_nil)
    (c_cons (d_if (b_cmp o_lt (e_var 6) e_int) (c_one (d_ret (e_tup (a_cons e_str (a_cons (e_callC C_fields a.takes a.room (by rfl) (a_cons (e_var 0) (a_cons (e_var 1) (a_cons (e_var 2) (a_cons (e_var 3) (a_cons (e_bin o_sub (e_var 4) e_int) a_nil)))))) a_nil))))) c_nil)
    (c_cons (d_set (i := 13) sc_body.nd rfl (by first | exact Or.inl rfl | exact Or.inr rfl) (e_callC C_body a.takes a.room (by rfl) (a_cons (e_var 0) (a_cons (e_var 1) (a_cons (e_var 2) (a_cons (e_var 3) (a_cons (e_bin o_sub (e_var 4) e_int) a_nil)))))))
    (c_cons (d_set (i := 14) sc_body.nd rfl (by first | exact Or.inl rfl | exact Or.inr rfl) (e_callC C_body a.takes a.room (by rfl) (a_cons (e_var 0) (a_cons (e_var 1) (a_cons (e_var 2) (a_cons (e_var 3) (a_cons (e_bin o_sub (e_var 4) e_int) a_nil)))))))
    (c_cons (d_if (b_cmp (o_eq (u64 a.room)) (e_var 6) e_int) (c_one (d_ret (e_tup (a_cons e_str (a_cons (e_var 13) (a_cons (e_var 14) a_nil)))))) c_nil)
    (c_one (d_ret (e_tup (a_cons e_str (a_cons (e_var 13) (a_cons (e_var 14) (a_cons (e_callC C_body a.takes a.room (by rfl) (a_cons (e_var 0) (a_cons (e_var 1) (a_cons (e_var 2) (a_cons (e_var 3) (a_cons (e_bin o_sub (e_var 4) e_int) a_nil)))))) a_nil)))))))))))))))))))
theorem c_kids {k : Nat} {f : Addr} {fd : FuncData} (F : Fun K "_law_kids" "_law_kids" (topS 11) f fd) (gf : mg "_law_kids" = some (.ref f)) (B : Blt mg) : Cal P w K mg base (k + 1) "_law_kids" 1 D_kids := by
  refine Cal.mk' F gf (F.binds (ps := [("_law_body_here" : PySem.Str)]) fun _ _ _ _ _ _ us hl => match us, hl with | [_], _ => rfl) (fn_ok (N := [("_law_body_here" : PySem.Str), ("_law_pair" : PySem.Str), ("_law_part" : PySem.Str)]) false F sc_kids rfl fun cdv A outer s H E a => ?_)
  exact (c_cons (d_if (b_cmp (o_eq (u64 a.room)) (e_ix (e_var 0) e_int) e_str) (c_one (d_ret (e_lc a.calm sc_kids.nd (i_seq (e_ix (e_var 0) e_int)) (blkOk_by (N := [("_law_body_here" : PySem.Str), ("_law_pair" : PySem.Str), ("_law_part" : PySem.Str)]) (sc := defScope (topS 11)) (own := [(("_law_pair" : PySem.Str), 1)]) (by decide +kernel)) (g_name (vs := [1]) 1) (fun _ _ _ _ _ => (pg_name (i := 1) sc_kids.nd rfl (by first | exact Or.inl rfl | exact Or.inr rfl))) (fun _ _ _ _ _ => t_nil) (fun _ _ _ _ _ => (e_ix (e_var 1) e_int))))) c_nil)
    (c_cons (d_if (b_cmp (o_eq (u64 a.room)) (e_ix (e_var 0) e_int) e_str) (c_one (d_ret (e_callTy o_list (by rfl) B.b_list (by decide +kernel) (a_cons (e_ix (e_var 0) e_int) a_nil)))) c_nil)
    (c_one (d_ret (e_lc a.calm sc_kids.nd (i_seq (e_sl (e_var 0) (s_some e_int) s_none)) (blkOk_by (N := [("_law_body_here" : PySem.Str), ("_law_pair" : PySem.Str), ("_law_part" : PySem.Str)]) (sc := defScope (topS 11)) (own := [(("_law_part" : PySem.Str), 2)]) (by decide +kernel)) (g_name (vs := [2]) 2) (fun _ _ _ _ _ => (pg_name (i := 2) sc_kids.nd rfl (by first | exact Or.inl rfl | exact Or.inr rfl))) (fun _ _ _ _ _ => (t_one (b_tru (e_isi (T := "tuple") (by rfl) B.b_isinstance (by rfl) B.b_tuple (by decide +kernel) (ha := (e_var 2)))))) (fun _ _ _ _ _ => (e_var 2)))))))
theorem c_places (D_places : List D → M D) {k : Nat} {f : Addr} {fd : FuncData} (F : Fun K "_law_places" "_law_places" (topS 12) f fd) (gf : mg "_law_places" = some (.ref f)) (B : Blt mg) (C_kids : Cal P w K mg base k "_law_kids" 1 D_kids) (C_places : Cal P w K mg base k "_law_places" 1 D_places) : Cal P w K mg base (k + 1) "_law_places" 1 (fnD false 6 (g_places D_places)) := by
  refine Cal.mk' F gf (F.binds (ps := [("_law_body_here" : PySem.Str)]) fun _ _ _ _ _ _ us hl => match us, hl with | [_], _ => rfl) (fn_ok (N := [("_law_body_here" : PySem.Str), ("_law_found" : PySem.Str), ("_law_kids_here" : PySem.Str), ("_law_k" : PySem.Str), ("_law_place" : PySem.Str), ("_law_inner" : PySem.Str)]) false F sc_places rfl fun cdv A outer s H E a => ?_)
  exact (c_cons (d_set (i := 1) sc_places.nd rfl (by first | exact Or.inl rfl | exact Or.inr rfl) (e_own a_nil))
    (c_cons (d_set (i := 2) sc_places.nd rfl (by first | exact Or.inl rfl | exact Or.inr rfl) (e_callC C_kids a.takes a.room (by rfl) (a_cons (e_var 0) a_nil)))
    (c_cons (d_for a.own a.calm (i_range1 (by rfl) B.b_range (e_callB o_len (by rfl) B.b_len (by decide +kernel) (a_cons (e_var 2) a_nil))) (pg_name (i := 3) sc_places.nd rfl (by first | exact Or.inl rfl | exact Or.inr rfl)) (g_name (vs := [3]) 3) (c_one (d_for a.own a.calm (i_seq (e_callC C_places a.takes a.room (by rfl) (a_cons (e_ix (e_var 2) (e_var 3)) a_nil))) (pg_tup rfl (pgs_cons (pg_name (i := 4) sc_places.nd rfl (by first | exact Or.inl rfl | exact Or.inr rfl)) (pgs_cons (pg_name (i := 5) sc_places.nd rfl (by first | exact Or.inl rfl | exact Or.inr rfl)) pgs_nil))) (g_tup (g_cons (g_name (vs := [4, 5]) 4) (g_cons (g_name (vs := [4, 5]) 5) (g_nil (vs := [4, 5]))))) (c_one (d_expr (e_append (e_var 1) (a_cons (e_tup (a_cons (e_bin o_add (e_tup (a_cons (e_var 3) a_nil)) (e_var 4)) (a_cons (e_var 5) a_nil))) a_nil)))))))
    (c_cons (d_expr (e_append (e_var 1) (a_cons (e_tup (a_cons (e_tup a_nil) (a_cons (e_var 0) a_nil))) a_nil)))
    (c_one (d_ret (e_var 1)))))))

theorem r_fields_body {L : Nat} {f_fields : Addr} {d_fields : FuncData} (F_fields : Fun K "_law_fields" "_law_fields" (topS 9) f_fields d_fields) (g_fields : mg "_law_fields" = some (.ref f_fields)) {f_body : Addr} {d_body : FuncData} (F_body : Fun K "_law_body" "_law_body" (topS 10) f_body d_body) (g_body : mg "_law_body" = some (.ref f_body)) (B : Blt mg) (C_next : Cal P w K mg base L "_law_next" 1 D_next) (C_leaf : Cal P w K mg base L "_law_leaf" 2 D_leaf) : ∀ n : Nat, Cal P w K mg base (L + n) "_law_fields" 5 (R_fields_body n).1 ∧ Cal P w K mg base (L + n) "_law_body" 5 (R_fields_body n).2 := by
  intro n
  induction n with
  | zero => exact ⟨(Cal.zero F_fields g_fields (F_fields.binds (ps := [("_law_state" : PySem.Str), ("_law_many" : PySem.Str), ("_law_known" : PySem.Str), ("_law_labels_here" : PySem.Str), ("_law_left" : PySem.Str)]) fun _ _ _ _ _ _ us hl => match us, hl with | [_, _, _, _, _], _ => rfl) rfl), (Cal.zero F_body g_body (F_body.binds (ps := [("_law_state" : PySem.Str), ("_law_many" : PySem.Str), ("_law_known" : PySem.Str), ("_law_labels_here" : PySem.Str), ("_law_left" : PySem.Str)]) fun _ _ _ _ _ _ us hl => match us, hl with | [_, _, _, _, _], _ => rfl) rfl)⟩
  | succ n ih => exact ⟨(c_fields _ _ F_fields g_fields B (C_next.mono (Nat.le_add_right _ _)) ih.2), (c_body _ _ F_body g_body B (C_next.mono (Nat.le_add_right _ _)) ih.2 (C_leaf.mono (Nat.le_add_right _ _)) ih.1)⟩
theorem r_places {L : Nat} {f_places : Addr} {d_places : FuncData} (F_places : Fun K "_law_places" "_law_places" (topS 12) f_places d_places) (g_places : mg "_law_places" = some (.ref f_places)) (B : Blt mg) (C_kids : Cal P w K mg base L "_law_kids" 1 D_kids) : ∀ n : Nat, Cal P w K mg base (L + n) "_law_places" 1 (R_places n) := by
  intro n
  induction n with
  | zero => exact (Cal.zero F_places g_places (F_places.binds (ps := [("_law_body_here" : PySem.Str)]) fun _ _ _ _ _ _ us hl => match us, hl with | [_], _ => rfl) rfl)
  | succ n ih => exact (c_places _ F_places g_places B (C_kids.mono (Nat.le_add_right _ _)) ih)
end
theorem fn_law {P : Program} {w : World} {K : PySem.W.Frag} {mg : Str → Option Value} {base : Heap} {k : Nat} {f : Addr} {fd : FuncData} (F : Fun K "law" "law" (topS 13) f fd) (B : Blt mg) (C_labels : Cal P w K mg base k "_law_labels" 2 D_labels) (C_body : Cal P w K mg base k "_law_body" 5 D_body) (C_places : Cal P w K mg base k "_law_places" 1 D_places) (C_places_of : Cal P w K mg base k "places_of" 1 D_places_of) (C_cell : Cal P w K mg base k "_law_cell" 2 D_cell) (C_at_place : Cal P w K mg base k "at_place" 2 D_at_place) : FnOk P w K mg base (L2.CX P w) (k + 1) f fd [("_law_script" : PySem.Str)] (spD K mg 1 D_law) := by
  refine fn_ok (N := [("_law_script" : PySem.Str), ("_law_state" : PySem.Str), ("_law_labels_here" : PySem.Str), ("_law_known" : PySem.Str), ("_law_body_here" : PySem.Str), ("_law_due" : PySem.Str), ("_law_found" : PySem.Str), ("_law_pair" : PySem.Str), ("_law_place" : PySem.Str), ("_law_k" : PySem.Str)]) false F sc_law rfl fun cdv A outer s H E a => ?_
  exact (c_cons (d_set (i := 1) sc_law.nd rfl (by first | exact Or.inl rfl | exact Or.inr rfl) (e_own (a_cons (e_bin o_add e_int (e_bin o_mod (e_callC C_cell a.takes a.room (by rfl) (a_cons (e_var 0) (a_cons e_int a_nil))) e_int)) (a_cons (e_bin o_add e_int (e_bin o_mod (e_callC C_cell a.takes a.room (by rfl) (a_cons (e_var 0) (a_cons e_int a_nil))) e_int)) a_nil))))
    (c_cons (d_set (i := 2) sc_law.nd rfl (by first | exact Or.inl rfl | exact Or.inr rfl) (e_callC C_labels a.takes a.room (by rfl) (a_cons (e_callC C_cell a.takes a.room (by rfl) (a_cons (e_var 0) (a_cons e_int a_nil))) (a_cons e_int a_nil))))
    (c_cons (d_set (i := 3) sc_law.nd rfl (by first | exact Or.inl rfl | exact Or.inr rfl) (e_lst (a_cons (e_tup (a_cons e_str (a_cons e_int a_nil))) (a_cons (e_tup (a_cons e_str (a_cons e_int a_nil))) (a_cons (e_tup (a_cons e_str (a_cons e_int a_nil))) a_nil)))))
    (c_cons (d_set (i := 4) sc_law.nd rfl (by first | exact Or.inl rfl | exact Or.inr rfl) (e_callC C_body a.takes a.room (by rfl) (a_cons (e_var 1) (a_cons (e_bin o_mod (e_bin o_fdiv (e_callC C_cell a.takes a.room (by rfl) (a_cons (e_var 0) (a_cons e_int a_nil))) e_int) e_int) (a_cons (e_var 3) (a_cons (e_var 2) (a_cons e_int a_nil)))))))
    (c_cons (d_set (i := 5) sc_law.nd rfl (by first | exact Or.inl rfl | exact Or.inr rfl) (e_callC C_places a.takes a.room (by rfl) (a_cons (e_var 4) a_nil)))
    (c_cons (d_set (i := 6) sc_law.nd rfl (by first | exact Or.inl rfl | exact Or.inr rfl) (e_callC C_places_of a.takes a.room (by rfl) (a_cons (e_var 4) a_nil)))
    (c_cons (d_if (b_w (w_or (b_not (b_tru (e_isi (T := "list") (by rfl) B.b_isinstance (by rfl) B.b_list (by decide +kernel) (ha := (e_var 6))))) (w_or1 (b_cmp (o_ne (u64 a.room)) (e_var 6) (e_lc a.calm sc_law.nd (i_seq (e_var 5)) (blkOk_by (N := [("_law_script" : PySem.Str), ("_law_state" : PySem.Str), ("_law_labels_here" : PySem.Str), ("_law_known" : PySem.Str), ("_law_body_here" : PySem.Str), ("_law_due" : PySem.Str), ("_law_found" : PySem.Str), ("_law_pair" : PySem.Str), ("_law_place" : PySem.Str), ("_law_k" : PySem.Str)]) (sc := defScope (topS 13)) (own := [(("_law_pair" : PySem.Str), 7)]) (by decide +kernel)) (g_name (vs := [7]) 7) (fun _ _ _ _ _ => (pg_name (i := 7) sc_law.nd rfl (by first | exact Or.inl rfl | exact Or.inr rfl))) (fun _ _ _ _ _ => t_nil) (fun _ _ _ _ _ => (e_ix (e_var 7) e_int))))))) (c_one (d_ret e_bl)) c_nil)
    (c_cons (d_for a.own a.calm (i_seq (e_var 6)) (pg_name (i := 8) sc_law.nd rfl (by first | exact Or.inl rfl | exact Or.inr rfl)) (g_name (vs := [8]) 8) (c_one (d_if (b_w (w_or (b_not (b_tru (e_isi (T := "tuple") (by rfl) B.b_isinstance (by rfl) B.b_tuple (by decide +kernel) (ha := (e_var 8))))) (w_or1 (b_cmp (o_ne (u64 a.room)) (e_lc a.calm sc_law.nd (i_seq (e_var 8)) (blkOk_by (N := [("_law_script" : PySem.Str), ("_law_state" : PySem.Str), ("_law_labels_here" : PySem.Str), ("_law_known" : PySem.Str), ("_law_body_here" : PySem.Str), ("_law_due" : PySem.Str), ("_law_found" : PySem.Str), ("_law_pair" : PySem.Str), ("_law_place" : PySem.Str), ("_law_k" : PySem.Str)]) (sc := defScope (topS 13)) (own := [(("_law_k" : PySem.Str), 9)]) (by decide +kernel)) (g_name (vs := [9]) 9) (fun _ _ _ _ _ => (pg_name (i := 9) sc_law.nd rfl (by first | exact Or.inl rfl | exact Or.inr rfl))) (fun _ _ _ _ _ => (t_one (b_w (w_or (b_tru (e_isi (T := "bool") (by rfl) B.b_isinstance (by rfl) B.b_bool (by decide +kernel) (ha := (e_var 9)))) (w_or1 (b_not (b_tru (e_isi (T := "int") (by rfl) B.b_isinstance (by rfl) B.b_int (by decide +kernel) (ha := (e_var 9)))))))))) (fun _ _ _ _ _ => (e_var 9))) (e_lst a_nil))))) (c_one (d_ret e_bl)) c_nil)))
    (c_cons (d_expr (e_append (e_var 6) (a_cons e_str a_nil)))
    (c_cons (d_set (i := 6) sc_law.nd rfl (by first | exact Or.inl rfl | exact Or.inr rfl) (e_callC C_places_of a.takes a.room (by rfl) (a_cons (e_var 4) a_nil)))
    (c_cons (d_if (b_cmp (o_ne (u64 a.room)) (e_var 6) (e_lc a.calm sc_law.nd (i_seq (e_var 5)) (blkOk_by (N := [("_law_script" : PySem.Str), ("_law_state" : PySem.Str), ("_law_labels_here" : PySem.Str), ("_law_known" : PySem.Str), ("_law_body_here" : PySem.Str), ("_law_due" : PySem.Str), ("_law_found" : PySem.Str), ("_law_pair" : PySem.Str), ("_law_place" : PySem.Str), ("_law_k" : PySem.Str)]) (sc := defScope (topS 13)) (own := [(("_law_pair" : PySem.Str), 7)]) (by decide +kernel)) (g_name (vs := [7]) 7) (fun _ _ _ _ _ => (pg_name (i := 7) sc_law.nd rfl (by first | exact Or.inl rfl | exact Or.inr rfl))) (fun _ _ _ _ _ => t_nil) (fun _ _ _ _ _ => (e_ix (e_var 7) e_int)))) (c_one (d_ret e_bl)) c_nil)
    (c_one (d_ret (e_cmp (o_eq (u64 a.room)) (e_lc a.calm sc_law.nd (i_seq (e_var 6)) (blkOk_by (N := [("_law_script" : PySem.Str), ("_law_state" : PySem.Str), ("_law_labels_here" : PySem.Str), ("_law_known" : PySem.Str), ("_law_body_here" : PySem.Str), ("_law_due" : PySem.Str), ("_law_found" : PySem.Str), ("_law_pair" : PySem.Str), ("_law_place" : PySem.Str), ("_law_k" : PySem.Str)]) (sc := defScope (topS 13)) (own := [(("_law_place" : PySem.Str), 8)]) (by decide +kernel)) (g_name (vs := [8]) 8) (fun _ _ _ _ _ => (pg_name (i := 8) sc_law.nd rfl (by first | exact Or.inl rfl | exact Or.inr rfl))) (fun _ _ _ _ _ => t_nil) (fun _ _ _ _ _ => (e_callC C_at_place takes0 a.room (by rfl) (a_cons (e_var 4) (a_cons (e_var 8) a_nil))))) (e_lc a.calm sc_law.nd (i_seq (e_var 5)) (blkOk_by (N := [("_law_script" : PySem.Str), ("_law_state" : PySem.Str), ("_law_labels_here" : PySem.Str), ("_law_known" : PySem.Str), ("_law_body_here" : PySem.Str), ("_law_due" : PySem.Str), ("_law_found" : PySem.Str), ("_law_pair" : PySem.Str), ("_law_place" : PySem.Str), ("_law_k" : PySem.Str)]) (sc := defScope (topS 13)) (own := [(("_law_pair" : PySem.Str), 7)]) (by decide +kernel)) (g_name (vs := [7]) 7) (fun _ _ _ _ _ => (pg_name (i := 7) sc_law.nd rfl (by first | exact Or.inl rfl | exact Or.inr rfl))) (fun _ _ _ _ _ => t_nil) (fun _ _ _ _ _ => (e_ix (e_var 7) e_int)))))))))))))))))
def spL (K : PySem.W.Frag) : Sp := fun vs H Q _ => ∃ (a : Addr) (ns : List Int), vs = [.ref a] ∧ SqL K H a (ns.map V.int) ∧ ns.length ≤ 63 ∧ ∀ H', Q (.bl true) H'
theorem all_mk (HL : ∀ ns : List Int, ns.length ≤ 63 → ∃ s, D_law [.scr (ns.map D.int)] [] = some (.ok (.bl true) s)) {P : Program} {w : World} {K : PySem.W.Frag} {h : Heap} {mg : Str → Option Value} {fa : Addr} (X : K.In h) (G : h.Ns mainGlobals mg) (hfa : mg "law" = some (.ref fa))
    {f_bodies_within : Addr} {o_bodies_within a_bodies_within : Option Addr} {s_bodies_within : Array (Option Value)} {zc_bodies_within v_bodies_within t_bodies_within p_bodies_within e_bodies_within u_bodies_within : Value}
    (ha_bodies_within : PySem.W.nsIn K mainGlobals "bodies_within" = some (some (.ref f_bodies_within))) (hl_bodies_within : K.lookup f_bodies_within = some ⟨zc_bodies_within, o_bodies_within, .func (PySem.W.fnOf "bodies_within" "bodies_within" (defArgs (topS 1)) (defBody (topS 1)) (defScope (topS 1)) .none v_bodies_within t_bodies_within p_bodies_within a_bodies_within e_bodies_within u_bodies_within), s_bodies_within⟩) (hc_bodies_within : PySem.W.codeIn K e_bodies_within "bodies_within" = true) (hk_bodies_within : PySem.W.keepIn K (.ref f_bodies_within) = true)
    {f_places_of : Addr} {o_places_of a_places_of : Option Addr} {s_places_of : Array (Option Value)} {zc_places_of v_places_of t_places_of p_places_of e_places_of u_places_of : Value}
    (ha_places_of : PySem.W.nsIn K mainGlobals "places_of" = some (some (.ref f_places_of))) (hl_places_of : K.lookup f_places_of = some ⟨zc_places_of, o_places_of, .func (PySem.W.fnOf "places_of" "places_of" (defArgs (topS 2)) (defBody (topS 2)) (defScope (topS 2)) .none v_places_of t_places_of p_places_of a_places_of e_places_of u_places_of), s_places_of⟩) (hc_places_of : PySem.W.codeIn K e_places_of "places_of" = true) (hk_places_of : PySem.W.keepIn K (.ref f_places_of) = true)
    {f_at_place : Addr} {o_at_place a_at_place : Option Addr} {s_at_place : Array (Option Value)} {zc_at_place v_at_place t_at_place p_at_place e_at_place u_at_place : Value}
    (ha_at_place : PySem.W.nsIn K mainGlobals "at_place" = some (some (.ref f_at_place))) (hl_at_place : K.lookup f_at_place = some ⟨zc_at_place, o_at_place, .func (PySem.W.fnOf "at_place" "at_place" (defArgs (topS 3)) (defBody (topS 3)) (defScope (topS 3)) .none v_at_place t_at_place p_at_place a_at_place e_at_place u_at_place), s_at_place⟩) (hc_at_place : PySem.W.codeIn K e_at_place "at_place" = true) (hk_at_place : PySem.W.keepIn K (.ref f_at_place) = true)
    {f_cell : Addr} {o_cell a_cell : Option Addr} {s_cell : Array (Option Value)} {zc_cell v_cell t_cell p_cell e_cell u_cell : Value}
    (ha_cell : PySem.W.nsIn K mainGlobals "_law_cell" = some (some (.ref f_cell))) (hl_cell : K.lookup f_cell = some ⟨zc_cell, o_cell, .func (PySem.W.fnOf "_law_cell" "_law_cell" (defArgs (topS 5)) (defBody (topS 5)) (defScope (topS 5)) .none v_cell t_cell p_cell a_cell e_cell u_cell), s_cell⟩) (hc_cell : PySem.W.codeIn K e_cell "_law_cell" = true) (hk_cell : PySem.W.keepIn K (.ref f_cell) = true)
    {f_next : Addr} {o_next a_next : Option Addr} {s_next : Array (Option Value)} {zc_next v_next t_next p_next e_next u_next : Value}
    (ha_next : PySem.W.nsIn K mainGlobals "_law_next" = some (some (.ref f_next))) (hl_next : K.lookup f_next = some ⟨zc_next, o_next, .func (PySem.W.fnOf "_law_next" "_law_next" (defArgs (topS 6)) (defBody (topS 6)) (defScope (topS 6)) .none v_next t_next p_next a_next e_next u_next), s_next⟩) (hc_next : PySem.W.codeIn K e_next "_law_next" = true) (hk_next : PySem.W.keepIn K (.ref f_next) = true)
    {f_labels : Addr} {o_labels a_labels : Option Addr} {s_labels : Array (Option Value)} {zc_labels v_labels t_labels p_labels e_labels u_labels : Value}
    (ha_labels : PySem.W.nsIn K mainGlobals "_law_labels" = some (some (.ref f_labels))) (hl_labels : K.lookup f_labels = some ⟨zc_labels, o_labels, .func (PySem.W.fnOf "_law_labels" "_law_labels" (defArgs (topS 7)) (defBody (topS 7)) (defScope (topS 7)) .none v_labels t_labels p_labels a_labels e_labels u_labels), s_labels⟩) (hc_labels : PySem.W.codeIn K e_labels "_law_labels" = true) (hk_labels : PySem.W.keepIn K (.ref f_labels) = true)
    {f_leaf : Addr} {o_leaf a_leaf : Option Addr} {s_leaf : Array (Option Value)} {zc_leaf v_leaf t_leaf p_leaf e_leaf u_leaf : Value}
    (ha_leaf : PySem.W.nsIn K mainGlobals "_law_leaf" = some (some (.ref f_leaf))) (hl_leaf : K.lookup f_leaf = some ⟨zc_leaf, o_leaf, .func (PySem.W.fnOf "_law_leaf" "_law_leaf" (defArgs (topS 8)) (defBody (topS 8)) (defScope (topS 8)) .none v_leaf t_leaf p_leaf a_leaf e_leaf u_leaf), s_leaf⟩) (hc_leaf : PySem.W.codeIn K e_leaf "_law_leaf" = true) (hk_leaf : PySem.W.keepIn K (.ref f_leaf) = true)
    {f_fields : Addr} {o_fields a_fields : Option Addr} {s_fields : Array (Option Value)} {zc_fields v_fields t_fields p_fields e_fields u_fields : Value}
    (ha_fields : PySem.W.nsIn K mainGlobals "_law_fields" = some (some (.ref f_fields))) (hl_fields : K.lookup f_fields = some ⟨zc_fields, o_fields, .func (PySem.W.fnOf "_law_fields" "_law_fields" (defArgs (topS 9)) (defBody (topS 9)) (defScope (topS 9)) .none v_fields t_fields p_fields a_fields e_fields u_fields), s_fields⟩) (hc_fields : PySem.W.codeIn K e_fields "_law_fields" = true) (hk_fields : PySem.W.keepIn K (.ref f_fields) = true)
    {f_body : Addr} {o_body a_body : Option Addr} {s_body : Array (Option Value)} {zc_body v_body t_body p_body e_body u_body : Value}
    (ha_body : PySem.W.nsIn K mainGlobals "_law_body" = some (some (.ref f_body))) (hl_body : K.lookup f_body = some ⟨zc_body, o_body, .func (PySem.W.fnOf "_law_body" "_law_body" (defArgs (topS 10)) (defBody (topS 10)) (defScope (topS 10)) .none v_body t_body p_body a_body e_body u_body), s_body⟩) (hc_body : PySem.W.codeIn K e_body "_law_body" = true) (hk_body : PySem.W.keepIn K (.ref f_body) = true)
    {f_kids : Addr} {o_kids a_kids : Option Addr} {s_kids : Array (Option Value)} {zc_kids v_kids t_kids p_kids e_kids u_kids : Value}
    (ha_kids : PySem.W.nsIn K mainGlobals "_law_kids" = some (some (.ref f_kids))) (hl_kids : K.lookup f_kids = some ⟨zc_kids, o_kids, .func (PySem.W.fnOf "_law_kids" "_law_kids" (defArgs (topS 11)) (defBody (topS 11)) (defScope (topS 11)) .none v_kids t_kids p_kids a_kids e_kids u_kids), s_kids⟩) (hc_kids : PySem.W.codeIn K e_kids "_law_kids" = true) (hk_kids : PySem.W.keepIn K (.ref f_kids) = true)
    {f_places : Addr} {o_places a_places : Option Addr} {s_places : Array (Option Value)} {zc_places v_places t_places p_places e_places u_places : Value}
    (ha_places : PySem.W.nsIn K mainGlobals "_law_places" = some (some (.ref f_places))) (hl_places : K.lookup f_places = some ⟨zc_places, o_places, .func (PySem.W.fnOf "_law_places" "_law_places" (defArgs (topS 12)) (defBody (topS 12)) (defScope (topS 12)) .none v_places t_places p_places a_places e_places u_places), s_places⟩) (hc_places : PySem.W.codeIn K e_places "_law_places" = true) (hk_places : PySem.W.keepIn K (.ref f_places) = true)
    {f_law : Addr} {o_law a_law : Option Addr} {s_law : Array (Option Value)} {zc_law v_law t_law p_law e_law u_law : Value}
    (ha_law : PySem.W.nsIn K mainGlobals "law" = some (some (.ref f_law))) (hl_law : K.lookup f_law = some ⟨zc_law, o_law, .func (PySem.W.fnOf "law" "law" (defArgs (topS 13)) (defBody (topS 13)) (defScope (topS 13)) .none v_law t_law p_law a_law e_law u_law), s_law⟩) (hc_law : PySem.W.codeIn K e_law "law" = true) (hk_law : PySem.W.keepIn K (.ref f_law) = true)
    (hz_bool : PySem.W.nsIn K mainGlobals "bool" = some none)
    (hz_enumerate : PySem.W.nsIn K mainGlobals "enumerate" = some none)
    (hz_int : PySem.W.nsIn K mainGlobals "int" = some none)
    (hz_isinstance : PySem.W.nsIn K mainGlobals "isinstance" = some none)
    (hz_len : PySem.W.nsIn K mainGlobals "len" = some none)
    (hz_list : PySem.W.nsIn K mainGlobals "list" = some none)
    (hz_range : PySem.W.nsIn K mainGlobals "range" = some none)
    (hz_tuple : PySem.W.nsIn K mainGlobals "tuple" = some none) :
    ∃ fd : FuncData, (∀ (s : Shared) (v : Value), BindsTo s fd ⟨[v], []⟩ [("_law_script", v)]) ∧ ∀ base : Heap, K.In base → base.Ns mainGlobals mg → FnOk P w K mg base (L2.CX P w) 22 fa fd ["_law_script"] (spL K) := by
  have e := hfa.symm.trans (PySem.W.mg_of X G ha_law)
  cases e
  have F_bodies_within := fun_mk (st := topS 1) hl_bodies_within hc_bodies_within hk_bodies_within
  have g_bodies_within := PySem.W.mg_of X G ha_bodies_within
  have F_places_of := fun_mk (st := topS 2) hl_places_of hc_places_of hk_places_of
  have g_places_of := PySem.W.mg_of X G ha_places_of
  have F_at_place := fun_mk (st := topS 3) hl_at_place hc_at_place hk_at_place
  have g_at_place := PySem.W.mg_of X G ha_at_place
  have F_cell := fun_mk (st := topS 5) hl_cell hc_cell hk_cell
  have g_cell := PySem.W.mg_of X G ha_cell
  have F_next := fun_mk (st := topS 6) hl_next hc_next hk_next
  have g_next := PySem.W.mg_of X G ha_next
  have F_labels := fun_mk (st := topS 7) hl_labels hc_labels hk_labels
  have g_labels := PySem.W.mg_of X G ha_labels
  have F_leaf := fun_mk (st := topS 8) hl_leaf hc_leaf hk_leaf
  have g_leaf := PySem.W.mg_of X G ha_leaf
  have F_fields := fun_mk (st := topS 9) hl_fields hc_fields hk_fields
  have g_fields := PySem.W.mg_of X G ha_fields
  have F_body := fun_mk (st := topS 10) hl_body hc_body hk_body
  have g_body := PySem.W.mg_of X G ha_body
  have F_kids := fun_mk (st := topS 11) hl_kids hc_kids hk_kids
  have g_kids := PySem.W.mg_of X G ha_kids
  have F_places := fun_mk (st := topS 12) hl_places hc_places hk_places
  have g_places := PySem.W.mg_of X G ha_places
  have F_law := fun_mk (st := topS 13) hl_law hc_law hk_law
  have g_law := PySem.W.mg_of X G ha_law
  have B : Blt mg := ⟨PySem.W.mg_none_of X G hz_bool, PySem.W.mg_none_of X G hz_enumerate, PySem.W.mg_none_of X G hz_int, PySem.W.mg_none_of X G hz_isinstance, PySem.W.mg_none_of X G hz_len, PySem.W.mg_none_of X G hz_list, PySem.W.mg_none_of X G hz_range, PySem.W.mg_none_of X G hz_tuple⟩
  refine ⟨PySem.W.fnOf "law" "law" (defArgs (topS 13)) (defBody (topS 13)) (defScope (topS 13)) .none v_law t_law p_law a_law e_law u_law, fun s v => .of_eq rfl, fun base _ _ => ?_⟩
  have C_bodies_within : Cal P w K mg base 1 "bodies_within" 1 D_bodies_within := c_bodies_within (k := 0) F_bodies_within g_bodies_within B
  have C_places_of : Cal P w K mg base 2 "places_of" 1 D_places_of := c_places_of (k := 1) F_places_of g_places_of B (C_bodies_within.mono (by decide))
  have C_at_place : Cal P w K mg base 2 "at_place" 2 D_at_place := c_at_place (k := 1) F_at_place g_at_place B (C_bodies_within.mono (by decide))
  have C_cell : Cal P w K mg base 1 "_law_cell" 2 D_cell := c_cell (k := 0) F_cell g_cell B
  have C_next : Cal P w K mg base 1 "_law_next" 1 D_next := c_next (k := 0) F_next g_next B
  have C_labels : Cal P w K mg base 1 "_law_labels" 2 D_labels := c_labels (k := 0) F_labels g_labels B
  have C_leaf : Cal P w K mg base 1 "_law_leaf" 2 D_leaf := c_leaf (k := 0) F_leaf g_leaf B
  have R_fields_body := r_fields_body (L := 1) F_fields g_fields F_body g_body B (C_next.mono (by decide)) (C_leaf.mono (by decide))
  have C_fields : Cal P w K mg base 21 "_law_fields" 5 D_fields := (R_fields_body 20).1
  have C_body : Cal P w K mg base 21 "_law_body" 5 D_body := (R_fields_body 20).2
  have C_kids : Cal P w K mg base 1 "_law_kids" 1 D_kids := c_kids (k := 0) F_kids g_kids B
  have R_places := r_places (L := 1) F_places g_places B (C_kids.mono (by decide))
  have C_places : Cal P w K mg base 21 "_law_places" 1 D_places := (R_places 20)
  have L := fn_law (k := 21) (base := base) (P := P) (w := w) F_law B (C_labels.mono (by decide)) (C_body.mono (by decide)) (C_places.mono (by decide)) (C_places_of.mono (by decide)) (C_cell.mono (by decide)) (C_at_place.mono (by decide))
  refine L.imp fun vs H Q E hs => ?_
  obtain ⟨a, ns, rfl, hS, hn, q⟩ := hs
  exact law_spQ 63 HL H a ns hn hS q
end Pr


set_option Elab.async false
set_option linter.all false
set_option maxRecDepth 100000
set_option maxHeartbeats 4000000
namespace Pr
open PySem L2 PD
/-! ### cells, numbers drawn -/
theorem next_eq (s : Sto) (k : Nat) (a b : Int) (h : s[k]? = some (.lst [.int a, .int b])) :
    D_next [.own k] s = some (.ok (.int ((a * 48271 + 11) % 2147483647 / 7)) (s.set k (.lst [.int ((a * 48271 + 11) % 2147483647), .int (b - 1)]))) := by
  have hset : ∀ c : Cell, (s.set k c)[k]? = some c := set_at h
  unfold D_next
  refine fnD_rt (d := .int ((a * 48271 + 11) % 2147483647 / 7)) (s' := s.set k (.lst [.int ((a * 48271 + 11) % 2147483647), .int (b - 1)])) ?_ ?_
  · unfold g_next
    simp [seqS, setS, bindS, retS, retNS, exprS, ifS, asgS, setIxS, augS, augO, nextS, f1, f2, fN, bindM, liftO, retM, fVar, fC, fTup, fLst, fOwn, fCons, fNil, fB, fTru, fNot, fAnd, fOr, fAndV, fOrV, fIf, asB, truO, fCall, fM0, fM1, tdName, tdTup, tdCons, tdNil, ixO, seqOf, lsOf, atI, ixN, mulO, mulOk, addO, modO, subO, fdivO, setIx, h, hset]
  · have := closeM_low (keep := false) (s := s) (t := s.set k (.lst [.int ((a * 48271 + 11) % 2147483647), .int (b - 1)])) (junk := []) (d := .int ((a * 48271 + 11) % 2147483647 / 7)) (by simp) (keeps_set rfl) rfl (fun _ z => nomatch z)
    rw [List.append_nil] at this
    exact this
/-- what is drawn isn't below 0 -/
theorem next_nn (a : Int) : 0 ≤ (a * 48271 + 11) % 2147483647 / 7 := Int.ediv_nonneg (Int.emod_nonneg _ (by decide)) (by decide)
theorem cell_eq (ns : List Int) (k : Nat) (s : Sto) : ∃ v : Int, 0 ≤ v ∧ v < 2147483647 ∧ D_cell [.scr (ns.map D.int), .int k] s = some (.ok (.int v) s) := by
  have fin : ∀ v : Int, closeM false s (.int v) s = some (.ok (.int v) s) := fun v => by
    have := closeM_low (keep := false) (s := s) (t := s) (junk := []) (d := .int v) rfl (keeps_refl s) rfl (fun _ z => nomatch z)
    rw [List.append_nil] at this
    exact this
  by_cases hk : k < ns.length
  · refine ⟨ns[k] * 48271 % 2147483647, Int.emod_nonneg _ (by decide), Int.emod_lt_of_pos _ (by decide), ?_⟩
    unfold D_cell
    refine fnD_rt (d := .int (ns[k] * 48271 % 2147483647)) (s' := s) ?_ (fin _)
    unfold g_cell
    simp [seqS, setS, bindS, retS, retNS, exprS, ifS, asgS, setIxS, augS, augO, nextS, f1, f2, fN, bindM, liftO, retM, fVar, fC, fTup, fLst, fOwn, fCons, fNil, fB, fTru, fNot, fAnd, fOr, fAndV, fOrV, fIf, asB, truO, fCall, fM0, fM1, tdName, tdTup, tdCons, tdNil, ixO, seqOf, lsOf, atI, ixN, mulO, mulOk, modO, ltO, lenO, hk]
  · refine ⟨0, by decide, by decide, ?_⟩
    unfold D_cell
    refine fnD_rt (d := .int 0) (s' := s) ?_ (fin _)
    unfold g_cell
    simp [seqS, setS, bindS, retS, retNS, exprS, ifS, asgS, setIxS, augS, augO, nextS, f1, f2, fN, bindM, liftO, retM, fVar, fC, fTup, fLst, fOwn, fCons, fNil, fB, fTru, fNot, fAnd, fOr, fAndV, fOrV, fIf, asB, truO, fCall, fM0, fM1, tdName, tdTup, tdCons, tdNil, ixO, seqOf, lsOf, atI, ixN, mulO, mulOk, modO, ltO, lenO, hk]
end Pr

set_option Elab.async false
set_option linter.all false
set_option maxRecDepth 100000
set_option maxHeartbeats 4000000
namespace Pr
open PySem L2 PD
/-! ### labels -/
structure OkS (n : Nat) (x : Str) : Prop where
  len : x.length ≤ n
  cps : ∀ c ∈ x.cps.toList, c < 1114112
theorem OkS.mono {m n : Nat} {x : Str} (h : OkS m x) (hn : m ≤ n) : OkS n x := ⟨Nat.le_trans h.len hn, h.cps⟩
theorem OkS.app {m n : Nat} {x y : Str} (h : OkS m x) (g : OkS n y) : OkS (m + n) (x ++ y) := by
  refine ⟨?_, fun c hc => ?_⟩
  · show (x.cps ++ y.cps).size ≤ m + n
    rw [Array.size_append]
    exact Nat.add_le_add h.len g.len
  · have hc' : c ∈ (x.cps ++ y.cps).toList := hc
    rw [Array.toList_append] at hc'
    rcases List.mem_append.mp hc' with q | q
    · exact h.cps c q
    · exact g.cps c q
theorem OkS.cut {n : Nat} {x : Str} (h : OkS n x) (lo hi : Option Int) : OkS n (cutS x lo hi) := by
  refine ⟨?_, fun c hc => ?_⟩
  · show (cutS x lo hi).cps.size ≤ n
    unfold cutS
    rw [List.size_toArray, List.length_take, List.length_drop]
    have := h.len
    have e : x.cps.toList.length = x.length := rfl
    omega
  · have hc' : c ∈ ((x.cps.toList.drop (HT.sIx x.length 0 lo)).take (HT.sIx x.length x.length hi - HT.sIx x.length 0 lo)) := by
      have e : (cutS x lo hi).cps.toList = ((x.cps.toList.drop (HT.sIx x.length 0 lo)).take (HT.sIx x.length x.length hi - HT.sIx x.length 0 lo)) := rfl
      rw [e] at hc
      exact hc
    exact h.cps c (List.mem_of_mem_drop (List.mem_of_mem_take hc'))
theorem OkS.one {c : Nat} (h : c < 1114112) : OkS 1 ⟨#[c]⟩ := ⟨Nat.le_refl _, fun d hd => by
  have : d = c := by simpa using hd
  omega⟩
theorem OkS.join0 : ∀ (ys : List Str), (∀ y ∈ ys, OkS 1 y) → OkS ys.length (Txt.join (PySem.Str.ofString "") ys) := by
  intro ys h
  rw [show Txt.join (PySem.Str.ofString "") ys = Str.join (PySem.Str.ofString "") ys from PySem.StrLaws.glued_eq_join _ _]
  have e0 : (PySem.Str.ofString "" : Str) = ⟨#[]⟩ := by decide +kernel
  rw [e0]
  induction ys with
  | nil => exact ⟨Nat.le_refl _, fun c hc => by cases hc⟩
  | cons y r ih =>
    have hy := h y List.mem_cons_self
    have hr := ih fun z hz => h z (List.mem_cons_of_mem _ hz)
    cases r with
    | nil => exact hy
    | cons z r =>
      have q := (hy.app (y := ⟨#[]⟩) (n := 0) ⟨Nat.le_refl _, fun c hc => by cases hc⟩).app hr
      refine q.mono ?_
      simp only [List.length_cons]
      omega
abbrev abc : Str := PySem.Str.ofString "abcdefghijklmnopqrstuvwxyz"
theorem abc_len : abc.cps.toList.length = 26 := by decide +kernel
theorem abc_small : small abc.length = true := by decide +kernel
theorem abc_ok : ∀ c ∈ abc.cps.toList, c < 1114112 := by decide +kernel
theorem abc_at (i : Int) (h0 : 0 ≤ i) (h1 : i < 26) : ∃ c, atI abc.cps.toList i = some c ∧ c < 1114112 := by
  obtain ⟨j, rfl⟩ : ∃ j : Nat, i = (j : Int) := ⟨i.toNat, by omega⟩
  have hi : j < abc.cps.toList.length := by rw [abc_len]; omega
  exact ⟨abc.cps.toList[j], atI_nat (List.getElem?_eq_getElem hi), abc_ok _ (List.getElem_mem hi)⟩
theorem abc_ix (s : Sto) (i : Int) (h0 : 0 ≤ i) (h1 : i < 26) : ∃ x, ixO s (.str abc) (.int i) = some (.str x) ∧ OkS 1 x := by
  obtain ⟨c, h, hc⟩ := abc_at i h0 h1
  refine ⟨⟨#[c]⟩, ?_, .one hc⟩
  show (if small abc.length = true then (atI abc.cps.toList i).map fun c => D.str ⟨#[c]⟩ else none) = _
  rw [if_pos abc_small, h]
  rfl
theorem mulOk_r {i j : Int} (h0 : -(2 ^ 64) < j) (h1 : j < 2 ^ 64) : mulOk i j = true := by
  unfold mulOk
  rw [decide_eq_true h0, decide_eq_true h1]
  simp
theorem mulOk_l {i j : Int} (h0 : -(2 ^ 64) < i) (h1 : i < 2 ^ 64) : mulOk i j = true := by
  unfold mulOk
  rw [decide_eq_true h0, decide_eq_true h1]
  simp
theorem mapStr (xs : List Str) : (xs.map D.str).mapM strD = some xs := by
  induction xs with
  | nil => rfl
  | cons x r ih => rw [List.map_cons, List.mapM_cons, ih]; rfl
theorem sum_le (xs : List Str) (n : Nat) (h : ∀ x ∈ xs, x.length ≤ n) : (xs.map (·.length)).sum ≤ xs.length * n := by
  induction xs with
  | nil => simp
  | cons x r ih =>
    have h1 := h x List.mem_cons_self
    have h2 := ih fun z hz => h z (List.mem_cons_of_mem _ hz)
    rw [List.map_cons, List.sum_cons, List.length_cons, Nat.succ_mul]
    omega
theorem low_strs (n : Nat) (xs : List Str) : D.lowAll n (xs.map D.str) = true := by
  rw [lowAll_iff]
  intro d hd
  obtain ⟨x, _, rfl⟩ := List.mem_map.mp hd
  rfl
/-- the base of the labels -/
theorem base_eq (c size step : Int) (hs0 : 0 ≤ size) (hs : size < 7) (sl : Sl) (s : Sto) (h0 : sl[0]? = some (some (.int c))) (h2 : sl[2]? = some (some (.str abc))) (h3 : sl[3]? = some (some (.int size))) (h5 : sl[5]? = some (some (.int step))) (hl : 7 < sl.length) :
    ∃ b, OkS 6 b ∧ (fJoin (fC (.str (PySem.Str.ofString ""))) (fLc (tdName 7) fYes (f2 ixO (fVar 2) (f2 modO (f2 addO (fVar 5) (f2 mulO (f2 fdivO (fVar 0) (fC (.int 1274))) (fVar 7))) (fC (.int 26)))) (fRng1 (fVar 3)) [7])) sl s = some (.ok (.str b) s) := by
  have hr : fRng1 (fVar 3) sl s = some (.ok (rangeD 0 size.toNat, none) s) := by
    have c : size < 2 ^ 62 ∧ -(2 ^ 62) ≤ size := by omega
    simp only [fRng1, fVar, bindM, liftO, h3, rngO, if_pos c]
  have turn : ∀ i : Nat, i < 7 → ∃ x, OkS 1 x ∧ ixO s (.str abc) (.int ((step + c / 1274 * (0 + (i : Int))) % 26)) = some (.str x) := fun i _ => by
    obtain ⟨x, h, hx⟩ := abc_ix s ((step + c / 1274 * (0 + (i : Int))) % 26) (Int.emod_nonneg _ (by decide)) (Int.emod_lt_of_pos _ (by decide))
    exact ⟨x, hx, h⟩
  let f : Nat → Str := fun i => if h : i < 7 then Classical.choose (turn i h) else ⟨#[]⟩
  have hf : ∀ i (h : i < 7), OkS 1 (f i) ∧ ixO s (.str abc) (.int ((step + c / 1274 * (0 + (i : Int))) % 26)) = some (.str (f i)) := fun i h => by
    have := Classical.choose_spec (turn i h)
    show OkS 1 (if h : i < 7 then Classical.choose (turn i h) else ⟨#[]⟩) ∧ _ = some (D.str (if h : i < 7 then Classical.choose (turn i h) else ⟨#[]⟩))
    rw [dif_pos h]
    exact this
  have hlc : lcL (tdName 7) fYes (f2 ixO (fVar 2) (f2 modO (f2 addO (fVar 5) (f2 mulO (f2 fdivO (fVar 0) (fC (.int 1274))) (fVar 7))) (fC (.int 26)))) (rangeD 0 size.toNat, none) (wipeS sl [7]) (rangeD 0 size.toNat) s
      = some (.ok ((rangeD 0 size.toNat).map fun d => match d with | .int j => .str (f j.toNat) | _ => .non) s) := by
    refine lcL_map _ (ck_none _ _) _ fun x hx => ?_
    unfold rangeD at hx
    obtain ⟨i, hi, rfl⟩ := List.mem_map.mp hx
    have hi' : i < 7 := by
      have := List.mem_range.mp hi
      omega
    refine ⟨_, rfl, rfl, ?_⟩
    have e2 : ((wipeS sl [7]).set 7 (some (.int (0 + (i : Int)))))[2]? = some (some (.str abc)) := by
      simp [wipeS, h2]
    have e0 : ((wipeS sl [7]).set 7 (some (.int (0 + (i : Int)))))[0]? = some (some (.int c)) := by
      simp [wipeS, h0]
    have e5 : ((wipeS sl [7]).set 7 (some (.int (0 + (i : Int)))))[5]? = some (some (.int step)) := by
      simp [wipeS, h5]
    have e7 : ((wipeS sl [7]).set 7 (some (.int (0 + (i : Int)))))[7]? = some (some (.int (0 + (i : Int)))) := by
      rw [List.getElem?_set_self]
      simp [wipeS, hl]
    have hm : mulOk (c / 1274) (0 + (i : Int)) = true := mulOk_r (by omega) (by omega)
    simp only [f2, fVar, bindM, e2, e0, e5, e7, fC, retM, liftO, fdivO, mulO, addO, modO, hm, if_true]
    simp only [show (0 : Int) < 1274 ∧ (1274 : Int) < 1073741824 by decide, show (0 : Int) < 26 by decide, and_self, if_true, hm, (hf i hi').2]
    have : (0 + (i : Int)).toNat = i := by omega
    rw [this]
  have hys : (rangeD 0 size.toNat).map (fun d => match d with | .int j => D.str (f j.toNat) | _ => .non) = ((List.range size.toNat).map f).map D.str := by
    unfold rangeD
    rw [List.map_map, List.map_map]
    refine List.map_congr_left fun i _ => ?_
    show D.str (f (0 + (i : Int)).toNat) = D.str (f i)
    rw [show (0 + (i : Int)).toNat = i by omega]
  rw [hys] at hlc
  have ok1 : ∀ y ∈ (List.range size.toNat).map f, OkS 1 y := fun y hy => by
    obtain ⟨i, hi, rfl⟩ := List.mem_map.mp hy
    exact (hf i (by have := List.mem_range.mp hi; omega)).1
  have hlen : ((List.range size.toNat).map f).length = size.toNat := by simp
  refine ⟨Txt.join (PySem.Str.ofString "") ((List.range size.toNat).map f), (OkS.join0 _ ok1).mono (by rw [hlen]; omega), ?_⟩
  have hLc := fLc_of (T := tdName 7) (u := fYes) (f := (f2 ixO (fVar 2) (f2 modO (f2 addO (fVar 5) (f2 mulO (f2 fdivO (fVar 0) (fC (.int 1274))) (fVar 7))) (fC (.int 26))))) (vs := [7]) hr (ck_none _ _) hlc (by simp; omega)
  have hsm : small ((((List.range size.toNat).map f).map (·.length)).sum + ((List.range size.toNat).map f).length * (PySem.Str.ofString "").length) = true := by
    refine decide_eq_true ?_
    have h1 := sum_le _ 1 fun y hy => (ok1 y hy).len
    have h2 : (PySem.Str.ofString "").length = 0 := by decide +kernel
    rw [h2]
    rw [hlen] at h1 ⊢
    omega
  simp only [fJoin, bindM, fC, retM, liftO, isStr, hLc, joinO, seqOf, lsOf, Option.bind_some, mapStr, hsm, if_true]
end Pr

set_option Elab.async false
set_option linter.all false
set_option maxRecDepth 100000
set_option maxHeartbeats 4000000
namespace Pr
open PySem L2 PD
theorem small_of {n : Nat} (h : n ≤ 1000000) : small n = true := decide_eq_true (by omega)
theorem labels_eq (c : Int) (s : Sto) : ∃ L : List Str, L.length = 4 ∧ (∀ l ∈ L, OkS 13 l) ∧ D_labels [.int c, .int 4] s = some (.ok (.lst (L.map D.str)) s) := by
  have p7 := Int.emod_nonneg c (show (7 : Int) ≠ 0 by decide)
  have q7 := Int.emod_lt_of_pos c (show (0 : Int) < 7 by decide)
  have h71 : 0 < c % 7 + 1 := by omega
  obtain ⟨b, hb, eb⟩ := base_eq c (c % 7) (c / 49 % 26) p7 q7 [some (.int c), some (.int 4), some (.str abc), some (.int (c % 7)), some (.int (c / 7 % (c % 7 + 1))), some (.int (c / 49 % 26)), none, none, none, none] s rfl rfl rfl rfl (by simp)
  have turn : ∀ (i : Int) (x7 x9 : Option D) (acc : List Str), ∃ y z, OkS 13 y ∧ (seqS (setS 9 (f2 ixO (fVar 2) (f2 modO (f2 addO (f2 fdivO (fVar 0) (fC (.int 49))) (f2 mulO (fC (.int 3)) (fVar 7))) (fC (.int 26)))))
      (exprS (fM1 appendM (fVar 8) (fCons (f2 addO (f2 addO (fSl (fVar 6) fNo (fSome (fVar 4))) (fVar 9)) (fSl (fVar 6) (fSome (fVar 4)) fNo)) fNil))))
      [some (.int c), some (.int 4), some (.str abc), some (.int (c % 7)), some (.int (c / 7 % (c % 7 + 1))), some (.int (c / 49 % 26)), some (.str b), some (.int i), some (.own s.length), x9] (s ++ [.lst (acc.map D.str)])
      = if acc.length < 1000 then some (.nx [some (.int c), some (.int 4), some (.str abc), some (.int (c % 7)), some (.int (c / 7 % (c % 7 + 1))), some (.int (c / 49 % 26)), some (.str b), some (.int i), some (.own s.length), some (.str z)] (s ++ [.lst ((acc ++ [y]).map D.str)]))
        else (seqS (setS 9 (f2 ixO (fVar 2) (f2 modO (f2 addO (f2 fdivO (fVar 0) (fC (.int 49))) (f2 mulO (fC (.int 3)) (fVar 7))) (fC (.int 26)))))
      (exprS (fM1 appendM (fVar 8) (fCons (f2 addO (f2 addO (fSl (fVar 6) fNo (fSome (fVar 4))) (fVar 9)) (fSl (fVar 6) (fSome (fVar 4)) fNo)) fNil))))
      [some (.int c), some (.int 4), some (.str abc), some (.int (c % 7)), some (.int (c / 7 % (c % 7 + 1))), some (.int (c / 49 % 26)), some (.str b), some (.int i), some (.own s.length), x9] (s ++ [.lst (acc.map D.str)]) := by
    intro i x7 x9 acc
    obtain ⟨z, hz, oz⟩ := abc_ix (s ++ [.lst (acc.map D.str)]) ((c / 49 + 3 * i) % 26) (Int.emod_nonneg _ (by decide)) (Int.emod_lt_of_pos _ (by decide))
    have o1 := hb.cut none (some (c / 7 % (c % 7 + 1)))
    have o2 := hb.cut (some (c / 7 % (c % 7 + 1))) none
    refine ⟨cutS b none (some (c / 7 % (c % 7 + 1))) ++ z ++ cutS b (some (c / 7 % (c % 7 + 1))) none, z, ((o1.app oz).app o2).mono (by decide), ?_⟩
    split
    · rename_i ha
      have s1 : small (b.length) = true := small_of (by have := hb.len; omega)
      have s2 : small ((cutS b none (some (c / 7 % (c % 7 + 1)))).length + z.length) = true := small_of (by have := o1.len; have := oz.len; omega)
      have s3 : small ((cutS b none (some (c / 7 % (c % 7 + 1))) ++ z).length + (cutS b (some (c / 7 % (c % 7 + 1))) none).length) = true := small_of (by have := (o1.app oz).len; have := o2.len; omega)
      have s4 : small ((acc.map D.str).length + 1) = true := small_of (by rw [List.length_map]; omega)
      have m : mulOk 3 i = true := mulOk_l (by decide) (by decide)
      simp only [seqS, setS, bindS, retS, retNS, exprS, ifS, asgS, setIxS, augS, augO, nextS, f1, f2, fN, bindM, liftO, retM, fVar, fC, fTup, fLst, fOwn, fCons, fNil, fB, fTru, fNot, fAnd, fOr, fAndV, fOrV, fIf, asB, truO, fCall, fM0, fM1, tdName, tdTup, tdCons, tdNil, fdivO, modO, addO, mulO, m, if_true, show (0 : Int) < 49 ∧ (49 : Int) < 1073741824 by decide, show (0 : Int) < 26 by decide, and_self, hz, List.getElem?_cons_zero, List.getElem?_cons_succ,
        List.set_cons_zero, List.set_cons_succ, fSl, fNo, fSome, asI, slO, s1, s2, s3, lsOf, app_at, Option.map_some, appendM, s4, app_set, List.map_append, List.map_cons, List.map_nil]
    · rfl
  have hloop := forL_inv (T := tdName 7) (a := (rangeD 0 4, none)) (g := (seqS (setS 9 (f2 ixO (fVar 2) (f2 modO (f2 addO (f2 fdivO (fVar 0) (fC (.int 49))) (f2 mulO (fC (.int 3)) (fVar 7))) (fC (.int 26)))))
      (exprS (fM1 appendM (fVar 8) (fCons (f2 addO (f2 addO (fSl (fVar 6) fNo (fSome (fVar 4))) (fVar 9)) (fSl (fVar 6) (fSome (fVar 4)) fNo)) fNil)))))
    (fun xs sl st => ∃ (x7 x9 : Option D) (acc : List Str), sl = [some (.int c), some (.int 4), some (.str abc), some (.int (c % 7)), some (.int (c / 7 % (c % 7 + 1))), some (.int (c / 49 % 26)), some (.str b), x7, some (.own s.length), x9] ∧
      st = s ++ [.lst (acc.map D.str)] ∧ acc.length + xs.length = 4 ∧ (∀ l ∈ acc, OkS 13 l) ∧ ∀ x ∈ xs, ∃ i, x = .int i) ?_ (rangeD 0 4) _ _ ⟨none, none, [], rfl, rfl, rfl, (fun _ h => nomatch h), fun x hx => by
        unfold rangeD at hx
        obtain ⟨i, _, rfl⟩ := List.mem_map.mp hx
        exact ⟨_, rfl⟩⟩
  · obtain ⟨sl', st', el, x7, x9, acc, rfl, rfl, hl, hok, _⟩ := hloop
    refine ⟨acc, by simpa using hl, hok, ?_⟩
    unfold D_labels
    refine fnD_rt (d := .own s.length) (s' := s ++ [.lst (acc.map D.str)]) ?_ (closeM_lst rfl (keeps_refl s) (Nat.le_refl _) (app_at _ _ _) (low_strs _ _))
    unfold g_labels
    show seqS _ _ [some (.int c), some (.int 4), none, none, none, none, none, none, none, none] s = _
    rw [seqS_nx (setS_ok rfl)]
    simp only [List.set_cons_zero, List.set_cons_succ]
    rw [seqS_nx (setS_ok (d := .int (c % 7)) (s' := s) (by simp [seqS, setS, bindS, retS, retNS, exprS, ifS, asgS, setIxS, augS, augO, nextS, f1, f2, fN, bindM, liftO, retM, fVar, fC, fTup, fLst, fOwn, fCons, fNil, fB, fTru, fNot, fAnd, fOr, fAndV, fOrV, fIf, asB, truO, fCall, fM0, fM1, tdName, tdTup, tdCons, tdNil, modO]))]
    simp only [List.set_cons_zero, List.set_cons_succ]
    rw [seqS_nx (setS_ok (d := .int (c / 7 % (c % 7 + 1))) (s' := s) (by simp [seqS, setS, bindS, retS, retNS, exprS, ifS, asgS, setIxS, augS, augO, nextS, f1, f2, fN, bindM, liftO, retM, fVar, fC, fTup, fLst, fOwn, fCons, fNil, fB, fTru, fNot, fAnd, fOr, fAndV, fOrV, fIf, asB, truO, fCall, fM0, fM1, tdName, tdTup, tdCons, tdNil, modO, fdivO, addO, h71]))]
    simp only [List.set_cons_zero, List.set_cons_succ]
    rw [seqS_nx (setS_ok (d := .int (c / 49 % 26)) (s' := s) (by simp [seqS, setS, bindS, retS, retNS, exprS, ifS, asgS, setIxS, augS, augO, nextS, f1, f2, fN, bindM, liftO, retM, fVar, fC, fTup, fLst, fOwn, fCons, fNil, fB, fTru, fNot, fAnd, fOr, fAndV, fOrV, fIf, asB, truO, fCall, fM0, fM1, tdName, tdTup, tdCons, tdNil, modO, fdivO]))]
    simp only [List.set_cons_zero, List.set_cons_succ]
    rw [seqS_nx (setS_ok eb)]
    simp only [List.set_cons_zero, List.set_cons_succ]
    rw [seqS_nx (setS_ok (d := .own s.length) (s' := s ++ [.lst []]) (by simp [seqS, setS, bindS, retS, retNS, exprS, ifS, asgS, setIxS, augS, augO, nextS, f1, f2, fN, bindM, liftO, retM, fVar, fC, fTup, fLst, fOwn, fCons, fNil, fB, fTru, fNot, fAnd, fOr, fAndV, fOrV, fIf, asB, truO, fCall, fM0, fM1, tdName, tdTup, tdCons, tdNil, small_of]))]
    simp only [List.set_cons_zero, List.set_cons_succ]
    have hi : (fRng1 (fVar 1)) [some (.int c), some (.int 4), some (.str abc), some (.int (c % 7)), some (.int (c / 7 % (c % 7 + 1))), some (.int (c / 49 % 26)), some (.str b), none, some (.own s.length), none] (s ++ [.lst []]) = some (.ok (rangeD 0 4, none) (s ++ [.lst []])) := by
      simp [fRng1, seqS, setS, bindS, retS, retNS, exprS, ifS, asgS, setIxS, augS, augO, nextS, f1, f2, fN, bindM, liftO, retM, fVar, fC, fTup, fLst, fOwn, fCons, fNil, fB, fTru, fNot, fAnd, fOr, fAndV, fOrV, fIf, asB, truO, fCall, fM0, fM1, tdName, tdTup, tdCons, tdNil, rngO]
    have hfor := (forS_of (T := tdName 7) (g := (seqS (setS 9 (f2 ixO (fVar 2) (f2 modO (f2 addO (f2 fdivO (fVar 0) (fC (.int 49))) (f2 mulO (fC (.int 3)) (fVar 7))) (fC (.int 26)))))
      (exprS (fM1 appendM (fVar 8) (fCons (f2 addO (f2 addO (fSl (fVar 6) fNo (fSome (fVar 4))) (fVar 9)) (fSl (fVar 6) (fSome (fVar 4)) fNo)) fNil))))) hi (ck_none _ _)).trans el
    rw [seqS_nx hfor]
    exact retS_ok rfl
  · rintro x xs sl st ⟨x7, x9, acc, rfl, rfl, hl, hok, hx⟩
    obtain ⟨i, rfl⟩ := hx x List.mem_cons_self
    obtain ⟨y, z, hy, e⟩ := turn i x7 x9 acc
    rw [if_pos (by simp at hl; omega)] at e
    refine ⟨_, _, _, rfl, e, ck_none _ _, some (.int i), some (.str z), acc ++ [y], rfl, rfl, by simp at hl ⊢; omega, fun l h => ?_, fun w hw => hx w (List.mem_cons_of_mem _ hw)⟩
    rcases List.mem_append.mp h with h | h
    · exact hok l h
    · rw [List.mem_singleton.mp h]; exact hy
end Pr

set_option Elab.async false
set_option linter.all false
set_option maxRecDepth 100000
set_option maxHeartbeats 4000000
namespace Pr
open PySem L2 PD
abbrev S (x : String) : Str := PySem.Str.ofString x
/-! ### bodies -/
inductive Tr where
  | node (d : D) (ks : List Tr)
def Tr.d : Tr → D | .node d _ => d
def Tr.ks : Tr → List Tr | .node _ ks => ks
/-- the eight forms: a body and those right within it -/
inductive Form : D → List D → Prop
  | num (n : Int) : Form (.tup [.str (S "number"), .int n]) []
  | inp (k : Int) : Form (.tup [.str (S "input"), .int k]) []
  | make (fs : List (Str × D)) : (∀ f ∈ fs, OkS 13 f.1) → Form (.tup [.str (S "make"), .tup (fs.map fun f => .tup [.str f.1, f.2])]) (fs.map (·.2))
  | get (b : D) (l : Str) : OkS 13 l → Form (.tup [.str (S "get"), b, .str l]) [b]
  | put (b c : D) (l : Str) : OkS 13 l → Form (.tup [.str (S "put"), b, .str l, c]) [b, c]
  | sum (b c : D) : Form (.tup [.str (S "sum"), b, c]) [b, c]
  | iff (b c d : D) : Form (.tup [.str (S "if"), b, c, d]) [b, c, d]
  | call (n : Str) (bs : List D) : OkS 13 n → Form (.tup [.str (S "call"), .str n, .tup bs]) bs
inductive Ok : Nat → Tr → Prop
  | mk {n : Nat} {d : D} {ks : List Tr} : Form d (ks.map Tr.d) → (∀ k ∈ ks, Ok n k) → ks.length ≤ 3 → Ok (n + 1) (.node d ks)
theorem Ok.leaf {d : D} (h : Form d []) (n : Nat) : Ok (n + 1) (.node d []) := .mk h (fun _ h => nomatch h) (by simp)
theorem fin_same (s : Sto) (d : D) (h : D.low s.length d = true) (hn : ∀ k, d ≠ .own k) : closeM false s d s = some (.ok d s) := by
  have := closeM_low (keep := false) (s := s) (t := s) (junk := []) (d := d) rfl (keeps_refl s) h hn
  rw [List.append_nil] at this
  exact this
theorem leaf_eq (n m : Int) (s : Sto) (hm : 0 ≤ m) : ∃ d, Form d [] ∧ D.low 0 d = true ∧ D_leaf [.int n, .int m] s = some (.ok d s) := by
  by_cases c : 0 < m ∧ 0 < n % 3
  · refine ⟨_, .inp (n / 3 % m), rfl, ?_⟩
    unfold D_leaf
    refine fnD_rt (d := .tup [.str (S "input"), .int (n / 3 % m)]) (s' := s) ?_ (fin_same _ _ rfl fun _ z => nomatch z)
    unfold g_leaf
    simp [seqS, setS, bindS, retS, retNS, exprS, ifS, asgS, setIxS, augS, augO, nextS, f1, f2, fN, bindM, liftO, retM, fVar, fC, fTup, fLst, fOwn, fCons, fNil, fB, fTru, fNot, fAnd, fOr, fAndV, fOrV, fIf, asB, truO, fCall, fM0, fM1, tdName, tdTup, tdCons, tdNil, gtO, modO, fdivO, c.1, c.2, small, S]
  · have p4 := Int.emod_nonneg n (show (4 : Int) ≠ 0 by decide)
    have q4 := Int.emod_lt_of_pos n (show (0 : Int) < 4 by decide)
    have hw : (decide (0 < m) && decide (0 < n % 3)) = false := by
      rw [Bool.and_eq_false_iff]
      by_cases h1 : 0 < m
      · exact .inr (decide_eq_false fun h2 => c ⟨h1, h2⟩)
      · exact .inl (decide_eq_false h1)
    have test : (fAnd (fB (f2 gtO (fVar 1) (fC (.int 0)))) (fB (f2 gtO (f2 modO (fVar 0) (fC (.int 3))) (fC (.int 0))))) [some (.int n), some (.int m)] s = some (.ok false s) := by
      by_cases h1 : 0 < m
      · have h2 : ¬ 0 < n % 3 := fun h2 => c ⟨h1, h2⟩
        simp [seqS, setS, bindS, retS, retNS, exprS, ifS, asgS, setIxS, augS, augO, nextS, f1, f2, fN, bindM, liftO, retM, fVar, fC, fTup, fLst, fOwn, fCons, fNil, fB, fTru, fNot, fAnd, fOr, fAndV, fOrV, fIf, asB, truO, fCall, fM0, fM1, tdName, tdTup, tdCons, tdNil, gtO, modO, h1, h2]
      · simp [seqS, setS, bindS, retS, retNS, exprS, ifS, asgS, setIxS, augS, augO, nextS, f1, f2, fN, bindM, liftO, retM, fVar, fC, fTup, fLst, fOwn, fCons, fNil, fB, fTru, fNot, fAnd, fOr, fAndV, fOrV, fIf, asB, truO, fCall, fM0, fM1, tdName, tdTup, tdCons, tdNil, gtO, modO, h1]
    have item : ∃ v : Int, (f2 ixO (fLst (fCons (fC (.int 0)) (fCons (fC (.int 1)) (fCons (f1 negO (fC (.int 1))) (fCons (f2 subO (f2 modO (f2 fdivO (fVar 0) (fC (.int 4))) (f2 addO (f2 mulO (fC (.int 2)) (f2 powO (fC (.int 10)) (fC (.int 12)))) (fC (.int 1)))) (f2 powO (fC (.int 10)) (fC (.int 12)))) fNil))))) (f2 modO (fVar 0) (fC (.int 4)))) [some (.int n), some (.int m)] s = some (.ok (.int v) s) := by
      have hp : powO s (.int 10) (.int 12) = some (.int 1000000000000) := by simp [powO]
      have hm : mulO s (.int 2) (.int 1000000000000) = some (.int 2000000000000) := by simp [mulO, mulOk]
      have hs : small 4 = true := by decide
      have c4 : n % 4 = 0 ∨ n % 4 = 1 ∨ n % 4 = 2 ∨ n % 4 = 3 := by omega
      rcases c4 with h | h | h | h
      · exact ⟨0, by simp [seqS, setS, bindS, retS, retNS, exprS, ifS, asgS, setIxS, augS, augO, nextS, f1, f2, fN, bindM, liftO, retM, fVar, fC, fTup, fLst, fOwn, fCons, fNil, fB, fTru, fNot, fAnd, fOr, fAndV, fOrV, fIf, asB, truO, fCall, fM0, fM1, tdName, tdTup, tdCons, tdNil, hp, hm, hs, fdivO, modO, addO, subO, negO, h, ixO, seqOf, lsOf, atI, ixN]⟩
      · exact ⟨1, by simp [seqS, setS, bindS, retS, retNS, exprS, ifS, asgS, setIxS, augS, augO, nextS, f1, f2, fN, bindM, liftO, retM, fVar, fC, fTup, fLst, fOwn, fCons, fNil, fB, fTru, fNot, fAnd, fOr, fAndV, fOrV, fIf, asB, truO, fCall, fM0, fM1, tdName, tdTup, tdCons, tdNil, hp, hm, hs, fdivO, modO, addO, subO, negO, h, ixO, seqOf, lsOf, atI, ixN]⟩
      · exact ⟨-1, by simp [seqS, setS, bindS, retS, retNS, exprS, ifS, asgS, setIxS, augS, augO, nextS, f1, f2, fN, bindM, liftO, retM, fVar, fC, fTup, fLst, fOwn, fCons, fNil, fB, fTru, fNot, fAnd, fOr, fAndV, fOrV, fIf, asB, truO, fCall, fM0, fM1, tdName, tdTup, tdCons, tdNil, hp, hm, hs, fdivO, modO, addO, subO, negO, h, ixO, seqOf, lsOf, atI, ixN]⟩
      · exact ⟨n / 4 % 2000000000001 - 1000000000000, by simp [seqS, setS, bindS, retS, retNS, exprS, ifS, asgS, setIxS, augS, augO, nextS, f1, f2, fN, bindM, liftO, retM, fVar, fC, fTup, fLst, fOwn, fCons, fNil, fB, fTru, fNot, fAnd, fOr, fAndV, fOrV, fIf, asB, truO, fCall, fM0, fM1, tdName, tdTup, tdCons, tdNil, hp, hm, hs, fdivO, modO, addO, subO, negO, h, ixO, seqOf, lsOf, atI, ixN]⟩
    obtain ⟨v, hv⟩ := item
    refine ⟨_, .num v, rfl, ?_⟩
    unfold D_leaf
    refine fnD_rt (d := .tup [.str (S "number"), .int v]) (s' := s) ?_ (fin_same _ _ rfl fun _ z => nomatch z)
    unfold g_leaf
    show seqS _ _ [some (.int n), some (.int m)] s = _
    rw [seqS_nx (ifS_f test)]
    refine retS_ok ?_
    simp only [fTup, fCons, bindM, fC, retM, hv, fNil, liftO]
    rfl
end Pr

set_option Elab.async false
set_option linter.all false
set_option maxRecDepth 100000
set_option maxHeartbeats 4000000
namespace Pr
open PySem L2 PD
abbrev knownD : D := .lst [.tup [.str (S "f"), .int 1], .tup [.str (S "g"), .int 2], .tup [.str (S "h"), .int 0]]
abbrev stC (a b : Int) : Cell := .lst [.int a, .int b]
/-- what is drawn as a body -/
def BodySpec (F : List D → M D) (m : Nat) : Prop := ∀ (s : Sto) (k : Nat) (a b many left : Int) (L : List Str), s[k]? = some (stC a b) → 0 ≤ many → left ≤ m → L.length = 4 → (∀ l ∈ L, OkS 13 l) →
  ∃ (T : Tr) (a' b' : Int), Ok (m + 1) T ∧ D.low 0 T.d = true ∧ F [.own k, .int many, knownD, .lst (L.map D.str), .int left] s = some (.ok T.d (s.set k (stC a' b')))
def FieldsSpec (F : List D → M D) (m : Nat) : Prop := ∀ (s : Sto) (k : Nat) (a b many left : Int) (L : List Str), s[k]? = some (stC a b) → 0 ≤ many → left ≤ m → L.length = 4 → (∀ l ∈ L, OkS 13 l) →
  ∃ (fs : List (Str × Tr)) (a' b' : Int), fs.length ≤ 3 ∧ (∀ f ∈ fs, OkS 13 f.1 ∧ Ok (m + 1) f.2 ∧ D.low 0 f.2.d = true) ∧ F [.own k, .int many, knownD, .lst (L.map D.str), .int left] s = some (.ok (.tup (fs.map fun f => .tup [.str f.1, f.2.d])) (s.set k (stC a' b')))
theorem len_set {s : Sto} {k : Nat} {c : Cell} : (s.set k c).length = s.length := List.length_set
/-- closing behind nothing but draws -/
theorem fin_set (s : Sto) (k : Nat) (a b : Int) (junk : Sto) (d : D) (h : D.low 0 d = true) (hn : ∀ k, d ≠ .own k) : closeM false s d (s.set k (stC a b) ++ junk) = some (.ok d (s.set k (stC a b))) :=
  closeM_low len_set (keeps_set rfl) (low_mono (Nat.zero_le _) d h) hn
theorem fin_set0 (s : Sto) (k : Nat) (a b : Int) (d : D) (h : D.low 0 d = true) (hn : ∀ k, d ≠ .own k) : closeM false s d (s.set k (stC a b)) = some (.ok d (s.set k (stC a b))) := by
  have := fin_set s k a b [] d h hn
  rw [List.append_nil] at this
  exact this
theorem lab_ix (L : List Str) (hL : L.length = 4) (s : Sto) (i : Int) (h0 : 0 ≤ i) (h4 : i < 4) : ∃ l, l ∈ L ∧ ixO s (.lst (L.map D.str)) (.int i) = some (.str l) := by
  obtain ⟨j, rfl⟩ : ∃ j : Nat, i = (j : Int) := ⟨i.toNat, by omega⟩
  have hj : j < L.length := by omega
  refine ⟨L[j], List.getElem_mem hj, ?_⟩
  show (seqOf s (.lst (L.map D.str))).bind (fun xs => atI xs (j : Int)) = _
  exact atI_nat (by rw [List.getElem?_map, List.getElem?_eq_getElem hj]; rfl)
theorem inFlat_strs (s : Sto) (l : Str) (xs : List Str) : inFlat s (.str l) (.lst (xs.map D.str)) = some (inV (.str l) (xs.map V.str)) := by
  have h : (xs.map D.str).mapM scD = some (xs.map V.str) := by
    induction xs with
    | nil => rfl
    | cons x r ih => rw [List.map_cons, List.mapM_cons, ih]; rfl
  have hf : (xs.map V.str).all flatV = true := by
    rw [List.all_map]
    exact List.all_eq_true.mpr fun _ _ => rfl
  unfold inFlat
  simp only [scD, seqOf, lsOf, Option.bind_some, h, hf, flatV, Bool.and_self, if_true]
theorem low_tups {n : Nat} (fs : List (Str × Tr)) (h : ∀ f ∈ fs, D.low n f.2.d = true) : D.lowAll n (fs.map fun f => .tup [.str f.1, f.2.d]) = true := by
  rw [lowAll_iff]
  intro d hd
  obtain ⟨f, hf, rfl⟩ := List.mem_map.mp hd
  show (true && (D.low n f.2.d && true)) = true
  rw [h f hf]
  rfl
/-- the fields, where the body's def keeps its word -/
theorem fields_ok {F G : List D → M D} {m : Nat} (hG : BodySpec G m) : FieldsSpec (fnD false 11 (g_fields F G)) m := by
  intro s k a b many left L hk hm hl hL hLok
  have e1 := next_eq s k a b hk
  have hN := next_nn a
  generalize hNe : (a * 48271 + 11) % 2147483647 / 7 = N at e1 hN
  generalize (a * 48271 + 11) % 2147483647 = a1 at e1
  have hk1 : (s.set k (stC a1 (b - 1)))[k]? = some (stC a1 (b - 1)) := set_at hk _
  have hsl : s.length = (s.set k (stC a1 (b - 1))).length := len_set.symm
  -- the slots
  let sl (x7 x8 x9 x10 : Option D) : Sl := [some (.own k), some (.int many), some knownD, some (.lst (L.map D.str)), some (.int left), some (.int N), some (.own s.length), x7, x8, x9, x10]
  have hloop := forL_inv (T := tdName 7) (a := (rangeD 0 (N % 4).toNat, none)) (g := (seqS (setS 8 (f2 addO (fC (.int 1)) (f2 mulO (fC (.int 2)) (f2 modO (f2 fdivO (fVar 5) (fC (.int 16))) (fC (.int 2))))))
    (seqS (setS 9 (f2 ixO (fVar 3) (f2 modO (f2 addO (f2 fdivO (fVar 5) (fC (.int 4))) (f2 mulO (fVar 7) (fVar 8))) (fN lenO (fCons (fVar 3) fNil)))))
    (ifS (fB (f2 (inO true) (fVar 9) (fLc (tdName 10) fYes (f2 ixO (fVar 10) (fC (.int 0))) (fIt (fVar 6)) [10]))) (exprS (fM1 appendM (fVar 6) (fCons (fTup (fCons (fVar 9) (fCons (fCall 5 G (fCons (fVar 0) (fCons (fVar 1) (fCons (fVar 2) (fCons (fVar 3) (fCons (fVar 4) fNil)))))) fNil))) fNil))) nextS))))
    (fun xs sl' st => ∃ (x7 x8 x9 x10 : Option D) (fs : List (Str × Tr)) (a' b' : Int), sl' = sl x7 x8 x9 x10 ∧ st = s.set k (stC a' b') ++ [.lst (fs.map fun f => .tup [.str f.1, f.2.d])] ∧ fs.length + xs.length ≤ 3 ∧
      (∀ f ∈ fs, OkS 13 f.1 ∧ Ok (m + 1) f.2 ∧ D.low 0 f.2.d = true) ∧ ∀ x ∈ xs, ∃ i : Int, x = .int i ∧ 0 ≤ i ∧ i < 4) ?_ (rangeD 0 (N % 4).toNat) (sl none none none none) (s.set k (stC a1 (b - 1)) ++ [.lst []])
      ⟨none, none, none, none, [], a1, b - 1, rfl, rfl, by unfold rangeD; simp; omega, (fun _ h => nomatch h), fun x hx => by
        unfold rangeD at hx
        obtain ⟨i, hi, rfl⟩ := List.mem_map.mp hx
        have := List.mem_range.mp hi
        exact ⟨_, rfl, by omega, by omega⟩⟩
  · obtain ⟨sl', st', el, x7, x8, x9, x10, fs, a', b', rfl, rfl, hlen, hok, _⟩ := hloop
    refine ⟨fs, a', b', by simpa using hlen, hok, ?_⟩
    refine fnD_rt (d := .tup (fs.map fun f => .tup [.str f.1, f.2.d])) (s' := s.set k (stC a' b') ++ [.lst (fs.map fun f => .tup [.str f.1, f.2.d])]) ?_ (fin_set _ _ _ _ _ (.tup _) (low_tups fs fun f hf => (hok f hf).2.2) (fun _ z => nomatch z))
    unfold g_fields
    show seqS _ _ [some (.own k), some (.int many), some knownD, some (.lst (L.map D.str)), some (.int left), none, none, none, none, none, none] s = _
    refine (seqS_nx (setS_ok (fCall_eq rfl rfl e1))).trans ?_
    rw [seqS_nx (setS_ok (d := .own s.length) (s' := s.set k (stC a1 (b - 1)) ++ [.lst []]) (by simp [seqS, setS, bindS, retS, retNS, exprS, ifS, asgS, setIxS, augS, augO, nextS, f1, f2, fN, bindM, liftO, retM, fVar, fC, fTup, fLst, fOwn, fCons, fNil, fB, fTru, fNot, fAnd, fOr, fAndV, fOrV, fIf, asB, truO, fCall, fM0, fM1, tdName, tdTup, tdCons, tdNil, small_of]))]
    have c4 : N % 4 < 2 ^ 62 ∧ -(2 ^ 62) ≤ N % 4 := by omega
    have hi : (fRng1 (f2 modO (fVar 5) (fC (.int 4)))) (sl none none none none) (s.set k (stC a1 (b - 1)) ++ [.lst []]) = some (.ok (rangeD 0 (N % 4).toNat, none) (s.set k (stC a1 (b - 1)) ++ [.lst []])) := by
      simp only [fRng1, seqS, setS, bindS, retS, retNS, exprS, ifS, asgS, setIxS, augS, augO, nextS, f1, f2, fN, bindM, liftO, retM, fVar, fC, fTup, fLst, fOwn, fCons, fNil, fB, fTru, fNot, fAnd, fOr, fAndV, fOrV, fIf, asB, truO, fCall, fM0, fM1, tdName, tdTup, tdCons, tdNil, sl, List.getElem?_cons_zero, List.getElem?_cons_succ, modO, show (0 : Int) < 4 by decide, if_true, rngO, if_pos c4]
    have hfor := (forS_of (T := tdName 7) (g := (seqS (setS 8 (f2 addO (fC (.int 1)) (f2 mulO (fC (.int 2)) (f2 modO (f2 fdivO (fVar 5) (fC (.int 16))) (fC (.int 2))))))
    (seqS (setS 9 (f2 ixO (fVar 3) (f2 modO (f2 addO (f2 fdivO (fVar 5) (fC (.int 4))) (f2 mulO (fVar 7) (fVar 8))) (fN lenO (fCons (fVar 3) fNil)))))
    (ifS (fB (f2 (inO true) (fVar 9) (fLc (tdName 10) fYes (f2 ixO (fVar 10) (fC (.int 0))) (fIt (fVar 6)) [10]))) (exprS (fM1 appendM (fVar 6) (fCons (fTup (fCons (fVar 9) (fCons (fCall 5 G (fCons (fVar 0) (fCons (fVar 1) (fCons (fVar 2) (fCons (fVar 3) (fCons (fVar 4) fNil)))))) fNil))) fNil))) nextS)))) hi (ck_none _ _)).trans el
    show seqS _ _ (sl none none none none) _ = _
    rw [seqS_nx hfor]
    refine retS_ok ?_
    have hat : (s.set k (stC a' b') ++ [.lst (fs.map fun f => D.tup [.str f.1, f.2.d])])[s.length]? = some (.lst (fs.map fun f => D.tup [.str f.1, f.2.d])) := by
      have := app_at (s.set k (stC a' b')) (.lst (fs.map fun f => D.tup [.str f.1, f.2.d])) []
      rw [len_set] at this
      exact this
    simp only [seqS, setS, bindS, retS, retNS, exprS, ifS, asgS, setIxS, augS, augO, nextS, f1, f2, fN, bindM, liftO, retM, fVar, fC, fTup, fLst, fOwn, fCons, fNil, fB, fTru, fNot, fAnd, fOr, fAndV, fOrV, fIf, asB, truO, fCall, fM0, fM1, tdName, tdTup, tdCons, tdNil, sl, List.getElem?_cons_zero, List.getElem?_cons_succ, tupleO, lsOf, hat, Option.map_some]
  · rintro x xs sl' st ⟨x7, x8, x9, x10, fs, a', b', rfl, rfl, hlen, hok, hx⟩
    obtain ⟨i, rfl, hi0, hi4⟩ := hx x List.mem_cons_self
    obtain ⟨l, hl1, hl2⟩ := lab_ix L hL (s.set k (stC a' b') ++ [.lst (fs.map fun f => D.tup [.str f.1, f.2.d])]) ((N / 4 + i * (1 + 2 * (N / 16 % 2))) % 4) (Int.emod_nonneg _ (by decide)) (Int.emod_lt_of_pos _ (by decide))
    have hka : (s.set k (stC a' b'))[k]? = some (stC a' b') := set_at hk _
    have hat : ∀ c, (s.set k (stC a' b') ++ [c])[s.length]? = some c := fun c => by
      have := app_at (s.set k (stC a' b')) c []
      rw [len_set] at this
      exact this
    have m1 : mulOk 2 (N / 16 % 2) = true := mulOk_l (by decide) (by decide)
    have m2 : mulOk i (1 + 2 * (N / 16 % 2)) = true := mulOk_l (by omega) (by omega)
    have hlenL : lenO (s.set k (stC a' b') ++ [.lst (fs.map fun f => D.tup [.str f.1, f.2.d])]) [.lst (L.map D.str)] = some (.int 4) := by
      show (some (L.map D.str)).map (fun xs => D.int (xs.length : Nat)) = _
      rw [Option.map_some, List.length_map, hL]
      rfl
    have step1 : (setS 8 (f2 addO (fC (.int 1)) (f2 mulO (fC (.int 2)) (f2 modO (f2 fdivO (fVar 5) (fC (.int 16))) (fC (.int 2)))))) (sl (some (.int i)) x8 x9 x10) (s.set k (stC a' b') ++ [.lst (fs.map fun f => D.tup [.str f.1, f.2.d])])
        = some (.nx (sl (some (.int i)) (some (.int (1 + 2 * (N / 16 % 2)))) x9 x10) (s.set k (stC a' b') ++ [.lst (fs.map fun f => D.tup [.str f.1, f.2.d])])) := by
      simp only [seqS, setS, bindS, retS, retNS, exprS, ifS, asgS, setIxS, augS, augO, nextS, f1, f2, fN, bindM, liftO, retM, fVar, fC, fTup, fLst, fOwn, fCons, fNil, fB, fTru, fNot, fAnd, fOr, fAndV, fOrV, fIf, asB, truO, fCall, fM0, fM1, tdName, tdTup, tdCons, tdNil, sl, List.getElem?_cons_zero, List.getElem?_cons_succ, fdivO, modO, mulO, addO, m1, show (0 : Int) < 16 ∧ (16 : Int) < 1073741824 by decide, show (0 : Int) < 2 by decide, and_self, if_true, List.set_cons_zero, List.set_cons_succ]
    have step2 : (setS 9 (f2 ixO (fVar 3) (f2 modO (f2 addO (f2 fdivO (fVar 5) (fC (.int 4))) (f2 mulO (fVar 7) (fVar 8))) (fN lenO (fCons (fVar 3) fNil))))) (sl (some (.int i)) (some (.int (1 + 2 * (N / 16 % 2)))) x9 x10) (s.set k (stC a' b') ++ [.lst (fs.map fun f => D.tup [.str f.1, f.2.d])])
        = some (.nx (sl (some (.int i)) (some (.int (1 + 2 * (N / 16 % 2)))) (some (.str l)) x10) (s.set k (stC a' b') ++ [.lst (fs.map fun f => D.tup [.str f.1, f.2.d])])) := by
      simp only [seqS, setS, bindS, retS, retNS, exprS, ifS, asgS, setIxS, augS, augO, nextS, f1, f2, fN, bindM, liftO, retM, fVar, fC, fTup, fLst, fOwn, fCons, fNil, fB, fTru, fNot, fAnd, fOr, fAndV, fOrV, fIf, asB, truO, fCall, fM0, fM1, tdName, tdTup, tdCons, tdNil, sl, List.getElem?_cons_zero, List.getElem?_cons_succ, fdivO, modO, mulO, addO, m2, show (0 : Int) < 4 ∧ (4 : Int) < 1073741824 by decide, show (0 : Int) < 4 by decide, and_self, if_true, hlenL, hl2, List.set_cons_zero, List.set_cons_succ]
    have hcomp : (fLc (tdName 10) fYes (f2 ixO (fVar 10) (fC (.int 0))) (fIt (fVar 6)) [10]) (sl (some (.int i)) (some (.int (1 + 2 * (N / 16 % 2)))) (some (.str l)) x10) (s.set k (stC a' b') ++ [.lst (fs.map fun f => D.tup [.str f.1, f.2.d])])
        = some (.ok (.lst ((fs.map (·.1)).map D.str)) (s.set k (stC a' b') ++ [.lst (fs.map fun f => D.tup [.str f.1, f.2.d])])) := by
      refine fLc_of (a := (fs.map fun f => D.tup [.str f.1, f.2.d], some s.length)) ?_ (hat _) ?_ (by simp at hlen ⊢; omega)
      · simp only [fIt, fVar, bindM, sl, List.getElem?_cons_zero, List.getElem?_cons_succ, liftO, seqIt, itO, hat]
      · have := lcL_map (T := tdName 10) (u := fYes) (f := (f2 ixO (fVar 10) (fC (.int 0)))) (a := (fs.map fun f => D.tup [.str f.1, f.2.d], some s.length)) (sl := wipeS (sl (some (.int i)) (some (.int (1 + 2 * (N / 16 % 2)))) (some (.str l)) x10) [10])
          (s := s.set k (stC a' b') ++ [.lst (fs.map fun f => D.tup [.str f.1, f.2.d])]) (fun d => match d with | .tup (x :: _) => x | _ => .non) (hat _) (fs.map fun f => D.tup [.str f.1, f.2.d]) (fun x hx => by
            obtain ⟨f, _, rfl⟩ := List.mem_map.mp hx
            refine ⟨_, rfl, rfl, ?_⟩
            simp [seqS, setS, bindS, retS, retNS, exprS, ifS, asgS, setIxS, augS, augO, nextS, f1, f2, fN, bindM, liftO, retM, fVar, fC, fTup, fLst, fOwn, fCons, fNil, fB, fTru, fNot, fAnd, fOr, fAndV, fOrV, fIf, asB, truO, fCall, fM0, fM1, tdName, tdTup, tdCons, tdNil, sl, wipeS, ixO, seqOf, atI, ixN])
        refine this.trans ?_
        rw [List.map_map, List.map_map]
        rfl
    have hin := inFlat_strs (s.set k (stC a' b') ++ [.lst (fs.map fun f => D.tup [.str f.1, f.2.d])]) l (fs.map (·.1))
    have htest : (fB (f2 (inO true) (fVar 9) (fLc (tdName 10) fYes (f2 ixO (fVar 10) (fC (.int 0))) (fIt (fVar 6)) [10]))) (sl (some (.int i)) (some (.int (1 + 2 * (N / 16 % 2)))) (some (.str l)) x10) (s.set k (stC a' b') ++ [.lst (fs.map fun f => D.tup [.str f.1, f.2.d])])
        = some (.ok (!inV (.str l) ((fs.map (·.1)).map V.str)) (s.set k (stC a' b') ++ [.lst (fs.map fun f => D.tup [.str f.1, f.2.d])])) := by
      have h9 : (fVar 9) (sl (some (.int i)) (some (.int (1 + 2 * (N / 16 % 2)))) (some (.str l)) x10) (s.set k (stC a' b') ++ [.lst (fs.map fun f => D.tup [.str f.1, f.2.d])]) = some (.ok (.str l) (s.set k (stC a' b') ++ [.lst (fs.map fun f => D.tup [.str f.1, f.2.d])])) := rfl
      simp only [fB, f2, bindM, h9, hcomp, liftO, inO, hin, ng, asB]
    rw [show tdName 7 (.int i) (sl x7 x8 x9 x10) = some (sl (some (.int i)) x8 x9 x10) from rfl]
    cases hb : inV (.str l) ((fs.map (·.1)).map V.str) with
    | true =>
      rw [hb] at htest
      refine ⟨_, _, _, rfl, (seqS_nx step1).trans ((seqS_nx step2).trans (ifS_f htest)), ck_none _ _, _, _, _, _, fs, a', b', rfl, rfl, by simp at hlen ⊢; omega, hok, fun w hw => hx w (List.mem_cons_of_mem _ hw)⟩
    | false =>
      rw [hb] at htest
      obtain ⟨T, a2, b2, hT, hlow, eT⟩ := hG (s.set k (stC a' b') ++ [.lst (fs.map fun f => D.tup [.str f.1, f.2.d])]) k a' b' many left L (app_old hka _) hm hl hL hLok
      rw [app_oldset hka, List.set_set] at eT
      refine ⟨_, _, _, rfl, (seqS_nx step1).trans ((seqS_nx step2).trans ((ifS_t htest).trans (exprS_ok (d := .non) (s' := s.set k (stC a2 b2) ++ [.lst ((fs ++ [(l, T)]).map fun f => D.tup [.str f.1, f.2.d])]) ?_))), ck_none _ _, _, _, _, _, fs ++ [(l, T)], a2, b2, rfl, rfl, by simp at hlen ⊢; omega, fun f hf => ?_, fun w hw => hx w (List.mem_cons_of_mem _ hw)⟩
      · have hcall : (fCall 5 G (fCons (fVar 0) (fCons (fVar 1) (fCons (fVar 2) (fCons (fVar 3) (fCons (fVar 4) fNil)))))) (sl (some (.int i)) (some (.int (1 + 2 * (N / 16 % 2)))) (some (.str l)) x10) (s.set k (stC a' b') ++ [.lst (fs.map fun f => D.tup [.str f.1, f.2.d])])
            = some (.ok T.d (s.set k (stC a2 b2) ++ [.lst (fs.map fun f => D.tup [.str f.1, f.2.d])])) := fCall_eq rfl rfl eT
        have hat2 : ∀ c, (s.set k (stC a2 b2) ++ [c])[s.length]? = some c := fun c => by
          have := app_at (s.set k (stC a2 b2)) c []
          rw [len_set] at this
          exact this
        have hset2 : ∀ c d, (s.set k (stC a2 b2) ++ [c]).set s.length d = s.set k (stC a2 b2) ++ [d] := fun c d => by
          have := app_set (s.set k (stC a2 b2)) c d []
          rw [len_set] at this
          exact this
        have hsm : small ((fs.map fun f => D.tup [.str f.1, f.2.d]).length + 1) = true := small_of (by simp at hlen ⊢; omega)
        have h6 : (fVar 6) (sl (some (.int i)) (some (.int (1 + 2 * (N / 16 % 2)))) (some (.str l)) x10) (s.set k (stC a' b') ++ [.lst (fs.map fun f => D.tup [.str f.1, f.2.d])]) = some (.ok (.own s.length) (s.set k (stC a' b') ++ [.lst (fs.map fun f => D.tup [.str f.1, f.2.d])])) := rfl
        have h9 : (fVar 9) (sl (some (.int i)) (some (.int (1 + 2 * (N / 16 % 2)))) (some (.str l)) x10) (s.set k (stC a' b') ++ [.lst (fs.map fun f => D.tup [.str f.1, f.2.d])]) = some (.ok (.str l) (s.set k (stC a' b') ++ [.lst (fs.map fun f => D.tup [.str f.1, f.2.d])])) := rfl
        simp only [fM1, bindM, h6, h9, liftO, lsOf, hat, Option.map_some, fCons, fTup, hcall, fNil, retM, appendM, hat2, hset2, hsm, if_true, List.map_append, List.map_cons, List.map_nil, show small ([D.str l, T.d] : List D).length = true from (by decide : small 2 = true)]
      · rcases List.mem_append.mp hf with h | h
        · exact hok f h
        · rw [List.mem_singleton.mp h]; exact ⟨hLok l hl1, hT, hlow⟩
end Pr

set_option Elab.async false
set_option linter.all false
set_option maxRecDepth 100000
set_option maxHeartbeats 4000000
namespace Pr
open PySem L2 PD
theorem Ok.mono {m n : Nat} {T : Tr} (h : Ok m T) (hn : m ≤ n) : Ok n T := by
  induction h generalizing n with
  | mk hf hk hl ih =>
    obtain ⟨j, rfl⟩ : ∃ j, n = j + 1 := ⟨n - 1, by omega⟩
    exact .mk hf (fun k hk' => ih k hk' (by omega)) hl
abbrev argB : Sl → M (List D) := fCons (fVar 0) (fCons (fVar 1) (fCons (fVar 2) (fCons (fVar 3) (fCons (f2 subO (fVar 4) (fC (.int 1))) fNil))))
theorem known_ne (s : Sto) : eqO true s knownD (.lst []) = some (.bl true) := by
  have h1 : plainPy s knownD = some (py knownD) := if_pos (by decide +kernel : (D.low 0 knownD && SeqAt.shaped (py knownD)) = true)
  have h2 : plainPy s (.lst []) = some (.list []) := if_pos (by decide +kernel : (D.low 0 (.lst []) && SeqAt.shaped (.list [])) = true)
  have h3 : PyData.eqv (py knownD) (.list []) = false := by decide +kernel
  simp only [eqO, eqBo, scD, deepB, h1, h2, h3, Option.map_some, ng]
  rfl
theorem okS (x : String) (h : (decide ((S x).length ≤ 13) && (S x).cps.toList.all (· < 1114112)) = true) : OkS 13 (S x) := by
  have h' := Bool.and_eq_true_iff.mp h
  exact ⟨of_decide_eq_true h'.1, fun c hc => by simpa using List.all_eq_true.mp h'.2 c hc⟩
theorem known_at (s : Sto) (i : Int) (h0 : 0 ≤ i) (h3 : i < 3) : ∃ (nm : Str) (sz : Int), OkS 13 nm ∧ 0 ≤ sz ∧ sz ≤ 2 ∧ ixO s knownD (.int i) = some (.tup [.str nm, .int sz]) := by
  have c : i = 0 ∨ i = 1 ∨ i = 2 := by omega
  rcases c with rfl | rfl | rfl
  · exact ⟨S "f", 1, okS _ (by decide +kernel), by decide, by decide, rfl⟩
  · exact ⟨S "g", 2, okS _ (by decide +kernel), by decide, by decide, rfl⟩
  · exact ⟨S "h", 0, okS _ (by decide +kernel), by decide, by decide, rfl⟩
theorem low_ds {n : Nat} (Ts : List Tr) (h : ∀ T ∈ Ts, D.low n T.d = true) : D.lowAll n (Ts.map Tr.d) = true := by
  rw [lowAll_iff]
  intro d hd
  obtain ⟨T, hT, rfl⟩ := List.mem_map.mp hd
  exact h T hT
theorem body_ok {F G : List D → M D} {m : Nat} (hG : ∀ j, j + 1 = m → BodySpec G j) (hF : ∀ j, j + 1 = m → FieldsSpec F j) : BodySpec (fnD false 15 (g_body F G)) m := by
  intro s k a b many left L hk hm hl hL hLok
  have e1 := next_eq s k a b hk
  have hN := next_nn a
  generalize hNe : (a * 48271 + 11) % 2147483647 / 7 = N at e1 hN
  generalize (a * 48271 + 11) % 2147483647 = a1 at e1
  have hk1 : ∀ x y, (s.set k (stC x y))[k]? = some (stC x y) := fun x y => set_at hk _
  obtain ⟨l, hl1, hl2⟩ := lab_ix L hL (s.set k (stC a1 (b - 1))) (N / 14 % 4) (Int.emod_nonneg _ (by decide)) (Int.emod_lt_of_pos _ (by decide))
  have hlenL : lenO (s.set k (stC a1 (b - 1))) [.lst (L.map D.str)] = some (.int 4) := by
    show (some (L.map D.str)).map (fun xs => D.int (xs.length : Nat)) = _
    rw [Option.map_some, List.length_map, hL]
    rfl
  let sl (x9 x10 x11 x12 x13 x14 : Option D) : Sl := [some (.own k), some (.int many), some knownD, some (.lst (L.map D.str)), some (.int left), some (.int N), some (.int (N % 14)), some (.int (N / 14)), some (.str l), x9, x10, x11, x12, x13, x14]
  -- a body within
  have sub : 1 < left → ∀ (x9 x10 x11 x12 x13 x14 : Option D) (x y : Int), ∃ (T : Tr) (a' b' : Int), Ok m T ∧ D.low 0 T.d = true ∧ fCall 5 G argB (sl x9 x10 x11 x12 x13 x14) (s.set k (stC x y)) = some (.ok T.d (s.set k (stC a' b'))) := by
    intro h1 x9 x10 x11 x12 x13 x14 x y
    obtain ⟨j, rfl⟩ : ∃ j, m = j + 1 := ⟨m - 1, by omega⟩
    obtain ⟨T, a', b', hT, hlow, e⟩ := hG j rfl (s.set k (stC x y)) k x y many (left - 1) L (hk1 x y) hm (by omega) hL hLok
    rw [List.set_set] at e
    exact ⟨T, a', b', hT, hlow, fCall_eq rfl rfl e⟩
  have subF : 1 < left → ∀ (x9 x10 x11 x12 x13 x14 : Option D) (x y : Int), ∃ (fs : List (Str × Tr)) (a' b' : Int), fs.length ≤ 3 ∧ (∀ f ∈ fs, OkS 13 f.1 ∧ Ok m f.2 ∧ D.low 0 f.2.d = true) ∧
      fCall 5 F argB (sl x9 x10 x11 x12 x13 x14) (s.set k (stC x y)) = some (.ok (.tup (fs.map fun f => .tup [.str f.1, f.2.d])) (s.set k (stC a' b'))) := by
    intro h1 x9 x10 x11 x12 x13 x14 x y
    obtain ⟨j, rfl⟩ : ∃ j, m = j + 1 := ⟨m - 1, by omega⟩
    obtain ⟨fs, a', b', h3, hok, e⟩ := hF j rfl (s.set k (stC x y)) k x y many (left - 1) L (hk1 x y) hm (by omega) hL hLok
    rw [List.set_set] at e
    exact ⟨fs, a', b', h3, hok, fCall_eq rfl rfl e⟩
  have small23 : small 2 = true ∧ small 3 = true ∧ small 4 = true := by decide
  suffices main : ∃ (T : Tr) (a' b' : Int), Ok (m + 1) T ∧ D.low 0 T.d = true ∧ (∀ k, T.d ≠ .own k) ∧ g_body F G [some (.own k), some (.int many), some knownD, some (.lst (L.map D.str)), some (.int left), none, none, none, none, none, none, none, none, none, none] s = some (.rt T.d (s.set k (stC a' b'))) by
    obtain ⟨T, a', b', h1, h2, h3, h4⟩ := main
    exact ⟨T, a', b', h1, h2, fnD_rt h4 (fin_set0 _ _ _ _ _ h2 h3)⟩
  have st1 : ∀ g2, seqS (setS 5 (fCall 1 D_next (fCons (fVar 0) fNil))) g2 [some (.own k), some (.int many), some knownD, some (.lst (L.map D.str)), some (.int left), none, none, none, none, none, none, none, none, none, none] s
      = g2 [some (.own k), some (.int many), some knownD, some (.lst (L.map D.str)), some (.int left), some (.int N), none, none, none, none, none, none, none, none, none] (s.set k (stC a1 (b - 1))) := fun g2 => seqS_nx (setS_ok (fCall_eq rfl rfl e1))
  have st2 : ∀ g2, seqS (setS 6 (f2 modO (fVar 5) (fC (.int 14)))) g2 [some (.own k), some (.int many), some knownD, some (.lst (L.map D.str)), some (.int left), some (.int N), none, none, none, none, none, none, none, none, none] (s.set k (stC a1 (b - 1)))
      = g2 [some (.own k), some (.int many), some knownD, some (.lst (L.map D.str)), some (.int left), some (.int N), some (.int (N % 14)), none, none, none, none, none, none, none, none] (s.set k (stC a1 (b - 1))) := fun g2 => seqS_nx (setS_ok (by simp [seqS, setS, bindS, retS, retNS, exprS, ifS, asgS, setIxS, augS, augO, nextS, f1, f2, fN, bindM, liftO, retM, fVar, fC, fTup, fLst, fOwn, fCons, fNil, fB, fTru, fNot, fAnd, fOr, fAndV, fOrV, fIf, asB, truO, fCall, fM0, fM1, tdName, tdTup, tdCons, tdNil, modO]))
  have st3 : ∀ g2, seqS (setS 7 (f2 fdivO (fVar 5) (fC (.int 14)))) g2 [some (.own k), some (.int many), some knownD, some (.lst (L.map D.str)), some (.int left), some (.int N), some (.int (N % 14)), none, none, none, none, none, none, none, none] (s.set k (stC a1 (b - 1)))
      = g2 [some (.own k), some (.int many), some knownD, some (.lst (L.map D.str)), some (.int left), some (.int N), some (.int (N % 14)), some (.int (N / 14)), none, none, none, none, none, none, none] (s.set k (stC a1 (b - 1))) := fun g2 => seqS_nx (setS_ok (by simp [seqS, setS, bindS, retS, retNS, exprS, ifS, asgS, setIxS, augS, augO, nextS, f1, f2, fN, bindM, liftO, retM, fVar, fC, fTup, fLst, fOwn, fCons, fNil, fB, fTru, fNot, fAnd, fOr, fAndV, fOrV, fIf, asB, truO, fCall, fM0, fM1, tdName, tdTup, tdCons, tdNil, fdivO]))
  have st4 : ∀ g2, seqS (setS 8 (f2 ixO (fVar 3) (f2 modO (fVar 7) (fN lenO (fCons (fVar 3) fNil))))) g2 [some (.own k), some (.int many), some knownD, some (.lst (L.map D.str)), some (.int left), some (.int N), some (.int (N % 14)), some (.int (N / 14)), none, none, none, none, none, none, none] (s.set k (stC a1 (b - 1)))
      = g2 (sl none none none none none none) (s.set k (stC a1 (b - 1))) := fun g2 => seqS_nx (setS_ok (by simp [seqS, setS, bindS, retS, retNS, exprS, ifS, asgS, setIxS, augS, augO, nextS, f1, f2, fN, bindM, liftO, retM, fVar, fC, fTup, fLst, fOwn, fCons, fNil, fB, fTru, fNot, fAnd, fOr, fAndV, fOrV, fIf, asB, truO, fCall, fM0, fM1, tdName, tdTup, tdCons, tdNil, modO, hlenL, hl2]))
  unfold g_body
  simp only [st1, st2, st3, st4]
  have p14 := Int.emod_nonneg N (show (14 : Int) ≠ 0 by decide)
  have q14 := Int.emod_lt_of_pos N (show (0 : Int) < 14 by decide)
  have hst : lsOf (s.set k (stC a1 (b - 1))) (.own k) = some [.int a1, .int (b - 1)] := by
    simp only [lsOf, hk1]
  -- a leaf
  by_cases cA : left ≤ 1 ∨ b - 1 ≤ 0 ∨ N % 14 < 2
  · have tA : (fOr (fB (f2 leO (fVar 4) (fC (.int 1)))) (fOr (fB (f2 leO (f2 ixO (fVar 0) (fC (.int 1))) (fC (.int 0)))) (fB (f2 ltO (fVar 6) (fC (.int 2)))))) (sl none none none none none none) (s.set k (stC a1 (b - 1))) = some (.ok true (s.set k (stC a1 (b - 1)))) := by
      by_cases c1 : left ≤ 1
      · simp [seqS, setS, bindS, retS, retNS, exprS, ifS, asgS, setIxS, augS, augO, nextS, f1, f2, fN, bindM, liftO, retM, fVar, fC, fTup, fLst, fOwn, fCons, fNil, fB, fTru, fNot, fAnd, fOr, fAndV, fOrV, fIf, asB, truO, fCall, fM0, fM1, tdName, tdTup, tdCons, tdNil, sl, leO, c1]
      · by_cases c2 : b - 1 ≤ 0
        · simp [seqS, setS, bindS, retS, retNS, exprS, ifS, asgS, setIxS, augS, augO, nextS, f1, f2, fN, bindM, liftO, retM, fVar, fC, fTup, fLst, fOwn, fCons, fNil, fB, fTru, fNot, fAnd, fOr, fAndV, fOrV, fIf, asB, truO, fCall, fM0, fM1, tdName, tdTup, tdCons, tdNil, sl, leO, c1, ixO, seqOf, hst, atI, ixN, c2]
        · have c3 : N % 14 < 2 := by omega
          simp [seqS, setS, bindS, retS, retNS, exprS, ifS, asgS, setIxS, augS, augO, nextS, f1, f2, fN, bindM, liftO, retM, fVar, fC, fTup, fLst, fOwn, fCons, fNil, fB, fTru, fNot, fAnd, fOr, fAndV, fOrV, fIf, asB, truO, fCall, fM0, fM1, tdName, tdTup, tdCons, tdNil, sl, leO, ltO, c1, ixO, seqOf, hst, atI, ixN, c2, c3]
    obtain ⟨d, hd, hlow, e⟩ := leaf_eq (N / 14) many (s.set k (stC a1 (b - 1))) hm
    refine ⟨.node d [], a1, b - 1, Ok.leaf hd m, hlow, fun k z => ?_, seqS_rt ((ifS_t tA).trans (retS_ok (fCall_eq rfl rfl e)))⟩
    have z' : d = .own k := z
    subst z'
    cases hd
  have c1 : ¬ left ≤ 1 := fun h => cA (.inl h)
  have c2 : ¬ b - 1 ≤ 0 := fun h => cA (.inr (.inl h))
  have c3 : ¬ N % 14 < 2 := fun h => cA (.inr (.inr h))
  have h1 : 1 < left := by omega
  have tA : (fOr (fB (f2 leO (fVar 4) (fC (.int 1)))) (fOr (fB (f2 leO (f2 ixO (fVar 0) (fC (.int 1))) (fC (.int 0)))) (fB (f2 ltO (fVar 6) (fC (.int 2)))))) (sl none none none none none none) (s.set k (stC a1 (b - 1))) = some (.ok false (s.set k (stC a1 (b - 1)))) := by
    simp [seqS, setS, bindS, retS, retNS, exprS, ifS, asgS, setIxS, augS, augO, nextS, f1, f2, fN, bindM, liftO, retM, fVar, fC, fTup, fLst, fOwn, fCons, fNil, fB, fTru, fNot, fAnd, fOr, fAndV, fOrV, fIf, asB, truO, fCall, fM0, fM1, tdName, tdTup, tdCons, tdNil, sl, leO, ltO, c1, ixO, seqOf, hst, atI, ixN, c2, c3]
  have stA : ∀ g1 g2, seqS (ifS (fOr (fB (f2 leO (fVar 4) (fC (.int 1)))) (fOr (fB (f2 leO (f2 ixO (fVar 0) (fC (.int 1))) (fC (.int 0)))) (fB (f2 ltO (fVar 6) (fC (.int 2)))))) g1 nextS) g2 (sl none none none none none none) (s.set k (stC a1 (b - 1))) = g2 (sl none none none none none none) (s.set k (stC a1 (b - 1))) := fun g1 g2 => seqS_nx ((ifS_f tA).trans rfl)
  simp only [stA]
  -- a call
  by_cases cB : 7 < N % 14 ∧ left = 6
  · have tB : (fAnd (fB (f2 gtO (fVar 6) (fC (.int 7)))) (fAnd (fB (f2 (eqO true) (fVar 2) (fLst fNil))) (fB (f2 (eqO false) (fVar 4) (fC (.int 6)))))) (sl none none none none none none) (s.set k (stC a1 (b - 1))) = some (.ok true (s.set k (stC a1 (b - 1)))) := by
      have kn := known_ne (s.set k (stC a1 (b - 1)))
      simp [seqS, setS, bindS, retS, retNS, exprS, ifS, asgS, setIxS, augS, augO, nextS, f1, f2, fN, bindM, liftO, retM, fVar, fC, fTup, fLst, fOwn, fCons, fNil, fB, fTru, fNot, fAnd, fOr, fAndV, fOrV, fIf, asB, truO, fCall, fM0, fM1, tdName, tdTup, tdCons, tdNil, sl, gtO, cB.1, kn, small, eqO_int, cB.2, ng]
    obtain ⟨nm, sz, onm, sz0, sz2, eit⟩ := known_at (s.set k (stC a1 (b - 1))) (N / 14 % 3) (Int.emod_nonneg _ (by decide)) (Int.emod_lt_of_pos _ (by decide))
    have hlen3 : lenO (s.set k (stC a1 (b - 1))) [knownD] = some (.int 3) := rfl
    have sB1 : (asgS (tdTup (tdCons (tdName 9) (tdCons (tdName 10) tdNil))) (f2 ixO (fVar 2) (f2 modO (fVar 7) (fN lenO (fCons (fVar 2) fNil))))) (sl none none none none none none) (s.set k (stC a1 (b - 1)))
        = some (.nx (sl (some (.str nm)) (some (.int sz)) none none none none) (s.set k (stC a1 (b - 1)))) := by
      simp only [seqS, setS, bindS, retS, retNS, exprS, ifS, asgS, setIxS, augS, augO, nextS, f1, f2, fN, bindM, liftO, retM, fVar, fC, fTup, fLst, fOwn, fCons, fNil, fB, fTru, fNot, fAnd, fOr, fAndV, fOrV, fIf, asB, truO, fCall, fM0, fM1, tdName, tdTup, tdCons, tdNil, sl, List.getElem?_cons_zero, List.getElem?_cons_succ, hlen3, modO, show (0 : Int) < 3 by decide, if_true, eit, List.set_cons_zero, List.set_cons_succ]
    have c62 : sz < 2 ^ 62 ∧ -(2 ^ 62) ≤ sz := by omega
    have hr : fRng1 (fVar 10) (sl (some (.str nm)) (some (.int sz)) none none none none) (s.set k (stC a1 (b - 1))) = some (.ok (rangeD 0 sz.toNat, none) (s.set k (stC a1 (b - 1)))) := by
      simp only [fRng1, fVar, bindM, sl, List.getElem?_cons_zero, List.getElem?_cons_succ, liftO, rngO, if_pos c62]
    obtain ⟨ys, s', el, Ts, a', b', hys, rfl, hTs, _⟩ := lcL_inv (T := tdName 12) (u := fYes) (f := fCall 5 G argB) (a := (rangeD 0 sz.toNat, none)) (sl := wipeS (sl (some (.str nm)) (some (.int sz)) none none none none) [12])
      (fun xs acc st => ∃ (Ts : List Tr) (a' b' : Int), acc = Ts.map Tr.d ∧ st = s.set k (stC a' b') ∧ (∀ T ∈ Ts, Ok m T ∧ D.low 0 T.d = true) ∧ Ts.length + xs.length = sz.toNat)
      (fun x xs acc st ⟨Ts, a', b', e1, e2, h, hn⟩ => by
        obtain ⟨T, a2, b2, hT, hlow, e⟩ := sub h1 (some (.str nm)) (some (.int sz)) none (some x) none none a' b'
        subst e1 e2
        refine ⟨_, _, _, rfl, rfl, e, ck_none _ _, Ts ++ [T], a2, b2, by simp, rfl, fun W hW => ?_, by simp at hn ⊢; omega⟩
        rcases List.mem_append.mp hW with q | q
        · exact h W q
        · rw [List.mem_singleton.mp q]; exact ⟨hT, hlow⟩) (rangeD 0 sz.toNat) [] (s.set k (stC a1 (b - 1))) ⟨[], a1, b - 1, rfl, rfl, (fun _ h => nomatch h), by unfold rangeD; simp⟩
    rw [List.nil_append] at hys
    subst hys
    have hTl : Ts.length ≤ 2 := by
      rename_i q
      simp at q
      omega
    have hLc := fLc_of (T := tdName 12) (u := fYes) (f := fCall 5 G argB) (vs := [12]) hr (ck_none _ _) el (by rw [List.length_map]; omega)
    refine ⟨.node (.tup [.str (S "call"), .str nm, .tup (Ts.map Tr.d)]) Ts, a', b', .mk (.call nm _ onm) (fun T hT => (hTs T hT).1) (by omega), ?_, (fun _ z => nomatch z), seqS_rt ((ifS_t tB).trans ((seqS_nx sB1).trans ((seqS_nx (setS_ok hLc)).trans (retS_ok ?_))))⟩
    · show (true && (true && (D.lowAll 0 (Ts.map Tr.d) && true))) = true
      rw [low_ds Ts fun T hT => (hTs T hT).2]
      rfl
    · simp [seqS, setS, bindS, retS, retNS, exprS, ifS, asgS, setIxS, augS, augO, nextS, f1, f2, fN, bindM, liftO, retM, fVar, fC, fTup, fLst, fOwn, fCons, fNil, fB, fTru, fNot, fAnd, fOr, fAndV, fOrV, fIf, asB, truO, fCall, fM0, fM1, tdName, tdTup, tdCons, tdNil, sl, tupleO, lsOf, small, Tr.d]
  have tB : (fAnd (fB (f2 gtO (fVar 6) (fC (.int 7)))) (fAnd (fB (f2 (eqO true) (fVar 2) (fLst fNil))) (fB (f2 (eqO false) (fVar 4) (fC (.int 6)))))) (sl none none none none none none) (s.set k (stC a1 (b - 1))) = some (.ok false (s.set k (stC a1 (b - 1)))) := by
    have kn := known_ne (s.set k (stC a1 (b - 1)))
    by_cases d1 : 7 < N % 14
    · have d2 : ¬ left = 6 := fun h => cB ⟨d1, h⟩
      simp [seqS, setS, bindS, retS, retNS, exprS, ifS, asgS, setIxS, augS, augO, nextS, f1, f2, fN, bindM, liftO, retM, fVar, fC, fTup, fLst, fOwn, fCons, fNil, fB, fTru, fNot, fAnd, fOr, fAndV, fOrV, fIf, asB, truO, fCall, fM0, fM1, tdName, tdTup, tdCons, tdNil, sl, gtO, d1, kn, small, eqO_int, d2, ng]
    · simp [seqS, setS, bindS, retS, retNS, exprS, ifS, asgS, setIxS, augS, augO, nextS, f1, f2, fN, bindM, liftO, retM, fVar, fC, fTup, fLst, fOwn, fCons, fNil, fB, fTru, fNot, fAnd, fOr, fAndV, fOrV, fIf, asB, truO, fCall, fM0, fM1, tdName, tdTup, tdCons, tdNil, sl, gtO, d1]
  have stB : ∀ g1 g2, seqS (ifS (fAnd (fB (f2 gtO (fVar 6) (fC (.int 7)))) (fAnd (fB (f2 (eqO true) (fVar 2) (fLst fNil))) (fB (f2 (eqO false) (fVar 4) (fC (.int 6)))))) g1 nextS) g2 (sl none none none none none none) (s.set k (stC a1 (b - 1))) = g2 (sl none none none none none none) (s.set k (stC a1 (b - 1))) := fun g1 g2 => seqS_nx ((ifS_f tB).trans rfl)
  simp only [stB]
  -- get
  by_cases cC : N % 14 < 5 ∨ 11 < N % 14
  · have tC : (fOr (fB (f2 ltO (fVar 6) (fC (.int 5)))) (fB (f2 gtO (fVar 6) (fC (.int 11))))) (sl none none none none none none) (s.set k (stC a1 (b - 1))) = some (.ok true (s.set k (stC a1 (b - 1)))) := by
      by_cases d1 : N % 14 < 5
      · simp [seqS, setS, bindS, retS, retNS, exprS, ifS, asgS, setIxS, augS, augO, nextS, f1, f2, fN, bindM, liftO, retM, fVar, fC, fTup, fLst, fOwn, fCons, fNil, fB, fTru, fNot, fAnd, fOr, fAndV, fOrV, fIf, asB, truO, fCall, fM0, fM1, tdName, tdTup, tdCons, tdNil, sl, ltO, d1]
      · have d2 : 11 < N % 14 := by omega
        simp [seqS, setS, bindS, retS, retNS, exprS, ifS, asgS, setIxS, augS, augO, nextS, f1, f2, fN, bindM, liftO, retM, fVar, fC, fTup, fLst, fOwn, fCons, fNil, fB, fTru, fNot, fAnd, fOr, fAndV, fOrV, fIf, asB, truO, fCall, fM0, fM1, tdName, tdTup, tdCons, tdNil, sl, ltO, gtO, d1, d2]
    obtain ⟨T, a', b', hT, hlow, e⟩ := sub h1 none none none none none none a1 (b - 1)
    refine ⟨.node (.tup [.str (S "get"), T.d, .str l]) [T], a', b', .mk (.get _ l (hLok l hl1)) (fun W hW => by rw [List.mem_singleton.mp hW]; exact hT) (by simp), ?_, (fun _ z => nomatch z), seqS_rt ((ifS_t tC).trans (retS_ok ?_))⟩
    · show (true && (D.low 0 T.d && (true && true))) = true
      rw [hlow]; rfl
    · simp only [fTup, fCons, fC, bindM, retM, e, fNil, fVar, sl, List.getElem?_cons_zero, List.getElem?_cons_succ, liftO]
      rfl
  have tC : (fOr (fB (f2 ltO (fVar 6) (fC (.int 5)))) (fB (f2 gtO (fVar 6) (fC (.int 11))))) (sl none none none none none none) (s.set k (stC a1 (b - 1))) = some (.ok false (s.set k (stC a1 (b - 1)))) := by
    have d1 : ¬ N % 14 < 5 := fun h => cC (.inl h)
    have d2 : ¬ 11 < N % 14 := fun h => cC (.inr h)
    simp [seqS, setS, bindS, retS, retNS, exprS, ifS, asgS, setIxS, augS, augO, nextS, f1, f2, fN, bindM, liftO, retM, fVar, fC, fTup, fLst, fOwn, fCons, fNil, fB, fTru, fNot, fAnd, fOr, fAndV, fOrV, fIf, asB, truO, fCall, fM0, fM1, tdName, tdTup, tdCons, tdNil, sl, ltO, gtO, d1, d2]
  have stC' : ∀ g1 g2, seqS (ifS (fOr (fB (f2 ltO (fVar 6) (fC (.int 5)))) (fB (f2 gtO (fVar 6) (fC (.int 11))))) g1 nextS) g2 (sl none none none none none none) (s.set k (stC a1 (b - 1))) = g2 (sl none none none none none none) (s.set k (stC a1 (b - 1))) := fun g1 g2 => seqS_nx ((ifS_f tC).trans rfl)
  simp only [stC']
  -- put
  by_cases cD : N % 14 < 7
  · have tD : (fB (f2 ltO (fVar 6) (fC (.int 7)))) (sl none none none none none none) (s.set k (stC a1 (b - 1))) = some (.ok true (s.set k (stC a1 (b - 1)))) := by
      simp [seqS, setS, bindS, retS, retNS, exprS, ifS, asgS, setIxS, augS, augO, nextS, f1, f2, fN, bindM, liftO, retM, fVar, fC, fTup, fLst, fOwn, fCons, fNil, fB, fTru, fNot, fAnd, fOr, fAndV, fOrV, fIf, asB, truO, fCall, fM0, fM1, tdName, tdTup, tdCons, tdNil, sl, ltO, cD]
    obtain ⟨T, a', b', hT, hlow, e⟩ := sub h1 none none none none none none a1 (b - 1)
    obtain ⟨T2, a2, b2, hT2, hlow2, e2⟩ := sub h1 none none none none (some T.d) none a' b'
    refine ⟨.node (.tup [.str (S "put"), T.d, .str l, T2.d]) [T, T2], a2, b2, .mk (.put _ _ l (hLok l hl1)) (fun W hW => ?_) (by simp), ?_, (fun _ z => nomatch z), seqS_rt ((ifS_t tD).trans ((seqS_nx (setS_ok e)).trans (retS_ok ?_)))⟩
    · rcases List.mem_cons.mp hW with rfl | hW
      · exact hT
      · rw [List.mem_singleton.mp hW]; exact hT2
    · show (true && (D.low 0 T.d && (true && (D.low 0 T2.d && true)))) = true
      rw [hlow, hlow2]; rfl
    · have e2' : fCall 5 G argB [some (.own k), some (.int many), some knownD, some (.lst (L.map D.str)), some (.int left), some (.int N), some (.int (N % 14)), some (.int (N / 14)), some (.str l), none, none, none, none, some T.d, none] (s.set k (stC a' b')) = some (.ok T2.d (s.set k (stC a2 b2))) := e2
      simp only [sl, List.set_cons_zero, List.set_cons_succ, fTup, fCons, fC, bindM, retM, e2', fNil, fVar, List.getElem?_cons_zero, List.getElem?_cons_succ, liftO]
      rfl
  have tD : (fB (f2 ltO (fVar 6) (fC (.int 7)))) (sl none none none none none none) (s.set k (stC a1 (b - 1))) = some (.ok false (s.set k (stC a1 (b - 1)))) := by
    simp [seqS, setS, bindS, retS, retNS, exprS, ifS, asgS, setIxS, augS, augO, nextS, f1, f2, fN, bindM, liftO, retM, fVar, fC, fTup, fLst, fOwn, fCons, fNil, fB, fTru, fNot, fAnd, fOr, fAndV, fOrV, fIf, asB, truO, fCall, fM0, fM1, tdName, tdTup, tdCons, tdNil, sl, ltO, cD]
  have stD : ∀ g1 g2, seqS (ifS (fB (f2 ltO (fVar 6) (fC (.int 7)))) g1 nextS) g2 (sl none none none none none none) (s.set k (stC a1 (b - 1))) = g2 (sl none none none none none none) (s.set k (stC a1 (b - 1))) := fun g1 g2 => seqS_nx ((ifS_f tD).trans rfl)
  simp only [stD]
  -- make
  by_cases cE : N % 14 < 9
  · have tE : (fB (f2 ltO (fVar 6) (fC (.int 9)))) (sl none none none none none none) (s.set k (stC a1 (b - 1))) = some (.ok true (s.set k (stC a1 (b - 1)))) := by
      simp [seqS, setS, bindS, retS, retNS, exprS, ifS, asgS, setIxS, augS, augO, nextS, f1, f2, fN, bindM, liftO, retM, fVar, fC, fTup, fLst, fOwn, fCons, fNil, fB, fTru, fNot, fAnd, fOr, fAndV, fOrV, fIf, asB, truO, fCall, fM0, fM1, tdName, tdTup, tdCons, tdNil, sl, ltO, cE]
    obtain ⟨fs, a', b', h3, hok, e⟩ := subF h1 none none none none none none a1 (b - 1)
    refine ⟨.node (.tup [.str (S "make"), .tup (fs.map fun f => .tup [.str f.1, f.2.d])]) (fs.map (·.2)), a', b', .mk ?_ (fun W hW => ?_) (by rw [List.length_map]; exact h3), ?_, (fun _ z => nomatch z), seqS_rt ((ifS_t tE).trans (retS_ok ?_))⟩
    · have := Form.make (fs.map fun f => (f.1, f.2.d)) (fun f hf => by
        obtain ⟨g, hg, rfl⟩ := List.mem_map.mp hf
        exact (hok g hg).1)
      rw [List.map_map, List.map_map] at this
      rw [List.map_map]
      exact this
    · obtain ⟨g, hg, rfl⟩ := List.mem_map.mp hW
      exact (hok g hg).2.1
    · show (true && (D.lowAll 0 (fs.map fun f => .tup [.str f.1, f.2.d]) && true)) = true
      rw [low_tups fs fun f hf => (hok f hf).2.2]
      rfl
    · simp only [fTup, fCons, fC, bindM, retM, e, fNil, liftO]
      rfl
  have tE : (fB (f2 ltO (fVar 6) (fC (.int 9)))) (sl none none none none none none) (s.set k (stC a1 (b - 1))) = some (.ok false (s.set k (stC a1 (b - 1)))) := by
    simp [seqS, setS, bindS, retS, retNS, exprS, ifS, asgS, setIxS, augS, augO, nextS, f1, f2, fN, bindM, liftO, retM, fVar, fC, fTup, fLst, fOwn, fCons, fNil, fB, fTru, fNot, fAnd, fOr, fAndV, fOrV, fIf, asB, truO, fCall, fM0, fM1, tdName, tdTup, tdCons, tdNil, sl, ltO, cE]
  have stE : ∀ g1 g2, seqS (ifS (fB (f2 ltO (fVar 6) (fC (.int 9)))) g1 nextS) g2 (sl none none none none none none) (s.set k (stC a1 (b - 1))) = g2 (sl none none none none none none) (s.set k (stC a1 (b - 1))) := fun g1 g2 => seqS_nx ((ifS_f tE).trans rfl)
  simp only [stE]
  -- sum, if
  obtain ⟨T, a', b', hT, hlow, e⟩ := sub h1 none none none none none none a1 (b - 1)
  obtain ⟨T2, a2, b2, hT2, hlow2, e2⟩ := sub h1 none none none none (some T.d) none a' b'
  have s1 : ∀ g2, seqS (setS 13 (fCall 5 G argB)) g2 (sl none none none none none none) (s.set k (stC a1 (b - 1))) = g2 (sl none none none none (some T.d) none) (s.set k (stC a' b')) := fun g2 => seqS_nx (setS_ok e)
  have s2 : ∀ g2, seqS (setS 14 (fCall 5 G argB)) g2 (sl none none none none (some T.d) none) (s.set k (stC a' b')) = g2 (sl none none none none (some T.d) (some T2.d)) (s.set k (stC a2 b2)) := fun g2 => seqS_nx (setS_ok e2)
  simp only [s1, s2]
  by_cases cF : N % 14 = 9
  · have tF : (fB (f2 (eqO false) (fVar 6) (fC (.int 9)))) (sl none none none none (some T.d) (some T2.d)) (s.set k (stC a2 b2)) = some (.ok true (s.set k (stC a2 b2))) := by
      simp [seqS, setS, bindS, retS, retNS, exprS, ifS, asgS, setIxS, augS, augO, nextS, f1, f2, fN, bindM, liftO, retM, fVar, fC, fTup, fLst, fOwn, fCons, fNil, fB, fTru, fNot, fAnd, fOr, fAndV, fOrV, fIf, asB, truO, fCall, fM0, fM1, tdName, tdTup, tdCons, tdNil, sl, eqO_int, cF, ng]
    refine ⟨.node (.tup [.str (S "sum"), T.d, T2.d]) [T, T2], a2, b2, .mk (.sum _ _) (fun W hW => ?_) (by simp), ?_, (fun _ z => nomatch z), seqS_rt ((ifS_t tF).trans (retS_ok rfl))⟩
    · rcases List.mem_cons.mp hW with rfl | hW
      · exact hT
      · rw [List.mem_singleton.mp hW]; exact hT2
    · show (true && (D.low 0 T.d && (D.low 0 T2.d && true))) = true
      rw [hlow, hlow2]; rfl
  · have tF : (fB (f2 (eqO false) (fVar 6) (fC (.int 9)))) (sl none none none none (some T.d) (some T2.d)) (s.set k (stC a2 b2)) = some (.ok false (s.set k (stC a2 b2))) := by
      simp [seqS, setS, bindS, retS, retNS, exprS, ifS, asgS, setIxS, augS, augO, nextS, f1, f2, fN, bindM, liftO, retM, fVar, fC, fTup, fLst, fOwn, fCons, fNil, fB, fTru, fNot, fAnd, fOr, fAndV, fOrV, fIf, asB, truO, fCall, fM0, fM1, tdName, tdTup, tdCons, tdNil, sl, eqO_int, cF, ng]
    obtain ⟨T3, a3, b3, hT3, hlow3, e3⟩ := sub h1 none none none none (some T.d) (some T2.d) a2 b2
    refine ⟨.node (.tup [.str (S "if"), T.d, T2.d, T3.d]) [T, T2, T3], a3, b3, .mk (.iff _ _ _) (fun W hW => ?_) (by simp), ?_, (fun _ z => nomatch z), (seqS_nx ((ifS_f tF).trans rfl)).trans (retS_ok ?_)⟩
    · rcases List.mem_cons.mp hW with rfl | hW
      · exact hT
      · rcases List.mem_cons.mp hW with rfl | hW
        · exact hT2
        · rw [List.mem_singleton.mp hW]; exact hT3
    · show (true && (D.low 0 T.d && (D.low 0 T2.d && (D.low 0 T3.d && true)))) = true
      rw [hlow, hlow2, hlow3]; rfl
    · have e3' : fCall 5 G argB [some (.own k), some (.int many), some knownD, some (.lst (L.map D.str)), some (.int left), some (.int N), some (.int (N % 14)), some (.int (N / 14)), some (.str l), none, none, none, none, some T.d, some T2.d] (s.set k (stC a2 b2)) = some (.ok T3.d (s.set k (stC a3 b3))) := e3
      simp only [sl, fTup, fCons, fC, bindM, retM, e3', fNil, fVar, List.getElem?_cons_zero, List.getElem?_cons_succ, liftO]
      rfl
/-- bodies of the depth that is left, by enough turns -/
theorem rec_ok : ∀ (m n : Nat), 2 * m + 2 ≤ n → BodySpec (R_fields_body n).2 m ∧ FieldsSpec (R_fields_body (n + 1)).1 m := by
  intro m
  induction m with
  | zero =>
    intro n hn
    obtain ⟨j, rfl⟩ : ∃ j, n = j + 1 := ⟨n - 1, by omega⟩
    have hb : BodySpec (R_fields_body (j + 1)).2 0 := body_ok (F := (R_fields_body j).1) (G := (R_fields_body j).2) (fun j h => by omega) (fun j h => by omega)
    exact ⟨hb, fields_ok hb⟩
  | succ m ih =>
    intro n hn
    obtain ⟨j, rfl⟩ : ∃ j, n = j + 1 + 1 := ⟨n - 2, by omega⟩
    have hb : BodySpec (R_fields_body (j + 1 + 1)).2 (m + 1) := body_ok (F := (R_fields_body (j + 1)).1) (G := (R_fields_body (j + 1)).2) (fun i h => by
      have : i = m := by omega
      subst this
      exact (ih (j + 1) (by omega)).1) (fun i h => by
      have : i = m := by omega
      subst this
      exact (ih j (by omega)).2)
    exact ⟨hb, fields_ok hb⟩
theorem body_spec : BodySpec D_body 8 := (rec_ok 8 20 (by decide)).1
end Pr

set_option Elab.async false
set_option linter.all false
set_option maxRecDepth 100000
set_option maxHeartbeats 4000000
namespace Pr
open PySem L2 PD
theorem ne_number_input : (PySem.Str.ofString "number" = PySem.Str.ofString "input") = False := eq_false (by decide +kernel)
theorem ne_number_make : (PySem.Str.ofString "number" = PySem.Str.ofString "make") = False := eq_false (by decide +kernel)
theorem ne_number_get : (PySem.Str.ofString "number" = PySem.Str.ofString "get") = False := eq_false (by decide +kernel)
theorem ne_number_put : (PySem.Str.ofString "number" = PySem.Str.ofString "put") = False := eq_false (by decide +kernel)
theorem ne_number_sum : (PySem.Str.ofString "number" = PySem.Str.ofString "sum") = False := eq_false (by decide +kernel)
theorem ne_number_if : (PySem.Str.ofString "number" = PySem.Str.ofString "if") = False := eq_false (by decide +kernel)
theorem ne_number_call : (PySem.Str.ofString "number" = PySem.Str.ofString "call") = False := eq_false (by decide +kernel)
theorem ne_input_number : (PySem.Str.ofString "input" = PySem.Str.ofString "number") = False := eq_false (by decide +kernel)
theorem ne_input_make : (PySem.Str.ofString "input" = PySem.Str.ofString "make") = False := eq_false (by decide +kernel)
theorem ne_input_get : (PySem.Str.ofString "input" = PySem.Str.ofString "get") = False := eq_false (by decide +kernel)
theorem ne_input_put : (PySem.Str.ofString "input" = PySem.Str.ofString "put") = False := eq_false (by decide +kernel)
theorem ne_input_sum : (PySem.Str.ofString "input" = PySem.Str.ofString "sum") = False := eq_false (by decide +kernel)
theorem ne_input_if : (PySem.Str.ofString "input" = PySem.Str.ofString "if") = False := eq_false (by decide +kernel)
theorem ne_input_call : (PySem.Str.ofString "input" = PySem.Str.ofString "call") = False := eq_false (by decide +kernel)
theorem ne_make_number : (PySem.Str.ofString "make" = PySem.Str.ofString "number") = False := eq_false (by decide +kernel)
theorem ne_make_input : (PySem.Str.ofString "make" = PySem.Str.ofString "input") = False := eq_false (by decide +kernel)
theorem ne_make_get : (PySem.Str.ofString "make" = PySem.Str.ofString "get") = False := eq_false (by decide +kernel)
theorem ne_make_put : (PySem.Str.ofString "make" = PySem.Str.ofString "put") = False := eq_false (by decide +kernel)
theorem ne_make_sum : (PySem.Str.ofString "make" = PySem.Str.ofString "sum") = False := eq_false (by decide +kernel)
theorem ne_make_if : (PySem.Str.ofString "make" = PySem.Str.ofString "if") = False := eq_false (by decide +kernel)
theorem ne_make_call : (PySem.Str.ofString "make" = PySem.Str.ofString "call") = False := eq_false (by decide +kernel)
theorem ne_get_number : (PySem.Str.ofString "get" = PySem.Str.ofString "number") = False := eq_false (by decide +kernel)
theorem ne_get_input : (PySem.Str.ofString "get" = PySem.Str.ofString "input") = False := eq_false (by decide +kernel)
theorem ne_get_make : (PySem.Str.ofString "get" = PySem.Str.ofString "make") = False := eq_false (by decide +kernel)
theorem ne_get_put : (PySem.Str.ofString "get" = PySem.Str.ofString "put") = False := eq_false (by decide +kernel)
theorem ne_get_sum : (PySem.Str.ofString "get" = PySem.Str.ofString "sum") = False := eq_false (by decide +kernel)
theorem ne_get_if : (PySem.Str.ofString "get" = PySem.Str.ofString "if") = False := eq_false (by decide +kernel)
theorem ne_get_call : (PySem.Str.ofString "get" = PySem.Str.ofString "call") = False := eq_false (by decide +kernel)
theorem ne_put_number : (PySem.Str.ofString "put" = PySem.Str.ofString "number") = False := eq_false (by decide +kernel)
theorem ne_put_input : (PySem.Str.ofString "put" = PySem.Str.ofString "input") = False := eq_false (by decide +kernel)
theorem ne_put_make : (PySem.Str.ofString "put" = PySem.Str.ofString "make") = False := eq_false (by decide +kernel)
theorem ne_put_get : (PySem.Str.ofString "put" = PySem.Str.ofString "get") = False := eq_false (by decide +kernel)
theorem ne_put_sum : (PySem.Str.ofString "put" = PySem.Str.ofString "sum") = False := eq_false (by decide +kernel)
theorem ne_put_if : (PySem.Str.ofString "put" = PySem.Str.ofString "if") = False := eq_false (by decide +kernel)
theorem ne_put_call : (PySem.Str.ofString "put" = PySem.Str.ofString "call") = False := eq_false (by decide +kernel)
theorem ne_sum_number : (PySem.Str.ofString "sum" = PySem.Str.ofString "number") = False := eq_false (by decide +kernel)
theorem ne_sum_input : (PySem.Str.ofString "sum" = PySem.Str.ofString "input") = False := eq_false (by decide +kernel)
theorem ne_sum_make : (PySem.Str.ofString "sum" = PySem.Str.ofString "make") = False := eq_false (by decide +kernel)
theorem ne_sum_get : (PySem.Str.ofString "sum" = PySem.Str.ofString "get") = False := eq_false (by decide +kernel)
theorem ne_sum_put : (PySem.Str.ofString "sum" = PySem.Str.ofString "put") = False := eq_false (by decide +kernel)
theorem ne_sum_if : (PySem.Str.ofString "sum" = PySem.Str.ofString "if") = False := eq_false (by decide +kernel)
theorem ne_sum_call : (PySem.Str.ofString "sum" = PySem.Str.ofString "call") = False := eq_false (by decide +kernel)
theorem ne_if_number : (PySem.Str.ofString "if" = PySem.Str.ofString "number") = False := eq_false (by decide +kernel)
theorem ne_if_input : (PySem.Str.ofString "if" = PySem.Str.ofString "input") = False := eq_false (by decide +kernel)
theorem ne_if_make : (PySem.Str.ofString "if" = PySem.Str.ofString "make") = False := eq_false (by decide +kernel)
theorem ne_if_get : (PySem.Str.ofString "if" = PySem.Str.ofString "get") = False := eq_false (by decide +kernel)
theorem ne_if_put : (PySem.Str.ofString "if" = PySem.Str.ofString "put") = False := eq_false (by decide +kernel)
theorem ne_if_sum : (PySem.Str.ofString "if" = PySem.Str.ofString "sum") = False := eq_false (by decide +kernel)
theorem ne_if_call : (PySem.Str.ofString "if" = PySem.Str.ofString "call") = False := eq_false (by decide +kernel)
theorem ne_call_number : (PySem.Str.ofString "call" = PySem.Str.ofString "number") = False := eq_false (by decide +kernel)
theorem ne_call_input : (PySem.Str.ofString "call" = PySem.Str.ofString "input") = False := eq_false (by decide +kernel)
theorem ne_call_make : (PySem.Str.ofString "call" = PySem.Str.ofString "make") = False := eq_false (by decide +kernel)
theorem ne_call_get : (PySem.Str.ofString "call" = PySem.Str.ofString "get") = False := eq_false (by decide +kernel)
theorem ne_call_put : (PySem.Str.ofString "call" = PySem.Str.ofString "put") = False := eq_false (by decide +kernel)
theorem ne_call_sum : (PySem.Str.ofString "call" = PySem.Str.ofString "sum") = False := eq_false (by decide +kernel)
theorem ne_call_if : (PySem.Str.ofString "call" = PySem.Str.ofString "if") = False := eq_false (by decide +kernel)
/-! ### those right within -/
def isTb : D → Bool | .tup _ => true | _ => false
theorem tb_str (l : Str) : isTb (.str l) = false := rfl
def isT (d : D) : Prop := ∃ xs, d = .tup xs
theorem Form.isT {d : D} {ks : List D} (h : Form d ks) : isT d := by cases h <;> exact ⟨_, rfl⟩
theorem cutL_1 {α : Type} (xs : List α) : cutL xs (some 1) none = xs.drop 1 := by
  unfold cutL
  rw [show HT.sIx xs.length 0 (some 1) = min 1 xs.length from HT.sIx_nat xs.length 0 1, HT.sIx_none]
  cases xs with
  | nil => rfl
  | cons x r =>
    rw [show min 1 (x :: r).length = 1 by rw [List.length_cons]; omega]
    show (List.take ((x :: r).length - 1) r) = r
    rw [List.length_cons, Nat.add_sub_cancel]
    exact List.take_length
theorem tup_test (i : Nat) (sl : Sl) (s : Sto) (x : D) (h : sl[i]? = some (some x)) (hx : (∃ n, x = .int n) ∨ (∃ z, x = .str z) ∨ isT x) : (fTru (f1 (isiO "tuple") (fVar i))) sl s = some (.ok (isTb x) s) := by
  rcases hx with ⟨n, rfl⟩ | ⟨z, rfl⟩ | ⟨xs, rfl⟩
  · simp only [fTru, f1, fVar, bindM, h, liftO, isiO, tyName]; rfl
  · simp only [fTru, f1, fVar, bindM, h, liftO, isiO, tyName]; rfl
  · simp only [fTru, f1, fVar, bindM, h, liftO, isiO, tyName]; rfl
/-- the kids of a body that is neither make nor call -/
theorem rest_lc (rest : List D) (f : D) (s : Sto) (hr : ∀ x ∈ rest, (∃ n, x = .int n) ∨ (∃ z, x = .str z) ∨ isT x) (hl : rest.length ≤ 5) :
    (fLc (tdName 2) (fTru (f1 (isiO "tuple") (fVar 2))) (fVar 2) (fIt (fSl (fVar 0) (fSome (fC (.int 1))) fNo)) [2]) [some (.tup (f :: rest)), none, none] s = some (.ok (.lst (rest.filter isTb)) s) := by
  refine fLc_pure (xs := rest) ?_ ?_ (Nat.le_trans (List.length_filter_le _ _) (by omega))
  · simp [fIt, fSl, fVar, fSome, fC, fNo, bindM, retM, liftO, asI, slO, cutL_1, seqIt]
  · have := lcL_filter (T := tdName 2) (u := fTru (f1 (isiO "tuple") (fVar 2))) (f := fVar 2) (a := (rest, none)) (sl := wipeS [some (.tup (f :: rest)), none, none] [2]) (s := s) isTb id (ck_none _ _) rest
      fun x hx => ⟨_, rfl, tup_test 2 _ s x rfl (hr x hx), fun _ => rfl⟩
    rw [List.map_id] at this
    exact this
theorem kids_eq {d : D} {ks : List D} (hf : Form d ks) (hk : ∀ k ∈ ks, isT k) (hl : D.lowAll 0 ks = true) (h3 : ks.length ≤ 3) (s : Sto) : D_kids [d] s = some (.ok (.lst ks) s) := by
  have fin : closeM false s (.lst ks) s = some (.ok (.lst ks) s) := fin_same s _ (lowAll_mono (Nat.zero_le _) _ hl) (fun _ z => nomatch z)
  unfold D_kids
  refine fnD_rt (d := .lst ks) (s' := s) ?_ fin
  unfold g_kids
  -- the common shape of all but make and call
  have gen : ∀ (w : Str) (rest : List D), d = .tup (.str w :: rest) → (w = PySem.Str.ofString "make") = False → (w = PySem.Str.ofString "call") = False → rest.filter isTb = ks → (∀ x ∈ rest, (∃ n, x = .int n) ∨ (∃ z, x = .str z) ∨ isT x) → rest.length ≤ 5 →
      (seqS (ifS (fB (f2 (eqO false) (f2 ixO (fVar 0) (fC (.int 0))) (fC (.str (PySem.Str.ofString "make"))))) (retS (fLc (tdName 1) fYes (f2 ixO (fVar 1) (fC (.int 1))) (fIt (f2 ixO (fVar 0) (fC (.int 1)))) [1])) nextS)
    (seqS (ifS (fB (f2 (eqO false) (f2 ixO (fVar 0) (fC (.int 0))) (fC (.str (PySem.Str.ofString "call"))))) (retS (fN listO (fCons (f2 ixO (fVar 0) (fC (.int 2))) fNil))) nextS)
    (retS (fLc (tdName 2) (fTru (f1 (isiO "tuple") (fVar 2))) (fVar 2) (fIt (fSl (fVar 0) (fSome (fC (.int 1))) fNo)) [2])))) [some d, none, none] s = some (.rt (.lst ks) s) := by
    intro w rest ed h1 h2 h4 h5 h6
    subst ed
    refine (seqS_nx ((ifS_f (s' := s) ?_).trans rfl)).trans ((seqS_nx ((ifS_f (s' := s) ?_).trans rfl)).trans (retS_ok ?_))
    · simp [seqS, setS, bindS, retS, retNS, exprS, ifS, asgS, setIxS, augS, augO, nextS, f1, f2, fN, bindM, liftO, retM, fVar, fC, fTup, fLst, fOwn, fCons, fNil, fB, fTru, fNot, fAnd, fOr, fAndV, fOrV, fIf, asB, truO, fCall, fM0, fM1, tdName, tdTup, tdCons, tdNil, ixO, seqOf, atI, ixN, eqO_str, h1, ng]
    · simp [seqS, setS, bindS, retS, retNS, exprS, ifS, asgS, setIxS, augS, augO, nextS, f1, f2, fN, bindM, liftO, retM, fVar, fC, fTup, fLst, fOwn, fCons, fNil, fB, fTru, fNot, fAnd, fOr, fAndV, fOrV, fIf, asB, truO, fCall, fM0, fM1, tdName, tdTup, tdCons, tdNil, ixO, seqOf, atI, ixN, eqO_str, h2, ng]
    · rw [rest_lc rest _ s h5 h6, h4]
  have nt : ∀ k ∈ ks, isTb k = true := fun k hk' => by obtain ⟨xs, rfl⟩ := hk k hk'; rfl
  cases hf with
  | num n => exact gen _ _ rfl ne_number_make ne_number_call rfl (fun x hx => by rw [List.mem_singleton.mp hx]; exact .inl ⟨_, rfl⟩) (by simp)
  | inp n => exact gen _ _ rfl ne_input_make ne_input_call rfl (fun x hx => by rw [List.mem_singleton.mp hx]; exact .inl ⟨_, rfl⟩) (by simp)
  | make fs hfs =>
    refine seqS_rt ((ifS_t (s' := s) (by simp [seqS, setS, bindS, retS, retNS, exprS, ifS, asgS, setIxS, augS, augO, nextS, f1, f2, fN, bindM, liftO, retM, fVar, fC, fTup, fLst, fOwn, fCons, fNil, fB, fTru, fNot, fAnd, fOr, fAndV, fOrV, fIf, asB, truO, fCall, fM0, fM1, tdName, tdTup, tdCons, tdNil, ixO, seqOf, atI, ixN, eqO_str, ng])).trans (retS_ok ?_))
    refine fLc_pure (xs := fs.map fun f => .tup [.str f.1, f.2]) ?_ ?_ (by rw [List.length_map] at h3 ⊢; omega)
    · simp [seqS, setS, bindS, retS, retNS, exprS, ifS, asgS, setIxS, augS, augO, nextS, f1, f2, fN, bindM, liftO, retM, fVar, fC, fTup, fLst, fOwn, fCons, fNil, fB, fTru, fNot, fAnd, fOr, fAndV, fOrV, fIf, asB, truO, fCall, fM0, fM1, tdName, tdTup, tdCons, tdNil, fIt, ixO, seqOf, atI, ixN, seqIt]
    · have := lcL_map (T := tdName 1) (u := fYes) (f := (f2 ixO (fVar 1) (fC (.int 1)))) (a := (fs.map fun f => D.tup [.str f.1, f.2], none)) (sl := wipeS [some (D.tup [.str (S "make"), .tup (fs.map fun f => .tup [.str f.1, f.2])]), none, none] [1])
        (s := s) (fun d => match d with | .tup [_, x] => x | _ => .non) (ck_none _ _) (fs.map fun f => D.tup [.str f.1, f.2]) (fun x hx => by
          obtain ⟨f, _, rfl⟩ := List.mem_map.mp hx
          refine ⟨_, rfl, rfl, ?_⟩
          simp [seqS, setS, bindS, retS, retNS, exprS, ifS, asgS, setIxS, augS, augO, nextS, f1, f2, fN, bindM, liftO, retM, fVar, fC, fTup, fLst, fOwn, fCons, fNil, fB, fTru, fNot, fAnd, fOr, fAndV, fOrV, fIf, asB, truO, fCall, fM0, fM1, tdName, tdTup, tdCons, tdNil, wipeS, ixO, seqOf, atI, ixN])
      refine this.trans ?_
      rw [List.map_map]
      rfl
  | get b l hl' =>
    have tb := nt b List.mem_cons_self
    exact gen _ _ rfl ne_get_make ne_get_call (by simp [List.filter_cons, tb, tb_str]) (fun x hx => by
      rcases List.mem_cons.mp hx with rfl | hx
      · exact .inr (.inr (hk _ List.mem_cons_self))
      · rw [List.mem_singleton.mp hx]; exact .inr (.inl ⟨_, rfl⟩)) (by simp)
  | put b c l hl' =>
    have tb := nt b (by simp)
    have tc := nt c (by simp)
    exact gen _ _ rfl ne_put_make ne_put_call (by simp [List.filter_cons, tb, tc, tb_str]) (fun x hx => by
      simp at hx
      rcases hx with rfl | rfl | rfl
      · exact .inr (.inr (hk _ (by simp)))
      · exact .inr (.inl ⟨_, rfl⟩)
      · exact .inr (.inr (hk _ (by simp)))) (by simp)
  | sum b c =>
    have tb := nt b (by simp)
    have tc := nt c (by simp)
    exact gen _ _ rfl ne_sum_make ne_sum_call (by simp [List.filter_cons, tb, tc, tb_str]) (fun x hx => .inr (.inr (hk x hx))) (by simp)
  | iff b c e =>
    have tb := nt b (by simp)
    have tc := nt c (by simp)
    have te := nt e (by simp)
    exact gen _ _ rfl ne_if_make ne_if_call (by simp [List.filter_cons, tb, tc, te, tb_str]) (fun x hx => .inr (.inr (hk x hx))) (by simp)
  | call n bs hn =>
    refine (seqS_nx ((ifS_f (s' := s) (by simp [seqS, setS, bindS, retS, retNS, exprS, ifS, asgS, setIxS, augS, augO, nextS, f1, f2, fN, bindM, liftO, retM, fVar, fC, fTup, fLst, fOwn, fCons, fNil, fB, fTru, fNot, fAnd, fOr, fAndV, fOrV, fIf, asB, truO, fCall, fM0, fM1, tdName, tdTup, tdCons, tdNil, ixO, seqOf, atI, ixN, eqO_str, ng, ne_call_make])).trans rfl)).trans (seqS_rt ((ifS_t (s' := s) (by simp [seqS, setS, bindS, retS, retNS, exprS, ifS, asgS, setIxS, augS, augO, nextS, f1, f2, fN, bindM, liftO, retM, fVar, fC, fTup, fLst, fOwn, fCons, fNil, fB, fTru, fNot, fAnd, fOr, fAndV, fOrV, fIf, asB, truO, fCall, fM0, fM1, tdName, tdTup, tdCons, tdNil, ixO, seqOf, atI, ixN, eqO_str, ng])).trans (retS_ok ?_)))
    simp [seqS, setS, bindS, retS, retNS, exprS, ifS, asgS, setIxS, augS, augO, nextS, f1, f2, fN, bindM, liftO, retM, fVar, fC, fTup, fLst, fOwn, fCons, fNil, fB, fTru, fNot, fAnd, fOr, fAndV, fOrV, fIf, asB, truO, fCall, fM0, fM1, tdName, tdTup, tdCons, tdNil, ixO, seqOf, atI, ixN, listO]
theorem within_eq {d : D} {ks : List D} (hf : Form d ks) (hk : ∀ k ∈ ks, isT k) (hl : D.lowAll 0 ks = true) (h3 : ks.length ≤ 3) (s : Sto) : D_bodies_within [d] s = some (.ok (.lst ks) s) := by
  have fin : closeM false s (.lst ks) s = some (.ok (.lst ks) s) := fin_same s _ (lowAll_mono (Nat.zero_le _) _ hl) (fun _ z => nomatch z)
  unfold D_bodies_within
  refine fnD_rt (d := .lst ks) (s' := s) ?_ fin
  unfold g_bodies_within
  show seqS _ _ [some d, none, none] s = _
  have s1 : ∀ (w : Str) (rest : List D), d = .tup (.str w :: rest) → (f2 ixO (fVar 0) (fC (.int 0))) [some d, none, none] s = some (.ok (.str w) s) := fun w rest e => by
    subst e
    simp [seqS, setS, bindS, retS, retNS, exprS, ifS, asgS, setIxS, augS, augO, nextS, f1, f2, fN, bindM, liftO, retM, fVar, fC, fTup, fLst, fOwn, fCons, fNil, fB, fTru, fNot, fAnd, fOr, fAndV, fOrV, fIf, asB, truO, fCall, fM0, fM1, tdName, tdTup, tdCons, tdNil, ixO, seqOf, atI, ixN]
  have tst : ∀ (w : Str) (x : String) (c : Bool), decide (w = PySem.Str.ofString x) = c → (fB (f2 (eqO false) (fVar 1) (fC (.str (PySem.Str.ofString x))))) [some d, some (.str w), none] s = some (.ok c s) := fun w x c h => by
    simp only [seqS, setS, bindS, retS, retNS, exprS, ifS, asgS, setIxS, augS, augO, nextS, f1, f2, fN, bindM, liftO, retM, fVar, fC, fTup, fLst, fOwn, fCons, fNil, fB, fTru, fNot, fAnd, fOr, fAndV, fOrV, fIf, asB, truO, fCall, fM0, fM1, tdName, tdTup, tdCons, tdNil, List.getElem?_cons_zero, List.getElem?_cons_succ, eqO_str, h, ng]
  have inF : ∀ (w : Str) (c : Bool), (decide (PySem.Str.ofString "sum" = w) || decide (PySem.Str.ofString "if" = w)) = c → (fB (f2 (inO false) (fVar 1) (fTup (fCons (fC (.str (PySem.Str.ofString "sum"))) (fCons (fC (.str (PySem.Str.ofString "if"))) fNil))))) [some d, some (.str w), none] s = some (.ok c s) := fun w c h => by
    have hi : inFlat s (.str w) (.tup [.str (PySem.Str.ofString "sum"), .str (PySem.Str.ofString "if")]) = some c := by
      have := inFlat_strs s w [PySem.Str.ofString "sum", PySem.Str.ofString "if"]
      refine Eq.trans ?_ (this.trans ?_)
      · rfl
      · rw [← h]
        simp [inV, eqV]
        rfl
    simp only [seqS, setS, bindS, retS, retNS, exprS, ifS, asgS, setIxS, augS, augO, nextS, f1, f2, fN, bindM, liftO, retM, fVar, fC, fTup, fLst, fOwn, fCons, fNil, fB, fTru, fNot, fAnd, fOr, fAndV, fOrV, fIf, asB, truO, fCall, fM0, fM1, tdName, tdTup, tdCons, tdNil, List.getElem?_cons_zero, List.getElem?_cons_succ, show small ([.str (PySem.Str.ofString "sum"), .str (PySem.Str.ofString "if")] : List D).length = true from (by decide : small 2 = true), if_true, inO, hi, ng]
  have df : ∀ {a b : Str}, (a = b) = False → decide (a = b) = false := fun h => decide_eq_false (of_eq_false h)
  have go1 : ∀ (w : Str) (rest : List D) g2 r, d = .tup (.str w :: rest) → g2 [some d, some (.str w), none] s = r → seqS (setS 1 (f2 ixO (fVar 0) (fC (.int 0)))) g2 [some d, none, none] s = r := fun w rest g2 r e h => (seqS_nx (setS_ok (s1 w rest e))).trans h
  have skip : ∀ (w : Str) (u : Sl → M Bool) g1 g2 r, u [some d, some (.str w), none] s = some (.ok false s) → g2 [some d, some (.str w), none] s = r → seqS (ifS u g1 nextS) g2 [some d, some (.str w), none] s = r := fun w u g1 g2 r h k => (seqS_nx ((ifS_f h).trans rfl)).trans k
  have take : ∀ (w : Str) (u : Sl → M Bool) (f : Sl → M D) g2 x, u [some d, some (.str w), none] s = some (.ok true s) → f [some d, some (.str w), none] s = some (.ok x s) → seqS (ifS u (retS f) nextS) g2 [some d, some (.str w), none] s = some (.rt x s) := fun w u f g2 x h k => seqS_rt ((ifS_t h).trans (retS_ok k))
  cases hf with
  | num n =>
    refine go1 _ _ _ _ rfl (skip _ _ _ _ _ (tst _ _ _ (df ne_number_make)) (skip _ _ _ _ _ (tst _ _ _ (df ne_number_get)) (skip _ _ _ _ _ (tst _ _ _ (df ne_number_put)) (skip _ _ _ _ _ (inF _ _ ?_) (skip _ _ _ _ _ (tst _ _ _ (df ne_number_call)) (retS_ok rfl))))))
    rw [df ne_sum_number, df ne_if_number]; rfl
  | inp n =>
    refine go1 _ _ _ _ rfl (skip _ _ _ _ _ (tst _ _ _ (df ne_input_make)) (skip _ _ _ _ _ (tst _ _ _ (df ne_input_get)) (skip _ _ _ _ _ (tst _ _ _ (df ne_input_put)) (skip _ _ _ _ _ (inF _ _ ?_) (skip _ _ _ _ _ (tst _ _ _ (df ne_input_call)) (retS_ok rfl))))))
    rw [df ne_sum_input, df ne_if_input]; rfl
  | make fs hfs =>
    refine go1 _ _ _ _ rfl (take _ _ _ _ _ (tst _ _ _ (decide_eq_true rfl)) ?_)
    refine fLc_pure (xs := fs.map fun f => .tup [.str f.1, f.2]) ?_ ?_ (by rw [List.length_map] at h3 ⊢; omega)
    · simp [seqS, setS, bindS, retS, retNS, exprS, ifS, asgS, setIxS, augS, augO, nextS, f1, f2, fN, bindM, liftO, retM, fVar, fC, fTup, fLst, fOwn, fCons, fNil, fB, fTru, fNot, fAnd, fOr, fAndV, fOrV, fIf, asB, truO, fCall, fM0, fM1, tdName, tdTup, tdCons, tdNil, fIt, ixO, seqOf, atI, ixN, seqIt]
    · have := lcL_map (T := tdName 2) (u := fYes) (f := (f2 ixO (fVar 2) (fC (.int 1)))) (a := (fs.map fun f => D.tup [.str f.1, f.2], none)) (sl := wipeS [some (D.tup [.str (S "make"), .tup (fs.map fun f => .tup [.str f.1, f.2])]), some (.str (S "make")), none] [2])
        (s := s) (fun d => match d with | .tup [_, x] => x | _ => .non) (ck_none _ _) (fs.map fun f => D.tup [.str f.1, f.2]) (fun x hx => by
          obtain ⟨f, _, rfl⟩ := List.mem_map.mp hx
          refine ⟨_, rfl, rfl, ?_⟩
          simp [seqS, setS, bindS, retS, retNS, exprS, ifS, asgS, setIxS, augS, augO, nextS, f1, f2, fN, bindM, liftO, retM, fVar, fC, fTup, fLst, fOwn, fCons, fNil, fB, fTru, fNot, fAnd, fOr, fAndV, fOrV, fIf, asB, truO, fCall, fM0, fM1, tdName, tdTup, tdCons, tdNil, wipeS, ixO, seqOf, atI, ixN])
      refine this.trans ?_
      rw [List.map_map]
      rfl
  | get b l hl' =>
    refine go1 _ _ _ _ rfl (skip _ _ _ _ _ (tst _ _ _ (df ne_get_make)) (take _ _ _ _ _ (tst _ _ _ (decide_eq_true rfl)) ?_))
    simp [seqS, setS, bindS, retS, retNS, exprS, ifS, asgS, setIxS, augS, augO, nextS, f1, f2, fN, bindM, liftO, retM, fVar, fC, fTup, fLst, fOwn, fCons, fNil, fB, fTru, fNot, fAnd, fOr, fAndV, fOrV, fIf, asB, truO, fCall, fM0, fM1, tdName, tdTup, tdCons, tdNil, ixO, seqOf, atI, ixN, small]
  | put b c l hl' =>
    refine go1 _ _ _ _ rfl (skip _ _ _ _ _ (tst _ _ _ (df ne_put_make)) (skip _ _ _ _ _ (tst _ _ _ (df ne_put_get)) (take _ _ _ _ _ (tst _ _ _ (decide_eq_true rfl)) ?_)))
    simp [seqS, setS, bindS, retS, retNS, exprS, ifS, asgS, setIxS, augS, augO, nextS, f1, f2, fN, bindM, liftO, retM, fVar, fC, fTup, fLst, fOwn, fCons, fNil, fB, fTru, fNot, fAnd, fOr, fAndV, fOrV, fIf, asB, truO, fCall, fM0, fM1, tdName, tdTup, tdCons, tdNil, ixO, seqOf, atI, ixN, small]
  | sum b c =>
    refine go1 _ _ _ _ rfl (skip _ _ _ _ _ (tst _ _ _ (df ne_sum_make)) (skip _ _ _ _ _ (tst _ _ _ (df ne_sum_get)) (skip _ _ _ _ _ (tst _ _ _ (df ne_sum_put)) (take _ _ _ _ _ (inF _ _ ?_) ?_))))
    · rw [decide_eq_true rfl]; rfl
    · simp [seqS, setS, bindS, retS, retNS, exprS, ifS, asgS, setIxS, augS, augO, nextS, f1, f2, fN, bindM, liftO, retM, fVar, fC, fTup, fLst, fOwn, fCons, fNil, fB, fTru, fNot, fAnd, fOr, fAndV, fOrV, fIf, asB, truO, fCall, fM0, fM1, tdName, tdTup, tdCons, tdNil, fSl, fNo, fSome, asI, slO, cutL_1, listO, seqOf]
  | iff b c e =>
    refine go1 _ _ _ _ rfl (skip _ _ _ _ _ (tst _ _ _ (df ne_if_make)) (skip _ _ _ _ _ (tst _ _ _ (df ne_if_get)) (skip _ _ _ _ _ (tst _ _ _ (df ne_if_put)) (take _ _ _ _ _ (inF _ _ ?_) ?_))))
    · rw [decide_eq_true (rfl : PySem.Str.ofString "if" = S "if"), Bool.or_true]
    · simp [seqS, setS, bindS, retS, retNS, exprS, ifS, asgS, setIxS, augS, augO, nextS, f1, f2, fN, bindM, liftO, retM, fVar, fC, fTup, fLst, fOwn, fCons, fNil, fB, fTru, fNot, fAnd, fOr, fAndV, fOrV, fIf, asB, truO, fCall, fM0, fM1, tdName, tdTup, tdCons, tdNil, fSl, fNo, fSome, asI, slO, cutL_1, listO, seqOf]
  | call n bs hn =>
    refine go1 _ _ _ _ rfl (skip _ _ _ _ _ (tst _ _ _ (df ne_call_make)) (skip _ _ _ _ _ (tst _ _ _ (df ne_call_get)) (skip _ _ _ _ _ (tst _ _ _ (df ne_call_put)) (skip _ _ _ _ _ (inF _ _ ?_) (take _ _ _ _ _ (tst _ _ _ (decide_eq_true rfl)) ?_)))))
    · rw [df ne_sum_call, df ne_if_call]; rfl
    · simp [seqS, setS, bindS, retS, retNS, exprS, ifS, asgS, setIxS, augS, augO, nextS, f1, f2, fN, bindM, liftO, retM, fVar, fC, fTup, fLst, fOwn, fCons, fNil, fB, fTru, fNot, fAnd, fOr, fAndV, fOrV, fIf, asB, truO, fCall, fM0, fM1, tdName, tdTup, tdCons, tdNil, ixO, seqOf, atI, ixN, listO]
end Pr

set_option Elab.async false
set_option linter.all false
set_option maxRecDepth 100000
set_option maxHeartbeats 4000000
namespace Pr
open PySem L2 PD
/-! ### places -/
abbrev Pt := List Nat × Tr
mutual
def plc : Tr → List Pt
  | .node d ks => plcs 0 ks ++ [([], .node d ks)]
def plcs : Nat → List Tr → List Pt
  | _, [] => []
  | i, t :: ts => (plc t).map (fun p => (i :: p.1, p.2)) ++ plcs (i + 1) ts
end
def encP (p : List Nat) : D := .tup (p.map fun n => .int (n : Nat))
def encPt (p : Pt) : D := .tup [encP p.1, p.2.d]
theorem plcs_append (i : Nat) : ∀ (xs ys : List Tr), plcs i (xs ++ ys) = plcs i xs ++ plcs (i + xs.length) ys := by
  intro xs
  induction xs generalizing i with
  | nil => intro ys; rfl
  | cons x r ih =>
    intro ys
    show (plc x).map _ ++ plcs (i + 1) (r ++ ys) = ((plc x).map _ ++ plcs (i + 1) r) ++ plcs (i + (r.length + 1)) ys
    rw [ih, List.append_assoc, show i + 1 + r.length = i + (r.length + 1) by omega]
theorem plc_len {n : Nat} {t : Tr} (h : Ok n t) : (plc t).length ≤ 4 ^ n ∧ 0 < (plc t).length := by
  induction h with
  | @mk n d ks hf hk hl ih =>
    have gen : ∀ (xs : List Tr) (i : Nat), (∀ x ∈ xs, (plc x).length ≤ 4 ^ n) → (plcs i xs).length ≤ xs.length * 4 ^ n := by
      intro xs
      induction xs with
      | nil => intro i _; simp [plcs]
      | cons x r ih2 =>
        intro i h
        have h1 := h x List.mem_cons_self
        have h2 := ih2 (i + 1) fun y hy => h y (List.mem_cons_of_mem _ hy)
        show ((plc x).map _ ++ plcs (i + 1) r).length ≤ _
        rw [List.length_append, List.length_map, List.length_cons, Nat.succ_mul]
        omega
    have h1 := gen ks 0 fun x hx => (ih x hx).1
    have h2 : ks.length * 4 ^ n ≤ 3 * 4 ^ n := Nat.mul_le_mul_right _ hl
    have h3 : 0 < 4 ^ n := Nat.pow_pos (by decide)
    show (plcs 0 ks ++ [([], Tr.node d ks)]).length ≤ _ ∧ 0 < (plcs 0 ks ++ [([], Tr.node d ks)]).length
    rw [List.length_append, List.length_singleton, Nat.pow_succ]
    omega
theorem Ok.isT {n : Nat} {t : Tr} (h : Ok n t) : isT t.d := by
  cases h with
  | mk hf _ _ => exact hf.isT
theorem Form.low {d : D} {ks : List D} (h : Form d ks) (hl : D.low 0 d = true) : D.lowAll 0 ks = true := by
  cases h with
  | num n => rfl
  | inp n => rfl
  | make fs _ =>
    have h1 : D.lowAll 0 (fs.map fun f => D.tup [.str f.1, f.2]) = true := by
      have : (true && (D.lowAll 0 (fs.map fun f => D.tup [.str f.1, f.2]) && true)) = true := hl
      simpa using this
    rw [lowAll_iff] at h1 ⊢
    intro d hd
    obtain ⟨f, hf, rfl⟩ := List.mem_map.mp hd
    have h2 := h1 _ (List.mem_map.mpr ⟨f, hf, rfl⟩)
    have h3 : (true && (D.low 0 f.2 && true)) = true := h2
    simpa using h3
  | get b l _ =>
    have : (true && (D.low 0 b && (true && true))) = true := hl
    show (D.low 0 b && true) = true
    simpa using this
  | put b c l _ =>
    have : (true && (D.low 0 b && (true && (D.low 0 c && true)))) = true := hl
    show (D.low 0 b && (D.low 0 c && true)) = true
    simpa using this
  | sum b c =>
    have : (true && (D.low 0 b && (D.low 0 c && true))) = true := hl
    show (D.low 0 b && (D.low 0 c && true)) = true
    simpa using this
  | iff b c e =>
    have : (true && (D.low 0 b && (D.low 0 c && (D.low 0 e && true)))) = true := hl
    show (D.low 0 b && (D.low 0 c && (D.low 0 e && true))) = true
    simpa using this
  | call n bs _ =>
    have : (true && (true && (D.lowAll 0 ks && true))) = true := hl
    simpa using this
/-- what a good tree gives -/
theorem Ok.parts {n : Nat} {d : D} {ks : List Tr} (h : Ok n (.node d ks)) (hl : D.low 0 d = true) : ∃ m, n = m + 1 ∧ Form d (ks.map Tr.d) ∧ (∀ k ∈ ks, Ok m k ∧ D.low 0 k.d = true) ∧ ks.length ≤ 3 ∧ (∀ k ∈ ks.map Tr.d, Pr.isT k) ∧ D.lowAll 0 (ks.map Tr.d) = true := by
  cases h with
  | @mk m _ _ hf hk h3 =>
    have hlow := hf.low hl
    refine ⟨m, rfl, hf, fun k hk' => ⟨hk k hk', ?_⟩, h3, fun k hk' => ?_, hlow⟩
    · exact lowAll_iff.mp hlow _ (List.mem_map.mpr ⟨k, hk', rfl⟩)
    · obtain ⟨t, ht, rfl⟩ := List.mem_map.mp hk'
      exact (hk t ht).isT
theorem low_encP (n : Nat) (p : List Nat) : D.low n (encP p) = true := by
  show D.lowAll n (p.map fun n => D.int (n : Nat)) = true
  rw [lowAll_iff]
  intro d hd
  obtain ⟨x, _, rfl⟩ := List.mem_map.mp hd
  rfl
/-- every place's tree is good, and low -/
theorem plc_ok {n : Nat} {t : Tr} (h : Ok n t) : D.low 0 t.d = true → ∀ p ∈ plc t, Ok n p.2 ∧ D.low 0 p.2.d = true ∧ p.1.length ≤ n := by
  induction h with
  | @mk n d ks hf hk hl ih =>
    intro hlow p hp
    have hlk := lowAll_iff.mp (hf.low hlow)
    have gen : ∀ (xs : List Tr) (i : Nat), (∀ x ∈ xs, x ∈ ks) → ∀ p ∈ plcs i xs, Ok (n + 1) p.2 ∧ D.low 0 p.2.d = true ∧ p.1.length ≤ n + 1 := by
      intro xs
      induction xs with
      | nil => intro i _ p hp; cases hp
      | cons x r ih2 =>
        intro i h p hp
        have hp' : p ∈ (plc x).map (fun p => (i :: p.1, p.2)) ++ plcs (i + 1) r := hp
        rcases List.mem_append.mp hp' with q | q
        · obtain ⟨q', hq, rfl⟩ := List.mem_map.mp q
          have hx := h x List.mem_cons_self
          obtain ⟨a, b, c⟩ := ih x hx (hlk _ (List.mem_map.mpr ⟨x, hx, rfl⟩)) q' hq
          exact ⟨a.mono (by omega), b, by simp; omega⟩
        · exact ih2 (i + 1) (fun y hy => h y (List.mem_cons_of_mem _ hy)) p q
    have hp' : p ∈ plcs 0 ks ++ [([], Tr.node d ks)] := hp
    rcases List.mem_append.mp hp' with q | q
    · exact gen ks 0 (fun _ h => h) p q
    · rw [List.mem_singleton.mp q]
      exact ⟨.mk hf hk hl, hlow, by simp⟩
theorem low_encPt {n : Nat} {t : Tr} (h : Ok n t) (hl : D.low 0 t.d = true) : D.lowAll 0 ((plc t).map encPt) = true := by
  rw [lowAll_iff]
  intro d hd
  obtain ⟨p, hp, rfl⟩ := List.mem_map.mp hd
  have := (plc_ok h hl p hp).2.1
  show (D.low 0 (encP p.1) && (D.low 0 p.2.d && true)) = true
  rw [low_encP, this]
  rfl
theorem pow_le (n : Nat) (h : n ≤ 9) : 4 ^ n ≤ 262144 := by
  have : 4 ^ n ≤ 4 ^ 9 := Nat.pow_le_pow_right (by decide) h
  exact this
/-- the law's own places -/
theorem places_eq : ∀ (n m : Nat) (t : Tr), Ok n t → n ≤ 9 → n ≤ m → D.low 0 t.d = true → ∀ s, (R_places m) [t.d] s = some (.ok (.lst ((plc t).map encPt)) s) := by
  intro n
  induction n with
  | zero => intro m t h; cases h
  | succ n ih =>
    intro m t h h9 hm hlow s
    obtain ⟨m, rfl⟩ : ∃ j, m = j + 1 := ⟨m - 1, by omega⟩
    obtain ⟨d, ks⟩ := t
    have hplen := (plc_len h).1
    have hp9 := pow_le (n + 1) h9
    have hlowP := low_encPt h hlow
    obtain ⟨n', en, hf, hk, h3, hkT, hlk⟩ := h.parts hlow
    have en' : n = n' := by omega
    subst en'
    show fnD false 6 (g_places (R_places m)) [d] s = _
    refine fnD_rt (d := .own s.length) (s' := s ++ [.lst ((plc (.node d ks)).map encPt)]) ?_ (closeM_lst rfl (keeps_refl s) (Nat.le_refl _) (app_at _ _ _) (lowAll_mono (Nat.zero_le _) _ hlowP))
    unfold g_places
    show seqS _ _ [some d, none, none, none, none, none] s = _
    have kids := kids_eq hf hkT hlk (by rw [List.length_map]; exact h3)
    refine (seqS_nx (setS_ok (d := .own s.length) (s' := s ++ [.lst []]) (by simp [seqS, setS, bindS, retS, retNS, exprS, ifS, asgS, setIxS, augS, augO, nextS, f1, f2, fN, bindM, liftO, retM, fVar, fC, fTup, fLst, fOwn, fCons, fNil, fB, fTru, fNot, fAnd, fOr, fAndV, fOrV, fIf, asB, truO, fCall, fM0, fM1, tdName, tdTup, tdCons, tdNil, small_of]))).trans ?_
    refine (seqS_nx (setS_ok (fCall_eq rfl rfl (kids (s ++ [.lst []]))))).trans ?_
    -- the slots
    let sl (x3 x4 x5 : Option D) : Sl := [some d, some (.own s.length), some (.lst (ks.map Tr.d)), x3, x4, x5]
    have hr : (fRng1 (fN lenO (fCons (fVar 2) fNil))) (sl none none none) (s ++ [.lst []]) = some (.ok (rangeD 0 ks.length, none) (s ++ [.lst []])) := by
      have hlen : lenO (s ++ [.lst []]) [.lst (ks.map Tr.d)] = some (.int (ks.length : Nat)) := by
        show some (D.int ((ks.map Tr.d).length : Nat)) = _
        rw [List.length_map]
      have hle : ks.length ≤ 1000000 := by omega
      have hrng := rngO_nat hle
      refine fRng1_of (d := .int (ks.length : Nat)) ?_ hrng
      simp only [seqS, setS, bindS, retS, retNS, exprS, ifS, asgS, setIxS, augS, augO, nextS, f1, f2, fN, bindM, liftO, retM, fVar, fC, fTup, fLst, fOwn, fCons, fNil, fB, fTru, fNot, fAnd, fOr, fAndV, fOrV, fIf, asB, truO, fCall, fM0, fM1, tdName, tdTup, tdCons, tdNil, sl, List.getElem?_cons_zero, List.getElem?_cons_succ, hlen]
    obtain ⟨sl', st', el, x3, x4, x5, rfl, rfl⟩ := forL_range (T := tdName 3) (a := (rangeD 0 ks.length, none)) (g := forS (tdTup (tdCons (tdName 4) (tdCons (tdName 5) tdNil))) (fIt (fCall 1 (R_places m) (fCons (f2 ixO (fVar 2) (fVar 3)) fNil))) (exprS (fM1 appendM (fVar 1) (fCons (fTup (fCons (f2 addO (fTup (fCons (fVar 3) fNil)) (fVar 4)) (fCons (fVar 5) fNil))) fNil))))
      (fun i sl' st => ∃ x3 x4 x5, sl' = sl x3 x4 x5 ∧ st = s ++ [.lst ((plcs 0 (ks.take i)).map encPt)]) ks.length (fun i sl' st hi ⟨x3, x4, x5, e1, e2⟩ => by
        subst e1 e2
        have hki : ks[i] ∈ ks := List.getElem_mem hi
        obtain ⟨hok, hlo⟩ := hk _ hki
        have hget : (f2 ixO (fVar 2) (fVar 3)) (sl (some (.int (i : Nat))) x4 x5) (s ++ [.lst ((plcs 0 (ks.take i)).map encPt)]) = some (.ok ks[i].d (s ++ [.lst ((plcs 0 (ks.take i)).map encPt)])) := by
          have : atI (ks.map Tr.d) ((i : Nat) : Int) = some ks[i].d := atI_nat (by rw [List.getElem?_map, List.getElem?_eq_getElem hi]; rfl)
          simp only [seqS, setS, bindS, retS, retNS, exprS, ifS, asgS, setIxS, augS, augO, nextS, f1, f2, fN, bindM, liftO, retM, fVar, fC, fTup, fLst, fOwn, fCons, fNil, fB, fTru, fNot, fAnd, fOr, fAndV, fOrV, fIf, asB, truO, fCall, fM0, fM1, tdName, tdTup, tdCons, tdNil, sl, List.getElem?_cons_zero, List.getElem?_cons_succ, ixO, seqOf, lsOf, Option.bind_some, this]
        have hit : (fIt (fCall 1 (R_places m) (fCons (f2 ixO (fVar 2) (fVar 3)) fNil))) (sl (some (.int (i : Nat))) x4 x5) (s ++ [.lst ((plcs 0 (ks.take i)).map encPt)]) = some (.ok ((plc ks[i]).map encPt, none) (s ++ [.lst ((plcs 0 (ks.take i)).map encPt)])) := by
          have := ih m ks[i] hok (by omega) (by omega) hlo (s ++ [.lst ((plcs 0 (ks.take i)).map encPt)])
          simp only [fIt, fCall, fCons, fNil, bindM, retM, hget, List.length_cons, List.length_nil, if_true, this, liftO, seqIt, itO, Nat.zero_add]
        have htake : (plcs 0 (ks.take (i + 1))) = plcs 0 (ks.take i) ++ (plc ks[i]).map (fun p => (i :: p.1, p.2)) := by
          rw [List.take_succ_eq_append_getElem hi, plcs_append, List.length_take]
          show _ ++ ((plc ks[i]).map (fun p => ((0 + min i ks.length) :: p.1, p.2)) ++ []) = _
          rw [List.append_nil, Nat.zero_add, Nat.min_eq_left (Nat.le_of_lt hi)]
        have hpre : (plcs 0 (ks.take (i + 1))).length ≤ (plc (Tr.node d ks)).length := by
          have h1 : plcs 0 ks = plcs 0 (ks.take (i + 1)) ++ plcs (0 + (ks.take (i + 1)).length) (ks.drop (i + 1)) := by
            rw [← plcs_append, List.take_append_drop]
          show _ ≤ (plcs 0 ks ++ [([], Tr.node d ks)]).length
          rw [h1]
          simp only [List.length_append]
          omega
        obtain ⟨sl2, st2, el2, done, x4', x5', ed, rfl, rfl⟩ := forL_inv (T := (tdTup (tdCons (tdName 4) (tdCons (tdName 5) tdNil)))) (a := ((plc ks[i]).map encPt, none)) (g := (exprS (fM1 appendM (fVar 1) (fCons (fTup (fCons (f2 addO (fTup (fCons (fVar 3) fNil)) (fVar 4)) (fCons (fVar 5) fNil))) fNil))))
          (fun xs sl' st => ∃ done x4 x5, (∃ rest, plc ks[i] = done ++ rest ∧ xs = rest.map encPt) ∧ sl' = sl (some (.int (i : Nat))) x4 x5 ∧ st = s ++ [.lst ((plcs 0 (ks.take i) ++ done.map (fun p => (i :: p.1, p.2))).map encPt)])
          (fun x xs sl' st ⟨done, x4, x5, ⟨rest, hr1, hr2⟩, e1, e2⟩ => by
            subst e1 e2
            cases rest with
            | nil => cases hr2
            | cons p rest =>
              rw [List.map_cons] at hr2
              injection hr2 with hr3 hr4
              subst hr3
              refine ⟨sl (some (.int (i : Nat))) (some (encP p.1)) (some p.2.d), _, s ++ [.lst ((plcs 0 (ks.take i) ++ (done ++ [p]).map (fun p => (i :: p.1, p.2))).map encPt)], rfl, exprS_ok (d := .non) ?_, ck_none _ _, done ++ [p], _, _, ⟨rest, by rw [hr1, List.append_assoc]; rfl, hr4⟩, rfl, rfl⟩
              have hpl : p.1.length ≤ n := (plc_ok hok hlo p (by rw [hr1]; simp)).2.2
              have hs1 : small ([D.int (i : Nat)].length + (p.1.map fun n => D.int (n : Nat)).length) = true := small_of (by simp; omega)
              have hlen : ((plcs 0 (ks.take i) ++ done.map (fun p => (i :: p.1, p.2))).map encPt).length + 1 ≤ 1000000 := by
                have h5 : (plcs 0 (ks.take i) ++ done.map (fun p => (i :: p.1, p.2))).length + 1 ≤ (plcs 0 (ks.take (i + 1))).length := by
                  rw [htake, hr1]
                  simp only [List.length_append, List.length_map, List.length_cons]
                  omega
                rw [List.length_map]
                omega
              have hs2 := small_of hlen
              have hs3 : small ([D.tup (D.int (i : Nat) :: p.1.map fun n => D.int (n : Nat)), p.2.d] : List D).length = true := small_of (by simp)
              have hs4 : small ([D.int (i : Nat)] : List D).length = true := small_of (by simp)
              have hadd : addO (s ++ [.lst ((plcs 0 (ks.take i) ++ done.map (fun p => (i :: p.1, p.2))).map encPt)]) (.tup [.int (i : Nat)]) (encP p.1) = some (.tup (.int (i : Nat) :: p.1.map fun n => D.int (n : Nat))) := by
                show (if small ([D.int (i : Nat)].length + (p.1.map fun n => D.int (n : Nat)).length) = true then some (D.tup ([D.int (i : Nat)] ++ p.1.map fun n => D.int (n : Nat))) else none) = _
                rw [if_pos hs1]
                rfl
              have eACC : (plcs 0 (ks.take i) ++ (done ++ [p]).map (fun p => (i :: p.1, p.2))).map encPt = (plcs 0 (ks.take i) ++ done.map (fun p => (i :: p.1, p.2))).map encPt ++ [encPt (i :: p.1, p.2)] := by simp
              rw [eACC]
              simp only [seqS, setS, bindS, retS, retNS, exprS, ifS, asgS, setIxS, augS, augO, nextS, f1, f2, fN, bindM, liftO, retM, fVar, fC, fTup, fLst, fOwn, fCons, fNil, fB, fTru, fNot, fAnd, fOr, fAndV, fOrV, fIf, asB, truO, fCall, fM0, fM1, tdName, tdTup, tdCons, tdNil, sl, List.getElem?_cons_zero, List.getElem?_cons_succ, lsOf, app_at, Option.map_some, hs4, hs3, if_true, hadd, appendM, hs2, app_set]
              rfl) ((plc ks[i]).map encPt) (sl (some (.int (i : Nat))) x4 x5) (s ++ [.lst ((plcs 0 (ks.take i)).map encPt)]) ⟨[], x4, x5, ⟨plc ks[i], rfl, rfl⟩, rfl, by simp⟩
        obtain ⟨rest, er1, er2⟩ := ed
        have : rest = [] := by
          cases rest with
          | nil => rfl
          | cons _ _ => cases er2
        subst this
        rw [List.append_nil] at er1
        subst er1
        exact ⟨_, _, _, rfl, (forS_of hit (ck_none _ _)).trans el2, ck_none _ _, _, _, _, rfl, by rw [htake]⟩) (sl none none none) (s ++ [.lst []]) ⟨none, none, none, rfl, by simp [plcs]⟩
    rw [List.take_length] at el
    refine (seqS_nx ((forS_of hr (ck_none _ _)).trans el)).trans ?_
    have hlast : (exprS (fM1 appendM (fVar 1) (fCons (fTup (fCons (fTup fNil) (fCons (fVar 0) fNil))) fNil))) (sl x3 x4 x5) (s ++ [.lst ((plcs 0 ks).map encPt)]) = some (.nx (sl x3 x4 x5) (s ++ [.lst ((plc (.node d ks)).map encPt)])) := by
      have hs2 : small (((plcs 0 ks).map encPt).length + 1) = true := by
        refine small_of ?_
        have : (plc (Tr.node d ks)).length = (plcs 0 ks).length + 1 := by
          show (plcs 0 ks ++ [([], Tr.node d ks)]).length = _
          simp
        rw [List.length_map]
        omega
      have hs0 : small ([] : List D).length = true := small_of (by simp)
      have hs3 : small ([D.tup [], d] : List D).length = true := small_of (by simp)
      have e : (plc (Tr.node d ks)).map encPt = (plcs 0 ks).map encPt ++ [.tup [.tup [], d]] := by
        show (plcs 0 ks ++ [([], Tr.node d ks)]).map encPt = _
        rw [List.map_append]
        rfl
      rw [e]
      refine exprS_ok (d := .non) ?_
      simp only [seqS, setS, bindS, retS, retNS, exprS, ifS, asgS, setIxS, augS, augO, nextS, f1, f2, fN, bindM, liftO, retM, fVar, fC, fTup, fLst, fOwn, fCons, fNil, fB, fTru, fNot, fAnd, fOr, fAndV, fOrV, fIf, asB, truO, fCall, fM0, fM1, tdName, tdTup, tdCons, tdNil, sl, List.getElem?_cons_zero, List.getElem?_cons_succ, lsOf, app_at, Option.map_some, hs0, hs3, if_true, appendM, hs2, app_set]
    refine (seqS_nx hlast).trans (retS_ok rfl)
end Pr

set_option Elab.async false
set_option linter.all false
set_option maxRecDepth 100000
set_option maxHeartbeats 4000000
namespace Pr
open PySem L2 PD
/-! ### the program's places -/
def kidsAt (p : List Nat) : Nat → List Tr → List Pt
  | _, [] => []
  | i, t :: ts => (p ++ [i], t) :: kidsAt p (i + 1) ts
def em (x : Pt) : List (List Nat) := ((plc x.2).map fun q => x.1 ++ q.1).reverse
def emit : List Pt → List (List Nat)
  | [] => []
  | x :: xs => emit xs ++ em x
theorem emit_append : ∀ xs ys : List Pt, emit (xs ++ ys) = emit ys ++ emit xs
  | [], ys => by simp [emit]
  | x :: xs, ys => by
    show emit (xs ++ ys) ++ em x = emit ys ++ (emit xs ++ em x)
    rw [emit_append xs ys, List.append_assoc]
theorem em_kids (p : List Nat) : ∀ (ks : List Tr) (i : Nat), ((plcs i ks).map fun (q : Pt) => p ++ q.1).reverse = emit (kidsAt p i ks)
  | [], i => rfl
  | t :: ts, i => by
    show (((plc t).map (fun (q : Pt) => (i :: q.1, q.2)) ++ plcs (i + 1) ts).map fun (q : Pt) => p ++ q.1).reverse = emit (kidsAt p (i + 1) ts) ++ em (p ++ [i], t)
    rw [List.map_append, List.reverse_append, em_kids p ts (i + 1), List.map_map]
    have e : (plc t).map ((fun (q : Pt) => p ++ q.1) ∘ fun (q : Pt) => ((i :: q.1, q.2) : Pt)) = (plc t).map fun (q : Pt) => (p ++ [i]) ++ q.1 := by
      refine List.map_congr_left fun (q : Pt) _ => ?_
      show p ++ i :: q.1 = (p ++ [i]) ++ q.1
      rw [List.append_assoc]
      rfl
    unfold em
    exact congrArg (fun l => emit (kidsAt p (i + 1) ts) ++ List.reverse l) e
theorem em_node (p : List Nat) (d : D) (ks : List Tr) : em (p, .node d ks) = p :: emit (kidsAt p 0 ks) := by
  show ((plcs 0 ks ++ [([], Tr.node d ks)]).map fun (q : Pt) => p ++ q.1).reverse = _
  rw [List.map_append, List.reverse_append, em_kids]
  show [p ++ []] ++ _ = _
  rw [List.append_nil]
  rfl
def wt : List Pt → Nat
  | [] => 0
  | x :: xs => (plc x.2).length + wt xs
theorem wt_append : ∀ xs ys : List Pt, wt (xs ++ ys) = wt xs + wt ys
  | [], ys => by simp [wt]
  | x :: xs, ys => by
    show (plc x.2).length + wt (xs ++ ys) = (plc x.2).length + wt xs + wt ys
    rw [wt_append xs ys]
    omega
theorem wt_kids (p : List Nat) : ∀ (ks : List Tr) (i : Nat), wt (kidsAt p i ks) = (plcs i ks).length
  | [], i => rfl
  | t :: ts, i => by
    show (plc t).length + wt (kidsAt p (i + 1) ts) = ((plc t).map (fun q => (i :: q.1, q.2)) ++ plcs (i + 1) ts).length
    rw [wt_kids p ts (i + 1), List.length_append, List.length_map]
theorem wt_node (d : D) (ks : List Tr) (p : List Nat) : (plc (.node d ks)).length = wt (kidsAt p 0 ks) + 1 := by
  show (plcs 0 ks ++ [([], Tr.node d ks)]).length = _
  rw [List.length_append, wt_kids]
  rfl
theorem emit_len : ∀ xs : List Pt, (emit xs).length = wt xs
  | [] => rfl
  | x :: xs => by
    show (emit xs ++ em x).length = (plc x.2).length + wt xs
    rw [List.length_append, emit_len xs]
    unfold em
    rw [List.length_reverse, List.length_map]
    omega
theorem wt_ge : ∀ xs : List Pt, (∀ x ∈ xs, 0 < (plc x.2).length) → xs.length ≤ wt xs
  | [], _ => Nat.le_refl _
  | x :: xs, h => by
    have h1 := h x List.mem_cons_self
    have h2 := wt_ge xs fun y hy => h y (List.mem_cons_of_mem _ hy)
    show xs.length + 1 ≤ (plc x.2).length + wt xs
    omega
/-- what waits: good, its places short -/
def GoodW (W : List Pt) : Prop := ∀ x ∈ W, ∃ n, Ok n x.2 ∧ D.low 0 x.2.d = true ∧ x.1.length + n ≤ 9
theorem kidsAt_good {n : Nat} (p : List Nat) : ∀ (ks : List Tr) (i : Nat), (∀ k ∈ ks, Ok n k ∧ D.low 0 k.d = true) → p.length + (n + 1) ≤ 9 → GoodW (kidsAt p i ks)
  | [], i, _, _ => fun x hx => by cases hx
  | t :: ts, i, h, hl => fun x hx => by
    rcases List.mem_cons.mp hx with rfl | hx
    · obtain ⟨a, b⟩ := h t List.mem_cons_self
      exact ⟨n, a, b, by simp; omega⟩
    · exact kidsAt_good p ts (i + 1) (fun k hk => h k (List.mem_cons_of_mem _ hk)) hl x hx
def encW (x : Pt) : D := .tup [encP x.1, x.2.d]
noncomputable abbrev poBody : SD := (seqS (asgS (tdTup (tdCons (tdName 3) (tdCons (tdName 4) tdNil))) (fM0 popM (fVar 1)))
    (seqS (exprS (fM1 appendM (fVar 2) (fCons (fVar 3) fNil)))
    (forS (tdTup (tdCons (tdName 5) (tdCons (tdName 6) tdNil))) (fEnum (fCall 1 D_bodies_within (fCons (fVar 4) fNil))) (exprS (fM1 appendM (fVar 1) (fCons (fTup (fCons (f2 addO (fVar 3) (fTup (fCons (fVar 5) fNil))) (fCons (fVar 6) fNil))) fNil))))))
/-- one turn of the loop -/
theorem po_turn (s : Sto) (b : D) (W : List Pt) (p : List Nat) (t : Tr) (Bk : List (List Nat)) (x3 x4 x5 x6 : Option D) (n : Nat) (hok : Ok n t) (hlow : D.low 0 t.d = true) (hp : p.length + n ≤ 9) (hW : W.length ≤ 300000) (hB : Bk.length ≤ 300000) :
    ∃ y3 y4 y5 y6, poBody [some b, some (.own s.length), some (.own (s.length + 1)), x3, x4, x5, x6] (s ++ [.lst ((W ++ [(p, t)]).map encW), .lst (Bk.map encP)])
      = some (.nx [some b, some (.own s.length), some (.own (s.length + 1)), y3, y4, y5, y6] (s ++ [.lst ((W ++ kidsAt p 0 t.ks).map encW), .lst ((Bk ++ [p]).map encP)])) := by
  obtain ⟨d, ks⟩ := t
  obtain ⟨n', en, hf, hk, h3, hkT, hlk⟩ := hok.parts hlow
  have within := within_eq hf hkT hlk (by rw [List.length_map]; exact h3)
  let sl (x3 x4 x5 x6 : Option D) : Sl := [some b, some (.own s.length), some (.own (s.length + 1)), x3, x4, x5, x6]
  -- the pop
  have s1 : (asgS (tdTup (tdCons (tdName 3) (tdCons (tdName 4) tdNil))) (fM0 popM (fVar 1))) (sl x3 x4 x5 x6) (s ++ [.lst ((W ++ [(p, Tr.node d ks)]).map encW), .lst (Bk.map encP)])
      = some (.nx (sl (some (encP p)) (some d) x5 x6) (s ++ [.lst (W.map encW), .lst (Bk.map encP)])) := by
    have hl : ((W ++ [(p, Tr.node d ks)]).map encW)[((W ++ [(p, Tr.node d ks)]).map encW).length - 1]? = some (.tup [encP p, d]) := by
      rw [List.map_append, List.length_append]
      show (W.map encW ++ [encW (p, Tr.node d ks)])[(W.map encW).length + 1 - 1]? = _
      rw [Nat.add_sub_cancel, List.getElem?_append_right (Nat.le_refl _), Nat.sub_self]
      rfl
    have hd : ((W ++ [(p, Tr.node d ks)]).map encW).dropLast = W.map encW := by
      rw [List.map_append]
      exact List.dropLast_concat
    simp only [seqS, setS, bindS, retS, retNS, exprS, ifS, asgS, setIxS, augS, augO, nextS, f1, f2, fN, bindM, liftO, retM, fVar, fC, fTup, fLst, fOwn, fCons, fNil, fB, fTru, fNot, fAnd, fOr, fAndV, fOrV, fIf, asB, truO, fCall, fM0, fM1, tdName, tdTup, tdCons, tdNil, sl, List.getElem?_cons_zero, List.getElem?_cons_succ, lsOf, app_at, Option.map_some, popM, hl, hd, app_set, List.set_cons_zero, List.set_cons_succ]
  -- the append
  have s2 : (exprS (fM1 appendM (fVar 2) (fCons (fVar 3) fNil))) (sl (some (encP p)) (some d) x5 x6) (s ++ [.lst (W.map encW), .lst (Bk.map encP)])
      = some (.nx (sl (some (encP p)) (some d) x5 x6) (s ++ [.lst (W.map encW), .lst ((Bk ++ [p]).map encP)])) := by
    have hsm : small ((Bk.map encP).length + 1) = true := small_of (by rw [List.length_map]; omega)
    refine exprS_ok (d := .non) ?_
    simp only [seqS, setS, bindS, retS, retNS, exprS, ifS, asgS, setIxS, augS, augO, nextS, f1, f2, fN, bindM, liftO, retM, fVar, fC, fTup, fLst, fOwn, fCons, fNil, fB, fTru, fNot, fAnd, fOr, fAndV, fOrV, fIf, asB, truO, fCall, fM0, fM1, tdName, tdTup, tdCons, tdNil, sl, List.getElem?_cons_zero, List.getElem?_cons_succ, lsOf, app_at1, Option.map_some, appendM, hsm, if_true, app_set1, List.map_append, List.map_cons, List.map_nil]
  -- the kids
  have hit : (fEnum (fCall 1 D_bodies_within (fCons (fVar 4) fNil))) (sl (some (encP p)) (some d) x5 x6) (s ++ [.lst (W.map encW), .lst ((Bk ++ [p]).map encP)]) = some (.ok (enumD 0 (ks.map Tr.d), none) (s ++ [.lst (W.map encW), .lst ((Bk ++ [p]).map encP)])) := by
    have hc : fCall 1 D_bodies_within (fCons (fVar 4) fNil) (sl (some (encP p)) (some d) x5 x6) (s ++ [.lst (W.map encW), .lst ((Bk ++ [p]).map encP)]) = _ := fCall_eq rfl rfl (within _)
    unfold fEnum bindM
    rw [hc]
    rfl
  have hloop : ∀ (ks' : List Tr) (i : Nat) (W' : List Pt) (x5 x6 : Option D), W'.length + ks'.length ≤ 300010 → ∃ y5 y6, forL (tdTup (tdCons (tdName 5) (tdCons (tdName 6) tdNil))) (exprS (fM1 appendM (fVar 1) (fCons (fTup (fCons (f2 addO (fVar 3) (fTup (fCons (fVar 5) fNil))) (fCons (fVar 6) fNil))) fNil))) (enumD 0 (ks.map Tr.d), none)
      (enumD i (ks'.map Tr.d)) (sl (some (encP p)) (some d) x5 x6) (s ++ [.lst (W'.map encW), .lst ((Bk ++ [p]).map encP)]) = some (.nx (sl (some (encP p)) (some d) y5 y6) (s ++ [.lst ((W' ++ kidsAt p i ks').map encW), .lst ((Bk ++ [p]).map encP)])) := by
    intro ks'
    induction ks' with
    | nil =>
      intro i W' x5 x6 _
      refine ⟨x5, x6, ?_⟩
      show some _ = _
      rw [show kidsAt p i [] = [] from rfl, List.append_nil]
    | cons k r ih =>
      intro i W' x5 x6 hlen
      obtain ⟨y5, y6, e⟩ := ih (i + 1) (W' ++ [(p ++ [i], k)]) (some (.int (i : Nat))) (some k.d) (by simp at hlen ⊢; omega)
      refine ⟨y5, y6, ?_⟩
      show forL _ _ _ (D.tup [.int (i : Nat), k.d] :: enumD (i + 1) (r.map Tr.d)) _ _ = _
      rw [List.append_assoc] at e
      refine (forL_cons (sl1 := sl (some (encP p)) (some d) (some (.int (i : Nat))) (some k.d)) rfl (exprS_ok (d := .non) (s' := s ++ [.lst ((W' ++ [(p ++ [i], k)]).map encW), .lst ((Bk ++ [p]).map encP)]) ?_) (ck_none _ _)).trans e
      have h0 : small ([D.int (i : Nat)] : List D).length = true := small_of (by simp)
      have h1 : small ((p.map fun n => D.int (n : Nat)).length + ([D.int (i : Nat)] : List D).length) = true := small_of (by simp; omega)
      have h2 : small ([encP (p ++ [i]), k.d] : List D).length = true := small_of (by simp)
      have h4 : small ((W'.map encW).length + 1) = true := small_of (by simp at hlen ⊢; omega)
      have hadd : addO (s ++ [.lst (W'.map encW), .lst ((Bk ++ [p]).map encP)]) (encP p) (.tup [.int (i : Nat)]) = some (encP (p ++ [i])) := by
        show (if small ((p.map fun n => D.int (n : Nat)).length + ([D.int (i : Nat)] : List D).length) = true then some (D.tup ((p.map fun n => D.int (n : Nat)) ++ [.int (i : Nat)])) else none) = _
        rw [if_pos h1]
        unfold encP
        rw [List.map_append]
        rfl
      have eW : (W' ++ [(p ++ [i], k)]).map encW = W'.map encW ++ [.tup [encP (p ++ [i]), k.d]] := by simp [encW]
      rw [eW]
      simp only [seqS, setS, bindS, retS, retNS, exprS, ifS, asgS, setIxS, augS, augO, nextS, f1, f2, fN, bindM, liftO, retM, fVar, fC, fTup, fLst, fOwn, fCons, fNil, fB, fTru, fNot, fAnd, fOr, fAndV, fOrV, fIf, asB, truO, fCall, fM0, fM1, tdName, tdTup, tdCons, tdNil, sl, List.getElem?_cons_zero, List.getElem?_cons_succ, lsOf, app_at, Option.map_some, h0, h2, if_true, hadd, appendM, h4, app_set]
  obtain ⟨y5, y6, el⟩ := hloop ks 0 W x5 x6 (by omega)
  exact ⟨_, _, _, _, (seqS_nx s1).trans ((seqS_nx s2).trans ((forS_of hit (ck_none _ _)).trans el))⟩
theorem po_while (s : Sto) (b : D) : ∀ (k : Nat) (W : List Pt) (Bk : List (List Nat)) (x3 x4 x5 x6 : Option D), wt W = k → GoodW W → k + Bk.length ≤ 300000 →
    ∃ y3 y4 y5 y6, whileN (fTru (fVar 1)) poBody (k + 1) [some b, some (.own s.length), some (.own (s.length + 1)), x3, x4, x5, x6] (s ++ [.lst (W.map encW), .lst (Bk.map encP)])
      = some (.nx [some b, some (.own s.length), some (.own (s.length + 1)), y3, y4, y5, y6] (s ++ [.lst [], .lst ((Bk ++ emit W).map encP)])) := by
  intro k
  induction k using Nat.strongRecOn with
  | ind k ih =>
    intro W Bk x3 x4 x5 x6 hw hg hlen
    have test : ∀ (V : List Pt), (fTru (fVar 1)) [some b, some (.own s.length), some (.own (s.length + 1)), x3, x4, x5, x6] (s ++ [.lst (V.map encW), .lst (Bk.map encP)]) = some (.ok (!(V.map encW).isEmpty) (s ++ [.lst (V.map encW), .lst (Bk.map encP)])) := fun V => by
      simp only [seqS, setS, bindS, retS, retNS, exprS, ifS, asgS, setIxS, augS, augO, nextS, f1, f2, fN, bindM, liftO, retM, fVar, fC, fTup, fLst, fOwn, fCons, fNil, fB, fTru, fNot, fAnd, fOr, fAndV, fOrV, fIf, asB, truO, fCall, fM0, fM1, tdName, tdTup, tdCons, tdNil, List.getElem?_cons_zero, List.getElem?_cons_succ, seqOf, lsOf, app_at, Option.map_some]
    have hcase : W = [] ∨ ∃ (W' : List Pt) (p : List Nat) (t : Tr), W = W' ++ [(p, t)] := by
      rcases List.eq_nil_or_concat W with h | ⟨W', ⟨p, t⟩, h⟩
      · exact .inl h
      · exact .inr ⟨W', p, t, by rw [h, List.concat_eq_append]⟩
    rcases hcase with rfl | ⟨W', p, t, rfl⟩
    · refine ⟨x3, x4, x5, x6, ?_⟩
      unfold whileN
      rw [test]
      simp only [List.map_nil, List.isEmpty_nil, Bool.not_true]
      show some (RS.nx _ (s ++ [.lst [], .lst (Bk.map encP)])) = some (RS.nx _ (s ++ [.lst [], .lst ((Bk ++ []).map encP)]))
      rw [List.append_nil]
    · have hgx := hg (p, t) (by simp)
      obtain ⟨n, hok, hlow, hpn⟩ := hgx
      have hpos : 0 < (plc t).length := (plc_len hok).2
      have hwt : wt (W' ++ [(p, t)]) = wt W' + (plc t).length := by
        rw [wt_append]
        rfl
      have hge : ∀ x ∈ W', 0 < (plc x.2).length := fun x hx => by
        obtain ⟨m, h, _⟩ := hg x (by simp [hx])
        exact (plc_len h).2
      have hW'l := wt_ge W' hge
      obtain ⟨d, ks⟩ := t
      have hnode := wt_node d ks p
      obtain ⟨y3, y4, y5, y6, e1⟩ := po_turn s b W' p (.node d ks) Bk x3 x4 x5 x6 n hok hlow hpn (by omega) (by omega)
      obtain ⟨n', en, hf, hk, h3, hkT, hlk⟩ := hok.parts hlow
      have hw2 : wt (W' ++ kidsAt p 0 ks) = k - 1 := by
        rw [wt_append]
        omega
      obtain ⟨z3, z4, z5, z6, e2⟩ := ih (k - 1) (by omega) (W' ++ kidsAt p 0 ks) (Bk ++ [p]) y3 y4 y5 y6 hw2 (fun x hx => by
        rcases List.mem_append.mp hx with q | q
        · exact hg x (by simp [q])
        · exact kidsAt_good p ks 0 hk (by have := hpn; show p.length + (n' + 1) ≤ 9; simp only at this; omega) x q) (by rw [List.length_append]; simp; omega)
      refine ⟨z3, z4, z5, z6, ?_⟩
      have hk1 : k - 1 + 1 = k := by omega
      rw [hk1] at e2
      unfold whileN
      rw [test]
      have hne : ((W' ++ [(p, Tr.node d ks)]).map encW).isEmpty = false := by simp
      rw [hne]
      simp only [Bool.not_false]
      have e1' : poBody [some b, some (.own s.length), some (.own (s.length + 1)), x3, x4, x5, x6] (s ++ [.lst ((W' ++ [(p, Tr.node d ks)]).map encW), .lst (Bk.map encP)]) = _ := e1
      rw [e1']
      simp only
      have e3 : emit (W' ++ [(p, Tr.node d ks)]) = p :: emit (W' ++ kidsAt p 0 ks) := by
        rw [emit_append, emit_append]
        show (emit [] ++ em (p, Tr.node d ks)) ++ emit W' = _
        rw [em_node]
        rfl
      rw [e3]
      refine e2.trans ?_
      rw [List.append_assoc]
      rfl
theorem places_of_eq {n : Nat} {t : Tr} (h : Ok n t) (h9 : n ≤ 9) (hl : D.low 0 t.d = true) (s : Sto) : D_places_of [t.d] s = some (.ok (.own s.length) (s ++ [.lst ((plc t).map fun p => encP p.1)])) := by
  have hlen := plc_len h
  have hp9 := pow_le n h9
  have hem : emit [(([] : List Nat), t)] = ((plc t).map fun p => p.1).reverse := by
    show [] ++ em ([], t) = _
    rw [List.nil_append]
    unfold em
    congr 1
  obtain ⟨y3, y4, y5, y6, e⟩ := po_while s t.d (plc t).length [([], t)] [] none none none none (by simp [wt]) (fun x hx => by
    rw [List.mem_singleton.mp hx]
    exact ⟨n, h, hl, by simp; omega⟩) (by simp; omega)
  rw [List.nil_append, hem] at e
  unfold D_places_of
  have hrev : ((((plc t).map fun p => p.1).reverse).map encP).reverse = (plc t).map fun p => encP p.1 := by
    rw [List.map_reverse, List.reverse_reverse, List.map_map]
    rfl
  have hlowP : D.lowAll s.length ((plc t).map fun p => encP p.1) = true := by
    rw [lowAll_iff]
    intro d hd
    obtain ⟨p, _, rfl⟩ := List.mem_map.mp hd
    exact low_encP _ _
  refine fnD_rt (d := .own (s.length + 2)) (s' := s ++ [.lst [], .lst ((((plc t).map fun p => p.1).reverse).map encP), .lst ((plc t).map fun p => encP p.1)]) ?_ (closeM_keep rfl (keeps_refl s) (Nat.le_add_right _ _) ?_ hlowP)
  · unfold g_places_of
    show seqS _ _ [some t.d, none, none, none, none, none, none] s = _
    have h0 : small ([] : List D).length = true := small_of (by simp)
    have h1 : small ([D.tup [D.tup [], t.d]] : List D).length = true := small_of (by simp)
    have h2 : small ([D.tup [], t.d] : List D).length = true := small_of (by simp)
    refine (seqS_nx (setS_ok (d := .own s.length) (s' := s ++ [.lst [.tup [.tup [], t.d]]]) (by simp only [seqS, setS, bindS, retS, retNS, exprS, ifS, asgS, setIxS, augS, augO, nextS, f1, f2, fN, bindM, liftO, retM, fVar, fC, fTup, fLst, fOwn, fCons, fNil, fB, fTru, fNot, fAnd, fOr, fAndV, fOrV, fIf, asB, truO, fCall, fM0, fM1, tdName, tdTup, tdCons, tdNil, List.getElem?_cons_zero, h0, h1, h2, if_true]))).trans ?_
    refine (seqS_nx (setS_ok (d := .own (s.length + 1)) (s' := s ++ [.lst [.tup [.tup [], t.d]], .lst []]) (by simp only [seqS, setS, bindS, retS, retNS, exprS, ifS, asgS, setIxS, augS, augO, nextS, f1, f2, fN, bindM, liftO, retM, fVar, fC, fTup, fLst, fOwn, fCons, fNil, fB, fTru, fNot, fAnd, fOr, fAndV, fOrV, fIf, asB, truO, fCall, fM0, fM1, tdName, tdTup, tdCons, tdNil, h0, if_true, List.length_append, List.length_singleton, List.append_assoc]; rfl))).trans ?_
    have e' : whileS (fTru (fVar 1)) poBody [some t.d, some (.own s.length), some (.own (s.length + 1)), none, none, none, none] (s ++ [.lst [.tup [.tup [], t.d]], .lst []]) = _ := whileS_eq e
    refine (seqS_nx e').trans (retS_ok ?_)
    have hat : (s ++ [.lst [], .lst ((((plc t).map fun p => p.1).reverse).map encP)])[s.length + 1]? = some (.lst ((((plc t).map fun p => p.1).reverse).map encP)) := app_at1 _ _ _ _
    simp only [fRevOwn, fVar, bindM, List.getElem?_cons_zero, List.getElem?_cons_succ, revOwnM, lsOf, hat, hrev, List.length_append, List.length_cons, List.length_nil, List.append_assoc]
    rfl
  · have : s ++ [.lst [], .lst ((((plc t).map fun p => p.1).reverse).map encP), .lst ((plc t).map fun p => encP p.1)] = (s ++ [.lst [], .lst ((((plc t).map fun p => p.1).reverse).map encP)]) ++ [.lst ((plc t).map fun p => encP p.1)] := by rw [List.append_assoc]; rfl
    rw [this]
    have := app_at (s ++ [.lst [], .lst ((((plc t).map fun p => p.1).reverse).map encP)]) (.lst ((plc t).map fun p => encP p.1)) []
    rw [List.length_append] at this
    exact this
end Pr

set_option Elab.async false
set_option linter.all false
set_option maxRecDepth 100000
set_option maxHeartbeats 4000000
namespace Pr
open PySem L2 PD
/-! ### plain data -/
/-- plain, and at most n deep -/
structure Pl (n : Nat) (d : D) : Prop where
  low : D.low 0 d = true
  lay : (py d).canLay0 = true
  deep : (py d).depth ≤ n
theorem Pl.mono {m n : Nat} {d : D} (h : Pl m d) (hn : m ≤ n) : Pl n d := ⟨h.low, h.lay, Nat.le_trans h.deep hn⟩
theorem pl_int (n : Nat) (i : Int) : Pl n (.int i) := ⟨rfl, rfl, by show PyData.depth (.int i) ≤ n; simp [PyData.depth]⟩
theorem pl_str {k : Nat} (n : Nat) {x : Str} (h : OkS k x) : Pl n (.str x) := by
  refine ⟨rfl, ?_, by show PyData.depth (.str x) ≤ n; simp [PyData.depth]⟩
  show PyData.strOk x = true
  unfold PyData.strOk
  rw [Array.all_eq_true']
  intro c hc
  exact decide_eq_true (h.cps c (by simpa using hc))
theorem pl_all {n : Nat} : ∀ {ds : List D}, (∀ d ∈ ds, Pl n d) → D.lowAll 0 ds = true ∧ PyData.canLayAll0 (pyAll ds) = true ∧ PyData.depthAll (pyAll ds) ≤ n
  | [], _ => ⟨rfl, rfl, by simp [pyAll, PyData.depthAll]⟩
  | d :: ds, h => by
    obtain ⟨a, b, c⟩ := pl_all (ds := ds) fun x hx => h x (List.mem_cons_of_mem _ hx)
    have e := h d List.mem_cons_self
    refine ⟨?_, ?_, ?_⟩
    · show (D.low 0 d && D.lowAll 0 ds) = true
      rw [e.low, a]; rfl
    · show ((py d).canLay0 && PyData.canLayAll0 (pyAll ds)) = true
      rw [e.lay, b]; rfl
    · have := e.deep
      simp only [pyAll, PyData.depthAll]
      omega
theorem pl_tup {n : Nat} {ds : List D} (h : ∀ d ∈ ds, Pl n d) : Pl (n + 1) (.tup ds) := by
  obtain ⟨a, b, c⟩ := pl_all h
  refine ⟨a, b, ?_⟩
  show PyData.depth (.tuple (pyAll ds)) ≤ n + 1
  simp only [PyData.depth]
  omega
theorem pl_lst {n : Nat} {ds : List D} (h : ∀ d ∈ ds, Pl n d) : Pl (n + 1) (.lst ds) := by
  obtain ⟨a, b, c⟩ := pl_all h
  refine ⟨a, b, ?_⟩
  show PyData.depth (.list (pyAll ds)) ≤ n + 1
  simp only [PyData.depth]
  omega
theorem pl_scr {n : Nat} {ds : List D} (h : ∀ d ∈ ds, Pl n d) : Pl (n + 1) (.scr ds) := by
  obtain ⟨a, b, c⟩ := pl_all h
  refine ⟨a, b, ?_⟩
  show PyData.depth (.list (pyAll ds)) ≤ n + 1
  simp only [PyData.depth]
  omega
theorem Pl.shaped {d : D} (h : Pl 64 d) : SeqAt.shaped (py d) = true := Bool.and_eq_true_iff.mpr ⟨h.lay, decide_eq_true h.deep⟩
theorem plainPy_of {s : Sto} {d : D} (h : Pl 64 (peek s d)) : plainPy s d = some (py (peek s d)) := by
  unfold plainPy
  rw [h.low, h.shaped]
  rfl
theorem pl_encP (n : Nat) (p : List Nat) : Pl (n + 1) (encP p) := pl_tup fun d hd => by
  obtain ⟨x, _, rfl⟩ := List.mem_map.mp hd
  exact pl_int n _
theorem okW (x : String) (h : (decide ((S x).length ≤ 13) && (S x).cps.toList.all (· < 1114112)) = true) (n : Nat) : Pl n (.str (S x)) := pl_str n (okS x h)
theorem Form.pl {d : D} {ks : List D} {n : Nat} (h : Form d ks) (hk : ∀ k ∈ ks, Pl n k) : Pl (n + 3) d := by
  cases h with
  | num i => exact (pl_tup (n := n + 2) fun x hx => by
      simp at hx
      rcases hx with rfl | rfl
      · exact okW _ (by decide +kernel) _
      · exact pl_int _ _)
  | inp i => exact (pl_tup (n := n + 2) fun x hx => by
      simp at hx
      rcases hx with rfl | rfl
      · exact okW _ (by decide +kernel) _
      · exact pl_int _ _)
  | make fs hfs => exact (pl_tup (n := n + 2) fun x hx => by
      simp only [List.mem_cons, List.not_mem_nil, or_false] at hx
      rcases hx with rfl | rfl
      · exact okW _ (by decide +kernel) _
      · exact pl_tup (n := n + 1) fun y hy => by
          obtain ⟨f, hf, rfl⟩ := List.mem_map.mp hy
          exact pl_tup (n := n) fun z hz => by
            simp only [List.mem_cons, List.not_mem_nil, or_false] at hz
            rcases hz with rfl | rfl
            · exact pl_str _ (hfs f hf)
            · exact hk _ (List.mem_map.mpr ⟨f, hf, rfl⟩))
  | get b l hl => exact (pl_tup (n := n + 2) fun x hx => by
      simp only [List.mem_cons, List.not_mem_nil, or_false] at hx
      rcases hx with rfl | rfl | rfl
      · exact okW _ (by decide +kernel) _
      · exact (hk _ (by simp)).mono (by omega)
      · exact pl_str _ hl)
  | put b c l hl => exact (pl_tup (n := n + 2) fun x hx => by
      simp only [List.mem_cons, List.not_mem_nil, or_false] at hx
      rcases hx with rfl | rfl | rfl | rfl
      · exact okW _ (by decide +kernel) _
      · exact (hk _ (by simp)).mono (by omega)
      · exact pl_str _ hl
      · exact (hk _ (by simp)).mono (by omega))
  | sum b c => exact (pl_tup (n := n + 2) fun x hx => by
      simp only [List.mem_cons, List.not_mem_nil, or_false] at hx
      rcases hx with rfl | rfl | rfl
      · exact okW _ (by decide +kernel) _
      · exact (hk _ (by simp)).mono (by omega)
      · exact (hk _ (by simp)).mono (by omega))
  | iff b c e => exact (pl_tup (n := n + 2) fun x hx => by
      simp only [List.mem_cons, List.not_mem_nil, or_false] at hx
      rcases hx with rfl | rfl | rfl | rfl
      · exact okW _ (by decide +kernel) _
      · exact (hk _ (by simp)).mono (by omega)
      · exact (hk _ (by simp)).mono (by omega)
      · exact (hk _ (by simp)).mono (by omega))
  | call nm bs hn => exact (pl_tup (n := n + 2) fun x hx => by
      simp only [List.mem_cons, List.not_mem_nil, or_false] at hx
      rcases hx with rfl | rfl | rfl
      · exact okW _ (by decide +kernel) _
      · exact pl_str _ hn
      · exact (pl_tup (n := n + 1) fun y hy => (hk y hy).mono (by omega)))
theorem Ok.pl {n : Nat} {t : Tr} (h : Ok n t) : Pl (3 * n) t.d := by
  induction h with
  | @mk n d ks hf hk hl ih =>
    have := hf.pl (n := 3 * n) fun k hk' => by
      obtain ⟨t, ht, rfl⟩ := List.mem_map.mp hk'
      exact ih t ht
    exact this.mono (by omega)
/-- equal lists -/
theorem eqO_same {neg : Bool} {s : Sto} {d e : D} (hd : Pl 64 (peek s d)) (he : py (peek s d) = py (peek s e)) (hl : Pl 64 (peek s e)) (hn : scD d = none) : eqO neg s d e = some (.bl (ng neg true)) := by
  have h1 := plainPy_of hd
  have h2 := plainPy_of hl
  have h3 := plain_eq h1
  unfold eqO eqBo
  rw [hn]
  simp only [deepB, h1, h2]
  rw [← he, h3]
  rfl
/-! ### the body at a place -/
theorem mem_plcs {p : Pt} : ∀ {xs : List Tr} {i : Nat}, p ∈ plcs i xs → ∃ j t q, xs[j]? = some t ∧ q ∈ plc t ∧ p = ((i + j) :: q.1, q.2)
  | [], i, h => by cases h
  | t :: ts, i, h => by
    have h' : p ∈ (plc t).map (fun (q : Pt) => ((i :: q.1, q.2) : Pt)) ++ plcs (i + 1) ts := h
    rcases List.mem_append.mp h' with k | k
    · obtain ⟨q, hq, rfl⟩ := List.mem_map.mp k
      exact ⟨0, t, q, rfl, hq, rfl⟩
    · obtain ⟨j, u, q, h1, h2, h3⟩ := mem_plcs k
      refine ⟨j + 1, u, q, h1, h2, ?_⟩
      rw [h3, show i + 1 + j = i + (j + 1) by omega]
noncomputable abbrev apBody : SD := setS 2 (f2 ixO (fCall 1 D_bodies_within (fCons (fVar 2) fNil)) (fVar 3))
theorem plc_at {n : Nat} {t : Tr} (h : Ok n t) : D.low 0 t.d = true → ∀ p ∈ plc t, ∀ (xs : List D) (b pl : D) (x3 : Option D) (s : Sto), ∃ y3, forL (tdName 3) apBody (xs, none) (p.1.map fun n => D.int (n : Nat)) [some b, some pl, some t.d, x3] s = some (.nx [some b, some pl, some p.2.d, y3] s) := by
  induction h with
  | @mk n d ks hf hk hl ih =>
    intro hlow p hp xs b pl x3 s
    have hok : Ok (n + 1) (.node d ks) := .mk hf hk hl
    obtain ⟨n', en, _, hk', h3, hkT, hlk⟩ := hok.parts hlow
    have within := within_eq hf hkT hlk (by rw [List.length_map]; exact h3) s
    have hp' : p ∈ plcs 0 ks ++ [([], Tr.node d ks)] := hp
    rcases List.mem_append.mp hp' with q | q
    · obtain ⟨j, t, q', hj, hq, rfl⟩ := mem_plcs q
      have hm : t ∈ ks := List.mem_iff_getElem?.mpr ⟨j, hj⟩
      obtain ⟨y3, e⟩ := ih t hm (hk' t hm).2 q' hq xs b pl (some (.int ((0 + j : Nat) : Int))) s
      refine ⟨y3, ?_⟩
      refine (forL_cons (sl1 := [some b, some pl, some d, some (.int ((0 + j : Nat) : Int))]) (sl2 := [some b, some pl, some t.d, some (.int ((0 + j : Nat) : Int))]) rfl (setS_ok (d := t.d) (s' := s) ?_) (ck_none _ _)).trans e
      have hc : fCall 1 D_bodies_within (fCons (fVar 2) fNil) [some b, some pl, some d, some (.int ((0 + j : Nat) : Int))] s = some (.ok (.lst (ks.map Tr.d)) s) := fCall_eq rfl rfl within
      have ha : atI (ks.map Tr.d) ((0 + j : Nat) : Int) = some t.d := atI_nat (by rw [Nat.zero_add, List.getElem?_map, hj]; rfl)
      simp only [f2, bindM, hc, fVar, List.getElem?_cons_zero, List.getElem?_cons_succ, liftO, ixO, seqOf, lsOf, Option.bind_some, ha]
    · rw [List.mem_singleton.mp q]
      exact ⟨x3, rfl⟩
theorem at_place_eq {n : Nat} {t : Tr} (h : Ok n t) (hl : D.low 0 t.d = true) (p : Pt) (hp : p ∈ plc t) (s : Sto) : D_at_place [t.d, encP p.1] s = some (.ok p.2.d s) := by
  obtain ⟨h1, h2, _⟩ := plc_ok h hl p hp
  have hT := h1.isT
  unfold D_at_place
  refine fnD_rt (d := p.2.d) (s' := s) ?_ (fin_same s _ (low_mono (Nat.zero_le _) _ h2) fun k z => by
    obtain ⟨xs, e⟩ := hT
    rw [e] at z
    cases z)
  unfold g_at_place
  show seqS _ _ [some t.d, some (encP p.1), none, none] s = _
  obtain ⟨y3, e⟩ := plc_at h hl p hp (p.1.map fun n => D.int (n : Nat)) t.d (encP p.1) none s
  refine (seqS_nx (setS_ok (d := t.d) (s' := s) rfl)).trans ?_
  exact (seqS_nx ((forS_of (a := (p.1.map fun n => D.int (n : Nat), none)) rfl (ck_none _ _)).trans e)).trans (retS_ok rfl)
end Pr

set_option Elab.async false
set_option linter.all false
set_option maxRecDepth 100000
set_option maxHeartbeats 4000000
namespace Pr
open PySem L2 PD
/-! ### the law -/
theorem fOr_ff {u v : Sl → M Bool} {sl : Sl} {s s1 s2 : Sto} (h1 : u sl s = some (.ok false s1)) (h2 : v sl s1 = some (.ok false s2)) : fOr u v sl s = some (.ok false s2) := by
  simp [fOr, bindM, h1, h2]
theorem fNot_of {u : Sl → M Bool} {sl : Sl} {s s1 : Sto} {b : Bool} (h1 : u sl s = some (.ok b s1)) : fNot u sl s = some (.ok (!b) s1) := by
  simp [fNot, bindM, retM, h1]
theorem fB_of {f : Sl → M D} {sl : Sl} {s s1 : Sto} {b : Bool} (h1 : f sl s = some (.ok (.bl b) s1)) : fB f sl s = some (.ok b s1) := by
  simp [fB, bindM, liftO, asB, h1]
theorem f2_of {o : Sto → D → D → Option D} {f g : Sl → M D} {sl : Sl} {s s1 s2 : Sto} {x y z : D} (h1 : f sl s = some (.ok x s1)) (h2 : g sl s1 = some (.ok y s2)) (h3 : o s2 x y = some z) : f2 o f g sl s = some (.ok z s2) := by
  simp [f2, bindM, liftO, h1, h2, h3]
abbrev P1 (t : Tr) : List D := (plc t).map fun (p : Pt) => encP p.1
abbrev P2 (t : Tr) : List D := (plc t).map fun (p : Pt) => p.2.d
/-- the slots -/
abbrev sl0 (s l b d f : D) (x7 x8 x9 : Option D) : Sl := [some s, some (.own 0), some l, some knownD, some b, some d, some f, x7, x8, x9]
theorem due_lc (t : Tr) (n : Nat) (k : Nat) (y : Pt → D) (hn : (plc t).length ≤ 1000000) (hy : ∀ p : Pt, ixO [] (encPt p) (.int k) = some (y p)) (hi : ∀ (s : Sto) (p : Pt), ixO s (encPt p) (.int k) = ixO [] (encPt p) (.int k)) (sc l b f : D) (x7 x8 x9 : Option D) (s : Sto) :
    (fLc (tdName 7) fYes (f2 ixO (fVar 7) (fC (.int k))) (fIt (fVar 5)) [7]) (sl0 sc l b (.lst ((plc t).map encPt)) f x7 x8 x9) s = some (.ok (.lst ((plc t).map y)) s) := by
  refine fLc_pure (xs := (plc t).map encPt) rfl ?_ (by rw [List.length_map]; omega)
  have go : ∀ ps : List Pt, lcL (tdName 7) fYes (f2 ixO (fVar 7) (fC (.int k))) ((plc t).map encPt, none) (wipeS (sl0 sc l b (.lst ((plc t).map encPt)) f x7 x8 x9) [7]) (ps.map encPt) s = some (.ok (ps.map y) s) := by
    intro ps
    induction ps with
    | nil => rfl
    | cons p r ih =>
      have e1 : (f2 ixO (fVar 7) (fC (.int k))) (sl0 sc l b (.lst ((plc t).map encPt)) f (some (encPt p)) x8 x9) s = some (.ok (y p) s) := f2_of (x := encPt p) (y := .int k) rfl rfl ((hi s p).trans (hy p))
      show lcL _ _ _ _ _ (encPt p :: r.map encPt) s = _
      unfold lcL
      show bindM (noex (fYes _)) _ s = _
      simp only [bindM, noex, fYes, retM, if_true, ckM]
      have e1' : (f2 ixO (fVar 7) (fC (.int k))) ((wipeS (sl0 sc l b (.lst ((plc t).map encPt)) f x7 x8 x9) [7]).set 7 (some (encPt p))) s = some (.ok (y p) s) := e1
      simp only [e1', if_pos (ck_none _ _), ih]
      rfl
  exact go _
theorem due0 (t : Tr) (hn : (plc t).length ≤ 1000000) (sc l b f : D) (x7 x8 x9 : Option D) (s : Sto) :
    (fLc (tdName 7) fYes (f2 ixO (fVar 7) (fC (.int 0))) (fIt (fVar 5)) [7]) (sl0 sc l b (.lst ((plc t).map encPt)) f x7 x8 x9) s = some (.ok (.lst (P1 t)) s) :=
  due_lc t 0 0 (fun p => encP p.1) hn (fun p => rfl) (fun s p => rfl) sc l b f x7 x8 x9 s
theorem due1 (t : Tr) (hn : (plc t).length ≤ 1000000) (sc l b f : D) (x7 x8 x9 : Option D) (s : Sto) :
    (fLc (tdName 7) fYes (f2 ixO (fVar 7) (fC (.int 1))) (fIt (fVar 5)) [7]) (sl0 sc l b (.lst ((plc t).map encPt)) f x7 x8 x9) s = some (.ok (.lst (P2 t)) s) :=
  due_lc t 0 1 (fun p => p.2.d) hn (fun p => rfl) (fun s p => rfl) sc l b f x7 x8 x9 s
/-- what was found is what is due -/
theorem ne_due {k : Nat} (t : Tr) (hn : (plc t).length ≤ 1000000) (sc l b : D) (x7 x8 x9 : Option D) (s : Sto) (hs : s[k]? = some (.lst (P1 t))) :
    (fB (f2 (eqO true) (fVar 6) (fLc (tdName 7) fYes (f2 ixO (fVar 7) (fC (.int 0))) (fIt (fVar 5)) [7]))) (sl0 sc l b (.lst ((plc t).map encPt)) (.own k) x7 x8 x9) s = some (.ok false s) := by
  refine fB_of (f2_of (x := .own k) (y := .lst (P1 t)) rfl (due0 t hn sc l b (.own k) x7 x8 x9 s) ?_)
  have hp : peek s (.own k) = .scr (P1 t) := by
    show (match s[k]? with | some (.lst xs) => D.scr xs | _ => .own k) = _
    rw [hs]
  have hpl : ∀ d ∈ P1 t, Pl 1 d := fun d hd => by
    obtain ⟨p, _, rfl⟩ := List.mem_map.mp hd
    exact pl_encP 0 _
  exact eqO_same (neg := true) (by rw [hp]; exact (pl_scr hpl).mono (by decide)) (by rw [hp]; rfl) ((pl_lst hpl).mono (by decide)) rfl
/-- each place is a tuple of ints -/
theorem ints_ok (t : Tr) (sc l b d f : D) (x7 x9 : Option D) (p : List Nat) (hp : p.length ≤ 1000000) (s : Sto) :
    (fOr (fNot (fTru (f1 (isiO "tuple") (fVar 8)))) (fB (f2 (eqO true) (fLc (tdName 9) (fOr (fTru (f1 (isiO "bool") (fVar 9))) (fNot (fTru (f1 (isiO "int") (fVar 9))))) (fVar 9) (fIt (fVar 8)) [9]) (fLst fNil)))) (sl0 sc l b d f x7 (some (encP p)) x9) s = some (.ok false s) := by
  refine fOr_ff (fNot_of (b := true) rfl) (fB_of (f2_of (s1 := s) (x := .lst []) (y := .lst []) ?_ ?_ ?_))
  · refine fLc_pure (xs := p.map fun n => D.int (n : Nat)) rfl ?_ (by simp)
    have := lcL_filter (T := tdName 9) (u := (fOr (fTru (f1 (isiO "bool") (fVar 9))) (fNot (fTru (f1 (isiO "int") (fVar 9)))))) (f := fVar 9) (a := (p.map fun n => D.int (n : Nat), none)) (sl := wipeS (sl0 sc l b d f x7 (some (encP p)) x9) [9]) (s := s) (fun _ => false) id (ck_none _ _) (p.map fun n => D.int (n : Nat)) (fun x hx => by
      obtain ⟨n, _, rfl⟩ := List.mem_map.mp hx
      exact ⟨_, rfl, rfl, fun h => by cases h⟩)
    rw [List.filter_eq_nil_iff.mpr (fun _ _ h => by cases h)] at this
    exact this
  · have h0 : small ([] : List D).length = true := small_of (by simp)
    simp only [fLst, fNil, bindM, retM, liftO, h0, if_true]
  · exact eqO_same (neg := true) (s := s) (d := .lst []) (e := .lst []) ((pl_lst (n := 0) fun _ h => by cases h).mono (by decide)) rfl ((pl_lst (n := 0) fun _ h => by cases h).mono (by decide)) rfl
/-- the loop over what was found -/
theorem found_loop (t : Tr) (hn : ∀ p ∈ plc t, p.1.length ≤ 1000000) (sc l b d f : D) (s : Sto) (a : Src) (ck : Ck a s) : ∀ (ps : List Pt), (∀ p ∈ ps, p ∈ plc t) → ∀ (x7 x8 x9 : Option D), ∃ y8, forL (tdName 8) (ifS (fOr (fNot (fTru (f1 (isiO "tuple") (fVar 8)))) (fB (f2 (eqO true) (fLc (tdName 9) (fOr (fTru (f1 (isiO "bool") (fVar 9))) (fNot (fTru (f1 (isiO "int") (fVar 9))))) (fVar 9) (fIt (fVar 8)) [9]) (fLst fNil)))) (retS (fC (.bl false))) nextS)
    a (ps.map fun (p : Pt) => encP p.1) (sl0 sc l b d f x7 x8 x9) s = some (.nx (sl0 sc l b d f x7 y8 x9) s)
  | [], _, x7, x8, x9 => ⟨x8, rfl⟩
  | p :: ps, h, x7, x8, x9 => by
    obtain ⟨y8, e⟩ := found_loop t hn sc l b d f s a ck ps (fun q hq => h q (List.mem_cons_of_mem _ hq)) x7 (some (encP p.1)) x9
    exact ⟨y8, (forL_cons (sl1 := sl0 sc l b d f x7 (some (encP p.1)) x9) (sl2 := sl0 sc l b d f x7 (some (encP p.1)) x9) rfl ((ifS_f (ints_ok t sc l b d f x7 x9 p.1 (hn p (h p List.mem_cons_self)) s)).trans rfl) ck).trans e⟩
/-- the bodies at the places found -/
theorem at_lc {n : Nat} (t : Tr) (hok : Ok n t) (hl : D.low 0 t.d = true) (hn : (plc t).length ≤ 1000000) (sc l d : D) (k : Nat) (x7 x8 x9 : Option D) (s : Sto) (hs : s[k]? = some (.lst (P1 t))) :
    (fLc (tdName 8) fYes (fCall 2 D_at_place (fCons (fVar 4) (fCons (fVar 8) fNil))) (fIt (fVar 6)) [8]) (sl0 sc l t.d d (.own k) x7 x8 x9) s = some (.ok (.lst (P2 t)) s) := by
  have ck : Ck (P1 t, some k) s := hs
  have hit : (fIt (fVar 6)) (sl0 sc l t.d d (.own k) x7 x8 x9) s = some (.ok (P1 t, some k) s) := by
    have : seqIt s (.own k) = some (P1 t, some k) := by
      show (match s[k]? with | some (.lst xs) => some (xs, some k) | _ => none) = _
      rw [hs]
    simp only [fIt, fVar, bindM, liftO, List.getElem?_cons_zero, List.getElem?_cons_succ, this]
  refine fLc_of hit ck ?_ (by show (P2 t).length ≤ _; unfold P2; rw [List.length_map]; omega)
  have go : ∀ ps : List Pt, (∀ p ∈ ps, p ∈ plc t) → lcL (tdName 8) fYes (fCall 2 D_at_place (fCons (fVar 4) (fCons (fVar 8) fNil))) (P1 t, some k) (wipeS (sl0 sc l t.d d (.own k) x7 x8 x9) [8]) (ps.map fun (p : Pt) => encP p.1) s = some (.ok (ps.map fun (p : Pt) => p.2.d) s) := by
    intro ps
    induction ps with
    | nil => intro _; rfl
    | cons p r ih =>
      intro h
      have ih' := ih fun q hq => h q (List.mem_cons_of_mem _ hq)
      have e1 : fCall 2 D_at_place (fCons (fVar 4) (fCons (fVar 8) fNil)) ((wipeS (sl0 sc l t.d d (.own k) x7 x8 x9) [8]).set 8 (some (encP p.1))) s = some (.ok p.2.d s) := fCall_eq rfl rfl (at_place_eq hok hl p (h p List.mem_cons_self) s)
      show lcL _ _ _ _ _ (encP p.1 :: r.map fun (p : Pt) => encP p.1) s = _
      unfold lcL
      show bindM (noex (fYes _)) _ s = _
      simp only [bindM, noex, fYes, retM, if_true, ckM, e1, if_pos ck, ih']
      rfl
  exact go _ fun _ h => h
theorem law_true (ns : List Int) (_ : ns.length ≤ 63) : ∃ s, D_law [.scr (ns.map D.int)] [] = some (.ok (.bl true) s) := by
  obtain ⟨v0, a0, b0, c0⟩ := cell_eq ns 0 []
  obtain ⟨v1, a1, b1, c1⟩ := cell_eq ns 1 []
  let st : Cell := stC (1 + v0 % 2147483645) (4 + v1 % 10)
  obtain ⟨v1', a1', b1', c1'⟩ := cell_eq ns 1 [st]
  obtain ⟨v2, a2, b2, c2⟩ := cell_eq ns 2 [st]
  obtain ⟨L, hL, hLs, eL⟩ := labels_eq v2 [st]
  obtain ⟨t, a', b', hok, hlow, eB⟩ := body_spec [st] 0 (1 + v0 % 2147483645) (4 + v1 % 10) (v1' / 10 % 5) 8 L rfl (Int.emod_nonneg _ (by decide)) (by decide) hL hLs
  let S0 : Sto := [stC a' b']
  have eB' : D_body [.own 0, .int (v1' / 10 % 5), knownD, .lst (L.map D.str), .int 8] [st] = some (.ok t.d S0) := eB
  have hlen := plc_len hok
  have hp9 := pow_le 9 (by decide)
  have hn : (plc t).length ≤ 1000000 := by omega
  have hlow1 : ∀ p ∈ plc t, p.1.length ≤ 1000000 := fun p hp => by
    have := (plc_ok hok hlow p hp).2.2
    omega
  have eD : D_places [t.d] S0 = some (.ok (.lst ((plc t).map encPt)) S0) := places_eq 9 20 t hok (by decide) (by decide) hlow S0
  have eF : D_places_of [t.d] S0 = some (.ok (.own 1) [stC a' b', .lst (P1 t)]) := places_of_eq hok (by decide) hlow S0
  have eF2 : D_places_of [t.d] [stC a' b', .lst (P1 t ++ [.str (S "more")])] = some (.ok (.own 2) [stC a' b', .lst (P1 t ++ [.str (S "more")]), .lst (P1 t)]) := places_of_eq hok (by decide) hlow _
  let sc : D := .scr (ns.map D.int)
  refine ⟨[], ?_⟩
  unfold D_law
  refine fnD_rt (d := .bl true) (s' := [stC a' b', .lst (P1 t ++ [.str (S "more")]), .lst (P1 t)]) ?_ (closeM_low (keep := false) (d := .bl true) (s := []) (t := []) (junk := [stC a' b', .lst (P1 t ++ [.str (S "more")]), .lst (P1 t)]) rfl (keeps_refl _) rfl (fun k z => by cases z))
  unfold g_law
  show seqS _ _ [some sc, none, none, none, none, none, none, none, none, none] [] = _
  have k0 : ∀ (sl : Sl), sl[0]? = some (some sc) → fCall 2 D_cell (fCons (fVar 0) (fCons (fC (.int 0)) fNil)) sl [] = some (.ok (.int v0) []) := fun sl h => fCall_eq (ds := [sc, .int 0]) (by simp [fCons, fNil, fC, fVar, bindM, retM, h]) rfl c0
  have k1 : ∀ (sl : Sl), sl[0]? = some (some sc) → fCall 2 D_cell (fCons (fVar 0) (fCons (fC (.int 1)) fNil)) sl [] = some (.ok (.int v1) []) := fun sl h => fCall_eq (ds := [sc, .int 1]) (by simp [fCons, fNil, fC, fVar, bindM, retM, h]) rfl c1
  have k1' : ∀ (sl : Sl), sl[0]? = some (some sc) → fCall 2 D_cell (fCons (fVar 0) (fCons (fC (.int 1)) fNil)) sl [st] = some (.ok (.int v1') [st]) := fun sl h => fCall_eq (ds := [sc, .int 1]) (by simp [fCons, fNil, fC, fVar, bindM, retM, h]) rfl c1'
  have k2 : ∀ (sl : Sl), sl[0]? = some (some sc) → fCall 2 D_cell (fCons (fVar 0) (fCons (fC (.int 2)) fNil)) sl [st] = some (.ok (.int v2) [st]) := fun sl h => fCall_eq (ds := [sc, .int 2]) (by simp [fCons, fNil, fC, fVar, bindM, retM, h]) rfl c2
  have h2 : small 2 = true := small_of (by decide)
  have h3 : small 3 = true := small_of (by decide)
  refine (seqS_nx (setS_ok (d := .own 0) (s' := [st]) ?_)).trans ?_
  · simp [fOwn, fCons, fNil, fC, f2, bindM, retM, liftO, k0, k1, addO, modO, h2, st]
  refine (seqS_nx (setS_ok (d := .lst (L.map D.str)) (s' := [st]) (fCall_eq (ds := [.int v2, .int 4]) (s1 := [st]) ?_ rfl eL))).trans ?_
  · simp [fCons, fNil, fC, bindM, retM, k2]
  refine (seqS_nx (setS_ok (d := knownD) (s' := [st]) ?_)).trans ?_
  · simp [fLst, fTup, fCons, fNil, fC, bindM, retM, liftO, h2, h3, knownD, S]
  refine (seqS_nx (setS_ok (d := t.d) (s' := S0) (fCall_eq (ds := [.own 0, .int (v1' / 10 % 5), knownD, .lst (L.map D.str), .int 8]) (s1 := [st]) ?_ rfl eB'))).trans ?_
  · simp [fCons, fNil, fC, f2, fVar, bindM, retM, liftO, k1', fdivO, modO]
  refine (seqS_nx (setS_ok (fCall_eq rfl rfl eD))).trans ?_
  refine (seqS_nx (setS_ok (fCall_eq rfl rfl eF))).trans ?_
  refine (seqS_nx ((ifS_f (s' := [stC a' b', .lst (P1 t)]) (fOr_ff (fNot_of (b := true) rfl) (ne_due (k := 1) t hn sc (.lst (L.map D.str)) t.d none none none _ rfl))).trans rfl)).trans ?_
  obtain ⟨y8, el⟩ := found_loop t hlow1 sc (.lst (L.map D.str)) t.d (.lst ((plc t).map encPt)) (.own 1) [stC a' b', .lst (P1 t)] (P1 t, some 1) rfl (plc t) (fun _ h => h) none none none
  refine (seqS_nx ((forS_of (a := (P1 t, some 1)) (s1 := [stC a' b', .lst (P1 t)]) rfl rfl).trans el)).trans ?_
  refine (seqS_nx (exprS_ok (d := .non) (s' := [stC a' b', .lst (P1 t ++ [.str (S "more")])]) ?_)).trans ?_
  · have hs : small ((P1 t).length + 1) = true := small_of (by unfold P1; rw [List.length_map]; omega)
    show (if small ((P1 t).length + 1) = true then some (R.ok D.non [stC a' b', .lst (P1 t ++ [.str (S "more")])]) else none) = _
    rw [if_pos hs]
  refine (seqS_nx (setS_ok (fCall_eq rfl rfl eF2))).trans ?_
  refine (seqS_nx ((ifS_f (g1 := retS (fC (.bl false))) (g2 := nextS) (s' := [stC a' b', .lst (P1 t ++ [.str (S "more")]), .lst (P1 t)]) (ne_due (k := 2) t hn sc (.lst (L.map D.str)) t.d none y8 none _ rfl)).trans rfl)).trans ?_
  have hpl : ∀ d ∈ P2 t, Pl 27 d := fun d hd => by
    obtain ⟨p, hp, rfl⟩ := List.mem_map.mp hd
    exact (plc_ok hok hlow p hp).1.pl
  refine retS_ok (f2_of (x := .lst (P2 t)) (y := .lst (P2 t)) (at_lc t hok hlow hn sc (.lst (L.map D.str)) (.lst ((plc t).map encPt)) 2 none y8 none _ rfl) (due1 t hn sc (.lst (L.map D.str)) t.d (.own 2) none y8 none _) ?_)
  exact eqO_same (neg := false) (d := .lst (P2 t)) (e := .lst (P2 t)) ((pl_lst hpl).mono (by decide)) rfl ((pl_lst hpl).mono (by decide)) rfl
end Pr

set_option Elab.async false
set_option linter.all false
set_option maxRecDepth 100000
set_option maxHeartbeats 8000000
open PySem PySem.W PyProof.Rows
set_option maxHeartbeats 0 in
theorem PySem.Challenge.cw_fieldrest_k01_places_holds : PySem.Challenge.rw_fieldrest_k01_places.Holds := by
  w_on; o_law; k_head; (case hw => w_witness2)
  k_fill
  refine L2.walk_of (l := PySem.Challenge.rw_fieldrest_k01_places) (n := 63) (k := 22) (x := "_law_script") (CX := fun w => L2.CX PySem.Challenge.rw_fieldrest_k01_places.prog w) (sp := fun w => Pr.spL _) rfl (by decide) rfl ⟨rfl, by decide, by decide⟩ (fun w h Y => PySem.W.kIn_of Y) ?F (fun _ _ a ns hl _ hS => ⟨a, ns, rfl, hS, hl, fun _ => rfl⟩) (fun _ _ _ _ _ h => PD.cx_none h)
  case F =>
    intro w mg fa h KX G hmg
    refine' Pr.all_mk Pr.law_true KX G hmg ?ha_bodies_within ?hl_bodies_within ?hc_bodies_within ?hk_bodies_within ?ha_places_of ?hl_places_of ?hc_places_of ?hk_places_of ?ha_at_place ?hl_at_place ?hc_at_place ?hk_at_place ?ha_cell ?hl_cell ?hc_cell ?hk_cell ?ha_next ?hl_next ?hc_next ?hk_next ?ha_labels ?hl_labels ?hc_labels ?hk_labels ?ha_leaf ?hl_leaf ?hc_leaf ?hk_leaf ?ha_fields ?hl_fields ?hc_fields ?hk_fields ?ha_body ?hl_body ?hc_body ?hk_body ?ha_kids ?hl_kids ?hc_kids ?hk_kids ?ha_places ?hl_places ?hc_places ?hk_places ?ha_law ?hl_law ?hc_law ?hk_law ?hz_bool ?hz_enumerate ?hz_int ?hz_isinstance ?hz_len ?hz_list ?hz_range ?hz_tuple
    (case ha_bodies_within => k_is)
    (case hl_bodies_within => k_is)
    (case hc_bodies_within => k_is)
    (case hk_bodies_within => k_is)
    (case ha_places_of => k_is)
    (case hl_places_of => k_is)
    (case hc_places_of => k_is)
    (case hk_places_of => k_is)
    (case ha_at_place => k_is)
    (case hl_at_place => k_is)
    (case hc_at_place => k_is)
    (case hk_at_place => k_is)
    (case ha_cell => k_is)
    (case hl_cell => k_is)
    (case hc_cell => k_is)
    (case hk_cell => k_is)
    (case ha_next => k_is)
    (case hl_next => k_is)
    (case hc_next => k_is)
    (case hk_next => k_is)
    (case ha_labels => k_is)
    (case hl_labels => k_is)
    (case hc_labels => k_is)
    (case hk_labels => k_is)
    (case ha_leaf => k_is)
    (case hl_leaf => k_is)
    (case hc_leaf => k_is)
    (case hk_leaf => k_is)
    (case ha_fields => k_is)
    (case hl_fields => k_is)
    (case hc_fields => k_is)
    (case hk_fields => k_is)
    (case ha_body => k_is)
    (case hl_body => k_is)
    (case hc_body => k_is)
    (case hk_body => k_is)
    (case ha_kids => k_is)
    (case hl_kids => k_is)
    (case hc_kids => k_is)
    (case hk_kids => k_is)
    (case ha_places => k_is)
    (case hl_places => k_is)
    (case hc_places => k_is)
    (case hk_places => k_is)
    (case ha_law => k_is)
    (case hl_law => k_is)
    (case hc_law => k_is)
    (case hk_law => k_is)
    (case hz_bool => k_is)
    (case hz_enumerate => k_is)
    (case hz_int => k_is)
    (case hz_isinstance => k_is)
    (case hz_len => k_is)
    (case hz_list => k_is)
    (case hz_range => k_is)
    (case hz_tuple => k_is)