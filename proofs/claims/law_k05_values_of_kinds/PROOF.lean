import PyProof.Rows.All
import Wide.All
import OpenK.AllK
import Wide.FinOn
import HandS.ForMost
import HandS.ForExc
import HandS.Walk
import HandS.Style
import HandS.IsInst
import HandS.Deep
import HandS.StrMore
import HandS.Wide
import HandS.Conv
import HandS.Flow
import HandS.TupAny
import HandS.AnyAll
import KE.KDictPairs
import HandS.SetKeys
import HandS.Finally
import HandS.SortInts
import HandS.Text
import HandS.More
import HandS.EndOwn
import PySem.Challenge.RW_fieldrest_k05_values_of_kinds
set_option Elab.async false
set_option linter.all false
set_option maxRecDepth 100000
set_option maxHeartbeats 4000000
/-! PD0: tuples that are known to have no dict; dict of such. -/
namespace PD
open PySem PySem.Spec PyProof.Rows L2
/-- a tuple without a dict of its own -/
def SqN (H : Hp) (a : Addr) (xs : List V) : Prop := ∃ o, H a = some (.frz o (.tup xs)) ∧ o.dict = none
theorem SqN.seq {K : PySem.W.Frag} {H : Hp} {a : Addr} {xs : List V} (h : SqN H a xs) : SqT K H a xs := let ⟨o, h, _⟩ := h; .inl (.inr ⟨o, h⟩)
theorem SqN.mk {H : Hp} {a : Addr} {o : Obj} {xs : List V} (hd : o.dict = none) : SqN (upd H a (.frz o (.tup xs))) a xs := ⟨o, upd_same, hd⟩
section
variable {X : Cx} {es : List Expr} {t : TA} {pos : Pos}
def tTupF (t : TA) : TE := fun σ H Q => t σ H fun xs H1 => xs.length ≤ sizeLine ∧ ∀ p o, o.dict = none → H1 p = none → Q (.ref p) (upd H1 p (.frz o (.tup xs)))
theorem pe_tupF {x1} (h : PA X es t) : PE X (.Tuple es x1 pos) (tTupF t) := by
  refine ⟨fun pins s σ H Q I hq => ?_⟩
  refine wpAny_Tuple_spliced (thn (h.run pos pins s σ H _ I hq) fun us s1 ⟨xs, H1, I1, r, z, q⟩ => ⟨by rw [← r.length]; exact z, ?_⟩)
  have hf : H1 s1.heap.objs.size = none := I1.hok.fresh (Nat.le_refl _)
  refine ⟨.ref s1.heap.objs.size, _, I1.laid (t' := s1.toks) (o := .frz { cls := .type "tuple", data := .seq us.toArray } (.tup xs)) (fun b u e => Heap.get?_push_of_some _ e) (Nat.le_refl _) ?_, rfl, q _ _ rfl hf⟩
  exact ⟨Heap.get?_push_size _ rfl, z, us, r, ⟨_, Heap.get?_push_size _ rfl, rfl, _, rfl⟩⟩
/-- t + u -/
def rCatF (K : PySem.W.Frag) : R2 := fun x y H Q => ∃ a b xs ys, x = .ref a ∧ y = .ref b ∧ SqT K H a xs ∧ SqT K H b ys ∧ xs.length + ys.length ≤ sizeLine ∧
  (xs = [] → Q (.ref b) H) ∧ (xs ≠ [] → ys = [] → Q (.ref a) H) ∧ (xs ≠ [] → ys ≠ [] → ∀ p o, o.dict = none → H p = none → Q (.ref p) (upd H p (.frz o (.tup (xs ++ ys)))))
theorem op_catF : OpR X (binaryOp .Add) (rCatF X.K) := by
  intro pins s σ H x y v u Q I rx ry h
  obtain ⟨a, b, xs, ys, rfl, rfl, ha, hb, hz, q0, q1, q2⟩ := h
  cases rx
  cases ry
  obtain ⟨its, r1, p1, _⟩ := I.tuple ha
  obtain ⟨its2, r2, p2, _⟩ := I.tuple hb
  by_cases hx : xs = []
  · subst hx
    cases r1
    exact cat_tup0 p1 p2 ⟨.ref b, H, I, rfl, q0 rfl⟩
  · refine HT.cat_tup p1 p2 (fun z => hx (r1.nil_iff.mp z)) (fun z => ⟨.ref a, H, I, rfl, q1 hx (r2.nil_iff.mp z)⟩) (fun z => ?_) (by rw [← r1.length, ← r2.length]; exact hz)
    refine ⟨.ref s.heap.objs.size, _, I.laid (t' := s.toks) (o := .frz { cls := .type "tuple", data := .seq (its ++ its2).toArray } (.tup (xs ++ ys))) (fun b ob q => Heap.get?_push_of_some _ q) (Nat.le_refl _) ?_, rfl, q2 hx (fun w => z (r2.nil_iff.mpr w)) _ _ rfl (I.hok.fresh (Nat.le_refl _))⟩
    exact ⟨Heap.get?_push_size _ rfl, by rw [List.length_append]; exact hz, _, r1.append r2, IsTup.new _ _⟩
/-- t[lo:hi] -/
def rSlF (K : PySem.W.Frag) : V → Option Int → Option Int → Hp → VK → Prop := fun x lo hi H Q => ∃ a xs, x = .ref a ∧ SqT K H a xs ∧
  (HT.sIx xs.length 0 lo = 0 ∧ HT.sIx xs.length xs.length hi = xs.length → Q (.ref a) H) ∧ (¬ (HT.sIx xs.length 0 lo = 0 ∧ HT.sIx xs.length xs.length hi = xs.length) → ∀ p o, o.dict = none → H p = none → Q (.ref p) (upd H p (.frz o (.tup (cutV xs lo hi)))))
theorem sl_tupF : SlR X (rSlF X.K) := by
  intro pins s σ H x v vl vu lo hi sl Q I rx hs pl pu h
  obtain ⟨a, xs, rfl, hx, q1, q2⟩ := h
  cases rx
  obtain ⟨its, r, ht, hz⟩ := I.tuple hx
  have hlen : its.toArray.size = xs.length := by rw [List.size_toArray]; exact r.length.symm
  refine ⟨"tuple", _, PyProof.Rows.slot_tuple_getitem.lookup, ht.typeIs, ?_⟩
  by_cases hw : HT.sIx xs.length 0 lo = 0 ∧ HT.sIx xs.length xs.length hi = xs.length
  · exact getItem_tuple_whole ht hs pl pu (by rw [hlen]; exact hw) ⟨.ref a, H, I, rfl, q1 hw⟩
  · refine HT.getItem_tuple_cut ht hs pl pu (by rw [hlen]; exact hw) ?_ (by rw [hlen]; exact hz)
    rw [hlen]
    refine ⟨.ref s.heap.objs.size, _, I.laid (t' := s.toks) (o := .frz { cls := .type "tuple", data := .seq ((its.drop (HT.sIx xs.length 0 lo)).take (HT.sIx xs.length xs.length hi - HT.sIx xs.length 0 lo)).toArray } (.tup (cutV xs lo hi))) (fun b ob q => Heap.get?_push_of_some _ q) (Nat.le_refl _) ?_, rfl, q2 hw _ _ rfl (I.hok.fresh (Nat.le_refl _))⟩
    exact ⟨Heap.get?_push_size _ (by first | rfl | simp), Nat.le_trans (cutV_length xs lo hi) hz, _, (r.drop (HT.sIx xs.length 0 lo)).take (HT.sIx xs.length xs.length hi - HT.sIx xs.length 0 lo), IsTup.new _ _⟩
/-- tuple(x) -/
theorem call_tupleF : CallR X (.type "tuple") (fun xs H Q => ∃ p ys, xs = [.ref p] ∧ ((SqL X.K H p ys ∧ ∀ l o, o.dict = none → H l = none → Q (.ref l) (upd H l (.frz o (.tup ys)))) ∨ (SqT X.K H p ys ∧ Q (.ref p) H))) := by
  intro pins s σ H xs us Q I r h
  obtain ⟨p, ys, rfl, h⟩ := h
  obtain ⟨u, rfl, rx⟩ := vals1 r
  cases rx
  rcases h with ⟨hq, q⟩ | ⟨hq, q⟩
  · obtain ⟨its, r', pl, hz⟩ := I.list hq
    have hlen := r'.length
    refine call_tuple_list pl.isList (fun h' kp => ?_) (by simp only [List.size_toArray] <;> omega)
    have I1 : Inv X pins σ H { s with heap := h' } := I.kept (t' := s.toks) kp
    have I2 : Inv X pins σ (upd H h'.objs.size (.frz { cls := .type "tuple", data := .seq its.toArray } (.tup ys))) { s with heap := h'.push { cls := .type "tuple", data := .seq its.toArray } } :=
      I1.laid (t' := s.toks) (fun b o e => Heap.get?_push_of_some _ e) (Nat.le_refl _) (show ObjOk X.prog X.w _ _ _ (.frz { cls := .type "tuple", data := .seq its.toArray } (.tup ys)) from ⟨Heap.get?_push_size _ rfl, hz, its, r', IsTup.new _ _⟩)
    exact ⟨.ref h'.objs.size, _, I2, rfl, q _ _ rfl (I1.hok.fresh (Nat.le_refl _))⟩
  · obtain ⟨its, r', pl, hz⟩ := I.tuple hq
    exact call_tuple_same pl ⟨.ref p, H, I, rfl, q⟩
/-- dict(t) of a tuple of pairs -/
theorem call_dictT (hcalm : X.calm = true) : CallR X (.type "dict") (fun xs H Q => ∃ (a : Addr) (ps : List Addr) (kvs : List (Key × V)), xs = [.ref a] ∧ SqN H a (ps.map V.ref) ∧ Paired (fun p kv => SqT X.K H p [kV kv.1, kv.2]) ps kvs ∧
    ∀ p, H p = none → Q (.ref p) (upd H p (.dK (mergeK [] kvs)))) := by
  intro pins s σ H xs us Q I r q
  obtain ⟨a, ps, kvs, ex, ⟨ob, hq, hdn⟩, hp, q⟩ := q
  subst ex
  obtain ⟨u, eu, rx⟩ := vals1 r
  subst eu
  cases rx
  obtain ⟨ho, hz, its, rv, ⟨o, ho', hc, n, hdat⟩⟩ := I.hok a _ hq
  rw [ho] at ho'
  cases ho'
  have ei := refs_at rv
  subst ei
  rw [List.length_map] at hz
  obtain ⟨prs, rel, hl, hpr⟩ := pairs_of I hp
  have pr1 : ∀ (j : Nat) (q : Key × Value), prs[j]? = some q → ∃ u, ps[j]? = some (ps.getD j 0) ∧ IsTup s.heap (ps.getD j 0) #[u, q.2] ∧ keyIs q.1 u = true := fun j q e => by
    obtain ⟨b, u, e1, e2, e3⟩ := hpr j q e
    have : ps.getD j 0 = b := by rw [List.getD_eq_getElem?_getD, e1]; rfl
    rw [this]
    exact ⟨u, e1, e2, e3⟩
  have hex : ∀ j : Nat, ∃ u : Value, ∀ q : Key × Value, prs[j]? = some q → IsTup s.heap (ps.getD j 0) #[u, q.2] ∧ keyIs q.1 u = true := fun j => by
    cases e : prs[j]? with
    | none => exact ⟨.none, fun q z => by cases z⟩
    | some q =>
      obtain ⟨u, _, h2, h3⟩ := pr1 j q e
      exact ⟨u, fun q' z => by cases z; exact ⟨h2, h3⟩⟩
  let U : Nat → Value := fun j => Classical.choose (hex j)
  have hU : ∀ (j : Nat) (q : Key × Value), prs[j]? = some q → IsTup s.heap (ps.getD j 0) #[U j, q.2] ∧ keyIs q.1 (U j) = true := fun j => Classical.choose_spec (hex j)
  let prs2 : List (Value × Value) := (List.range prs.length).map fun j => (U j, (prs.getD j (.inl 0, .none)).2)
  have len2 : prs2.length = prs.length := by simp [prs2]
  have at2 : ∀ (j : Nat) (k v : Value), prs2[j]? = some (k, v) → ∃ q, prs[j]? = some q ∧ k = U j ∧ v = q.2 := fun j k v e => by
    have hj : j < prs.length := by rw [← len2]; exact (List.getElem?_eq_some_iff.mp e).1
    simp only [prs2, List.getElem?_map, List.getElem?_range hj, Option.map_some, Option.some.injEq, Prod.mk.injEq] at e
    refine ⟨prs[j], List.getElem?_eq_getElem hj, e.1.symm, ?_⟩
    rw [← e.2, List.getD_eq_getElem?_getD, List.getElem?_eq_getElem hj]
    rfl
  refine _root_.PySem.call_dict_pairs (knd := mixKind X.prog X.w) (kvs := prs) (_root_.PySem.PairArg.tuple a (ps.map Value.ref).toArray (fun j => ps.getD j 0) prs2) (I.ok.hd hcalm) ⟨⟨ob, n, ho, hc, hdn, hdat⟩, ⟨by simp [len2, hl], fun j k v e => ?_⟩⟩ ⟨len2.symm, fun j k v e => ?_⟩ (by rw [len2, hl]; exact hz) fun h' tk hd' k => ?_
  · obtain ⟨q, hq', rfl, rfl⟩ := at2 j k v e
    obtain ⟨u, h1, _, _⟩ := pr1 j q hq'
    obtain ⟨⟨o2, g1, g2, n2, g3⟩, _⟩ := hU j q hq'
    refine ⟨?_, .inl ⟨o2, g1, g2, n2, g3⟩⟩
    rw [List.getElem?_toArray, List.getElem?_map, h1]
    rfl
  · obtain ⟨q, hq', rfl, rfl⟩ := at2 j k v e
    exact ⟨q.1, hq', (hU j q hq').2⟩
  · have hm : (s.heap.objs.size == sysModules) = false := beq_eq_false_iff_ne.mpr (Nat.ne_of_gt I.big)
    have hlen : (mergeK [] kvs).length ≤ sizeLine := by
      refine Nat.le_trans (length_mergeK kvs []) ?_
      rw [List.length_nil, Nat.zero_add, rel.length, hl]
      exact hz
    exact ⟨.ref s.heap.objs.size, upd H s.heap.objs.size (.dK (mergeK [] kvs)), I.laid (t' := tk) (fun b o => k b o (by simp)) (Nat.le_refl _) (show ObjOk X.prog X.w _ _ _ (.dK (mergeK [] kvs)) from ⟨hlen, hm, merged [] prs, KV.merge rel .nil, hd'⟩), rfl, q _ (I.hok.fresh (Nat.le_refl _))⟩
end
end PD

set_option Elab.async false
set_option linter.all false
set_option maxRecDepth 100000
set_option maxHeartbeats 4000000
/-! PD: what a def does, told as a plain function over data and a store of own lists; sound over the hand layer. -/
namespace PD
open PySem PySem.Spec PyProof.Rows L2

/-! ### data, cells, results -/
inductive D where
  | non | bl (b : Bool) | int (i : Int) | str (s : Str)
  | lst (xs : List D) | tup (xs : List D) | par (xs : List D) | scr (xs : List D)
  | own (k : Nat)
  deriving Inhabited
inductive Cell where
  | lst (xs : List D) | dic (kvs : List (Key × D)) | gone
  /-- an instance of an own class; the table of a def's code -/
  | obj (c : Str) (fs : List (Str × D)) | tab (x : Str)
  deriving Inhabited
abbrev Sto := List Cell
abbrev Sl := List (Option D)
inductive R (α : Type) where
  | ok (a : α) (s : Sto) | ex (c : Str) (s : Sto)
abbrev M (α : Type) := Sto → Option (R α)
inductive RS where
  | nx (l : Sl) (s : Sto) | rt (d : D) (s : Sto) | bk (l : Sl) (s : Sto) | ct (l : Sl) (s : Sto) | ex (c : Str) (l : Sl) (s : Sto)

mutual
/-- all own numbers are below n -/
def D.low (n : Nat) : D → Bool
  | .lst xs => D.lowAll n xs | .tup xs => D.lowAll n xs | .par xs => D.lowAll n xs | .scr xs => D.lowAll n xs
  | .own k => decide (k < n)
  | .non => true | .bl _ => true | .int _ => true | .str _ => true
def D.lowAll (n : Nat) : List D → Bool
  | [] => true | x :: xs => D.low n x && D.lowAll n xs
end
mutual
def py : D → PyData
  | .non => .none | .bl b => .bool b | .int i => .int i | .str s => .str s
  | .lst xs => .list (pyAll xs) | .tup xs => .tuple (pyAll xs) | .par xs => .tuple (pyAll xs) | .scr xs => .list (pyAll xs) | .own _ => .none
def pyAll : List D → List PyData
  | [] => [] | x :: xs => py x :: pyAll xs
end

/-! ### data stands in the heap -/
mutual
inductive Rp (K : PySem.W.Frag) (H : Hp) (O : List Addr) : V → D → Prop
  | non : Rp K H O .non .non
  | bl (b : Bool) : Rp K H O (.bl b) (.bl b)
  | int (i : Int) : Rp K H O (.int i) (.int i)
  | str (x : Str) : Rp K H O (.str x) (.str x)
  | lst {a : Addr} {vs : List V} {ds : List D} : H a = some (.lst vs) → RpAll K H O vs ds → Rp K H O (.ref a) (.lst ds)
  | tup {a : Addr} {vs : List V} {ds : List D} : SqN H a vs → RpAll K H O vs ds → Rp K H O (.ref a) (.tup ds)
  | par {a : Addr} {vs : List V} {ds : List D} : SqT K H a vs → RpAll K H O vs ds → Rp K H O (.ref a) (.par ds)
  | scr {a : Addr} {vs : List V} {ds : List D} : SqL K H a vs → RpAll K H O vs ds → Rp K H O (.ref a) (.scr ds)
  | own {k : Nat} {a : Addr} : O[k]? = some a → Rp K H O (.ref a) (.own k)
inductive RpAll (K : PySem.W.Frag) (H : Hp) (O : List Addr) : List V → List D → Prop
  | nil : RpAll K H O [] []
  | cons {v : V} {vs : List V} {d : D} {ds : List D} : Rp K H O v d → RpAll K H O vs ds → RpAll K H O (v :: vs) (d :: ds)
end
theorem sameT {K : PySem.W.Frag} {H H' : Hp} {a : Addr} {xs : List V} (e : Same H H') (h : SqT K H a xs) : SqT K H' a xs := by
  rcases h with (h | ⟨o, h⟩) | h
  · exact .inl (.inl (e _ _ h))
  · exact .inl (.inr ⟨o, e _ _ h⟩)
  · exact .inr h
theorem sameN {H H' : Hp} {a : Addr} {xs : List V} (e : Same H H') (h : SqN H a xs) : SqN H' a xs := let ⟨o, h, d⟩ := h; ⟨o, e _ _ h, d⟩
theorem sameNT {K : PySem.W.Frag} {H H' : Hp} {a : Addr} {xs : List V} (e : Same H H') (h : SqN H a xs) : SqT K H' a xs := (sameN e h).seq
def Pre (O O' : List Addr) : Prop := ∃ t, O' = O ++ t
theorem Pre.refl (O : List Addr) : Pre O O := ⟨[], (List.append_nil _).symm⟩
theorem Pre.trans {A B C : List Addr} (a : Pre A B) (b : Pre B C) : Pre A C := by
  obtain ⟨t, rfl⟩ := a
  obtain ⟨u, rfl⟩ := b
  exact ⟨t ++ u, List.append_assoc _ _ _⟩
theorem Pre.get {O O' : List Addr} (p : Pre O O') {k : Nat} {a : Addr} (h : O[k]? = some a) : O'[k]? = some a := by
  obtain ⟨t, rfl⟩ := p
  rw [List.getElem?_append_left (List.getElem?_eq_some_iff.mp h).1]
  exact h
section
variable {K : PySem.W.Frag} {H H' : Hp} {O O' : List Addr}
mutual
theorem Rp.mono (e : Same H H') (p : ∀ (k : Nat) (a : Addr), O[k]? = some a → O'[k]? = some a) : ∀ (d : D) (v : V), Rp K H O v d → Rp K H' O' v d
  | .non, _, h => by cases h; exact .non
  | .bl b, _, h => by cases h; exact .bl b
  | .int i, _, h => by cases h; exact .int i
  | .str x, _, h => by cases h; exact .str x
  | .lst ds, _, h => by cases h with | lst h1 h2 => exact .lst (e _ _ h1) (RpAll.mono e p ds _ h2)
  | .tup ds, _, h => by cases h with | tup h1 h2 => exact .tup (sameN e h1) (RpAll.mono e p ds _ h2)
  | .par ds, _, h => by cases h with | par h1 h2 => exact .par (sameT e h1) (RpAll.mono e p ds _ h2)
  | .scr ds, _, h => by cases h with | scr h1 h2 => exact .scr (e.seq h1) (RpAll.mono e p ds _ h2)
  | .own k, _, h => by cases h with | own h1 => exact .own (p _ _ h1)
theorem RpAll.mono (e : Same H H') (p : ∀ (k : Nat) (a : Addr), O[k]? = some a → O'[k]? = some a) : ∀ (ds : List D) (vs : List V), RpAll K H O vs ds → RpAll K H' O' vs ds
  | [], _, h => by cases h; exact .nil
  | d :: ds, _, h => by cases h with | cons h1 h2 => exact .cons (Rp.mono e p d _ h1) (RpAll.mono e p ds _ h2)
end
mutual
/-- what is below n stands with the first n own lists alone -/
theorem Rp.cut (n : Nat) : ∀ (d : D) (v : V), D.low n d = true → Rp K H O v d → Rp K H (O.take n) v d
  | .non, _, _, h => by cases h; exact .non
  | .bl b, _, _, h => by cases h; exact .bl b
  | .int i, _, _, h => by cases h; exact .int i
  | .str x, _, _, h => by cases h; exact .str x
  | .lst ds, _, b, h => by cases h with | lst h1 h2 => exact .lst h1 (RpAll.cut n ds _ b h2)
  | .tup ds, _, b, h => by cases h with | tup h1 h2 => exact .tup h1 (RpAll.cut n ds _ b h2)
  | .par ds, _, b, h => by cases h with | par h1 h2 => exact .par h1 (RpAll.cut n ds _ b h2)
  | .scr ds, _, b, h => by cases h with | scr h1 h2 => exact .scr h1 (RpAll.cut n ds _ b h2)
  | .own k, _, b, h => by
    cases h with
    | own h1 =>
      refine .own ?_
      have hk : k < n := of_decide_eq_true b
      rw [List.getElem?_take, if_pos hk]
      exact h1
theorem RpAll.cut (n : Nat) : ∀ (ds : List D) (vs : List V), D.lowAll n ds = true → RpAll K H O vs ds → RpAll K H (O.take n) vs ds
  | [], _, _, h => by cases h; exact .nil
  | d :: ds, _, b, h => by
    cases h with
    | cons h1 h2 =>
      have b' := Bool.and_eq_true_iff.mp b
      exact .cons (Rp.cut n d _ b'.1 h1) (RpAll.cut n ds _ b'.2 h2)
end
mutual
theorem Rp.bel : ∀ (d : D) (v : V), Rp K H O v d → D.low O.length d = true
  | .non, _, h => rfl
  | .bl b, _, h => rfl
  | .int i, _, h => rfl
  | .str x, _, h => rfl
  | .lst ds, _, h => by cases h with | lst h1 h2 => exact RpAll.bel ds _ h2
  | .tup ds, _, h => by cases h with | tup h1 h2 => exact RpAll.bel ds _ h2
  | .par ds, _, h => by cases h with | par h1 h2 => exact RpAll.bel ds _ h2
  | .scr ds, _, h => by cases h with | scr h1 h2 => exact RpAll.bel ds _ h2
  | .own k, _, h => by cases h with | own h1 => exact decide_eq_true (List.getElem?_eq_some_iff.mp h1).1
theorem RpAll.bel : ∀ (ds : List D) (vs : List V), RpAll K H O vs ds → D.lowAll O.length ds = true
  | [], _, h => rfl
  | d :: ds, _, h => by cases h with | cons h1 h2 => exact Bool.and_eq_true_iff.mpr ⟨Rp.bel d _ h1, RpAll.bel ds _ h2⟩
end
theorem RpAll.length : ∀ {vs : List V} {ds : List D}, RpAll K H O vs ds → vs.length = ds.length
  | _, _, .nil => rfl
  | _, _, .cons _ t => congrArg (· + 1) (RpAll.length t)
theorem RpAll.get : ∀ {vs : List V} {ds : List D} {i : Nat} {d : D}, RpAll K H O vs ds → ds[i]? = some d → ∃ v, vs[i]? = some v ∧ Rp K H O v d
  | _, _, _, _, .nil, e => by simp at e
  | _, _, 0, _, .cons r _, e => by simp at e; subst e; exact ⟨_, rfl, r⟩
  | _, _, i + 1, d, .cons _ t, e => by
    obtain ⟨v, h1, h2⟩ := RpAll.get (i := i) (d := d) t (by simpa using e)
    exact ⟨v, by simpa using h1, h2⟩
theorem RpAll.getV : ∀ {vs : List V} {ds : List D} {i : Nat} {v : V}, RpAll K H O vs ds → vs[i]? = some v → ∃ d, ds[i]? = some d ∧ Rp K H O v d
  | _, _, _, _, .nil, e => by simp at e
  | _, _, 0, _, .cons r _, e => by simp at e; subst e; exact ⟨_, rfl, r⟩
  | _, _, i + 1, v, .cons _ t, e => by
    obtain ⟨d, h1, h2⟩ := RpAll.getV (i := i) (v := v) t (by simpa using e)
    exact ⟨d, by simpa using h1, h2⟩
theorem RpAll.append : ∀ {vs us : List V} {ds es : List D}, RpAll K H O vs ds → RpAll K H O us es → RpAll K H O (vs ++ us) (ds ++ es)
  | _, _, _, _, .nil, s => s
  | _, _, _, _, .cons r t, s => .cons r (RpAll.append t s)
theorem RpAll.one {v : V} {d : D} (h : Rp K H O v d) : RpAll K H O [v] [d] := .cons h .nil
theorem RpAll.take : ∀ {vs : List V} {ds : List D} (n : Nat), RpAll K H O vs ds → RpAll K H O (vs.take n) (ds.take n)
  | _, _, 0, _ => .nil
  | _, _, _ + 1, .nil => .nil
  | _, _, n + 1, .cons r t => .cons r (RpAll.take n t)
theorem RpAll.drop : ∀ {vs : List V} {ds : List D} (n : Nat), RpAll K H O vs ds → RpAll K H O (vs.drop n) (ds.drop n)
  | _, _, 0, r => r
  | _, _, _ + 1, .nil => .nil
  | _, _, n + 1, .cons _ t => RpAll.drop n t
theorem RpAll.reverse : ∀ {vs : List V} {ds : List D}, RpAll K H O vs ds → RpAll K H O vs.reverse ds.reverse
  | _, _, .nil => .nil
  | _, _, .cons r t => by rw [List.reverse_cons, List.reverse_cons]; exact RpAll.append (RpAll.reverse t) (.one r)
theorem RpAll.set {v : V} {d : D} (r : Rp K H O v d) : ∀ {vs : List V} {ds : List D} (i : Nat), RpAll K H O vs ds → RpAll K H O (vs.set i v) (ds.set i d)
  | _, _, _, .nil => .nil
  | _, _, 0, .cons _ t => .cons r t
  | _, _, i + 1, .cons q t => .cons q (RpAll.set r i t)
theorem RpAll.dropLast {vs : List V} {ds : List D} (h : RpAll K H O vs ds) : RpAll K H O vs.dropLast ds.dropLast := by
  rw [List.dropLast_eq_take, List.dropLast_eq_take, h.length]
  exact h.take _
end

/-! ### the base: the stable part H0 of the heap, the own lists at O -/
/-- the class of that name stands at C -/
def ClsIs (K : PySem.W.Frag) (c : Str) (C : Addr) : Prop := PySem.W.nsIn K mainGlobals c = some (some (.ref C))
/-- the table of the code of the def of that name is P -/
def TabIs (K : PySem.W.Frag) (x : Str) (P : Addr) : Prop := ∃ (fa : Addr) (o : Obj) (fd : FuncData) (cc : Addr) (oc : Obj) (vs : Array Value), PySem.W.nsIn K mainGlobals x = some (some (.ref fa)) ∧ K.lookup fa = some o ∧ o.data = .func fd ∧ fd.code = .ref cc ∧
  K.lookup cc = some oc ∧ oc.data = .fields vs ∧ vs[11]? = some (.ref P)
theorem TabIs.uni {K : PySem.W.Frag} {x : Str} {P Q : Addr} (a : TabIs K x P) (b : TabIs K x Q) : P = Q := by
  obtain ⟨fa, o, fd, cc, oc, vs, a1, a2, a3, a4, a5, a6, a7⟩ := a
  obtain ⟨fa', o', fd', cc', oc', vs', b1, b2, b3, b4, b5, b6, b7⟩ := b
  rw [a1] at b1; cases b1
  rw [a2] at b2; cases b2
  rw [a3] at b3; cases b3
  rw [a4] at b4; cases b4
  rw [a5] at b5; cases b5
  rw [a6] at b6; cases b6
  rw [a7] at b7; cases b7
  rfl
def CellOk (K : PySem.W.Frag) (H H0 : Hp) (O : List Addr) (a : Addr) : Cell → Prop
  | .lst xs => ∃ vs, H a = some (.lst vs) ∧ RpAll K H0 O vs xs ∧ H0 a = none
  | .dic kvs => ∃ ks, H a = some (.dK ks) ∧ Paired (fun (p : Key × V) (q : Key × D) => p.1 = q.1 ∧ Rp K H0 O p.2 q.2) ks kvs ∧ H0 a = none
  | .gone => True
  | .obj c fs => ∃ C dx ks, ClsIs K c C ∧ H a = some (.ins C dx ks) ∧ Paired (fun (p : Str × V) (q : Str × D) => p.1 = q.1 ∧ Rp K H0 O p.2 q.2) ks fs ∧ H0 a = none
  | .tab x => TabIs K x a ∧ GxR.TabG H a ∧ H0 a = none
structure Base (K : PySem.W.Frag) (H H0 : Hp) (O : List Addr) (sto : Sto) : Prop where
  sub : Same H0 H
  nd : O.Nodup
  len : O.length = sto.length
  live : ∀ a ∈ O, H a ≠ none
  cell : ∀ (k : Nat) (a : Addr) (c : Cell), O[k]? = some a → sto[k]? = some c → CellOk K H H0 O a c
structure Ext (H H0 : Hp) (O : List Addr) (H' H0' : Hp) (O' : List Addr) : Prop where
  h0 : Same H0 H0'
  o : Pre O O'
  fresh : ∀ a ∈ O', a ∈ O ∨ H a = none
  frame : ∀ a o, H a = some o → a ∉ O → H' a = some o
  live : ∀ a, H a ≠ none → H' a ≠ none
  h0n : ∀ a, H0' a ≠ none → H0 a ≠ none ∨ H a = none ∨ a ∈ O
theorem Ext.refl (H H0 : Hp) (O : List Addr) : Ext H H0 O H H0 O := ⟨.refl _, .refl _, fun _ h => .inl h, fun _ _ h _ => h, fun _ h => h, fun _ h => .inl h⟩
theorem Ext.trans {A A0 B B0 C C0 : Hp} {P Q R : List Addr} (a : Ext A A0 P B B0 Q) (b : Ext B B0 Q C C0 R) : Ext A A0 P C C0 R where
  h0 := a.h0.trans b.h0
  o := a.o.trans b.o
  fresh := fun x hx => by
    rcases b.fresh x hx with h | h
    · exact a.fresh x h
    · refine .inr ?_
      cases q : A x with
      | none => rfl
      | some o => exact absurd h (a.live x (by rw [q]; simp))
  frame := fun x o h hn => b.frame x o (a.frame x o h hn) fun hx => (a.fresh x hx).elim hn fun z => by rw [z] at h; cases h
  live := fun x h => b.live x (a.live x h)
  h0n := fun x h => by
    rcases b.h0n x h with h | h | h
    · exact a.h0n x h
    · refine .inr (.inl ?_)
      cases q : A x with
      | none => rfl
      | some o => exact absurd h (a.live x (by rw [q]; simp))
    · rcases a.fresh x h with h | h
      · exact .inr (.inr h)
      · exact .inr (.inl h)
section
variable {K : PySem.W.Frag} {H H0 H' H0' : Hp} {O O' : List Addr} {sto sto' : Sto}
theorem Ext.rp {d : D} {v : V} (e : Ext H H0 O H' H0' O') (r : Rp K H0 O v d) : Rp K H0' O' v d := Rp.mono e.h0 (fun _ _ h => e.o.get h) d v r
theorem Ext.rps {ds : List D} {vs : List V} (e : Ext H H0 O H' H0' O') (r : RpAll K H0 O vs ds) : RpAll K H0' O' vs ds := RpAll.mono e.h0 (fun _ _ h => e.o.get h) ds vs r
theorem CellOk.mono {a : Addr} {c : Cell} (h : CellOk K H H0 O a c) (e : Same H0 H0') (p : ∀ (k : Nat) (a : Addr), O[k]? = some a → O'[k]? = some a) (ha : H' a = H a) (h0 : H0' a = none) : CellOk K H' H0' O' a c := by
  cases c with
  | lst xs => obtain ⟨vs, h1, h2, _⟩ := h; exact ⟨vs, ha.trans h1, RpAll.mono e p _ _ h2, h0⟩
  | dic kvs => obtain ⟨ks, h1, h2, _⟩ := h; exact ⟨ks, ha.trans h1, Paired.mapP h2 fun _ _ z => ⟨z.1, Rp.mono e p _ _ z.2⟩, h0⟩
  | gone => trivial
  | obj c fs => obtain ⟨C, dx, ks, hC, h1, h2, _⟩ := h; exact ⟨C, dx, ks, hC, ha.trans h1, Paired.mapP h2 fun _ _ z => ⟨z.1, Rp.mono e p _ _ z.2⟩, h0⟩
  | tab x => obtain ⟨hT, ⟨ps, h1, h2⟩, _⟩ := h; exact ⟨hT, ⟨ps, ha.trans h1, h2⟩, h0⟩
theorem CellOk.none {a : Addr} {c : Cell} (h : CellOk K H H0 O a c) (hc : c ≠ .gone) : H0 a = Option.none := by
  cases c with
  | lst xs => obtain ⟨_, _, _, z⟩ := h; exact z
  | dic kvs => obtain ⟨_, _, _, z⟩ := h; exact z
  | gone => exact absurd rfl hc
  | obj c fs => obtain ⟨_, _, _, _, _, _, z⟩ := h; exact z
  | tab x => obtain ⟨_, _, z⟩ := h; exact z
theorem get_mem {O : List Addr} {k : Nat} {a : Addr} (h : O[k]? = some a) : a ∈ O := List.mem_iff_getElem?.mpr ⟨k, h⟩
theorem get_inj {O : List Addr} (nd : O.Nodup) {j k : Nat} {a : Addr} (h : O[j]? = some a) (h' : O[k]? = some a) : j = k := by
  obtain ⟨h1, e1⟩ := List.getElem?_eq_some_iff.mp h
  obtain ⟨h2, e2⟩ := List.getElem?_eq_some_iff.mp h'
  exact (List.getElem_inj nd).mp (e1.trans e2.symm)
/-- a new stable object -/
theorem Base.new (B : Base K H H0 O sto) {p : Addr} (hp : H p = none) (o : HO) : Base K (upd H p o) (upd H0 p o) O sto ∧ Ext H H0 O (upd H p o) (upd H0 p o) O := by
  have hp0 : H0 p = none := by
    cases q : H0 p with
    | none => rfl
    | some u => rw [B.sub _ _ q] at hp; cases hp
  have s0 : Same H0 (upd H0 p o) := fun b u e => by rw [upd_ne (ne_of_none e hp0)]; exact e
  have ne : ∀ a ∈ O, a ≠ p := fun a ha e => by subst e; exact B.live a ha hp
  refine ⟨⟨fun b u e => ?_, B.nd, B.len, fun a ha => ?_, fun k a c h1 h2 => ?_⟩, ⟨s0, .refl _, fun _ h => .inl h, fun a u h _ => ?_, fun a h => ?_, fun a h => ?_⟩⟩
  · by_cases hb : b = p
    · subst hb; rw [upd_same] at e ⊢; exact e
    · rw [upd_ne hb] at e ⊢; exact B.sub _ _ e
  · rw [upd_ne (ne a ha)]; exact B.live a ha
  · have q := B.cell k a c h1 h2
    have hn := ne a (get_mem h1)
    by_cases hg : c = .gone
    · subst hg; trivial
    · exact q.mono s0 (fun _ _ h => h) (upd_ne hn) (by rw [upd_ne hn]; exact q.none hg)
  · rw [upd_ne (ne_of_none h hp)]; exact h
  · by_cases hb : a = p
    · subst hb; exact absurd hp h
    · rw [upd_ne hb]; exact h
  · by_cases hb : a = p
    · subst hb; exact .inr (.inl hp)
    · rw [upd_ne hb] at h; exact .inl h
/-- a new own object -/
theorem Base.newOwn (B : Base K H H0 O sto) {p : Addr} (hp : H p = none) {o : HO} {c : Cell} (hc : CellOk K (upd H p o) H0 O p c) :
    Base K (upd H p o) H0 (O ++ [p]) (sto ++ [c]) ∧ Ext H H0 O (upd H p o) H0 (O ++ [p]) := by
  have ne : ∀ a ∈ O, a ≠ p := fun a ha e => by subst e; exact B.live a ha hp
  have pr : ∀ (k : Nat) (a : Addr), O[k]? = some a → (O ++ [p])[k]? = some a := fun k a h => Pre.get ⟨_, rfl⟩ h
  have hp0 : H0 p = none := by
    cases q : H0 p with
    | none => rfl
    | some u => rw [B.sub _ _ q] at hp; cases hp
  refine ⟨⟨fun b u e => ?_, ?_, by simp [B.len], fun a ha => ?_, fun k a c' h1 h2 => ?_⟩, ⟨.refl _, ⟨_, rfl⟩, fun a h => ?_, fun a u h _ => ?_, fun a h => ?_, fun _ h => .inl h⟩⟩
  · rw [upd_ne (ne_of_none e hp0)]; exact B.sub _ _ e
  · rw [List.nodup_append]
    refine ⟨B.nd, by simp, fun a ha b hb => ?_⟩
    rw [List.mem_singleton.mp hb]
    exact ne a ha
  · rcases List.mem_append.mp ha with ha | ha
    · rw [upd_ne (ne a ha)]; exact B.live a ha
    · rw [List.mem_singleton.mp ha, upd_same]; simp
  · by_cases hk : k < O.length
    · rw [List.getElem?_append_left hk] at h1
      rw [List.getElem?_append_left (by rw [← B.len]; exact hk)] at h2
      have q := B.cell k a c' h1 h2
      by_cases hg : c' = .gone
      · subst hg; trivial
      · exact q.mono (.refl _) pr (upd_ne (ne a (get_mem h1))) (q.none hg)
    · have hk2 : k = O.length := by
        have := (List.getElem?_eq_some_iff.mp h1).1
        rw [List.length_append, List.length_singleton] at this
        omega
      subst hk2
      rw [List.getElem?_append_right (Nat.le_refl _), Nat.sub_self] at h1
      rw [List.getElem?_append_right (by rw [B.len]; exact Nat.le_refl _), B.len, Nat.sub_self] at h2
      cases h1; cases h2
      by_cases hg : c = .gone
      · subst hg; trivial
      · exact hc.mono (.refl _) pr rfl (hc.none hg)
  · rcases List.mem_append.mp h with h | h
    · exact .inl h
    · rw [List.mem_singleton.mp h]; exact .inr hp
  · rw [upd_ne (ne_of_none h hp)]; exact h
  · by_cases hb : a = p
    · subst hb; exact absurd hp h
    · rw [upd_ne hb]; exact h
/-- an own object is written -/
theorem Base.write (B : Base K H H0 O sto) {k : Nat} {a : Addr} (hk : O[k]? = some a) (h0 : H0 a = none) {o : HO} {c : Cell} (hc : CellOk K (upd H a o) H0 O a c) :
    Base K (upd H a o) H0 O (sto.set k c) ∧ Ext H H0 O (upd H a o) H0 O := by
  refine ⟨⟨fun b u e => ?_, B.nd, by rw [List.length_set]; exact B.len, fun b hb => ?_, fun j b c' h1 h2 => ?_⟩, ⟨.refl _, .refl _, fun _ h => .inl h, fun b u h hn => ?_, fun b h => ?_, fun _ h => .inl h⟩⟩
  · rw [upd_ne (ne_of_none e h0)]; exact B.sub _ _ e
  · by_cases e : b = a
    · subst e; rw [upd_same]; simp
    · rw [upd_ne e]; exact B.live b hb
  · by_cases hj : j = k
    · subst hj
      rw [hk] at h1; cases h1
      rw [List.getElem?_set_self (by rw [← B.len]; exact (List.getElem?_eq_some_iff.mp hk).1)] at h2
      cases h2
      exact hc
    · rw [List.getElem?_set_ne (Ne.symm hj)] at h2
      have q := B.cell j b c' h1 h2
      have hb : b ≠ a := fun e => by subst e; exact hj (get_inj B.nd h1 hk)
      by_cases hg : c' = .gone
      · subst hg; trivial
      · exact q.mono (.refl _) (fun _ _ h => h) (upd_ne hb) (q.none hg)
  · have hb : b ≠ a := fun e => by subst e; exact hn (get_mem hk)
    rw [upd_ne hb]; exact h
  · by_cases e : b = a
    · subst e; rw [upd_same]; simp
    · rw [upd_ne e]; exact h
/-- an own list becomes stable -/
theorem Base.freeze (B : Base K H H0 O sto) {k : Nat} {a : Addr} {vs : List V} (hk : O[k]? = some a) (h0 : H0 a = none) (ha : H a = some (.lst vs)) :
    Base K H (upd H0 a (.lst vs)) O (sto.set k .gone) ∧ Ext H H0 O H (upd H0 a (.lst vs)) O := by
  have s0 : Same H0 (upd H0 a (.lst vs)) := fun b u e => by rw [upd_ne (ne_of_none e h0)]; exact e
  refine ⟨⟨fun b u e => ?_, B.nd, by rw [List.length_set]; exact B.len, B.live, fun j b c' h1 h2 => ?_⟩, ⟨s0, .refl _, fun _ h => .inl h, fun _ _ h _ => h, fun _ h => h, fun b h => ?_⟩⟩
  · by_cases hb : b = a
    · subst hb; rw [upd_same] at e; cases e; exact ha
    · rw [upd_ne hb] at e; exact B.sub _ _ e
  · by_cases hj : j = k
    · subst hj
      rw [List.getElem?_set_self (by rw [← B.len]; exact (List.getElem?_eq_some_iff.mp hk).1)] at h2
      cases h2
      trivial
    · rw [List.getElem?_set_ne (Ne.symm hj)] at h2
      have q := B.cell j b c' h1 h2
      have hb : b ≠ a := fun e => by subst e; exact hj (get_inj B.nd h1 hk)
      by_cases hg : c' = .gone
      · subst hg; trivial
      · exact q.mono s0 (fun _ _ h => h) rfl (by rw [upd_ne hb]; exact q.none hg)
  · by_cases hb : b = a
    · subst hb; exact .inr (.inr (get_mem hk))
    · rw [upd_ne hb] at h; exact .inl h
/-- forgetting the own lists from n on -/
theorem Base.cut (B : Base K H H0 O sto) {n : Nat} (s0 : Sto) (hl : s0.length = n) (hs : ∃ t, sto = s0 ++ t) (hb : ∀ c ∈ s0, match c with | .lst xs => D.lowAll n xs = true | .dic kvs => ∀ q ∈ kvs, D.low n q.2 = true | .gone => True | .obj _ fs => ∀ q ∈ fs, D.low n q.2 = true | .tab _ => True) :
    Base K H H0 (O.take n) s0 := by
  obtain ⟨t, rfl⟩ := hs
  have hO : n ≤ O.length := by rw [B.len, List.length_append]; omega
  refine ⟨B.sub, B.nd.sublist (List.take_sublist _ _), by rw [List.length_take]; omega, fun a ha => B.live a (List.mem_of_mem_take ha), fun k a c h1 h2 => ?_⟩
  have hk : k < n := by rw [← hl]; exact (List.getElem?_eq_some_iff.mp h2).1
  rw [List.getElem?_take, if_pos hk] at h1
  have q := B.cell k a c h1 (by rw [List.getElem?_append_left (by omega)]; exact h2)
  have m := hb c (List.mem_iff_getElem?.mpr ⟨k, h2⟩)
  cases c with
  | lst xs => obtain ⟨vs, e1, e2, e3⟩ := q; exact ⟨vs, e1, RpAll.cut n _ _ m e2, e3⟩
  | dic kvs =>
    obtain ⟨ks, e1, e2, e3⟩ := q
    refine ⟨ks, e1, ?_, e3⟩
    clear e1 h2
    induction e2 with
    | nil => exact .nil
    | cons r _ ih => exact .cons ⟨r.1, Rp.cut n _ _ (m _ List.mem_cons_self) r.2⟩ (ih fun q hq => m q (List.mem_cons_of_mem _ hq))
  | gone => trivial
  | obj c fs =>
    obtain ⟨C, dx, ks, hC, e1, e2, e3⟩ := q
    refine ⟨C, dx, ks, hC, e1, ?_, e3⟩
    clear e1 h2
    induction e2 with
    | nil => exact .nil
    | cons r _ ih => exact .cons ⟨r.1, Rp.cut n _ _ (m _ List.mem_cons_self) r.2⟩ (ih fun q hq => m q (List.mem_cons_of_mem _ hq))
  | tab x => exact q
end
end PD

set_option Elab.async false
set_option linter.all false
set_option maxRecDepth 100000
set_option maxHeartbeats 4000000
/-! PD: readings of expressions. -/
namespace PD
open PySem PySem.Spec PyProof.Rows L2

/-! ### the monad -/
def retM {α : Type} (a : α) : M α := fun s => some (.ok a s)
def bindM {α β : Type} (m : M α) (k : α → M β) : M β := fun s => match m s with
  | none => none
  | some (.ok a s') => k a s'
  | some (.ex c s') => some (.ex c s')
def liftO {α : Type} (o : Sto → Option α) : M α := fun s => match o s with
  | none => none
  | some a => some (.ok a s)

abbrev Rep (β α : Type) := Hp → List Addr → β → α → Prop
def PostG (K : PySem.W.Frag) (mg : Str → Option Value) {β α : Type} (rp : Rep β α) (H H0 : Hp) (O : List Addr) (Q : β → Hp → Prop) (E : XK) : R α → Prop
  | .ok a s => ∀ b H' H0' O', Base K H' H0' O' s → Ext H H0 O H' H0' O' → rp H0' O' b a → Q b H'
  | .ex c s => ∀ cls dd H' H0' O', mg c = some cls → Base K H' H0' O' s → Ext H H0 O H' H0' O' → E cls dd H'
section
variable {K : PySem.W.Frag} {mg : Str → Option Value} {β α β' α' : Type} {rp : Rep β α} {rp' : Rep β' α'} {H H0 H1 H01 : Hp} {O O1 : List Addr} {E : XK}
theorem PostG.mono {Q Q' : β → Hp → Prop} {r : R α} (p : PostG K mg rp H H0 O Q E r) (h : ∀ b H, Q b H → Q' b H) : PostG K mg rp H H0 O Q' E r := by
  cases r with
  | ok a s => exact fun b H' H0' O' x y z => h _ _ (p b H' H0' O' x y z)
  | ex c s => exact p
theorem PostG.monoE {E' : XK} {Q : β → Hp → Prop} {r : R α} (p : PostG K mg rp H H0 O Q E r) (h : ∀ c d H, E c d H → E' c d H) : PostG K mg rp H H0 O Q E' r := by
  cases r with
  | ok a s => exact p
  | ex c s => exact fun cls dd H' H0' O' x y z => h _ _ _ (p cls dd H' H0' O' x y z)
theorem PostG.ext {Q : β → Hp → Prop} {r : R α} (p : PostG K mg rp H H0 O Q E r) (X : Ext H H0 O H1 H01 O1) : PostG K mg rp H1 H01 O1 Q E r := by
  cases r with
  | ok a s => exact fun b H' H0' O' x y z => p b H' H0' O' x (X.trans y) z
  | ex c s => exact fun cls dd H' H0' O' x y z => p cls dd H' H0' O' x y (X.trans z)
/-- where one stands in the midst of an expression -/
def Mid (K : PySem.W.Frag) (mg : Str → Option Value) {β α β' α' : Type} (rp : Rep β α) (rp' : Rep β' α') (k : α → M α') (H H0 : Hp) (O : List Addr) (Q : β' → Hp → Prop) (E : XK) (b : β) (H1 : Hp) : Prop :=
  ∃ H0' O' s a r, Base K H1 H0' O' s ∧ Ext H H0 O H1 H0' O' ∧ rp H0' O' b a ∧ k a s = some r ∧ PostG K mg rp' H1 H0' O' Q E r
theorem PostG.bind {m : M α} {k : α → M α'} {sto : Sto} {r : R α'} {Q : β' → Hp → Prop} (h : bindM m k sto = some r) (p : PostG K mg rp' H H0 O Q E r) :
    ∃ r1, m sto = some r1 ∧ PostG K mg rp H H0 O (Mid K mg rp rp' k H H0 O Q E) E r1 := by
  unfold bindM at h
  cases e : m sto with
  | none => rw [e] at h; cases h
  | some r1 =>
    rw [e] at h
    refine ⟨r1, rfl, ?_⟩
    cases r1 with
    | ok a s => exact fun b H' H0' O' x y z => ⟨H0', O', s, a, r, x, y, z, h, p.ext y⟩
    | ex c s =>
      cases h
      exact p
theorem PostG.one {o : Sto → Option α} {sto : Sto} {r : R α} {Q : β → Hp → Prop} (h : liftO o sto = some r) : ∃ a, o sto = some a ∧ r = .ok a sto := by
  unfold liftO at h
  cases e : o sto with
  | none => rw [e] at h; cases h
  | some a => rw [e] at h; cases h; exact ⟨a, rfl, rfl⟩
end

/-! ### slots -/
structure RpSl (K : PySem.W.Frag) (H0 : Hp) (O : List Addr) (σ : L2.St) (sl : Sl) : Prop where
  len : σ.length = sl.length
  at_ : ∀ (i : Nat) (d : D), sl[i]? = some (some d) → ∃ v, σ[i]? = some (some v) ∧ Rp K H0 O v d
section
variable {K : PySem.W.Frag} {H H0 H' H0' : Hp} {O O' : List Addr} {σ : L2.St} {sl : Sl}
theorem RpSl.ext (r : RpSl K H0 O σ sl) (e : Ext H H0 O H' H0' O') : RpSl K H0' O' σ sl :=
  ⟨r.len, fun i d h => let ⟨v, h1, h2⟩ := r.at_ i d h; ⟨v, h1, e.rp h2⟩⟩
theorem RpSl.set (r : RpSl K H0 O σ sl) {v : V} {d : D} (h : Rp K H0 O v d) (i : Nat) : RpSl K H0 O (σ.set i (some v)) (sl.set i (some d)) := by
  refine ⟨by rw [List.length_set, List.length_set]; exact r.len, fun j e h1 => ?_⟩
  by_cases hj : j = i
  · subst hj
    have hl : j < sl.length := by
      have := (List.getElem?_eq_some_iff.mp h1).1
      rw [List.length_set] at this
      exact this
    rw [List.getElem?_set_self hl] at h1
    cases h1
    rw [List.getElem?_set_self (by rw [r.len]; exact hl)]
    exact ⟨v, rfl, h⟩
  · rw [List.getElem?_set_ne (Ne.symm hj)] at h1 ⊢
    exact r.at_ j e h1
def wipeS (sl : Sl) : List Nat → Sl
  | [] => sl
  | v :: vs => (wipeS sl vs).set v none
theorem RpSl.forget (r : RpSl K H0 O σ sl) (i : Nat) : RpSl K H0 O (σ.set i none) (sl.set i none) := by
  refine ⟨by rw [List.length_set, List.length_set]; exact r.len, fun j e h1 => ?_⟩
  by_cases hj : j = i
  · subst hj
    have hl : j < sl.length := by
      have := (List.getElem?_eq_some_iff.mp h1).1
      rw [List.length_set] at this
      exact this
    rw [List.getElem?_set_self hl] at h1
    cases h1
  · rw [List.getElem?_set_ne (Ne.symm hj)] at h1 ⊢
    exact r.at_ j e h1
theorem RpSl.wipe (r : RpSl K H0 O σ sl) : ∀ vs : List Nat, RpSl K H0 O (wipe σ vs) (wipeS sl vs)
  | [] => r
  | v :: vs => (RpSl.wipe r vs).forget v
end

/-! ### the reading -/
/-- a reading by a function over the slots -/
def tG (K : PySem.W.Frag) (mg : Str → Option Value) (W : WX) {β α : Type} (rp : Rep β α) (f : Sl → M α) : L2.St → Hp → (β → Hp → Prop) → Prop := fun σ H Q =>
  ∃ H0 O sl sto r, Base K H H0 O sto ∧ RpSl K H0 O σ sl ∧ f sl sto = some r ∧ PostG K mg rp H H0 O Q (fun c d H' => W c d σ H') r
abbrev eqB : Rep Bool Bool := fun _ _ b a => b = a
abbrev tE (K : PySem.W.Frag) (mg : Str → Option Value) (W : WX) (f : Sl → M D) : TE := tG K mg W (Rp K) f
abbrev tA (K : PySem.W.Frag) (mg : Str → Option Value) (W : WX) (f : Sl → M (List D)) : TA := tG K mg W (RpAll K) f
abbrev tT (K : PySem.W.Frag) (mg : Str → Option Value) (W : WX) (f : Sl → M Bool) : TT := tG K mg W eqB f
section
variable {X : Cx} {e : Expr} {es : List Expr}
theorem PE.imp {t t' : TE} (h : PE X e t) (i : ∀ σ H Q, t' σ H Q → t σ H Q) : PE X e t' := ⟨fun pins s σ H Q I q => h.run pins s σ H Q I (i _ _ _ q)⟩
theorem PT.imp {t t' : TT} (h : PT X e t) (i : ∀ σ H Q, t' σ H Q → t σ H Q) : PT X e t' := ⟨fun pins s σ H Q I q => h.run pins s σ H Q I (i _ _ _ q)⟩
theorem PW.imp {t t' : TT} (h : PW X e t) (i : ∀ σ H Q, t' σ H Q → t σ H Q) : PW X e t' := ⟨fun wh pins s σ H Q I q => h.run wh pins s σ H Q I (i _ _ _ q)⟩
theorem PA.imp {t t' : TA} (h : PA X es t) (i : ∀ σ H Q, t' σ H Q → t σ H Q) : PA X es t' := ⟨fun p pins s σ H Q I q => h.run p pins s σ H Q I (i _ _ _ q)⟩
end
/-- the step: the first of a chain -/
theorem tG_bind {K : PySem.W.Frag} {mg : Str → Option Value} {W : WX} {β α β' α' : Type} {rp : Rep β α} {rp' : Rep β' α'} {f : Sl → M α} {k : Sl → α → M α'} {σ : L2.St} {H : Hp} {Q : β' → Hp → Prop}
    (h : tG K mg W rp' (fun sl => bindM (f sl) (k sl)) σ H Q) :
    tG K mg W rp f σ H (fun b H1 => ∃ H0 O sl s a r, Base K H1 H0 O s ∧ RpSl K H0 O σ sl ∧ rp H0 O b a ∧ k sl a s = some r ∧ PostG K mg rp' H1 H0 O Q (fun c d H' => W c d σ H') r) := by
  obtain ⟨H0, O, sl, sto, r, B, S, e, p⟩ := h
  obtain ⟨r1, e1, p1⟩ := PostG.bind (rp := rp) e p
  refine ⟨H0, O, sl, sto, r1, B, S, e1, p1.mono fun b H1 q => ?_⟩
  obtain ⟨H0', O', s, a, r', B', X', ra, e', p'⟩ := q
  exact ⟨H0', O', sl, s, a, r', B', S.ext X', ra, e', p'⟩
theorem tG_mono {K : PySem.W.Frag} {mg : Str → Option Value} {W : WX} {β α : Type} {rp : Rep β α} {f : Sl → M α} {σ : L2.St} {H : Hp} {Q Q' : β → Hp → Prop} (t : tG K mg W rp f σ H Q) (h : ∀ b H, Q b H → Q' b H) : tG K mg W rp f σ H Q' := by
  obtain ⟨H0, O, sl, sto, r, B, S, e, p⟩ := t
  exact ⟨H0, O, sl, sto, r, B, S, e, p.mono h⟩
/-- the last of a chain: what is told of values -/
theorem post_ok {K : PySem.W.Frag} {mg : Str → Option Value} {β α : Type} {rp : Rep β α} {H H0 : Hp} {O : List Addr} {Q : β → Hp → Prop} {E : XK} {a : α} {s : Sto} {b : β}
    (p : PostG K mg rp H H0 O Q E (.ok a s)) (B : Base K H H0 O s) (r : rp H0 O b a) : Q b H := p b H H0 O B (.refl _ _ _) r

/-! ### values of one sort -/
def lsOf (sto : Sto) : D → Option (List D)
  | .lst xs => some xs
  | .scr xs => some xs
  | .own k => match sto[k]? with | some (.lst xs) => some xs | _ => none
  | _ => none
def seqOf (sto : Sto) : D → Option (List D)
  | .tup xs => some xs
  | .par xs => some xs
  | d => lsOf sto d
section
variable {K : PySem.W.Frag} {H H0 : Hp} {O : List Addr} {sto : Sto} {d : D} {v : V} {xs : List D}
theorem lsOf_ok (B : Base K H H0 O sto) (r : Rp K H0 O v d) (h : lsOf sto d = some xs) : ∃ a vs, v = .ref a ∧ SqL K H a vs ∧ RpAll K H0 O vs xs := by
  cases d with
  | lst ys => cases h; cases r with | lst h1 h2 => exact ⟨_, _, rfl, SqL.of (B.sub _ _ h1), h2⟩
  | scr ys => cases h; cases r with | scr h1 h2 => exact ⟨_, _, rfl, B.sub.seq h1, h2⟩
  | own k =>
    cases r with
    | own h1 =>
      rename_i a
      cases e : sto[k]? with
      | none => simp only [lsOf, e] at h; cases h
      | some c =>
        cases c with
        | lst ys =>
          simp only [lsOf, e] at h
          cases h
          obtain ⟨vs, q1, q2, _⟩ := B.cell k _ _ h1 e
          exact ⟨a, vs, rfl, SqL.of q1, q2⟩
        | _ => simp only [lsOf, e] at h; cases h
  | _ => cases h
theorem seqOf_ok (B : Base K H H0 O sto) (r : Rp K H0 O v d) (h : seqOf sto d = some xs) : ∃ a vs, v = .ref a ∧ (SqL K H a vs ∨ SqT K H a vs) ∧ RpAll K H0 O vs xs := by
  cases d with
  | tup ys => cases h; cases r with | tup h1 h2 => exact ⟨_, _, rfl, .inr (sameNT B.sub h1), h2⟩
  | par ys => cases h; cases r with | par h1 h2 => exact ⟨_, _, rfl, .inr (sameT B.sub h1), h2⟩
  | lst ys => obtain ⟨a, vs, e, h1, h2⟩ := lsOf_ok B r h; exact ⟨a, vs, e, .inl h1, h2⟩
  | scr ys => obtain ⟨a, vs, e, h1, h2⟩ := lsOf_ok B r h; exact ⟨a, vs, e, .inl h1, h2⟩
  | own k => obtain ⟨a, vs, e, h1, h2⟩ := lsOf_ok B r h; exact ⟨a, vs, e, .inl h1, h2⟩
  | _ => cases h
end

/-! ### names, constants, chains -/
section
variable {X : Cx} {W : WX} {e a b c : Expr} {es : List Expr} {pos : Pos} {f g : Sl → M D} {h : Sl → M (List D)}
def fVar (i : Nat) : Sl → M D := fun sl s => match sl[i]? with | some (some d) => some (.ok d s) | _ => none
theorem tG_of {K : PySem.W.Frag} {mg : Str → Option Value} {β α : Type} {rp : Rep β α} {f : Sl → M α} {σ : L2.St} {H : Hp} {Q : β → Hp → Prop} (t : tG K mg W rp f σ H Q) :
    ∃ H0 O sl sto r, Base K H H0 O sto ∧ RpSl K H0 O σ sl ∧ f sl sto = some r ∧ PostG K mg rp H H0 O Q (fun c d H' => W c d σ H') r := t
theorem e_var (i : Nat) {x : Str} {pos : Pos} (hN : X.N[i]? = some x := by rfl) (hv : Vis X.env.scope x := by first | exact Or.inl rfl | exact Or.inr (Or.inl rfl) | exact Or.inr (Or.inr rfl)) (hd : (x == ("__debug__" : Str)) = false := by decide)
    (hcd : (x == ("__classdict__" : Str)) = false := by decide) : PE X (.Name x pos) (tE X.K X.mg W (fVar i)) := by
  refine PE.imp (pe_var (i := i) hN hv hd hcd) fun σ H Q t => ?_
  obtain ⟨H0, O, sl, sto, r, B, S, q, p⟩ := t
  unfold fVar at q
  split at q
  · rename_i d hd
    cases q
    obtain ⟨v, h1, h2⟩ := S.at_ i d hd
    exact ⟨v, h1, post_ok p B h2⟩
  · cases q
def fC (d : D) : Sl → M D := fun _ => retM d
theorem e_const {v : V} {d : D} (he : PE X e (tC v)) (hd : ∀ H O, Rp X.K H O v d) : PE X e (tE X.K X.mg W (fC d)) := by
  refine PE.imp he fun σ H Q t => ?_
  obtain ⟨H0, O, sl, sto, r, B, S, q, p⟩ := t
  cases q
  exact post_ok p B (hd _ _)
theorem e_int {i j pos} : PE X (.Constant (.int i) j pos) (tE X.K X.mg W (fC (.int i))) := e_const pe_int fun _ _ => .int i
theorem e_bl {b j pos} : PE X (.Constant (.bool b) j pos) (tE X.K X.mg W (fC (.bl b))) := e_const pe_bl fun _ _ => .bl b
theorem e_non {j pos} : PE X (.Constant .none j pos) (tE X.K X.mg W (fC .non)) := e_const pe_non fun _ _ => .non
theorem e_str {x j pos} : PE X (.Constant (.str x) j pos) (tE X.K X.mg W (fC (.str x))) := e_const pe_str fun _ _ => .str x
/-- arguments -/
def fNil : Sl → M (List D) := fun _ => retM []
def fCons (f : Sl → M D) (h : Sl → M (List D)) : Sl → M (List D) := fun sl => bindM (f sl) fun x => bindM (h sl) fun xs => retM (x :: xs)
theorem a_nil : PA X [] (tA X.K X.mg W fNil) := by
  refine PA.imp pa_nil fun σ H Q t => ?_
  obtain ⟨H0, O, sl, sto, r, B, S, q, p⟩ := t
  cases q
  exact post_ok p B .nil
theorem a_cons (he : PE X e (tE X.K X.mg W f)) (hr : PA X es (tA X.K X.mg W h)) (hs : starEach (e :: es) X.env = (false, eval e X.env) :: starEach es X.env := by rfl) : PA X (e :: es) (tA X.K X.mg W (fCons f h)) := by
  refine PA.imp (pa_cons he hr hs) fun σ H Q t => ?_
  refine tG_mono (tG_bind t) fun v H1 z => ?_
  obtain ⟨H0', O', sl', s', x, r', B', S', rx, q', p'⟩ := z
  obtain ⟨r2, e2, p2⟩ := PostG.bind (rp := RpAll X.K) q' p'
  refine ⟨H0', O', sl', s', r2, B', S', e2, p2.mono fun vs H2 z => ?_⟩
  obtain ⟨H02, O2, s2, xs, r3, B2, X2, rxs, q3, p3⟩ := z
  cases q3
  exact post_ok p3 B2 (.cons (X2.rp rx) rxs)
/-- one operand -/
def f1 (o : Sto → D → Option D) (f : Sl → M D) : Sl → M D := fun sl => bindM (f sl) fun x => liftO fun s => o s x
def f2 (o : Sto → D → D → Option D) (f g : Sl → M D) : Sl → M D := fun sl => bindM (f sl) fun x => bindM (g sl) fun y => liftO fun s => o s x y
/-- what an operation on values keeps -/
def rD1 (K : PySem.W.Frag) (o : Sto → D → Option D) : V → Hp → VK → Prop := fun x H Q => ∃ H0 O sto d z, Base K H H0 O sto ∧ Rp K H0 O x d ∧ o sto d = some z ∧ ∀ v H' H0', Base K H' H0' O sto → Ext H H0 O H' H0' O → Rp K H0' O v z → Q v H'
def rD2 (K : PySem.W.Frag) (o : Sto → D → D → Option D) : R2 := fun x y H Q => ∃ H0 O sto d e z, Base K H H0 O sto ∧ Rp K H0 O x d ∧ Rp K H0 O y e ∧ o sto d e = some z ∧ ∀ v H' H0', Base K H' H0' O sto → Ext H H0 O H' H0' O → Rp K H0' O v z → Q v H'
theorem tE_f1 {o : Sto → D → Option D} {σ : L2.St} {H : Hp} {Q : VK} (t : tE X.K X.mg W (f1 o f) σ H Q) : tE X.K X.mg W f σ H fun x H1 => rD1 X.K o x H1 Q := by
  refine tG_mono (tG_bind t) fun v H1 z => ?_
  obtain ⟨H0', O', sl', s', x, r', B', S', rx, q', p'⟩ := z
  obtain ⟨y, hy, rfl⟩ := PostG.one (Q := Q) q'
  exact ⟨H0', O', s', x, y, B', rx, hy, fun v H' H0'' b x r => p' v H' H0'' O' b x r⟩
theorem tE_f2 {o : Sto → D → D → Option D} {σ : L2.St} {H : Hp} {Q : VK} (t : tE X.K X.mg W (f2 o f g) σ H Q) : tE X.K X.mg W f σ H fun x H1 => tE X.K X.mg W g σ H1 fun y H2 => rD2 X.K o x y H2 Q := by
  refine tG_mono (tG_bind t) fun v H1 z => ?_
  obtain ⟨H0', O', sl', s', x, r', B', S', rx, q', p'⟩ := z
  obtain ⟨r2, e2, p2⟩ := PostG.bind (rp := Rp X.K) q' p'
  refine ⟨H0', O', sl', s', r2, B', S', e2, p2.mono fun y H2 z => ?_⟩
  obtain ⟨H02, O2, s2, ys, r3, B2, X2, ry, q3, p3⟩ := z
  obtain ⟨y', hy, rfl⟩ := PostG.one (Q := Q) q3
  exact ⟨H02, O2, s2, x, ys, y', B2, X2.rp rx, ry, hy, fun v H' H0'' b x r => p3 v H' H0'' O2 b x r⟩
theorem e_bin {op : Operator} {o : Sto → D → D → Option D} (ho : OpR X (binaryOp op) (rD2 X.K o)) (ha : PE X a (tE X.K X.mg W f)) (hb : PE X b (tE X.K X.mg W g)) : PE X (.BinOp a op b pos) (tE X.K X.mg W (f2 o f g)) :=
  PE.imp (pe_op ho ha hb) fun _ _ _ t => tE_f2 t
theorem e_cmp {op : CmpOp} {o : Sto → D → D → Option D} (ho : OpR X (compareOp op) (rD2 X.K o)) (ha : PE X a (tE X.K X.mg W f)) (hb : PE X b (tE X.K X.mg W g)) (hm : behindInMarks op b = false := by first | exact nomark _ | rfl) : PE X (.Compare a [op] [b] pos) (tE X.K X.mg W (f2 o f g)) :=
  PE.imp (pe_cmpR ho ha hb hm) fun _ _ _ t => tE_f2 t
/-- tests -/
def asB : D → Option Bool | .bl b => some b | _ => none
def fB (f : Sl → M D) : Sl → M Bool := fun sl => bindM (f sl) fun x => liftO fun _ => asB x
theorem tT_fB {σ : L2.St} {H : Hp} {Q : Bool → Hp → Prop} (t : tT X.K X.mg W (fB f) σ H Q) : tE X.K X.mg W f σ H fun x H1 => ∃ k, x = .bl k ∧ Q k H1 := by
  refine tG_mono (tG_bind t) fun v H1 z => ?_
  obtain ⟨H0', O', sl', s', x, r', B', S', rx, q', p'⟩ := z
  obtain ⟨y, hy, rfl⟩ := PostG.one (Q := Q) q'
  cases x with
  | bl k => cases hy; cases rx; exact ⟨_, rfl, post_ok p' B' rfl⟩
  | _ => cases hy
theorem b_cmp {op : CmpOp} {o : Sto → D → D → Option D} (ho : OpR X (compareOp op) (rD2 X.K o)) (ha : PE X a (tE X.K X.mg W f)) (hb : PE X b (tE X.K X.mg W g)) (hm : behindInMarks op b = false := by first | exact nomark _ | rfl) : PT X (.Compare a [op] [b] pos) (tT X.K X.mg W (fB (f2 o f g))) :=
  PT.imp (pt_cmpR ho ha hb hm) fun _ _ _ t => (tE_f2 (tT_fB t))
/-- the truth of a value -/
def truO (s : Sto) : D → Option Bool
  | .non => some false
  | .bl b => some b
  | .int i => some (i != 0)
  | .str x => if x.length ≤ 16777216 then some ((x.length : Int) != 0) else none
  | d => (seqOf s d).map fun xs => !xs.isEmpty
def fTru (f : Sl → M D) : Sl → M Bool := fun sl => bindM (f sl) fun x => liftO fun s => truO s x
theorem empty_of {K : PySem.W.Frag} {H : Hp} {O : List Addr} {vs : List V} {xs : List D} (r : RpAll K H O vs xs) : vs.isEmpty = xs.isEmpty := by
  cases r <;> rfl
theorem b_tru (ha : PE X e (tE X.K X.mg W f)) (he : ∀ whole, isTrue e X.env whole = (do let v ← whole; standAt e.pos; holding [v] (truthy v)) := by intro _; rfl) : PT X e (tT X.K X.mg W (fTru f)) := by
  refine PT.imp (pt_truth ha he) fun σ H Q t => ?_
  refine tG_mono (tG_bind t) fun v H1 z => ?_
  obtain ⟨H0', O', sl', s', x, r', B', S', rx, q', p'⟩ := z
  obtain ⟨y, hy, rfl⟩ := PostG.one (Q := Q) q'
  refine ⟨y, ?_, post_ok p' B' rfl⟩
  have seq : ∀ d, Rp X.K H0' O' v d → (seqOf s' d).map (fun xs => !xs.isEmpty) = some y → TruV X.K v H1 y := fun d rd h => by
    cases e : seqOf s' d with
    | none => rw [e] at h; cases h
    | some xs =>
      rw [e] at h
      cases h
      obtain ⟨a, vs, rfl, hs, rs⟩ := seqOf_ok B' rd e
      rcases hs with hs | hs
      · exact .inl ⟨vs, hs, by rw [empty_of rs]⟩
      · exact .inr (.inl ⟨vs, hs, by rw [empty_of rs]⟩)
  cases x with
  | non => cases rx; cases hy; rfl
  | bl b => cases rx; cases hy; rfl
  | int i => cases rx; cases hy; rfl
  | str z =>
    cases rx
    have hy' : (if z.length ≤ 16777216 then some ((z.length : Int) != 0) else none) = some y := hy
    split at hy'
    · rename_i hz
      cases hy'
      exact ⟨by rw [sizeLine_eq]; exact hz, rfl⟩
    · cases hy'
  | lst xs => exact seq _ rx hy
  | tup xs => exact seq _ rx hy
  | par xs => exact seq _ rx hy
  | scr xs => exact seq _ rx hy
  | own k => exact seq _ rx hy
def fNot (f : Sl → M Bool) : Sl → M Bool := fun sl => bindM (f sl) fun x => retM (!x)
def fAnd (f g : Sl → M Bool) : Sl → M Bool := fun sl => bindM (f sl) fun x => if x = true then g sl else retM false
def fOr (f g : Sl → M Bool) : Sl → M Bool := fun sl => bindM (f sl) fun x => if x = true then retM true else g sl
variable {u v : Sl → M Bool}
theorem b_not (ha : PT X a (tT X.K X.mg W u)) : PT X (.UnaryOp .Not a pos) (tT X.K X.mg W (fNot u)) := by
  refine PT.imp (pt_not ha) fun σ H Q t => ?_
  refine tG_mono (tG_bind t) fun v H1 z => ?_
  obtain ⟨H0', O', sl', s', x, r', B', S', rx, q', p'⟩ := z
  cases rx
  cases q'
  exact post_ok p' B' rfl
theorem w_and {rest : List Expr} (ha : PT X a (tT X.K X.mg W u)) (hb : PW X (.BoolOp .And (b :: rest) pos) (tT X.K X.mg W v)) : PW X (.BoolOp .And (a :: b :: rest) pos) (tT X.K X.mg W (fAnd u v)) := by
  refine PW.imp (pw_and ha hb) fun σ H Q t => ?_
  refine tG_mono (tG_bind t) fun y H1 z => ?_
  obtain ⟨H0', O', sl', s', x, r', B', S', rx, q', p'⟩ := z
  cases rx
  cases y with
  | true => exact iteT ⟨H0', O', sl', s', r', B', S', q', p'⟩
  | false => cases q'; exact iteF (post_ok p' B' rfl)
theorem w_or {rest : List Expr} (ha : PT X a (tT X.K X.mg W u)) (hb : PW X (.BoolOp .Or (b :: rest) pos) (tT X.K X.mg W v)) : PW X (.BoolOp .Or (a :: b :: rest) pos) (tT X.K X.mg W (fOr u v)) := by
  refine PW.imp (pw_or ha hb) fun σ H Q t => ?_
  refine tG_mono (tG_bind t) fun y H1 z => ?_
  obtain ⟨H0', O', sl', s', x, r', B', S', rx, q', p'⟩ := z
  cases rx
  cases y with
  | true => cases q'; exact iteT (post_ok p' B' rfl)
  | false => exact iteF ⟨H0', O', sl', s', r', B', S', q', p'⟩
theorem w_and1 (ha : PT X a (tT X.K X.mg W u)) : PW X (.BoolOp .And [a] pos) (tT X.K X.mg W u) := pw_and1 ha
theorem w_or1 (ha : PT X a (tT X.K X.mg W u)) : PW X (.BoolOp .Or [a] pos) (tT X.K X.mg W u) := pw_or1 ha
theorem b_w (h : PW X e (tT X.K X.mg W u)) : PT X e (tT X.K X.mg W u) := h.pt
/-- and, or, not as values of truths -/
def fAndV (f g : Sl → M D) : Sl → M D := fun sl => bindM (f sl) fun x => match x with | .bl true => g sl | .bl false => retM (.bl false) | _ => fun _ => none
def fOrV (f g : Sl → M D) : Sl → M D := fun sl => bindM (f sl) fun x => match x with | .bl true => retM (.bl true) | .bl false => g sl | _ => fun _ => none
theorem e_and {rest : List Expr} (ha : PE X a (tE X.K X.mg W f)) (hb : PE X (.BoolOp .And (b :: rest) pos) (tE X.K X.mg W g)) : PE X (.BoolOp .And (a :: b :: rest) pos) (tE X.K X.mg W (fAndV f g)) := by
  refine PE.imp (pe_and ha hb) fun σ H Q t => ?_
  refine tG_mono (tG_bind t) fun y H1 z => ?_
  obtain ⟨H0', O', sl', s', x, r', B', S', rx, q', p'⟩ := z
  cases x with
  | bl k =>
    cases rx
    refine ⟨k, rfl, ?_⟩
    cases k with
    | true => exact iteT ⟨H0', O', sl', s', r', B', S', q', p'⟩
    | false => cases q'; exact iteF (post_ok p' B' (.bl false))
  | _ => cases q'
theorem e_or {rest : List Expr} (ha : PE X a (tE X.K X.mg W f)) (hb : PE X (.BoolOp .Or (b :: rest) pos) (tE X.K X.mg W g)) : PE X (.BoolOp .Or (a :: b :: rest) pos) (tE X.K X.mg W (fOrV f g)) := by
  refine PE.imp (pe_or ha hb) fun σ H Q t => ?_
  refine tG_mono (tG_bind t) fun y H1 z => ?_
  obtain ⟨H0', O', sl', s', x, r', B', S', rx, q', p'⟩ := z
  cases x with
  | bl k =>
    cases rx
    refine ⟨k, rfl, ?_⟩
    cases k with
    | true => cases q'; exact iteT (post_ok p' B' (.bl true))
    | false => exact iteF ⟨H0', O', sl', s', r', B', S', q', p'⟩
  | _ => cases q'
theorem e_one {op} (h : PE X a (tE X.K X.mg W f)) : PE X (.BoolOp op [a] pos) (tE X.K X.mg W f) := pe_one h
def notO (_ : Sto) : D → Option D | .bl b => some (.bl (!b)) | _ => none
theorem e_not (ha : PE X a (tE X.K X.mg W f)) : PE X (.UnaryOp .Not a pos) (tE X.K X.mg W (f1 notO f)) := by
  refine PE.imp (pe_not ha) fun σ H Q t => ?_
  refine tG_mono (tE_f1 t) fun y H1 z => ?_
  obtain ⟨H0', O', s', x, z', B', rx, hz, k⟩ := z
  cases x with
  | bl b => cases rx; cases hz; exact ⟨b, rfl, k _ _ _ B' (.refl _ _ _) (.bl _)⟩
  | _ => cases hz
def fIf (u : Sl → M Bool) (f g : Sl → M D) : Sl → M D := fun sl => bindM (u sl) fun x => if x = true then f sl else g sl
theorem e_if (hc : PT X c (tT X.K X.mg W u)) (ha : PE X a (tE X.K X.mg W f)) (hb : PE X b (tE X.K X.mg W g)) : PE X (.IfExp c a b pos) (tE X.K X.mg W (fIf u f g)) := by
  refine PE.imp (pe_ifExp hc ha hb) fun σ H Q t => ?_
  refine tG_mono (tG_bind t) fun y H1 z => ?_
  obtain ⟨H0', O', sl', s', x, r', B', S', rx, q', p'⟩ := z
  cases rx
  cases y with
  | true => exact iteT ⟨H0', O', sl', s', r', B', S', q', p'⟩
  | false => exact iteF ⟨H0', O', sl', s', r', B', S', q', p'⟩
/-- -a -/
def negO (_ : Sto) : D → Option D | .int i => some (.int (-i)) | _ => none
theorem e_neg (ha : PE X a (tE X.K X.mg W f)) : PE X (.UnaryOp .USub a pos) (tE X.K X.mg W (f1 negO f)) := by
  refine PE.imp (pe_un un_neg ha) fun σ H Q t => ?_
  refine tG_mono (tE_f1 t) fun y H1 z => ?_
  obtain ⟨H0', O', s', x, z', B', rx, hz, k⟩ := z
  cases x with
  | int i => cases rx; cases hz; exact ⟨i, rfl, k _ _ _ B' (.refl _ _ _) (.int _)⟩
  | _ => cases hz
/-! ### displays -/
def small (n : Nat) : Bool := decide (n ≤ 16777216)
def fTup (h : Sl → M (List D)) : Sl → M D := fun sl => bindM (h sl) fun xs => liftO fun _ => if small xs.length = true then some (.tup xs) else none
def fLst (h : Sl → M (List D)) : Sl → M D := fun sl => bindM (h sl) fun xs => liftO fun _ => if small xs.length = true then some (.lst xs) else none
/-- a display of a list of one's own -/
def fOwn (h : Sl → M (List D)) : Sl → M D := fun sl => bindM (h sl) fun xs s => if small xs.length = true then some (.ok (.own s.length) (s ++ [.lst xs])) else none
theorem small_ok {n : Nat} (h : small n = true) : n ≤ sizeLine := by rw [sizeLine_eq]; exact of_decide_eq_true h
theorem e_tup {x1} (ha : PA X es (tA X.K X.mg W h)) : PE X (.Tuple es x1 pos) (tE X.K X.mg W (fTup h)) := by
  refine PE.imp (pe_tupF ha) fun σ H Q t => ?_
  refine tG_mono (tG_bind t) fun vs H1 z => ?_
  obtain ⟨H0', O', sl', s', xs, r', B', S', rx, q', p'⟩ := z
  obtain ⟨y, hy, rfl⟩ := PostG.one (Q := Q) q'
  split at hy
  · rename_i hz
    cases hy
    refine ⟨by rw [rx.length]; exact small_ok hz, fun p0 o hd hp => ?_⟩
    obtain ⟨b1, b2⟩ := B'.new hp (.frz o (.tup vs))
    exact p' _ _ _ _ b1 b2 (.tup (SqN.mk hd) (b2.rps rx))
  · cases hy
theorem e_lst (ha : PA X es (tA X.K X.mg W h)) : PE X (.List es pos) (tE X.K X.mg W (fLst h)) := by
  refine PE.imp (pe_lst ha) fun σ H Q t => ?_
  refine tG_mono (tG_bind t) fun vs H1 z => ?_
  obtain ⟨H0', O', sl', s', xs, r', B', S', rx, q', p'⟩ := z
  obtain ⟨y, hy, rfl⟩ := PostG.one (Q := Q) q'
  split at hy
  · rename_i hz
    cases hy
    refine ⟨by rw [rx.length]; exact small_ok hz, fun p0 hp => ?_⟩
    obtain ⟨b1, b2⟩ := B'.new hp (.lst vs)
    exact p' _ _ _ _ b1 b2 (.lst upd_same (b2.rps rx))
  · cases hy
theorem none0 {K : PySem.W.Frag} {H H0 : Hp} {O : List Addr} {sto : Sto} (B : Base K H H0 O sto) {p : Addr} (hp : H p = none) : H0 p = none := by
  cases q : H0 p with
  | none => rfl
  | some u => rw [B.sub _ _ q] at hp; cases hp
theorem own_new {K : PySem.W.Frag} {H H0 : Hp} {O : List Addr} {sto : Sto} (B : Base K H H0 O sto) {p : Addr} (hp : H p = none) {vs : List V} {xs : List D} (rx : RpAll K H0 O vs xs) :
    Base K (upd H p (.lst vs)) H0 (O ++ [p]) (sto ++ [.lst xs]) ∧ Ext H H0 O (upd H p (.lst vs)) H0 (O ++ [p]) ∧ Rp K H0 (O ++ [p]) (.ref p) (.own sto.length) := by
  obtain ⟨b1, b2⟩ := B.newOwn hp (o := .lst vs) (c := .lst xs) ⟨vs, upd_same, rx, none0 B hp⟩
  refine ⟨b1, b2, .own ?_⟩
  rw [← B.len, List.getElem?_append_right (Nat.le_refl _), Nat.sub_self]
  rfl
theorem e_own (ha : PA X es (tA X.K X.mg W h)) : PE X (.List es pos) (tE X.K X.mg W (fOwn h)) := by
  refine PE.imp (pe_lst ha) fun σ H Q t => ?_
  refine tG_mono (tG_bind t) fun vs H1 z => ?_
  obtain ⟨H0', O', sl', s', xs, r', B', S', rx, q', p'⟩ := z
  have q2 : (if small xs.length = true then some (R.ok (D.own s'.length) (s' ++ [.lst xs])) else none) = some r' := q'
  split at q2
  · rename_i hz
    cases q2
    refine ⟨by rw [rx.length]; exact small_ok hz, fun p0 hp => ?_⟩
    obtain ⟨b1, b2, b3⟩ := own_new B' hp rx
    exact p' _ _ _ _ b1 b2 b3
  · cases q2
end
end PD

set_option Elab.async false
set_option linter.all false
set_option maxRecDepth 100000
set_option maxHeartbeats 4000000
/-! PD: operations on data. -/
namespace PD
open PySem PySem.Spec PyProof.Rows L2
section
variable {X : Cx}

/-! ### arithmetic -/
/-- a list whose object is tracked -/
def rawOf (sto : Sto) : D → Option (List D)
  | .lst xs => some xs
  | .own k => match sto[k]? with | some (.lst xs) => some xs | _ => none
  | _ => none
theorem rawOf_ok {K : PySem.W.Frag} {H H0 : Hp} {O : List Addr} {sto : Sto} {d : D} {v : V} {xs : List D} (B : Base K H H0 O sto) (r : Rp K H0 O v d) (h : rawOf sto d = some xs) : ∃ a vs, v = .ref a ∧ H a = some (.lst vs) ∧ RpAll K H0 O vs xs := by
  cases d with
  | lst ys => cases h; cases r with | lst h1 h2 => exact ⟨_, _, rfl, B.sub _ _ h1, h2⟩
  | own k =>
    cases r with
    | own h1 =>
      rename_i a
      cases e : sto[k]? with
      | none => simp only [rawOf, e] at h; cases h
      | some c =>
        cases c with
        | lst ys =>
          simp only [rawOf, e] at h
          cases h
          obtain ⟨vs, q1, q2, _⟩ := B.cell k _ _ h1 e
          exact ⟨a, vs, rfl, q1, q2⟩
        | _ => simp only [rawOf, e] at h; cases h
  | _ => cases h
def addO (s : Sto) : D → D → Option D
  | .int i, .int j => some (.int (i + j))
  | .str a, .str b => if small (a.length + b.length) = true then some (.str (a ++ b)) else none
  | .tup a, .tup b => if small (a.length + b.length) = true then some (.tup (a ++ b)) else none
  | d, e => match rawOf s d, rawOf s e with
    | some a, some b => if small (a.length + b.length) = true then some (.lst (a ++ b)) else none
    | _, _ => none
theorem o_add : OpR X (binaryOp .Add) (rD2 X.K addO) := by
  intro pins s σ H x y v u Q I rx ry h
  obtain ⟨H0, O, sto, d, e, z, B, rd, re, hz, k⟩ := h
  unfold addO at hz
  split at hz
  · cases rd; cases re; cases hz
    exact op_add pins s σ H _ _ v u Q I rx ry ⟨_, _, rfl, rfl, k _ _ _ B (.refl _ _ _) (.int _)⟩
  · split at hz
    · rename_i hs
      cases rd; cases re; cases hz
      exact op_add_str pins s σ H _ _ v u Q I rx ry ⟨_, _, rfl, rfl, small_ok hs, k _ _ _ B (.refl _ _ _) (.str _)⟩
    · cases hz
  · split at hz
    · rename_i hs
      cases hz
      cases rd with
      | tup h1 h2 =>
        cases re with
        | tup g1 g2 =>
          refine op_catF pins s σ H _ _ v u Q I rx ry ⟨_, _, _, _, rfl, rfl, sameNT B.sub h1, sameNT B.sub g1, by rw [h2.length, g2.length]; exact small_ok hs, fun e => ?_, fun _ e => ?_, fun _ _ p o hd hp => ?_⟩
          · subst e
            cases h2
            exact k _ _ _ B (.refl _ _ _) (.tup g1 g2)
          · subst e
            cases g2
            refine k _ _ _ B (.refl _ _ _) ?_
            rw [List.append_nil]
            exact .tup h1 h2
          · obtain ⟨b1, b2⟩ := B.new hp (.frz o (.tup _))
            exact k _ _ _ b1 b2 (.tup (SqN.mk hd) ((b2.rps h2).append (b2.rps g2)))
    · cases hz
  · split at hz
    · rename_i a b ha hb
      split at hz
      · rename_i hs
        cases hz
        obtain ⟨p1, vs, rfl, h1, h2⟩ := rawOf_ok B rd ha
        obtain ⟨p2, us, rfl, g1, g2⟩ := rawOf_ok B re hb
        refine op_cat pins s σ H _ _ v u Q I rx ry ⟨_, _, _, _, rfl, rfl, h1, g1, by rw [h2.length, g2.length]; exact small_ok hs, fun p hp => ?_⟩
        obtain ⟨b1, b2⟩ := B.new hp (.lst (vs ++ us))
        exact k _ _ _ b1 b2 (.lst upd_same ((b2.rps h2).append (b2.rps g2)))
      · cases hz
    · cases hz
def subO (_ : Sto) : D → D → Option D
  | .int i, .int j => some (.int (i - j))
  | _, _ => none
theorem o_sub : OpR X (binaryOp .Sub) (rD2 X.K subO) := by
  intro pins s σ H x y v u Q I rx ry h
  obtain ⟨H0, O, sto, d, e, z, B, rd, re, hz, k⟩ := h
  unfold subO at hz
  split at hz
  · cases rd; cases re; cases hz
    exact op_sub pins s σ H _ _ v u Q I rx ry ⟨_, _, rfl, rfl, k _ _ _ B (.refl _ _ _) (.int _)⟩
  · cases hz
def mulOk (i j : Int) : Bool := (decide (-(2 ^ 64) < i) && decide (i < 2 ^ 64)) || (decide (-(2 ^ 64) < j) && decide (j < 2 ^ 64))
def mulO (_ : Sto) : D → D → Option D
  | .int i, .int j => if mulOk i j = true then some (.int (i * j)) else none
  | _, _ => none
theorem mulOk_ok {i j : Int} (h : mulOk i j = true) : CMul i j := by
  unfold mulOk at h
  simp only [Bool.or_eq_true, Bool.and_eq_true, decide_eq_true_eq] at h
  exact h
theorem o_mul : OpR X (binaryOp .Mult) (rD2 X.K mulO) := by
  intro pins s σ H x y v u Q I rx ry h
  obtain ⟨H0, O, sto, d, e, z, B, rd, re, hz, k⟩ := h
  unfold mulO at hz
  split at hz
  · split at hz
    · rename_i hs
      cases rd; cases re; cases hz
      exact op_mul pins s σ H _ _ v u Q I rx ry ⟨_, _, rfl, rfl, mulOk_ok hs, k _ _ _ B (.refl _ _ _) (.int _)⟩
    · cases hz
  · cases hz
def modO (_ : Sto) : D → D → Option D
  | .int i, .int j => if 0 < j then some (.int (i % j)) else none
  | _, _ => none
theorem o_mod : OpR X (binaryOp .Mod) (rD2 X.K modO) := by
  intro pins s σ H x y v u Q I rx ry h
  obtain ⟨H0, O, sto, d, e, z, B, rd, re, hz, k⟩ := h
  unfold modO at hz
  split at hz
  · split at hz
    · rename_i i j hs
      cases rd; cases re; cases hz
      refine op_modN pins s σ H _ _ v u Q I rx ry ⟨_, _, rfl, rfl, by omega, ?_⟩
      have e : i.fmod j = i % j := Int.fmod_eq_emod_of_nonneg i (by omega)
      show Q (V.int (i.fmod j)) H
      rw [e]
      exact k _ _ _ B (.refl _ _ _) (.int _)
    · cases hz
  · cases hz
def fdivO (_ : Sto) : D → D → Option D
  | .int i, .int j => if 0 < j ∧ j < 1073741824 then some (.int (i / j)) else none
  | _, _ => none
theorem o_fdiv : OpR X (binaryOp .FloorDiv) (rD2 X.K fdivO) := by
  intro pins s σ H x y v u Q I rx ry h
  obtain ⟨H0, O, sto, d, e, z, B, rd, re, hz, k⟩ := h
  unfold fdivO at hz
  split at hz
  · split at hz
    · rename_i i j hs
      cases rd; cases re; cases hz
      refine op_fdivN pins s σ H _ _ v u Q I rx ry ⟨_, _, rfl, rfl, ⟨by omega, by omega⟩, ?_⟩
      have e : i.fdiv j = i / j := Int.fdiv_eq_ediv_of_nonneg i (by omega)
      show Q (V.int (i.fdiv j)) H
      rw [e]
      exact k _ _ _ B (.refl _ _ _) (.int _)
    · cases hz
  · cases hz
def powO (_ : Sto) : D → D → Option D
  | .int i, .int j => if 0 ≤ j ∧ j ≤ 64 ∧ i.natAbs < 2 ^ 64 then some (.int (i ^ j.toNat)) else none
  | _, _ => none
theorem o_pow : OpR X (binaryOp .Pow) (rD2 X.K powO) := by
  intro pins s σ H x y v u Q I rx ry h
  obtain ⟨H0, O, sto, d, e, z, B, rd, re, hz, k⟩ := h
  unfold powO at hz
  split at hz
  · split at hz
    · rename_i i j hs
      cases rd; cases re; cases hz
      exact op_pow pins s σ H _ _ v u Q I rx ry ⟨_, _, rfl, rfl, ⟨hs.1, by omega, hs.2.2⟩, k _ _ _ B (.refl _ _ _) (.int _)⟩
    · cases hz
  · cases hz

/-! ### equality -/
mutual
theorem Rp.dp {K : PySem.W.Frag} {H : Hp} {O : List Addr} : ∀ (d : D) (v : V), D.low 0 d = true → Rp K H O v d → Dp K H v (py d)
  | .non, _, _, h => by cases h; exact .non
  | .bl b, _, _, h => by cases h; exact .bl b
  | .int i, _, _, h => by cases h; exact .int i
  | .str x, _, _, h => by cases h; exact .str x
  | .lst ds, _, b, h => by cases h with | lst h1 h2 => exact .lst (SqL.of h1) (RpAll.dp ds _ b h2)
  | .tup ds, _, b, h => by cases h with | tup h1 h2 => exact .tup h1.seq (RpAll.dp ds _ b h2)
  | .par ds, _, b, h => by cases h with | par h1 h2 => exact .tup h1 (RpAll.dp ds _ b h2)
  | .scr ds, _, b, h => by cases h with | scr h1 h2 => exact .lst h1 (RpAll.dp ds _ b h2)
  | .own k, _, b, h => absurd (show decide (k < 0) = true from b) (by simp)
theorem RpAll.dp {K : PySem.W.Frag} {H : Hp} {O : List Addr} : ∀ (ds : List D) (vs : List V), D.lowAll 0 ds = true → RpAll K H O vs ds → DpAll K H vs (pyAll ds)
  | [], _, _, h => by cases h; exact .nil
  | d :: ds, _, b, h => by
    cases h with
    | cons h1 h2 =>
      have b' := Bool.and_eq_true_iff.mp b
      exact .cons (Rp.dp d _ b'.1 h1) (RpAll.dp ds _ b'.2 h2)
end
def peek (sto : Sto) : D → D
  | .own k => match sto[k]? with | some (.lst xs) => .scr xs | _ => .own k
  | d => d
theorem peek_rp {K : PySem.W.Frag} {H H0 : Hp} {O : List Addr} {sto : Sto} {d : D} {v : V} (B : Base K H H0 O sto) (r : Rp K H0 O v d) : Rp K H O v (peek sto d) := by
  have go : ∀ d, Rp K H0 O v d → Rp K H O v d := fun d r => Rp.mono B.sub (fun _ _ h => h) d v r
  unfold peek
  split
  · rename_i k
    split
    · rename_i xs e
      cases r with
      | own h1 =>
        obtain ⟨vs, q1, q2, _⟩ := B.cell k _ _ h1 e
        exact .scr (SqL.of q1) (RpAll.mono B.sub (fun _ _ h => h) _ _ q2)
    · exact go _ r
  · exact go _ r
def plainPy (s : Sto) (d : D) : Option PyData := if (D.low 0 (peek s d) && SeqAt.shaped (py (peek s d))) = true then some (py (peek s d)) else none
theorem plainPy_ok {K : PySem.W.Frag} {H H0 : Hp} {O : List Addr} {sto : Sto} {d : D} {v : V} {z : PyData} (B : Base K H H0 O sto) (r : Rp K H0 O v d) (h : plainPy sto d = some z) : Dp K H v z ∧ SeqAt.shaped z = true := by
  unfold plainPy at h
  split at h
  · rename_i c
    cases h
    have c' := Bool.and_eq_true_iff.mp c
    exact ⟨Rp.dp _ _ c'.1 (peek_rp B r), c'.2⟩
  · cases h
def scD : D → Option V
  | .non => some .non | .bl b => some (.bl b) | .int i => some (.int i) | .str x => some (.str x)
  | _ => none
theorem scD_ok {K : PySem.W.Frag} {H : Hp} {O : List Addr} {d : D} {v x : V} (r : Rp K H O v d) (h : scD d = some x) : v = x := by
  cases d with
  | non => cases r; cases h; rfl
  | bl _ => cases r; cases h; rfl
  | int _ => cases r; cases h; rfl
  | str _ => cases r; cases h; rfl
  | _ => cases h
def deepB (s : Sto) (d e : D) : Option Bool := match plainPy s d, plainPy s e with
  | some a, some b => some (PyData.eqv a b)
  | _, _ => none
/-- a list or tuple, of any depth, beside a text -/
def seqStr (s : Sto) (d e : D) : Option Bool := match e with
  | .str _ => (seqOf s d).map fun _ => false
  | _ => none
def eqBo (s : Sto) (d e : D) : Option Bool := match scD d, scD e with
  | some x, some y => if scal x y = true then some (decide (x = y)) else deepB s d e
  | _, _ => match deepB s d e with
    | some b => some b
    | none => seqStr s d e
def ng (neg b : Bool) : Bool := match neg with | true => !b | false => b
def eqO (neg : Bool) (s : Sto) (d e : D) : Option D := (eqBo s d e).map fun b => .bl (ng neg b)
theorem o_eqAux {op : CmpOp} {neg : Bool} (h1 : OpR X (compareOp op) (fun x y H Q => scal x y = true ∧ Q (.bl (ng neg (decide (x = y)))) H))
    (h2 : OpR X (compareOp op) (fun x y H Q => ∃ d e, Dp X.K H x d ∧ Dp X.K H y e ∧ SeqAt.shaped d = true ∧ SeqAt.shaped e = true ∧ Q (.bl (ng neg (PyData.eqv d e))) H))
    (h3 : OpR X (compareOp op) (fun x y H Q => ∃ a vs b, x = .ref a ∧ y = .str b ∧ (SqL X.K H a vs ∨ SqT X.K H a vs) ∧ Q (.bl (ng neg false)) H)) :
    OpR X (compareOp op) (rD2 X.K (eqO neg)) := by
  intro pins s σ H x y v u Q I rx ry h
  obtain ⟨H0, O, sto, d, e, z, B, rd, re, hz, k⟩ := h
  have deep : ∀ b, deepB sto d e = some b → z = .bl (ng neg b) → wpAny (model X.prog X.w) X.A (compareOp op v u) (EP X pins σ Q) X.xe s := by
    intro b hb ez
    unfold deepB at hb
    split at hb
    · rename_i p q hp hq
      cases hb
      obtain ⟨a1, a2⟩ := plainPy_ok B rd hp
      obtain ⟨b1, b2⟩ := plainPy_ok B re hq
      refine h2 pins s σ H _ _ v u Q I rx ry ⟨_, _, a1, b1, a2, b2, k _ _ _ B (.refl _ _ _) ?_⟩
      rw [ez]
      exact .bl _
    · cases hb
  unfold eqO at hz
  cases hE : eqBo sto d e with
  | none => rw [hE] at hz; cases hz
  | some b =>
    rw [hE] at hz
    have ez : z = .bl (ng neg b) := (Option.some.inj hz).symm
    unfold eqBo at hE
    split at hE
    · rename_i p q ha hb
      split at hE
      · rename_i hs
        have e1 := scD_ok rd ha
        have e2 := scD_ok re hb
        subst e1 e2
        cases hE
        subst ez
        exact h1 pins s σ H _ _ v u Q I rx ry ⟨hs, k _ _ _ B (.refl _ _ _) (.bl _)⟩
      · exact deep b hE ez
    · split at hE
      · rename_i b' hb'
        cases hE
        exact deep b hb' ez
      · unfold seqStr at hE
        split at hE
        · rename_i w
          cases hq : seqOf sto d with
          | none => rw [hq] at hE; cases hE
          | some xs =>
            rw [hq] at hE
            cases hE
            cases re
            obtain ⟨p, vs, rfl, g1, g2⟩ := seqOf_ok B rd hq
            subst ez
            exact h3 pins s σ H _ _ v u Q I rx ry ⟨p, vs, _, rfl, rfl, g1, k _ _ _ B (.refl _ _ _) (.bl _)⟩
        · cases hE
theorem op_eqSS (hu : X.A.units + 64 < cLine) : OpR X (compareOp .Eq) (fun x y H Q => ∃ a vs b, x = .ref a ∧ y = .str b ∧ (SqL X.K H a vs ∨ SqT X.K H a vs) ∧ Q (.bl (ng false false)) H) := by
  intro pins s σ H x y v u Q I rx ry h
  obtain ⟨a, vs, b, rfl, rfl, hs, q⟩ := h
  cases rx
  obtain ⟨t, rfl⟩ := ry
  rcases hs with hq | hq
  · obtain ⟨its, r', pl, hz⟩ := I.list hq
    exact SeqAt.RcAt.list_str b t pl.isList (by omega) _ _ _ _ ⟨.bl false, H, I, rfl, q⟩
  · obtain ⟨its, r', pl, hz⟩ := I.tuple hq
    exact SeqAt.RcAt.tuple_str b t pl (by omega) _ _ _ _ ⟨.bl false, H, I, rfl, q⟩
theorem op_neSS (hu : X.A.units + 64 < cLine) : OpR X (compareOp .NotEq) (fun x y H Q => ∃ a vs b, x = .ref a ∧ y = .str b ∧ (SqL X.K H a vs ∨ SqT X.K H a vs) ∧ Q (.bl (ng true false)) H) := by
  intro pins s σ H x y v u Q I rx ry h
  obtain ⟨a, vs, b, rfl, rfl, hs, q⟩ := h
  cases rx
  obtain ⟨t, rfl⟩ := ry
  rcases hs with hq | hq
  · obtain ⟨its, r', pl, hz⟩ := I.list hq
    exact SeqAt.RcNeAt.list_str b t pl.isList (by omega) _ _ _ _ ⟨.bl true, H, I, rfl, q⟩
  · obtain ⟨its, r', pl, hz⟩ := I.tuple hq
    exact SeqAt.RcNeAt.tuple_str b t pl (by omega) _ _ _ _ ⟨.bl true, H, I, rfl, q⟩
theorem o_eq (hu : X.A.units + 64 < cLine) : OpR X (compareOp .Eq) (rD2 X.K (eqO false)) := o_eqAux (fun pins s σ H x y v u Q I rx ry h => op_eq pins s σ H x y v u Q I rx ry ⟨h.1, h.2⟩) (fun pins s σ H x y v u Q I rx ry h => op_eqD hu pins s σ H x y v u Q I rx ry h) (op_eqSS hu)
theorem o_ne (hu : X.A.units + 64 < cLine) : OpR X (compareOp .NotEq) (rD2 X.K (eqO true)) := o_eqAux (fun pins s σ H x y v u Q I rx ry h => op_ne pins s σ H x y v u Q I rx ry ⟨h.1, h.2⟩) (fun pins s σ H x y v u Q I rx ry h => op_neD hu pins s σ H x y v u Q I rx ry h) (op_neSS hu)
def ltO (_ : Sto) : D → D → Option D
  | .int i, .int j => some (.bl (decide (i < j)))
  | .str a, .str b => some (.bl (decide (a.cps.toList < b.cps.toList)))
  | _, _ => none
def leO (_ : Sto) : D → D → Option D
  | .int i, .int j => some (.bl (decide (i ≤ j)))
  | .str a, .str b => some (.bl (!decide (b.cps.toList < a.cps.toList)))
  | _, _ => none
def gtO (_ : Sto) : D → D → Option D
  | .int i, .int j => some (.bl (decide (j < i)))
  | .str a, .str b => some (.bl (decide (b.cps.toList < a.cps.toList)))
  | _, _ => none
def geO (_ : Sto) : D → D → Option D
  | .int i, .int j => some (.bl (decide (j ≤ i)))
  | .str a, .str b => some (.bl (!decide (a.cps.toList < b.cps.toList)))
  | _, _ => none
theorem o_lt : OpR X (compareOp .Lt) (rD2 X.K ltO) := by
  intro pins s σ H x y v u Q I rx ry h
  obtain ⟨H0, O, sto, d, e, z, B, rd, re, hz, k⟩ := h
  unfold ltO at hz
  split at hz
  · cases rd; cases re; cases hz
    exact op_lt pins s σ H _ _ v u Q I rx ry ⟨_, _, rfl, rfl, k _ _ _ B (.refl _ _ _) (.bl _)⟩
  · cases rd; cases re; cases hz
    exact op_lt_str pins s σ H _ _ v u Q I rx ry ⟨_, _, rfl, rfl, k _ _ _ B (.refl _ _ _) (.bl _)⟩
  · cases hz
theorem o_le : OpR X (compareOp .LtE) (rD2 X.K leO) := by
  intro pins s σ H x y v u Q I rx ry h
  obtain ⟨H0, O, sto, d, e, z, B, rd, re, hz, k⟩ := h
  unfold leO at hz
  split at hz
  · cases rd; cases re; cases hz
    exact op_le pins s σ H _ _ v u Q I rx ry ⟨_, _, rfl, rfl, k _ _ _ B (.refl _ _ _) (.bl _)⟩
  · cases rd; cases re; cases hz
    exact op_le_str pins s σ H _ _ v u Q I rx ry ⟨_, _, rfl, rfl, k _ _ _ B (.refl _ _ _) (.bl _)⟩
  · cases hz
theorem o_gt : OpR X (compareOp .Gt) (rD2 X.K gtO) := by
  intro pins s σ H x y v u Q I rx ry h
  obtain ⟨H0, O, sto, d, e, z, B, rd, re, hz, k⟩ := h
  unfold gtO at hz
  split at hz
  · cases rd; cases re; cases hz
    exact op_gt pins s σ H _ _ v u Q I rx ry ⟨_, _, rfl, rfl, k _ _ _ B (.refl _ _ _) (.bl _)⟩
  · cases rd; cases re; cases hz
    exact op_gt_str pins s σ H _ _ v u Q I rx ry ⟨_, _, rfl, rfl, k _ _ _ B (.refl _ _ _) (.bl _)⟩
  · cases hz
theorem o_ge : OpR X (compareOp .GtE) (rD2 X.K geO) := by
  intro pins s σ H x y v u Q I rx ry h
  obtain ⟨H0, O, sto, d, e, z, B, rd, re, hz, k⟩ := h
  unfold geO at hz
  split at hz
  · cases rd; cases re; cases hz
    exact op_ge pins s σ H _ _ v u Q I rx ry ⟨_, _, rfl, rfl, k _ _ _ B (.refl _ _ _) (.bl _)⟩
  · cases rd; cases re; cases hz
    exact op_ge_str pins s σ H _ _ v u Q I rx ry ⟨_, _, rfl, rfl, k _ _ _ B (.refl _ _ _) (.bl _)⟩
  · cases hz
/-- a is None -/
def isNO (neg : Bool) (_ : Sto) (d e : D) : Option D := match e with
  | .non => some (.bl (match d with | .non => !neg | _ => neg))
  | _ => none
theorem is_aux {K : PySem.W.Frag} {H : Hp} {O : List Addr} {d : D} {v : V} (r : Rp K H O v d) : decide (v = V.non) = (match d with | .non => true | _ => false) := by
  cases r <;> first | exact decide_eq_true rfl | exact decide_eq_false (fun z => nomatch z)
theorem o_is : OpR X (compareOp .Is) (rD2 X.K (isNO false)) := by
  intro pins s σ H x y v u Q I rx ry h
  obtain ⟨H0, O, sto, d, e, z, B, rd, re, hz, k⟩ := h
  unfold isNO at hz
  split at hz
  · cases re; cases hz
    refine op_isN pins s σ H _ _ v u Q I rx ry ⟨rfl, k _ _ _ B (.refl _ _ _) ?_⟩
    rw [is_aux rd]
    cases d <;> exact .bl _
  · cases hz
theorem o_isNot : OpR X (compareOp .IsNot) (rD2 X.K (isNO true)) := by
  intro pins s σ H x y v u Q I rx ry h
  obtain ⟨H0, O, sto, d, e, z, B, rd, re, hz, k⟩ := h
  unfold isNO at hz
  split at hz
  · cases re; cases hz
    refine op_notN pins s σ H _ _ v u Q I rx ry ⟨rfl, k _ _ _ B (.refl _ _ _) ?_⟩
    rw [is_aux rd]
    cases d <;> exact .bl _
  · cases hz
/-! ### in -/
theorem mapSc_ok {K : PySem.W.Frag} {H : Hp} {O : List Addr} : ∀ {xs : List D} {vs ys : List V}, RpAll K H O vs xs → xs.mapM scD = some ys → vs = ys
  | [], _, _, .nil, h => by cases h; rfl
  | x :: xs, v :: vs, ys, .cons r t, h => by
    rw [List.mapM_cons] at h
    cases e : scD x with
    | none => rw [e] at h; cases h
    | some y =>
      rw [e] at h
      cases e2 : xs.mapM scD with
      | none => rw [e2] at h; cases h
      | some zs =>
        rw [e2] at h
        cases h
        rw [scD_ok r e, mapSc_ok t e2]
def inFlat (s : Sto) (d e : D) : Option Bool := match scD d, (seqOf s e).bind (fun xs => xs.mapM scD) with
  | some x, some ys => if (flatV x && ys.all flatV) = true then some (inV x ys) else none
  | _, _ => none
def inDeep (s : Sto) (d e : D) : Option Bool := match plainPy s d, lsOf s e with
  | some a, some xs => if (D.lowAll 0 xs && SeqAt.shaped (.list (pyAll xs))) = true then some ((pyAll xs).any fun z => PyData.eqv z a) else none
  | _, _ => none
def inO (neg : Bool) (s : Sto) (d e : D) : Option D := match inFlat s d e with
  | some b => some (.bl (ng neg b))
  | none => (inDeep s d e).map fun b => .bl (ng neg b)
theorem o_inAux {op : CmpOp} {neg : Bool} (h1 : OpR X (compareOp op) (rIn X.K neg))
    (h2 : OpR X (compareOp op) (fun x y H Q => ∃ d ds, Dp X.K H x d ∧ Dp X.K H y (.list ds) ∧ SeqAt.shaped d = true ∧ SeqAt.shaped (.list ds) = true ∧ Q (.bl (ng neg (ds.any fun z => PyData.eqv z d))) H)) :
    OpR X (compareOp op) (rD2 X.K (inO neg)) := by
  intro pins s σ H x y v u Q I rx ry h
  obtain ⟨H0, O, sto, d, e, z, B, rd, re, hz, k⟩ := h
  unfold inO at hz
  split at hz
  · rename_i b hb
    cases hz
    unfold inFlat at hb
    split at hb
    · rename_i a ys ha hy
      split at hb
      · rename_i hf
        cases hb
        have e1 := scD_ok rd ha
        subst e1
        cases hq : seqOf sto e with
        | none => rw [hq] at hy; cases hy
        | some xs =>
          rw [hq] at hy
          obtain ⟨p, vs, rfl, g1, g2⟩ := seqOf_ok B re hq
          have e2 := mapSc_ok g2 hy
          subst e2
          have hf' := Bool.and_eq_true_iff.mp hf
          refine h1 pins s σ H _ _ v u Q I rx ry ⟨p, vs, rfl, g1, hf'.1, hf'.2, ?_⟩
          cases neg <;> exact k _ _ _ B (.refl _ _ _) (.bl _)
      · cases hb
    · cases hb
  · cases hd : inDeep sto d e with
    | none => rw [hd] at hz; cases hz
    | some b =>
      rw [hd] at hz
      cases hz
      unfold inDeep at hd
      split at hd
      · rename_i a xs ha hx
        split at hd
        · rename_i hf
          cases hd
          obtain ⟨p, vs, rfl, g1, g2⟩ := lsOf_ok B re hx
          have hf' := Bool.and_eq_true_iff.mp hf
          obtain ⟨a1, a2⟩ := plainPy_ok B rd ha
          exact h2 pins s σ H _ _ v u Q I rx ry ⟨_, _, a1, .lst g1 (RpAll.dp _ _ hf'.1 (RpAll.mono B.sub (fun _ _ h => h) _ _ g2)), a2, hf'.2, k _ _ _ B (.refl _ _ _) (.bl _)⟩
        · cases hd
      · cases hd
theorem o_in (hu : X.A.units + 65 < cLine) : OpR X (compareOp .In) (rD2 X.K (inO false)) := o_inAux op_in_seq fun pins s σ H x y v u Q I rx ry h => op_inD hu pins s σ H x y v u Q I rx ry h
theorem o_notIn (hu : X.A.units + 65 < cLine) : OpR X (compareOp .NotIn) (rD2 X.K (inO true)) := o_inAux op_notIn_seq fun pins s σ H x y v u Q I rx ry h => op_notInD hu pins s σ H x y v u Q I rx ry h
/-! ### index, slices -/
def ixO (s : Sto) (d e : D) : Option D := match e with
  | .int i => match d with
    | .str z => if small z.length = true then (atI z.cps.toList i).map fun c => .str ⟨#[c]⟩ else none
    | d => (seqOf s d).bind fun xs => atI xs i
  | _ => none
theorem atI_rp {K : PySem.W.Frag} {H : Hp} {O : List Addr} {vs : List V} {xs : List D} {i : Int} {d : D} (r : RpAll K H O vs xs) (h : atI xs i = some d) : ∃ v, atI vs i = some v ∧ Rp K H O v d := by
  unfold atI at h ⊢
  rw [r.length]
  cases e : ixN xs.length i with
  | none => rw [e] at h; cases h
  | some j => rw [e] at h; exact r.get h
variable {W : WX} {e a b c o : Expr} {es : List Expr} {pos p2 : Pos} {f g : Sl → M D} {h : Sl → M (List D)}
theorem e_ix (ha : PE X a (tE X.K X.mg W f)) (hb : PE X b (tE X.K X.mg W g)) (hs : PlainIx b := by intro _ _; rfl) : PE X (.Subscript a b pos) (tE X.K X.mg W (f2 ixO f g)) := by
  refine PE.imp (pe_ix ix_seq ha hb hs) fun σ H Q t => ?_
  refine tG_mono (tE_f2 t) fun x H1 z => tG_mono z fun y H2 z => ?_
  obtain ⟨H0, O, sto, d, e, z, B, rd, re, hz, k⟩ := z
  unfold ixO at hz
  split at hz
  · rename_i i
    cases re
    split at hz
    · rename_i z'
      split at hz
      · rename_i hs
        cases rd
        cases hc : atI z'.cps.toList i with
        | none => rw [hc] at hz; cases hz
        | some c =>
          rw [hc] at hz
          cases hz
          exact .inr (.inr ⟨z', i, c, rfl, rfl, small_ok hs, hc, k _ _ _ B (.refl _ _ _) (.str _)⟩)
      · cases hz
    · rename_i d' _
      cases hq : seqOf sto d with
      | none => rw [hq] at hz; cases hz
      | some xs =>
        rw [hq] at hz
        obtain ⟨p, vs, rfl, g1, g2⟩ := seqOf_ok B rd hq
        obtain ⟨w, q1, q2⟩ := atI_rp g2 hz
        rcases g1 with g1 | g1
        · exact .inl ⟨p, vs, i, w, rfl, rfl, g1, q1, k _ _ _ B (.refl _ _ _) q2⟩
        · exact .inr (.inl ⟨p, vs, i, w, rfl, rfl, g1, q1, k _ _ _ B (.refl _ _ _) q2⟩)
  · cases hz
abbrev eqI : Rep (Option Int) (Option Int) := fun _ _ b a => b = a
abbrev tPo (K : PySem.W.Frag) (mg : Str → Option Value) (W : WX) (f : Sl → M (Option Int)) : TO := tG K mg W eqI f
def fNo : Sl → M (Option Int) := fun _ => retM none
def asI : D → Option (Option Int) | .int i => some (some i) | _ => none
def fSome (f : Sl → M D) : Sl → M (Option Int) := fun sl => bindM (f sl) fun x => liftO fun _ => asI x
theorem PO.imp {e : Option Expr} {t t' : TO} (h : PO X e t) (i : ∀ σ H Q, t' σ H Q → t σ H Q) : PO X e t' := ⟨fun pins s σ H Q I q => h.run pins s σ H Q I (i _ _ _ q)⟩
theorem s_none : PO X none (tPo X.K X.mg W fNo) := by
  refine PO.imp po_none fun σ H Q t => ?_
  obtain ⟨H0, O, sl, sto, r, B, S, q, p⟩ := t
  cases q
  exact post_ok p B rfl
theorem s_some (he : PE X e (tE X.K X.mg W f)) : PO X (some e) (tPo X.K X.mg W (fSome f)) := by
  refine PO.imp (po_some he) fun σ H Q t => ?_
  refine tG_mono (tG_bind t) fun v H1 z => ?_
  obtain ⟨H0', O', sl', s', x, r', B', S', rx, q', p'⟩ := z
  obtain ⟨y, hy, rfl⟩ := PostG.one (Q := Q) q'
  cases x with
  | int i => cases hy; cases rx; exact ⟨i, rfl, post_ok p' B' rfl⟩
  | _ => cases hy
def cutL {α : Type} (xs : List α) (lo hi : Option Int) : List α := (xs.drop (HT.sIx xs.length 0 lo)).take (HT.sIx xs.length xs.length hi - HT.sIx xs.length 0 lo)
theorem cut_rp {K : PySem.W.Frag} {H : Hp} {O : List Addr} {vs : List V} {xs : List D} (lo hi : Option Int) (r : RpAll K H O vs xs) : RpAll K H O (cutV vs lo hi) (cutL xs lo hi) := by
  unfold cutV cutL
  rw [r.length]
  exact (r.drop _).take _
def slO (s : Sto) (d : D) (lo hi : Option Int) : Option D := match d with
  | .str z => if small z.length = true then some (.str (cutS z lo hi)) else none
  | .tup xs => some (.tup (cutL xs lo hi))
  | d => (lsOf s d).map fun xs => .lst (cutL xs lo hi)
def fSl (f : Sl → M D) (u v : Sl → M (Option Int)) : Sl → M D := fun sl => bindM (f sl) fun x => bindM (u sl) fun lo => bindM (v sl) fun hi => liftO fun s => slO s x lo hi
variable {lo hi : Option Expr} {u v : Sl → M (Option Int)}
theorem sIx_whole (n : Nat) (lo hi : Option Int) {α : Type} (xs : List α) (hn : xs.length = n) (h : HT.sIx n 0 lo = 0 ∧ HT.sIx n n hi = n) : cutL xs lo hi = xs := by
  unfold cutL
  rw [hn, h.1, h.2, ← hn]
  simp
theorem e_sl (he : PE X e (tE X.K X.mg W f)) (hl : PO X lo (tPo X.K X.mg W u)) (hh : PO X hi (tPo X.K X.mg W v)) : PE X (.Subscript e (.Slice lo hi none p2) pos) (tE X.K X.mg W (fSl f u v)) := by
  refine PE.imp (pe_slice (sl_list.or (sl_tupF.or sl_str)) he hl hh) fun σ H Q t => ?_
  refine tG_mono (tG_bind t) fun x H1 z => ?_
  obtain ⟨H0', O', sl', s', d, r', B', S', rx, q', p'⟩ := z
  obtain ⟨r2, e2, p2⟩ := PostG.bind (rp := eqI) q' p'
  refine ⟨H0', O', sl', s', r2, B', S', e2, p2.mono fun l H2 z => ?_⟩
  obtain ⟨H02, O2, s2, l', r3, B2, X2, rl, q3, p3⟩ := z
  obtain ⟨r4, e4, p4⟩ := PostG.bind (rp := eqI) q3 p3
  refine ⟨H02, O2, sl', s2, r4, B2, S'.ext X2, e4, p4.mono fun u H3 z => ?_⟩
  obtain ⟨H03, O3, s3, u', r5, B3, X3, ru, q5, p5⟩ := z
  obtain ⟨y, hy, rfl⟩ := PostG.one (Q := Q) q5
  cases rl
  cases ru
  have rd := X3.rp (X2.rp rx)
  unfold slO at hy
  split at hy
  · rename_i z
    split at hy
    · rename_i hs
      cases hy
      cases rd
      exact .inr (.inr ⟨z, rfl, small_ok hs, post_ok p5 B3 (.str _)⟩)
    · cases hy
  · rename_i xs
    cases hy
    cases rd with
    | tup h1 h2 =>
      refine .inr (.inl ⟨_, _, rfl, sameNT B3.sub h1, fun hw => ?_, fun hw p o hd hp => ?_⟩)
      · rw [sIx_whole _ l u xs h2.length.symm hw] at p5
        exact post_ok p5 B3 (.tup h1 h2)
      · obtain ⟨b1, b2⟩ := B3.new hp (.frz o (.tup (cutV _ l u)))
        exact p5 _ _ _ _ b1 b2 (.tup (SqN.mk hd) (cut_rp l u (b2.rps h2)))
  · cases hq : lsOf s3 d with
    | none => rw [hq] at hy; cases hy
    | some xs =>
      rw [hq] at hy
      cases hy
      obtain ⟨a, vs, rfl, g1, g2⟩ := lsOf_ok B3 rd hq
      refine .inl ⟨a, vs, rfl, g1, fun p hp => ?_⟩
      obtain ⟨b1, b2⟩ := B3.new hp (.lst (cutV vs l u))
      exact p5 _ _ _ _ b1 b2 (.lst upd_same (cut_rp l u (b2.rps g2)))
def revO (s : Sto) (d : D) : Option D := (lsOf s d).map fun xs => .lst xs.reverse
theorem e_rev {k : Nat} {q1 q2 q3 : Pos} (he : PE X e (tE X.K X.mg W f)) : PE X (.Subscript e (.Slice none none (some (.UnaryOp .USub (.Constant (.int 1) k q1) q2)) q3) pos) (tE X.K X.mg W (f1 revO f)) := by
  refine PE.imp (pe_revL he) fun σ H Q t => ?_
  refine tG_mono (tE_f1 t) fun x H1 z => ?_
  obtain ⟨H0, O, sto, d, z, B, rd, hz, k⟩ := z
  unfold revO at hz
  cases hq : lsOf sto d with
  | none => rw [hq] at hz; cases hz
  | some xs =>
    rw [hq] at hz
    cases hz
    obtain ⟨a, vs, rfl, g1, g2⟩ := lsOf_ok B rd hq
    refine ⟨a, vs, rfl, g1, fun p hp => ?_⟩
    obtain ⟨b1, b2⟩ := B.new hp (.lst vs.reverse)
    exact k _ _ _ b1 b2 (.lst upd_same (b2.rps g2).reverse)
end
end PD

set_option Elab.async false
set_option linter.all false
set_option maxRecDepth 100000
set_option maxHeartbeats 4000000
/-! PD: calls. -/
namespace PD
open PySem PySem.Spec PyProof.Rows L2
section
variable {X : Cx} {W : WX} {e a b c o : Expr} {es : List Expr} {x : Str} {p pos apos : Pos} {f g : Sl → M D} {h : Sl → M (List D)} {id T : String}

/-! ### built-ins by name -/
def rDn (K : PySem.W.Frag) (o : Sto → List D → Option D) : List V → Hp → VK → Prop := fun vs H Q => ∃ H0 O sto ds z, Base K H H0 O sto ∧ RpAll K H0 O vs ds ∧ o sto ds = some z ∧ ∀ v H' H0', Base K H' H0' O sto → Ext H H0 O H' H0' O → Rp K H0' O v z → Q v H'
def fN (o : Sto → List D → Option D) (h : Sl → M (List D)) : Sl → M D := fun sl => bindM (h sl) fun xs => liftO fun s => o s xs
theorem tE_fN {o : Sto → List D → Option D} {σ : L2.St} {H : Hp} {Q : VK} (t : tE X.K X.mg W (fN o h) σ H Q) : tA X.K X.mg W h σ H fun xs H1 => rDn X.K o xs H1 Q := by
  refine tG_mono (tG_bind t) fun v H1 z => ?_
  obtain ⟨H0', O', sl', s', x, r', B', S', rx, q', p'⟩ := z
  obtain ⟨y, hy, rfl⟩ := PostG.one (Q := Q) q'
  exact ⟨H0', O', s', x, y, B', rx, hy, fun v H' H0'' b x r => p' v H' H0'' O' b x r⟩
theorem e_callB {o : Sto → List D → Option D} (hc : CallR X (.builtin id) (rDn X.K o)) (hg : Gl X x) (hm : X.mg x = none) (hv : bootBuiltins x = some (.builtin id)) (ha : PA X (e :: es) (tA X.K X.mg W h)) (hn : x ≠ "__name__" := by decide) (hdb : (x == ("__debug__" : Str)) = false := by decide)
    (he : starEach (e :: es) X.env = (false, eval e X.env) :: starEach es X.env := by rfl) (hpl : (backTo pos (starEach es X.env)).any (·.1) = false := by rfl) : PE X (.Call (.Name x p) (e :: es) [] pos) (tE X.K X.mg W (fN o h)) :=
  PE.imp (pe_callB hc hg hm hv ha hn hdb he hpl) fun _ _ _ t => tE_fN t
theorem e_callTy {o : Sto → List D → Option D} (hc : CallR X (.type T) (rDn X.K o)) (hg : Gl X x) (hm : X.mg x = none) (hv : bootBuiltins x = some (.type T)) (ha : PA X (e :: es) (tA X.K X.mg W h)) (hn : x ≠ "__name__" := by decide) (hdb : (x == ("__debug__" : Str)) = false := by decide)
    (he : starEach (e :: es) X.env = (false, eval e X.env) :: starEach es X.env := by rfl) (hpl : (backTo pos (starEach es X.env)).any (·.1) = false := by rfl) : PE X (.Call (.Name x p) (e :: es) [] pos) (tE X.K X.mg W (fN o h)) :=
  PE.imp (pe_callTy hc hg hm hv ha hn hdb he hpl) fun _ _ _ t => tE_fN t
def lenO (s : Sto) : List D → Option D
  | [.str z] => if small z.length = true then some (.int z.length) else none
  | [d] => (seqOf s d).map fun xs => .int xs.length
  | _ => none
theorem o_len : CallR X (.builtin "len") (rDn X.K lenO) := by
  intro pins s σ H xs us Q I r h
  obtain ⟨H0, O, sto, ds, z, B, rd, hz, k⟩ := h
  unfold lenO at hz
  split at hz
  · split at hz
    · rename_i hs
      cases hz
      cases rd with
      | cons r1 r2 =>
        cases r2
        cases r1
        exact call_len pins s σ H _ us Q I r ⟨_, _, rfl, ⟨small_ok hs, rfl⟩, k _ _ _ B (.refl _ _ _) (.int _)⟩
    · cases hz
  · rename_i d _
    cases hq : seqOf sto d with
    | none => rw [hq] at hz; cases hz
    | some ys =>
      rw [hq] at hz
      cases hz
      cases rd with
      | cons r1 r2 =>
        cases r2
        obtain ⟨q, vs, rfl, g1, g2⟩ := seqOf_ok B r1 hq
        refine call_len_seq pins s σ H _ us Q I r ⟨q, vs, rfl, g1, ?_⟩
        rw [g2.length]
        exact k _ _ _ B (.refl _ _ _) (.int _)
  · cases hz
def listO (s : Sto) : List D → Option D
  | [d] => (seqOf s d).map fun xs => .lst xs
  | _ => none
theorem o_list : CallR X (.type "list") (rDn X.K listO) := by
  intro pins s σ H xs us Q I r h
  obtain ⟨H0, O, sto, ds, z, B, rd, hz, k⟩ := h
  unfold listO at hz
  split at hz
  · rename_i d
    cases hq : seqOf sto d with
    | none => rw [hq] at hz; cases hz
    | some ys =>
      rw [hq] at hz
      cases hz
      cases rd with
      | cons r1 r2 =>
        cases r2
        obtain ⟨q, vs, rfl, g1, g2⟩ := seqOf_ok B r1 hq
        refine call_list_of pins s σ H _ us Q I r ⟨q, vs, rfl, g1, fun l hl => ?_⟩
        obtain ⟨b1, b2⟩ := B.new hl (.lst vs)
        exact k _ _ _ b1 b2 (.lst upd_same (b2.rps g2))
  · cases hz
def tupleO (s : Sto) : List D → Option D
  | [.tup xs] => some (.tup xs)
  | [d] => (lsOf s d).map fun xs => .tup xs
  | _ => none
theorem o_tuple : CallR X (.type "tuple") (rDn X.K tupleO) := by
  intro pins s σ H xs us Q I r h
  obtain ⟨H0, O, sto, ds, z, B, rd, hz, k⟩ := h
  unfold tupleO at hz
  split at hz
  · cases hz
    cases rd with
    | cons r1 r2 =>
      cases r2
      cases r1 with
      | tup h1 h2 => exact call_tupleF pins s σ H _ us Q I r ⟨_, _, rfl, .inr ⟨sameNT B.sub h1, k _ _ _ B (.refl _ _ _) (.tup h1 h2)⟩⟩
  · rename_i d _
    cases hq : lsOf sto d with
    | none => rw [hq] at hz; cases hz
    | some ys =>
      rw [hq] at hz
      cases hz
      cases rd with
      | cons r1 r2 =>
        cases r2
        obtain ⟨q, vs, rfl, g1, g2⟩ := lsOf_ok B r1 hq
        refine call_tupleF pins s σ H _ us Q I r ⟨q, vs, rfl, .inl ⟨g1, fun l o hd hl => ?_⟩⟩
        obtain ⟨b1, b2⟩ := B.new hl (.frz o (.tup vs))
        exact k _ _ _ b1 b2 (.tup (SqN.mk hd) (b2.rps g2))
  · cases hz
/-! ### isinstance(x, T), T a built-in class -/
def tyName (s : Sto) : D → Option String
  | .non => some "NoneType" | .bl _ => some "bool" | .int _ => some "int" | .str _ => some "str"
  | .lst _ => some "list" | .scr _ => some "list" | .tup _ => some "tuple" | .par _ => some "tuple"
  | .own k => match s[k]? with | some (.lst _) => some "list" | some (.dic _) => some "dict" | _ => none
theorem tyX_list {K : PySem.W.Frag} {H : Hp} {a : Addr} {vs : List V} (h : SqL K H a vs) : TyX K H (.ref a) (.type "list") := by
  rcases h with (h | ⟨o, h⟩) | ⟨o, its, n, hk, hc, _⟩
  · exact .base (.lst h)
  · exact .base (.frz h)
  · exact .kList hk hc
theorem tyX_tup {K : PySem.W.Frag} {H : Hp} {a : Addr} {vs : List V} (h : SqT K H a vs) : TyX K H (.ref a) (.type "tuple") := by
  rcases h with (h | ⟨o, h⟩) | ⟨o, its, n, hk, hc, _⟩
  · exact .base (.tup h)
  · exact .fTuple h
  · exact .kTuple hk hc
theorem tyName_ok {K : PySem.W.Frag} {H H0 : Hp} {O : List Addr} {sto : Sto} {d : D} {v : V} {n : String} (B : Base K H H0 O sto) (r : Rp K H0 O v d) (h : tyName sto d = some n) : TyX K H v (.type n) := by
  cases d with
  | non => cases r; cases h; exact .base .non
  | bl _ => cases r; cases h; exact .base (.bl _)
  | int _ => cases r; cases h; exact .base (.int _)
  | str _ => cases r; cases h; exact .base (.str _)
  | lst _ => cases h; cases r with | lst h1 h2 => exact .base (.lst (B.sub _ _ h1))
  | scr _ => cases h; cases r with | scr h1 h2 => exact tyX_list (B.sub.seq h1)
  | tup _ => cases h; cases r with | tup h1 h2 => exact tyX_tup (sameNT B.sub h1)
  | par _ => cases h; cases r with | par h1 h2 => exact tyX_tup (sameT B.sub h1)
  | own k =>
    cases r with
    | own h1 =>
      unfold tyName at h
      simp only at h
      split at h
      · rename_i e
        cases h
        obtain ⟨vs, q1, _⟩ := B.cell k _ _ h1 e
        exact .base (.lst q1)
      · rename_i e
        cases h
        obtain ⟨vs, q1, _⟩ := B.cell k _ _ h1 e
        exact .base (.dK q1)
      · cases h
/-- isinstance of two built-in classes' names -/
def isiT (a b : String) : Option Bool := match a, b with
  | "NoneType", "int" => some false | "NoneType", "str" => some false | "NoneType", "list" => some false | "NoneType", "tuple" => some false | "NoneType", "dict" => some false | "NoneType", "bool" => some false
  | "bool", "int" => some true | "bool", "str" => some false | "bool", "list" => some false | "bool", "tuple" => some false | "bool", "dict" => some false | "bool", "bool" => some true
  | "int", "int" => some true | "int", "str" => some false | "int", "list" => some false | "int", "tuple" => some false | "int", "dict" => some false | "int", "bool" => some false
  | "str", "int" => some false | "str", "str" => some true | "str", "list" => some false | "str", "tuple" => some false | "str", "dict" => some false | "str", "bool" => some false
  | "list", "int" => some false | "list", "str" => some false | "list", "list" => some true | "list", "tuple" => some false | "list", "dict" => some false | "list", "bool" => some false
  | "tuple", "int" => some false | "tuple", "str" => some false | "tuple", "list" => some false | "tuple", "tuple" => some true | "tuple", "dict" => some false | "tuple", "bool" => some false
  | "dict", "int" => some false | "dict", "str" => some false | "dict", "list" => some false | "dict", "tuple" => some false | "dict", "dict" => some true | "dict", "bool" => some false
  | _, _ => none
theorem isiT_ok {K : PySem.W.Frag} {a b : String} {r : Bool} (h : isiT a b = some r) : PySem.W.kitOne K (.type a) (.type b) = some r := by
  unfold isiT at h
  split at h <;> first | (cases h; done) | (cases h; exact kit_ty (by decide +kernel))
def isiO (T : String) (s : Sto) (d : D) : Option D := ((tyName s d).bind fun n => isiT n T).map .bl
theorem e_isi {q : Pos} {y : Str} (hg : Gl X "isinstance") (hm : X.mg "isinstance" = none) (hgT : Gl X y) (hmT : X.mg y = none) (hvT : bootBuiltins y = some (.type T)) (hn : y ≠ "__name__" := by decide) (hd : (y == ("__debug__" : Str)) = false := by decide) (ha : PE X a (tE X.K X.mg W f))
    (he : starEach [a, .Name y q] X.env = (false, eval a X.env) :: starEach [.Name y q] X.env := by rfl) (he2 : starEach [.Name y q] X.env = (false, eval (.Name y q) X.env) :: starEach [] X.env := by rfl) (hpl : (backTo pos (starEach [.Name y q] X.env)).any (·.1) = false := by rfl) :
    PE X (.Call (.Name "isinstance" p) [a, .Name y q] [] pos) (tE X.K X.mg W (f1 (isiO T) f)) := by
  have hT : PE X (.Name y q) (tC (.ty T)) := pe_bltn hgT hmT hvT rfl hn hd
  refine PE.imp (pe_callB call_isi hg hm (by decide +kernel) (pa_cons ha (pa_cons hT pa_nil he2) he) (by decide) (by decide) he hpl) fun σ H Q t => ?_
  refine tG_mono (tE_f1 t) fun x H1 z => ?_
  obtain ⟨H0, O, sto, d, z, B, rd, hz, k⟩ := z
  unfold isiO at hz
  cases hq : tyName sto d with
  | none => rw [hq] at hz; cases hz
  | some n =>
    rw [hq] at hz
    have hz' : (isiT n T).map D.bl = some z := hz
    cases hr : isiT n T with
    | none => rw [hr] at hz'; cases hz'
    | some b =>
      rw [hr] at hz'
      cases hz'
      exact ⟨x, .ty T, .type n, .type T, b, rfl, .ty T, tyName_ok B rd hq, isiT_ok hr, k _ _ _ B (.refl _ _ _) (.bl _)⟩
/-! ### join -/
def strD : D → Option Str | .str x => some x | _ => none
theorem mapStr_ok {K : PySem.W.Frag} {H : Hp} {O : List Addr} : ∀ {xs : List D} {vs : List V} {ys : List Str}, RpAll K H O vs xs → xs.mapM strD = some ys → vs = ys.map V.str
  | [], _, _, .nil, h => by cases h; rfl
  | x :: xs, v :: vs, ys, .cons r t, h => by
    rw [List.mapM_cons] at h
    cases e : strD x with
    | none => rw [e] at h; cases h
    | some y =>
      rw [e] at h
      cases e2 : xs.mapM strD with
      | none => rw [e2] at h; cases h
      | some zs =>
        rw [e2] at h
        cases h
        have ex : x = .str y := by
          unfold strD at e
          split at e
          · cases e; rfl
          · cases e
        subst ex
        cases r
        rw [mapStr_ok t e2]
        rfl
def joinO (s : Sto) (d e : D) : Option D := match d with
  | .str a => match (seqOf s e).bind fun xs => xs.mapM strD with
    | some ys => if small ((ys.map (·.length)).sum + ys.length * a.length) = true then some (.str (Txt.join a ys)) else none
    | none => none
  | _ => none
def isStr : D → Option D | .str x => some (.str x) | _ => none
def fJoin (f g : Sl → M D) : Sl → M D := fun sl => bindM (f sl) fun x => bindM (liftO fun _ => isStr x) fun _ => bindM (g sl) fun y => liftO fun s => joinO s x y
theorem e_join (ho : PE X o (tE X.K X.mg W f)) (he : PE X e (tE X.K X.mg W g)) (hs : starEach [e] X.env = [(false, eval e X.env)] := by rfl) (hbase : attributeBase o "join" X.env (eval o X.env) = eval o X.env := by rfl) (hline : (apos.endLine == pos.line) = true := by rfl) :
    PE X (.Call (.Attribute o "join" apos) [e] [] pos) (tE X.K X.mg W (fJoin f g)) := by
  refine PE.imp (pe_join ho he hs hbase hline) fun σ H Q t => ?_
  refine tG_mono (tG_bind t) fun v H1 z => ?_
  obtain ⟨H0', O', sl', s', x, r', B', S', rx, q', p'⟩ := z
  obtain ⟨r2, e2, p2⟩ := PostG.bind (rp := Rp X.K) q' p'
  obtain ⟨y, hy, rfl⟩ := PostG.one (β := V) (Q := fun _ _ => True) e2
  cases x with
  | str w =>
    cases hy
    cases rx
    refine ⟨⟨w, rfl⟩, ?_⟩
    obtain ⟨H02, O2, s2, xs, r3, B2, X2, _, q3, p3⟩ := post_ok p2 B' (.str w)
    obtain ⟨r4, e4, p4⟩ := PostG.bind (rp := Rp X.K) q3 p3
    refine ⟨H02, O2, sl', s2, r4, B2, S'.ext X2, e4, p4.mono fun u H3 z => ?_⟩
    obtain ⟨H03, O3, s3, d3, r5, B3, X3, r3', q5, p5⟩ := z
    obtain ⟨y5, hy5, rfl⟩ := PostG.one (Q := Q) q5
    unfold joinO at hy5
    simp only at hy5
    split at hy5
    · rename_i ys hys
      split at hy5
      · rename_i hsm
        cases hy5
        cases hq : seqOf s3 d3 with
        | none => rw [hq] at hys; cases hys
        | some zs =>
          rw [hq] at hys
          obtain ⟨q, vs, rfl, g1, g2⟩ := seqOf_ok B3 r3' hq
          have ev := mapStr_ok g2 hys
          subst ev
          exact ⟨w, q, ys, rfl, rfl, g1, by have := small_ok hsm; rw [sizeLine_eq] at this; exact this, post_ok p5 B3 (.str _)⟩
      · cases hy5
    · cases hy5
  | _ => cases hy
/-! ### methods of lists -/
def fM0 (o : D → M D) (f : Sl → M D) : Sl → M D := fun sl => bindM (f sl) fun x => bindM (liftO fun s => (lsOf s x).map fun _ => D.non) fun _ => o x
def fM1 (o : D → List D → M D) (f : Sl → M D) (h : Sl → M (List D)) : Sl → M D := fun sl => bindM (f sl) fun x => bindM (liftO fun s => (lsOf s x).map fun _ => D.non) fun _ => bindM (h sl) fun xs => o x xs
def appendM (d : D) (ds : List D) : M D := fun s => match d, ds with
  | .own k, [y] => match s[k]? with
    | some (.lst xs) => if small (xs.length + 1) = true then some (.ok .non (s.set k (.lst (xs ++ [y])))) else none
    | _ => none
  | _, _ => none
def popM (d : D) : M D := fun s => match d with
  | .own k => match s[k]? with
    | some (.lst xs) => match xs[xs.length - 1]? with
      | some y => some (.ok y (s.set k (.lst xs.dropLast)))
      | none => none
    | _ => none
  | _ => none
theorem tyV_of {K : PySem.W.Frag} {H H0 : Hp} {O : List Addr} {sto : Sto} {d : D} {v : V} {y : D} (B : Base K H H0 O sto) (r : Rp K H0 O v d) (h : (lsOf sto d).map (fun _ => D.non) = some y) : tyV K "list" v H := by
  cases hq : lsOf sto d with
  | none => rw [hq] at h; cases h
  | some xs =>
    obtain ⟨a, vs, rfl, g1, g2⟩ := lsOf_ok B r hq
    exact .inl ⟨rfl, vs, g1⟩
theorem e_append (ho : PE X o (tE X.K X.mg W f)) (ha : PA X (e :: es) (tA X.K X.mg W h))
    (hbase : attributeBase o "append" X.env (eval o X.env) = eval o X.env := by rfl)
    (hfew : ((backTo pos (starEach (e :: es) X.env)).all (fun x => !x.1) && (backToKw pos (keywordEach [] X.env)).all (fun x => x.1.isSome)
      && decide ((e :: es).length + ([] : List Keyword).length + (if ([] : List Keyword).isEmpty then 0 else 1) < 30)) = true := by rfl) (hline : (apos.endLine == pos.line) = true := by rfl)
    (hs : starEach (e :: es) X.env = (false, eval e X.env) :: starEach es X.env := by rfl) (hplain : (backTo pos (starEach es X.env)).any (·.1) = false := by rfl) :
    PE X (.Call (.Attribute o "append" apos) (e :: es) [] pos) (tE X.K X.mg W (fM1 appendM f h)) := by
  refine PE.imp (pe_bm PySem.F.plainAttrs_list PySem.F.slot_list_append PySem.F.type_list_append mt_append ho ha hbase hfew (hline := hline) (hs := hs) (hplain := hplain)) fun σ H Q t => ?_
  refine tG_mono (tG_bind t) fun v H1 z => ?_
  obtain ⟨H0', O', sl', s', x, r', B', S', rx, q', p'⟩ := z
  obtain ⟨r2, e2, p2⟩ := PostG.bind (rp := Rp X.K) q' p'
  obtain ⟨y, hy, rfl⟩ := PostG.one (β := V) (Q := fun _ _ => True) e2
  refine ⟨tyV_of B' rx hy, ?_⟩
  obtain ⟨H02, O2, s2, xs, r3, B2, X2, _, q3, p3⟩ := p2 .non _ _ _ B' (.refl _ _ _) (by
    cases hq : lsOf s' x with
    | none => rw [hq] at hy; cases hy
    | some _ => rw [hq] at hy; cases hy; exact .non)
  obtain ⟨r4, e4, p4⟩ := PostG.bind (rp := RpAll X.K) q3 p3
  refine ⟨H02, O2, sl', s2, r4, B2, S'.ext X2, e4, p4.mono fun us H3 z => ?_⟩
  obtain ⟨H03, O3, s3, ds, r5, B3, X3, rs, q5, p5⟩ := z
  have rx3 := X3.rp (X2.rp rx)
  replace q5 : appendM x ds s3 = some r5 := q5
  unfold appendM at q5
  split at q5
  · rename_i k y5
    split at q5
    · rename_i ys hk
      split at q5
      · rename_i hsm
        cases q5
        cases rx3 with
        | own h1 =>
          rename_i a
          obtain ⟨vs, g1, g2, g3⟩ := B3.cell k _ _ h1 hk
          cases rs with
          | cons ry rn =>
            cases rn
            rename_i w
            have hl : vs.length < sizeLine := by
              have := small_ok hsm
              rw [g2.length]
              omega
            obtain ⟨b1, b2⟩ := B3.write (o := .lst (vs ++ [w])) (c := .lst (ys ++ [y5])) h1 g3 ⟨_, upd_same, g2.append (.one ry), g3⟩
            exact ⟨a, vs, w, rfl, rfl, g1, hl, p5 _ _ _ _ b1 b2 .non⟩
      · cases q5
    · cases q5
  · cases q5
theorem e_pop (ho : PE X o (tE X.K X.mg W f)) (hbase : attributeBase o "pop" X.env (eval o X.env) = eval o X.env := by rfl) (hline : (apos.endLine == pos.line) = true := by rfl) :
    PE X (.Call (.Attribute o "pop" apos) [] [] pos) (tE X.K X.mg W (fM0 popM f)) := by
  refine PE.imp (pe_bm0 PySem.F.plainAttrs_list PySem.F.slot_list_pop PySem.F.type_list_pop mt_pop ho hbase hline) fun σ H Q t => ?_
  refine tG_mono (tG_bind t) fun v H1 z => ?_
  obtain ⟨H0', O', sl', s', x, r', B', S', rx, q', p'⟩ := z
  obtain ⟨r2, e2, p2⟩ := PostG.bind (rp := Rp X.K) q' p'
  obtain ⟨y, hy, rfl⟩ := PostG.one (β := V) (Q := fun _ _ => True) e2
  refine ⟨tyV_of B' rx hy, ?_⟩
  obtain ⟨H03, O3, s3, xs, r3, B3, X3, _, q5, p5⟩ := p2 .non _ _ _ B' (.refl _ _ _) (by
    cases hq : lsOf s' x with
    | none => rw [hq] at hy; cases hy
    | some _ => rw [hq] at hy; cases hy; exact .non)
  have rx3 := X3.rp rx
  replace q5 : popM x s3 = some r3 := q5
  unfold popM at q5
  split at q5
  · rename_i k
    split at q5
    · rename_i ys hk
      split at q5
      · rename_i y5 hl5
        cases q5
        cases rx3 with
        | own h1 =>
          rename_i a
          obtain ⟨vs, g1, g2, g3⟩ := B3.cell k _ _ h1 hk
          obtain ⟨w, hw, rw'⟩ := g2.get hl5
          obtain ⟨b1, b2⟩ := B3.write (o := .lst vs.dropLast) (c := .lst ys.dropLast) h1 g3 ⟨_, upd_same, g2.dropLast, g3⟩
          exact ⟨a, vs, w, rfl, rfl, g1, by rw [g2.length]; exact hw, p5 _ _ _ _ b1 b2 rw'⟩
      · cases q5
    · cases q5
  · cases q5
end

/-! ### defs -/
def spD (K : PySem.W.Frag) (mg : Str → Option Value) (n : Nat) (g : List D → M D) : Sp := fun vs H Q E =>
  ∃ H0 O sto ds r, ds.length = n ∧ Base K H H0 O sto ∧ RpAll K H0 O vs ds ∧ g ds sto = some r ∧ PostG K mg (Rp K) H H0 O Q E r
def fCall (n : Nat) (g : List D → M D) (h : Sl → M (List D)) : Sl → M D := fun sl => bindM (h sl) fun ds => if ds.length = n then g ds else fun _ => none
section
variable {X : Cx} {W : WX} {k : Nat} {f : Addr} {fd : FuncData} {ps : List Str} {n : Nat} {g : List D → M D} {x : Str} {p pos : Pos} {e : Expr} {es : List Expr} {h : Sl → M (List D)}
theorem e_call (F : FnOk X.prog X.w X.K X.mg X.base (L2.CX X.prog X.w) k f fd ps (spD X.K X.mg n g)) (tk : L2.Takes X W) (hr : Room k X.A) (hg : Gl X x) (hm : X.mg x = some (.ref f)) (hk : PySem.W.keepIn X.K (.ref f) = true) (hb : Binds X.K fd ps [])
    (ha : PA X (e :: es) (tA X.K X.mg W h)) (hdb : (x == ("__debug__" : Str)) = false := by decide) (he : starEach (e :: es) X.env = (false, eval e X.env) :: starEach es X.env := by rfl) (hpl : (backTo pos (starEach es X.env)).any (·.1) = false := by rfl) :
    PE X (.Call (.Name x p) (e :: es) [] pos) (tE X.K X.mg W (fCall n g h)) := by
  refine PE.imp (pe_callS F hr hg hm hk hb (fun σ => passAt tk σ) ha hdb he hpl) fun σ H Q t => ?_
  refine tG_mono (tG_bind t) fun vs H1 z => ?_
  obtain ⟨H0', O', sl', s', ds, r', B', S', rx, q', p'⟩ := z
  split at q'
  · rename_i hn
    exact ⟨H0', O', s', ds, r', hn, B', rx, q', p'⟩
  · cases q'
end
end PD

set_option Elab.async false
set_option linter.all false
set_option maxRecDepth 100000
set_option maxHeartbeats 4000000
/-! PD: statements, loops, comprehensions. -/
namespace PD
open PySem PySem.Spec PyProof.Rows L2

abbrev SD := Sl → Sto → Option RS
def PostS (K : PySem.W.Frag) (mg : Str → Option Value) (W : WX) (H H0 : Hp) (O : List Addr) (D : Ends) : RS → Prop
  | .nx l s => ∀ σ' H' H0' O', Base K H' H0' O' s → Ext H H0 O H' H0' O' → RpSl K H0' O' σ' l → D.nx σ' H'
  | .bk l s => ∀ σ' H' H0' O', Base K H' H0' O' s → Ext H H0 O H' H0' O' → RpSl K H0' O' σ' l → D.bk σ' H'
  | .ct l s => ∀ σ' H' H0' O', Base K H' H0' O' s → Ext H H0 O H' H0' O' → RpSl K H0' O' σ' l → D.ct σ' H'
  | .rt d s => ∀ v H' H0' O', Base K H' H0' O' s → Ext H H0 O H' H0' O' → Rp K H0' O' v d → D.rt v H'
  | .ex c l s => ∀ cls dd σ' H' H0' O', mg c = some cls → Base K H' H0' O' s → Ext H H0 O H' H0' O' → RpSl K H0' O' σ' l → W cls dd σ' H'
def tS (K : PySem.W.Frag) (mg : Str → Option Value) (W : WX) (g : SD) : TS := fun D σ H => ∃ H0 O sl sto r, Base K H H0 O sto ∧ RpSl K H0 O σ sl ∧ g sl sto = some r ∧ PostS K mg W H H0 O D r
def bindS {α : Type} (m : M α) (sl : Sl) (k : α → Sto → Option RS) : Sto → Option RS := fun s => match m s with
  | none => none
  | some (.ok a s') => k a s'
  | some (.ex c s') => some (.ex c sl s')
section
variable {K : PySem.W.Frag} {mg : Str → Option Value} {W : WX} {H H0 H1 H01 : Hp} {O O1 : List Addr} {D D' : Ends} {σ : L2.St} {sl : Sl} {sto : Sto}
theorem PostS.ext {r : RS} (p : PostS K mg W H H0 O D r) (X : Ext H H0 O H1 H01 O1) : PostS K mg W H1 H01 O1 D r := by
  cases r with
  | nx l s => exact fun σ' H' H0' O' x y z => p σ' H' H0' O' x (X.trans y) z
  | bk l s => exact fun σ' H' H0' O' x y z => p σ' H' H0' O' x (X.trans y) z
  | ct l s => exact fun σ' H' H0' O' x y z => p σ' H' H0' O' x (X.trans y) z
  | rt d s => exact fun σ' H' H0' O' x y z => p σ' H' H0' O' x (X.trans y) z
  | ex c l s => exact fun cls dd σ' H' H0' O' w x y z => p cls dd σ' H' H0' O' w x (X.trans y) z
/-- in the midst of a statement -/
def MidS (K : PySem.W.Frag) (mg : Str → Option Value) (W : WX) {β α : Type} (rp : Rep β α) (k : α → Sto → Option RS) (H H0 : Hp) (O : List Addr) (D : Ends) (b : β) (H1 : Hp) : Prop :=
  ∃ H0' O' s a r, Base K H1 H0' O' s ∧ Ext H H0 O H1 H0' O' ∧ rp H0' O' b a ∧ k a s = some r ∧ PostS K mg W H1 H0' O' D r
theorem PostS.bind {β α : Type} {rp : Rep β α} {m : M α} {k : α → Sto → Option RS} {r : RS} (S : RpSl K H0 O σ sl) (h : bindS m sl k sto = some r) (p : PostS K mg W H H0 O D r) :
    ∃ r1, m sto = some r1 ∧ PostG K mg rp H H0 O (MidS K mg W rp k H H0 O D) (fun c d H' => W c d σ H') r1 := by
  unfold bindS at h
  cases e : m sto with
  | none => rw [e] at h; cases h
  | some r1 =>
    rw [e] at h
    refine ⟨r1, rfl, ?_⟩
    cases r1 with
    | ok a s => exact fun b H' H0' O' x y z => ⟨H0', O', s, a, r, x, y, z, h, p.ext y⟩
    | ex c s =>
      cases h
      exact fun cls dd H' H0' O' w x y => p cls dd σ H' H0' O' w x y (S.ext y)
theorem tS_bind {β α : Type} {rp : Rep β α} {f : Sl → M α} {k : Sl → α → Sto → Option RS} {H : Hp} (t : tS K mg W (fun sl => bindS (f sl) sl (k sl)) D σ H) :
    tG K mg W rp f σ H (fun b H1 => ∃ H0 O sl s a r, Base K H1 H0 O s ∧ RpSl K H0 O σ sl ∧ rp H0 O b a ∧ k sl a s = some r ∧ PostS K mg W H1 H0 O D r) := by
  obtain ⟨H0, O, sl, sto, r, B, S, e, p⟩ := t
  obtain ⟨r1, e1, p1⟩ := PostS.bind (rp := rp) S e p
  refine ⟨H0, O, sl, sto, r1, B, S, e1, p1.mono fun b H1 q => ?_⟩
  obtain ⟨H0', O', s, a, r', B', X', ra, e', p'⟩ := q
  exact ⟨H0', O', sl, s, a, r', B', S.ext X', ra, e', p'⟩
end
section
variable {X : Cx} {W : WX} {e a b c o : Expr} {es : List Expr} {pos p2 : Pos} {f g : Sl → M D} {h : Sl → M (List D)} {st : Stmt} {rest : List Stmt} {s1 s2 : SD}
theorem PS.imp {t t' : TS} (h : PS X st t) (i : ∀ D σ H, t' D σ H → t D σ H) : PS X st t' := ⟨fun pins s σ H D I q => h.run pins s σ H D I (i _ _ _ q)⟩
theorem PSs.imp {t t' : TS} (h : PSs X rest t) (i : ∀ D σ H, t' D σ H → t D σ H) : PSs X rest t' := ⟨fun pins s σ H D I q => h.run pins s σ H D I (i _ _ _ q)⟩
def seqS (g1 g2 : SD) : SD := fun sl s => match g1 sl s with
  | some (.nx sl' s') => g2 sl' s'
  | r => r
theorem c_cons (h1 : PS X st (tS X.K X.mg W s1)) (h2 : PSs X rest (tS X.K X.mg W s2)) : PSs X (st :: rest) (tS X.K X.mg W (seqS s1 s2)) := by
  refine PSs.imp (pss_cons h1 h2) fun D σ H t => ?_
  obtain ⟨H0, O, sl, sto, r, B, S, e, p⟩ := t
  unfold seqS at e
  cases q : s1 sl sto with
  | none => rw [q] at e; cases e
  | some r1 =>
    rw [q] at e
    refine ⟨H0, O, sl, sto, r1, B, S, q, ?_⟩
    cases r1 with
    | nx l s => exact fun σ' H' H0' O' x y z => ⟨H0', O', l, s, r, x, z, e, p.ext y⟩
    | bk l s => cases e; exact p
    | ct l s => cases e; exact p
    | rt d s => cases e; exact p
    | ex c l s => cases e; exact p
theorem c_one (h1 : PS X st (tS X.K X.mg W s1)) : PSs X [st] (tS X.K X.mg W s1) := pss_one h1
def nextS : SD := fun sl s => some (.nx sl s)
theorem c_nil : PSs X [] (tS X.K X.mg W nextS) := by
  refine PSs.imp pss_nil fun D σ H t => ?_
  obtain ⟨H0, O, sl, sto, r, B, S, e, p⟩ := t
  cases e
  exact p _ _ _ _ B (.refl _ _ _) S
theorem d_pass : PS X (.Pass pos) (tS X.K X.mg W nextS) := by
  refine PS.imp ps_pass fun D σ H t => ?_
  obtain ⟨H0, O, sl, sto, r, B, S, e, p⟩ := t
  cases e
  exact p _ _ _ _ B (.refl _ _ _) S
theorem d_doc {x j pos pos'} : PS X (.Expr (.Constant (.str x) j pos) pos') (tS X.K X.mg W nextS) := by
  refine PS.imp ps_doc fun D σ H t => ?_
  obtain ⟨H0, O, sl, sto, r, B, S, e, p⟩ := t
  cases e
  exact p _ _ _ _ B (.refl _ _ _) S
def breakS : SD := fun sl s => some (.bk sl s)
def contS : SD := fun sl s => some (.ct sl s)
theorem d_break : PS X (.Break pos) (tS X.K X.mg W breakS) := by
  refine PS.imp ps_break fun D σ H t => ?_
  obtain ⟨H0, O, sl, sto, r, B, S, e, p⟩ := t
  cases e
  exact p _ _ _ _ B (.refl _ _ _) S
theorem d_cont : PS X (.Continue pos) (tS X.K X.mg W contS) := by
  refine PS.imp ps_continue fun D σ H t => ?_
  obtain ⟨H0, O, sl, sto, r, B, S, e, p⟩ := t
  cases e
  exact p _ _ _ _ B (.refl _ _ _) S
def neverS : SD := fun _ _ => none
theorem d_never : PS X st (tS X.K X.mg W neverS) := by
  refine PS.imp ps_never fun D σ H t => ?_
  obtain ⟨H0, O, sl, sto, r, B, S, e, p⟩ := t
  cases e
def exprS (f : Sl → M D) : SD := fun sl => bindS (f sl) sl fun _ s => some (.nx sl s)
theorem d_expr (he : PE X e (tE X.K X.mg W f)) (hs : swapsWith e none pos.line X.env = pure false := by rfl) : PS X (.Expr e pos) (tS X.K X.mg W (exprS f)) := by
  refine PS.imp (ps_expr he hs) fun D σ H t => ?_
  refine tG_mono (tS_bind t) fun v H1 z => ?_
  obtain ⟨H0', O', sl', s', x, r', B', S', rx, q', p'⟩ := z
  cases q'
  exact p' _ _ _ _ B' (.refl _ _ _) S'
def retS (f : Sl → M D) : SD := fun sl => bindS (f sl) sl fun d s => some (.rt d s)
theorem d_ret (he : PE X e (tE X.K X.mg W f)) : PS X (.Return (some e) pos) (tS X.K X.mg W (retS f)) := by
  refine PS.imp (ps_ret he) fun D σ H t => ?_
  refine tG_mono (tS_bind t) fun v H1 z => ?_
  obtain ⟨H0', O', sl', s', x, r', B', S', rx, q', p'⟩ := z
  cases q'
  exact p' _ _ _ _ B' (.refl _ _ _) rx
def retNS : SD := fun _ s => some (.rt .non s)
theorem d_retN : PS X (.Return none pos) (tS X.K X.mg W retNS) := by
  refine PS.imp ps_retN fun D σ H t => ?_
  obtain ⟨H0, O, sl, sto, r, B, S, e, p⟩ := t
  cases e
  exact p _ _ _ _ B (.refl _ _ _) .non
def ifS (u : Sl → M Bool) (g1 g2 : SD) : SD := fun sl => bindS (u sl) sl fun b s => if b = true then g1 sl s else g2 sl s
theorem d_if {a b : List Stmt} {u : Sl → M Bool} (hc : PT X c (tT X.K X.mg W u)) (ha : PSs X a (tS X.K X.mg W s1)) (hb : PSs X b (tS X.K X.mg W s2)) : PS X (.If c a b pos) (tS X.K X.mg W (ifS u s1 s2)) := by
  refine PS.imp (ps_if hc ha hb) fun D σ H t => ?_
  refine tG_mono (tS_bind t) fun v H1 z => ?_
  obtain ⟨H0', O', sl', s', x, r', B', S', rx, q', p'⟩ := z
  cases rx
  cases v with
  | true => exact iteT ⟨H0', O', sl', s', r', B', S', q', p'⟩
  | false => exact iteF ⟨H0', O', sl', s', r', B', S', q', p'⟩
/-! ### stores -/
def setS (i : Nat) (f : Sl → M D) : SD := fun sl => bindS (f sl) sl fun d s => some (.nx (sl.set i (some d)) s)
theorem d_set {i : Nat} {x : Str} {pos' : Pos} (hN : X.N.Nodup) (hi : X.N[i]? = some x) (hx : Loc X.env.scope x) (he : PE X e (tE X.K X.mg W f)) (hs : swapsWith e (some (.Name x pos')) pos.line X.env = pure false := by rfl) (hf : X.fn x = true ∨ X.env.scope.names.lookup x = some .local := by first | exact .inl rfl | exact .inr rfl | assumption) :
    PS X (.Assign [.Name x pos'] e pos) (tS X.K X.mg W (setS i f)) := by
  refine PS.imp (ps_set hN hi hx he hs hf) fun D σ H t => ?_
  refine tG_mono (tS_bind t) fun v H1 z => ?_
  obtain ⟨H0', O', sl', s', x, r', B', S', rx, q', p'⟩ := z
  cases q'
  exact p' _ _ _ _ B' (.refl _ _ _) (S'.set rx i)
/-- targets: names and tuples of them -/
abbrev TD := D → Sl → Option Sl
theorem wipe_set (i : Nat) (x : Option V) : ∀ (vs : List Nat) (σ : L2.St), i ∈ vs → wipe (σ.set i x) vs = wipe σ vs := by
  have gen : ∀ (vs : List Nat) (σ : L2.St), wipe (σ.set i x) vs = if i ∈ vs then wipe σ vs else (wipe σ vs).set i x := by
    intro vs
    induction vs with
    | nil => intro σ; simp [wipe]
    | cons v vs ih =>
      intro σ
      show (wipe (σ.set i x) vs).set v none = if i ∈ v :: vs then (wipe σ vs).set v none else ((wipe σ vs).set v none).set i x
      rw [ih σ]
      by_cases h1 : i ∈ vs
      · rw [if_pos h1, if_pos (List.mem_cons_of_mem _ h1)]
      · rw [if_neg h1]
        by_cases h2 : i = v
        · subst h2
          rw [if_pos List.mem_cons_self, List.set_set]
        · rw [if_neg (by simp [h1, h2]), List.set_comm _ _ h2]
  intro vs σ h
  rw [gen vs σ, if_pos h]
structure TgOk (K : PySem.W.Frag) (vs : List Nat) (G : TG) (T : TD) : Prop where
  run : ∀ (H0 H : Hp) (O : List Addr) (v : V) (d : D) (σ : L2.St) (sl sl' : Sl) (Q : L2.St → Hp → Prop), Same H0 H → Rp K H0 O v d → RpSl K H0 O σ sl → T d sl = some sl' →
    (∀ σ', RpSl K H0 O σ' sl' → wipe σ' vs = wipe σ vs → Q σ' H) → G v σ H Q
def tdName (i : Nat) : TD := fun d sl => some (sl.set i (some d))
theorem g_name {K : PySem.W.Frag} {vs : List Nat} (i : Nat) (h : i ∈ vs := by decide) : TgOk K vs (gName i) (tdName i) := by
  refine ⟨fun H0 H O v d σ sl sl' Q s r S e q => ?_⟩
  cases e
  exact q _ (S.set r i) (wipe_set i _ vs σ h)
abbrev TDs := List D → Sl → Option Sl
structure TgsOk (K : PySem.W.Frag) (vs : List Nat) (n : Nat) (G : TGs) (T : TDs) : Prop where
  len : ∀ ds sl sl', T ds sl = some sl' → ds.length = n
  run : ∀ (H0 H : Hp) (O : List Addr) (us : List V) (ds : List D) (σ : L2.St) (sl sl' : Sl) (Q : L2.St → Hp → Prop), Same H0 H → RpAll K H0 O us ds → RpSl K H0 O σ sl → T ds sl = some sl' →
    (∀ σ', RpSl K H0 O σ' sl' → wipe σ' vs = wipe σ vs → Q σ' H) → G us σ H Q
def tdNil : TDs := fun ds sl => match ds with | [] => some sl | _ => none
def tdCons (T : TD) (U : TDs) : TDs := fun ds sl => match ds with
  | d :: r => match T d sl with | some sl1 => U r sl1 | none => none
  | [] => none
theorem g_nil {K : PySem.W.Frag} {vs : List Nat} : TgsOk K vs 0 gNil tdNil := by
  refine ⟨fun ds sl sl' e => ?_, fun H0 H O us ds σ sl sl' Q s r S e q => ?_⟩
  · unfold tdNil at e
    split at e
    · rfl
    · cases e
  · unfold tdNil at e
    split at e
    · cases e
      cases r
      exact ⟨rfl, q _ S rfl⟩
    · cases e
theorem g_cons {K : PySem.W.Frag} {vs : List Nat} {n : Nat} {G : TG} {T : TD} {Gs : TGs} {Ts : TDs} (h1 : TgOk K vs G T) (h2 : TgsOk K vs n Gs Ts) : TgsOk K vs (n + 1) (gCons G Gs) (tdCons T Ts) := by
  refine ⟨fun ds sl sl' e => ?_, fun H0 H O us ds σ sl sl' Q s r S e q => ?_⟩
  · unfold tdCons at e
    split at e
    · split at e
      · rw [List.length_cons, h2.len _ _ _ e]
      · cases e
    · cases e
  · unfold tdCons at e
    split at e
    · split at e
      · rename_i sl1 e1
        cases r with
        | cons r1 r2 => exact ⟨_, _, rfl, h1.run H0 H O _ _ σ sl sl1 _ s r1 S e1 fun σ1 S1 w1 => h2.run H0 H O _ _ σ1 sl1 sl' _ s r2 S1 e fun σ2 S2 w2 => q σ2 S2 (w2.trans w1)⟩
      · cases e
    · cases e
def tdTup (T : TDs) : TD := fun d sl => match d with | .tup xs => T xs sl | .par xs => T xs sl | _ => none
theorem g_tup {K : PySem.W.Frag} {vs : List Nat} {n : Nat} {Gs : TGs} {Ts : TDs} (h : TgsOk K vs n Gs Ts) : TgOk K vs (gTup K n Gs) (tdTup Ts) := by
  refine ⟨fun H0 H O v d σ sl sl' Q s r S e q => ?_⟩
  unfold tdTup at e
  split at e
  · cases r with
    | tup r1 r2 => exact ⟨_, _, rfl, sameNT s r1, by rw [r2.length]; exact h.len _ _ _ e, h.run H0 H O _ _ σ sl sl' Q s r2 S e q⟩
  · cases r with
    | par r1 r2 => exact ⟨_, _, rfl, sameT s r1, by rw [r2.length]; exact h.len _ _ _ e, h.run H0 H O _ _ σ sl sl' Q s r2 S e q⟩
  · cases e
def asgS (T : TD) (f : Sl → M D) : SD := fun sl => bindS (f sl) sl fun d s => match T d sl with | some sl' => some (.nx sl' s) | none => none
theorem d_asg {tg : Expr} {G : TG} {T : TD} {vs : List Nat} (he : PE X e (tE X.K X.mg W f)) (hg : PG X tg G) (ht : TgOk X.K vs G T) (hs : swapsWithSole [tg] e pos.line X.env = pure false := by rfl) (hw : swappedStores [tg] e X.env = pure none := by rfl)
    (h1 : (assignEach [tg] X.env).map (·.2) = [assign tg X.env] := by rfl) : PS X (.Assign [tg] e pos) (tS X.K X.mg W (asgS T f)) := by
  refine PS.imp (ps_asg he hg hs hw h1) fun D σ H t => ?_
  refine tG_mono (tS_bind t) fun v H1 z => ?_
  obtain ⟨H0', O', sl', s', x, r', B', S', rx, q', p'⟩ := z
  split at q'
  · rename_i sl2 e2
    cases q'
    exact ht.run H0' H1 O' v x σ sl' sl2 _ B'.sub rx S' e2 fun σ2 S2 _ => p' _ _ _ _ B' (.refl _ _ _) S2
  · cases q'
/-- xs[i] = e -/
def setIx (s : Sto) (d e y : D) : Option Sto := match d, e with
  | .own k, .int i => match s[k]? with
    | some (.lst xs) => (ixN xs.length i).map fun j => s.set k (.lst (xs.set j y))
    | _ => none
  | _, _ => none
def setIxS (f o i : Sl → M D) : SD := fun sl => bindS (f sl) sl fun y => bindS (o sl) sl fun d => bindS (i sl) sl fun e s => match setIx s d e y with | some s' => some (.nx sl s') | none => none
theorem d_setIx {i : Expr} {fi fo : Sl → M D} (he : PE X e (tE X.K X.mg W f)) (ho : PE X o (tE X.K X.mg W fo)) (hi : PE X i (tE X.K X.mg W fi))
    (ha : ∀ v, assign (.Subscript o i p2) X.env v = (do
      let ov ← holding [v] (eval o X.env)
      let iv ← holding [v, ov] (eval i X.env)
      standAt p2
      holding [v, ov, iv] (setItem ov iv v)
      release [v, ov, iv] []) := by intro _; rfl)
    (hs : swapsWithSole [.Subscript o i p2] e pos.line X.env = pure false := by rfl) (hw : swappedStores [.Subscript o i p2] e X.env = pure none := by rfl)
    (h1 : (assignEach [.Subscript o i p2] X.env).map (·.2) = [assign (.Subscript o i p2) X.env] := by rfl) : PS X (.Assign [.Subscript o i p2] e pos) (tS X.K X.mg W (setIxS f fo fi)) := by
  refine PS.imp (ps_asg he (pg_sub ho hi set_list ha) hs hw h1) fun D σ H t => ?_
  refine tG_mono (tS_bind t) fun v H1 z => ?_
  obtain ⟨H0', O', sl', s', y, r', B', S', rx, q', p'⟩ := z
  obtain ⟨r1, e1, p1⟩ := PostS.bind (rp := Rp X.K) S' q' p'
  refine ⟨H0', O', sl', s', r1, B', S', e1, p1.mono fun u H2 z => ?_⟩
  obtain ⟨H02, O2, s2, d, r2, B2, X2, rd, q2, p2⟩ := z
  obtain ⟨r3, e3, p3⟩ := PostS.bind (rp := Rp X.K) (S'.ext X2) q2 p2
  refine ⟨H02, O2, sl', s2, r3, B2, S'.ext X2, e3, p3.mono fun w H3 z => ?_⟩
  obtain ⟨H03, O3, s3, ei, r4, B3, X3, ri, q3, p3⟩ := z
  have q3' : (match setIx s3 d ei y with | some s' => some (RS.nx sl' s') | none => none) = some r4 := q3
  cases hx : setIx s3 d ei y with
  | none => rw [hx] at q3'; cases q3'
  | some s4 =>
    rw [hx] at q3'
    cases q3'
    unfold setIx at hx
    split at hx
    · rename_i k j
      split at hx
      · rename_i xs hk
        have rd3 := X3.rp rd
        have ry3 := X3.rp (X2.rp rx)
        cases rd3 with
        | own h1 =>
          cases ri
          rename_i a
          obtain ⟨vs, g1, g2, g3⟩ := B3.cell _ _ _ h1 hk
          cases hj : ixN xs.length j with
          | none => rw [hj] at hx; cases hx
          | some m =>
            rw [hj] at hx
            cases hx
            obtain ⟨b1, b2⟩ := B3.write (o := .lst (vs.set m v)) (c := .lst (xs.set m y)) h1 g3 ⟨_, upd_same, RpAll.set ry3 m g2, g3⟩
            exact ⟨a, vs, j, m, rfl, rfl, g1, by rw [g2.length]; exact hj, p3 _ _ _ _ b1 b2 (((S'.ext X2).ext X3).ext b2)⟩
      · cases hx
    · cases hx
/-- x += e, whole numbers -/
def augO (op : Int → Int → Int) : D → D → Option D
  | .int i, .int j => some (.int (op i j))
  | _, _ => none
def augS (i : Nat) (op : Int → Int → Int) (f : Sl → M D) : SD := fun sl s => match sl[i]? with
  | some (some d) => bindS (f sl) sl (fun e s => match augO op d e with | some z => some (.nx (sl.set i (some z)) s) | none => none) s
  | _ => none
theorem d_aug {i : Nat} {x : Str} {op : Operator} {fo : Int → Int → Int} {pos' : Pos} (hN : X.N.Nodup) (hi : X.N[i]? = some x) (hx : Loc X.env.scope x) (he : PE X e (tE X.K X.mg W f)) (ho : PIp X op (ipI fo)) (hf : X.fn x = true ∨ X.env.scope.names.lookup x = some .local := by first | exact .inl rfl | exact .inr rfl | assumption) :
    PS X (.AugAssign (.Name x pos') op e pos) (tS X.K X.mg W (augS i fo f)) := by
  refine PS.imp (ps_aug hN hi hx he ho hf) fun D σ H t => ?_
  obtain ⟨H0, O, sl, sto, r, B, S, q, p⟩ := t
  unfold augS at q
  split at q
  · rename_i d hd
    obtain ⟨v, h1, h2⟩ := S.at_ i d hd
    refine ⟨v, h1, ?_⟩
    obtain ⟨r1, e1, p1⟩ := PostS.bind (rp := Rp X.K) S q p
    refine ⟨H0, O, sl, sto, r1, B, S, e1, p1.mono fun u H2 z => ?_⟩
    obtain ⟨H02, O2, s2, d2, r2, B2, X2, rd, q2, p2⟩ := z
    replace q2 : (match augO fo d d2 with | some z => some (RS.nx (sl.set i (some z)) s2) | none => none) = some r2 := q2
    cases hx : augO fo d d2 with
    | none => rw [hx] at q2; cases q2
    | some z =>
      rw [hx] at q2
      cases q2
      unfold augO at hx
      split at hx
      · cases hx
        cases h2
        cases rd
        exact ⟨_, _, rfl, rfl, p2 _ _ _ _ B2 (.refl _ _ _) ((S.ext X2).set (.int _) i)⟩
      · cases hx
  · cases q
end
end PD

set_option Elab.async false
set_option linter.all false
set_option maxRecDepth 100000
set_option maxHeartbeats 4000000
/-! PD: loops, comprehensions, defs. -/
namespace PD
open PySem PySem.Spec PyProof.Rows L2

/-! ### what is walked -/
abbrev Src := List D × Option Nat
/-- an own list that is walked stands as it stood -/
def Ck (a : Src) (s : Sto) : Prop := match a.2 with | none => True | some k => s[k]? = some (.lst a.1)
noncomputable instance instCk (a : Src) (s : Sto) : Decidable (Ck a s) := Classical.propDecidable _
structure WalkD (K : PySem.W.Frag) (J : It) (H0 : Hp) (O : List Addr) (a : Src) : Prop where
  goes : ∀ i H H0' O' s, i < a.1.length → Base K H H0' O' s → Same H0 H0' → Pre O O' → Ck a s → J.go i H
  stops : ∀ H H0' O' s, Base K H H0' O' s → Same H0 H0' → Pre O O' → Ck a s → J.stop a.1.length H
  yields : ∀ i H H0' O' s v H', i < a.1.length → Base K H H0' O' s → Same H0 H0' → Pre O O' → Ck a s → J.yld i H v H' →
    ∃ H0'' d, Base K H' H0'' O' s ∧ Ext H H0' O' H' H0'' O' ∧ a.1[i]? = some d ∧ Rp K H0'' O' v d
abbrev WkR (K : PySem.W.Frag) : Rep It Src := fun H0 O J a => WalkD K J H0 O a
def itO (s : Sto) : D → Option Src
  | .lst xs => some (xs, none)
  | .scr xs => some (xs, none)
  | .own k => match s[k]? with | some (.lst xs) => some (xs, some k) | _ => none
  | _ => none
section
variable {K : PySem.W.Frag} {H H0 : Hp} {O : List Addr}
theorem walkD_list {a : Addr} {vs : List V} {xs : List D} (h : SqL K H0 a vs) (r : RpAll K H0 O vs xs) : WalkD K (Itl K a) H0 O (xs, none) := by
  refine ⟨fun i H H0' O' s hi B e p _ => ?_, fun H H0' O' s B e p _ => ?_, fun i H H0' O' s v H' hi B e p _ y => ?_⟩
  · have hv : i < vs.length := by rw [r.length]; exact hi
    exact ⟨vs, vs[i], (e.trans B.sub).seq h, List.getElem?_eq_getElem hv⟩
  · exact ⟨vs, (e.trans B.sub).seq h, by rw [r.length]; exact Nat.le_refl _⟩
  · obtain ⟨rfl, f⟩ := y
    obtain ⟨d, h1, h2⟩ := r.getV (f vs ((e.trans B.sub).seq h))
    exact ⟨H0', d, B, .refl _ _ _, h1, Rp.mono e (fun _ _ h => p.get h) _ _ h2⟩
theorem walkD_tup {a : Addr} {vs : List V} {xs : List D} (h : SqT K H0 a vs) (r : RpAll K H0 O vs xs) : WalkD K (Itt K a) H0 O (xs, none) := by
  refine ⟨fun i H H0' O' s hi B e p _ => ?_, fun H H0' O' s B e p _ => ?_, fun i H H0' O' s v H' hi B e p _ y => ?_⟩
  · have hv : i < vs.length := by rw [r.length]; exact hi
    exact ⟨vs, vs[i], sameT (e.trans B.sub) h, List.getElem?_eq_getElem hv⟩
  · exact ⟨vs, sameT (e.trans B.sub) h, by rw [r.length]; exact Nat.le_refl _⟩
  · obtain ⟨rfl, f⟩ := y
    obtain ⟨d, h1, h2⟩ := r.getV (f vs (sameT (e.trans B.sub) h))
    exact ⟨H0', d, B, .refl _ _ _, h1, Rp.mono e (fun _ _ h => p.get h) _ _ h2⟩
theorem walkD_own {a : Addr} {k : Nat} {xs : List D} (h : O[k]? = some a) : WalkD K (Itl K a) H0 O (xs, some k) := by
  refine ⟨fun i H H0' O' s hi B e p c => ?_, fun H H0' O' s B e p c => ?_, fun i H H0' O' s v H' hi B e p c y => ?_⟩
  · obtain ⟨vs, g1, g2, _⟩ := B.cell k _ _ (p.get h) c
    have hv : i < vs.length := by rw [g2.length]; exact hi
    exact ⟨vs, vs[i], SqL.of g1, List.getElem?_eq_getElem hv⟩
  · obtain ⟨vs, g1, g2, _⟩ := B.cell k _ _ (p.get h) c
    exact ⟨vs, SqL.of g1, by rw [g2.length]; exact Nat.le_refl _⟩
  · obtain ⟨rfl, f⟩ := y
    obtain ⟨vs, g1, g2, _⟩ := B.cell k _ _ (p.get h) c
    obtain ⟨d, h1, h2⟩ := g2.getV (f vs (SqL.of g1))
    exact ⟨H0', d, B, .refl _ _ _, h1, h2⟩
def rangeD (lo : Int) (n : Nat) : List D := (List.range n).map fun i => .int (lo + (i : Nat))
theorem walkD_range (lo : Int) (n : Nat) : WalkD K (Itr lo n) H0 O (rangeD lo n, none) := by
  have hl : (rangeD lo n).length = n := by unfold rangeD; rw [List.length_map, List.length_range]
  refine ⟨fun i H H0' O' s hi B e p _ => by rw [hl] at hi; exact hi, fun H H0' O' s B e p _ => by show n ≤ (rangeD lo n).length; rw [hl]; exact Nat.le_refl _, fun i H H0' O' s v H' hi B e p _ y => ?_⟩
  obtain ⟨rfl, rfl⟩ := y
  rw [hl] at hi
  refine ⟨H0', .int (lo + (i : Nat)), B, .refl _ _ _, ?_, .int _⟩
  show (rangeD lo n)[i]? = _
  unfold rangeD
  rw [List.getElem?_map, List.getElem?_range hi]
  rfl
/-- enumerate -/
def enumD : Nat → List D → List D
  | _, [] => []
  | i, x :: xs => .par [.int (i : Nat), x] :: enumD (i + 1) xs
theorem enumD_length : ∀ (i : Nat) (xs : List D), (enumD i xs).length = xs.length
  | _, [] => rfl
  | i, x :: xs => congrArg (· + 1) (enumD_length (i + 1) xs)
theorem enumD_get : ∀ (i : Nat) (xs : List D) (j : Nat) (d : D), xs[j]? = some d → (enumD i xs)[j]? = some (.par [.int ((i + j : Nat) : Int), d])
  | _, [], _, _, h => by simp at h
  | i, x :: xs, 0, d, h => by
    have e : x = d := by simpa using h
    subst e
    rfl
  | i, x :: xs, j + 1, d, h => by
    have q := enumD_get (i + 1) xs j d (by simpa using h)
    show (enumD (i + 1) xs)[j]? = _
    rw [q, show i + 1 + j = i + (j + 1) by omega]
theorem walkD_enum {a : Addr} {vs : List V} {xs : List D} (h : SqL K H0 a vs) (r : RpAll K H0 O vs xs) : WalkD K (Ite K a) H0 O (enumD 0 xs, none) := by
  refine ⟨fun i H H0' O' s hi B e p _ => ?_, fun H H0' O' s B e p _ => ?_, fun i H H0' O' s v H' hi B e p _ y => ?_⟩
  · have hi' : i < xs.length := by rw [← enumD_length 0 xs]; exact hi
    have hv : i < vs.length := by rw [r.length]; exact hi'
    exact ⟨vs, vs[i], (e.trans B.sub).seq h, List.getElem?_eq_getElem hv⟩
  · exact ⟨vs, (e.trans B.sub).seq h, by rw [r.length, ← enumD_length 0 xs]; exact Nat.le_refl _⟩
  · obtain ⟨T, x, rfl, nT, rfl, f⟩ := y
    obtain ⟨d, h1, h2⟩ := r.getV (f vs ((e.trans B.sub).seq h))
    obtain ⟨b1, b2⟩ := B.new nT (.tup [.int (i : Nat), x])
    refine ⟨_, _, b1, b2, ?_, .par (SqT.of upd_same) (.cons (.int (i : Nat)) (.one (b2.rp (Rp.mono e (fun _ _ h => p.get h) _ _ h2))))⟩
    have q := enumD_get 0 xs i d h1
    rw [Nat.zero_add] at q
    exact q
end
section
variable {X : Cx} {W : WX} {e a b c o tg iter elt : Expr} {es : List Expr} {pos p p2 : Pos} {f g : Sl → M D} {h : Sl → M (List D)} {x : Str}
abbrev tI (K : PySem.W.Frag) (mg : Str → Option Value) (W : WX) (f : Sl → M Src) : TI := tG K mg W (WkR K) f
/-- a list or tuple that is walked -/
def seqIt (s : Sto) : D → Option Src
  | .tup xs => some (xs, none)
  | .par xs => some (xs, none)
  | d => itO s d
def fIt (f : Sl → M D) : Sl → M Src := fun sl => bindM (f sl) fun d => liftO fun s => seqIt s d
theorem tG_cut {α α' : Type} {m : M α} {k : α → M α'} {sto : Sto} {r : R α'} (q : bindM m k sto = some r) : (∃ d s', m sto = some (.ok d s') ∧ k d s' = some r) ∨ (∃ c s', m sto = some (.ex c s') ∧ r = .ex c s') := by
  unfold bindM at q
  cases e : m sto with
  | none => rw [e] at q; cases q
  | some r1 =>
    rw [e] at q
    cases r1 with
    | ok d s' => exact .inl ⟨d, s', rfl, q⟩
    | ex c s' => cases q; exact .inr ⟨c, s', rfl, rfl⟩
theorem i_seq (he : PE X e (tE X.K X.mg W f)) : PI X tg e (tI X.K X.mg W (fIt f)) := by
  refine ⟨fun pins s σ H R I t => ?_⟩
  obtain ⟨H0, O, sl, sto, r, B, S, q, p⟩ := t
  rcases tG_cut q with ⟨d, s', e1, q1⟩ | ⟨c, s', e1, rfl⟩
  · obtain ⟨y, hy, rfl⟩ := PostG.one (β := It) (Q := R) q1
    unfold seqIt at hy
    split at hy
    · cases hy
      refine (pi_tup he).run pins s σ H R I ⟨H0, O, sl, sto, _, B, S, e1, fun v H1 H01 O1 B1 X1 rv => ?_⟩
      cases rv with
      | tup h1 h2 => exact ⟨_, rfl, ⟨_, sameNT B1.sub h1⟩, p _ _ _ _ B1 X1 (walkD_tup h1.seq h2)⟩
    · cases hy
      refine (pi_tup he).run pins s σ H R I ⟨H0, O, sl, sto, _, B, S, e1, fun v H1 H01 O1 B1 X1 rv => ?_⟩
      cases rv with
      | par h1 h2 => exact ⟨_, rfl, ⟨_, sameT B1.sub h1⟩, p _ _ _ _ B1 X1 (walkD_tup h1 h2)⟩
    · refine (pi_list he).run pins s σ H R I ⟨H0, O, sl, sto, _, B, S, e1, fun v H1 H01 O1 B1 X1 rv => ?_⟩
      unfold itO at hy
      split at hy
      · cases hy
        cases rv with
        | lst h1 h2 => exact ⟨_, rfl, ⟨_, SqL.of (B1.sub _ _ h1)⟩, p _ _ _ _ B1 X1 (walkD_list (SqL.of h1) h2)⟩
      · cases hy
        cases rv with
        | scr h1 h2 => exact ⟨_, rfl, ⟨_, B1.sub.seq h1⟩, p _ _ _ _ B1 X1 (walkD_list h1 h2)⟩
      · split at hy
        · rename_i k xs hk
          cases hy
          cases rv with
          | own h1 =>
            obtain ⟨vs, g1, _⟩ := B1.cell _ _ _ h1 hk
            exact ⟨_, rfl, ⟨_, SqL.of g1⟩, p _ _ _ _ B1 X1 (walkD_own h1)⟩
        · cases hy
      · cases hy
  · exact (pi_list he).run pins s σ H R I ⟨H0, O, sl, sto, _, B, S, e1, p⟩
def rngO (d : D) : Option Src := match d with
  | .int n => if n < 2 ^ 62 ∧ -(2 ^ 62) ≤ n then some (rangeD 0 n.toNat, none) else none
  | _ => none
def fRng1 (f : Sl → M D) : Sl → M Src := fun sl => bindM (f sl) fun d => liftO fun _ => rngO d
theorem i_range1 (hg : Gl X "range") (hm : X.mg "range" = none) (ha : PE X a (tE X.K X.mg W f)) (hs : starEach [a] X.env = [(false, eval a X.env)] := by rfl) (hs2 : starEach (a :: []) X.env = (false, eval a X.env) :: starEach [] X.env := by rfl) : PI X tg (.Call (.Name "range" p) [a] [] pos) (tI X.K X.mg W (fRng1 f)) := by
  refine ⟨fun pins s σ H R I t => ?_⟩
  refine (pi_range1 hg hm (pa_cons ha pa_nil hs2) hs).run pins s σ H R I ?_
  refine tG_mono (tG_bind t) fun v H1 z => ?_
  obtain ⟨H0', O', sl', s', x, r', B', S', rx, q', p'⟩ := z
  obtain ⟨y, hy, rfl⟩ := PostG.one (β := It) (Q := R) q'
  unfold rngO at hy
  split at hy
  · split at hy
    · rename_i hn
      cases hy
      cases rx
      exact ⟨_, rfl, hn.2, hn.1, post_ok p' B' (walkD_range 0 _)⟩
    · cases hy
  · cases hy
def rngO2 (d e : D) : Option Src := match d, e with
  | .int m, .int n => if (-(2 ^ 62) ≤ m ∧ m < 2 ^ 62) ∧ -(2 ^ 62) ≤ n ∧ n < 2 ^ 62 then some (rangeD m (n - m).toNat, none) else none
  | _, _ => none
def fRng2 (f g : Sl → M D) : Sl → M Src := fun sl => bindM (f sl) fun d => bindM (g sl) fun e => liftO fun _ => rngO2 d e
theorem i_range2 (hg : Gl X "range") (hm : X.mg "range" = none) (ha : PE X a (tE X.K X.mg W f)) (hb : PE X b (tE X.K X.mg W g)) (hs : starEach [a, b] X.env = [(false, eval a X.env), (false, eval b X.env)] := by rfl) (hs2 : starEach [b] X.env = [(false, eval b X.env)] := by rfl)
    (hs3 : starEach (a :: [b]) X.env = (false, eval a X.env) :: starEach [b] X.env := by rfl) (hs4 : starEach (b :: []) X.env = (false, eval b X.env) :: starEach [] X.env := by rfl) : PI X tg (.Call (.Name "range" p) [a, b] [] pos) (tI X.K X.mg W (fRng2 f g)) := by
  refine ⟨fun pins s σ H R I t => ?_⟩
  refine (pi_range2 hg hm (pa_cons ha (pa_cons hb pa_nil hs4) hs3) hs hs2).run pins s σ H R I ?_
  refine tG_mono (tG_bind t) fun v H1 z => ?_
  obtain ⟨H0', O', sl', s', x, r', B', S', rx, q', p'⟩ := z
  obtain ⟨r2, e2, p2⟩ := PostG.bind (rp := Rp X.K) q' p'
  refine ⟨H0', O', sl', s', r2, B', S', e2, p2.mono fun u H2 z => ?_⟩
  obtain ⟨H02, O2, s2, y, r3, B2, X2, ry, q3, p3⟩ := z
  obtain ⟨w, hy, rfl⟩ := PostG.one (β := It) (Q := R) q3
  unfold rngO2 at hy
  split at hy
  · split at hy
    · rename_i hn
      cases hy
      cases rx
      cases ry
      exact ⟨_, _, rfl, ⟨hn.1.1, hn.1.2, hn.2.1, hn.2.2⟩, post_ok p3 B2 (walkD_range _ _)⟩
    · cases hy
  · cases hy
def fEnum (f : Sl → M D) : Sl → M Src := fun sl => bindM (f sl) fun d => liftO fun _ => match d with | .lst xs => some (enumD 0 xs, none) | .scr xs => some (enumD 0 xs, none) | _ => none
theorem i_enum {tpos : Pos} {elts : List Expr} {kk : Nat} (hg : Gl X "enumerate") (hm : X.mg "enumerate" = none) (ha : PE X a (tE X.K X.mg W f)) (hs : starEach [a] X.env = [(false, eval a X.env)] := by rfl) (hs2 : starEach (a :: []) X.env = (false, eval a X.env) :: starEach [] X.env := by rfl) :
    PI X (.Tuple elts kk tpos) (.Call (.Name "enumerate" p) [a] [] pos) (tI X.K X.mg W (fEnum f)) := by
  refine ⟨fun pins s σ H R I t => ?_⟩
  refine (pi_enum hg hm (pa_cons ha pa_nil hs2) hs).run pins s σ H R I ?_
  refine tG_mono (tG_bind t) fun v H1 z => ?_
  obtain ⟨H0', O', sl', s', x, r', B', S', rx, q', p'⟩ := z
  obtain ⟨y, hy, rfl⟩ := PostG.one (β := It) (Q := R) q'
  split at hy
  · cases hy
    cases rx with
    | lst h1 h2 => exact ⟨_, _, rfl, SqL.of (B'.sub _ _ h1), post_ok p' B' (walkD_enum (SqL.of h1) h2)⟩
  · cases hy
    cases rx with
    | scr h1 h2 => exact ⟨_, _, rfl, B'.sub.seq h1, post_ok p' B' (walkD_enum h1 h2)⟩
  · cases hy

/-! ### for -/
/-- the turns of a loop -/
noncomputable def forL (T : TD) (g : SD) (a : Src) : List D → Sl → Sto → Option RS
  | [], sl, s => some (.nx sl s)
  | x :: xs, sl, s => match T x sl with
    | none => none
    | some sl1 => match g sl1 s with
      | some (.nx sl2 s2) => if Ck a s2 then forL T g a xs sl2 s2 else none
      | some (.ct sl2 s2) => if Ck a s2 then forL T g a xs sl2 s2 else none
      | some (.bk sl2 s2) => some (.nx sl2 s2)
      | r => r
noncomputable def forS (T : TD) (i : Sl → M Src) (g : SD) : SD := fun sl => bindS (i sl) sl fun a s => if Ck a s then forL T g a a.1 sl s else none
theorem d_for {G : TG} {T : TD} {vs : List Nat} {i : Sl → M Src} {body : List Stmt} {s1 : SD} (hp : PassesOwn (model X.prog X.w) X.A X.env X.xe) (hc : X.calm = true) (hi : PI X tg iter (tI X.K X.mg W i)) (hg : PG X tg G) (ht : TgOk X.K vs G T) (hb : PSs X body (tS X.K X.mg W s1))
    (hs : ∀ x, foldedSetIterable iter X.env x = pure x := by intro _; rfl) : PS X (.For tg iter body [] pos) (tS X.K X.mg W (forS T i s1)) := by
  refine PS.imp (ps_for hp hc hi hg hb hs) fun D σ H t => ?_
  refine tG_mono (tS_bind t) fun J H1 z => ?_
  obtain ⟨H0, O, sl, s, a, r, B, S, wk, q, p⟩ := z
  by_cases hck : Ck a s
  · rw [if_pos hck] at q
    refine ⟨fun i m σ H => m = a.1.length - i ∧ i ≤ a.1.length ∧ ∃ H0' O' sl' s', Base X.K H H0' O' s' ∧ Ext H1 H0 O H H0' O' ∧ RpSl X.K H0' O' σ sl' ∧ Ck a s' ∧ forL T s1 a (a.1.drop i) sl' s' = some r,
      ⟨a.1.length, by simp, Nat.zero_le _, H0, O, sl, s, B, .refl _ _ _, S, hck, q⟩, ?_⟩
    rintro i m σ H ⟨rfl, hi, H0', O', sl', s', B', X', S', ck, e⟩
    by_cases hlt : i < a.1.length
    · refine .inr ⟨wk.goes i H H0' O' s' hlt B' X'.h0 X'.o ck, _, fun σ' H' nq => ⟨a.1.length - (i + 1), by omega, rfl, hlt, nq⟩, fun x H' y => ?_⟩
      obtain ⟨H0'', d, B2, X2, hd, rd⟩ := wk.yields i H H0' O' s' x H' hlt B' X'.h0 X'.o ck y
      have hdrop : a.1.drop i = d :: a.1.drop (i + 1) := by
        rw [List.drop_eq_getElem_cons hlt]
        have := List.getElem?_eq_getElem hlt
        rw [this] at hd
        cases hd
        rfl
      rw [hdrop] at e
      unfold forL at e
      split at e
      · cases e
      · rename_i sl1 e1
        refine ht.run H0'' H' O' x d σ sl' sl1 _ B2.sub rd (S'.ext X2) e1 fun σ1 S1 _ => ?_
        cases eg : s1 sl1 s' with
        | none => rw [eg] at e; cases e
        | some r1 =>
          refine ⟨H0'', O', sl1, s', r1, B2, S1, eg, ?_⟩
          rw [eg] at e
          cases r1 with
          | nx sl2 s2 =>
            intro σ' H2 H02 O2 Bx Xx Sx
            replace e : (if Ck a s2 then forL T s1 a (a.1.drop (i + 1)) sl2 s2 else none) = some r := e
            split at e
            · rename_i c2
              exact ⟨H02, O2, sl2, s2, Bx, (X'.trans X2).trans Xx, Sx, c2, e⟩
            · cases e
          | ct sl2 s2 =>
            intro σ' H2 H02 O2 Bx Xx Sx
            replace e : (if Ck a s2 then forL T s1 a (a.1.drop (i + 1)) sl2 s2 else none) = some r := e
            split at e
            · rename_i c2
              exact ⟨H02, O2, sl2, s2, Bx, (X'.trans X2).trans Xx, Sx, c2, e⟩
            · cases e
          | bk sl2 s2 =>
            cases e
            exact p.ext (X'.trans X2)
          | rt d2 s2 =>
            cases e
            exact p.ext (X'.trans X2)
          | ex c l s2 =>
            cases e
            exact p.ext (X'.trans X2)
    · have ei : i = a.1.length := by omega
      subst ei
      refine .inl ⟨wk.stops H H0' O' s' B' X'.h0 X'.o ck, ?_⟩
      rw [List.drop_length] at e
      cases e
      exact p σ H H0' O' B' X' S'
  · rw [if_neg hck] at q
    cases q
/-! ### while -/
def whileN (u : Sl → M Bool) (g : SD) : Nat → SD
  | 0, _, _ => none
  | n + 1, sl, s => match u sl s with
    | none => none
    | some (.ex c s') => some (.ex c sl s')
    | some (.ok false s') => some (.nx sl s')
    | some (.ok true s') => match g sl s' with
      | some (.nx sl2 s2) => whileN u g n sl2 s2
      | some (.ct sl2 s2) => whileN u g n sl2 s2
      | some (.bk sl2 s2) => some (.nx sl2 s2)
      | r => r
open Classical in
noncomputable def whileS (u : Sl → M Bool) (g : SD) : SD := fun sl s => if h : ∃ n r, whileN u g n sl s = some r then some (Classical.choose (Classical.choose_spec h)) else none
theorem whileN_mono {u : Sl → M Bool} {g : SD} : ∀ {n : Nat} {sl : Sl} {s : Sto} {r : RS}, whileN u g n sl s = some r → whileN u g (n + 1) sl s = some r := by
  intro n
  induction n with
  | zero => intro sl s r h; cases h
  | succ n ih =>
    intro sl s r h
    unfold whileN at h ⊢
    cases e : u sl s with
    | none => rw [e] at h; cases h
    | some r1 =>
      rw [e] at h
      cases r1 with
      | ex c s' => exact h
      | ok b s' =>
        cases b with
        | false => exact h
        | true =>
          cases eg : g sl s' with
          | none => simp only [eg] at h; cases h
          | some r2 =>
            simp only [eg] at h ⊢
            cases r2 with
            | nx l2 s2 => exact ih h
            | ct l2 s2 => exact ih h
            | bk l2 s2 => exact h
            | rt d s2 => exact h
            | ex c l s2 => exact h
theorem whileN_le {u : Sl → M Bool} {g : SD} {n m : Nat} {sl : Sl} {s : Sto} {r : RS} (h : whileN u g n sl s = some r) (hm : n ≤ m) : whileN u g m sl s = some r := by
  induction hm with
  | refl => exact h
  | step _ ih => exact whileN_mono ih
theorem whileS_eq {u : Sl → M Bool} {g : SD} {n : Nat} {sl : Sl} {s : Sto} {r : RS} (h : whileN u g n sl s = some r) : whileS u g sl s = some r := by
  have ex : ∃ n r, whileN u g n sl s = some r := ⟨n, r, h⟩
  unfold whileS
  rw [dif_pos ex]
  have q := Classical.choose_spec (Classical.choose_spec ex)
  have a := whileN_le q (Nat.le_max_left (Classical.choose ex) n)
  have b := whileN_le h (Nat.le_max_right (Classical.choose ex) n)
  rw [a] at b
  exact b
theorem whileS_ex {u : Sl → M Bool} {g : SD} {sl : Sl} {s : Sto} {r : RS} (h : whileS u g sl s = some r) : ∃ n, whileN u g n sl s = some r := by
  unfold whileS at h
  split at h
  · rename_i ex
    cases h
    exact ⟨_, Classical.choose_spec (Classical.choose_spec ex)⟩
  · cases h
theorem d_while {c : Expr} {u : Sl → M Bool} {body : List Stmt} {s1 : SD} (hp : PassesOwn (model X.prog X.w) X.A X.env X.xe) (hc : PT X c (tT X.K X.mg W u)) (hb : PSs X body (tS X.K X.mg W s1)) : PS X (.While c body [] pos) (tS X.K X.mg W (whileS u s1)) := by
  refine PS.imp (ps_while hp hc hb) fun D σ H t => ?_
  obtain ⟨H0, O, sl, sto, r, B, S, q, p⟩ := t
  obtain ⟨n, hn⟩ := whileS_ex q
  refine ⟨fun m σ' H' => ∃ H0' O' sl' s', Base X.K H' H0' O' s' ∧ Ext H H0 O H' H0' O' ∧ RpSl X.K H0' O' σ' sl' ∧ whileN u s1 m sl' s' = some r, ⟨n, H0, O, sl, sto, B, .refl _ _ _, S, hn⟩, ?_⟩
  rintro m σ' H' ⟨H0', O', sl', s', B', X', S', e⟩
  cases m with
  | zero => cases e
  | succ m =>
    unfold whileN at e
    cases eu : u sl' s' with
    | none => rw [eu] at e; cases e
    | some r1 =>
      refine ⟨H0', O', sl', s', r1, B', S', eu, ?_⟩
      rw [eu] at e
      cases r1 with
      | ex c s2 =>
        cases e
        exact fun cls dd H2 H02 O2 w b x => p cls dd σ' H2 H02 O2 w b (X'.trans x) (S'.ext x)
      | ok b s2 =>
        intro b' H2 H02 O2 B2 X2 eb
        cases eb
        cases b with
        | false =>
          cases e
          exact iteF (p _ _ _ _ B2 (X'.trans X2) (S'.ext X2))
        | true =>
          refine iteT ⟨fun σ3 H3 => ∃ H0' O' sl' s', Base X.K H3 H0' O' s' ∧ Ext H H0 O H3 H0' O' ∧ RpSl X.K H0' O' σ3 sl' ∧ whileN u s1 m sl' s' = some r, fun σ3 H3 h => ⟨m, Nat.lt_succ_self _, h⟩, ?_⟩
          cases eg : s1 sl' s2 with
          | none => simp only [eg] at e; cases e
          | some r2 =>
            refine ⟨H02, O2, sl', s2, r2, B2, S'.ext X2, eg, ?_⟩
            simp only [eg] at e
            cases r2 with
            | nx l3 s3 => exact fun σ3 H3 H03 O3 b x z => ⟨H03, O3, l3, s3, b, (X'.trans X2).trans x, z, e⟩
            | ct l3 s3 => exact fun σ3 H3 H03 O3 b x z => ⟨H03, O3, l3, s3, b, (X'.trans X2).trans x, z, e⟩
            | bk l3 s3 => cases e; exact p.ext (X'.trans X2)
            | rt d s3 => cases e; exact p.ext (X'.trans X2)
            | ex c l s3 => cases e; exact p.ext (X'.trans X2)
end
end PD

set_option Elab.async false
set_option linter.all false
set_option maxRecDepth 100000
set_option maxHeartbeats 4000000
/-! PD: comprehensions, defs. -/
namespace PD
open PySem PySem.Spec PyProof.Rows L2

/-! ### comprehensions -/
abbrev wF : WX := fun _ _ _ _ => False
def noex {α : Type} (m : M α) : M α := fun s => match m s with | some (.ex _ _) => none | r => r
noncomputable def ckM (a : Src) : M Unit := fun s => if Ck a s then some (.ok () s) else none
/-- the turns of a comprehension; each begins with the slots sl -/
noncomputable def lcL (T : TD) (u : Sl → M Bool) (f : Sl → M D) (a : Src) (sl : Sl) : List D → M (List D)
  | [] => retM []
  | x :: xs => match T x sl with
    | none => fun _ => none
    | some sl1 => bindM (noex (u sl1)) fun b => if b = true then bindM (noex (f sl1)) fun y => bindM (ckM a) fun _ => bindM (lcL T u f a sl xs) fun ys => retM (y :: ys) else bindM (ckM a) fun _ => lcL T u f a sl xs
noncomputable def fLc (T : TD) (u : Sl → M Bool) (f : Sl → M D) (i : Sl → M Src) (vs : List Nat) : Sl → M D := fun sl =>
  bindM (i sl) fun a => bindM (ckM a) fun _ => bindM (lcL T u f a (wipeS sl vs) a.1) fun ys => liftO fun _ => if small ys.length = true then some (.lst ys) else none
noncomputable def fLcOwn (T : TD) (u : Sl → M Bool) (f : Sl → M D) (i : Sl → M Src) (vs : List Nat) : Sl → M D := fun sl =>
  bindM (i sl) fun a => bindM (ckM a) fun _ => bindM (lcL T u f a (wipeS sl vs) a.1) fun ys s => if small ys.length = true then some (.ok (.own s.length) (s ++ [.lst ys])) else none
def fYes : Sl → M Bool := fun _ => retM true
section
variable {X : Cx} {W : WX} {e a b c o tg iter elt : Expr} {es : List Expr} {pos p p2 : Pos} {f : Sl → M D} {x : Str}
theorem noex_ok {α : Type} {m : M α} {s : Sto} {r : R α} (h : noex m s = some r) : ∃ a s', r = .ok a s' ∧ m s = some (.ok a s') := by
  unfold noex at h
  cases e : m s with
  | none => rw [e] at h; cases h
  | some r1 =>
    rw [e] at h
    cases r1 with
    | ok a s' => cases h; exact ⟨a, s', rfl, rfl⟩
    | ex c s' => cases h
theorem ckM_ok {a : Src} {s : Sto} {r : R Unit} (h : ckM a s = some r) : r = .ok () s ∧ Ck a s := by
  unfold ckM at h
  split at h
  · rename_i c
    cases h
    exact ⟨rfl, c⟩
  · cases h
theorem lcL_ok {T : TD} {u : Sl → M Bool} {f : Sl → M D} {a : Src} {sl : Sl} : ∀ (xs : List D) (s : Sto) (r : R (List D)), lcL T u f a sl xs s = some r → ∃ ys s', r = .ok ys s' := by
  intro xs
  induction xs with
  | nil => intro s r h; cases h; exact ⟨_, _, rfl⟩
  | cons x xs ih =>
    intro s r h
    unfold lcL at h
    cases e1 : T x sl with
    | none => simp only [e1] at h; cases h
    | some sl1 =>
      simp only [e1] at h
      rcases tG_cut h with ⟨b, s1, h1, h2⟩ | ⟨c, s1, h1, h2⟩
      · split at h2
        · rcases tG_cut h2 with ⟨y, s2, h3, h4⟩ | ⟨c, s2, h3, h4⟩
          · rcases tG_cut h4 with ⟨_, s3, h5, h6⟩ | ⟨c, s3, h5, h6⟩
            · rcases tG_cut h6 with ⟨ys, s4, h7, h8⟩ | ⟨c, s4, h7, h8⟩
              · cases h8; exact ⟨_, _, rfl⟩
              · obtain ⟨_, _, z⟩ := ih _ _ h7; cases z
            · obtain ⟨z, _⟩ := ckM_ok h5; cases z
          · obtain ⟨_, _, z, _⟩ := noex_ok h3; cases z
        · rcases tG_cut h2 with ⟨_, s3, h5, h6⟩ | ⟨c, s3, h5, h6⟩
          · exact ih _ _ h6
          · obtain ⟨z, _⟩ := ckM_ok h5; cases z
      · obtain ⟨_, _, z, _⟩ := noex_ok h1; cases z
/-- one step of the new list -/
theorem Base.acc {K : PySem.W.Frag} {H H0 : Hp} {O : List Addr} {sto : Sto} (B : Base K H H0 O sto) {p : Addr} (h0 : H0 p = none) (hO : p ∉ O) (hl : H p ≠ none) (o : HO) : Base K (upd H p o) H0 O sto := by
  refine ⟨fun b u e => ?_, B.nd, B.len, fun a ha => ?_, fun k a c h1 h2 => ?_⟩
  · rw [upd_ne (ne_of_none e h0)]; exact B.sub _ _ e
  · by_cases e : a = p
    · subst e; rw [upd_same]; simp
    · rw [upd_ne e]; exact B.live a ha
  · have q := B.cell k a c h1 h2
    have hn : a ≠ p := fun e => hO (by subst e; exact get_mem h1)
    by_cases hg : c = .gone
    · subst hg; trivial
    · exact q.mono (.refl _) (fun _ _ h => h) (upd_ne hn) (q.none hg)
/-- the new list at D stands apart from all else -/
structure Apart (H0 : Hp) (O : List Addr) (H : Hp) (Dd : Addr) (acc : List V) : Prop where
  at_ : H Dd = some (.lst acc)
  no0 : H0 Dd = none
  noO : Dd ∉ O
theorem Apart.ext {H H0 H' H0' : Hp} {O O' : List Addr} {Dd : Addr} {acc : List V} (A : Apart H0 O H Dd acc) (E : Ext H H0 O H' H0' O') : Apart H0' O' H' Dd acc := by
  refine ⟨E.frame _ _ A.at_ A.noO, ?_, fun h => ?_⟩
  · cases q : H0' Dd with
    | none => rfl
    | some u =>
      rcases E.h0n Dd (by rw [q]; simp) with h | h | h
      · exact absurd A.no0 h
      · rw [A.at_] at h; cases h
      · exact absurd h A.noO
  · rcases E.fresh _ h with h | h
    · exact A.noO h
    · rw [A.at_] at h; cases h
/-- behind a step on the new list: what came, as seen from the start H1, H0, O -/
structure LcAt (K : PySem.W.Frag) (H1 H0 : Hp) (O : List Addr) (H H0' : Hp) (O' : List Addr) (s : Sto) (Dd : Addr) (acc : List V) (ds : List D) : Prop where
  base : Base K H H0' O' s
  h0 : Same H0 H0'
  o : Pre O O'
  fresh : ∀ a ∈ O', a ∈ O ∨ H1 a = none
  frame : ∀ a u, H1 a = some u → a ∉ O → H a = some u
  live : ∀ a, H1 a ≠ none → H a ≠ none
  h0n : ∀ a, H0' a ≠ none → H0 a ≠ none ∨ H1 a = none ∨ a ∈ O
  apart : Apart H0' O' H Dd acc
  acc : RpAll K H0' O' acc ds
section
variable {K : PySem.W.Frag} {H1 H0 H H0' H2 H02 : Hp} {O O' O2 : List Addr} {s s2 : Sto} {Dd : Addr} {acc : List V} {ds : List D}
theorem LcAt.step (L : LcAt K H1 H0 O H H0' O' s Dd acc ds) (B : Base K H2 H02 O2 s2) (E : Ext H H0' O' H2 H02 O2) : LcAt K H1 H0 O H2 H02 O2 s2 Dd acc ds where
  base := B
  h0 := L.h0.trans E.h0
  o := L.o.trans E.o
  fresh := fun x hx => by
    rcases E.fresh x hx with h | h
    · exact L.fresh x h
    · refine .inr ?_
      cases q : H1 x with
      | none => rfl
      | some o => exact absurd h (L.live x (by rw [q]; simp))
  frame := fun x o h hn => E.frame x o (L.frame x o h hn) fun hx => (L.fresh x hx).elim hn fun z => by rw [z] at h; cases h
  live := fun x h => E.live x (L.live x h)
  h0n := fun x h => by
    rcases E.h0n x h with h | h | h
    · exact L.h0n x h
    · refine .inr (.inl ?_)
      cases q : H1 x with
      | none => rfl
      | some o => exact absurd h (L.live x (by rw [q]; simp))
    · rcases L.fresh x h with h | h
      · exact .inr (.inr h)
      · exact .inr (.inl h)
  apart := L.apart.ext E
  acc := E.rps L.acc
theorem LcAt.push (L : LcAt K H1 H0 O H H0' O' s Dd acc ds) (hD : H1 Dd = none) {v : V} {d : D} (r : Rp K H0' O' v d) : LcAt K H1 H0 O (upd H Dd (.lst (acc ++ [v]))) H0' O' s Dd (acc ++ [v]) (ds ++ [d]) where
  base := L.base.acc L.apart.no0 L.apart.noO (by rw [L.apart.at_]; simp) _
  h0 := L.h0
  o := L.o
  fresh := L.fresh
  frame := fun a u h hn => by rw [upd_ne (ne_of_none h hD)]; exact L.frame a u h hn
  live := fun a h => by
    by_cases e : a = Dd
    · subst e; exact absurd hD h
    · rw [upd_ne e]; exact L.live a h
  h0n := L.h0n
  apart := ⟨upd_same, L.apart.no0, L.apart.noO⟩
  acc := L.acc.append (.one r)
theorem LcAt.start (B : Base K H1 H0 O s) (hD : H1 Dd = none) : LcAt K H1 H0 O (upd H1 Dd (.lst [])) H0 O s Dd [] [] where
  base := by
    refine ⟨fun b u e => ?_, B.nd, B.len, fun a ha => ?_, fun k a c h1 h2 => ?_⟩
    · rw [upd_ne (ne_of_none (B.sub _ _ e) hD)]; exact B.sub _ _ e
    · have hn : a ≠ Dd := fun e => by subst e; exact B.live _ ha hD
      rw [upd_ne hn]; exact B.live a ha
    · have q := B.cell k a c h1 h2
      have hn : a ≠ Dd := fun e => by subst e; exact B.live _ (get_mem h1) hD
      by_cases hg : c = .gone
      · subst hg; trivial
      · exact q.mono (.refl _) (fun _ _ h => h) (upd_ne hn) (q.none hg)
  h0 := .refl _
  o := .refl _
  fresh := fun _ h => .inl h
  frame := fun a u h _ => by rw [upd_ne (ne_of_none h hD)]; exact h
  live := fun a h => by
    by_cases e : a = Dd
    · subst e; exact absurd hD h
    · rw [upd_ne e]; exact h
  h0n := fun _ h => .inl h
  apart := ⟨upd_same, none0 B hD, fun h => B.live _ h hD⟩
  acc := .nil
/-- at the end the new list is one of the stable ones -/
theorem LcAt.done (L : LcAt K H1 H0 O H H0' O' s Dd acc ds) (hD : H1 Dd = none) : Base K H (upd H0' Dd (.lst acc)) O' s ∧ Ext H1 H0 O H (upd H0' Dd (.lst acc)) O' ∧ Rp K (upd H0' Dd (.lst acc)) O' (.ref Dd) (.lst ds) := by
  have s0 : Same H0' (upd H0' Dd (.lst acc)) := fun b u e => by rw [upd_ne (ne_of_none e L.apart.no0)]; exact e
  refine ⟨⟨fun b u e => ?_, L.base.nd, L.base.len, L.base.live, fun k a c h1 h2 => ?_⟩, ⟨L.h0.trans s0, L.o, L.fresh, L.frame, L.live, fun a h => ?_⟩, .lst upd_same (RpAll.mono s0 (fun _ _ h => h) _ _ L.acc)⟩
  · by_cases hb : b = Dd
    · subst hb; rw [upd_same] at e; cases e; exact L.apart.at_
    · rw [upd_ne hb] at e; exact L.base.sub _ _ e
  · have q := L.base.cell k a c h1 h2
    have hn : a ≠ Dd := fun e => by subst e; exact L.apart.noO (get_mem h1)
    by_cases hg : c = .gone
    · subst hg; trivial
    · exact q.mono s0 (fun _ _ h => h) rfl (by rw [upd_ne hn]; exact q.none hg)
  · by_cases hb : a = Dd
    · subst hb; exact .inr (.inl hD)
    · rw [upd_ne hb] at h; exact L.h0n a h
/-- .. or one's own -/
theorem LcAt.doneOwn (L : LcAt K H1 H0 O H H0' O' s Dd acc ds) (hD : H1 Dd = none) : Base K H H0' (O' ++ [Dd]) (s ++ [.lst ds]) ∧ Ext H1 H0 O H H0' (O' ++ [Dd]) ∧ Rp K H0' (O' ++ [Dd]) (.ref Dd) (.own s.length) := by
  have pr : ∀ (k : Nat) (a : Addr), O'[k]? = some a → (O' ++ [Dd])[k]? = some a := fun k a h => Pre.get ⟨_, rfl⟩ h
  refine ⟨⟨L.base.sub, ?_, by simp [L.base.len], fun a ha => ?_, fun k a c' h1 h2 => ?_⟩, ⟨L.h0, L.o.trans ⟨_, rfl⟩, fun a h => ?_, L.frame, L.live, L.h0n⟩, .own ?_⟩
  · rw [List.nodup_append]
    refine ⟨L.base.nd, by simp, fun a ha b hb e => ?_⟩
    rw [List.mem_singleton.mp hb] at e
    exact L.apart.noO (e ▸ ha)
  · rcases List.mem_append.mp ha with ha | ha
    · exact L.base.live a ha
    · rw [List.mem_singleton.mp ha, L.apart.at_]; simp
  · by_cases hk : k < O'.length
    · rw [List.getElem?_append_left hk] at h1
      rw [List.getElem?_append_left (by rw [← L.base.len]; exact hk)] at h2
      have q := L.base.cell k a c' h1 h2
      by_cases hg : c' = .gone
      · subst hg; trivial
      · exact q.mono (.refl _) pr rfl (q.none hg)
    · have hk2 : k = O'.length := by
        have := (List.getElem?_eq_some_iff.mp h1).1
        rw [List.length_append, List.length_singleton] at this
        omega
      subst hk2
      rw [List.getElem?_append_right (Nat.le_refl _), Nat.sub_self] at h1
      rw [List.getElem?_append_right (by rw [L.base.len]; exact Nat.le_refl _), L.base.len, Nat.sub_self] at h2
      cases h1; cases h2
      exact ⟨acc, L.apart.at_, RpAll.mono (.refl _) pr _ _ L.acc, L.apart.no0⟩
  · rcases List.mem_append.mp h with h | h
    · exact L.fresh a h
    · rw [List.mem_singleton.mp h]; exact .inr hD
  · rw [← L.base.len, List.getElem?_append_right (Nat.le_refl _), Nat.sub_self]
    rfl
end
theorem lc_size (n : Nat) (h : small n = true) : n ≤ sizeLine := small_ok h
/-- the reading of a comprehension -/
theorem lc_read {mg : Str → Option Value} {K : PySem.W.Frag} {G : TG} {T : TD} {vs : List Nat} {u : Sl → M Bool} {σ : L2.St} {H1 H0 : Hp} {O : List Addr} {sl : Sl} {s : Sto} {a : Src} {J : It} {r : R (List D)} {Qd : Addr → Hp → Prop}
    (B : Base K H1 H0 O s) (S : RpSl K H0 O σ sl) (wk : WalkD K J H0 O a) (ck : Ck a s) (ht : TgOk K vs G T) (q : lcL T u f a (wipeS sl vs) a.1 s = some r)
    (hsz : ∀ ys s', r = .ok ys s' → small ys.length = true)
    (hd : ∀ Dd ys s' acc H H0' O', r = .ok ys s' → H1 Dd = none → LcAt K H1 H0 O H H0' O' s' Dd acc ys → Qd Dd H) (Dd : Addr) (hD : H1 Dd = none) :
    ∃ Wt : Nat → Nat → Hp → Prop, (∃ m, Wt 0 m (upd H1 Dd (.lst []))) ∧ ∀ i m H, Wt i m H →
      (J.stop i H ∧ Qd Dd H) ∨ (J.go i H ∧ ∃ Nx : Hp → Prop, (∀ H', Nx H' → ∃ m', m' < m ∧ Wt (i + 1) m' H') ∧ ∀ x H', J.yld i H x H' → G x (wipe σ vs) H' fun σ2 H2 => wipe σ2 vs = wipe σ vs ∧ tT K mg wF u σ2 H2 fun b H3 =>
        if b = true then tE K mg wF f σ2 H3 fun y H4 => ∃ acc, H4 Dd = some (.lst acc) ∧ acc.length < sizeLine ∧ Nx (upd H4 Dd (.lst (acc ++ [y]))) else Nx H3) := by
  have lcLen : ∀ (xs : List D) (s : Sto) (ys : List D) (s' : Sto), lcL T u f a (wipeS sl vs) xs s = some (.ok ys s') → True := fun _ _ _ _ _ => trivial
  refine ⟨fun i m H => m = a.1.length - i ∧ i ≤ a.1.length ∧ ∃ H0' O' s' acc ds zs s'', LcAt K H1 H0 O H H0' O' s' Dd acc ds ∧ Ck a s' ∧ lcL T u f a (wipeS sl vs) (a.1.drop i) s' = some (.ok zs s'') ∧ r = .ok (ds ++ zs) s'',
    ?_, ?_⟩
  · obtain ⟨ys, s', rfl⟩ := lcL_ok _ _ _ q
    exact ⟨a.1.length, by simp, Nat.zero_le _, H0, O, s, [], [], ys, s', LcAt.start B hD, ck, q, rfl⟩
  rintro i m H ⟨rfl, hi, H0', O', s', acc, ds, zs, s'', L, ck', e, er⟩
  by_cases hlt : i < a.1.length
  · refine .inr ⟨wk.goes i H H0' O' s' hlt L.base L.h0 L.o ck', _, fun H' nq => ⟨a.1.length - (i + 1), by omega, rfl, hlt, nq⟩, fun x H' y => ?_⟩
    obtain ⟨H0'', d, B2, X2, hd', rd⟩ := wk.yields i H H0' O' s' x H' hlt L.base L.h0 L.o ck' y
    have L2' := L.step B2 X2
    have hdrop : a.1.drop i = d :: a.1.drop (i + 1) := by
      rw [List.drop_eq_getElem_cons hlt]
      have := List.getElem?_eq_getElem hlt
      rw [this] at hd'
      cases hd'
      rfl
    rw [hdrop] at e
    unfold lcL at e
    cases e1 : T d (wipeS sl vs) with
    | none => simp only [e1] at e; cases e
    | some sl1 =>
      simp only [e1] at e
      have Sw : RpSl K H0'' O' (wipe σ vs) (wipeS sl vs) := by
        have S' : RpSl K H0'' O' σ sl := ⟨S.len, fun j dd hh => let ⟨v, h1, h2⟩ := S.at_ j dd hh; ⟨v, h1, Rp.mono L2'.h0 (fun _ _ h => L2'.o.get h) _ _ h2⟩⟩
        exact S'.wipe vs
      refine ht.run H0'' H' O' x d (wipe σ vs) (wipeS sl vs) sl1 _ B2.sub rd Sw e1 fun σ1 S1 w1 => ⟨?_, ?_⟩
      · rw [w1]
        clear w1 S1
        have idem : ∀ vs' : List Nat, (∀ v ∈ vs', v ∈ vs) → wipe (wipe σ vs') vs = wipe σ vs := by
          intro vs'
          induction vs' with
          | nil => intro _; rfl
          | cons v vs' ih =>
            intro hv
            show wipe ((wipe σ vs').set v none) vs = wipe σ vs
            rw [wipe_set v none vs _ (hv v List.mem_cons_self)]
            exact ih fun w hw => hv w (List.mem_cons_of_mem _ hw)
        exact idem vs fun _ h => h
      · rcases tG_cut e with ⟨b, s1, h1, h2⟩ | ⟨c, s1, h1, h2⟩
        · obtain ⟨b', s1', z1, h1'⟩ := noex_ok h1
          cases z1
          refine ⟨H0'', O', sl1, s', _, B2, S1, h1', fun b' H3 H03 O3 B3 X3 eb => ?_⟩
          cases eb
          cases b with
          | true =>
            refine iteT ?_
            rw [if_pos rfl] at h2
            rcases tG_cut h2 with ⟨y', s2, h3, h4⟩ | ⟨c, s2, h3, h4⟩
            · obtain ⟨y2, s2', z2, h3'⟩ := noex_ok h3
              cases z2
              refine ⟨H03, O3, sl1, s1, _, B3, S1.ext X3, h3', fun v H4 H04 O4 B4 X4 rv => ?_⟩
              have L4 := (L2'.step B3 X3).step B4 X4
              rcases tG_cut h4 with ⟨_, s3, h5, h6⟩ | ⟨c, s3, h5, h6⟩
              · obtain ⟨z3, ck3⟩ := ckM_ok h5
                cases z3
                rcases tG_cut h6 with ⟨ys, s4, h7, h8⟩ | ⟨c, s4, h7, h8⟩
                · cases h8
                  refine ⟨acc, L4.apart.at_, ?_, H04, O4, _, acc ++ [v], ds ++ [y'], ys, _, L4.push hD rv, ck3, h7, by rw [er, List.append_assoc]; rfl⟩
                  have hz := small_ok (hsz _ _ er)
                  rw [List.length_append, List.length_cons] at hz
                  rw [L.acc.length]
                  omega
                · cases h8
              · obtain ⟨z3, _⟩ := ckM_ok h5
                cases z3
            · obtain ⟨_, _, z2, _⟩ := noex_ok h3
              cases z2
          | false =>
            refine iteF ?_
            rw [if_neg (by simp)] at h2
            rcases tG_cut h2 with ⟨_, s3, h5, h6⟩ | ⟨c, s3, h5, h6⟩
            · obtain ⟨z3, ck3⟩ := ckM_ok h5
              cases z3
              exact ⟨H03, O3, s1, acc, ds, zs, s'', L2'.step B3 X3, ck3, h6, er⟩
            · obtain ⟨z3, _⟩ := ckM_ok h5
              cases z3
        · obtain ⟨_, _, z, _⟩ := noex_ok h1
          cases z
  · have ei : i = a.1.length := by omega
    subst ei
    rw [List.drop_length] at e
    cases e
    rw [List.append_nil] at er
    exact .inl ⟨wk.stops H H0' O' s' L.base L.h0 L.o ck', hd Dd ds s' acc H H0' O' er hD L⟩
end
end PD

set_option Elab.async false
set_option linter.all false
set_option maxRecDepth 100000
set_option maxHeartbeats 4000000
/-! PD: the comprehension's rules, defs. -/
namespace PD
open PySem PySem.Spec PyProof.Rows L2
section
variable {X : Cx} {W : WX} {e a b c o tg iter elt : Expr} {es : List Expr} {pos p p2 spos py : Pos} {f : Sl → M D} {x y : Str} {G : TG} {T : TD} {vs : List Nat} {u : Sl → M Bool} {i : Sl → M Src} {ifs : List Expr} {scope : Scope} {own : List (Str × Nat)}
theorem t_nil : PTs X [] (tT X.K X.mg W fYes) := ⟨fun pins s σ H Q I t => pts_nil.run pins s σ H Q I (by
  obtain ⟨H0, O, sl, sto, r, B, S, q, p⟩ := t
  cases q
  exact post_ok p B rfl)⟩
theorem t_one (h : PT X c (tT X.K X.mg W u)) : PTs X [c] (tT X.K X.mg W u) := pts_one h
/-- what the two makings of a comprehension's value have alike -/
theorem lc_tE (own' : Bool) {k : Src → List D → M D} {σ : L2.St} {H : Hp} {Q : VK} (ht : TgOk X.K vs G T)
    (hk : k = fun _ ys => if own' = true then (fun s => if small ys.length = true then some (.ok (.own s.length) (s ++ [.lst ys])) else none) else liftO fun _ => if small ys.length = true then some (.lst ys) else none)
    (t : tE X.K X.mg W (fun sl => bindM (i sl) fun a => bindM (ckM a) fun _ => bindM (lcL T u f a (wipeS sl vs) a.1) (k a)) σ H Q) :
    tLc (tI X.K X.mg W i) G (tT X.K X.mg wF u) (tE X.K X.mg wF f) vs σ H Q := by
  refine tG_mono (tG_bind t) fun J H1 z => ?_
  obtain ⟨H0, O, sl, s, a, r, B, S, wk, q, p⟩ := z
  intro Dd hD
  rcases tG_cut q with ⟨_, s1, h1, h2⟩ | ⟨c, s1, h1, h2⟩
  · obtain ⟨z, ck⟩ := ckM_ok h1
    cases z
    rcases tG_cut h2 with ⟨ys, s2, h3, h4⟩ | ⟨c, s2, h3, h4⟩
    · have hsm : small ys.length = true := by
        rw [hk] at h4
        cases hb : small ys.length with
        | true => rfl
        | false =>
          cases own' with
          | true => simp [hb] at h4
          | false => simp [liftO, hb] at h4
      refine lc_read (mg := X.mg) (Qd := fun Dd H => Q (V.ref Dd) H) B S wk ck ht h3 (fun ys' s' e => by cases e; exact hsm) (fun Dd ys' s' acc H H0' O' e hD L => ?_) Dd hD
      cases e
      rw [hk] at h4
      cases own' with
      | true =>
        simp only [if_true, hsm] at h4
        cases h4
        obtain ⟨b1, b2, b3⟩ := L.doneOwn hD
        exact p _ _ _ _ b1 b2 b3
      | false =>
        simp only [liftO, hsm, if_true] at h4
        cases h4
        obtain ⟨b1, b2, b3⟩ := L.done hD
        exact p _ _ _ _ b1 b2 b3
    · obtain ⟨_, _, z⟩ := lcL_ok _ _ _ h3
      cases z
  · obtain ⟨z, _⟩ := ckM_ok h1
    cases z
theorem e_lc (hc : X.calm = true) (hN : X.N.Nodup) (hi : PI X tg iter (tI X.K X.mg W i)) (ok : BlkOk X.N X.env.scope scope own) (ht : TgOk X.K (own.map (·.2)) G T)
    (hg : ∀ (s : Shared) (H : Hp) (C : Addr) (cl : List (Str × Addr)) (fp : List Addr), PG (X.blk s H scope (compEnvC scope cl C X.env) fp) tg G) (hu : ∀ (s : Shared) (H : Hp) (C : Addr) (cl : List (Str × Addr)) (fp : List Addr), PTs (X.blk s H scope (compEnvC scope cl C X.env) fp) ifs (tT X.K X.mg wF u))
    (he : ∀ (s : Shared) (H : Hp) (C : Addr) (cl : List (Str × Addr)) (fp : List Addr), PE (X.blk s H scope (compEnvC scope cl C X.env) fp) elt (tE X.K X.mg wF f)) (hs : ∀ x, foldedSetIterable iter X.env x = pure x := by intro _; rfl) :
    PE X (.ListComp elt [⟨tg, iter, ifs, 0⟩] scope pos) (tE X.K X.mg W (fLc T u f i (own.map (·.2)))) :=
  PE.imp (pe_lc hc hN hi ok hg hu he hs) fun σ H Q t => lc_tE false ht rfl t
theorem e_lcOwn (hc : X.calm = true) (hN : X.N.Nodup) (hi : PI X tg iter (tI X.K X.mg W i)) (ok : BlkOk X.N X.env.scope scope own) (ht : TgOk X.K (own.map (·.2)) G T)
    (hg : ∀ (s : Shared) (H : Hp) (C : Addr) (cl : List (Str × Addr)) (fp : List Addr), PG (X.blk s H scope (compEnvC scope cl C X.env) fp) tg G) (hu : ∀ (s : Shared) (H : Hp) (C : Addr) (cl : List (Str × Addr)) (fp : List Addr), PTs (X.blk s H scope (compEnvC scope cl C X.env) fp) ifs (tT X.K X.mg wF u))
    (he : ∀ (s : Shared) (H : Hp) (C : Addr) (cl : List (Str × Addr)) (fp : List Addr), PE (X.blk s H scope (compEnvC scope cl C X.env) fp) elt (tE X.K X.mg wF f)) (hs : ∀ x, foldedSetIterable iter X.env x = pure x := by intro _; rfl) :
    PE X (.ListComp elt [⟨tg, iter, ifs, 0⟩] scope pos) (tE X.K X.mg W (fLcOwn T u f i (own.map (·.2)))) :=
  PE.imp (pe_lc hc hN hi ok hg hu he hs) fun σ H Q t => lc_tE true ht rfl t
theorem tS_asg {D : Ends} {σ : L2.St} {H : Hp} {n : Nat} {te : TE} (h : ∀ Q : VK, tE X.K X.mg W f σ H Q → te σ H Q) (t : tS X.K X.mg W (setS n f) D σ H) : tAsg te (gName n) D σ H := by
  refine h _ (tG_mono (tS_bind t) fun v H1 z => ?_)
  obtain ⟨H0', O', sl', s', x, r', B', S', rx, q', p'⟩ := z
  cases q'
  exact p' _ _ _ _ B' (.refl _ _ _) (S'.set rx n)
theorem d_setLc {n : Nat} (own' : Bool) (hc : X.calm = true) (hN : X.N.Nodup) (hy : X.N[n]? = some y) (hyl : X.env.scope.names.lookup y = some .local)
    (hsw : swapsWith (.ListComp elt [⟨tg, iter, ifs, 0⟩] scope pos) (some (.Name y py)) spos.line X.env = pure true) (hi : PI X tg iter (tI X.K X.mg W i)) (ok : BlkOk X.N X.env.scope scope own) (ht : TgOk X.K (own.map (·.2)) G T)
    (hg : ∀ (s : Shared) (H : Hp) (C : Addr) (cl : List (Str × Addr)) (fp : List Addr), PG (X.blk s H scope (compEnvC scope cl C X.env) fp) tg G) (hu : ∀ (s : Shared) (H : Hp) (C : Addr) (cl : List (Str × Addr)) (fp : List Addr), PTs (X.blk s H scope (compEnvC scope cl C X.env) fp) ifs (tT X.K X.mg wF u))
    (he : ∀ (s : Shared) (H : Hp) (C : Addr) (cl : List (Str × Addr)) (fp : List Addr), PE (X.blk s H scope (compEnvC scope cl C X.env) fp) elt (tE X.K X.mg wF f)) (hs : ∀ x, foldedSetIterable iter X.env x = pure x := by intro _; rfl) :
    PS X (.Assign [.Name y py] (.ListComp elt [⟨tg, iter, ifs, 0⟩] scope pos) spos) (tS X.K X.mg W (setS n ((if own' = true then fLcOwn else fLc) T u f i (own.map (·.2))))) := by
  refine PS.imp (ps_setLc hc hN hy hyl hsw hi ok hg hu he hs) fun D σ H t => tS_asg (fun Q q => ?_) t
  cases own' with
  | true => exact lc_tE true ht rfl q
  | false => exact lc_tE false ht rfl q
end

/-! ### defs -/
def CellLow (n : Nat) : Cell → Prop
  | .lst xs => D.lowAll n xs = true
  | .dic kvs => ∀ q ∈ kvs, D.low n q.2 = true
  | .gone => True
  | .obj _ fs => ∀ q ∈ fs, D.low n q.2 = true
  | .tab _ => True
/-- t: the first of them, each as it was or with nothing of the def's own -/
def Keeps (s t : Sto) : Prop := ∀ (j : Nat) (c : Cell), t[j]? = some c → s[j]? = some c ∨ CellLow s.length c
noncomputable instance (s t : Sto) : Decidable (Keeps s t) := Classical.propDecidable _
noncomputable instance (n : Nat) (c : Cell) : Decidable (CellLow n c) := Classical.propDecidable _
/-- what a def gives back: its own lists are forgotten, a list that is given back is a stable one (keep: one's own) -/
noncomputable def closeM (keep : Bool) (s : Sto) (d : D) (s' : Sto) : Option (R D) :=
  if Keeps s (s'.take s.length) then match d with
    | .own k => if k < s.length then some (.ok (.own k) (s'.take s.length)) else match s'[k]? with
      | some (.lst xs) => if D.lowAll s.length xs = true then (if keep = true then some (.ok (.own s.length) (s'.take s.length ++ [.lst xs])) else some (.ok (.lst xs) (s'.take s.length))) else none
      | some (.dic kvs) => if keep = true ∧ CellLow s.length (.dic kvs) then some (.ok (.own s.length) (s'.take s.length ++ [.dic kvs])) else none
      | _ => none
    | d => if D.low s.length d = true then some (.ok d (s'.take s.length)) else none
  else none
noncomputable def closeX (c : Str) (s s' : Sto) : Option (R D) := if Keeps s (s'.take s.length) then some (.ex c (s'.take s.length)) else none
noncomputable def fnD (keep : Bool) (n : Nat) (g : SD) : List D → M D := fun ds s =>
  match g (ds.map some ++ List.replicate (n - ds.length) none) s with
  | some (.nx _ s') => closeM keep s .non s'
  | some (.rt d s') => closeM keep s d s'
  | some (.ex c _ s') => closeX c s s'
  | _ => none
def fnA (n : Nat) (g : SD) : List D → M D := fun ds s =>
  match g (ds.map some ++ List.replicate (n - ds.length) none) s with
  | some (.nx _ s') => some (.ok .non s')
  | some (.rt d s') => some (.ok d s')
  | some (.ex c _ s') => some (.ex c s')
  | _ => none
section
variable {K : PySem.W.Frag} {mg : Str → Option Value} {H H0 H' H0' : Hp} {O O' : List Addr} {s s' : Sto}
theorem Ext.cutO (E : Ext H H0 O H' H0' O') : Ext H H0 O H' H0' O := ⟨E.h0, .refl _, fun _ h => .inl h, E.frame, E.live, E.h0n⟩
theorem take_pre {O O' : List Addr} (p : Pre O O') : O'.take O.length = O := by
  obtain ⟨t, rfl⟩ := p
  exact List.take_left
theorem close_base (B : Base K H H0 O s) (B' : Base K H' H0' O' s') (E : Ext H H0 O H' H0' O') (h : Keeps s (s'.take s.length)) : Base K H' H0' O (s'.take s.length) := by
  have hl : s.length ≤ s'.length := by
    obtain ⟨t, e⟩ := E.o
    rw [← B.len, ← B'.len, e, List.length_append]
    exact Nat.le_add_right _ _
  have q := B'.cut (n := s.length) (s'.take s.length) (by rw [List.length_take]; omega) ⟨s'.drop s.length, (List.take_append_drop _ _).symm⟩ (fun c hc => ?_)
  · have e := take_pre E.o
    rw [B.len] at e
    rw [e] at q
    exact q
  · obtain ⟨j, hj⟩ := List.mem_iff_getElem?.mp hc
    have low : CellLow s.length c := by
      rcases h j c hj with z | z
      · have hjO : j < O.length := by rw [B.len]; exact (List.getElem?_eq_some_iff.mp z).1
        have q := B.cell j _ c (List.getElem?_eq_getElem hjO) z
        cases c with
        | lst xs =>
          obtain ⟨vs, _, q2, _⟩ := q
          have := RpAll.bel _ _ q2
          rw [B.len] at this
          exact this
        | dic kvs =>
          obtain ⟨ks, _, q2, _⟩ := q
          intro w hw
          obtain ⟨k0, hk0⟩ := Paired.right q2 w hw
          have := Rp.bel _ _ hk0.2
          rw [B.len] at this
          exact this
        | gone => trivial
        | obj c fs =>
          obtain ⟨C, dx, ks, _, _, q2, _⟩ := q
          intro w hw
          obtain ⟨k0, hk0⟩ := Paired.right q2 w hw
          have := Rp.bel _ _ hk0.2
          rw [B.len] at this
          exact this
        | tab x => trivial
      · exact z
    cases c with
    | lst xs => exact low
    | dic kvs => exact low
    | gone => trivial
    | obj c fs => exact low
    | tab x => trivial
theorem paired_cut {K : PySem.W.Frag} {H0' : Hp} {O' : List Addr} (n : Nat) : ∀ {kvs : List (Key × D)} {ks : List (Key × V)}, (∀ q ∈ kvs, D.low n q.2 = true) → Paired (fun (p : Key × V) (q : Key × D) => p.1 = q.1 ∧ Rp K H0' O' p.2 q.2) ks kvs →
    Paired (fun (p : Key × V) (q : Key × D) => p.1 = q.1 ∧ Rp K H0' (O'.take n) p.2 q.2) ks kvs
  | _, _, _, .nil => .nil
  | _, _, low, .cons r t => .cons ⟨r.1, Rp.cut n _ _ (low _ List.mem_cons_self) r.2⟩ (paired_cut n (fun q hq => low q (List.mem_cons_of_mem _ hq)) t)
theorem closeM_ok {keep : Bool} {Q : VK} {E : XK} {v : V} {d : D} {r : R D} (B : Base K H H0 O s) (p : PostG K mg (Rp K) H H0 O Q E r) (hc : closeM keep s d s' = some r)
    (B' : Base K H' H0' O' s') (X : Ext H H0 O H' H0' O') (rv : Rp K H0' O' v d) : Q v H' := by
  unfold closeM at hc
  split at hc
  · rename_i hk
    have b := close_base B B' X hk
    have hO : O'.take s.length = O := by rw [← B.len]; exact take_pre X.o
    split at hc
    · rename_i k
      split at hc
      · rename_i hlt
        cases hc
        cases rv with
        | own h1 =>
          refine p _ _ _ _ b X.cutO (.own ?_)
          rw [← hO, List.getElem?_take, if_pos hlt]
          exact h1
      · rename_i hge
        split at hc
        · rename_i xs hx
          split at hc
          · rename_i hlow
            cases rv with
            | own h1 =>
              rename_i a
              obtain ⟨vs, g1, g2, g3⟩ := B'.cell _ _ _ h1 hx
              have g2' : RpAll K H0' O vs xs := by
                have := RpAll.cut s.length _ _ hlow g2
                rw [hO] at this
                exact this
              have haO : a ∉ O := fun hm => by
                obtain ⟨j, hj⟩ := List.mem_iff_getElem?.mp hm
                have e := get_inj B'.nd (X.o.get hj) h1
                have := (List.getElem?_eq_some_iff.mp hj).1
                rw [B.len] at this
                omega
              have hfr : H a = none := (X.fresh a (get_mem h1)).resolve_left haO
              split at hc
              · cases hc
                have pr : ∀ (k : Nat) (b : Addr), O[k]? = some b → (O ++ [a])[k]? = some b := fun k b h => Pre.get ⟨_, rfl⟩ h
                have len : O.length = (s'.take s.length).length := b.len
                refine p (.ref a) H' H0' (O ++ [a]) ⟨b.sub, ?_, by rw [List.length_append, List.length_append, len]; rfl, fun c hc => ?_, fun j c cc h1' h2' => ?_⟩ ⟨X.h0, ⟨_, rfl⟩, fun c hc => ?_, X.frame, X.live, X.h0n⟩ (.own ?_)
                · rw [List.nodup_append]
                  refine ⟨b.nd, by simp, fun c hc d hd e => ?_⟩
                  rw [List.mem_singleton.mp hd] at e
                  exact haO (e ▸ hc)
                · rcases List.mem_append.mp hc with hc | hc
                  · exact b.live c hc
                  · rw [List.mem_singleton.mp hc, g1]; simp
                · by_cases hj : j < O.length
                  · rw [List.getElem?_append_left hj] at h1'
                    rw [List.getElem?_append_left (by rw [← len]; exact hj)] at h2'
                    have q := b.cell j c cc h1' h2'
                    by_cases hg : cc = .gone
                    · subst hg; trivial
                    · exact q.mono (.refl _) pr rfl (q.none hg)
                  · have hj2 : j = O.length := by
                      have := (List.getElem?_eq_some_iff.mp h1').1
                      rw [List.length_append, List.length_singleton] at this
                      omega
                    subst hj2
                    rw [List.getElem?_append_right (Nat.le_refl _), Nat.sub_self] at h1'
                    rw [List.getElem?_append_right (by rw [len]; exact Nat.le_refl _), len, Nat.sub_self] at h2'
                    cases h1'; cases h2'
                    exact ⟨vs, g1, RpAll.mono (.refl _) pr _ _ g2', g3⟩
                · rcases List.mem_append.mp hc with hc | hc
                  · exact .inl hc
                  · rw [List.mem_singleton.mp hc]; exact .inr hfr
                · rw [← B.len, List.getElem?_append_right (Nat.le_refl _), Nat.sub_self]
                  rfl
              · cases hc
                have s0 : Same H0' (upd H0' a (.lst vs)) := fun b u e => by rw [upd_ne (ne_of_none e g3)]; exact e
                refine p (.ref a) H' (upd H0' a (.lst vs)) O ⟨fun c u e => ?_, b.nd, b.len, b.live, fun j c cc h1' h2' => ?_⟩ ⟨X.h0.trans s0, .refl _, fun _ h => .inl h, X.frame, X.live, fun c hc => ?_⟩ (.lst upd_same (RpAll.mono s0 (fun _ _ h => h) _ _ g2'))
                · by_cases hb : c = a
                  · subst hb; rw [upd_same] at e; cases e; exact g1
                  · rw [upd_ne hb] at e; exact b.sub _ _ e
                · have q := b.cell j c cc h1' h2'
                  have hn : c ≠ a := fun e => by subst e; exact haO (get_mem h1')
                  by_cases hg : cc = .gone
                  · subst hg; trivial
                  · exact q.mono s0 (fun _ _ h => h) rfl (by rw [upd_ne hn]; exact q.none hg)
                · by_cases hb : c = a
                  · subst hb; exact .inr (.inl hfr)
                  · rw [upd_ne hb] at hc; exact X.h0n c hc
          · cases hc
        · rename_i kvs hx
          split at hc
          · rename_i hlow
            cases hc
            cases rv with
            | own h1 =>
              rename_i a
              obtain ⟨ks, g1, g2, g3⟩ := B'.cell _ _ _ h1 hx
              have low : ∀ q ∈ kvs, D.low s.length q.2 = true := hlow.2
              have g2' : Paired (fun (p : Key × V) (q : Key × D) => p.1 = q.1 ∧ Rp K H0' O p.2 q.2) ks kvs := by
                have := paired_cut s.length low g2
                rw [hO] at this
                exact this
              have haO : a ∉ O := fun hm => by
                obtain ⟨j, hj⟩ := List.mem_iff_getElem?.mp hm
                have e := get_inj B'.nd (X.o.get hj) h1
                have := (List.getElem?_eq_some_iff.mp hj).1
                rw [B.len] at this
                omega
              have hfr : H a = none := (X.fresh a (get_mem h1)).resolve_left haO
              have pr : ∀ (k : Nat) (b : Addr), O[k]? = some b → (O ++ [a])[k]? = some b := fun k b h => Pre.get ⟨_, rfl⟩ h
              have len : O.length = (s'.take s.length).length := b.len
              refine p (.ref a) H' H0' (O ++ [a]) ⟨b.sub, ?_, by rw [List.length_append, List.length_append, len]; rfl, fun c hc => ?_, fun j c cc h1' h2' => ?_⟩ ⟨X.h0, ⟨_, rfl⟩, fun c hc => ?_, X.frame, X.live, X.h0n⟩ (.own ?_)
              · rw [List.nodup_append]
                refine ⟨b.nd, by simp, fun c hc d hd e => ?_⟩
                rw [List.mem_singleton.mp hd] at e
                exact haO (e ▸ hc)
              · rcases List.mem_append.mp hc with hc | hc
                · exact b.live c hc
                · rw [List.mem_singleton.mp hc, g1]; simp
              · by_cases hj : j < O.length
                · rw [List.getElem?_append_left hj] at h1'
                  rw [List.getElem?_append_left (by rw [← len]; exact hj)] at h2'
                  have q := b.cell j c cc h1' h2'
                  by_cases hg : cc = .gone
                  · subst hg; trivial
                  · exact q.mono (.refl _) pr rfl (q.none hg)
                · have hj2 : j = O.length := by
                    have := (List.getElem?_eq_some_iff.mp h1').1
                    rw [List.length_append, List.length_singleton] at this
                    omega
                  subst hj2
                  rw [List.getElem?_append_right (Nat.le_refl _), Nat.sub_self] at h1'
                  rw [List.getElem?_append_right (by rw [len]; exact Nat.le_refl _), len, Nat.sub_self] at h2'
                  cases h1'; cases h2'
                  exact ⟨ks, g1, Paired.mapP g2' fun _ _ z => ⟨z.1, Rp.mono (.refl _) pr _ _ z.2⟩, g3⟩
              · rcases List.mem_append.mp hc with hc | hc
                · exact .inl hc
                · rw [List.mem_singleton.mp hc]; exact .inr hfr
              · rw [← B.len, List.getElem?_append_right (Nat.le_refl _), Nat.sub_self]
                rfl
          · cases hc
        · cases hc
    · split at hc
      · rename_i hlow
        cases hc
        have := Rp.cut s.length _ _ hlow rv
        rw [hO] at this
        exact p _ _ _ _ b X.cutO this
      · cases hc
  · cases hc
theorem rpSl_start {vs : List V} {ds : List D} {N : List Str} (r : RpAll K H0 O vs ds) : RpSl K H0 O (L2.start N vs) (ds.map some ++ List.replicate (N.length - ds.length) none) := by
  have hl := r.length
  refine ⟨by unfold L2.start; simp [hl], fun j d h => ?_⟩
  unfold L2.start
  by_cases hj : j < ds.length
  · rw [List.getElem?_append_left (by simpa using hj), List.getElem?_map] at h
    cases e : ds[j]? with
    | none => rw [e] at h; cases h
    | some d' =>
      rw [e] at h
      cases h
      obtain ⟨v, h1, h2⟩ := r.get e
      refine ⟨v, ?_, h2⟩
      rw [List.getElem?_append_left (by simp; omega), List.getElem?_map, h1]
      rfl
  · rw [List.getElem?_append_right (by simpa using hj)] at h
    have := List.mem_of_getElem? h
    simp at this
end
section
variable {P : Program} {w : World} {K : PySem.W.Frag} {mg : Str → Option Value} {base : Heap}
/-- where a def's body is walked -/
structure At (X : Cx) (k : Nat) (W : WX) : Prop where
  room : Room k X.A
  takes : L2.Takes X W
  own : PassesOwn (model X.prog X.w) X.A X.env X.xe
  calm : X.calm = true
theorem fn_ok {x qual : Str} {st : Stmt} {f : Addr} {fd : FuncData} {N ps : List Str} {k : Nat} {n : Nat} (keep : Bool) {g : SD} (F : Fun K x qual st f fd) (S : FnScope N ps (defScope st)) (hn : ps.length = n)
    (hb : ∀ (cdv : Value) (A : Around) (outer : List Env) (s : Shared) (H : Hp) (E : XK), At (cxOf (L2.CX P w) P w K mg base N qual (defScope st) f cdv A outer s H E) k (fun cls d _ H => E cls d H) →
      PSs (cxOf (L2.CX P w) P w K mg base N qual (defScope st) f cdv A outer s H E) (defBody st) (tS K mg (fun cls d _ H => E cls d H) g)) :
    FnOk P w K mg base (L2.CX P w) (k + 1) f fd ps (spD K mg n (fnD keep N.length g)) := by
  refine F.okX S (fun vs H Q E h => ?_) (fun cdv A outer s H vs Q E hr h => ⟨_, hb cdv A outer s H E ⟨hr, takes_of rfl rfl rfl rfl, passes_of rfl, rfl⟩, ?_⟩)
  · obtain ⟨H0, O, sto, ds, r, hl, B, rv, _⟩ := h
    rw [rv.length, hl, hn]
  · obtain ⟨H0, O, sto, ds, r, hl, B, rv, e, p⟩ := h
    unfold fnD at e
    cases eg : g (ds.map some ++ List.replicate (N.length - ds.length) none) sto with
    | none => rw [eg] at e; cases e
    | some r1 =>
      refine ⟨H0, O, _, sto, r1, B, rpSl_start rv, eg, ?_⟩
      rw [eg] at e
      cases r1 with
      | nx l s' => exact fun σ' H' H0' O' B' X' S' => closeM_ok B p e B' X' .non
      | rt d s' => exact fun v H' H0' O' B' X' r' => closeM_ok B p e B' X' r'
      | ex c l s' =>
        intro cls dd σ' H' H0' O' hw B' X' S'
        replace e : closeX c sto s' = some r := e
        unfold closeX at e
        split at e
        · rename_i hk
          cases e
          exact p cls dd H' H0' O hw (close_base B B' X' hk) X'.cutO
        · cases e
      | bk l s' => cases e
      | ct l s' => cases e
/-- a def whose new things all stay -/
theorem fn_okA {x qual : Str} {st : Stmt} {f : Addr} {fd : FuncData} {N ps : List Str} {k : Nat} {n : Nat} {g : SD} (F : Fun K x qual st f fd) (S : FnScope N ps (defScope st)) (hn : ps.length = n)
    (hb : ∀ (cdv : Value) (A : Around) (outer : List Env) (s : Shared) (H : Hp) (E : XK), At (cxOf (L2.CX P w) P w K mg base N qual (defScope st) f cdv A outer s H E) k (fun cls d _ H => E cls d H) →
      PSs (cxOf (L2.CX P w) P w K mg base N qual (defScope st) f cdv A outer s H E) (defBody st) (tS K mg (fun cls d _ H => E cls d H) g)) :
    FnOk P w K mg base (L2.CX P w) (k + 1) f fd ps (spD K mg n (fnA N.length g)) := by
  refine F.okX S (fun vs H Q E h => ?_) (fun cdv A outer s H vs Q E hr h => ⟨_, hb cdv A outer s H E ⟨hr, takes_of rfl rfl rfl rfl, passes_of rfl, rfl⟩, ?_⟩)
  · obtain ⟨H0, O, sto, ds, r, hl, B, rv, _⟩ := h
    rw [rv.length, hl, hn]
  · obtain ⟨H0, O, sto, ds, r, hl, B, rv, e, p⟩ := h
    unfold fnA at e
    cases eg : g (ds.map some ++ List.replicate (N.length - ds.length) none) sto with
    | none => rw [eg] at e; cases e
    | some r1 =>
      refine ⟨H0, O, _, sto, r1, B, rpSl_start rv, eg, ?_⟩
      rw [eg] at e
      cases r1 with
      | nx l s' => cases e; exact fun σ' H' H0' O' B' X' S' => p .non H' H0' O' B' X' .non
      | rt d s' => cases e; exact fun v H' H0' O' B' X' r' => p v H' H0' O' B' X' r'
      | ex c l s' => cases e; exact fun cls dd σ' H' H0' O' hw B' X' S' => p cls dd H' H0' O' hw B' X'
      | bk l s' => cases e
      | ct l s' => cases e
/-- nothing is promised of a def at level 0 -/
theorem fn_zero {f : Addr} {fd : FuncData} {ps : List Str} {n : Nat} (hn : ps.length = n) : FnOk P w K mg base (L2.CX P w) 0 f fd ps (spD K mg n (fun _ _ => none)) := by
  have no : ∀ vs H Q E, ¬ spD K mg n (fun _ _ => none) vs H Q E := fun vs H Q E h => by
    obtain ⟨_, _, _, _, _, _, _, _, e, _⟩ := h
    cases e
  exact ⟨fun vs H Q E h => absurd h (no vs H Q E), fun A outer s H args us vs Q E _ _ _ _ h => absurd h (no vs H Q E)⟩
end
end PD

set_option Elab.async false
set_option linter.all false
set_option maxRecDepth 100000
set_option maxHeartbeats 4000000
/-! PD: calls by name, further makings of own lists, the law's end. -/
namespace PD
open PySem PySem.Spec PyProof.Rows L2
theorem u64 {k : Nat} {A : Around} (r : Room k A) : A.units + 64 < cLine := by have := r.un; omega
theorem u65 {k : Nat} {A : Around} (r : Room k A) : A.units + 65 < cLine := by have := r.un; omega
/-- a def that may be called: its denotation is g -/
structure Cal (P : Program) (w : World) (K : PySem.W.Frag) (mg : Str → Option Value) (base : Heap) (k : Nat) (x : Str) (n : Nat) (g : List D → M D) : Prop where
  ex : ∃ (f : Addr) (fd : FuncData) (ps : List Str), FnOk P w K mg base (L2.CX P w) k f fd ps (spD K mg n g) ∧ mg x = some (.ref f) ∧ PySem.W.keepIn K (.ref f) = true ∧ Binds K fd ps []
section
variable {P : Program} {w : World} {K : PySem.W.Frag} {mg : Str → Option Value} {base : Heap} {j k : Nat} {x : Str} {n : Nat} {g : List D → M D}
theorem Cal.mono (c : Cal P w K mg base j x n g) (h : j ≤ k) : Cal P w K mg base k x n g := by
  obtain ⟨f, fd, ps, F, a, b, d⟩ := c.ex
  exact ⟨f, fd, ps, F.mono h, a, b, d⟩
theorem Cal.mk' {qual : Str} {st : Stmt} {f : Addr} {fd : FuncData} {ps : List Str} (F : Fun K x qual st f fd) (gf : mg x = some (.ref f)) (b : Binds K fd ps []) (h : FnOk P w K mg base (L2.CX P w) k f fd ps (spD K mg n g)) : Cal P w K mg base k x n g :=
  ⟨f, fd, ps, h, gf, F.kp, b⟩
theorem Cal.zero {qual : Str} {st : Stmt} {f : Addr} {fd : FuncData} {ps : List Str} (F : Fun K x qual st f fd) (gf : mg x = some (.ref f)) (b : Binds K fd ps []) (hn : ps.length = n) : Cal P w K mg base k x n (fun _ _ => none) :=
  ⟨f, fd, ps, (fn_zero hn).mono (Nat.zero_le _), gf, F.kp, b⟩
end
section
variable {X : Cx} {W : WX} {k n : Nat} {g : List D → M D} {x : Str} {p pos : Pos} {e : Expr} {es : List Expr} {h : Sl → M (List D)} {f : Sl → M D}
theorem e_callC (c : Cal X.prog X.w X.K X.mg X.base k x n g) (tk : L2.Takes X W) (hr : Room k X.A) (hg : Gl X x)
    (ha : PA X (e :: es) (tA X.K X.mg W h)) (hdb : (x == ("__debug__" : Str)) = false := by decide) (he : starEach (e :: es) X.env = (false, eval e X.env) :: starEach es X.env := by rfl) (hpl : (backTo pos (starEach es X.env)).any (·.1) = false := by rfl) :
    PE X (.Call (.Name x p) (e :: es) [] pos) (tE X.K X.mg W (fCall n g h)) := by
  obtain ⟨f, fd, ps, F, a, b, d⟩ := c.ex
  exact e_call F tk hr hg a b d ha hdb he hpl
def revOwnM (d : D) : M D := fun s => match lsOf s d with
  | some xs => some (.ok (.own s.length) (s ++ [.lst xs.reverse]))
  | none => none
def fRevOwn (f : Sl → M D) : Sl → M D := fun sl => bindM (f sl) fun x => revOwnM x
theorem e_revOwn {k : Nat} {q1 q2 q3 : Pos} (he : PE X e (tE X.K X.mg W f)) : PE X (.Subscript e (.Slice none none (some (.UnaryOp .USub (.Constant (.int 1) k q1) q2)) q3) pos) (tE X.K X.mg W (fRevOwn f)) := by
  refine PE.imp (pe_revL he) fun σ H Q t => ?_
  refine tG_mono (tG_bind t) fun x H1 z => ?_
  obtain ⟨H0', O', sl', s', d, r', B', S', rx, q', p'⟩ := z
  unfold revOwnM at q'
  split at q'
  · rename_i xs hq
    cases q'
    obtain ⟨a, vs, rfl, g1, g2⟩ := lsOf_ok B' rx hq
    refine ⟨a, vs, rfl, g1, fun p hp => ?_⟩
    obtain ⟨b1, b2, b3⟩ := own_new B' hp g2.reverse
    exact p' _ _ _ _ b1 b2 b3
  · cases q'
end
/-! ### the law -/
theorem law_spQ {K : PySem.W.Frag} {mg : Str → Option Value} {g : List D → M D} (n : Nat) (h : ∀ ns : List Int, ns.length ≤ n → ∃ s, g [.scr (ns.map D.int)] [] = some (.ok (.bl true) s))
    (H : Hp) (a : Addr) (ns : List Int) (hn : ns.length ≤ n) (hS : SqL K H a (ns.map V.int)) {Q : VK} {E : XK} (q : ∀ H', Q (.bl true) H') : spD K mg 1 g [.ref a] H Q E := by
  obtain ⟨s, e⟩ := h ns hn
  have all : ∀ ns : List Int, RpAll K H [] (ns.map V.int) (ns.map D.int) := by
    intro ns
    induction ns with
    | nil => exact .nil
    | cons x r ih => exact .cons (.int x) ih
  refine ⟨H, [], [], _, _, rfl, ⟨fun _ _ h => h, List.nodup_nil, rfl, (fun a h => by cases h), (fun k a c h _ => by simp at h)⟩, .one (.scr hS (all ns)), e, fun v H' H0' O' _ _ r => ?_⟩
  cases r
  exact q H'
theorem cx_none {P : Program} {w : World} {H : Hp} {s : Shared} {e : Value} {s' : Shared} (h : L2.CX P w [] H s (fun _ _ _ => False) e s') : False := by
  obtain ⟨_, _, _, _, _, _, _, _, _, _, _, _, z⟩ := h
  exact z
end PD

set_option Elab.async false
set_option linter.all false
set_option maxRecDepth 100000
set_option maxHeartbeats 4000000
/-! PD10: dicts. -/
namespace PD
open PySem PySem.Spec PyProof.Rows L2

abbrev KvR (K : PySem.W.Frag) (H0 : Hp) (O : List Addr) : List (Key × V) → List (Key × D) → Prop := Paired (fun (p : Key × V) (q : Key × D) => p.1 = q.1 ∧ Rp K H0 O p.2 q.2)
def dcOf (s : Sto) : D → Option (List (Key × D))
  | .own k => match s[k]? with | some (.dic kvs) => some kvs | _ => none
  | _ => none
def kD : D → Option Key | .int i => some (.inl i) | .str x => some (.inr x) | _ => none
def dK : Key → D | .inl i => .int i | .inr x => .str x
def atD (kvs : List (Key × D)) (k : Key) : Option D := (kvs.find? fun q => decide (q.1 = k)).map (·.2)
def putD (kvs : List (Key × D)) (k : Key) (d : D) : List (Key × D) := if (kvs.any fun q => decide (q.1 = k)) = true then kvs.map (fun q => if q.1 = k then (q.1, d) else q) else kvs ++ [(k, d)]
def dropD (kvs : List (Key × D)) (k : Key) : List (Key × D) := kvs.filter fun q => decide (q.1 ≠ k)
section
variable {K : PySem.W.Frag} {H H0 : Hp} {O : List Addr} {sto : Sto}
theorem dcOf_ok {d : D} {v : V} {kvs : List (Key × D)} (B : Base K H H0 O sto) (r : Rp K H0 O v d) (h : dcOf sto d = some kvs) :
    ∃ k a ks, d = .own k ∧ v = .ref a ∧ O[k]? = some a ∧ sto[k]? = some (.dic kvs) ∧ H a = some (.dK ks) ∧ KvR K H0 O ks kvs ∧ H0 a = none := by
  unfold dcOf at h
  split at h
  · rename_i k
    split at h
    · rename_i kvs' e
      cases h
      cases r with
      | own h1 =>
        rename_i a
        obtain ⟨ks, q1, q2, q3⟩ := B.cell k _ _ h1 e
        exact ⟨k, a, ks, rfl, rfl, h1, e, q1, q2, q3⟩
    · cases h
  · cases h
theorem kD_ok {d : D} {v : V} {k : Key} (r : Rp K H0 O v d) (h : kD d = some k) : v = kV k := by
  cases d with
  | int i => cases r; cases h; rfl
  | str x => cases r; cases h; rfl
  | _ => cases h
theorem rp_dK (k : Key) : Rp K H0 O (kV k) (dK k) := by
  cases k with
  | inl i => exact .int i
  | inr x => exact .str x
theorem kv_get {ks : List (Key × V)} {kvs : List (Key × D)} (k : Key) (p : KvR K H0 O ks kvs) : (∀ d, atD kvs k = some d → ∃ v, valV ks k = some v ∧ Rp K H0 O v d) ∧ (atD kvs k = none → valV ks k = none) := by
  induction p with
  | nil => exact ⟨fun d h => (by cases h), fun _ => rfl⟩
  | @cons a b l1 l2 r t ih =>
    by_cases e : b.1 = k
    · have e' : a.1 = k := r.1.trans e
      have h1 : atD (b :: l2) k = some b.2 := by simp [atD, List.find?_cons, e]
      rw [valV_pos e', h1]
      exact ⟨fun d h => (by cases h; exact ⟨_, rfl, r.2⟩), fun h => (by cases h)⟩
    · have e' : ¬ a.1 = k := fun q => e (r.1.symm.trans q)
      have h1 : atD (b :: l2) k = atD l2 k := by simp [atD, List.find?_cons, e]
      rw [valV_neg e', h1]
      exact ih
theorem kv_len {ks : List (Key × V)} {kvs : List (Key × D)} (p : KvR K H0 O ks kvs) : ks.length = kvs.length := by
  induction p with
  | nil => rfl
  | cons _ _ ih => rw [List.length_cons, List.length_cons, ih]
theorem kv_put {ks : List (Key × V)} {kvs : List (Key × D)} (k : Key) {v : V} {d : D} (p : KvR K H0 O ks kvs) (r : Rp K H0 O v d) : KvR K H0 O (putK ks k v) (putD kvs k d) := by
  have hany : ∀ {ks : List (Key × V)} {kvs : List (Key × D)}, KvR K H0 O ks kvs → (ks.any fun q => decide (q.1 = k)) = (kvs.any fun q => decide (q.1 = k)) := by
    intro ks kvs p
    induction p with
    | nil => rfl
    | cons r _ ih => rw [List.any_cons, List.any_cons, ih, r.1]
  unfold putK putD
  rw [hany p]
  split
  · have hmap : ∀ {ks : List (Key × V)} {kvs : List (Key × D)}, KvR K H0 O ks kvs → KvR K H0 O (ks.map fun kv => if kv.1 = k then (kv.1, v) else kv) (kvs.map fun q => if q.1 = k then (q.1, d) else q) := by
      intro ks kvs p
      induction p with
      | nil => exact .nil
      | @cons a b l1 l2 h _ ih =>
        rw [List.map_cons, List.map_cons]
        refine .cons ?_ ih
        by_cases e : b.1 = k
        · rw [if_pos e, if_pos (h.1.trans e)]; exact ⟨h.1, r⟩
        · rw [if_neg e, if_neg (fun q => e (h.1.symm.trans q))]; exact h
    exact hmap p
  · exact Paired.snoc p ⟨rfl, r⟩
theorem kv_drop {ks : List (Key × V)} {kvs : List (Key × D)} (k : Key) (p : KvR K H0 O ks kvs) : KvR K H0 O (dropK ks k) (dropD kvs k) := by
  induction p with
  | nil => exact .nil
  | @cons a b l1 l2 h _ ih =>
    unfold dropK dropD at *
    rw [List.filter_cons, List.filter_cons]
    by_cases e : b.1 = k
    · have e' : a.1 = k := h.1.trans e
      simpa [e, e'] using ih
    · have e' : ¬ a.1 = k := fun q => e (h.1.symm.trans q)
      have := Paired.cons (F := fun (p : Key × V) (q : Key × D) => p.1 = q.1 ∧ Rp K H0 O p.2 q.2) h ih
      simpa [e, e'] using this
theorem kv_keys {ks : List (Key × V)} {kvs : List (Key × D)} (p : KvR K H0 O ks kvs) : RpAll K H0 O (ks.map fun kv => kV kv.1) (kvs.map fun q => dK q.1) := by
  induction p with
  | nil => exact .nil
  | cons h _ ih =>
    rw [List.map_cons, List.map_cons, h.1]
    exact .cons (rp_dK _) ih
theorem own_newD (B : Base K H H0 O sto) {p : Addr} (hp : H p = none) {ks : List (Key × V)} {kvs : List (Key × D)} (r : KvR K H0 O ks kvs) :
    Base K (upd H p (.dK ks)) H0 (O ++ [p]) (sto ++ [.dic kvs]) ∧ Ext H H0 O (upd H p (.dK ks)) H0 (O ++ [p]) ∧ Rp K H0 (O ++ [p]) (.ref p) (.own sto.length) := by
  obtain ⟨b1, b2⟩ := B.newOwn hp (o := .dK ks) (c := .dic kvs) ⟨ks, upd_same, r, none0 B hp⟩
  refine ⟨b1, b2, .own ?_⟩
  rw [← B.len, List.getElem?_append_right (Nat.le_refl _), Nat.sub_self]
  rfl
end
section
variable {X : Cx} {W : WX} {e a b o i value : Expr} {es : List Expr} {pos pos' apos cpos : Pos} {f g h : Sl → M D}
/-- {} -/
def fDNew : Sl → M D := fun _ s => some (.ok (.own s.length) (s ++ [.dic []]))
theorem e_dNew : PE X (.Dict [] [] pos) (tE X.K X.mg W fDNew) := by
  refine PE.imp pe_dnewK fun σ H Q t p hp => ?_
  obtain ⟨H0, O, sl, s, r, B, S, e, q⟩ := tG_of t
  have e' : some (R.ok (D.own s.length) (s ++ [.dic []])) = some r := e
  cases e'
  obtain ⟨b1, b2, b3⟩ := own_newD B hp (ks := []) (kvs := []) .nil
  exact q _ _ _ _ b1 b2 b3
/-- d[k] -/
def dgetO (s : Sto) (d e : D) : Option D := (dcOf s d).bind fun kvs => (kD e).bind fun k => atD kvs k
theorem dget_at {K : PySem.W.Frag} {H H0 : Hp} {O : List Addr} {s : Sto} {x y : V} {d e z : D} (B : Base K H H0 O s) (rd : Rp K H0 O x d) (re : Rp K H0 O y e) (h : dgetO s d e = some z) : ∃ a v, x = .ref a ∧ DGet H a y (some v) ∧ Rp K H0 O v z := by
  unfold dgetO at h
  cases hd : dcOf s d with
  | none => rw [hd] at h; cases h
  | some kvs =>
    rw [hd] at h
    cases hk : kD e with
    | none => rw [hk] at h; cases h
    | some k =>
      rw [hk] at h
      obtain ⟨n, a, ks, rfl, rfl, h1, h2, h3, h4, h5⟩ := dcOf_ok B rd hd
      obtain ⟨v, hv, rv⟩ := (kv_get k h4).1 z h
      have := kD_ok re hk
      subst this
      refine ⟨a, v, rfl, ?_, rv⟩
      rw [← hv]
      exact .k h3
theorem e_dget (hu : X.A.units + 1 < cLine) (ho : PE X o (tE X.K X.mg W f)) (hi : PE X i (tE X.K X.mg W g)) (hs : NoSl i := by intro _ _; rfl) : PE X (.Subscript o i pos) (tE X.K X.mg W (f2 dgetO f g)) := by
  refine PE.imp (pe_dget hu ho hi hs) fun σ H Q t => ?_
  refine tG_mono (tE_f2 t) fun x H1 z => tG_mono z fun y H2 z => ?_
  obtain ⟨H0, O, s, d, e, z, B, rd, re, hz, k⟩ := z
  obtain ⟨a, v, rfl, g, rv⟩ := dget_at B rd re hz
  exact ⟨a, v, rfl, g, k _ _ _ B (.refl _ _ _) rv⟩
/-- k in d, k not in d -/
def dinO (neg : Bool) (s : Sto) (e d : D) : Option D := (dcOf s d).bind fun kvs => (kD e).map fun k => .bl (ng neg (atD kvs k).isSome)
theorem din_at {K : PySem.W.Frag} {H H0 : Hp} {O : List Addr} {s : Sto} {x y : V} {neg : Bool} {d e z : D} (B : Base K H H0 O s) (rd : Rp K H0 O x d) (re : Rp K H0 O y e) (h : dinO neg s e d = some z) : ∃ a o, x = .ref a ∧ DGet H a y o ∧ z = .bl (ng neg o.isSome) := by
  unfold dinO at h
  cases hd : dcOf s d with
  | none => rw [hd] at h; cases h
  | some kvs =>
    rw [hd] at h
    cases hk : kD e with
    | none => rw [hk] at h; cases h
    | some k =>
      rw [hk] at h
      cases h
      obtain ⟨n, a, ks, rfl, rfl, h1, h2, h3, h4, h5⟩ := dcOf_ok B rd hd
      have := kD_ok re hk
      subst this
      refine ⟨a, valV ks k, rfl, .k h3, ?_⟩
      obtain ⟨g1, g2⟩ := kv_get k h4
      cases hv : atD kvs k with
      | none => simp only [g2 hv, hv]; rfl
      | some d => obtain ⟨v, e1, _⟩ := g1 d hv; simp only [e1, hv]; rfl
theorem c_din (hu : X.A.units + 1 < cLine) (hi : PE X i (tE X.K X.mg W f)) (ho : PE X o (tE X.K X.mg W g)) : PC X .In i o (tE X.K X.mg W (f2 (dinO false) f g)) := by
  have := pc_din hu hi ho
  refine ⟨fun pins s σ H Q I t => this.run pins s σ H Q I ?_⟩
  refine tG_mono (tE_f2 t) fun y H1 z => tG_mono z fun x H2 z => ?_
  obtain ⟨H0, O, s, d, e, z, B, rd, re, hz, k⟩ := z
  obtain ⟨a, o, rfl, g, rfl⟩ := din_at B re rd hz
  exact ⟨a, o, rfl, g, k _ _ _ B (.refl _ _ _) (.bl _)⟩
theorem c_dnotIn (hu : X.A.units + 1 < cLine) (hi : PE X i (tE X.K X.mg W f)) (ho : PE X o (tE X.K X.mg W g)) : PC X .NotIn i o (tE X.K X.mg W (f2 (dinO true) f g)) := by
  have := pc_dnotin hu hi ho
  refine ⟨fun pins s σ H Q I t => this.run pins s σ H Q I ?_⟩
  refine tG_mono (tE_f2 t) fun y H1 z => tG_mono z fun x H2 z => ?_
  obtain ⟨H0, O, s, d, e, z, B, rd, re, hz, k⟩ := z
  obtain ⟨a, o, rfl, g, rfl⟩ := din_at B re rd hz
  exact ⟨a, o, rfl, g, k _ _ _ B (.refl _ _ _) (.bl _)⟩
theorem e_pc {op : CmpOp} {t : TE} (c : PC X op a b t) (hm : behindInMarks op b = false := by first | exact nomark _ | rfl) : PE X (.Compare a [op] [b] pos) t := pe_cmp c hm
theorem b_pc {op : CmpOp} {fo : Sl → M D} (c : PC X op a b (tE X.K X.mg W fo)) (hm : behindInMarks op b = false := by first | exact nomark _ | rfl) : PT X (.Compare a [op] [b] pos) (tT X.K X.mg W (fB fo)) :=
  PT.imp (pt_cmp c hm) fun _ _ _ t => tT_fB t
/-- d[k] = e -/
def putIx (s : Sto) (d e y : D) : Option Sto := match d with
  | .own k => match s[k]? with
    | some (.dic kvs) => (kD e).bind fun q => if small (kvs.length + 1) = true then some (s.set k (.dic (putD kvs q y))) else none
    | _ => none
  | _ => none
theorem putIx_at {K : PySem.W.Frag} {H H0 : Hp} {O : List Addr} {s s' : Sto} {x y v : V} {d e z : D} (B : Base K H H0 O s) (rd : Rp K H0 O x d) (re : Rp K H0 O y e) (rz : Rp K H0 O v z) (h : putIx s d e z = some s') :
    ∃ a ks k, x = .ref a ∧ y = kV k ∧ H a = some (.dK ks) ∧ ks.length < sizeLine ∧ Base K (upd H a (.dK (putK ks k v))) H0 O s' ∧ Ext H H0 O (upd H a (.dK (putK ks k v))) H0 O := by
  unfold putIx at h
  split at h
  · rename_i n
    split at h
    · rename_i kvs hn
      cases hk : kD e with
      | none => rw [hk] at h; cases h
      | some k =>
        rw [hk] at h
        have h' : (if small (kvs.length + 1) = true then some (s.set n (.dic (putD kvs k z))) else none) = some s' := h
        split at h'
        · rename_i hs
          cases h'
          cases rd with
          | own h1 =>
            rename_i a
            obtain ⟨ks, g1, g2, g3⟩ := B.cell _ _ _ h1 hn
            have := kD_ok re hk
            subst this
            obtain ⟨b1, b2⟩ := B.write (o := .dK (putK ks k v)) (c := .dic (putD kvs k z)) h1 g3 ⟨_, upd_same, kv_put k g2 rz, g3⟩
            have hl : ks.length < sizeLine := by
              have := small_ok hs
              have := kv_len g2
              omega
            exact ⟨a, ks, k, rfl, rfl, g1, hl, b1, b2⟩
        · cases h'
    · cases h
  · cases h
def putIxS (f o i : Sl → M D) : SD := fun sl => bindS (f sl) sl fun y => bindS (o sl) sl fun d => bindS (i sl) sl fun e s => match putIx s d e y with | some s' => some (.nx sl s') | none => none
theorem d_putIx {fi fo : Sl → M D} (hu : X.A.units + 1 < cLine) (he : PE X value (tE X.K X.mg W f)) (ho : PE X o (tE X.K X.mg W fo)) (hi : PE X i (tE X.K X.mg W fi))
    (hs : swapsWith value (some (.Subscript o i pos')) pos.line X.env = pure false := by rfl) : PS X (.Assign [.Subscript o i pos'] value pos) (tS X.K X.mg W (putIxS f fo fi)) := by
  refine PS.imp (ps_dput hu ho hi he hs) fun D σ H t => ?_
  refine tG_mono (tS_bind t) fun v H1 z => ?_
  obtain ⟨H0', O', sl', s', y, r', B', S', rx, q', p'⟩ := z
  obtain ⟨r1, e1, p1⟩ := PostS.bind (rp := Rp X.K) S' q' p'
  refine ⟨H0', O', sl', s', r1, B', S', e1, p1.mono fun u H2 z => ?_⟩
  obtain ⟨H02, O2, s2, d, r2, B2, X2, rd, q2, p2⟩ := z
  obtain ⟨r3, e3, p3⟩ := PostS.bind (rp := Rp X.K) (S'.ext X2) q2 p2
  refine ⟨H02, O2, sl', s2, r3, B2, S'.ext X2, e3, p3.mono fun w H3 z => ?_⟩
  obtain ⟨H03, O3, s3, ei, r4, B3, X3, ri, q3, p3⟩ := z
  have q3' : (match putIx s3 d ei y with | some s' => some (RS.nx sl' s') | none => none) = some r4 := q3
  cases hx : putIx s3 d ei y with
  | none => rw [hx] at q3'; cases q3'
  | some s4 =>
    rw [hx] at q3'
    cases q3'
    obtain ⟨a, ks, k, rfl, rfl, g1, hl, b1, b2⟩ := putIx_at B3 (X3.rp rd) ri (X3.rp (X2.rp rx)) hx
    exact ⟨a, _, rfl, .k g1 hl, p3 _ _ _ _ b1 b2 (((S'.ext X2).ext X3).ext b2)⟩
end
end PD

set_option Elab.async false
set_option linter.all false
set_option maxRecDepth 100000
set_option maxHeartbeats 4000000
/-! PD11: more calls: len and list of a dict, sorted, index, all, a sign in a text, chains, displays of dicts. -/
namespace PD
open PySem PySem.Spec PyProof.Rows L2
section
variable {X : Cx} {W : WX} {e a b c o i value : Expr} {es : List Expr} {pos pos' apos cpos p : Pos} {f g h : Sl → M D} {ha : Sl → M (List D)} {x : Str}
/-- len of a dict, too -/
def lenXO (s : Sto) : List D → Option D
  | [d] => match dcOf s d with | some kvs => some (.int kvs.length) | none => lenO s [d]
  | _ => none
theorem o_lenX : CallR X (.builtin "len") (rDn X.K lenXO) := by
  intro pins s σ H xs us Q I r h
  obtain ⟨H0, O, sto, ds, z, B, rd, hz, k⟩ := h
  unfold lenXO at hz
  split at hz
  · rename_i d
    split at hz
    · rename_i kvs hd
      cases hz
      cases rd with
      | cons r1 r2 =>
        cases r2
        obtain ⟨n, a, ks, rfl, rfl, h1, h2, h3, h4, h5⟩ := dcOf_ok B r1 hd
        exact call_lenD pins s σ H _ us Q I r ⟨a, ks, rfl, h3, by rw [kv_len h4]; exact k _ _ _ B (.refl _ _ _) (.int _)⟩
    · exact o_len pins s σ H xs us Q I r ⟨H0, O, sto, _, z, B, rd, hz, k⟩
  · cases hz
/-- list of a dict's keys, too -/
def listXO (s : Sto) : List D → Option D
  | [d] => match dcOf s d with | some kvs => some (.lst (kvs.map fun q => dK q.1)) | none => listO s [d]
  | _ => none
theorem new_lst {K : PySem.W.Frag} {H H0 : Hp} {O : List Addr} {s : Sto} (B : Base K H H0 O s) {q : Addr} (hq : H q = none) {vs : List V} {xs : List D} (r : RpAll K H0 O vs xs) :
    Base K (upd H q (.lst vs)) (upd H0 q (.lst vs)) O s ∧ Ext H H0 O (upd H q (.lst vs)) (upd H0 q (.lst vs)) O ∧ Rp K (upd H0 q (.lst vs)) O (.ref q) (.lst xs) := by
  obtain ⟨b1, b2⟩ := B.new hq (.lst vs)
  exact ⟨b1, b2, .lst upd_same (b2.rps r)⟩
theorem o_listX (hc : X.calm = true) : CallR X (.type "list") (rDn X.K listXO) := by
  intro pins s σ H xs us Q I r h
  obtain ⟨H0, O, sto, ds, z, B, rd, hz, k⟩ := h
  unfold listXO at hz
  split at hz
  · rename_i d
    split at hz
    · rename_i kvs hd
      cases hz
      cases rd with
      | cons r1 r2 =>
        cases r2
        obtain ⟨n, a, ks, rfl, rfl, h1, h2, h3, h4, h5⟩ := dcOf_ok B r1 hd
        refine call_list_dK hc pins s σ H _ us Q I r ⟨a, ks, rfl, h3, fun q hq => ?_⟩
        obtain ⟨b1, b2, b3⟩ := new_lst B hq (kv_keys h4)
        exact k _ _ _ b1 b2 b3
    · exact o_list pins s σ H xs us Q I r ⟨H0, O, sto, _, z, B, rd, hz, k⟩
  · cases hz
/-- sorted, texts -/
def leS (a b : Str) : Bool := !ltCps b.cps.toList a.cps.toList
def sortS (xs : List Str) : List Str := xs.mergeSort leS
def sortedO (s : Sto) : List D → Option D
  | [d] => match (lsOf s d).bind (fun xs => xs.mapM strD) with
    | some ys => if ys.length < 64 then some (.lst ((sortS ys).map D.str)) else none
    | none => none
  | _ => none
theorem leS_iff (a b : Str) : leS a b = true ↔ a.cps.toList ≤ b.cps.toList := by
  unfold leS
  rw [ltCps_eq, Bool.not_eq_true', decide_eq_false_iff_not]
  exact Iff.rfl
theorem leS_trans (a b c : Str) (h1 : leS a b = true) (h2 : leS b c = true) : leS a c = true := by
  rw [leS_iff] at *
  exact List.le_trans h1 h2
theorem leS_total (a b : Str) : (leS a b || leS b a) = true := by
  rw [Bool.or_eq_true, leS_iff, leS_iff]
  exact List.le_total _ _
theorem leS_anti (a b : Str) (h1 : leS a b = true) (h2 : leS b a = true) : a = b := by
  rw [leS_iff] at *
  have := List.le_antisymm h1 h2
  cases a; cases b
  simp at this
  simp [this]
theorem rising_pw : ∀ (xs : List Str) (p : Str), risingS p xs = true → (p :: xs).Pairwise (fun a b => leS a b = true)
  | [], p, _ => by simp
  | x :: r, p, h => by
    have h' : leS p x = true ∧ risingS x r = true := Bool.and_eq_true_iff.mp h
    have ih := rising_pw r x h'.2
    refine List.pairwise_cons.mpr ⟨fun y hy => ?_, ih⟩
    rcases List.mem_cons.mp hy with rfl | hy
    · exact h'.1
    · exact leS_trans _ _ _ h'.1 ((List.pairwise_cons.mp ih).1 y hy)
theorem sortS_uni {xs ys : List Str} (hp : ys.Perm xs) (hs : sortedS ys = true) : ys = sortS xs := by
  have h1 : ys.Pairwise (fun a b => leS a b = true) := by
    cases ys with
    | nil => exact .nil
    | cons y r => exact rising_pw r y hs
  have h2 : (sortS xs).Pairwise (fun a b => leS a b = true) := List.pairwise_mergeSort leS_trans leS_total xs
  exact List.Perm.eq_of_pairwise (fun a b _ _ => leS_anti a b) h1 h2 (hp.trans (List.mergeSort_perm xs leS).symm)
theorem rp_strs {K : PySem.W.Frag} {H0 : Hp} {O : List Addr} : ∀ ys : List Str, RpAll K H0 O (ys.map V.str) (ys.map D.str)
  | [] => .nil
  | y :: ys => .cons (.str y) (rp_strs ys)
theorem o_sorted : CallR X (.builtin "sorted") (rDn X.K sortedO) := by
  intro pins s σ H xs us Q I r h
  obtain ⟨H0, O, sto, ds, z, B, rd, hz, k⟩ := h
  unfold sortedO at hz
  split at hz
  · rename_i d
    split at hz
    · rename_i ys hy
      split at hz
      · rename_i hl
        cases hz
        cases rd with
        | cons r1 r2 =>
          cases r2
          cases hq : lsOf sto d with
          | none => rw [hq] at hy; cases hy
          | some zs =>
            rw [hq] at hy
            obtain ⟨a, vs, rfl, g1, g2⟩ := lsOf_ok B r1 hq
            have ev := mapStr_ok g2 hy
            subst ev
            refine cr_sortedS pins s σ H _ us Q I r ⟨a, ys, rfl, g1, hl, fun ys' q hp hs hq => ?_⟩
            rw [sortS_uni hp hs]
            obtain ⟨b1, b2, b3⟩ := new_lst B hq (rp_strs (sortS ys))
            exact k _ _ _ b1 b2 b3
      · cases hz
    · cases hz
  · cases hz
/-- all of bools -/
def blD : D → Option Bool | .bl b => some b | _ => none
theorem mapBl_ok {K : PySem.W.Frag} {H : Hp} {O : List Addr} : ∀ {xs : List D} {vs : List V} {ys : List Bool}, RpAll K H O vs xs → xs.mapM blD = some ys → vs = ys.map V.bl
  | [], _, _, .nil, h => by cases h; rfl
  | x :: xs, v :: vs, ys, .cons r t, h => by
    rw [List.mapM_cons] at h
    cases e : blD x with
    | none => rw [e] at h; cases h
    | some y =>
      rw [e] at h
      cases e2 : xs.mapM blD with
      | none => rw [e2] at h; cases h
      | some zs =>
        rw [e2] at h
        cases h
        cases x with
        | bl b => cases r; cases e; rw [mapBl_ok t e2]; rfl
        | _ => cases e
def allO (s : Sto) : List D → Option D
  | [d] => ((lsOf s d).bind fun xs => xs.mapM blD).map fun bs => .bl (bs.all id)
  | _ => none
theorem o_all (hc : X.calm = true) : CallR X (.builtin "all") (rDn X.K allO) := by
  intro pins s σ H xs us Q I r h
  obtain ⟨H0, O, sto, ds, z, B, rd, hz, k⟩ := h
  unfold allO at hz
  split at hz
  · rename_i d
    cases rd with
    | cons r1 r2 =>
      cases r2
      cases hq : lsOf sto d with
      | none => rw [hq] at hz; cases hz
      | some zs =>
        rw [hq] at hz
        have hz' : (zs.mapM blD).map (fun bs => D.bl (bs.all id)) = some z := hz
        cases hy : zs.mapM blD with
        | none => rw [hy] at hz'; cases hz'
        | some ys =>
          rw [hy] at hz'
          cases hz'
          obtain ⟨a, vs, rfl, g1, g2⟩ := lsOf_ok B r1 hq
          have ev := mapBl_ok g2 hy
          subst ev
          exact cr_all hc pins s σ H _ us Q I r ⟨a, ys, rfl, g1, k _ _ _ B (.refl _ _ _) (.bl _)⟩
  · cases hz
/-- a sign in a text -/
def insO (neg : Bool) (_ : Sto) (d e : D) : Option D := match d, e with
  | .str x, .str z => match x.cps.toList with
    | [c] => some (.bl (ng neg (decide (c ∈ z.cps.toList))))
    | _ => none
  | _, _ => none
theorem one_sign {x : Str} {c : Nat} (h : x.cps.toList = [c]) : x = ⟨#[c]⟩ := by
  cases x with
  | mk a => cases a with | mk l => simp at h; simp [h]
theorem o_ins : OpR X (compareOp .In) (rD2 X.K (insO false)) := by
  intro pins s σ H x y v u Q I rx ry h
  obtain ⟨H0, O, sto, d, e, z, B, rd, re, hz, k⟩ := h
  unfold insO at hz
  split at hz
  · split at hz
    · rename_i q1 q2 c hc
      cases hz
      cases rd
      cases re
      rw [one_sign hc] at rx
      exact op_in_sign pins s σ H _ _ v u Q I rx ry ⟨c, _, rfl, rfl, k _ _ _ B (.refl _ _ _) (.bl _)⟩
    · cases hz
  · cases hz
theorem o_notIns : OpR X (compareOp .NotIn) (rD2 X.K (insO true)) := by
  intro pins s σ H x y v u Q I rx ry h
  obtain ⟨H0, O, sto, d, e, z, B, rd, re, hz, k⟩ := h
  unfold insO at hz
  split at hz
  · split at hz
    · rename_i q1 q2 c hc
      cases hz
      cases rd
      cases re
      rw [one_sign hc] at rx
      exact op_notIn_sign pins s σ H _ _ v u Q I rx ry ⟨c, _, rfl, rfl, k _ _ _ B (.refl _ _ _) (.bl _)⟩
    · cases hz
  · cases hz
/-- a < b < c -/
def fChain (o o' : Sto → D → D → Option D) (f g h : Sl → M D) : Sl → M D := fun sl => bindM (f sl) fun x => bindM (g sl) fun y => bindM (liftO fun s => (o s x y).bind asB) fun k => if k = true then bindM (h sl) fun z => liftO fun s => o' s y z else retM (.bl false)
/-- the list is told to change no more -/
def fFrz (f : Sl → M D) : Sl → M D := fun sl => bindM (f sl) fun d s => match d with
  | .own k => match s[k]? with | some (.lst xs) => some (.ok (.lst xs) (s.set k .gone)) | _ => none
  | _ => none
theorem e_frz (he : PE X e (tE X.K X.mg W f)) : PE X e (tE X.K X.mg W (fFrz f)) := by
  refine PE.imp he fun σ H Q t => ?_
  refine tG_mono (tG_bind t) fun v H1 z => ?_
  obtain ⟨H0', O', sl', s', d, r', B', S', rd, q', p'⟩ := z
  cases d with
  | own k =>
    have q2 : (match s'[k]? with | some (.lst xs) => some (R.ok (D.lst xs) (s'.set k .gone)) | _ => none) = some r' := q'
    split at q2
    · rename_i xs hk
      cases q2
      cases rd with
      | own h1 =>
        obtain ⟨vs, g1, g2, g3⟩ := B'.cell _ _ _ h1 hk
        obtain ⟨b1, b2⟩ := B'.freeze h1 g3 g1
        exact p' _ _ _ _ b1 b2 (.lst upd_same (b2.rps g2))
    · cases q2
  | _ => cases q'
theorem t_chain {o o' : Sto → D → D → Option D} {σ : L2.St} {H : Hp} {Q : VK} (t : tE X.K X.mg W (fChain o o' f g h) σ H Q) : tChain (rD2 X.K o) (rD2 X.K o') (tE X.K X.mg W f) (tE X.K X.mg W g) (tE X.K X.mg W h) σ H Q := by
  refine tG_mono (tG_bind t) fun x H1 z => ?_
  obtain ⟨H01, O1, sl1, s1, d1, r1, B1, S1, rd1, q1, p1⟩ := z
  obtain ⟨r2, e2, p2⟩ := PostG.bind (rp := Rp X.K) q1 p1
  refine ⟨H01, O1, sl1, s1, r2, B1, S1, e2, p2.mono fun y H2 z => ?_⟩
  obtain ⟨H02, O2, s2, d2, r3, B2, X2, rd2, q2, p3⟩ := z
  cases hk : (o s2 d1 d2).bind asB with
  | none =>
    have q2' : bindM (liftO fun s => (o s d1 d2).bind asB) (fun k => if k = true then bindM (h sl1) fun z => liftO fun s => o' s d2 z else retM (.bl false)) s2 = some r3 := q2
    simp only [bindM, liftO, hk] at q2'
    cases q2'
  | some k =>
    have q2' : bindM (liftO fun s => (o s d1 d2).bind asB) (fun k => if k = true then bindM (h sl1) fun z => liftO fun s => o' s d2 z else retM (.bl false)) s2 = some r3 := q2
    simp only [bindM, liftO, hk] at q2'
    cases ho : o s2 d1 d2 with
    | none => rw [ho] at hk; cases hk
    | some zb =>
      rw [ho] at hk
      cases zb with
      | bl kb =>
        cases hk
        refine ⟨H02, O2, s2, d1, d2, .bl k, B2, X2.rp rd1, rd2, ho, fun v H3 H03 B3 X3 rv => ?_⟩
        cases rv
        refine ⟨k, rfl, ?_⟩
        cases k with
        | false =>
          simp only [Bool.false_eq_true, if_false] at q2' ⊢
          cases q2'
          exact p3 _ _ _ _ B3 X3 (.bl false)
        | true =>
          simp only [if_true] at q2' ⊢
          have q3 : bindM (h sl1) (fun z => liftO fun s => o' s d2 z) s2 = some r3 := q2'
          obtain ⟨r4, e4, p4⟩ := PostG.bind (rp := Rp X.K) (rp' := Rp X.K) q3 (p3.ext X3)
          refine ⟨H03, O2, sl1, s2, r4, B3, (S1.ext X2).ext X3, e4, p4.mono fun w H4 z => ?_⟩
          obtain ⟨H04, O4, s4, d4, r5, B4, X4, rd4, q4, p5⟩ := z
          obtain ⟨y5, hy5, rfl⟩ := PostG.one (Q := Q) q4
          exact ⟨H04, O4, s4, d2, d4, y5, B4, X4.rp (X3.rp rd2), rd4, hy5, fun v H' H0'' b x r => p5 v H' H0'' O4 b x r⟩
      | _ => cases hk
theorem e_chain {op op' : CmpOp} {o o' : Sto → D → D → Option D} (ho : OpR X (compareOp op) (rD2 X.K o)) (ho' : OpR X (compareOp op') (rD2 X.K o')) (h1 : PE X a (tE X.K X.mg W f)) (h2 : PE X b (tE X.K X.mg W g)) (h3 : PE X c (tE X.K X.mg W h))
    (hm : lastMarks [op, op'] [b, c] = false := by with_unfolding_all rfl) : PE X (.Compare a [op, op'] [b, c] pos) (tE X.K X.mg W (fChain o o' f g h)) :=
  PE.imp (pe_chain ho ho' h1 h2 h3 hm) fun _ _ _ t => t_chain t
theorem b_chain {op op' : CmpOp} {o o' : Sto → D → D → Option D} (ho : OpR X (compareOp op) (rD2 X.K o)) (ho' : OpR X (compareOp op') (rD2 X.K o')) (h1 : PE X a (tE X.K X.mg W f)) (h2 : PE X b (tE X.K X.mg W g)) (h3 : PE X c (tE X.K X.mg W h))
    (hm : lastMarks [op, op'] [b, c] = false := by with_unfolding_all rfl) : PT X (.Compare a [op, op'] [b, c] pos) (tT X.K X.mg W (fB (fChain o o' f g h))) :=
  PT.imp (pt_chain ho ho' h1 h2 h3 hm) fun _ _ _ t => t_chain (tT_fB t)
end
end PD

set_option Elab.async false
set_option linter.all false
set_option maxRecDepth 100000
set_option maxHeartbeats 4000000
/-! PD12: list.index; dict.get, dict.setdefault; displays of dicts; dict(..). -/
namespace PD
open PySem PySem.Spec PyProof.Rows L2
section
variable {X : Cx} {W : WX} {e a b c o i value : Expr} {es : List Expr} {pos pos' apos cpos p : Pos} {f g h : Sl → M D} {ha : Sl → M (List D)} {x : Str}
/-! ### a pure method with arguments -/
def fMP (T : Sto → D → Bool) (o : Sto → D → List D → Option D) (f : Sl → M D) (h : Sl → M (List D)) : Sl → M D := fun sl => bindM (f sl) fun x => bindM (liftO fun s => if T s x = true then some D.non else none) fun _ => bindM (h sl) fun xs => liftO fun s => o s x xs
def isLs (s : Sto) (d : D) : Bool := (lsOf s d).isSome
def isDc (s : Sto) (d : D) : Bool := (dcOf s d).isSome
theorem tyV_ls {K : PySem.W.Frag} {H H0 : Hp} {O : List Addr} {sto : Sto} {d : D} {v : V} (B : Base K H H0 O sto) (r : Rp K H0 O v d) (h : isLs sto d = true) : tyV K "list" v H := by
  unfold isLs at h
  cases hq : lsOf sto d with
  | none => rw [hq] at h; cases h
  | some xs =>
    obtain ⟨a, vs, rfl, g1, g2⟩ := lsOf_ok B r hq
    exact .inl ⟨rfl, vs, g1⟩
def rDM (K : PySem.W.Frag) (o : Sto → D → List D → Option D) : V → List V → Hp → VK → Prop := fun x xs H Q => ∃ H0 O sto d ds z, Base K H H0 O sto ∧ Rp K H0 O x d ∧ RpAll K H0 O xs ds ∧ o sto d ds = some z ∧ ∀ v H' H0', Base K H' H0' O sto → Ext H H0 O H' H0' O → Rp K H0' O v z → Q v H'
theorem tE_fMP {T : Sto → D → Bool} {o : Sto → D → List D → Option D} {Ty : V → Hp → Prop} (ty : ∀ {H H0 : Hp} {O : List Addr} {sto : Sto} {d : D} {v : V}, Base X.K H H0 O sto → Rp X.K H0 O v d → T sto d = true → Ty v H)
    {σ : L2.St} {H : Hp} {Q : VK} (t : tE X.K X.mg W (fMP T o f ha) σ H Q) : tE X.K X.mg W f σ H fun x H1 => Ty x H1 ∧ tA X.K X.mg W ha σ H1 fun xs H2 => rDM X.K o x xs H2 Q := by
  refine tG_mono (tG_bind t) fun v H1 z => ?_
  obtain ⟨H0', O', sl', s', x, r', B', S', rx, q', p'⟩ := z
  obtain ⟨r2, e2, p2⟩ := PostG.bind (rp := Rp X.K) q' p'
  obtain ⟨y, hy, rfl⟩ := PostG.one (β := V) (Q := fun _ _ => True) e2
  have hT : T s' x = true := by
    have hy' : (if T s' x = true then some D.non else none) = some y := hy
    split at hy'
    · assumption
    · cases hy'
  refine ⟨ty B' rx hT, ?_⟩
  obtain ⟨H02, O2, s2, xs, r3, B2, X2, _, q3, p3⟩ := p2 .non _ _ _ B' (.refl _ _ _) (by
    have hy' : (if T s' x = true then some D.non else none) = some y := hy
    rw [if_pos hT] at hy'
    cases hy'
    exact .non)
  obtain ⟨r4, e4, p4⟩ := PostG.bind (rp := RpAll X.K) q3 p3
  refine ⟨H02, O2, sl', s2, r4, B2, S'.ext X2, e4, p4.mono fun us H3 z => ?_⟩
  obtain ⟨H03, O3, s3, ds, r5, B3, X3, rs, q5, p5⟩ := z
  obtain ⟨y5, hy5, rfl⟩ := PostG.one (Q := Q) q5
  exact ⟨H03, O3, s3, x, ds, y5, B3, X3.rp (X2.rp rx), rs, hy5, fun v H' H0'' b x r => p5 v H' H0'' O3 b x r⟩
/-! ### xs.index(y) -/
def firstEq (z : PyData) : List PyData → Option Nat
  | [] => none
  | d :: ds => if PyData.eqv d z = true then some 0 else (firstEq z ds).map (· + 1)
theorem firstEq_ok {z : PyData} : ∀ {ds : List PyData} {j : Nat}, firstEq z ds = some j → (∃ d, ds[j]? = some d ∧ PyData.eqv d z = true) ∧ ∀ (m : Nat) (d : PyData), m < j → ds[m]? = some d → PyData.eqv d z = false
  | [], j, h => by cases h
  | d :: ds, j, h => by
    unfold firstEq at h
    split at h
    · rename_i e
      cases h
      exact ⟨⟨d, rfl, e⟩, fun m d' hm => absurd hm (Nat.not_lt_zero _)⟩
    · rename_i e
      cases hj : firstEq z ds with
      | none => rw [hj] at h; cases h
      | some k =>
        rw [hj] at h
        cases h
        obtain ⟨⟨d', h1, h2⟩, h3⟩ := firstEq_ok hj
        refine ⟨⟨d', h1, h2⟩, fun m d'' hm hd => ?_⟩
        cases m with
        | zero =>
          have hd' : d = d'' := Option.some.inj hd
          subst hd'
          exact Bool.eq_false_iff.mpr e
        | succ m => exact h3 m d'' (Nat.lt_of_succ_lt_succ hm) hd
def indexO (s : Sto) (d : D) : List D → Option D
  | [e] => match plainPy s d, plainPy s e with
    | some (.list ds), some z => (firstEq z ds).map fun j => .int (j : Nat)
    | _, _ => none
  | _ => none
theorem m_index (hu : X.A.units + 65 < cLine) : MtR X "list.index" (rDM X.K indexO) := by
  intro pins s σ H x xs v us Q I rx rxs h
  obtain ⟨H0, O, sto, d, ds, z, B, rd, rs, hz, k⟩ := h
  unfold indexO at hz
  split at hz
  · rename_i e'
    cases rs with
    | cons r1 r2 =>
      cases r2
      split at hz
      · rename_i ys z' hp hq
        cases hj : firstEq z' ys with
        | none => rw [hj] at hz; cases hz
        | some j =>
          rw [hj] at hz
          cases hz
          obtain ⟨a1, a2⟩ := plainPy_ok B rd hp
          obtain ⟨b1, b2⟩ := plainPy_ok B r1 hq
          obtain ⟨⟨dj, h1, h2⟩, h3⟩ := firstEq_ok hj
          cases x with
          | ref a => exact mt_indexD hu pins s σ H _ _ v us Q I rx rxs ⟨a, _, z', ys, j, dj, rfl, rfl, a1, b1, a2, b2, h1, h2, h3, k _ _ _ B (.refl _ _ _) (.int _)⟩
          | _ => cases a1
      · cases hz
  · cases hz
theorem e_index (hu : X.A.units + 65 < cLine) (ho : PE X o (tE X.K X.mg W f)) (hA : PA X (e :: es) (tA X.K X.mg W ha))
    (hbase : attributeBase o "index" X.env (eval o X.env) = eval o X.env := by rfl)
    (hfew : ((backTo cpos (starEach (e :: es) X.env)).all (fun x => !x.1) && (backToKw cpos (keywordEach [] X.env)).all (fun x => x.1.isSome)
      && decide ((e :: es).length + ([] : List Keyword).length + (if ([] : List Keyword).isEmpty then 0 else 1) < 30)) = true := by rfl) (hline : (apos.endLine == cpos.line) = true := by rfl)
    (hs : starEach (e :: es) X.env = (false, eval e X.env) :: starEach es X.env := by rfl) (hplain : (backTo cpos (starEach es X.env)).any (·.1) = false := by rfl) :
    PE X (.Call (.Attribute o "index" apos) (e :: es) [] cpos) (tE X.K X.mg W (fMP isLs indexO f ha)) :=
  PE.imp (pe_bm PySem.F.plainAttrs_list PySem.F.slot_list_index PySem.F.type_list_index (m_index hu) ho hA hbase hfew (hline := hline) (hs := hs) (hplain := hplain)) fun σ H Q t => tE_fMP (Ty := tyV X.K "list") tyV_ls t
/-! ### d.get(k, z), d.setdefault(k, z) -/
def fD2 (o : Sto → D → D → D → Option (D × Sto)) (f g h : Sl → M D) : Sl → M D := fun sl => bindM (f sl) fun x => bindM (liftO fun s => if isDc s x = true then some D.non else none) fun _ => bindM (g sl) fun y => bindM (h sl) fun z s => match o s x y z with | some (d, s') => some (.ok d s') | none => none
def getO (s : Sto) (d e z : D) : Option (D × Sto) := (dcOf s d).bind fun kvs => (kD e).map fun k => ((atD kvs k).getD z, s)
def setdO (s : Sto) (d e z : D) : Option (D × Sto) := match d with
  | .own n => match s[n]? with
    | some (.dic kvs) => match kD e with
      | some k => match atD kvs k with
        | some v => if small (kvs.length + 1) = true then some (v, s) else none
        | none => if small (kvs.length + 1) = true then some (z, s.set n (.dic (putD kvs k z))) else none
      | none => none
    | _ => none
  | _ => none
theorem isD_of {K : PySem.W.Frag} {H H0 : Hp} {O : List Addr} {sto : Sto} {d : D} {v : V} (B : Base K H H0 O sto) (r : Rp K H0 O v d) (h : isDc sto d = true) : ∃ a, v = .ref a ∧ IsD H a := by
  unfold isDc at h
  cases hq : dcOf sto d with
  | none => rw [hq] at h; cases h
  | some xs =>
    obtain ⟨n, a, ks, rfl, rfl, h1, h2, h3, h4, h5⟩ := dcOf_ok B r hq
    exact ⟨a, rfl, .inl ⟨ks, .inl h3⟩⟩
/-- what stands behind the three values -/
def rD3 (K : PySem.W.Frag) (o : Sto → D → D → D → Option (D × Sto)) : V → V → V → Hp → VK → Prop := fun x y z H Q => ∃ H0 O s d e w d' s', Base K H H0 O s ∧ Rp K H0 O x d ∧ Rp K H0 O y e ∧ Rp K H0 O z w ∧ o s d e w = some (d', s') ∧ ∀ v H' H0' O', Base K H' H0' O' s' → Ext H H0 O H' H0' O' → Rp K H0' O' v d' → Q v H'
theorem tE_fD2 {oo : Sto → D → D → D → Option (D × Sto)} {σ : L2.St} {H : Hp} {Q : VK} (t : tE X.K X.mg W (fD2 oo f g h) σ H Q) :
    tE X.K X.mg W f σ H fun x H1 => ∃ a, x = .ref a ∧ IsD H1 a ∧ tE X.K X.mg W g σ H1 fun y H2 => tE X.K X.mg W h σ H2 fun z H3 => rD3 X.K oo x y z H3 Q := by
  refine tG_mono (tG_bind t) fun v H1 z => ?_
  obtain ⟨H0', O', sl', s', x, r', B', S', rx, q', p'⟩ := z
  obtain ⟨r2, e2, p2⟩ := PostG.bind (rp := Rp X.K) q' p'
  obtain ⟨y, hy, rfl⟩ := PostG.one (β := V) (Q := fun _ _ => True) e2
  have hy' : (if isDc s' x = true then some D.non else none) = some y := hy
  have hT : isDc s' x = true := by
    split at hy'
    · assumption
    · cases hy'
  rw [if_pos hT] at hy'
  cases hy'
  obtain ⟨a, rfl, hd⟩ := isD_of B' rx hT
  refine ⟨a, rfl, hd, ?_⟩
  obtain ⟨H02, O2, s2, xs, r3, B2, X2, _, q3, p3⟩ := p2 .non _ _ _ B' (.refl _ _ _) .non
  obtain ⟨r4, e4, p4⟩ := PostG.bind (rp := Rp X.K) q3 p3
  refine ⟨H02, O2, sl', s2, r4, B2, S'.ext X2, e4, p4.mono fun us H3 z => ?_⟩
  obtain ⟨H03, O3, s3, ds, r5, B3, X3, rs, q5, p5⟩ := z
  obtain ⟨r6, e6, p6⟩ := PostG.bind (rp := Rp X.K) q5 p5
  refine ⟨H03, O3, sl', s3, r6, B3, (S'.ext X2).ext X3, e6, p6.mono fun ws H4 z => ?_⟩
  obtain ⟨H04, O4, s4, dz, r7, B4, X4, rz, q7, p7⟩ := z
  have q8 : (match oo s4 x ds dz with | some (d, s') => some (R.ok d s') | none => none) = some r7 := q7
  cases ho : oo s4 x ds dz with
  | none => rw [ho] at q8; cases q8
  | some pr =>
    obtain ⟨d', s5⟩ := pr
    rw [ho] at q8
    cases q8
    exact ⟨H04, O4, s4, x, ds, dz, d', s5, B4, X4.rp (X3.rp (X2.rp rx)), X4.rp rs, rz, ho, p7⟩
theorem e_get2 (hu : X.A.units + 1 < cLine) (ho : PE X o (tE X.K X.mg W f)) (h1 : PE X a (tE X.K X.mg W g)) (h2 : PE X b (tE X.K X.mg W h)) (m : M2 X o "get" apos a b cpos := by exact ⟨rfl, rfl, rfl, rfl⟩) :
    PE X (.Call (.Attribute o "get" apos) [a, b] [] cpos) (tE X.K X.mg W (fD2 getO f g h)) := by
  refine PE.imp (pe_dget2 hu ho h1 h2 m) fun σ H Q t => ?_
  refine tG_mono (tE_fD2 t) fun x H1 z => ?_
  obtain ⟨a, rfl, d, z⟩ := z
  refine ⟨a, rfl, d, tG_mono z fun y H2 z => tG_mono z fun w H3 z => ?_⟩
  obtain ⟨H0, O, s, d, e, w, d', s', B, rd, re, rw', ho, k⟩ := z
  unfold getO at ho
  cases hd : dcOf s d with
  | none => rw [hd] at ho; cases ho
  | some kvs =>
    rw [hd] at ho
    cases hk : kD e with
    | none => rw [hk] at ho; cases ho
    | some q =>
      rw [hk] at ho
      cases ho
      obtain ⟨n, a, ks, rfl, ea, h1, h2, h3, h4, h5⟩ := dcOf_ok B rd hd
      cases ea
      have := kD_ok re hk
      subst this
      refine ⟨valV ks q, .k h3, ?_⟩
      obtain ⟨g1, g2⟩ := kv_get q h4
      cases hv : atD kvs q with
      | none =>
        rw [g2 hv]
        rw [hv] at k
        exact k _ _ _ _ B (.refl _ _ _) rw'
      | some dv =>
        obtain ⟨v, e1, e2⟩ := g1 dv hv
        rw [e1]
        rw [hv] at k
        exact k _ _ _ _ B (.refl _ _ _) e2
theorem e_setd (ho : PE X o (tE X.K X.mg W f)) (h1 : PE X a (tE X.K X.mg W g)) (h2 : PE X b (tE X.K X.mg W h)) (m : M2 X o "setdefault" apos a b cpos := by exact ⟨rfl, rfl, rfl, rfl⟩) :
    PE X (.Call (.Attribute o "setdefault" apos) [a, b] [] cpos) (tE X.K X.mg W (fD2 setdO f g h)) := by
  refine PE.imp (pe_dsetd ho h1 h2 m) fun σ H Q t => ?_
  refine tG_mono (tE_fD2 t) fun x H1 z => ?_
  obtain ⟨a, rfl, d, z⟩ := z
  refine ⟨a, rfl, d, tG_mono z fun y H2 z => tG_mono z fun w H3 z => ?_⟩
  obtain ⟨H0, O, s, d, e, w, d', s', B, rd, re, rw', ho, k⟩ := z
  unfold setdO at ho
  split at ho
  · rename_i n
    split at ho
    · rename_i kvs hn
      split at ho
      · rename_i q hk
        cases rd with
        | own hO =>
          obtain ⟨ks, g1, g2, g3⟩ := B.cell _ _ _ hO hn
          have := kD_ok re hk
          subst this
          obtain ⟨p1, p2⟩ := kv_get q g2
          split at ho
          · rename_i v hv
            split at ho
            · rename_i hs
              cases ho
              obtain ⟨v', e1, e2⟩ := p1 _ hv
              have hl : ks.length < sizeLine := by
                have := small_ok hs
                have := kv_len g2
                omega
              refine ⟨ks, q, g1, rfl, hl, fun u hu => ?_, fun hu => ?_⟩
              · rw [e1] at hu
                cases hu
                exact k _ _ _ _ B (.refl _ _ _) e2
              · rw [e1] at hu; cases hu
            · cases ho
          · rename_i hv
            split at ho
            · rename_i hs
              cases ho
              have hl : ks.length < sizeLine := by
                have := small_ok hs
                have := kv_len g2
                omega
              have en := p2 hv
              refine ⟨ks, q, g1, rfl, hl, fun u hu => ?_, fun hu => ?_⟩
              · rw [en] at hu; cases hu
              · obtain ⟨b1, b2⟩ := B.write (o := .dK (putK ks q _)) (c := .dic (putD kvs q _)) hO g3 ⟨_, upd_same, kv_put q g2 rw', g3⟩
                exact k _ _ _ _ b1 b2 (b2.rp rw')
            · cases ho
      · cases ho
    · cases ho
  · cases ho
/-! ### dict(d), dict(pairs): a new one -/
def fNM (o : Sto → List D → Option (D × Sto)) (h : Sl → M (List D)) : Sl → M D := fun sl => bindM (h sl) fun xs s => match o s xs with | some (d, s') => some (.ok d s') | none => none
def rDN (K : PySem.W.Frag) (o : Sto → List D → Option (D × Sto)) : List V → Hp → VK → Prop := fun xs H Q => ∃ H0 O s ds d' s', Base K H H0 O s ∧ RpAll K H0 O xs ds ∧ o s ds = some (d', s') ∧ ∀ v H' H0' O', Base K H' H0' O' s' → Ext H H0 O H' H0' O' → Rp K H0' O' v d' → Q v H'
theorem tE_fNM {oo : Sto → List D → Option (D × Sto)} {σ : L2.St} {H : Hp} {Q : VK} (t : tE X.K X.mg W (fNM oo ha) σ H Q) : tA X.K X.mg W ha σ H fun xs H1 => rDN X.K oo xs H1 Q := by
  refine tG_mono (tG_bind t) fun v H1 z => ?_
  obtain ⟨H0', O', sl', s', x, r', B', S', rx, q', p'⟩ := z
  have q8 : (match oo s' x with | some (d, s') => some (R.ok d s') | none => none) = some r' := q'
  cases ho : oo s' x with
  | none => rw [ho] at q8; cases q8
  | some pr =>
    obtain ⟨d', s5⟩ := pr
    rw [ho] at q8
    cases q8
    exact ⟨H0', O', s', x, d', s5, B', rx, ho, p'⟩
def prD : D → Option (Key × D) | .tup [k, d] => (kD k).map fun q => (q, d) | .par [k, d] => (kD k).map fun q => (q, d) | _ => none
def mergeD (kvs more : List (Key × D)) : List (Key × D) := more.foldl (fun acc q => putD acc q.1 q.2) kvs
theorem kv_merge {K : PySem.W.Frag} {H0 : Hp} {O : List Addr} : ∀ {more : List (Key × V)} {more' : List (Key × D)} {ks : List (Key × V)} {kvs : List (Key × D)}, KvR K H0 O more more' → KvR K H0 O ks kvs → KvR K H0 O (mergeK ks more) (mergeD kvs more')
  | [], _, _, _, .nil, r => r
  | p :: more, q :: more', ks, kvs, .cons h t, r => by
    have := kv_put p.1 r h.2
    have e : KvR K H0 O (putK ks p.1 p.2) (putD kvs q.1 q.2) := by
      have h1 : p.1 = q.1 := h.1
      rw [← h1]
      exact this
    show KvR K H0 O (mergeK (putK ks p.1 p.2) more) (mergeD (putD kvs q.1 q.2) more')
    exact kv_merge t e
theorem pairs_at {K : PySem.W.Frag} {H H0 : Hp} {O : List Addr} (sub : Same H0 H) : ∀ {xs : List D} {vs : List V} {kvs : List (Key × D)}, RpAll K H0 O vs xs → xs.mapM prD = some kvs →
    ∃ (ps : List Addr) (ks : List (Key × V)), vs = ps.map V.ref ∧ Paired (fun p kv => SqT K H p [kV kv.1, kv.2]) ps ks ∧ KvR K H0 O ks kvs
  | [], _, _, .nil, h => by cases h; exact ⟨[], [], rfl, .nil, .nil⟩
  | x :: xs, v :: vs, kvs, .cons r t, h => by
    rw [List.mapM_cons] at h
    cases e : prD x with
    | none => rw [e] at h; cases h
    | some y =>
      rw [e] at h
      cases e2 : xs.mapM prD with
      | none => rw [e2] at h; cases h
      | some zs =>
        rw [e2] at h
        cases h
        obtain ⟨ps, ks, rfl, h1, h2⟩ := pairs_at sub t e2
        unfold prD at e
        split at e
        · rename_i k d
          cases hk : kD k with
          | none => rw [hk] at e; cases e
          | some q =>
            rw [hk] at e
            cases e
            cases r with
            | tup q1 q2 =>
              cases q2 with
              | cons r1 r2 =>
                cases r2 with
                | cons r3 r4 =>
                  cases r4
                  have := kD_ok r1 hk
                  subst this
                  exact ⟨_ :: ps, (q, _) :: ks, rfl, .cons (sameNT sub q1) h1, .cons ⟨rfl, r3⟩ h2⟩
        · rename_i k d
          cases hk : kD k with
          | none => rw [hk] at e; cases e
          | some q =>
            rw [hk] at e
            cases e
            cases r with
            | par q1 q2 =>
              cases q2 with
              | cons r1 r2 =>
                cases r2 with
                | cons r3 r4 =>
                  cases r4
                  have := kD_ok r1 hk
                  subst this
                  exact ⟨_ :: ps, (q, _) :: ks, rfl, .cons (sameT sub q1) h1, .cons ⟨rfl, r3⟩ h2⟩
        · cases e
def prsOf (s : Sto) : D → Option (List D) | .tup xs => some xs | d => lsOf s d
def dictO (s : Sto) : List D → Option (D × Sto)
  | [d] => match dcOf s d with
    | some kvs => some (.own s.length, s ++ [.dic kvs])
    | none => match (prsOf s d).bind fun xs => xs.mapM prD with
      | some kvs => some (.own s.length, s ++ [.dic (mergeD [] kvs)])
      | none => none
  | _ => none
theorem o_dict (hc : X.calm = true) : CallR X (.type "dict") (rDN X.K dictO) := by
  intro pins s σ H xs us Q I r h
  obtain ⟨H0, O, sto, ds, d', s', B, rd, hz, k⟩ := h
  unfold dictO at hz
  split at hz
  · rename_i d
    cases rd with
    | cons r1 r2 =>
      cases r2
      split at hz
      · rename_i kvs hd
        cases hz
        obtain ⟨n, a, ks, rfl, rfl, h1, h2, h3, h4, h5⟩ := dcOf_ok B r1 hd
        refine call_dictD pins s σ H _ us Q I r ⟨a, ks, rfl, .inl h3, fun q hq => ?_⟩
        obtain ⟨b1, b2, b3⟩ := own_newD B hq h4
        exact k _ _ _ _ b1 b2 b3
      · split at hz
        · rename_i kvs hk
          cases hz
          by_cases ht : ∃ xs, d = .tup xs
          · obtain ⟨xs, rfl⟩ := ht
            cases r1 with
            | tup g1 g2 =>
              obtain ⟨ps, ks, rfl, h1, h2⟩ := pairs_at B.sub g2 hk
              refine call_dictT hc pins s σ H _ us Q I r ⟨_, ps, ks, rfl, sameN B.sub g1, h1, fun q hq => ?_⟩
              obtain ⟨b1, b2, b3⟩ := own_newD B hq (kv_merge h2 .nil)
              exact k _ _ _ _ b1 b2 b3
          have hpl : prsOf sto d = lsOf sto d := by
            cases d <;> first | rfl | exact absurd ⟨_, rfl⟩ ht
          rw [hpl] at hk
          cases hq : lsOf sto d with
          | none => rw [hq] at hk; cases hk
          | some zs =>
            rw [hq] at hk
            obtain ⟨a, vs, rfl, g1, g2⟩ := lsOf_ok B r1 hq
            obtain ⟨ps, ks, rfl, h1, h2⟩ := pairs_at B.sub g2 hk
            refine call_dictP hc pins s σ H _ us Q I r ⟨a, ps, ks, rfl, g1, h1, fun q hq => ?_⟩
            obtain ⟨b1, b2, b3⟩ := own_newD B hq (kv_merge h2 .nil)
            exact k _ _ _ _ b1 b2 b3
        · cases hz
  · cases hz
theorem e_dict (hc : X.calm = true) (hg : Gl X "dict") (hm : X.mg "dict" = none) (hA : PA X (e :: es) (tA X.K X.mg W ha))
    (he : starEach (e :: es) X.env = (false, eval e X.env) :: starEach es X.env := by rfl) (hpl : (backTo pos (starEach es X.env)).any (·.1) = false := by rfl) : PE X (.Call (.Name "dict" p) (e :: es) [] pos) (tE X.K X.mg W (fNM dictO ha)) :=
  PE.imp (pe_callTy (o_dict hc) hg hm (by decide +kernel) hA (by decide) (by decide) he hpl) fun _ _ _ t => tE_fNM t
end
end PD

set_option Elab.async false
set_option linter.all false
set_option maxRecDepth 100000
set_option maxHeartbeats 4000000
/-! PD13: displays of dicts with pairs. -/
namespace PD
open PySem PySem.Spec PyProof.Rows L2
theorem u1 {k : Nat} {A : Around} (r : Room k A) : A.units + 1 < cLine := by have := r.un; omega
abbrev Prs := List ((Sl → M D) × (Sl → M D))
def fPairs : Prs → Sl → M (List (D × D))
  | [], _ => retM []
  | (k, v) :: r, sl => bindM (k sl) fun x => bindM (v sl) fun y => bindM (fPairs r sl) fun ps => retM ((x, y) :: ps)
def keyed : List (D × D) → Option (List (Key × D))
  | [] => some []
  | (x, y) :: r => (kD x).bind fun k => (keyed r).map fun q => (k, y) :: q
def fDisp (fs : Prs) : Sl → M D := fun sl s => match fPairs fs sl (s ++ [.dic []]) with
  | some (.ok ps s') => match s'[s.length]? with
    | some (.dic []) => match keyed ps with
      | some kvs => if kvs.length ≤ 15 then some (.ok (.own s.length) (s'.set s.length (.dic (mergeD [] kvs)))) else none
      | none => none
    | _ => none
  | _ => none
section
variable {X : Cx} {W : WX} {pos : Pos}
structure PPd (X : Cx) (W : WX) (pos : Pos) (keys : List (Option Expr)) (values : List Expr) (fs : Prs) : Prop where
  pp : PPs X pos keys values (fs.map fun f => (tE X.K X.mg W f.1, tE X.K X.mg W f.2))
  all : keys.all (·.isSome) = true
  len : keys.length = values.length
  n : keys.length = fs.length
theorem pp_nil : PPd X W pos [] [] [] := ⟨pps_nil, rfl, rfl, rfl⟩
theorem pp_cons {k v : Expr} {f g : Sl → M D} {ks : List (Option Expr)} {vs : List Expr} {fs : Prs} (hk : PE X k (tE X.K X.mg W f)) (hv : PE X v (tE X.K X.mg W g)) (r : PPd X W pos ks vs fs) : PPd X W pos (some k :: ks) (v :: vs) ((f, g) :: fs) :=
  ⟨pps_cons hk hv r.pp, by rw [List.all_cons, r.all]; rfl, by rw [List.length_cons, List.length_cons, r.len], by rw [List.length_cons, List.length_cons, r.n]⟩
def RpPs (K : PySem.W.Frag) (H0 : Hp) (O : List Addr) : List (V × V) → List (D × D) → Prop := Paired fun p q => Rp K H0 O p.1 q.1 ∧ Rp K H0 O p.2 q.2
theorem rpPs_ext {K : PySem.W.Frag} {H H0 H' H0' : Hp} {O O' : List Addr} {ps : List (V × V)} {qs : List (D × D)} (e : Ext H H0 O H' H0' O') (r : RpPs K H0 O ps qs) : RpPs K H0' O' ps qs := by
  unfold RpPs at *
  induction r with
  | nil => exact .nil
  | cons h _ ih => exact .cons ⟨e.rp h.1, e.rp h.2⟩ ih
theorem tPairs_of {σ : L2.St} : ∀ (fs : Prs) {H : Hp} {Q : List (V × V) → Hp → Prop}, tG X.K X.mg W (fun H0 O ps qs => RpPs X.K H0 O ps qs) (fPairs fs) σ H Q → tPairs (fs.map fun f => (tE X.K X.mg W f.1, tE X.K X.mg W f.2)) σ H Q
  | [], H, Q, t => by
    obtain ⟨H0, O, sl, s, r, B, S, e, q⟩ := tG_of t
    have e' : some (R.ok ([] : List (D × D)) s) = some r := e
    cases e'
    exact q _ _ _ _ B (.refl _ _ _) .nil
  | (f, g) :: fs, H, Q, t => by
    show tE X.K X.mg W f σ H fun x H1 => tE X.K X.mg W g σ H1 fun y H2 => tPairs (fs.map fun f => (tE X.K X.mg W f.1, tE X.K X.mg W f.2)) σ H2 fun ps H3 => Q ((x, y) :: ps) H3
    refine tG_mono (tG_bind (k := fun sl x => bindM (g sl) fun y => bindM (fPairs fs sl) fun ps => retM ((x, y) :: ps)) t) fun x H1 z => ?_
    obtain ⟨H01, O1, sl1, s1, d1, r1, B1, S1, rd1, q1, p1⟩ := z
    obtain ⟨r2, e2, p2⟩ := PostG.bind (rp := Rp X.K) q1 p1
    refine ⟨H01, O1, sl1, s1, r2, B1, S1, e2, p2.mono fun y H2 z => ?_⟩
    obtain ⟨H02, O2, s2, d2, r3, B2, X2, rd2, q2, p3⟩ := z
    obtain ⟨r4, e4, p4⟩ := PostG.bind (rp := fun H0 O ps qs => RpPs X.K H0 O ps qs) q2 p3
    refine tPairs_of fs ⟨H02, O2, sl1, s2, r4, B2, S1.ext X2, e4, p4.mono fun ps H3 z => ?_⟩
    obtain ⟨H03, O3, s3, qs, r5, B3, X3, rq, q5, p5⟩ := z
    have q6 : some (R.ok ((d1, d2) :: qs) s3) = some r5 := q5
    cases q6
    exact p5 _ _ _ _ B3 (.refl _ _ _) (.cons ⟨X3.rp (X2.rp rd1), X3.rp rd2⟩ rq)
theorem keyed_ok {K : PySem.W.Frag} {H0 : Hp} {O : List Addr} : ∀ {ps : List (V × V)} {qs : List (D × D)} {kvs : List (Key × D)}, RpPs K H0 O ps qs → keyed qs = some kvs → ∃ ks : List (Key × V), ps = ks.map (fun kv => (kV kv.1, kv.2)) ∧ KvR K H0 O ks kvs
  | [], _, kvs, .nil, h => by cases h; exact ⟨[], rfl, .nil⟩
  | p :: ps, q :: qs, kvs, .cons r t, h => by
    obtain ⟨x, y⟩ := q
    unfold keyed at h
    cases hk : kD x with
    | none => rw [hk] at h; cases h
    | some k =>
      rw [hk] at h
      have h' : (keyed qs).map (fun q => (k, y) :: q) = some kvs := h
      cases hq : keyed qs with
      | none => rw [hq] at h'; cases h'
      | some zs =>
        rw [hq] at h'
        cases h'
        obtain ⟨ks, rfl, h2⟩ := keyed_ok t hq
        have := kD_ok r.1 hk
        refine ⟨(k, p.2) :: ks, ?_, .cons ⟨rfl, r.2⟩ h2⟩
        rw [List.map_cons, ← this]
theorem e_disp {keys : List (Option Expr)} {values : List Expr} {fs : Prs} (h : PPd X W pos keys values fs) (h0 : keys ≠ [] := by exact fun z => nomatch z) (h15 : keys.length ≤ 15 := by decide) : PE X (.Dict keys values pos) (tE X.K X.mg W (fDisp fs)) := by
  refine PE.imp (pe_disp h.pp h.all h.len h0 h15) fun σ H Q t p hp => ?_
  obtain ⟨H0, O, sl, s, r, B, S, e, q⟩ := tG_of t
  obtain ⟨b1, b2, b3⟩ := own_newD B hp (ks := []) (kvs := []) .nil
  have e' : fDisp fs sl s = some r := e
  unfold fDisp at e'
  split at e'
  · rename_i ps s' he
    split at e'
    · rename_i hs
      split at e'
      · rename_i kvs hk
        split at e'
        · rename_i hl
          cases e'
          refine tPairs_of fs ⟨H0, O ++ [p], sl, s ++ [.dic []], _, b1, S.ext b2, he, ?_⟩
          show ∀ b H' H0' O', Base X.K H' H0' O' s' → Ext _ _ _ H' H0' O' → RpPs X.K H0' O' b ps → _
          intro vs H' H0' O' B' E' rv
          obtain ⟨ks, rfl, h2⟩ := keyed_ok rv hk
          have hO : O'[s.length]? = some p := E'.o.get (by rw [← B.len, List.getElem?_append_right (Nat.le_refl _), Nat.sub_self]; rfl)
          obtain ⟨ks0, g1, g2, g3⟩ := B'.cell _ _ _ hO hs
          cases g2
          refine ⟨g1, ks, rfl, by rw [kv_len h2]; exact hl, ?_⟩
          obtain ⟨c1, c2⟩ := B'.write (o := .dK (mergeK [] ks)) (c := .dic (mergeD [] kvs)) hO g3 ⟨_, upd_same, kv_merge h2 .nil, g3⟩
          exact q _ _ _ _ c1 ((b2.trans E').trans c2) (.own hO)
        · cases e'
      · cases e'
    · cases e'
  · cases e'
end
end PD

set_option Elab.async false
set_option linter.all false
set_option maxRecDepth 100000
set_option maxHeartbeats 4000000
/-! PD14: walks over texts. -/
namespace PD
open PySem PySem.Spec PyProof.Rows L2
def signsD (x : Str) : List D := x.cps.toList.map fun c => .str ⟨#[c]⟩
theorem walkD_str {K : PySem.W.Frag} {H0 : Hp} {O : List Addr} (x : Str) : WalkD K (Its x) H0 O (signsD x, none) := by
  have hl : (signsD x).length = x.cps.size := by unfold signsD; rw [List.length_map, Array.length_toList]
  refine ⟨fun i H H0' O' s hi B e p _ => by rw [hl] at hi; exact hi, fun H H0' O' s B e p _ => by show x.cps.size ≤ (signsD x).length; rw [hl]; exact Nat.le_refl _, fun i H H0' O' s v H' hi B e p _ y => ?_⟩
  obtain ⟨rfl, c, hc, rfl⟩ := y
  refine ⟨H0', .str ⟨#[c]⟩, B, .refl _ _ _, ?_, .str _⟩
  show (signsD x)[i]? = _
  unfold signsD
  rw [List.getElem?_map, Array.getElem?_toList, hc]
  rfl
def strIt (d : D) : Option Src := match d with | .str x => some (signsD x, none) | _ => none
def fItS (f : Sl → M D) : Sl → M Src := fun sl => bindM (f sl) fun d => liftO fun _ => strIt d
section
variable {X : Cx} {W : WX} {tg e : Expr} {f : Sl → M D}
theorem i_str (he : PE X e (tE X.K X.mg W f)) : PI X tg e (tI X.K X.mg W (fItS f)) := by
  refine ⟨fun pins s σ H R I t => ?_⟩
  refine (pi_str he).run pins s σ H R I ?_
  refine tG_mono (tG_bind t) fun v H1 z => ?_
  obtain ⟨H0', O', sl', s', x, r', B', S', rx, q', p'⟩ := z
  obtain ⟨y, hy, rfl⟩ := PostG.one (β := It) (Q := R) q'
  unfold strIt at hy
  split at hy
  · cases hy
    cases rx
    exact ⟨_, rfl, post_ok p' B' (walkD_str _)⟩
  · cases hy
end
end PD

set_option Elab.async false
set_option linter.all false
set_option maxRecDepth 100000
set_option maxHeartbeats 4000000
/-! PD15: raise. -/
namespace PD
open PySem PySem.Spec PyProof.Rows L2
def raiseS (c : Str) : SD := fun sl s => some (.ex c sl s)
section
variable {X : Cx} {W : WX} {e : Expr} {pos : Pos} {x : Str} {C : Addr}
theorem d_raise (hc : X.calm = true) (tk : L2.Takes X W) (gC : X.mg x = some (.ref C)) (pm : PMk X e (fun _ H Q => Q (.ref C) none H)) : PS X (.Raise (some e) none pos) (tS X.K X.mg W (raiseS x)) := by
  refine PS.imp (ps_raise hc tk pm) fun D σ H t => ?_
  obtain ⟨H0, O, sl, s, r, B, S, q, p⟩ := t
  have q' : some (RS.ex x sl s) = some r := q
  cases q'
  exact p (.ref C) none σ H H0 O gC B (.refl _ _ _) S
end
end PD

set_option Elab.async false
set_option linter.all false
set_option maxRecDepth 100000
set_option maxHeartbeats 4000000
/-! PD16: module constants, is of bools, further methods of lists, all(..) of a generator expression over a text. -/
namespace PD
open PySem PySem.Spec PyProof.Rows L2
section
variable {X : Cx} {W : WX} {e a b c o : Expr} {es : List Expr} {x : Str} {p pos apos cpos : Pos} {f g : Sl → M D} {h : Sl → M (List D)} {id T : String}
theorem e_glob {n : Int} (hg : Gl X x) (hm : ∃ t, X.mg x = some (.int n t)) (hd : (x == ("__debug__" : Str)) = false := by decide) : PE X (.Name x pos) (tE X.K X.mg W (fC (.int n))) :=
  let ⟨t, ht⟩ := hm
  e_const (pe_glob hg ht (v := .int n) ⟨t, rfl⟩ hd) fun _ _ => .int n
/-- is True, is not True -/
def isBO (neg : Bool) (_ : Sto) : D → D → Option D
  | .bl a, .bl b => some (.bl (ng neg (decide (a = b))))
  | _, _ => none
theorem o_isB : OpR X (compareOp .Is) (rD2 X.K (isBO false)) := by
  intro pins s σ H x y v u Q I rx ry h
  obtain ⟨H0, O, sto, d, e, z, B, rd, re, hz, k⟩ := h
  unfold isBO at hz
  split at hz
  · cases hz; cases rd; cases re
    exact op_isBl pins s σ H _ _ v u Q I rx ry ⟨_, _, rfl, rfl, k _ _ _ B (.refl _ _ _) (.bl _)⟩
  · cases hz
theorem o_isNotB : OpR X (compareOp .IsNot) (rD2 X.K (isBO true)) := by
  intro pins s σ H x y v u Q I rx ry h
  obtain ⟨H0, O, sto, d, e, z, B, rd, re, hz, k⟩ := h
  unfold isBO at hz
  split at hz
  · cases hz; cases rd; cases re
    exact op_notBl pins s σ H _ _ v u Q I rx ry ⟨_, _, rfl, rfl, k _ _ _ B (.refl _ _ _) (.bl _)⟩
  · cases hz
/-! ### methods of lists -/
/-- a method of lists with arguments -/
theorem e_lm {name : Str} {rr : V → List V → Hp → VK → Prop} {m : D → List D → M D} (slot : Slot "list" name id) (hty : typeOf (.builtin id) = pure (.type "method_descriptor")) (hm : MtR X id rr)
    (sound : ∀ {H H0 : Hp} {O : List Addr} {s : Sto} {d : D} {v : V} {ds : List D} {us : List V} {Q : VK} {E : XK} {r : R D}, Base X.K H H0 O s → Rp X.K H0 O v d → RpAll X.K H0 O us ds → m d ds s = some r → PostG X.K X.mg (Rp X.K) H H0 O Q E r → rr v us H Q)
    (ho : PE X o (tE X.K X.mg W f)) (ha : PA X (e :: es) (tA X.K X.mg W h))
    (hbase : attributeBase o name X.env (eval o X.env) = eval o X.env := by rfl)
    (hfew : ((backTo pos (starEach (e :: es) X.env)).all (fun x => !x.1) && (backToKw pos (keywordEach [] X.env)).all (fun x => x.1.isSome)
      && decide ((e :: es).length + ([] : List Keyword).length + (if ([] : List Keyword).isEmpty then 0 else 1) < 30)) = true := by rfl) (hline : (apos.endLine == pos.line) = true := by rfl)
    (hs : starEach (e :: es) X.env = (false, eval e X.env) :: starEach es X.env := by rfl) (hplain : (backTo pos (starEach es X.env)).any (·.1) = false := by rfl) :
    PE X (.Call (.Attribute o name apos) (e :: es) [] pos) (tE X.K X.mg W (fM1 m f h)) := by
  refine PE.imp (pe_bm PySem.F.plainAttrs_list slot hty hm ho ha hbase hfew (hline := hline) (hs := hs) (hplain := hplain)) fun σ H Q t => ?_
  refine tG_mono (tG_bind t) fun v H1 z => ?_
  obtain ⟨H0', O', sl', s', x, r', B', S', rx, q', p'⟩ := z
  obtain ⟨r2, e2, p2⟩ := PostG.bind (rp := Rp X.K) q' p'
  obtain ⟨y, hy, rfl⟩ := PostG.one (β := V) (Q := fun _ _ => True) e2
  refine ⟨tyV_of B' rx hy, ?_⟩
  obtain ⟨H02, O2, s2, xs, r3, B2, X2, _, q3, p3⟩ := p2 .non _ _ _ B' (.refl _ _ _) (by
    cases hq : lsOf s' x with
    | none => rw [hq] at hy; cases hy
    | some _ => rw [hq] at hy; cases hy; exact .non)
  obtain ⟨r4, e4, p4⟩ := PostG.bind (rp := RpAll X.K) q3 p3
  refine ⟨H02, O2, sl', s2, r4, B2, S'.ext X2, e4, p4.mono fun us H3 z => ?_⟩
  obtain ⟨H03, O3, s3, ds, r5, B3, X3, rs, q5, p5⟩ := z
  exact sound B3 (X3.rp (X2.rp rx)) rs q5 p5
def extendM (d : D) (ds : List D) : M D := fun s => match d, ds with
  | .own k, [y] => match s[k]? with
    | some (.lst xs) => match rawOf s y with
      | some ys => if small (xs.length + ys.length) = true then some (.ok .non (s.set k (.lst (xs ++ ys)))) else none
      | none => none
    | _ => none
  | _, _ => none
theorem e_extend (ho : PE X o (tE X.K X.mg W f)) (ha : PA X (e :: es) (tA X.K X.mg W h))
    (hbase : attributeBase o "extend" X.env (eval o X.env) = eval o X.env := by rfl)
    (hfew : ((backTo pos (starEach (e :: es) X.env)).all (fun x => !x.1) && (backToKw pos (keywordEach [] X.env)).all (fun x => x.1.isSome)
      && decide ((e :: es).length + ([] : List Keyword).length + (if ([] : List Keyword).isEmpty then 0 else 1) < 30)) = true := by rfl) (hline : (apos.endLine == pos.line) = true := by rfl)
    (hs : starEach (e :: es) X.env = (false, eval e X.env) :: starEach es X.env := by rfl) (hplain : (backTo pos (starEach es X.env)).any (·.1) = false := by rfl) :
    PE X (.Call (.Attribute o "extend" apos) (e :: es) [] pos) (tE X.K X.mg W (fM1 extendM f h)) := by
  refine e_lm PySem.F.slot_list_extend PySem.F.type_list_extend mt_extend (fun {H H0 O s d v ds us Q E r} B rd rs hm pp => ?_) ho ha hbase hfew hline hs hplain
  unfold extendM at hm
  split at hm
  · rename_i k y
    split at hm
    · rename_i xs hk
      split at hm
      · rename_i ys hy
        split at hm
        · rename_i hsm
          cases hm
          cases rd with
          | own h1 =>
            rename_i a
            obtain ⟨vs, g1, g2, g3⟩ := B.cell k _ _ h1 hk
            cases rs with
            | cons ry rn =>
              cases rn
              obtain ⟨b, ws, rfl, w1, w2⟩ := rawOf_ok B ry hy
              obtain ⟨b1, b2⟩ := B.write (o := .lst (vs ++ ws)) (c := .lst (xs ++ ys)) h1 g3 ⟨_, upd_same, g2.append w2, g3⟩
              exact ⟨a, b, vs, ws, rfl, rfl, g1, w1, by rw [g2.length, w2.length]; exact small_ok hsm, pp _ _ _ _ b1 b2 .non⟩
        · cases hm
      · cases hm
    · cases hm
  · cases hm
/-! ### all(test for c in text) -/
theorem Base.tabbed {K : PySem.W.Frag} {H H2 H0 : Hp} {O : List Addr} {s : Sto} {k : Nat} {P : Addr} {y : Str} (B : Base K H H0 O s) (hk : O[k]? = some P) (hc : s[k]? = some (.tab y)) (t : GxR.Tabbed P H H2) : Base K H2 H0 O s ∧ Ext H H0 O H2 H0 O := by
  obtain ⟨⟨ps, t1, t2⟩, t3⟩ := t
  obtain ⟨c1, c2, c3⟩ := B.cell k P _ hk hc
  refine ⟨⟨fun b u e => ?_, B.nd, B.len, fun a ha => ?_, fun j a c h1 h2 => ?_⟩, ⟨.refl _, .refl _, fun _ h => .inl h, fun a u h hn => ?_, fun a h => ?_, fun _ h => .inl h⟩⟩
  · rw [t3 b (ne_of_none e c3)]; exact B.sub _ _ e
  · by_cases e : a = P
    · subst e; rw [t1]; simp
    · rw [t3 a e]; exact B.live a ha
  · by_cases e : a = P
    · subst e
      have := get_inj B.nd h1 hk
      subst this
      rw [hc] at h2
      cases h2
      exact ⟨c1, ⟨ps, t1, t2⟩, c3⟩
    · have q := B.cell j a c h1 h2
      by_cases hg : c = .gone
      · subst hg; trivial
      · exact q.mono (.refl _) (fun _ _ h => h) (t3 a e) (q.none hg)
  · rw [t3 a (fun e => hn (by subst e; exact get_mem hk))]; exact h
  · by_cases e : a = P
    · subst e; rw [t1]; simp
    · rw [t3 a e]; exact h
theorem genS_of {env : Env} {scope : Scope} {x : Str} (kind : scope.kind = .function) (co : scope.isCoroutine = false) (cell : ∀ y ∈ scope.names, y.2 ≠ .cell) (dot : scope.names.lookup (".0" : Str) = some NameKind.local) (loc : scope.names.lookup x = some .local) (free : ∀ y ∈ scope.names, y.2 ≠ .free) : GxR.GenS env scope x :=
  ⟨kind, co, cell, dot, loc, fun y hy hf => absurd hf (free y hy)⟩
def HasTab (s : Sto) (x : Str) : Prop := ∃ k : Nat, s[k]? = some (Cell.tab x)
noncomputable instance (s : Sto) (x : Str) : Decidable (HasTab s x) := Classical.propDecidable _
/-- the def x is being walked, its code's table is known -/
structure TabAt (X : Cx) (x : Str) : Prop where
  ex : ∃ c P, GxR.TabB X.base X.mg c P ∧ X.env.code = .ref c ∧ TabIs X.K x P
noncomputable def fAllS (y : Str) (pb : Nat → Bool) (f : Sl → M D) : Sl → M D := fun sl => bindM (f sl) fun d => liftO fun s => match d with
  | .str z => if HasTab s y then some (.bl (z.cps.toList.all pb)) else none
  | _ => none
theorem e_allS {elt iter : Expr} {y z : Str} {px gpos : Pos} {scope : Scope} {pb : Nat → Bool} {k : Nat} (hr : Room k X.A) (hg : Gl X "all") (hm : X.mg "all" = none) (T : TabAt X y) (S : GxR.GenS X.env scope z) (hel : GxR.EltP X.prog X.w scope z elt pb) (hi : PE X iter (tE X.K X.mg W f))
    (hb : bootBuiltins "all" = some (.builtin "all") := by decide +kernel) (hs : ∀ v, genFold iter X.env v = pure v := by intro _; rfl)
    (he : starEach [.GeneratorExp elt [⟨.Name z px, iter, [], 0⟩] scope gpos] X.env = (false, eval (.GeneratorExp elt [⟨.Name z px, iter, [], 0⟩] scope gpos) X.env) :: starEach [] X.env := by rfl) :
    PE X (.Call (.Name "all" p) [.GeneratorExp elt [⟨.Name z px, iter, [], 0⟩] scope gpos] [] pos) (tE X.K X.mg W (fAllS y pb f)) := by
  obtain ⟨c, P, TB, hcode, hT⟩ := T.ex
  refine PE.imp (GxR.pe_allS hr hg hm hb TB hcode S hi hel hs he) fun σ H Q t => ?_
  refine tG_mono (tG_bind t) fun v H1 z => ?_
  obtain ⟨H0', O', sl', s', d, r', B', S', rd, q', p'⟩ := z
  obtain ⟨u, hu, rfl⟩ := PostG.one (Q := Q) q'
  cases d with
  | str w =>
    cases rd
    have hu' : (if HasTab s' y then some (D.bl (w.cps.toList.all pb)) else none) = some u := hu
    split at hu'
    · rename_i hx
      cases hu'
      obtain ⟨j, hj⟩ := hx
      have hjO : j < O'.length := by rw [B'.len]; exact (List.getElem?_eq_some_iff.mp hj).1
      obtain ⟨c1, c2, c3⟩ := B'.cell j _ _ (List.getElem?_eq_getElem hjO) hj
      have e := c1.uni hT
      have hO : O'[j]? = some P := by rw [← e]; exact List.getElem?_eq_getElem hjO
      rw [e] at c2
      refine ⟨w, rfl, c2, fun H2 ht => ?_⟩
      obtain ⟨b1, b2⟩ := B'.tabbed hO hj ht
      exact p' _ _ _ _ b1 b2 (.bl _)
    · cases hu'
  | _ => cases hu
/-- 'a' <= c <= 'z' -/
theorem elt_between {prog : Program} {w : World} {scope : Scope} {x lo hi : Str} {j1 j2 : Nat} {p1 p2 p3 p4 : Pos} (hk : scope.kind = .function) (hl : scope.names.lookup x = some .local) (hd : (x == ("__debug__" : Str)) = false := by decide)
    (hm : lastMarks [.LtE, .LtE] [.Name x p2, .Constant (.str hi) j2 p3] = false := by with_unfolding_all rfl) :
    GxR.EltP prog w scope x (.Compare (.Constant (.str lo) j1 p1) [.LtE, .LtE] [.Name x p2, .Constant (.str hi) j2 p3] p4) (fun c => !decide ([c] < lo.cps.toList) && !decide (hi.cps.toList < [c])) := by
  intro cenv A' E' c t s₂ m₂ hs hn hm'
  have nm : ∀ {Q : Value → Shared → Prop} {k : Nat}, Q (.str ⟨#[c]⟩ t) { s₂ with toks := k } → wpAny (model prog w) A' (eval (.Name x p2) cenv) Q E' { s₂ with toks := k } := fun {Q k} hQ =>
    wpAny_Name (wpAny_loadName_local (by rw [hs]; exact hk) (show cenv.scope.names.lookup x = some .local by rw [hs]; exact hl) (show Heap.Ns _ _ _ from hn) hm' hQ) hd
  refine Compare_chain ?_ hm
  refine Calls.Constant_str ?_
  refine chain_link (nm ?_)
  refine PySem.P.le_str ?_
  refine wpAny_truthy_bool ?_
  cases hlo : decide ([c] < lo.cps.toList) with
  | true =>
    simp only [hlo, Bool.not_true, Bool.false_and, Bool.false_eq_true, if_false]
    exact ⟨trivial, GxR.keeps_tok _ _⟩
  | false =>
    simp only [hlo, Bool.not_false, Bool.true_and, if_true]
    refine chain_last (Calls.Constant_str ?_)
    exact PySem.P.le_str ⟨rfl, GxR.keeps_tok _ _⟩
end
end PD

set_option Elab.async false
set_option linter.all false
set_option maxRecDepth 100000
set_option maxHeartbeats 4000000
/-! PD17: lists of one's own by list(..) and slices. -/
namespace PD
open PySem PySem.Spec PyProof.Rows L2
section
variable {X : Cx} {W : WX} {e a b c o : Expr} {es : List Expr} {x : Str} {p pos apos cpos p2 : Pos} {f g : Sl → M D} {h : Sl → M (List D)} {id T : String}
def listOwnO (s : Sto) : List D → Option (D × Sto)
  | [d] => (seqOf s d).map fun xs => (.own s.length, s ++ [.lst xs])
  | _ => none
theorem o_listOwn : CallR X (.type "list") (rDN X.K listOwnO) := by
  intro pins s σ H xs us Q I r h
  obtain ⟨H0, O, sto, ds, d', s', B, rd, hz, k⟩ := h
  unfold listOwnO at hz
  split at hz
  · rename_i d
    cases hq : seqOf sto d with
    | none => rw [hq] at hz; cases hz
    | some ys =>
      rw [hq] at hz
      cases hz
      cases rd with
      | cons r1 r2 =>
        cases r2
        obtain ⟨q, vs, rfl, g1, g2⟩ := seqOf_ok B r1 hq
        refine call_list_of pins s σ H _ us Q I r ⟨q, vs, rfl, g1, fun l hl => ?_⟩
        obtain ⟨b1, b2, b3⟩ := own_new B hl g2
        exact k _ _ _ _ b1 b2 b3
  · cases hz
theorem e_listOwn (hg : Gl X "list") (hm : X.mg "list" = none) (hA : PA X (e :: es) (tA X.K X.mg W h))
    (he : starEach (e :: es) X.env = (false, eval e X.env) :: starEach es X.env := by rfl) (hpl : (backTo pos (starEach es X.env)).any (·.1) = false := by rfl) : PE X (.Call (.Name "list" p) (e :: es) [] pos) (tE X.K X.mg W (fNM listOwnO h)) :=
  PE.imp (pe_callTy o_listOwn hg hm (by decide +kernel) hA (by decide) (by decide) he hpl) fun _ _ _ t => tE_fNM t
/-- a slice of a list, a list of one's own -/
def slOwnM (d : D) (lo hi : Option Int) : M D := fun s => match lsOf s d with
  | some xs => some (.ok (.own s.length) (s ++ [.lst (cutL xs lo hi)]))
  | none => none
def fSlOwn (f : Sl → M D) (u v : Sl → M (Option Int)) : Sl → M D := fun sl => bindM (f sl) fun x => bindM (u sl) fun lo => bindM (v sl) fun hi => slOwnM x lo hi
variable {lo hi : Option Expr} {u v : Sl → M (Option Int)}
theorem e_slOwn (he : PE X e (tE X.K X.mg W f)) (hl : PO X lo (tPo X.K X.mg W u)) (hh : PO X hi (tPo X.K X.mg W v)) : PE X (.Subscript e (.Slice lo hi none p2) pos) (tE X.K X.mg W (fSlOwn f u v)) := by
  refine PE.imp (pe_slice sl_list he hl hh) fun σ H Q t => ?_
  refine tG_mono (tG_bind t) fun x H1 z => ?_
  obtain ⟨H0', O', sl', s', d, r', B', S', rx, q', p'⟩ := z
  obtain ⟨r2, e2, p2⟩ := PostG.bind (rp := eqI) q' p'
  refine ⟨H0', O', sl', s', r2, B', S', e2, p2.mono fun l H2 z => ?_⟩
  obtain ⟨H02, O2, s2, l', r3, B2, X2, rl, q3, p3⟩ := z
  obtain ⟨r4, e4, p4⟩ := PostG.bind (rp := eqI) q3 p3
  refine ⟨H02, O2, sl', s2, r4, B2, S'.ext X2, e4, p4.mono fun u H3 z => ?_⟩
  obtain ⟨H03, O3, s3, u', r5, B3, X3, ru, q5, p5⟩ := z
  cases rl
  cases ru
  have rd := X3.rp (X2.rp rx)
  replace q5 : slOwnM d l u s3 = some r5 := q5
  unfold slOwnM at q5
  split at q5
  · rename_i xs hq
    cases q5
    obtain ⟨a, vs, rfl, g1, g2⟩ := lsOf_ok B3 rd hq
    refine ⟨a, vs, rfl, g1, fun p hp => ?_⟩
    obtain ⟨b1, b2, b3⟩ := own_new B3 hp (cut_rp l u g2)
    exact p5 _ _ _ _ b1 b2 b3
  · cases q5
end
end PD

set_option Elab.async false
set_option linter.all false
set_option maxRecDepth 100000
set_option maxHeartbeats 4000000
/-! PDE: defs whose code holds generator expressions; the law's end with their tables. -/
namespace PD
open PySem PySem.Spec PyProof.Rows L2
/-- the def of the name x at f: its code's table -/
structure TabF (K : PySem.W.Frag) (mg : Str → Option Value) (base : Heap) (x : Str) (f : Addr) (fd : FuncData) : Prop where
  ex : ∃ c P oc vs, fd.code = .ref c ∧ K.lookup c = some oc ∧ oc.data = .fields vs ∧ vs[11]? = some (.ref P) ∧ GxR.TabB base mg c P ∧ PySem.W.nsIn K mainGlobals x = some (some (.ref f))
section
variable {P : Program} {w : World} {K : PySem.W.Frag} {mg : Str → Option Value} {base : Heap}
theorem fn_okT {x qual : Str} {st : Stmt} {f : Addr} {fd : FuncData} {N ps : List Str} {k : Nat} {n : Nat} (keep : Bool) {g : SD} (F : Fun K x qual st f fd) (TF : TabF K mg base x f fd) (S : FnScope N ps (defScope st)) (hn : ps.length = n)
    (hb : ∀ (cdv : Value) (A : Around) (outer : List Env) (s : Shared) (H : Hp) (E : XK), At (cxOf (L2.CX P w) P w K mg base N qual (defScope st) f cdv A outer s H E) k (fun cls d _ H => E cls d H) →
      TabAt (cxOf (L2.CX P w) P w K mg base N qual (defScope st) f cdv A outer s H E) x →
      PSs (cxOf (L2.CX P w) P w K mg base N qual (defScope st) f cdv A outer s H E) (defBody st) (tS K mg (fun cls d _ H => E cls d H) g)) :
    FnOk P w K mg base (L2.CX P w) (k + 1) f fd ps (spD K mg n (fnD keep N.length g)) := by
  obtain ⟨oc, od, kV, doc, pm, an, cdv, ct, osl, rfl, lk, hcd⟩ := F.ex
  obtain ⟨c, Pt, oc2, vs2, t1, t2, t3, t4, t5, t6⟩ := TF.ex
  have t1' : cdv = .ref c := t1
  refine fn_of lk hcd S (fun vs H Q E h => ?_) fun A outer s H vs Q E hr h => ?_
  · obtain ⟨H0, O, sto, ds, r, hl, B, rv, _⟩ := h
    rw [rv.length, hl, hn]
  · refine ⟨_, hb cdv A outer s H E ⟨hr, takes_of rfl rfl rfl rfl, passes_of rfl, rfl⟩ ⟨c, Pt, t5, t1', f, _, _, c, oc2, vs2, t6, lk, rfl, t1', t2, t3, t4⟩, ?_⟩
    obtain ⟨H0, O, sto, ds, r, hl, B, rv, e, p⟩ := h
    unfold fnD at e
    cases eg : g (ds.map some ++ List.replicate (N.length - ds.length) none) sto with
    | none => rw [eg] at e; cases e
    | some r1 =>
      refine ⟨H0, O, _, sto, r1, B, rpSl_start rv, eg, ?_⟩
      rw [eg] at e
      cases r1 with
      | nx l s' => exact fun σ' H' H0' O' B' X' S' => closeM_ok B p e B' X' .non
      | rt d s' => exact fun v H' H0' O' B' X' r' => closeM_ok B p e B' X' r'
      | ex c l s' =>
        intro cls dd σ' H' H0' O' hw B' X' S'
        replace e : closeX c sto s' = some r := e
        unfold closeX at e
        split at e
        · rename_i hk
          cases e
          exact p cls dd H' H0' O hw (close_base B B' X' hk) X'.cutO
        · cases e
      | bk l s' => cases e
      | ct l s' => cases e
end
/-- the tables of the defs named so are empty at the law's start -/
theorem walk_ofD {l : PySem.W.OpenLaw} {n k : Nat} {q : Program} {loose : List Str} {XP : (Str → Option Value) → Heap → Prop} {YP : World → Heap → Prop} {d : DefRec} {K : Params → PySem.W.Frag} {CX : World → CXT} {x : Str} (ts : List Str)
    (hn : l.most = some n) (hn2 : n ≤ sizeLine) (hdf : d.params.defaults = []) (hr : Room k callerA) (hrec : (ts.all fun x => (recsOf q).any fun e => e.name == x) = true) (hY : ∀ (w : World) (h : Heap), YP w h → (K w.params).In h)
    (F : ∀ (w : World) (mg : Str → Option Value) (fa : Addr) (h : Heap), YP w h → (K w.params).In h → h.Ns mainGlobals mg → mg d.name = some (.ref fa) → (∀ x ∈ ts, ∀ fx, mg x = some (.ref fx) → LamX.OwnTab (K w.params) fx h) → LamX.LawAtS l w (K w.params) (CX w) k n x mg fa h)
    (hCX : ∀ (w : World) (H : Hp) (s : Shared) (e : Value) (s' : Shared), CX w [] H s (fun _ _ _ => False) e s' → False) :
    PySem.W.WalkO q loose XP YP l.row.toRowW d [] (fun f vs => PySem.call f vs) := by
  refine Att.attach_callB hn hdf fun w s₀ s₁ mg mb fa o pm cd doc a vs ns G Y ho hd hcd hmg hobj hints hlen hbits hg => ?_
  have KX := hY w _ Y
  have own : ∀ x ∈ ts, ∀ fx, mg x = some (.ref fx) → LamX.OwnTab (K w.params) fx s₁.heap := fun x hx fx hfx => fun c P o1 fd1 e dd vs1 sl k1 k2 k3 k4 k5 => by
    obtain ⟨dL, hm, hn1⟩ := List.any_eq_true.mp (List.all_eq_true.mp hrec x hx)
    have hn2 : dL.name = x := beq_iff_eq.mp hn1
    obtain ⟨a', o', fd', c', P', h1, h2, h3, h4, h5, h6⟩ := G.T.tab dL hm
    rw [hn2, hfx] at h1
    cases h1
    have g1 := KX _ _ k1
    rw [g1] at h2
    cases h2
    rw [k2] at h3
    cases h3
    rw [k3] at h4
    cases h4
    obtain ⟨⟨oc, vc, e1, _, e3, e4⟩, hP⟩ := h6
    have g2 := KX _ _ k4
    rw [g2] at e1
    cases e1
    cases e3
    rw [k5] at e4
    cases e4
    exact hP
  obtain ⟨fd, cs, sp, hT, nT, C, hb, hsp, hF⟩ := F w mg fa _ Y KX G.T.g hmg own
  exact LamX.law_callTs KX G.T.g G.T.b G.T.builtins G.T.nolimit hg hT nT C G.T.bmain hobj hints (Nat.le_trans hlen hn2) hr hF hb (fun H hH hS => hsp H a ns hlen hbits hH hS) fun H e s' => hCX w H s₁ e s'
/-- the law's promise: it gives True where the tables of these defs stand at these places -/
def spT (K : PySem.W.Frag) (ts : List (Str × Addr)) : Sp := fun vs H Q _ => ∃ (a : Addr) (ns : List Int), vs = [.ref a] ∧ SqL K H a (ns.map V.int) ∧ ns.length ≤ 63 ∧ (∀ p ∈ ts, H p.2 = some (.tbl #[])) ∧ ∀ H', Q (.bl true) H'
theorem law_spT {K : PySem.W.Frag} {mg : Str → Option Value} {g : List D → M D} (n : Nat) (ts : List (Str × Addr)) (nd : (ts.map (·.2)).Nodup) (hT : ∀ p ∈ ts, TabIs K p.1 p.2) (h : ∀ ns : List Int, ns.length ≤ n → ∃ s, g [.scr (ns.map D.int)] (ts.map fun p => .tab p.1) = some (.ok (.bl true) s))
    (H : Hp) (a : Addr) (ns : List Int) (hn : ns.length ≤ n) (hS : SqL K H a (ns.map V.int)) (hH : ∀ p ∈ ts, H p.2 = some (.tbl #[])) {Q : VK} {E : XK} (q : ∀ H', Q (.bl true) H') : spD K mg 1 g [.ref a] H Q E := by
  obtain ⟨s, e⟩ := h ns hn
  have all : ∀ (O : List Addr) (ns : List Int), RpAll K (fun b => if b ∈ ts.map (·.2) then none else H b) O (ns.map V.int) (ns.map D.int) := by
    intro O ns
    induction ns with
    | nil => exact .nil
    | cons x r ih => exact .cons (.int x) ih
  have mem : ∀ b, b ∈ ts.map (·.2) → H b = some (.tbl #[]) := fun b hb => by
    obtain ⟨p, hp, rfl⟩ := List.mem_map.mp hb
    exact hH p hp
  have sub : Same (fun b => if b ∈ ts.map (·.2) then none else H b) H := fun b u e => by
    by_cases hb : b ∈ ts.map (·.2)
    · simp only [if_pos hb] at e; cases e
    · simp only [if_neg hb] at e; exact e
  have hS0 : SqL K (fun b => if b ∈ ts.map (·.2) then none else H b) a (ns.map V.int) := by
    have ha : H a ≠ none → (∀ u, H a = some u → u ≠ .tbl #[]) → a ∉ ts.map (·.2) := fun _ h2 hm => h2 _ (mem a hm) rfl
    rcases hS with (h1 | ⟨o, h1⟩) | h1
    · refine .inl (.inl ?_)
      have : a ∉ ts.map (·.2) := fun hm => by rw [mem a hm] at h1; cases h1
      simp only [if_neg this]; exact h1
    · refine .inl (.inr ⟨o, ?_⟩)
      have : a ∉ ts.map (·.2) := fun hm => by rw [mem a hm] at h1; cases h1
      simp only [if_neg this]; exact h1
    · exact .inr h1
  refine ⟨fun b => if b ∈ ts.map (·.2) then none else H b, ts.map (·.2), _, [.scr (ns.map D.int)], _, rfl, ⟨sub, nd, by simp, fun b hb => by rw [mem b hb]; simp, fun k b c h1 h2 => ?_⟩, .one (.scr hS0 (all _ ns)), e, fun v H' H0' O' _ _ r => ?_⟩
  · rw [List.getElem?_map] at h1 h2
    cases ek : ts[k]? with
    | none => rw [ek] at h1; cases h1
    | some p =>
      rw [ek] at h1 h2
      cases h1
      cases h2
      have hp : p ∈ ts := List.mem_iff_getElem?.mpr ⟨k, ek⟩
      exact ⟨hT p hp, ⟨#[], hH p hp, True.intro⟩, by simp only [if_pos (List.mem_map_of_mem (f := (·.2)) hp)]⟩
  · cases r
    exact q H'
end PD

set_option Elab.async false
set_option linter.all false
set_option maxRecDepth 100000
set_option maxHeartbeats 4000000
/-! PDM: how the plain functions of PD are reckoned. -/
namespace PD
open PySem L2
/-! ### stores -/
theorem keeps_refl (s : Sto) : Keeps s s := fun j c h => .inl h
theorem keeps_set {s : Sto} {k : Nat} {c : Cell} (h : CellLow s.length c) : Keeps s (s.set k c) := by
  intro j c' hj
  by_cases e : j = k
  · subst e
    have hl : j < s.length := by
      have := (List.getElem?_eq_some_iff.mp hj).1
      rw [List.length_set] at this
      exact this
    rw [List.getElem?_set_self hl] at hj
    cases hj
    exact .inr h
  · rw [List.getElem?_set_ne (Ne.symm e)] at hj
    exact .inl hj
theorem cellLow_ints (n : Nat) (a b : Int) : CellLow n (.lst [.int a, .int b]) := rfl
theorem set_at {s : Sto} {k : Nat} {c0 : Cell} (h : s[k]? = some c0) (c : Cell) : (s.set k c)[k]? = some c := List.getElem?_set_self (List.getElem?_eq_some_iff.mp h).1
theorem app_at (s : Sto) (c : Cell) (t : Sto) : (s ++ c :: t)[s.length]? = some c := by
  rw [List.getElem?_append_right (Nat.le_refl _), Nat.sub_self]
  rfl
theorem app_at1 (s : Sto) (c d : Cell) (t : Sto) : (s ++ c :: d :: t)[s.length + 1]? = some d := by
  rw [List.getElem?_append_right (Nat.le_add_right _ _), Nat.add_sub_cancel_left]
  rfl
theorem app_set (s : Sto) (c c' : Cell) (t : Sto) : (s ++ c :: t).set s.length c' = s ++ c' :: t := by
  rw [List.set_append_right _ _ (Nat.le_refl _), Nat.sub_self]
  rfl
theorem app_set1 (s : Sto) (c d c' : Cell) (t : Sto) : (s ++ c :: d :: t).set (s.length + 1) c' = s ++ c :: c' :: t := by
  rw [List.set_append_right _ _ (Nat.le_add_right _ _), Nat.add_sub_cancel_left]
  rfl
theorem app_old {s : Sto} {k : Nat} {c : Cell} (h : s[k]? = some c) (t : Sto) : (s ++ t)[k]? = some c := by
  rw [List.getElem?_append_left (List.getElem?_eq_some_iff.mp h).1]
  exact h
theorem app_oldset {s : Sto} {k : Nat} {c0 : Cell} (h : s[k]? = some c0) (c : Cell) (t : Sto) : (s ++ t).set k c = s.set k c ++ t :=
  List.set_append_left _ _ (List.getElem?_eq_some_iff.mp h).1
/-! ### what a def gives back -/
theorem closeM_low {keep : Bool} {s t junk : Sto} {d : D} (hl : t.length = s.length) (hk : Keeps s t) (hd : D.low s.length d = true) (hn : ∀ k, d ≠ .own k) : closeM keep s d (t ++ junk) = some (.ok d t) := by
  have e : (t ++ junk).take s.length = t := by rw [← hl]; exact List.take_left
  unfold closeM
  rw [e, if_pos hk]
  cases d with
  | own k => exact absurd rfl (hn k)
  | non => simp only; rw [if_pos hd]
  | bl b => simp only; rw [if_pos hd]
  | int i => simp only; rw [if_pos hd]
  | str x => simp only; rw [if_pos hd]
  | lst xs => simp only; rw [if_pos hd]
  | tup xs => simp only; rw [if_pos hd]
  | par xs => simp only; rw [if_pos hd]
  | scr xs => simp only; rw [if_pos hd]
theorem closeM_lst {s t junk : Sto} {k : Nat} {xs : List D} (hl : t.length = s.length) (hk : Keeps s t) (hge : s.length ≤ k) (hx : (t ++ junk)[k]? = some (.lst xs)) (hd : D.lowAll s.length xs = true) : closeM false s (.own k) (t ++ junk) = some (.ok (.lst xs) t) := by
  have e : (t ++ junk).take s.length = t := by rw [← hl]; exact List.take_left
  unfold closeM
  rw [e, if_pos hk]
  simp only
  rw [if_neg (by omega), hx]
  simp only
  rw [if_pos hd, if_neg (by simp)]
theorem closeM_keep {s t junk : Sto} {k : Nat} {xs : List D} (hl : t.length = s.length) (hk : Keeps s t) (hge : s.length ≤ k) (hx : (t ++ junk)[k]? = some (.lst xs)) (hd : D.lowAll s.length xs = true) : closeM true s (.own k) (t ++ junk) = some (.ok (.own s.length) (t ++ [.lst xs])) := by
  have e : (t ++ junk).take s.length = t := by rw [← hl]; exact List.take_left
  unfold closeM
  rw [e, if_pos hk]
  simp only
  rw [if_neg (by omega), hx]
  simp only
  rw [if_pos hd]
  simp
theorem fnD_rt {keep : Bool} {n : Nat} {g : SD} {ds : List D} {s s' : Sto} {d : D} {r : R D} (e : g (ds.map some ++ List.replicate (n - ds.length) none) s = some (.rt d s')) (c : closeM keep s d s' = some r) : fnD keep n g ds s = some r := by
  unfold fnD
  rw [e]
  exact c
/-! ### lows -/
mutual
theorem low_mono {m n : Nat} (h : m ≤ n) : ∀ d : D, D.low m d = true → D.low n d = true
  | .non, _ => rfl
  | .bl _, _ => rfl
  | .int _, _ => rfl
  | .str _, _ => rfl
  | .lst xs, q => lowAll_mono h xs q
  | .tup xs, q => lowAll_mono h xs q
  | .par xs, q => lowAll_mono h xs q
  | .scr xs, q => lowAll_mono h xs q
  | .own k, q => by
    have : k < m := of_decide_eq_true q
    exact decide_eq_true (by omega)
theorem lowAll_mono {m n : Nat} (h : m ≤ n) : ∀ ds : List D, D.lowAll m ds = true → D.lowAll n ds = true
  | [], _ => rfl
  | d :: ds, q => by
    have q' := Bool.and_eq_true_iff.mp q
    exact Bool.and_eq_true_iff.mpr ⟨low_mono h d q'.1, lowAll_mono h ds q'.2⟩
end
theorem lowAll_iff {n : Nat} : ∀ {ds : List D}, D.lowAll n ds = true ↔ ∀ d ∈ ds, D.low n d = true
  | [] => by simp [D.lowAll]
  | d :: ds => by
    show (D.low n d && D.lowAll n ds) = true ↔ _
    rw [Bool.and_eq_true, lowAll_iff (ds := ds)]
    simp
/-! ### loops -/
theorem ck_none (xs : List D) (s : Sto) : Ck (xs, none) s := trivial
theorem forL_nil {T : TD} {g : SD} {a : Src} {sl : Sl} {s : Sto} : forL T g a [] sl s = some (.nx sl s) := rfl
theorem forL_cons {T : TD} {g : SD} {a : Src} {x : D} {xs : List D} {sl sl1 sl2 : Sl} {s s2 : Sto} (h1 : T x sl = some sl1) (h2 : g sl1 s = some (.nx sl2 s2)) (ck : Ck a s2) : forL T g a (x :: xs) sl s = forL T g a xs sl2 s2 := by
  conv => lhs; unfold forL
  rw [h1]
  simp only [h2]
  rw [if_pos ck]
theorem forL_rt {T : TD} {g : SD} {a : Src} {x : D} {xs : List D} {sl sl1 : Sl} {s s2 : Sto} {d : D} (h1 : T x sl = some sl1) (h2 : g sl1 s = some (.rt d s2)) : forL T g a (x :: xs) sl s = some (.rt d s2) := by
  conv => lhs; unfold forL
  rw [h1]
  simp only [h2]
/-- a loop that goes on at each turn -/
theorem forL_inv {T : TD} {g : SD} {a : Src} (I : List D → Sl → Sto → Prop) (step : ∀ x xs sl s, I (x :: xs) sl s → ∃ sl1 sl2 s2, T x sl = some sl1 ∧ g sl1 s = some (.nx sl2 s2) ∧ Ck a s2 ∧ I xs sl2 s2) :
    ∀ xs sl s, I xs sl s → ∃ sl' s', forL T g a xs sl s = some (.nx sl' s') ∧ I [] sl' s'
  | [], sl, s, h => ⟨sl, s, rfl, h⟩
  | x :: xs, sl, s, h => by
    obtain ⟨sl1, sl2, s2, h1, h2, ck, h3⟩ := step x xs sl s h
    obtain ⟨sl', s', e, i⟩ := forL_inv I step xs sl2 s2 h3
    exact ⟨sl', s', by rw [forL_cons h1 h2 ck]; exact e, i⟩
theorem rngO_int {z : Int} (h0 : 0 ≤ z) (h1 : z ≤ 1000000) : rngO (.int z) = some (rangeD 0 z.toNat, none) := by
  have c : z < 2 ^ 62 ∧ -(2 ^ 62) ≤ z := by omega
  simp only [rngO, if_pos c]
theorem rngO_nat {n : Nat} (h : n ≤ 1000000) : rngO (.int (n : Nat)) = some (rangeD 0 n, none) :=
  (rngO_int (z := (n : Int)) (Int.natCast_nonneg n) (by omega)).trans (by rw [Int.toNat_natCast])
theorem fRng1_of {f : Sl → M D} {sl : Sl} {s s' : Sto} {d : D} {a : Src} (e : f sl s = some (.ok d s')) (h : rngO d = some a) : fRng1 f sl s = some (.ok a s') := by
  unfold fRng1 bindM liftO
  rw [e]
  simp only
  rw [h]
/-- a loop over a range, by the turn's number -/
theorem forL_range {T : TD} {g : SD} {a : Src} (P : Nat → Sl → Sto → Prop) (n : Nat) (step : ∀ i sl s, i < n → P i sl s → ∃ sl1 sl2 s2, T (.int (i : Nat)) sl = some sl1 ∧ g sl1 s = some (.nx sl2 s2) ∧ Ck a s2 ∧ P (i + 1) sl2 s2) (sl : Sl) (s : Sto) (h : P 0 sl s) :
    ∃ sl' s', forL T g a (rangeD 0 n) sl s = some (.nx sl' s') ∧ P n sl' s' := by
  have e : rangeD 0 n = (List.range n).map fun i => D.int (i : Nat) := by
    unfold rangeD
    exact List.map_congr_left fun i _ => by rw [Int.zero_add]
  rw [e]
  obtain ⟨sl', s', e1, i, hi, h1⟩ := forL_inv (T := T) (g := g) (a := a) (fun xs sl s => ∃ i, i ≤ n ∧ xs = ((List.range n).drop i).map (fun i => D.int (i : Nat)) ∧ P i sl s) (fun x xs sl s ⟨i, hi, ex, hp⟩ => by
    by_cases hlt : i < n
    · have hd : (List.range n).drop i = i :: (List.range n).drop (i + 1) := by
        rw [List.drop_eq_getElem_cons (by simpa using hlt)]
        simp
      rw [hd, List.map_cons] at ex
      injection ex with ex1 ex2
      subst ex1
      obtain ⟨sl1, sl2, s2, h1, h2, h3, h4⟩ := step i sl s hlt hp
      exact ⟨sl1, sl2, s2, h1, h2, h3, i + 1, hlt, ex2, h4⟩
    · have : i = n := by omega
      subst this
      rw [List.drop_of_length_le (by simp)] at ex
      cases ex) ((List.range n).map fun i => D.int (i : Nat)) sl s ⟨0, Nat.zero_le _, by simp, h⟩
  refine ⟨sl', s', e1, ?_⟩
  have : i = n := by
    by_cases hlt : i < n
    · have := congrArg List.length h1.1
      simp at this
      omega
    · omega
  subst this
  exact h1.2
theorem forS_of {T : TD} {i : Sl → M Src} {g : SD} {sl : Sl} {s s1 : Sto} {a : Src} (h : i sl s = some (.ok a s1)) (ck : Ck a s1) : forS T i g sl s = forL T g a a.1 sl s1 := by
  unfold forS bindS
  rw [h]
  simp only
  rw [if_pos ck]
/-! ### comprehensions -/
theorem lcL_map {T : TD} {u : Sl → M Bool} {f : Sl → M D} {a : Src} {sl : Sl} {s : Sto} (y : D → D) (ck : Ck a s) :
    ∀ (xs : List D), (∀ x ∈ xs, ∃ sl1, T x sl = some sl1 ∧ u sl1 s = some (.ok true s) ∧ f sl1 s = some (.ok (y x) s)) → lcL T u f a sl xs s = some (.ok (xs.map y) s)
  | [], _ => rfl
  | x :: xs, h => by
    obtain ⟨sl1, h1, h2, h3⟩ := h x List.mem_cons_self
    have ih := lcL_map (T := T) (u := u) (f := f) (a := a) (sl := sl) (s := s) y ck xs fun z hz => h z (List.mem_cons_of_mem _ hz)
    unfold lcL
    simp only [h1, bindM, noex, h2, h3, ckM, if_pos ck, ih, retM, if_true]
    rfl
theorem lcL_filter {T : TD} {u : Sl → M Bool} {f : Sl → M D} {a : Src} {sl : Sl} {s : Sto} (p : D → Bool) (y : D → D) (ck : Ck a s) :
    ∀ (xs : List D), (∀ x ∈ xs, ∃ sl1, T x sl = some sl1 ∧ u sl1 s = some (.ok (p x) s) ∧ (p x = true → f sl1 s = some (.ok (y x) s))) → lcL T u f a sl xs s = some (.ok ((xs.filter p).map y) s)
  | [], _ => rfl
  | x :: xs, h => by
    obtain ⟨sl1, h1, h2, h3⟩ := h x List.mem_cons_self
    have ih := lcL_filter (T := T) (u := u) (f := f) (a := a) (sl := sl) (s := s) p y ck xs fun z hz => h z (List.mem_cons_of_mem _ hz)
    unfold lcL
    cases hp : p x with
    | true =>
      rw [hp] at h2
      have h3' := h3 hp
      simp only [h1, bindM, noex, h2, h3', ckM, if_pos ck, ih, retM, if_true, List.filter_cons, hp, List.map_cons]
    | false =>
      rw [hp] at h2
      simp [h1, bindM, noex, h2, ckM, if_pos ck, ih, List.filter_cons, hp]
/-- a comprehension whose turns may change the store -/
theorem lcL_inv {T : TD} {u : Sl → M Bool} {f : Sl → M D} {a : Src} {sl : Sl} (I : List D → List D → Sto → Prop)
    (step : ∀ x xs acc s, I (x :: xs) acc s → ∃ sl1 y s1, T x sl = some sl1 ∧ u sl1 s = some (.ok true s) ∧ f sl1 s = some (.ok y s1) ∧ Ck a s1 ∧ I xs (acc ++ [y]) s1) :
    ∀ xs acc s, I xs acc s → ∃ ys s', lcL T u f a sl xs s = some (.ok ys s') ∧ I [] (acc ++ ys) s'
  | [], acc, s, h => ⟨[], s, rfl, by rw [List.append_nil]; exact h⟩
  | x :: xs, acc, s, h => by
    obtain ⟨sl1, y, s1, h1, h2, h3, ck, h4⟩ := step x xs acc s h
    obtain ⟨ys, s', e, i⟩ := lcL_inv I step xs _ _ h4
    refine ⟨y :: ys, s', ?_, by rw [List.append_assoc] at i; exact i⟩
    unfold lcL
    simp only [h1, bindM, noex, h2, h3, ckM, if_pos ck, e, retM, if_true]
theorem fLc_of {T : TD} {u : Sl → M Bool} {f : Sl → M D} {i : Sl → M Src} {vs : List Nat} {sl : Sl} {s s1 s2 : Sto} {a : Src} {ys : List D} (h : i sl s = some (.ok a s1)) (ck : Ck a s1) (hl : lcL T u f a (wipeS sl vs) a.1 s1 = some (.ok ys s2)) (hs : ys.length ≤ 16777216) :
    fLc T u f i vs sl s = some (.ok (.lst ys) s2) := by
  have hs' : small ys.length = true := decide_eq_true hs
  unfold fLc
  simp only [bindM, h, ckM, if_pos ck, hl, liftO, hs', if_true]
theorem fLc_pure {T : TD} {u : Sl → M Bool} {f : Sl → M D} {i : Sl → M Src} {vs : List Nat} {sl : Sl} {s : Sto} {xs ys : List D} (h : i sl s = some (.ok (xs, none) s)) (hl : lcL T u f (xs, none) (wipeS sl vs) xs s = some (.ok ys s)) (hs : ys.length ≤ 16777216) :
    fLc T u f i vs sl s = some (.ok (.lst ys) s) := fLc_of h (ck_none _ _) hl hs
/-! ### statements, one after another -/
theorem seqS_nx {g1 g2 : SD} {sl sl' : Sl} {s s' : Sto} (h : g1 sl s = some (.nx sl' s')) : seqS g1 g2 sl s = g2 sl' s' := by
  unfold seqS
  rw [h]
theorem seqS_rt {g1 g2 : SD} {sl : Sl} {s s' : Sto} {d : D} (h : g1 sl s = some (.rt d s')) : seqS g1 g2 sl s = some (.rt d s') := by
  unfold seqS
  rw [h]
theorem setS_ok {i : Nat} {f : Sl → M D} {sl : Sl} {s s' : Sto} {d : D} (h : f sl s = some (.ok d s')) : setS i f sl s = some (.nx (sl.set i (some d)) s') := by
  unfold setS bindS
  rw [h]
theorem retS_ok {f : Sl → M D} {sl : Sl} {s s' : Sto} {d : D} (h : f sl s = some (.ok d s')) : retS f sl s = some (.rt d s') := by
  unfold retS bindS
  rw [h]
theorem exprS_ok {f : Sl → M D} {sl : Sl} {s s' : Sto} {d : D} (h : f sl s = some (.ok d s')) : exprS f sl s = some (.nx sl s') := by
  unfold exprS bindS
  rw [h]
theorem ifS_t {u : Sl → M Bool} {g1 g2 : SD} {sl : Sl} {s s' : Sto} (h : u sl s = some (.ok true s')) : ifS u g1 g2 sl s = g1 sl s' := by
  unfold ifS bindS
  rw [h]
  rfl
theorem ifS_f {u : Sl → M Bool} {g1 g2 : SD} {sl : Sl} {s s' : Sto} (h : u sl s = some (.ok false s')) : ifS u g1 g2 sl s = g2 sl s' := by
  unfold ifS bindS
  rw [h]
  rfl
theorem fCall_ok {n : Nat} {g : List D → M D} {h : Sl → M (List D)} {sl : Sl} {s s1 : Sto} {ds : List D} (e : h sl s = some (.ok ds s1)) (hn : ds.length = n) : fCall n g h sl s = g ds s1 := by
  unfold fCall bindM
  rw [e]
  simp only
  rw [if_pos hn]
theorem fCall_eq {n : Nat} {g : List D → M D} {h : Sl → M (List D)} {sl : Sl} {s s1 : Sto} {ds : List D} {r : Option (R D)} (e : h sl s = some (.ok ds s1)) (hn : ds.length = n) (k : g ds s1 = r) : fCall n g h sl s = r :=
  (fCall_ok e hn).trans k
theorem eqO_int (neg : Bool) (s : Sto) (i j : Int) : eqO neg s (.int i) (.int j) = some (.bl (ng neg (decide (i = j)))) := by
  have h : decide (V.int i = V.int j) = decide (i = j) := by
    by_cases e : i = j
    · subst e; simp
    · simp [e]
  show ((if scal (V.int i) (V.int j) = true then some (decide (V.int i = V.int j)) else deepB s (.int i) (.int j)).map fun b => D.bl (ng neg b)) = _
  rw [if_pos (show scal _ _ = true from rfl), h]
  rfl
theorem eqO_str (neg : Bool) (s : Sto) (x y : Str) : eqO neg s (.str x) (.str y) = some (.bl (ng neg (decide (x = y)))) := by
  have h : decide (V.str x = V.str y) = decide (x = y) := by
    by_cases e : x = y
    · subst e; simp
    · simp [e]
  show ((if scal (V.str x) (V.str y) = true then some (decide (V.str x = V.str y)) else deepB s (.str x) (.str y)).map fun b => D.bl (ng neg b)) = _
  rw [if_pos (show scal _ _ = true from rfl), h]
  rfl
/-! ### the eq of equal data -/
theorem plain_eq {s : Sto} {d : D} {z : PyData} (h : plainPy s d = some z) : PyData.eqv z z = true := by
  unfold plainPy at h
  split at h
  · rename_i c
    cases h
    exact PySem.SeqAt.eqv_refl _ (PySem.SeqAt.canLay_of_shaped (Bool.and_eq_true_iff.mp c).2)
  · cases h
theorem eqO_deep {neg : Bool} {s : Sto} {d e : D} {a b : PyData} (h : scD d = none ∨ scD e = none) (hd : plainPy s d = some a) (he : plainPy s e = some b) : eqO neg s d e = some (.bl (ng neg (PyData.eqv a b))) := by
  have q : deepB s d e = some (PyData.eqv a b) := by unfold deepB; rw [hd, he]
  unfold eqO eqBo
  rcases h with h | h
  · rw [h]
    simp only [q]
    rfl
  · rw [h]
    cases hs : scD d with
    | none => simp only [q]; rfl
    | some x => simp only [q]; rfl
/-- a list or tuple is no text -/
theorem eqO_seqStr {neg : Bool} {s : Sto} {d : D} {xs : List D} {w : Str} (h : seqOf s d = some xs) : eqO neg s d (.str w) = some (.bl (ng neg false)) := by
  have hn : scD d = none := by
    cases d <;> first | rfl | cases h
  have hq : seqStr s d (.str w) = some false := by unfold seqStr; rw [h]; rfl
  unfold eqO eqBo
  rw [hn]
  cases hd : deepB s d (.str w) with
  | none => simp only [hq]; rfl
  | some b =>
    have : b = false := by
      unfold deepB at hd
      split at hd
      · rename_i p q hp hq
        cases hd
        have hq' : q = .str w := by
          unfold plainPy at hq
          split at hq
          · cases hq; rfl
          · cases hq
        subst hq'
        have hp' : ∃ zs, p = .list zs ∨ p = .tuple zs := by
          unfold plainPy at hp
          split at hp
          · cases hp
            cases d with
            | own k =>
              unfold seqOf lsOf at h
              simp only at h
              split at h
              · rename_i ys hk
                unfold peek
                simp only [hk]
                exact ⟨_, .inl rfl⟩
              · cases h
            | lst _ => exact ⟨_, .inl rfl⟩
            | scr _ => exact ⟨_, .inl rfl⟩
            | tup _ => exact ⟨_, .inr rfl⟩
            | par _ => exact ⟨_, .inr rfl⟩
            | _ => cases h
          · cases hp
        obtain ⟨zs, rfl | rfl⟩ := hp' <;> rfl
      · cases hd
    subst this
    rfl
end PD

set_option Elab.async false
set_option linter.all false
set_option maxRecDepth 100000
set_option maxHeartbeats 4000000
/-! PH: helps for reckoning. -/
namespace PD
open PySem L2
abbrev SS (x : String) : Str := PySem.Str.ofString x
theorem close_low (s : Sto) (d : D) (h : D.low s.length d = true) (hn : ∀ k, d ≠ .own k) : closeM false s d s = some (.ok d s) := by
  have := closeM_low (keep := false) (s := s) (t := s) (junk := []) (d := d) rfl (keeps_refl s) h hn
  rwa [List.append_nil] at this
theorem close_bl (s : Sto) (b : Bool) : closeM false s (.bl b) s = some (.ok (.bl b) s) := close_low s _ rfl (fun _ z => nomatch z)
theorem close_junk (s junk : Sto) (d : D) (h : D.low s.length d = true) (hn : ∀ k, d ≠ .own k) : closeM false s d (s ++ junk) = some (.ok d s) := closeM_low rfl (keeps_refl s) h hn
theorem close_jbl (s junk : Sto) (b : Bool) : closeM false s (.bl b) (s ++ junk) = some (.ok (.bl b) s) := close_junk s junk _ rfl (fun _ z => nomatch z)
theorem close_jnon (s junk : Sto) : closeM false s .non (s ++ junk) = some (.ok .non s) := close_junk s junk _ rfl (fun _ z => nomatch z)
mutual
/-- data without own things, its texts not too long -/
def pd : D → Bool
  | .own _ => false | .scr _ => false | .par _ => false
  | .str x => decide (x.length ≤ 1000000)
  | .lst xs => pds xs | .tup xs => pds xs
  | .non => true | .bl _ => true | .int _ => true
def pds : List D → Bool
  | [] => true | x :: xs => pd x && pds xs
end
theorem pds_iff : ∀ {ds : List D}, pds ds = true ↔ ∀ d ∈ ds, pd d = true
  | [] => by simp [pds]
  | d :: ds => by
    show (pd d && pds ds) = true ↔ _
    rw [Bool.and_eq_true, pds_iff (ds := ds)]
    simp
mutual
theorem pd_low : ∀ d : D, pd d = true → D.low 0 d = true
  | .non, _ => rfl
  | .bl _, _ => rfl
  | .int _, _ => rfl
  | .str _, _ => rfl
  | .lst xs, h => pds_low xs h
  | .tup xs, h => pds_low xs h
theorem pds_low : ∀ ds : List D, pds ds = true → D.lowAll 0 ds = true
  | [], _ => rfl
  | d :: ds, h => by
    have h' : pd d = true ∧ pds ds = true := Bool.and_eq_true_iff.mp h
    show (D.low 0 d && D.lowAll 0 ds) = true
    rw [pd_low d h'.1, pds_low ds h'.2]
    rfl
end
theorem pd_own {d : D} (h : pd d = true) : ∀ k, d ≠ .own k := fun k e => by subst e; cases h
theorem close_pd (s : Sto) (d : D) (h : pd d = true) : closeM false s d s = some (.ok d s) := close_low s d (low_mono (Nat.zero_le _) _ (pd_low d h)) (pd_own h)
theorem smallOf {n : Nat} (h : n ≤ 16777216) : small n = true := decide_eq_true h
theorem small0 : small 0 = true := rfl
theorem small1 : small 1 = true := rfl
theorem small2 : small 2 = true := rfl
theorem small3 : small 3 = true := rfl
/-! ### readings, step by step -/
section
variable {f g : Sl → M D} {h : Sl → M (List D)} {u v : Sl → M Bool} {sl : Sl} {s s1 s2 : Sto} {x y z : D} {b : Bool} {r : Option (R D)}
theorem v_ok {i : Nat} {d : D} (e : sl[i]? = some (some d)) : fVar i sl s = some (.ok d s) := by simp [fVar, e]
theorem c_ok {d : D} : fC d sl s = some (.ok d s) := rfl
theorem f1_ok {o : Sto → D → Option D} (h1 : f sl s = some (.ok x s1)) (h2 : o s1 x = some z) : f1 o f sl s = some (.ok z s1) := by simp [f1, bindM, liftO, h1, h2]
theorem f2_ok {o : Sto → D → D → Option D} (h1 : f sl s = some (.ok x s1)) (h2 : g sl s1 = some (.ok y s2)) (h3 : o s2 x y = some z) : f2 o f g sl s = some (.ok z s2) := by simp [f2, bindM, liftO, h1, h2, h3]
theorem fB_ok (h1 : f sl s = some (.ok (.bl b) s1)) : fB f sl s = some (.ok b s1) := by simp [fB, bindM, liftO, asB, h1]
theorem tru_bl (h1 : f sl s = some (.ok (.bl b) s1)) : fTru f sl s = some (.ok b s1) := by simp [fTru, bindM, liftO, truO, h1]
theorem not_ok (h1 : u sl s = some (.ok b s1)) : fNot u sl s = some (.ok (!b) s1) := by simp [fNot, bindM, retM, h1]
theorem and_t {r : Option (R Bool)} (h1 : u sl s = some (.ok true s1)) (h2 : v sl s1 = r) : fAnd u v sl s = r := by simp [fAnd, bindM, h1, h2]
theorem and_f (h1 : u sl s = some (.ok false s1)) : fAnd u v sl s = some (.ok false s1) := by simp [fAnd, bindM, retM, h1]
theorem or_t (h1 : u sl s = some (.ok true s1)) : fOr u v sl s = some (.ok true s1) := by simp [fOr, bindM, retM, h1]
theorem or_f {r : Option (R Bool)} (h1 : u sl s = some (.ok false s1)) (h2 : v sl s1 = r) : fOr u v sl s = r := by simp [fOr, bindM, h1, h2]
theorem andV_t (h1 : f sl s = some (.ok (.bl true) s1)) (h2 : g sl s1 = r) : fAndV f g sl s = r := by simp [fAndV, bindM, h1, h2]
theorem andV_f (h1 : f sl s = some (.ok (.bl false) s1)) : fAndV f g sl s = some (.ok (.bl false) s1) := by simp [fAndV, bindM, retM, h1]
theorem orV_t (h1 : f sl s = some (.ok (.bl true) s1)) : fOrV f g sl s = some (.ok (.bl true) s1) := by simp [fOrV, bindM, retM, h1]
theorem orV_f (h1 : f sl s = some (.ok (.bl false) s1)) (h2 : g sl s1 = r) : fOrV f g sl s = r := by simp [fOrV, bindM, h1, h2]
theorem if_t (h1 : u sl s = some (.ok true s1)) (h2 : f sl s1 = r) : fIf u f g sl s = r := by simp [fIf, bindM, h1, h2]
theorem if_f (h1 : u sl s = some (.ok false s1)) (h2 : g sl s1 = r) : fIf u f g sl s = r := by simp [fIf, bindM, h1, h2]
theorem cons_ok {xs : List D} (h1 : f sl s = some (.ok x s1)) (h2 : h sl s1 = some (.ok xs s2)) : fCons f h sl s = some (.ok (x :: xs) s2) := by simp [fCons, bindM, retM, h1, h2]
theorem nil_ok : fNil sl s = some (.ok [] s) := rfl
theorem one_ok (h1 : f sl s = some (.ok x s1)) : fCons f fNil sl s = some (.ok [x] s1) := cons_ok h1 nil_ok
theorem two_ok (h1 : f sl s = some (.ok x s1)) (h2 : g sl s1 = some (.ok y s2)) : fCons f (fCons g fNil) sl s = some (.ok [x, y] s2) := cons_ok h1 (one_ok h2)
theorem tup_ok {xs : List D} (h1 : h sl s = some (.ok xs s1)) (hs : small xs.length = true) : fTup h sl s = some (.ok (.tup xs) s1) := by simp [fTup, bindM, liftO, h1, hs]
theorem lst_ok {xs : List D} (h1 : h sl s = some (.ok xs s1)) (hs : small xs.length = true) : fLst h sl s = some (.ok (.lst xs) s1) := by simp [fLst, bindM, liftO, h1, hs]
theorem own_ok {xs : List D} (h1 : h sl s = some (.ok xs s1)) (hs : small xs.length = true) : fOwn h sl s = some (.ok (.own s1.length) (s1 ++ [.lst xs])) := by simp [fOwn, bindM, h1, hs]
theorem call_ok {n : Nat} {F : List D → M D} {ds : List D} (h1 : h sl s = some (.ok ds s1)) (h2 : F ds s1 = r) (hn : ds.length = n := by rfl) : fCall n F h sl s = r := fCall_eq h1 hn h2
theorem fN_ok {o : Sto → List D → Option D} {ds : List D} (h1 : h sl s = some (.ok ds s1)) (h2 : o s1 ds = some z) : fN o h sl s = some (.ok z s1) := by simp [fN, bindM, liftO, h1, h2]
theorem chain_ok {o o' : Sto → D → D → Option D} {e : Sl → M D} {b c : Bool} (h1 : f sl s = some (.ok x s1)) (h2 : g sl s1 = some (.ok y s2)) (h3 : o s2 x y = some (.bl b)) (h4 : e sl s2 = some (.ok z s2)) (h5 : o' s2 y z = some (.bl c)) : fChain o o' f g e sl s = some (.ok (.bl (b && c)) s2) := by
  cases b <;> simp [fChain, bindM, liftO, retM, h1, h2, h3, h4, h5, asB]
theorem m1_ok {o : D → List D → M D} {xs ds : List D} (h1 : f sl s = some (.ok x s1)) (hx : lsOf s1 x = some xs) (h2 : h sl s1 = some (.ok ds s2)) (h3 : o x ds s2 = r) : fM1 o f h sl s = r := by simp [fM1, bindM, liftO, h1, hx, h2, h3]
theorem m0_ok {o : D → M D} {xs : List D} (h1 : f sl s = some (.ok x s1)) (hx : lsOf s1 x = some xs) (h3 : o x s1 = r) : fM0 o f sl s = r := by simp [fM0, bindM, liftO, h1, hx, h3]
theorem it_ok {a : Src} (h1 : f sl s = some (.ok x s1)) (h2 : seqIt s1 x = some a) : fIt f sl s = some (.ok a s1) := by simp [fIt, bindM, liftO, h1, h2]
end
section
variable {f : Sl → M D} {u : Sl → M Bool} {g1 g2 g3 : SD} {sl sl' : Sl} {s s' s1 : Sto} {d : D} {r : Option RS} {b : Bool}
theorem sq_set {i : Nat} (h1 : f sl s = some (.ok d s')) (h2 : g2 (sl.set i (some d)) s' = r) : seqS (setS i f) g2 sl s = r := (seqS_nx (setS_ok h1)).trans h2
theorem sq_expr (h1 : f sl s = some (.ok d s')) (h2 : g2 sl s' = r) : seqS (exprS f) g2 sl s = r := (seqS_nx (exprS_ok h1)).trans h2
theorem sq_ret (h1 : f sl s = some (.ok d s')) : seqS (retS f) g2 sl s = some (.rt d s') := seqS_rt (retS_ok h1)
theorem if_ret (h1 : u sl s = some (.ok true s1)) (h2 : f sl s1 = some (.ok d s')) : ifS u (retS f) g3 sl s = some (.rt d s') := (ifS_t h1).trans (retS_ok h2)
theorem sq_ifret (h1 : u sl s = some (.ok true s1)) (h2 : f sl s1 = some (.ok d s')) : seqS (ifS u (retS f) g3) g2 sl s = some (.rt d s') := seqS_rt (if_ret h1 h2)
theorem sq_skip (h1 : u sl s = some (.ok false s')) (h2 : g2 sl s' = r) : seqS (ifS u g1 nextS) g2 sl s = r := (seqS_nx ((ifS_f (g1 := g1) (g2 := nextS) h1).trans rfl)).trans h2
theorem sq_nx (h1 : g1 sl s = some (.nx sl' s')) (h2 : g2 sl' s' = r) : seqS g1 g2 sl s = r := (seqS_nx h1).trans h2
theorem ifT {g : SD} (h1 : u sl s = some (.ok true s')) (h2 : g1 sl s' = r) : ifS u g1 g sl s = r := (ifS_t h1).trans h2
theorem ifF {g : SD} (h1 : u sl s = some (.ok false s')) (h2 : g sl s' = r) : ifS u g1 g sl s = r := (ifS_f h1).trans h2
end
/-! ### items -/
theorem ixT0 {s : Sto} {x : D} {r : List D} : ixO s (.tup (x :: r)) (.int 0) = some x := by simp [ixO, seqOf, atI, ixN]
theorem ixT1 {s : Sto} {x y : D} {r : List D} : ixO s (.tup (x :: y :: r)) (.int 1) = some y := show atI (x :: y :: r) ((1 : Nat) : Int) = some y from atI_nat rfl
theorem ixT2 {s : Sto} {x y z : D} {r : List D} : ixO s (.tup (x :: y :: z :: r)) (.int 2) = some z := show atI (x :: y :: z :: r) ((2 : Nat) : Int) = some z from atI_nat rfl
/-! ### while -/
section
variable {u : Sl → M Bool} {g : SD} {sl sl2 : Sl} {s s1 s2 : Sto} {d : D} {r : RS}
theorem wh_stop (h : u sl s = some (.ok false s1)) : whileS u g sl s = some (.nx sl s1) := whileS_eq (n := 1) (by unfold whileN; rw [h])
theorem wh_rt (h : u sl s = some (.ok true s1)) (h2 : g sl s1 = some (.rt d s2)) : whileS u g sl s = some (.rt d s2) := whileS_eq (n := 1) (by unfold whileN; rw [h]; simp only [h2])
theorem wh_ex {c : Str} (h : u sl s = some (.ok true s1)) (h2 : g sl s1 = some (.ex c sl2 s2)) : whileS u g sl s = some (.ex c sl2 s2) := whileS_eq (n := 1) (by unfold whileN; rw [h]; simp only [h2])
theorem wh_nx (h : u sl s = some (.ok true s1)) (h2 : g sl s1 = some (.nx sl2 s2)) (h3 : whileS u g sl2 s2 = some r) : whileS u g sl s = some r := by
  obtain ⟨n, hn⟩ := whileS_ex h3
  exact whileS_eq (n := n + 1) (by unfold whileN; rw [h]; simp only [h2]; exact hn)
theorem wh_bk (h : u sl s = some (.ok true s1)) (h2 : g sl s1 = some (.bk sl2 s2)) : whileS u g sl s = some (.nx sl2 s2) := whileS_eq (n := 1) (by unfold whileN; rw [h]; simp only [h2])
end
theorem tru_own {i : Nat} {sl : Sl} {s : Sto} {k : Nat} {xs : List D} (h : sl[i]? = some (some (.own k))) (hk : s[k]? = some (.lst xs)) : fTru (fVar i) sl s = some (.ok (!xs.isEmpty) s) := by
  have hv : fVar i sl s = some (.ok (.own k) s) := v_ok h
  unfold fTru bindM
  rw [hv]
  simp only [liftO, truO, seqOf, lsOf, hk, Option.map_some]
theorem pop_own {i : Nat} {sl : Sl} {s : Sto} {k : Nat} {xs : List D} {y : D} (h : sl[i]? = some (some (.own k))) (hk : s[k]? = some (.lst (xs ++ [y]))) : fM0 popM (fVar i) sl s = some (.ok y (s.set k (.lst xs))) := by
  refine m0_ok (v_ok h) (xs := xs ++ [y]) (by simp only [lsOf, hk]) ?_
  unfold popM
  have e1 : (xs ++ [y])[(xs ++ [y]).length - 1]? = some y := by simp
  simp only [hk, e1, List.dropLast_concat]
theorem asg_ok {T : TD} {f : Sl → M D} {sl sl' : Sl} {s s' : Sto} {d : D} (h : f sl s = some (.ok d s')) (hT : T d sl = some sl') : asgS T f sl s = some (.nx sl' s') := by
  unfold asgS bindS
  rw [h]
  simp only [hT]
theorem aug_ok {i : Nat} {op : Int → Int → Int} {f : Sl → M D} {sl : Sl} {s s' : Sto} {a b : Int} (h1 : sl[i]? = some (some (.int a))) (h : f sl s = some (.ok (.int b) s')) : augS i op f sl s = some (.nx (sl.set i (some (.int (op a b)))) s') := by
  unfold augS
  simp [h1, bindS, h, augO]
theorem ext_own {i : Nat} {f : Sl → M D} {sl : Sl} {s s1 : Sto} {k : Nat} {xs ys : List D} {y : D} (h : sl[i]? = some (some (.own k))) (hk0 : ∃ zs, s[k]? = some (.lst zs)) (hf : f sl s = some (.ok y s1)) (hy : rawOf s1 y = some ys) (hk : s1[k]? = some (.lst xs)) (hs : xs.length + ys.length ≤ 16777216) :
    fM1 extendM (fVar i) (fCons f fNil) sl s = some (.ok .non (s1.set k (.lst (xs ++ ys)))) := by
  obtain ⟨zs, hk0⟩ := hk0
  refine m1_ok (v_ok h) (xs := zs) (by simp only [lsOf, hk0]) (one_ok hf) ?_
  unfold extendM
  simp only [hk, hy, smallOf hs, if_true]
end PD

set_option Elab.async false
set_option linter.all false
set_option maxRecDepth 100000
set_option maxHeartbeats 4000000
/-! PI: == of plain data. -/
namespace PD
open PySem L2
noncomputable instance : DecidableEq D := fun _ _ => Classical.propDecidable _
mutual
/-- None, ints, texts, tuples of such -/
def cl : D → Bool
  | .non => true | .int _ => true | .str x => PyData.strOk x | .tup xs => cls xs
  | _ => false
def cls : List D → Bool
  | [] => true | x :: xs => cl x && cls xs
end
theorem cls_iff : ∀ {ds : List D}, cls ds = true ↔ ∀ d ∈ ds, cl d = true
  | [] => by simp [cls]
  | d :: ds => by
    show (cl d && cls ds) = true ↔ _
    rw [Bool.and_eq_true, cls_iff (ds := ds)]
    simp
def dpD (d : D) : Nat := (py d).depth
def dpsD (ds : List D) : Nat := PyData.depthAll (pyAll ds)
mutual
theorem eqv_iff : ∀ d e : D, cl d = true → cl e = true → (PyData.eqv (py d) (py e) = true ↔ d = e)
  | .non, e, _, h => by cases e <;> first | cases h; done | (constructor <;> intro z <;> first | rfl | cases z)
  | .int i, e, _, h => by
    cases e with
    | int j =>
      show (i == j) = true ↔ _
      rw [beq_iff_eq]
      exact ⟨fun z => by rw [z], fun z => by cases z; rfl⟩
    | _ => first | cases h; done | (constructor <;> intro z <;> first | rfl | cases z)
  | .str x, e, _, h => by
    cases e with
    | str y =>
      show (x == y) = true ↔ _
      rw [beq_iff_eq]
      exact ⟨fun z => by rw [z], fun z => by cases z; rfl⟩
    | _ => first | cases h; done | (constructor <;> intro z <;> first | rfl | cases z)
  | .tup xs, e, hd, h => by
    cases e with
    | tup ys =>
      show PyData.eqvAll (pyAll xs) (pyAll ys) = true ↔ _
      rw [eqvs_iff xs ys hd h]
      exact ⟨fun z => by rw [z], fun z => by cases z; rfl⟩
    | _ => first | cases h; done | (constructor <;> intro z <;> first | rfl | cases z)
  | .bl _, _, h, _ => by cases h
  | .lst _, _, h, _ => by cases h
  | .par _, _, h, _ => by cases h
  | .scr _, _, h, _ => by cases h
  | .own _, _, h, _ => by cases h
theorem eqvs_iff : ∀ ds es : List D, cls ds = true → cls es = true → (PyData.eqvAll (pyAll ds) (pyAll es) = true ↔ ds = es)
  | [], [], _, _ => by simp [pyAll, PyData.eqvAll]
  | [], _ :: _, _, _ => by simp [pyAll, PyData.eqvAll]
  | _ :: _, [], _, _ => by simp [pyAll, PyData.eqvAll]
  | d :: ds, e :: es, h1, h2 => by
    have a := Bool.and_eq_true_iff.mp (show (cl d && cls ds) = true from h1)
    have b := Bool.and_eq_true_iff.mp (show (cl e && cls es) = true from h2)
    show (PyData.eqv (py d) (py e) && PyData.eqvAll (pyAll ds) (pyAll es)) = true ↔ _
    rw [Bool.and_eq_true, eqv_iff d e a.1 b.1, eqvs_iff ds es a.2 b.2]
    exact ⟨fun ⟨x, y⟩ => by rw [x, y], fun z => by cases z; exact ⟨rfl, rfl⟩⟩
end
mutual
theorem cl_low : ∀ d : D, cl d = true → D.low 0 d = true ∧ (py d).canLay0 = true
  | .non, _ => ⟨rfl, rfl⟩
  | .int _, _ => ⟨rfl, rfl⟩
  | .str x, h => ⟨rfl, h⟩
  | .tup xs, h => cls_low xs h
  | .bl _, h => by cases h
  | .lst _, h => by cases h
  | .par _, h => by cases h
  | .scr _, h => by cases h
  | .own _, h => by cases h
theorem cls_low : ∀ ds : List D, cls ds = true → D.lowAll 0 ds = true ∧ PyData.canLayAll0 (pyAll ds) = true
  | [], _ => ⟨rfl, rfl⟩
  | d :: ds, h => by
    have a := Bool.and_eq_true_iff.mp (show (cl d && cls ds) = true from h)
    obtain ⟨x1, x2⟩ := cl_low d a.1
    obtain ⟨y1, y2⟩ := cls_low ds a.2
    refine ⟨?_, ?_⟩
    · show (D.low 0 d && D.lowAll 0 ds) = true
      rw [x1, y1]; rfl
    · show ((py d).canLay0 && PyData.canLayAll0 (pyAll ds)) = true
      rw [x2, y2]; rfl
end
theorem cl_own {d : D} (h : cl d = true) : ∀ k, d ≠ .own k := fun k e => by subst e; cases h
theorem cl_peek {d : D} (h : cl d = true) (s : Sto) : peek s d = d := by
  cases d with
  | own k => cases h
  | _ => rfl
theorem plain_cl {d : D} (s : Sto) (h : cl d = true) (hd : dpD d ≤ 64) : plainPy s d = some (py d) := by
  obtain ⟨a, b⟩ := cl_low d h
  unfold plainPy
  rw [cl_peek h]
  have : SeqAt.shaped (py d) = true := Bool.and_eq_true_iff.mpr ⟨b, decide_eq_true hd⟩
  rw [a, this]
  rfl
theorem eqO_cl {neg : Bool} {s : Sto} {d e : D} (h1 : cl d = true) (h2 : cl e = true) (d1 : dpD d ≤ 64) (d2 : dpD e ≤ 64) : eqO neg s d e = some (.bl (ng neg (decide (d = e)))) := by
  have p1 := plain_cl s h1 d1
  have p2 := plain_cl s h2 d2
  have q : deepB s d e = some (decide (d = e)) := by
    unfold deepB
    rw [p1, p2]
    show some _ = _
    congr 1
    have := eqv_iff d e h1 h2
    by_cases c : d = e
    · rw [decide_eq_true c]; exact this.mpr c
    · rw [decide_eq_false c]; exact Bool.eq_false_iff.mpr fun z => c (this.mp z)
  have key : eqBo s d e = some (decide (d = e)) := by
    unfold eqBo
    cases hs : scD d with
    | none => simp only [q]
    | some x =>
      cases ht : scD e with
      | none => simp only [q]
      | some y =>
        simp only [q]
        split
        · congr 1
          cases d with
          | non => cases hs; cases e <;> first | cases h2; done | cases ht; done | (cases ht; first | rfl | simp)
          | int i => cases hs; cases e <;> first | cases h2; done | cases ht; done | (cases ht; first | rfl | simp)
          | str z => cases hs; cases e <;> first | cases h2; done | cases ht; done | (cases ht; first | rfl | simp)
          | _ => first | cases hs; done | cases h1
        · rfl
  unfold eqO
  rw [key]
  rfl
theorem dp_non : dpD .non = 0 := by simp [dpD, py, PyData.depth]
theorem dp_int (i : Int) : dpD (.int i) = 0 := by simp [dpD, py, PyData.depth]
theorem dp_str (x : Str) : dpD (.str x) = 0 := by simp [dpD, py, PyData.depth]
theorem dp_tup (xs : List D) : dpD (.tup xs) = dpsD xs + 1 := by simp [dpD, dpsD, py, PyData.depth]
theorem dps_nil : dpsD [] = 0 := by simp [dpsD, pyAll, PyData.depthAll]
theorem dps_cons (x : D) (xs : List D) : dpsD (x :: xs) = max (dpD x) (dpsD xs) := by simp [dpsD, dpD, pyAll, PyData.depthAll]
theorem dps_le {n : Nat} : ∀ {ds : List D}, (∀ d ∈ ds, dpD d ≤ n) → dpsD ds ≤ n
  | [], _ => by rw [dps_nil]; exact Nat.zero_le _
  | d :: ds, h => by
    have a := h d List.mem_cons_self
    have b := dps_le (ds := ds) fun x hx => h x (List.mem_cons_of_mem _ hx)
    rw [dps_cons]
    omega
end PD

set_option Elab.async false
set_option linter.all false
set_option maxRecDepth 100000
set_option maxHeartbeats 4000000
/-! KI: kinds as a type of their own. -/
namespace Qk
open PySem L2 PD
theorem ne_number_blank : (PySem.Str.ofString "number" = PySem.Str.ofString "blank") = False := eq_false (by decide +kernel)
theorem ne_number_record : (PySem.Str.ofString "number" = PySem.Str.ofString "record") = False := eq_false (by decide +kernel)
theorem ne_blank_number : (PySem.Str.ofString "blank" = PySem.Str.ofString "number") = False := eq_false (by decide +kernel)
theorem ne_blank_record : (PySem.Str.ofString "blank" = PySem.Str.ofString "record") = False := eq_false (by decide +kernel)
theorem ne_record_number : (PySem.Str.ofString "record" = PySem.Str.ofString "number") = False := eq_false (by decide +kernel)
theorem ne_record_blank : (PySem.Str.ofString "record" = PySem.Str.ofString "blank") = False := eq_false (by decide +kernel)
def wdB (x : Str) : Bool := (decide (1 ≤ (x.length : Int)) && decide ((x.length : Int) ≤ 8)) && x.cps.toList.all fun c => decide (97 ≤ c) && decide (c ≤ 122)
def wdD : D → Bool | .str x => wdB x | _ => false
def nbD : D → Bool | .int i => decide (0 ≤ i) | _ => false
def lastLt (L : List Str) (y : Str) : Bool := match L.getLast? with | none => true | some z => !(leS y z)
/-- the pairs of a record's fields: the labels, rising -/
def fldsF : List D → List Str → Option (List Str)
  | [], L => some L
  | p :: fs, L => match p with
    | .tup [.str y, _] => if (wdB y && lastLt L y) = true then fldsF fs (L ++ [y]) else none
    | _ => none
def fldsD : D → Bool | .tup fs => (fldsF fs []).isSome | _ => false
def isNon (d : D) : Bool := match d with | .non => true | _ => false
def knotD (d : D) : Bool := match d with
  | .tup [.str w] => decide (w = SS "number")
  | .tup [.str w, x] => decide (w = SS "blank") && nbD x
  | .tup [.str w, f, x] => decide (w = SS "record") && (fldsD f && (isNon x || nbD x))
  | _ => false
mutual
inductive Ki where
  | num | bl (i : Int) | rc (fs : Fs) (r : Option Int)
inductive Fs where
  | nil | cons (l : Str) (k : Ki) (t : Fs)
end
def encR : Option Int → D | none => .non | some i => .int i
mutual
def Ki.enc : Ki → D
  | .num => .tup [.str (SS "number")]
  | .bl i => .tup [.str (SS "blank"), .int i]
  | .rc fs r => .tup [.str (SS "record"), .tup fs.encs, encR r]
def Fs.encs : Fs → List D
  | .nil => []
  | .cons l k t => .tup [.str l, k.enc] :: t.encs
end
def Fs.labs : Fs → List Str
  | .nil => []
  | .cons l _ t => l :: t.labs
mutual
def Ki.kn : Ki → Nat
  | .num => 1 | .bl _ => 1 | .rc fs _ => fs.kns + 1
def Fs.kns : Fs → Nat
  | .nil => 0 | .cons _ k t => k.kn + t.kns
end
mutual
def Ki.dep : Ki → Nat
  | .num => 1 | .bl _ => 1 | .rc fs _ => fs.deps + 1
def Fs.deps : Fs → Nat
  | .nil => 0 | .cons _ k t => max k.dep t.deps
end
def okR : Option Int → Bool | none => true | some i => decide (0 ≤ i)
/-- labels that are words and rise, behind these -/
def riseF : List Str → List Str → Bool
  | [], _ => true
  | y :: ys, L => (wdB y && lastLt L y) && riseF ys (L ++ [y])
mutual
/-- the form of a kind -/
def Ki.ok : Ki → Bool
  | .num => true | .bl i => decide (0 ≤ i) | .rc fs r => riseF fs.labs [] && okR r && fs.oks
def Fs.oks : Fs → Bool
  | .nil => true | .cons _ k t => k.ok && t.oks
end
abbrev Ents := List (Int × Option (List Str))
mutual
/-- the numbers that stand in it, and where -/
def Ki.ents : Ki → Ents
  | .num => [] | .bl i => [(i, none)] | .rc fs r => fs.entss ++ (match r with | none => [] | some i => [(i, some fs.labs)])
def Fs.entss : Fs → Ents
  | .nil => [] | .cons _ k t => k.ents ++ t.entss
end
theorem Ki.kn_pos : ∀ k : Ki, 0 < k.kn
  | .num => by simp [Ki.kn]
  | .bl _ => by simp [Ki.kn]
  | .rc _ _ => by simp [Ki.kn]
/-! ### from data -/
def decFs (G : D → Option Ki) : List D → Option Fs
  | [] => some .nil
  | p :: t => match p with
    | .tup [.str y, b] => match G b with
      | some k => match decFs G t with
        | some r => some (.cons y k r)
        | none => none
      | none => none
    | _ => none
def decR : D → Option Int | .int i => some i | _ => none
def decK : Nat → D → Option Ki
  | 0, _ => none
  | l + 1, d => if knotD d = true then (match d with
    | .tup [_] => some .num
    | .tup [_, .int i] => some (.bl i)
    | .tup [_, .tup fs, x] => (decFs (decK l) fs).map fun F => .rc F (decR x)
    | _ => none) else none
theorem flds_labs {G : D → Option Ki} : ∀ {fs : List D} {F : Fs}, decFs G fs = some F → ∀ L, fldsF fs L = if riseF F.labs L = true then some (L ++ F.labs) else none
  | [], F, h, L => by cases h; simp [fldsF, riseF, Fs.labs]
  | p :: t, F, h, L => by
    unfold decFs at h
    split at h
    · rename_i y b
      split at h
      · rename_i k hk
        split at h
        · rename_i r hr
          cases h
          have ih := fun L => flds_labs hr L
          rw [fldsF]
          show _ = if ((wdB y && lastLt L y) && riseF r.labs (L ++ [y])) = true then some (L ++ y :: r.labs) else none
          cases hc : (wdB y && lastLt L y) with
          | true =>
            simp only [if_true, Bool.true_and]
            rw [ih]
            simp
          | false => simp
        · cases h
      · cases h
    · cases h
theorem decFs_encs {G : D → Option Ki} (hG : ∀ d k, G d = some k → d = k.enc) : ∀ {fs : List D} {F : Fs}, decFs G fs = some F → fs = F.encs
  | [], F, h => by cases h; rfl
  | p :: t, F, h => by
    unfold decFs at h
    split at h
    · split at h
      · rename_i k hk
        split at h
        · rename_i r hr
          cases h
          rw [hG _ _ hk, decFs_encs hG hr]
          rfl
        · cases h
      · cases h
    · cases h
theorem decFs_ok {G : D → Option Ki} {n : Nat} (hG : ∀ d k, G d = some k → k.ok = true ∧ k.dep ≤ n) : ∀ {fs : List D} {F : Fs}, decFs G fs = some F → F.oks = true ∧ F.deps ≤ n
  | [], F, h => by cases h; exact ⟨rfl, Nat.zero_le _⟩
  | p :: t, F, h => by
    unfold decFs at h
    split at h
    · split at h
      · rename_i k hk
        split at h
        · rename_i r hr
          cases h
          obtain ⟨a1, a2⟩ := hG _ _ hk
          obtain ⟨b1, b2⟩ := decFs_ok hG hr
          refine ⟨?_, ?_⟩
          · show (k.ok && r.oks) = true
            rw [a1, b1]; rfl
          · show max k.dep r.deps ≤ n
            omega
        · cases h
      · cases h
    · cases h
theorem decK_enc : ∀ (l : Nat) (d : D) (k : Ki), decK l d = some k → d = k.enc ∧ k.ok = true ∧ k.dep ≤ l
  | 0, _, _, h => by cases h
  | l + 1, d, k, h => by
    unfold decK at h
    split at h
    · rename_i hk
      split at h
      · rename_i x
        cases h
        refine ⟨?_, rfl, by simp [Ki.dep]⟩
        cases x with
        | str w => rw [show w = SS "number" from of_decide_eq_true hk]; rfl
        | _ => cases hk
      · rename_i x i
        cases h
        cases x with
        | str w =>
          have hk' : (decide (w = SS "blank") && decide (0 ≤ i)) = true := hk
          obtain ⟨h1, h2⟩ := Bool.and_eq_true_iff.mp hk'
          rw [of_decide_eq_true h1]
          exact ⟨rfl, h2, by simp [Ki.dep]⟩
        | _ => cases hk
      · rename_i w fs x
        cases hF : decFs (decK l) fs with
        | none => rw [hF] at h; cases h
        | some F =>
          rw [hF] at h
          cases h
          have e1 := decFs_encs (fun d k h => (decK_enc l d k h).1) hF
          obtain ⟨o1, o2⟩ := decFs_ok (n := l) (fun d k h => (decK_enc l d k h).2) hF
          cases w with
          | str w =>
            have hk' : (decide (w = SS "record") && ((fldsF fs []).isSome && (isNon x || nbD x))) = true := hk
            obtain ⟨h1, h2⟩ := Bool.and_eq_true_iff.mp hk'
            obtain ⟨h3, h4⟩ := Bool.and_eq_true_iff.mp h2
            have hr : encR (decR x) = x ∧ okR (decR x) = true := by
              cases x with
              | non => exact ⟨rfl, rfl⟩
              | int i => exact ⟨rfl, h4⟩
              | _ => cases h4
            have h5 : riseF F.labs [] = true := by
              rw [flds_labs hF []] at h3
              by_cases q : riseF F.labs [] = true
              · exact q
              · rw [if_neg q] at h3; cases h3
            refine ⟨?_, ?_, ?_⟩
            · rw [of_decide_eq_true h1, e1]
              show _ = D.tup [.str (SS "record"), .tup F.encs, encR (decR x)]
              rw [hr.1]
            · show (riseF F.labs [] && okR (decR x) && F.oks) = true
              rw [h5, hr.2, o1]; rfl
            · show F.deps + 1 ≤ l + 1
              omega
          | _ => cases hk
      · cases h
    · cases h
theorem encs_flds {F : Fs} : ∀ L, fldsF F.encs L = if riseF F.labs L = true then some (L ++ F.labs) else none := by
  have go : ∀ (F : Fs) L, fldsF F.encs L = if riseF F.labs L = true then some (L ++ F.labs) else none := by
    intro F
    induction F using Fs.rec (motive_1 := fun _ => True) with
    | num => trivial
    | bl i => trivial
    | rc fs r ih => trivial
    | nil => intro L; simp [Fs.encs, fldsF, riseF, Fs.labs]
    | cons y k t ihk ih =>
      intro L
      show fldsF (.tup [.str y, k.enc] :: t.encs) L = if ((wdB y && lastLt L y) && riseF t.labs (L ++ [y])) = true then some (L ++ y :: t.labs) else none
      rw [fldsF]
      cases hc : (wdB y && lastLt L y) with
      | true =>
        simp only [if_true, Bool.true_and]
        rw [ih]
        simp
      | false => simp
  exact go F
theorem knot_enc : ∀ k : Ki, k.ok = true → knotD k.enc = true
  | .num, _ => decide_eq_true (rfl : SS "number" = SS "number")
  | .bl i, h => by
    show (decide (SS "blank" = SS "blank") && decide (0 ≤ i)) = true
    rw [decide_eq_true (rfl : SS "blank" = SS "blank"), show decide (0 ≤ i) = true from h]; rfl
  | .rc fs r, h => by
    have h' : (riseF fs.labs [] && okR r && fs.oks) = true := h
    obtain ⟨h1, h2⟩ := Bool.and_eq_true_iff.mp h'
    obtain ⟨h3, h4⟩ := Bool.and_eq_true_iff.mp h1
    show (decide (SS "record" = SS "record") && ((fldsF fs.encs []).isSome && (isNon (encR r) || nbD (encR r)))) = true
    rw [decide_eq_true (rfl : SS "record" = SS "record"), encs_flds, if_pos h3]
    cases r with
    | none => rfl
    | some i => show (true && (true && (false || decide (0 ≤ i)))) = true; rw [show decide (0 ≤ i) = true from h4]; rfl
mutual
theorem enc_decK : ∀ (k : Ki) (l : Nat), k.ok = true → k.dep ≤ l → decK l k.enc = some k
  | .num, 0, _, h => by simp [Ki.dep] at h
  | .bl i, 0, _, h => by simp [Ki.dep] at h
  | .rc fs r, 0, _, h => by simp [Ki.dep] at h
  | .num, l + 1, h, _ => by
    unfold decK
    rw [if_pos (knot_enc _ h)]
    rfl
  | .bl i, l + 1, h, _ => by
    unfold decK
    rw [if_pos (knot_enc _ h)]
    rfl
  | .rc fs r, l + 1, h, hd => by
    have h' : (riseF fs.labs [] && okR r && fs.oks) = true := h
    have h2 := (Bool.and_eq_true_iff.mp h').2
    have hd' : fs.deps + 1 ≤ l + 1 := hd
    unfold decK
    rw [if_pos (knot_enc _ h)]
    show (decFs (decK l) fs.encs).map (fun F => Ki.rc F (decR (encR r))) = _
    rw [encs_decFs fs l h2 (by omega)]
    cases r <;> rfl
theorem encs_decFs : ∀ (fs : Fs) (l : Nat), fs.oks = true → fs.deps ≤ l → decFs (decK l) fs.encs = some fs
  | .nil, _, _, _ => rfl
  | .cons y k t, l, h, hd => by
    have h' : (k.ok && t.oks) = true := h
    obtain ⟨h1, h2⟩ := Bool.and_eq_true_iff.mp h'
    have hd' : max k.dep t.deps ≤ l := hd
    show decFs (decK l) (.tup [.str y, k.enc] :: t.encs) = _
    unfold decFs
    simp only [enc_decK k l h1 (by omega), encs_decFs t l h2 (by omega)]
end
/-! ### knots counted -/
def sndD (p : D) : D := match p with | .tup [_, b] => b | _ => .non
/-- the kinds right within a knot -/
def kidsD (d : D) : List D := match d with | .tup [_, .tup fs, _] => fs.map sndD | _ => []
def valD (l : Nat) (d : D) : Option Nat := (decK l d).map Ki.kn
def addO2 : Option Nat → Option Nat → Option Nat | some a, some b => some (a + b) | _, _ => none
def vals (l : Nat) : List D → Option Nat
  | [] => some 0
  | d :: t => addO2 (valD l d) (vals l t)
theorem vals_dec (l : Nat) : ∀ {fs : List D}, (∀ p ∈ fs, ∃ y b, p = .tup [.str y, b]) → vals l (fs.map sndD) = (decFs (decK l) fs).map Fs.kns
  | [], _ => rfl
  | p :: t, h => by
    obtain ⟨y, b, rfl⟩ := h p List.mem_cons_self
    have ih := vals_dec l (fs := t) fun q hq => h q (List.mem_cons_of_mem _ hq)
    show addO2 (valD l b) (vals l (t.map sndD)) = _
    rw [ih, decFs]
    unfold valD
    cases decK l b with
    | none => rfl
    | some k =>
      cases decFs (decK l) t with
      | none => rfl
      | some r => rfl
theorem flds_pairs : ∀ {fs : List D} {L : List Str}, (fldsF fs L).isSome = true → ∀ p ∈ fs, ∃ y b, p = .tup [.str y, b]
  | [], _, _, p, hp => by cases hp
  | q :: t, L, h, p, hp => by
    rw [fldsF.eq_def] at h
    simp only at h
    split at h
    · rename_i y b
      split at h
      · rcases List.mem_cons.mp hp with rfl | hp
        · exact ⟨_, _, rfl⟩
        · exact flds_pairs h p hp
      · cases h
    · cases h
theorem knot_kids (d : D) (h : knotD d = true) : (∃ x, d = .tup [x]) ∨ (∃ x i, d = .tup [x, .int i]) ∨ (∃ fs x, d = .tup [.str (SS "record"), .tup fs, x] ∧ (fldsF fs []).isSome = true) := by
  unfold knotD at h
  split at h
  · exact .inl ⟨_, rfl⟩
  · rename_i w x
    obtain ⟨_, h2⟩ := Bool.and_eq_true_iff.mp h
    cases x with
    | int i => exact .inr (.inl ⟨_, _, rfl⟩)
    | _ => cases h2
  · rename_i w f x
    obtain ⟨h1, h2⟩ := Bool.and_eq_true_iff.mp h
    obtain ⟨h3, _⟩ := Bool.and_eq_true_iff.mp h2
    cases f with
    | tup fs => exact .inr (.inr ⟨fs, x, by rw [of_decide_eq_true h1], h3⟩)
    | _ => cases h3
  · cases h
theorem valD_step (l : Nat) (d : D) (h : knotD d = true) : valD (l + 1) d = (vals l (kidsD d)).map (· + 1) := by
  unfold valD decK
  rw [if_pos h]
  rcases knot_kids d h with ⟨x, rfl⟩ | ⟨x, i, rfl⟩ | ⟨fs, x, rfl, hf⟩
  · rfl
  · rfl
  · show ((decFs (decK l) fs).map fun F => Ki.rc F (decR x)).map Ki.kn = (vals l (fs.map sndD)).map (· + 1)
    rw [vals_dec l (flds_pairs hf)]
    cases decFs (decK l) fs <;> rfl
theorem valD_bad (l : Nat) (d : D) (h : knotD d = false) : valD l d = none := by
  cases l with
  | zero => rfl
  | succ l => unfold valD decK; rw [h]; rfl
mutual
/-- how much data -/
def szD : D → Nat
  | .lst xs => szsD xs + 1 | .tup xs => szsD xs + 1 | .scr xs => szsD xs + 1 | .par xs => szsD xs + 1
  | .non => 1 | .bl _ => 1 | .int _ => 1 | .str _ => 1 | .own _ => 1
def szsD : List D → Nat
  | [] => 0 | x :: xs => szD x + szsD xs
end
theorem szD_pos (d : D) : 0 < szD d := by cases d <;> simp [szD]
theorem szsD_len : ∀ ds : List D, ds.length ≤ szsD ds
  | [] => Nat.le_refl _
  | d :: ds => by
    have := szsD_len ds
    have := szD_pos d
    simp only [szsD, List.length_cons]
    omega
theorem szsD_mem : ∀ {ds : List D} {d : D}, d ∈ ds → szD d ≤ szsD ds
  | x :: xs, d, h => by
    rcases List.mem_cons.mp h with rfl | h
    · simp only [szsD]; omega
    · have := szsD_mem h
      simp only [szsD]; omega
theorem szsD_append : ∀ xs ys : List D, szsD (xs ++ ys) = szsD xs + szsD ys
  | [], ys => by simp [szsD]
  | x :: xs, ys => by
    have := szsD_append xs ys
    simp only [List.cons_append, szsD]
    omega
def Fs.kids : Fs → List Ki | .nil => [] | .cons _ k t => k :: t.kids
def Ki.kids : Ki → List Ki | .rc fs _ => fs.kids | _ => []
def Ki.num? : Ki → Option Int | .num => none | .bl i => some i | .rc _ r => r
def Ki.lab : Ki → Option (List Str) | .rc fs _ => some fs.labs | _ => none
def Ki.entry (k : Ki) : Ents := match k.num? with | none => [] | some i => [(i, k.lab)]
def knL : List Ki → Nat | [] => 0 | k :: t => k.kn + knL t
theorem knL_append : ∀ xs ys : List Ki, knL (xs ++ ys) = knL xs + knL ys
  | [], ys => by simp [knL]
  | x :: xs, ys => by
    have := knL_append xs ys
    simp only [List.cons_append, knL]
    omega
theorem knL_len : ∀ xs : List Ki, xs.length ≤ knL xs
  | [] => Nat.le_refl _
  | x :: xs => by
    have := knL_len xs
    have := x.kn_pos
    simp only [knL, List.length_cons]
    omega
theorem Fs.knL_kids : ∀ fs : Fs, knL fs.kids = fs.kns
  | .nil => rfl
  | .cons _ k t => by
    show k.kn + knL t.kids = k.kn + t.kns
    rw [Fs.knL_kids t]
theorem Ki.kn_kids (k : Ki) : k.kn = knL k.kids + 1 := by
  cases k with
  | num => rfl
  | bl i => rfl
  | rc fs r => show fs.kns + 1 = knL fs.kids + 1; rw [fs.knL_kids]
theorem Fs.oks_kids : ∀ (fs : Fs), fs.oks = true → ∀ c ∈ fs.kids, c.ok = true
  | .nil, _, c, h => by cases h
  | .cons _ k t, h, c, hc => by
    obtain ⟨h1, h2⟩ := Bool.and_eq_true_iff.mp (show (k.ok && t.oks) = true from h)
    rcases List.mem_cons.mp hc with rfl | hc
    · exact h1
    · exact Fs.oks_kids t h2 c hc
theorem Ki.ok_kids (k : Ki) (h : k.ok = true) : ∀ c ∈ k.kids, c.ok = true := by
  cases k with
  | num => intro c hc; cases hc
  | bl i => intro c hc; cases hc
  | rc fs r => exact fs.oks_kids (Bool.and_eq_true_iff.mp (show (riseF fs.labs [] && okR r && fs.oks) = true from h)).2
/-- the entries as they are met -/
def popE : Nat → List Ki → Ents
  | 0, _ => []
  | n + 1, X => match X.getLast? with
    | none => []
    | some k => k.entry ++ popE n (X.dropLast ++ k.kids)
def entsL : List Ki → Ents | [] => [] | k :: t => k.ents ++ entsL t
theorem entsL_append : ∀ xs ys : List Ki, entsL (xs ++ ys) = entsL xs ++ entsL ys
  | [], ys => rfl
  | x :: xs, ys => by
    show x.ents ++ entsL (xs ++ ys) = (x.ents ++ entsL xs) ++ entsL ys
    rw [entsL_append xs ys, List.append_assoc]
theorem Fs.entsL_kids : ∀ fs : Fs, entsL fs.kids = fs.entss
  | .nil => rfl
  | .cons _ k t => by
    show k.ents ++ entsL t.kids = k.ents ++ t.entss
    rw [Fs.entsL_kids t]
theorem Ki.mem_ents (k : Ki) (e : Int × Option (List Str)) : e ∈ k.ents ↔ e ∈ k.entry ∨ e ∈ entsL k.kids := by
  cases k with
  | num => simp [Ki.ents, Ki.entry, Ki.num?, Ki.kids, entsL]
  | bl i => simp [Ki.ents, Ki.entry, Ki.num?, Ki.kids, entsL, Ki.lab]
  | rc fs r =>
    show e ∈ fs.entss ++ (match r with | none => [] | some i => [(i, some fs.labs)]) ↔ e ∈ (match r with | none => [] | some i => [(i, some fs.labs)]) ∨ e ∈ entsL fs.kids
    rw [fs.entsL_kids, List.mem_append]
    exact Or.comm
theorem popE_mem : ∀ (n : Nat) (X : List Ki), knL X ≤ n → ∀ e, e ∈ popE n X ↔ e ∈ entsL X
  | 0, X, h, e => by
    have := knL_len X
    cases X with
    | nil => simp [popE, entsL]
    | cons _ _ => simp at this; omega
  | n + 1, X, h, e => by
    rcases List.eq_nil_or_concat X with rfl | ⟨Y, k, rfl⟩
    · simp [popE, entsL]
    · rw [List.concat_eq_append] at *
      have ek := k.kn_kids
      have h1 : knL (Y ++ [k]) = knL Y + k.kn := by rw [knL_append]; simp [knL]
      unfold popE
      rw [List.getLast?_concat, List.dropLast_concat]
      simp only
      rw [List.mem_append, popE_mem n (Y ++ k.kids) (by rw [knL_append]; omega) e, entsL_append, entsL_append, List.mem_append, List.mem_append]
      have : entsL [k] = k.ents := by simp [entsL]
      rw [this, Ki.mem_ents]
      constructor
      · rintro (h | h | h)
        · exact .inr (.inl h)
        · exact .inl h
        · exact .inr (.inr h)
      · rintro (h | h | h)
        · exact .inr (.inl h)
        · exact .inl h
        · exact .inr (.inr h)
/-! ### the table -/
def lkE (m : Ents) (i : Int) : Option (Option (List Str)) := (m.find? fun q => decide (q.1 = i)).map (·.2)
def putE (m : Ents) (e : Int × Option (List Str)) : Option Ents := match lkE m e.1 with
  | some w => if w = e.2 then some m else none
  | none => some (m ++ [e])
def putAll : Ents → Ents → Option Ents
  | m, [] => some m
  | m, e :: es => match putE m e with | some m' => putAll m' es | none => none
theorem putAll_append : ∀ (m a b : Ents), putAll m (a ++ b) = (putAll m a).bind fun m' => putAll m' b
  | m, [], b => rfl
  | m, e :: a, b => by
    show (match putE m e with | some m' => putAll m' (a ++ b) | none => none) = (match putE m e with | some m' => putAll m' a | none => none).bind _
    cases putE m e with
    | none => rfl
    | some m' => exact putAll_append m' a b
def Cons (es : Ents) : Prop := ∀ p ∈ es, ∀ q ∈ es, p.1 = q.1 → p.2 = q.2
def ND (m : Ents) : Prop := (m.map (·.1)).Nodup
theorem lkE_none {m : Ents} {i : Int} (h : lkE m i = none) : ∀ p ∈ m, p.1 ≠ i := fun p hp e => by
  have : m.find? (fun q => decide (q.1 = i)) = none := by
    unfold lkE at h
    cases q : m.find? (fun q => decide (q.1 = i)) with
    | none => rfl
    | some x => rw [q] at h; cases h
  have := List.find?_eq_none.mp this p hp
  simp [e] at this
theorem lkE_some {m : Ents} {i : Int} {w : Option (List Str)} (h : lkE m i = some w) : (i, w) ∈ m := by
  unfold lkE at h
  cases q : m.find? (fun q => decide (q.1 = i)) with
  | none => rw [q] at h; cases h
  | some x =>
    rw [q] at h
    cases h
    have h1 := List.mem_of_find?_eq_some q
    have h2 := List.find?_some q
    have : x.1 = i := of_decide_eq_true h2
    subst this
    exact h1
theorem nd_uni : ∀ {m : Ents}, ND m → ∀ p ∈ m, ∀ q ∈ m, p.1 = q.1 → p = q
  | [], _, p, hp, _, _, _ => by cases hp
  | x :: m, nd, p, hp, q, hq, e => by
    unfold ND at nd
    rw [List.map_cons, List.nodup_cons] at nd
    rcases List.mem_cons.mp hp with h1 | h1
    · rcases List.mem_cons.mp hq with h2 | h2
      · rw [h1, h2]
      · exact (nd.1 (List.mem_map.mpr ⟨q, h2, by rw [← e, h1]⟩)).elim
    · rcases List.mem_cons.mp hq with h2 | h2
      · exact (nd.1 (List.mem_map.mpr ⟨p, h1, by rw [e, h2]⟩)).elim
      · exact nd_uni nd.2 p h1 q h2 e
theorem nd_put {m m' : Ents} {e : Int × Option (List Str)} (nd : ND m) (h : putE m e = some m') : ND m' ∧ (∀ p, p ∈ m' ↔ p ∈ m ∨ p = e) := by
  unfold putE at h
  split at h
  · rename_i w hw
    split at h
    · rename_i hv
      cases h
      refine ⟨nd, fun p => ⟨.inl, fun z => z.elim id fun z => ?_⟩⟩
      have := lkE_some hw
      rw [hv] at this
      rw [z]
      exact this
    · cases h
  · rename_i hw
    cases h
    refine ⟨?_, fun p => by simp⟩
    unfold ND
    rw [List.map_append, List.nodup_append]
    refine ⟨nd, by simp, fun a ha b hb => ?_⟩
    obtain ⟨p, hp, rfl⟩ := List.mem_map.mp ha
    rw [show b = e.1 by simpa using hb]
    exact lkE_none hw p hp
theorem putAll_ok : ∀ {es m m' : Ents}, ND m → putAll m es = some m' → ND m' ∧ (∀ p, p ∈ m' ↔ p ∈ m ∨ p ∈ es)
  | [], m, m', nd, h => by cases h; exact ⟨nd, fun p => by simp⟩
  | e :: es, m, m', nd, h => by
    unfold putAll at h
    split at h
    · rename_i m1 h1
      obtain ⟨n1, q1⟩ := nd_put nd h1
      obtain ⟨n2, q2⟩ := putAll_ok n1 h
      refine ⟨n2, fun p => ?_⟩
      rw [q2, q1, List.mem_cons]
      exact ⟨fun z => z.elim (fun z => z.elim .inl fun z => .inr (.inl z)) fun z => .inr (.inr z), fun z => z.elim (fun z => .inl (.inl z)) fun z => z.elim (fun z => .inl (.inr z)) .inr⟩
    · cases h
theorem putAll_cons {es m m' : Ents} (nd : ND m) (h : putAll m es = some m') : Cons (m ++ es) := fun p hp q hq e => by
  obtain ⟨n1, q1⟩ := putAll_ok nd h
  have a := (q1 p).mpr (List.mem_append.mp hp)
  have b := (q1 q).mpr (List.mem_append.mp hq)
  rw [nd_uni n1 p a q b e]
theorem cons_putAll : ∀ {es m : Ents}, ND m → Cons (m ++ es) → ∃ m', putAll m es = some m'
  | [], m, _, _ => ⟨m, rfl⟩
  | e :: es, m, nd, h => by
    have hput : ∃ m1, putE m e = some m1 := by
      unfold putE
      cases hw : lkE m e.1 with
      | none => exact ⟨_, rfl⟩
      | some w =>
        have := h (e.1, w) (by simp [lkE_some hw]) e (by simp) rfl
        have this' : w = e.2 := this
        exact ⟨m, by simp [this']⟩
    obtain ⟨m1, h1⟩ := hput
    obtain ⟨n1, q1⟩ := nd_put nd h1
    have hc : Cons (m1 ++ es) := fun p hp q hq ee => h p (by
      rcases List.mem_append.mp hp with z | z
      · rcases (q1 p).mp z with z | z
        · simp [z]
        · simp [z]
      · simp [z]) q (by
      rcases List.mem_append.mp hq with z | z
      · rcases (q1 q).mp z with z | z
        · simp [z]
        · simp [z]
      · simp [z]) ee
    obtain ⟨m', h'⟩ := cons_putAll n1 hc
    exact ⟨m', by unfold putAll; rw [h1]; exact h'⟩
/-! ### as data -/
def encLab : Option (List Str) → D | none => .non | some L => .tup (L.map D.str)
def encM (m : Ents) : List (Key × D) := m.map fun q => (Sum.inl q.1, encLab q.2)
theorem atD_encM (i : Int) : ∀ m : Ents, atD (encM m) (.inl i) = (lkE m i).map encLab
  | [] => rfl
  | q :: m => by
    have ih := atD_encM i m
    unfold atD lkE encM at *
    rw [List.map_cons, List.find?_cons, List.find?_cons]
    by_cases e : q.1 = i
    · simp [e]
    · have e' : ¬ ((Sum.inl q.1 : Key) = Sum.inl i) := fun h => e (Sum.inl.inj h)
      simp only [e, e', decide_false]
      exact ih
theorem any_encM (m : Ents) (i : Int) : ((encM m).any fun q => decide (q.1 = (Sum.inl i : Key))) = (lkE m i).isSome := by
  have h := atD_encM i m
  unfold atD at h
  have : ((encM m).any fun q => decide (q.1 = (Sum.inl i : Key))) = ((encM m).find? fun q => decide (q.1 = (Sum.inl i : Key))).isSome := by
    rw [Bool.eq_iff_iff, List.any_eq_true, List.find?_isSome]
  rw [this]
  cases e1 : (encM m).find? (fun q => decide (q.1 = (Sum.inl i : Key))) <;> cases e2 : lkE m i <;> rw [e1, e2] at h <;> first | rfl | cases h
theorem putD_encM {m m' : Ents} {e : Int × Option (List Str)} (nd : ND m) (h : putE m e = some m') : putD (encM m) (.inl e.1) (encLab e.2) = encM m' := by
  unfold putD
  rw [any_encM]
  unfold putE at h
  split at h
  · rename_i w hw
    split at h
    · rename_i hv
      cases h
      rw [hw]
      simp only [Option.isSome_some, if_true]
      unfold encM
      rw [List.map_map]
      refine List.map_congr_left fun q hq => ?_
      by_cases c : q.1 = e.1
      · have := nd_uni nd q hq (e.1, w) (lkE_some hw) c
        simp [this, hv]
      · simp [c]
    · cases h
  · rename_i hw
    cases h
    rw [hw]
    simp [encM]
theorem wd_strOk {x : Str} (h : wdB x = true) : PyData.strOk x = true := by
  unfold wdB at h
  obtain ⟨_, h2⟩ := Bool.and_eq_true_iff.mp h
  unfold PyData.strOk
  rw [Array.all_eq_true']
  intro c hc
  have := List.all_eq_true.mp h2 c (by simpa using hc)
  have := of_decide_eq_true (Bool.and_eq_true_iff.mp this).2
  exact decide_eq_true (by omega)
theorem rise_words : ∀ {ys L : List Str}, riseF ys L = true → ∀ y ∈ ys, wdB y = true
  | [], _, _, y, hy => by cases hy
  | z :: ys, L, h, y, hy => by
    obtain ⟨h1, h2⟩ := Bool.and_eq_true_iff.mp (show ((wdB z && lastLt L z) && riseF ys (L ++ [z])) = true from h)
    rcases List.mem_cons.mp hy with rfl | hy
    · exact (Bool.and_eq_true_iff.mp h1).1
    · exact rise_words h2 y hy
def OkLab (v : Option (List Str)) : Prop := ∀ L, v = some L → ∀ y ∈ L, wdB y = true
theorem Ki.okLab (k : Ki) (h : k.ok = true) : OkLab k.lab := by
  cases k with
  | num => intro L e; cases e
  | bl i => intro L e; cases e
  | rc fs r =>
    intro L e
    cases e
    have h' : (riseF fs.labs [] && okR r && fs.oks) = true := h
    exact rise_words (Bool.and_eq_true_iff.mp (Bool.and_eq_true_iff.mp h').1).1
theorem cl_strs {L : List Str} (h : ∀ y ∈ L, wdB y = true) : cls (L.map D.str) = true := by
  rw [cls_iff]
  intro d hd
  obtain ⟨y, hy, rfl⟩ := List.mem_map.mp hd
  exact wd_strOk (h y hy)
theorem dp_strs (L : List Str) : dpsD (L.map D.str) ≤ 0 := dps_le fun d hd => by
  obtain ⟨y, _, rfl⟩ := List.mem_map.mp hd
  exact Nat.le_of_eq (dp_str y)
theorem lab_ne {v w : Option (List Str)} (s : Sto) (hv : OkLab v) (hw : OkLab w) : eqO true s (encLab v) (encLab w) = some (.bl (!decide (v = w))) := by
  have inj : (encLab v = encLab w) ↔ v = w := by
    constructor
    · intro h
      cases v with
      | none => cases w with | none => rfl | some M => cases h
      | some L =>
        cases w with
        | none => cases h
        | some M =>
          have h' : L.map D.str = M.map D.str := by injection h
          have : L = M := (List.map_inj_right fun a b e => by injection e).mp h'
          rw [this]
    · intro h; rw [h]
  have c : ∀ {v}, OkLab v → cl (encLab v) = true ∧ dpD (encLab v) ≤ 64 := fun {v} h => by
    cases v with
    | none => exact ⟨rfl, by rw [show encLab none = .non from rfl, dp_non]; omega⟩
    | some L => exact ⟨cl_strs (h L rfl), by
        rw [show encLab (some L) = .tup (L.map D.str) from rfl, dp_tup]
        have := dp_strs L
        omega⟩
  rw [eqO_cl (c hv).1 (c hw).1 (c hv).2 (c hw).2]
  congr 2
  show (!decide _) = _
  congr 1
  exact decide_eq_decide.mpr inj
theorem wd_len {x : Str} (h : wdB x = true) : x.length ≤ 8 := by
  unfold wdB at h
  have h1 := (Bool.and_eq_true_iff.mp h).1
  have := of_decide_eq_true (Bool.and_eq_true_iff.mp h1).2
  omega
theorem word_pd (x : String) (h : (decide ((SS x).length ≤ 1000000)) = true) : pd (.str (SS x)) = true := h
mutual
theorem Ki.pd : ∀ (k : Ki), k.ok = true → PD.pd k.enc = true
  | .num, _ => pds_iff.mpr fun x hx => by
      rw [List.mem_singleton.mp hx]
      exact word_pd _ (by decide +kernel)
  | .bl i, _ => pds_iff.mpr fun x hx => by
      simp only [List.mem_cons, List.not_mem_nil, or_false] at hx
      rcases hx with rfl | rfl
      · exact word_pd _ (by decide +kernel)
      · rfl
  | .rc fs r, h => pds_iff.mpr fun x hx => by
      have h' : (riseF fs.labs [] && okR r && fs.oks) = true := h
      simp only [List.mem_cons, List.not_mem_nil, or_false] at hx
      rcases hx with rfl | rfl | rfl
      · exact word_pd _ (by decide +kernel)
      · exact Fs.pd fs (Bool.and_eq_true_iff.mp h').2 (rise_words (Bool.and_eq_true_iff.mp (Bool.and_eq_true_iff.mp h').1).1)
      · cases r <;> rfl
theorem Fs.pd : ∀ (fs : Fs), fs.oks = true → (∀ y ∈ fs.labs, wdB y = true) → pds fs.encs = true
  | .nil, _, _ => rfl
  | .cons y k t, h, hl => by
    obtain ⟨h1, h2⟩ := Bool.and_eq_true_iff.mp (show (k.ok && t.oks) = true from h)
    show (PD.pd (.tup [.str y, k.enc]) && pds t.encs) = true
    have hy : PD.pd (.str y) = true := decide_eq_true (by have := wd_len (hl y List.mem_cons_self); omega)
    have e : PD.pd (.tup [.str y, k.enc]) = true := pds_iff.mpr fun x hx => by
      simp only [List.mem_cons, List.not_mem_nil, or_false] at hx
      rcases hx with rfl | rfl
      · exact hy
      · exact Ki.pd k h1
    rw [e, Fs.pd t h2 fun z hz => hl z (List.mem_cons_of_mem _ hz)]
    rfl
end
mutual
theorem Ki.sz : ∀ k : Ki, szD k.enc + 2 ≤ 6 * k.kn
  | .num => by simp [Ki.enc, szD, szsD, Ki.kn]
  | .bl i => by simp [Ki.enc, szD, szsD, Ki.kn]
  | .rc fs r => by
    have := Fs.sz fs
    have hr : szD (encR r) = 1 := by cases r <;> simp [encR, szD]
    simp only [Ki.enc, szD, szsD, Ki.kn, hr]
    omega
theorem Fs.sz : ∀ fs : Fs, szsD fs.encs ≤ 6 * fs.kns
  | .nil => by simp [Fs.encs, szsD, Fs.kns]
  | .cons y k t => by
    have a := Ki.sz k
    have b := Fs.sz t
    have c := k.kn_pos
    simp only [Fs.encs, szD, szsD, Fs.kns]
    omega
end
theorem kids_enc (k : Ki) : kidsD k.enc = k.kids.map Ki.enc := by
  have go : ∀ fs : Fs, fs.encs.map sndD = fs.kids.map Ki.enc := by
    intro fs
    induction fs using Fs.rec (motive_1 := fun _ => True) with
    | num => trivial
    | bl i => trivial
    | rc fs r ih => trivial
    | nil => rfl
    | cons y k t _ ih =>
      show k.enc :: t.encs.map sndD = k.enc :: t.kids.map Ki.enc
      rw [ih]
  cases k with
  | num => rfl
  | bl i => rfl
  | rc fs r => exact go fs
end Qk

set_option Elab.async false
set_option linter.all false
set_option maxRecDepth 100000
set_option maxHeartbeats 8000000
namespace Pr
open PySem PySem.Spec PyProof.Rows L2 PD
def topS (i : Nat) : Stmt := PySem.Challenge.pw_fieldrest_k05_values_of_kinds.main.body.getD i (.Pass ⟨0, 0, 0, 0⟩)
/-! is_number -/
theorem sc_is_number : FnScope [("value" : PySem.Str)] [("value" : PySem.Str)] (defScope (topS 2)) := ⟨rfl, rfl, rfl, by decide +kernel, rfl, by decide +kernel, by decide +kernel⟩
noncomputable def g_is_number : SD := (retS (fAndV (f1 (isiO "int") (fVar 0)) (f1 notO (f1 (isiO "bool") (fVar 0)))))
noncomputable def D_is_number : List D → M D := fnD false 1 g_is_number
/-! has_labels -/
theorem sc_has_labels : FnScope [("fields" : PySem.Str), ("kind" : PySem.Str), ("label" : PySem.Str), ("inner" : PySem.Str)] [("fields" : PySem.Str), ("kind" : PySem.Str)] (defScope (topS 3)) := ⟨rfl, rfl, rfl, by decide +kernel, rfl, by decide +kernel, by decide +kernel⟩
noncomputable def g_has_labels : SD := (seqS (forS (tdTup (tdCons (tdName 2) (tdCons (tdName 3) tdNil))) (fIt (f2 ixO (fVar 1) (fC (.int 1)))) (ifS (fB (f2 (dinO true) (fVar 2) (fVar 0))) (retS (fC (.bl false))) nextS))
    (retS (fOrV (f2 (isNO true) (f2 ixO (fVar 1) (fC (.int 2))) (fC .non)) (f2 (eqO false) (fN lenXO (fCons (fVar 0) fNil)) (fN lenO (fCons (f2 ixO (fVar 1) (fC (.int 1))) fNil))))))
noncomputable def D_has_labels : List D → M D := fnD false 4 g_has_labels
/-! is_of -/
theorem sc_is_of : FnScope [("value" : PySem.Str), ("kind" : PySem.Str), ("waiting" : PySem.Str), ("here" : PySem.Str), ("due" : PySem.Str), ("fields" : PySem.Str), ("label" : PySem.Str), ("inner" : PySem.Str)] [("value" : PySem.Str), ("kind" : PySem.Str)] (defScope (topS 1)) := ⟨rfl, rfl, rfl, by decide +kernel, rfl, by decide +kernel, by decide +kernel⟩
noncomputable def g_is_of : SD := (seqS (setS 2 (fOwn (fCons (fTup (fCons (fVar 0) (fCons (fVar 1) fNil))) fNil)))
    (seqS (whileS (fTru (fVar 2)) (seqS (asgS (tdTup (tdCons (tdName 3) (tdCons (tdName 4) tdNil))) (fM0 popM (fVar 2)))
    (seqS (ifS (fAnd (fB (f2 (eqO false) (f2 ixO (fVar 4) (fC (.int 0))) (fC (.str (PySem.Str.ofString "number"))))) (fNot (fTru (fCall 1 D_is_number (fCons (fVar 3) fNil))))) (retS (fC (.bl false))) nextS)
    (ifS (fB (f2 (eqO false) (f2 ixO (fVar 4) (fC (.int 0))) (fC (.str (PySem.Str.ofString "record"))))) (seqS (ifS (fOr (fTru (fCall 1 D_is_number (fCons (fVar 3) fNil))) (fNot (fTru (fCall 2 D_has_labels (fCons (fNM dictO (fCons (fVar 3) fNil)) (fCons (fVar 4) fNil)))))) (retS (fC (.bl false))) nextS)
    (seqS (setS 5 (fNM dictO (fCons (fVar 3) fNil)))
    (exprS (fM1 extendM (fVar 2) (fCons (fLc (tdTup (tdCons (tdName 6) (tdCons (tdName 7) tdNil))) fYes (fTup (fCons (f2 dgetO (fVar 5) (fVar 6)) (fCons (fVar 7) fNil))) (fIt (f2 ixO (fVar 4) (fC (.int 1)))) [6, 7]) fNil))))) nextS))))
    (retS (fC (.bl true)))))
noncomputable def D_is_of : List D → M D := fnD false 8 g_is_of
/-! cell -/
theorem sc_cell : FnScope [("_law_script" : PySem.Str), ("_law_k" : PySem.Str)] [("_law_script" : PySem.Str), ("_law_k" : PySem.Str)] (defScope (topS 5)) := ⟨rfl, rfl, rfl, by decide +kernel, rfl, by decide +kernel, by decide +kernel⟩
noncomputable def g_cell : SD := (seqS (ifS (fB (f2 ltO (fVar 1) (fN lenO (fCons (fVar 0) fNil)))) (retS (f2 modO (f2 mulO (f2 ixO (fVar 0) (fVar 1)) (fC (.int 48271))) (fC (.int 2147483647)))) nextS)
    (retS (fC (.int 0))))
noncomputable def D_cell : List D → M D := fnD false 2 g_cell
/-! next -/
theorem sc_next : FnScope [("_law_state" : PySem.Str)] [("_law_state" : PySem.Str)] (defScope (topS 6)) := ⟨rfl, rfl, rfl, by decide +kernel, rfl, by decide +kernel, by decide +kernel⟩
noncomputable def g_next : SD := (seqS (setIxS (f2 modO (f2 addO (f2 mulO (f2 ixO (fVar 0) (fC (.int 0))) (fC (.int 48271))) (fC (.int 11))) (fC (.int 2147483647))) (fVar 0) (fC (.int 0)))
    (seqS (setIxS (f2 subO (f2 ixO (fVar 0) (fC (.int 1))) (fC (.int 1))) (fVar 0) (fC (.int 1)))
    (retS (f2 fdivO (f2 ixO (fVar 0) (fC (.int 0))) (fC (.int 7))))))
noncomputable def D_next : List D → M D := fnD false 1 g_next
/-! labels -/
theorem sc_labels : FnScope [("_law_cell_here" : PySem.Str), ("_law_many" : PySem.Str), ("_law_signs" : PySem.Str), ("_law_size" : PySem.Str), ("_law_at" : PySem.Str), ("_law_step" : PySem.Str), ("_law_base" : PySem.Str), ("_law_k" : PySem.Str), ("_law_found" : PySem.Str), ("_law_sign" : PySem.Str)] [("_law_cell_here" : PySem.Str), ("_law_many" : PySem.Str)] (defScope (topS 7)) := ⟨rfl, rfl, rfl, by decide +kernel, rfl, by decide +kernel, by decide +kernel⟩
noncomputable def g_labels : SD := (seqS (setS 2 (fC (.str (PySem.Str.ofString "abcdefghijklmnopqrstuvwxyz"))))
    (seqS (setS 3 (f2 modO (fVar 0) (fC (.int 7))))
    (seqS (setS 4 (f2 modO (f2 fdivO (fVar 0) (fC (.int 7))) (f2 addO (fVar 3) (fC (.int 1)))))
    (seqS (setS 5 (f2 modO (f2 fdivO (fVar 0) (fC (.int 49))) (fC (.int 26))))
    (seqS (setS 6 (fJoin (fC (.str (PySem.Str.ofString ""))) (fLc (tdName 7) fYes (f2 ixO (fVar 2) (f2 modO (f2 addO (fVar 5) (f2 mulO (f2 fdivO (fVar 0) (fC (.int 1274))) (fVar 7))) (fC (.int 26)))) (fRng1 (fVar 3)) [7])))
    (seqS (setS 8 (fOwn fNil))
    (seqS (forS (tdName 7) (fRng1 (fVar 1)) (seqS (setS 9 (f2 ixO (fVar 2) (f2 modO (f2 addO (f2 fdivO (fVar 0) (fC (.int 49))) (f2 mulO (fC (.int 3)) (fVar 7))) (fC (.int 26)))))
    (exprS (fM1 appendM (fVar 8) (fCons (f2 addO (f2 addO (fSl (fVar 6) fNo (fSome (fVar 4))) (fVar 9)) (fSl (fVar 6) (fSome (fVar 4)) fNo)) fNil)))))
    (retS (fVar 8)))))))))
noncomputable def D_labels : List D → M D := fnD false 10 g_labels
/-! kind -/
theorem sc_kind : FnScope [("_law_state" : PySem.Str), ("_law_labels_here" : PySem.Str), ("_law_met" : PySem.Str), ("_law_left" : PySem.Str), ("_law_number" : PySem.Str), ("_law_picked" : PySem.Str), ("_law_words" : PySem.Str), ("_law_label" : PySem.Str), ("_law_fields" : PySem.Str)] [("_law_state" : PySem.Str), ("_law_labels_here" : PySem.Str), ("_law_met" : PySem.Str), ("_law_left" : PySem.Str)] (defScope (topS 8)) := ⟨rfl, rfl, rfl, by decide +kernel, rfl, by decide +kernel, by decide +kernel⟩
noncomputable def g_kind (D_kind : List D → M D) : SD := (seqS (setS 4 (fCall 1 D_next (fCons (fVar 0) fNil)))
    (seqS (ifS (fOr (fB (f2 leO (fVar 3) (fC (.int 1)))) (fOr (fB (f2 leO (f2 ixO (fVar 0) (fC (.int 1))) (fC (.int 0)))) (fB (f2 ltO (f2 modO (fVar 4) (fC (.int 7))) (fC (.int 2)))))) (retS (fTup (fCons (fC (.str (PySem.Str.ofString "number"))) fNil))) nextS)
    (seqS (ifS (fB (f2 (eqO false) (f2 modO (fVar 4) (fC (.int 7))) (fC (.int 2)))) (retS (fTup (fCons (fC (.str (PySem.Str.ofString "blank"))) (fCons (f2 mulO (f2 mulO (f2 ixO (fVar 2) (fC (.int 0))) (fC (.int 2))) (f2 modO (f2 fdivO (fVar 4) (fC (.int 7))) (fC (.int 3)))) fNil)))) nextS)
    (seqS (setS 5 (fSl (fLst (fCons (f2 ixO (fVar 1) (f2 modO (f2 fdivO (fVar 4) (fC (.int 7))) (fC (.int 4)))) (fCons (f2 ixO (fVar 1) (f2 modO (f2 fdivO (fVar 4) (fC (.int 28))) (fC (.int 4)))) (fCons (f2 ixO (fVar 1) (f2 modO (f2 fdivO (fVar 4) (fC (.int 112))) (fC (.int 4)))) fNil)))) fNo (fSome (f2 modO (f2 fdivO (fVar 4) (fC (.int 448))) (fC (.int 4))))))
    (seqS (setS 6 (fLc (tdName 7) (fB (f2 (inO false) (fVar 7) (fVar 5))) (fVar 7) (fIt (fN sortedO (fCons (fVar 1) fNil))) [7]))
    (seqS (setS 8 (fN tupleO (fCons (fLc (tdName 7) fYes (fTup (fCons (fVar 7) (fCons (fCall 4 D_kind (fCons (fVar 0) (fCons (fVar 1) (fCons (fVar 2) (fCons (f2 subO (fVar 3) (fC (.int 1))) fNil))))) fNil))) (fIt (fVar 6)) [7]) fNil)))
    (seqS (ifS (fB (f2 (eqO false) (f2 modO (f2 fdivO (fVar 4) (fC (.int 1792))) (fC (.int 2))) (fC (.int 0)))) (retS (fTup (fCons (fC (.str (PySem.Str.ofString "record"))) (fCons (fVar 8) (fCons (fC .non) fNil))))) nextS)
    (seqS (ifS (fB (f2 (inO true) (fVar 6) (f2 ixO (fVar 2) (fC (.int 1))))) (exprS (fM1 appendM (f2 ixO (fVar 2) (fC (.int 1))) (fCons (fVar 6) fNil))) nextS)
    (retS (fTup (fCons (fC (.str (PySem.Str.ofString "record"))) (fCons (fVar 8) (fCons (f2 mulO (f2 ixO (fVar 2) (fC (.int 0))) (f2 addO (fC (.int 1)) (f2 mulO (fC (.int 2)) (fMP isLs indexO (f2 ixO (fVar 2) (fC (.int 1))) (fCons (fVar 6) fNil))))) fNil)))))))))))))
noncomputable def R_kind : Nat → (List D → M D)
  | 0 => fun _ _ => none
  | n + 1 => fnD false 9 (g_kind (R_kind n))
noncomputable def D_kind : List D → M D := (R_kind 14)
/-! any -/
theorem sc_any : FnScope [("_law_state" : PySem.Str), ("_law_labels_here" : PySem.Str), ("_law_left" : PySem.Str), ("_law_number" : PySem.Str), ("_law_words" : PySem.Str), ("_law_label" : PySem.Str)] [("_law_state" : PySem.Str), ("_law_labels_here" : PySem.Str), ("_law_left" : PySem.Str)] (defScope (topS 9)) := ⟨rfl, rfl, rfl, by decide +kernel, rfl, by decide +kernel, by decide +kernel⟩
noncomputable def g_any (D_any : List D → M D) : SD := (seqS (setS 3 (fCall 1 D_next (fCons (fVar 0) fNil)))
    (seqS (ifS (fOr (fB (f2 leO (fVar 2) (fC (.int 1)))) (fB (f2 (eqO false) (f2 modO (fVar 3) (fC (.int 2))) (fC (.int 0))))) (retS (f2 ixO (fLst (fCons (f2 modO (f2 fdivO (fVar 3) (fC (.int 2))) (fC (.int 5))) (fCons (f2 subO (f2 modO (f2 fdivO (fVar 3) (fC (.int 2))) (f2 mulO (fC (.int 2)) (f2 powO (fC (.int 10)) (fC (.int 12))))) (f2 powO (fC (.int 10)) (fC (.int 12)))) fNil))) (f2 modO (f2 fdivO (fVar 3) (fC (.int 20))) (fC (.int 2))))) nextS)
    (seqS (setS 4 (fLc (tdName 5) (fB (f2 (eqO false) (f2 modO (fCall 1 D_next (fCons (fVar 0) fNil)) (fC (.int 2))) (fC (.int 0)))) (fVar 5) (fIt (fN sortedO (fCons (fVar 1) fNil))) [5]))
    (retS (fN tupleO (fCons (fLc (tdName 5) fYes (fTup (fCons (fVar 5) (fCons (fCall 3 D_any (fCons (fVar 0) (fCons (fVar 1) (fCons (f2 subO (fVar 2) (fC (.int 1))) fNil)))) fNil))) (fIt (fVar 4)) [5]) fNil))))))
noncomputable def R_any : Nat → (List D → M D)
  | 0 => fun _ _ => none
  | n + 1 => fnD false 6 (g_any (R_any n))
noncomputable def D_any : List D → M D := (R_any 5)
/-! value -/
theorem sc_value : FnScope [("_law_state" : PySem.Str), ("_law_kind_here" : PySem.Str), ("_law_labels_here" : PySem.Str), ("_law_fields" : PySem.Str), ("_law_label" : PySem.Str), ("_law_inner" : PySem.Str)] [("_law_state" : PySem.Str), ("_law_kind_here" : PySem.Str), ("_law_labels_here" : PySem.Str)] (defScope (topS 10)) := ⟨rfl, rfl, rfl, by decide +kernel, rfl, by decide +kernel, by decide +kernel⟩
noncomputable def g_value (D_value : List D → M D) : SD := (seqS (ifS (fB (f2 (eqO false) (f2 ixO (fVar 1) (fC (.int 0))) (fC (.str (PySem.Str.ofString "blank"))))) (retS (fCall 3 D_any (fCons (fVar 0) (fCons (fVar 2) (fCons (fC (.int 3)) fNil))))) nextS)
    (seqS (ifS (fB (f2 (eqO false) (f2 ixO (fVar 1) (fC (.int 0))) (fC (.str (PySem.Str.ofString "number"))))) (retS (fCall 3 D_any (fCons (fVar 0) (fCons (fVar 2) (fCons (fC (.int 1)) fNil))))) nextS)
    (seqS (setS 3 fDNew)
    (seqS (forS (tdTup (tdCons (tdName 4) (tdCons (tdName 5) tdNil))) (fIt (f2 ixO (fVar 1) (fC (.int 1)))) (putIxS (fCall 3 D_value (fCons (fVar 0) (fCons (fVar 5) (fCons (fVar 2) fNil)))) (fVar 3) (fVar 4)))
    (seqS (ifS (fB (f2 (isNO true) (f2 ixO (fVar 1) (fC (.int 2))) (fC .non))) (forS (tdName 4) (fIt (f2 addO (fVar 2) (fLst (fCons (fC (.str (PySem.Str.ofString "zzzzzzzz"))) (fCons (fC (.str (PySem.Str.ofString "a"))) fNil))))) (ifS (fAnd (fB (f2 (dinO true) (fVar 4) (fVar 3))) (fB (f2 (eqO false) (f2 modO (fCall 1 D_next (fCons (fVar 0) fNil)) (fC (.int 2))) (fC (.int 0))))) (putIxS (fCall 3 D_any (fCons (fVar 0) (fCons (fVar 2) (fCons (fC (.int 2)) fNil)))) (fVar 3) (fVar 4)) nextS)) nextS)
    (retS (fN tupleO (fCons (fLc (tdName 4) fYes (fTup (fCons (fVar 4) (fCons (f2 dgetO (fVar 3) (fVar 4)) fNil))) (fIt (fN sortedO (fCons (fN listXO (fCons (fVar 3) fNil)) fNil))) [4]) fNil))))))))
noncomputable def R_value : Nat → (List D → M D)
  | 0 => fun _ _ => none
  | n + 1 => fnD false 6 (g_value (R_value n))
noncomputable def D_value : List D → M D := (R_value 8)
/-! bent -/
theorem sc_bent : FnScope [("_law_value_here" : PySem.Str), ("_law_path" : PySem.Str), ("_law_labels_here" : PySem.Str), ("_law_word" : PySem.Str), ("_law_rest" : PySem.Str), ("_law_pair" : PySem.Str), ("_law_fields" : PySem.Str), ("_law_label" : PySem.Str), ("_law_at" : PySem.Str), ("_law_inner" : PySem.Str)] [("_law_value_here" : PySem.Str), ("_law_path" : PySem.Str), ("_law_labels_here" : PySem.Str)] (defScope (topS 11)) := ⟨rfl, rfl, rfl, by decide +kernel, rfl, by decide +kernel, by decide +kernel⟩
noncomputable def g_bent (D_bent : List D → M D) : SD := (seqS (ifS (fOr (fNot (fTru (f1 (isiO "tuple") (fVar 0)))) (fB (f2 (eqO false) (f2 modO (fVar 1) (fC (.int 5))) (fC (.int 0))))) (retS (f2 ixO (fLst (fCons (fC (.int 3)) (fCons (fTup fNil) (fCons (fTup (fCons (fTup (fCons (fC (.str (PySem.Str.ofString "zzzzzzzz"))) (fCons (fC (.int 5)) fNil))) fNil)) (fCons (fTup (fCons (fTup (fCons (f2 ixO (fVar 2) (fC (.int 0))) (fCons (fC (.int 0)) fNil))) fNil)) (fCons (f1 negO (fC (.int 7))) fNil)))))) (f2 modO (f2 fdivO (fVar 1) (fC (.int 5))) (fC (.int 5))))) nextS)
    (seqS (ifS (fOr (fB (f2 (eqO false) (fVar 0) (fTup fNil))) (fB (f2 (eqO false) (f2 modO (fVar 1) (fC (.int 5))) (fC (.int 1))))) (seqS (setS 3 (f2 ixO (f2 addO (fVar 2) (fLst (fCons (fC (.str (PySem.Str.ofString "zzzzzzzz"))) (fCons (fC (.str (PySem.Str.ofString "a"))) fNil)))) (f2 modO (f2 fdivO (fVar 1) (fC (.int 5))) (fC (.int 6)))))
    (seqS (setS 4 (fLc (tdName 5) (fB (f2 (eqO true) (f2 ixO (fVar 5) (fC (.int 0))) (fVar 3))) (fVar 5) (fIt (fVar 0)) [5]))
    (seqS (ifS (fB (f2 (eqO false) (fN lenO (fCons (fVar 4) fNil)) (fN lenO (fCons (fVar 0) fNil)))) (setS 4 (f2 addO (fVar 4) (fLst (fCons (fTup (fCons (fVar 3) (fCons (f2 modO (f2 fdivO (fVar 1) (fC (.int 30))) (fC (.int 3))) fNil))) fNil)))) nextS)
    (seqS (setS 6 (fNM dictO (fCons (fVar 4) fNil)))
    (retS (fN tupleO (fCons (fLc (tdName 7) fYes (fTup (fCons (fVar 7) (fCons (f2 dgetO (fVar 6) (fVar 7)) fNil))) (fIt (fN sortedO (fCons (fN listXO (fCons (fVar 6) fNil)) fNil))) [7]) fNil))))))) nextS)
    (seqS (setS 8 (f2 modO (f2 fdivO (fVar 1) (fC (.int 5))) (fN lenO (fCons (fVar 0) fNil))))
    (seqS (setS 9 (fCall 3 D_bent (fCons (f2 ixO (f2 ixO (fVar 0) (fVar 8)) (fC (.int 1))) (fCons (f2 fdivO (fVar 1) (fC (.int 20))) (fCons (fVar 2) fNil)))))
    (retS (f2 addO (f2 addO (fSl (fVar 0) fNo (fSome (fVar 8))) (fTup (fCons (fTup (fCons (f2 ixO (f2 ixO (fVar 0) (fVar 8)) (fC (.int 0))) (fCons (fVar 9) fNil))) fNil))) (fSl (fVar 0) (fSome (f2 addO (fVar 8) (fC (.int 1)))) fNo)))))))
noncomputable def R_bent : Nat → (List D → M D)
  | 0 => fun _ _ => none
  | n + 1 => fnD false 10 (g_bent (R_bent n))
noncomputable def D_bent : List D → M D := (R_bent 20)
/-! due -/
theorem sc_due : FnScope [("_law_value_here" : PySem.Str), ("_law_kind_here" : PySem.Str), ("_law_fields" : PySem.Str), ("_law_label" : PySem.Str), ("_law_inner" : PySem.Str)] [("_law_value_here" : PySem.Str), ("_law_kind_here" : PySem.Str)] (defScope (topS 12)) := ⟨rfl, rfl, rfl, by decide +kernel, rfl, by decide +kernel, by decide +kernel⟩
noncomputable def g_due (D_due : List D → M D) : SD := (seqS (ifS (fB (f2 (eqO false) (f2 ixO (fVar 1) (fC (.int 0))) (fC (.str (PySem.Str.ofString "blank"))))) (retS (fC (.bl true))) nextS)
    (seqS (ifS (fB (f2 (eqO false) (f2 ixO (fVar 1) (fC (.int 0))) (fC (.str (PySem.Str.ofString "number"))))) (retS (f1 notO (f1 (isiO "tuple") (fVar 0)))) nextS)
    (seqS (ifS (fNot (fTru (f1 (isiO "tuple") (fVar 0)))) (retS (fC (.bl false))) nextS)
    (seqS (setS 2 (fNM dictO (fCons (fVar 0) fNil)))
    (seqS (forS (tdTup (tdCons (tdName 3) (tdCons (tdName 4) tdNil))) (fIt (f2 ixO (fVar 1) (fC (.int 1)))) (ifS (fOr (fB (f2 (dinO true) (fVar 3) (fVar 2))) (fNot (fTru (fCall 2 D_due (fCons (f2 dgetO (fVar 2) (fVar 3)) (fCons (fVar 4) fNil)))))) (retS (fC (.bl false))) nextS))
    (retS (fOrV (f2 (isNO true) (f2 ixO (fVar 1) (fC (.int 2))) (fC .non)) (f2 (eqO false) (fN lenO (fCons (fVar 0) fNil)) (fN lenO (fCons (f2 ixO (fVar 1) (fC (.int 1))) fNil))))))))))
noncomputable def R_due : Nat → (List D → M D)
  | 0 => fun _ _ => none
  | n + 1 => fnD false 5 (g_due (R_due n))
noncomputable def D_due : List D → M D := (R_due 8)
/-! law -/
theorem sc_law : FnScope [("_law_script" : PySem.Str), ("_law_labels_here" : PySem.Str), ("_law_state" : PySem.Str), ("_law_met" : PySem.Str), ("_law_kind_here" : PySem.Str), ("_law_value_here" : PySem.Str), ("_law_way" : PySem.Str), ("_law_other" : PySem.Str), ("_law_found" : PySem.Str)] [("_law_script" : PySem.Str)] (defScope (topS 13)) := ⟨rfl, rfl, rfl, by decide +kernel, rfl, by decide +kernel, by decide +kernel⟩
noncomputable def g_law : SD := (seqS (setS 1 (fCall 2 D_labels (fCons (fCall 2 D_cell (fCons (fVar 0) (fCons (fC (.int 2)) fNil))) (fCons (fC (.int 4)) fNil))))
    (seqS (setS 2 (fOwn (fCons (f2 addO (fC (.int 1)) (f2 modO (fCall 2 D_cell (fCons (fVar 0) (fCons (fC (.int 0)) fNil))) (fC (.int 2147483645)))) (fCons (f2 addO (fC (.int 1)) (f2 modO (fCall 2 D_cell (fCons (fVar 0) (fCons (fC (.int 1)) fNil))) (fC (.int 20)))) fNil))))
    (seqS (setS 3 (fOwn (fCons (f2 addO (fC (.int 1)) (f2 modO (fCall 2 D_cell (fCons (fVar 0) (fCons (fC (.int 3)) fNil))) (f2 powO (fC (.int 10)) (fC (.int 6))))) (fCons (fOwn fNil) fNil))))
    (seqS (setS 4 (fCall 4 D_kind (fCons (fVar 2) (fCons (fVar 1) (fCons (fVar 3) (fCons (f2 addO (fC (.int 1)) (f2 modO (f2 fdivO (fCall 2 D_cell (fCons (fVar 0) (fCons (fC (.int 1)) fNil))) (fC (.int 20))) (fC (.int 5)))) fNil))))))
    (seqS (setS 5 (fCall 3 D_value (fCons (fVar 2) (fCons (fVar 4) (fCons (fVar 1) fNil)))))
    (seqS (ifS (fB (f2 (isBO true) (fCall 2 D_is_of (fCons (fVar 5) (fCons (fVar 4) fNil))) (fC (.bl true)))) (retS (fC (.bl false))) nextS)
    (seqS (setS 6 (fCall 2 D_cell (fCons (fVar 0) (fCons (fC (.int 4)) fNil))))
    (seqS (ifS (fB (f2 gtO (f2 modO (fVar 6) (fC (.int 3))) (fC (.int 0)))) (setS 5 (fCall 3 D_bent (fCons (fVar 5) (fCons (f2 fdivO (fVar 6) (fC (.int 3))) (fCons (fVar 1) fNil))))) nextS)
    (seqS (forS (tdName 7) (fIt (fLst (fCons (fVar 4) (fCons (fTup (fCons (fC (.str (PySem.Str.ofString "number"))) fNil)) (fCons (fVar 4) fNil))))) (seqS (setS 8 (fCall 2 D_is_of (fCons (fVar 5) (fCons (fVar 7) fNil))))
    (ifS (fOr (fNot (fTru (f1 (isiO "bool") (fVar 8)))) (fB (f2 (eqO true) (fVar 8) (fCall 2 D_due (fCons (fVar 5) (fCons (fVar 7) fNil)))))) (retS (fC (.bl false))) nextS)))
    (retS (fAndV (f2 (isBO false) (fCall 2 D_is_of (fCons (fVar 5) (fCons (fTup (fCons (fC (.str (PySem.Str.ofString "blank"))) (fCons (fC (.int 3)) fNil))) fNil))) (fC (.bl true))) (f2 (eqO false) (fCall 2 D_is_of (fCons (fVar 5) (fCons (fTup (fCons (fC (.str (PySem.Str.ofString "record"))) (fCons (fTup fNil) (fCons (fC (.int 0)) fNil)))) fNil))) (f1 (isiO "tuple") (fVar 5))))))))))))))
noncomputable def D_law : List D → M D := fnD false 9 g_law
structure Blt (mg : Str → Option Value) : Prop where
  b_bool : mg "bool" = none
  b_dict : mg "dict" = none
  b_int : mg "int" = none
  b_isinstance : mg "isinstance" = none
  b_len : mg "len" = none
  b_list : mg "list" = none
  b_range : mg "range" = none
  b_sorted : mg "sorted" = none
  b_tuple : mg "tuple" = none
section
variable {P : Program} {w : World} {K : PySem.W.Frag} {mg : Str → Option Value} {base : Heap}
theorem c_is_number {k : Nat} {f : Addr} {fd : FuncData} (F : Fun K "is_number" "is_number" (topS 2) f fd) (gf : mg "is_number" = some (.ref f)) (B : Blt mg) : Cal P w K mg base (k + 1) "is_number" 1 D_is_number := by
  refine Cal.mk' F gf (F.binds (ps := [("value" : PySem.Str)]) fun _ _ _ _ _ _ us hl => match us, hl with | [_], _ => rfl) (fn_ok (N := [("value" : PySem.Str)]) false F sc_is_number rfl fun cdv A outer s H E a => ?_)
  exact (c_one (d_ret (e_and (e_isi (T := "int") (by rfl) B.b_isinstance (by rfl) B.b_int (by decide +kernel) (ha := (e_var 0))) (e_one (e_not (e_isi (T := "bool") (by rfl) B.b_isinstance (by rfl) B.b_bool (by decide +kernel) (ha := (e_var 0))))))))
theorem c_has_labels {k : Nat} {f : Addr} {fd : FuncData} (F : Fun K "has_labels" "has_labels" (topS 3) f fd) (gf : mg "has_labels" = some (.ref f)) (B : Blt mg) : Cal P w K mg base (k + 1) "has_labels" 2 D_has_labels := by
  refine Cal.mk' F gf (F.binds (ps := [("fields" : PySem.Str), ("kind" : PySem.Str)]) fun _ _ _ _ _ _ us hl => match us, hl with | [_, _], _ => rfl) (fn_ok (N := [("fields" : PySem.Str), ("kind" : PySem.Str), ("label" : PySem.Str), ("inner" : PySem.Str)]) false F sc_has_labels rfl fun cdv A outer s H E a => ?_)
  exact (c_cons (d_for a.own a.calm (i_seq (e_ix (e_var 1) e_int)) (pg_tup rfl (pgs_cons (pg_name (i := 2) sc_has_labels.nd rfl (by first | exact Or.inl rfl | exact Or.inr rfl)) (pgs_cons (pg_name (i := 3) sc_has_labels.nd rfl (by first | exact Or.inl rfl | exact Or.inr rfl)) pgs_nil))) (g_tup (g_cons (g_name (vs := [2, 3]) 2) (g_cons (g_name (vs := [2, 3]) 3) (g_nil (vs := [2, 3]))))) (c_one (d_if (b_pc (c_dnotIn (u1 a.room) (e_var 2) (e_var 0))) (c_one (d_ret e_bl)) c_nil)))
    (c_one (d_ret (e_or (e_cmp o_isNot (e_ix (e_var 1) e_int) e_non) (e_one (e_cmp (o_eq (u64 a.room)) (e_callB o_lenX (by rfl) B.b_len (by decide +kernel) (a_cons (e_var 0) a_nil)) (e_callB o_len (by rfl) B.b_len (by decide +kernel) (a_cons (e_ix (e_var 1) e_int) a_nil))))))))
theorem c_is_of {k : Nat} {f : Addr} {fd : FuncData} (F : Fun K "is_of" "is_of" (topS 1) f fd) (gf : mg "is_of" = some (.ref f)) (B : Blt mg) (C_is_number : Cal P w K mg base k "is_number" 1 D_is_number) (C_has_labels : Cal P w K mg base k "has_labels" 2 D_has_labels) : Cal P w K mg base (k + 1) "is_of" 2 D_is_of := by
  refine Cal.mk' F gf (F.binds (ps := [("value" : PySem.Str), ("kind" : PySem.Str)]) fun _ _ _ _ _ _ us hl => match us, hl with | [_, _], _ => rfl) (fn_ok (N := [("value" : PySem.Str), ("kind" : PySem.Str), ("waiting" : PySem.Str), ("here" : PySem.Str), ("due" : PySem.Str), ("fields" : PySem.Str), ("label" : PySem.Str), ("inner" : PySem.Str)]) false F sc_is_of rfl fun cdv A outer s H E a => ?_)
  exact (c_cons (d_set (i := 2) sc_is_of.nd rfl (by first | exact Or.inl rfl | exact Or.inr rfl) (e_own (a_cons (e_tup (a_cons (e_var 0) (a_cons (e_var 1) a_nil))) a_nil)))
    (c_cons (d_while a.own (b_tru (e_var 2)) (c_cons (d_asg (e_pop (e_var 2)) (pg_tup rfl (pgs_cons (pg_name (i := 3) sc_is_of.nd rfl (by first | exact Or.inl rfl | exact Or.inr rfl)) (pgs_cons (pg_name (i := 4) sc_is_of.nd rfl (by first | exact Or.inl rfl | exact Or.inr rfl)) pgs_nil))) (g_tup (g_cons (g_name (vs := [3, 4]) 3) (g_cons (g_name (vs := [3, 4]) 4) (g_nil (vs := [3, 4]))))))
    (c_cons (d_if (b_w (w_and (b_cmp (o_eq (u64 a.room)) (e_ix (e_var 4) e_int) e_str) (w_and1 (b_not (b_tru (e_callC C_is_number a.takes a.room (by rfl) (a_cons (e_var 3) a_nil))))))) (c_one (d_ret e_bl)) c_nil)
    (c_one (d_if (b_cmp (o_eq (u64 a.room)) (e_ix (e_var 4) e_int) e_str) (c_cons (d_if (b_w (w_or (b_tru (e_callC C_is_number a.takes a.room (by rfl) (a_cons (e_var 3) a_nil))) (w_or1 (b_not (b_tru (e_callC C_has_labels a.takes a.room (by rfl) (a_cons (e_dict a.calm (by rfl) B.b_dict (a_cons (e_var 3) a_nil)) (a_cons (e_var 4) a_nil)))))))) (c_one (d_ret e_bl)) c_nil)
    (c_cons (d_set (i := 5) sc_is_of.nd rfl (by first | exact Or.inl rfl | exact Or.inr rfl) (e_dict a.calm (by rfl) B.b_dict (a_cons (e_var 3) a_nil)))
    (c_one (d_expr (e_extend (e_var 2) (a_cons (e_lc a.calm sc_is_of.nd (i_seq (e_ix (e_var 4) e_int)) (blkOk_by (N := [("value" : PySem.Str), ("kind" : PySem.Str), ("waiting" : PySem.Str), ("here" : PySem.Str), ("due" : PySem.Str), ("fields" : PySem.Str), ("label" : PySem.Str), ("inner" : PySem.Str)]) (sc := defScope (topS 1)) (own := [(("label" : PySem.Str), 6), (("inner" : PySem.Str), 7)]) (by decide +kernel)) (g_tup (g_cons (g_name (vs := [6, 7]) 6) (g_cons (g_name (vs := [6, 7]) 7) (g_nil (vs := [6, 7]))))) (fun _ _ _ _ _ => (pg_tup rfl (pgs_cons (pg_name (i := 6) sc_is_of.nd rfl (by first | exact Or.inl rfl | exact Or.inr rfl)) (pgs_cons (pg_name (i := 7) sc_is_of.nd rfl (by first | exact Or.inl rfl | exact Or.inr rfl)) pgs_nil)))) (fun _ _ _ _ _ => t_nil) (fun _ _ _ _ _ => (e_tup (a_cons (e_dget (u1 a.room) (e_var 5) (e_var 6)) (a_cons (e_var 7) a_nil))))) a_nil)))))) c_nil)))))
    (c_one (d_ret e_bl))))
theorem c_cell {k : Nat} {f : Addr} {fd : FuncData} (F : Fun K "_law_cell" "_law_cell" (topS 5) f fd) (gf : mg "_law_cell" = some (.ref f)) (B : Blt mg) : Cal P w K mg base (k + 1) "_law_cell" 2 D_cell := by
  refine Cal.mk' F gf (F.binds (ps := [("_law_script" : PySem.Str), ("_law_k" : PySem.Str)]) fun _ _ _ _ _ _ us hl => match us, hl with | [_, _], _ => rfl) (fn_ok (N := [("_law_script" : PySem.Str), ("_law_k" : PySem.Str)]) false F sc_cell rfl fun cdv A outer s H E a => ?_)
  exact (c_cons (d_if (b_cmp o_lt (e_var 1) (e_callB o_len (by rfl) B.b_len (by decide +kernel) (a_cons (e_var 0) a_nil))) (c_one (d_ret (e_bin o_mod (e_bin o_mul (e_ix (e_var 0) (e_var 1)) e_int) e_int))) c_nil)
    (c_one (d_ret e_int)))
theorem c_next {k : Nat} {f : Addr} {fd : FuncData} (F : Fun K "_law_next" "_law_next" (topS 6) f fd) (gf : mg "_law_next" = some (.ref f)) (B : Blt mg) : Cal P w K mg base (k + 1) "_law_next" 1 D_next := by
  refine Cal.mk' F gf (F.binds (ps := [("_law_state" : PySem.Str)]) fun _ _ _ _ _ _ us hl => match us, hl with | [_], _ => rfl) (fn_ok (N := [("_law_state" : PySem.Str)]) false F sc_next rfl fun cdv A outer s H E a => ?_)
  exact (c_cons (d_setIx (e_bin o_mod (e_bin o_add (e_bin o_mul (e_ix (e_var 0) e_int) e_int) e_int) e_int) (e_var 0) e_int)
    (c_cons (d_setIx (e_bin o_sub (e_ix (e_var 0) e_int) e_int) (e_var 0) e_int)
    (c_one (d_ret (e_bin o_fdiv (e_ix (e_var 0) e_int) e_int)))))
theorem c_labels {k : Nat} {f : Addr} {fd : FuncData} (F : Fun K "_law_labels" "_law_labels" (topS 7) f fd) (gf : mg "_law_labels" = some (.ref f)) (B : Blt mg) : Cal P w K mg base (k + 1) "_law_labels" 2 D_labels := by
  refine Cal.mk' F gf (F.binds (ps := [("_law_cell_here" : PySem.Str), ("_law_many" : PySem.Str)]) fun _ _ _ _ _ _ us hl => match us, hl with | [_, _], _ => rfl) (fn_ok (N := [("_law_cell_here" : PySem.Str), ("_law_many" : PySem.Str), ("_law_signs" : PySem.Str), ("_law_size" : PySem.Str), ("_law_at" : PySem.Str), ("_law_step" : PySem.Str), ("_law_base" : PySem.Str), ("_law_k" : PySem.Str), ("_law_found" : PySem.Str), ("_law_sign" : PySem.Str)]) false F sc_labels rfl fun cdv A outer s H E a => ?_)
  exact (c_cons (d_set (i := 2) sc_labels.nd rfl (by first | exact Or.inl rfl | exact Or.inr rfl) e_str)
    (c_cons (d_set (i := 3) sc_labels.nd rfl (by first | exact Or.inl rfl | exact Or.inr rfl) (e_bin o_mod (e_var 0) e_int))
    (c_cons (d_set (i := 4) sc_labels.nd rfl (by first | exact Or.inl rfl | exact Or.inr rfl) (e_bin o_mod (e_bin o_fdiv (e_var 0) e_int) (e_bin o_add (e_var 3) e_int)))
    (c_cons (d_set (i := 5) sc_labels.nd rfl (by first | exact Or.inl rfl | exact Or.inr rfl) (e_bin o_mod (e_bin o_fdiv (e_var 0) e_int) e_int))
    (c_cons (d_set (i := 6) sc_labels.nd rfl (by first | exact Or.inl rfl | exact Or.inr rfl) (e_join e_str (e_lc a.calm sc_labels.nd (i_range1 (by rfl) B.b_range (e_var 3)) (blkOk_by (N := [("_law_cell_here" : PySem.Str), ("_law_many" : PySem.Str), ("_law_signs" : PySem.Str), ("_law_size" : PySem.Str), ("_law_at" : PySem.Str), ("_law_step" : PySem.Str), ("_law_base" : PySem.Str), ("_law_k" : PySem.Str), ("_law_found" : PySem.Str), ("_law_sign" : PySem.Str)]) (sc := defScope (topS 7)) (own := [(("_law_k" : PySem.Str), 7)]) (by decide +kernel)) (g_name (vs := [7]) 7) (fun _ _ _ _ _ => (pg_name (i := 7) sc_labels.nd rfl (by first | exact Or.inl rfl | exact Or.inr rfl))) (fun _ _ _ _ _ => t_nil) (fun _ _ _ _ _ => (e_ix (e_var 2) (e_bin o_mod (e_bin o_add (e_var 5) (e_bin o_mul (e_bin o_fdiv (e_var 0) e_int) (e_var 7))) e_int))))))
    (c_cons (d_set (i := 8) sc_labels.nd rfl (by first | exact Or.inl rfl | exact Or.inr rfl) (e_own a_nil))
    (c_cons (d_for a.own a.calm (i_range1 (by rfl) B.b_range (e_var 1)) (pg_name (i := 7) sc_labels.nd rfl (by first | exact Or.inl rfl | exact Or.inr rfl)) (g_name (vs := [7]) 7) (c_cons (d_set (i := 9) sc_labels.nd rfl (by first | exact Or.inl rfl | exact Or.inr rfl) (e_ix (e_var 2) (e_bin o_mod (e_bin o_add (e_bin o_fdiv (e_var 0) e_int) (e_bin o_mul e_int (e_var 7))) e_int)))
    (c_one (d_expr (e_append (e_var 8) (a_cons (e_bin o_add (e_bin o_add (e_sl (e_var 6) s_none (s_some (e_var 4))) (e_var 9)) (e_sl (e_var 6) (s_some (e_var 4)) s_none)) a_nil))))))
    (c_one (d_ret (e_var 8))))))))))
theorem c_kind (D_kind : List D → M D) {k : Nat} {f : Addr} {fd : FuncData} (F : Fun K "_law_kind" "_law_kind" (topS 8) f fd) (gf : mg "_law_kind" = some (.ref f)) (B : Blt mg) (C_next : Cal P w K mg base k "_law_next" 1 D_next) (C_kind : Cal P w K mg base k "_law_kind" 4 D_kind) : Cal P w K mg base (k + 1) "_law_kind" 4 (fnD false 9 (g_kind D_kind)) := by
  refine Cal.mk' F gf (F.binds (ps := [("_law_state" : PySem.Str), ("_law_labels_here" : PySem.Str), ("_law_met" : PySem.Str), ("_law_left" : PySem.Str)]) fun _ _ _ _ _ _ us hl => match us, hl with | [_, _, _, _], _ => rfl) (fn_ok (N := [("_law_state" : PySem.Str), ("_law_labels_here" : PySem.Str), ("_law_met" : PySem.Str), ("_law_left" : PySem.Str), ("_law_number" : PySem.Str), ("_law_picked" : PySem.Str), ("_law_words" : PySem.Str), ("_law_label" : PySem.Str), ("_law_fields" : PySem.Str)]) false F sc_kind rfl fun cdv A outer s H E a => ?_)
  exact (c_cons (d_set (i := 4) sc_kind.nd rfl (by first | exact Or.inl rfl | exact Or.inr rfl) (e_callC C_next a.takes a.room (by rfl) (a_cons (e_var 0) a_nil)))
    (c_cons (d_if (b_w (w_or (b_cmp o_le (e_var 3) e_int) (w_or (b_cmp o_le (e_ix (e_var 0) e_int) e_int) (w_or1 (b_cmp o_lt (e_bin o_mod (e_var 4) e_int) e_int))))) (c_one (d_ret (e_tup (a_cons e_str a_nil)))) c_nil)
    (c_cons (d_if (b_cmp (o_eq (u64 a.room)) (e_bin o_mod (e_var 4) e_int) e_int) (c_one (d_ret (e_tup (a_cons e_str (a_cons (e_bin o_mul (e_bin o_mul (e_ix (e_var 2) e_int) e_int) (e_bin o_mod (e_bin o_fdiv (e_var 4) e_int) e_int)) a_nil))))) c_nil)
    (c_cons (d_set (i := 5) sc_kind.nd rfl (by first | exact Or.inl rfl | exact Or.inr rfl) (e_sl (e_lst (a_cons (e_ix (e_var 1) (e_bin o_mod (e_bin o_fdiv (e_var 4) e_int) e_int)) (a_cons (e_ix (e_var 1) (e_bin o_mod (e_bin o_fdiv (e_var 4) e_int) e_int)) (a_cons (e_ix (e_var 1) (e_bin o_mod (e_bin o_fdiv (e_var 4) e_int) e_int)) a_nil)))) s_none (s_some (e_bin o_mod (e_bin o_fdiv (e_var 4) e_int) e_int))))
    (c_cons (d_setLc (n := 6) false a.calm sc_kind.nd rfl rfl (sw_true rfl rfl rfl (by decide +kernel)) (i_seq (e_callB o_sorted (by rfl) B.b_sorted (by decide +kernel) (a_cons (e_var 1) a_nil))) (blkOk_by (N := [("_law_state" : PySem.Str), ("_law_labels_here" : PySem.Str), ("_law_met" : PySem.Str), ("_law_left" : PySem.Str), ("_law_number" : PySem.Str), ("_law_picked" : PySem.Str), ("_law_words" : PySem.Str), ("_law_label" : PySem.Str), ("_law_fields" : PySem.Str)]) (sc := defScope (topS 8)) (own := [(("_law_label" : PySem.Str), 7)]) (by decide +kernel)) (g_name (vs := [7]) 7) (fun _ _ _ _ _ => (pg_name (i := 7) sc_kind.nd rfl (by first | exact Or.inl rfl | exact Or.inr rfl))) (fun _ _ _ _ _ => (t_one (b_cmp (o_in (u65 a.room)) (e_var 7) (e_var 5)))) (fun _ _ _ _ _ => (e_var 7)))
    (c_cons (d_set (i := 8) sc_kind.nd rfl (by first | exact Or.inl rfl | exact Or.inr rfl) (e_callTy o_tuple (by rfl) B.b_tuple (by decide +kernel) (a_cons (e_lc a.calm sc_kind.nd (i_seq (e_var 6)) (blkOk_by (N := [("_law_state" : PySem.Str), ("_law_labels_here" : PySem.Str), ("_law_met" : PySem.Str), ("_law_left" : PySem.Str), ("_law_number" : PySem.Str), ("_law_picked" : PySem.Str), ("_law_words" : PySem.Str), ("_law_label" : PySem.Str), ("_law_fields" : PySem.Str)]) (sc := defScope (topS 8)) (own := [(("_law_label" : PySem.Str), 7)]) (by decide +kernel)) (g_name (vs := [7]) 7) (fun _ _ _ _ _ => (pg_name (i := 7) sc_kind.nd rfl (by first | exact Or.inl rfl | exact Or.inr rfl))) (fun _ _ _ _ _ => t_nil) (fun _ _ _ _ _ => (e_tup (a_cons (e_var 7) (a_cons (e_callC C_kind takes0 a.room (by rfl) (a_cons (e_var 0) (a_cons (e_var 1) (a_cons (e_var 2) (a_cons (e_bin o_sub (e_var 3) e_int) a_nil))))) a_nil))))) a_nil)))
    (c_cons (d_if (b_cmp (o_eq (u64 a.room)) (e_bin o_mod (e_bin o_fdiv (e_var 4) e_int) e_int) e_int) (c_one (d_ret (e_tup (a_cons e_str (a_cons (e_var 8) (a_cons e_non a_nil)))))) c_nil)
    (c_cons (d_if (b_cmp (o_notIn (u65 a.room)) (e_var 6) (e_ix (e_var 2) e_int)) (c_one (d_expr (e_append (e_ix (e_var 2) e_int) (a_cons (e_var 6) a_nil)))) c_nil)
    (c_one (d_ret (e_tup (a_cons e_str (a_cons (e_var 8) (a_cons (e_bin o_mul (e_ix (e_var 2) e_int) (e_bin o_add e_int (e_bin o_mul e_int (e_index (u65 a.room) (e_ix (e_var 2) e_int) (a_cons (e_var 6) a_nil))))) a_nil))))))))))))))
theorem c_any (D_any : List D → M D) {k : Nat} {f : Addr} {fd : FuncData} (F : Fun K "_law_any" "_law_any" (topS 9) f fd) (gf : mg "_law_any" = some (.ref f)) (B : Blt mg) (C_next : Cal P w K mg base k "_law_next" 1 D_next) (C_any : Cal P w K mg base k "_law_any" 3 D_any) : Cal P w K mg base (k + 1) "_law_any" 3 (fnD false 6 (g_any D_any)) := by
  refine Cal.mk' F gf (F.binds (ps := [("_law_state" : PySem.Str), ("_law_labels_here" : PySem.Str), ("_law_left" : PySem.Str)]) fun _ _ _ _ _ _ us hl => match us, hl with | [_, _, _], _ => rfl) (fn_ok (N := [("_law_state" : PySem.Str), ("_law_labels_here" : PySem.Str), ("_law_left" : PySem.Str), ("_law_number" : PySem.Str), ("_law_words" : PySem.Str), ("_law_label" : PySem.Str)]) false F sc_any rfl fun cdv A outer s H E a => ?_)
  exact (c_cons (d_set (i := 3) sc_any.nd rfl (by first | exact Or.inl rfl | exact Or.inr rfl) (e_callC C_next a.takes a.room (by rfl) (a_cons (e_var 0) a_nil)))
    (c_cons (d_if (b_w (w_or (b_cmp o_le (e_var 2) e_int) (w_or1 (b_cmp (o_eq (u64 a.room)) (e_bin o_mod (e_var 3) e_int) e_int)))) (c_one (d_ret (e_ix (e_lst (a_cons (e_bin o_mod (e_bin o_fdiv (e_var 3) e_int) e_int) (a_cons (e_bin o_sub (e_bin o_mod (e_bin o_fdiv (e_var 3) e_int) (e_bin o_mul e_int (e_bin o_pow e_int e_int))) (e_bin o_pow e_int e_int)) a_nil))) (e_bin o_mod (e_bin o_fdiv (e_var 3) e_int) e_int)))) c_nil)
    (c_cons (d_setLc (n := 4) false a.calm sc_any.nd rfl rfl (sw_true rfl rfl rfl (by decide +kernel)) (i_seq (e_callB o_sorted (by rfl) B.b_sorted (by decide +kernel) (a_cons (e_var 1) a_nil))) (blkOk_by (N := [("_law_state" : PySem.Str), ("_law_labels_here" : PySem.Str), ("_law_left" : PySem.Str), ("_law_number" : PySem.Str), ("_law_words" : PySem.Str), ("_law_label" : PySem.Str)]) (sc := defScope (topS 9)) (own := [(("_law_label" : PySem.Str), 5)]) (by decide +kernel)) (g_name (vs := [5]) 5) (fun _ _ _ _ _ => (pg_name (i := 5) sc_any.nd rfl (by first | exact Or.inl rfl | exact Or.inr rfl))) (fun _ _ _ _ _ => (t_one (b_cmp (o_eq (u64 a.room)) (e_bin o_mod (e_callC C_next takes0 a.room (by rfl) (a_cons (e_var 0) a_nil)) e_int) e_int))) (fun _ _ _ _ _ => (e_var 5)))
    (c_one (d_ret (e_callTy o_tuple (by rfl) B.b_tuple (by decide +kernel) (a_cons (e_lc a.calm sc_any.nd (i_seq (e_var 4)) (blkOk_by (N := [("_law_state" : PySem.Str), ("_law_labels_here" : PySem.Str), ("_law_left" : PySem.Str), ("_law_number" : PySem.Str), ("_law_words" : PySem.Str), ("_law_label" : PySem.Str)]) (sc := defScope (topS 9)) (own := [(("_law_label" : PySem.Str), 5)]) (by decide +kernel)) (g_name (vs := [5]) 5) (fun _ _ _ _ _ => (pg_name (i := 5) sc_any.nd rfl (by first | exact Or.inl rfl | exact Or.inr rfl))) (fun _ _ _ _ _ => t_nil) (fun _ _ _ _ _ => (e_tup (a_cons (e_var 5) (a_cons (e_callC C_any takes0 a.room (by rfl) (a_cons (e_var 0) (a_cons (e_var 1) (a_cons (e_bin o_sub (e_var 2) e_int) a_nil)))) a_nil))))) a_nil)))))))
theorem c_value (D_value : List D → M D) {k : Nat} {f : Addr} {fd : FuncData} (F : Fun K "_law_value" "_law_value" (topS 10) f fd) (gf : mg "_law_value" = some (.ref f)) (B : Blt mg) (C_any : Cal P w K mg base k "_law_any" 3 D_any) (C_value : Cal P w K mg base k "_law_value" 3 D_value) (C_next : Cal P w K mg base k "_law_next" 1 D_next) : Cal P w K mg base (k + 1) "_law_value" 3 (fnD false 6 (g_value D_value)) := by
  refine Cal.mk' F gf (F.binds (ps := [("_law_state" : PySem.Str), ("_law_kind_here" : PySem.Str), ("_law_labels_here" : PySem.Str)]) fun _ _ _ _ _ _ us hl => match us, hl with | [_, _, _], _ => rfl) (fn_ok (N := [("_law_state" : PySem.Str), ("_law_kind_here" : PySem.Str), ("_law_labels_here" : PySem.Str), ("_law_fields" : PySem.Str), ("_law_label" : PySem.Str), ("_law_inner" : PySem.Str)]) false F sc_value rfl fun cdv A outer s H E a => ?_)
  exact (c_cons (d_if (b_cmp (o_eq (u64 a.room)) (e_ix (e_var 1) e_int) e_str) (c_one (d_ret (e_callC C_any a.takes a.room (by rfl) (a_cons (e_var 0) (a_cons (e_var 2) (a_cons e_int a_nil)))))) c_nil)
    (c_cons (d_if (b_cmp (o_eq (u64 a.room)) (e_ix (e_var 1) e_int) e_str) (c_one (d_ret (e_callC C_any a.takes a.room (by rfl) (a_cons (e_var 0) (a_cons (e_var 2) (a_cons e_int a_nil)))))) c_nil)
    (c_cons (d_set (i := 3) sc_value.nd rfl (by first | exact Or.inl rfl | exact Or.inr rfl) e_dNew)
    (c_cons (d_for a.own a.calm (i_seq (e_ix (e_var 1) e_int)) (pg_tup rfl (pgs_cons (pg_name (i := 4) sc_value.nd rfl (by first | exact Or.inl rfl | exact Or.inr rfl)) (pgs_cons (pg_name (i := 5) sc_value.nd rfl (by first | exact Or.inl rfl | exact Or.inr rfl)) pgs_nil))) (g_tup (g_cons (g_name (vs := [4, 5]) 4) (g_cons (g_name (vs := [4, 5]) 5) (g_nil (vs := [4, 5]))))) (c_one (d_putIx (u1 a.room) (e_callC C_value a.takes a.room (by rfl) (a_cons (e_var 0) (a_cons (e_var 5) (a_cons (e_var 2) a_nil)))) (e_var 3) (e_var 4))))
    (c_cons (d_if (b_cmp o_isNot (e_ix (e_var 1) e_int) e_non) (c_one (d_for a.own a.calm (i_seq (e_bin o_add (e_var 2) (e_lst (a_cons e_str (a_cons e_str a_nil))))) (pg_name (i := 4) sc_value.nd rfl (by first | exact Or.inl rfl | exact Or.inr rfl)) (g_name (vs := [4]) 4) (c_one (d_if (b_w (w_and (b_pc (c_dnotIn (u1 a.room) (e_var 4) (e_var 3))) (w_and1 (b_cmp (o_eq (u64 a.room)) (e_bin o_mod (e_callC C_next a.takes a.room (by rfl) (a_cons (e_var 0) a_nil)) e_int) e_int)))) (c_one (d_putIx (u1 a.room) (e_callC C_any a.takes a.room (by rfl) (a_cons (e_var 0) (a_cons (e_var 2) (a_cons e_int a_nil)))) (e_var 3) (e_var 4))) c_nil)))) c_nil)
    (c_one (d_ret (e_callTy o_tuple (by rfl) B.b_tuple (by decide +kernel) (a_cons (e_lc a.calm sc_value.nd (i_seq (e_callB o_sorted (by rfl) B.b_sorted (by decide +kernel) (a_cons (e_callTy (o_listX a.calm) (by rfl) B.b_list (by decide +kernel) (a_cons (e_var 3) a_nil)) a_nil))) (blkOk_by (N := [("_law_state" : PySem.Str), ("_law_kind_here" : PySem.Str), ("_law_labels_here" : PySem.Str), ("_law_fields" : PySem.Str), ("_law_label" : PySem.Str), ("_law_inner" : PySem.Str)]) (sc := defScope (topS 10)) (own := [(("_law_label" : PySem.Str), 4)]) (by decide +kernel)) (g_name (vs := [4]) 4) (fun _ _ _ _ _ => (pg_name (i := 4) sc_value.nd rfl (by first | exact Or.inl rfl | exact Or.inr rfl))) (fun _ _ _ _ _ => t_nil) (fun _ _ _ _ _ => (e_tup (a_cons (e_var 4) (a_cons (e_dget (u1 a.room) (e_var 3) (e_var 4)) a_nil))))) a_nil)))))))))
theorem c_bent (D_bent : List D → M D) {k : Nat} {f : Addr} {fd : FuncData} (F : Fun K "_law_bent" "_law_bent" (topS 11) f fd) (gf : mg "_law_bent" = some (.ref f)) (B : Blt mg) (C_bent : Cal P w K mg base k "_law_bent" 3 D_bent) : Cal P w K mg base (k + 1) "_law_bent" 3 (fnD false 10 (g_bent D_bent)) := by
  refine Cal.mk' F gf (F.binds (ps := [("_law_value_here" : PySem.Str), ("_law_path" : PySem.Str), ("_law_labels_here" : PySem.Str)]) fun _ _ _ _ _ _ us hl => match us, hl with | [_, _, _], _ => rfl) (fn_ok (N := [("_law_value_here" : PySem.Str), ("_law_path" : PySem.Str), ("_law_labels_here" : PySem.Str), ("_law_word" : PySem.Str), ("_law_rest" : PySem.Str), ("_law_pair" : PySem.Str), ("_law_fields" : PySem.Str), ("_law_label" : PySem.Str), ("_law_at" : PySem.Str), ("_law_inner" : PySem.Str)]) false F sc_bent rfl fun cdv A outer s H E a => ?_)
  exact (c_cons (d_if (b_w (w_or (b_not (b_tru (e_isi (T := "tuple") (by rfl) B.b_isinstance (by rfl) B.b_tuple (by decide +kernel) (ha := (e_var 0))))) (w_or1 (b_cmp (o_eq (u64 a.room)) (e_bin o_mod (e_var 1) e_int) e_int)))) (c_one (d_ret (e_ix (e_lst (a_cons e_int (a_cons (e_tup a_nil) (a_cons (e_tup (a_cons (e_tup (a_cons e_str (a_cons e_int a_nil))) a_nil)) (a_cons (e_tup (a_cons (e_tup (a_cons (e_ix (e_var 2) e_int) (a_cons e_int a_nil))) a_nil)) (a_cons (e_neg e_int) a_nil)))))) (e_bin o_mod (e_bin o_fdiv (e_var 1) e_int) e_int)))) c_nil)
    (c_cons (d_if (b_w (w_or (b_cmp (o_eq (u64 a.room)) (e_var 0) (e_tup a_nil)) (w_or1 (b_cmp (o_eq (u64 a.room)) (e_bin o_mod (e_var 1) e_int) e_int)))) (c_cons (d_set (i := 3) sc_bent.nd rfl (by first | exact Or.inl rfl | exact Or.inr rfl) (e_ix (e_bin o_add (e_var 2) (e_lst (a_cons e_str (a_cons e_str a_nil)))) (e_bin o_mod (e_bin o_fdiv (e_var 1) e_int) e_int)))
    (c_cons (d_setLc (n := 4) false a.calm sc_bent.nd rfl rfl (sw_true rfl rfl rfl (by decide +kernel)) (i_seq (e_var 0)) (blkOk_by (N := [("_law_value_here" : PySem.Str), ("_law_path" : PySem.Str), ("_law_labels_here" : PySem.Str), ("_law_word" : PySem.Str), ("_law_rest" : PySem.Str), ("_law_pair" : PySem.Str), ("_law_fields" : PySem.Str), ("_law_label" : PySem.Str), ("_law_at" : PySem.Str), ("_law_inner" : PySem.Str)]) (sc := defScope (topS 11)) (own := [(("_law_pair" : PySem.Str), 5)]) (by decide +kernel)) (g_name (vs := [5]) 5) (fun _ _ _ _ _ => (pg_name (i := 5) sc_bent.nd rfl (by first | exact Or.inl rfl | exact Or.inr rfl))) (fun _ _ _ _ _ => (t_one (b_cmp (o_ne (u64 a.room)) (e_ix (e_var 5) e_int) (e_var 3)))) (fun _ _ _ _ _ => (e_var 5)))
    (c_cons (d_if (b_cmp (o_eq (u64 a.room)) (e_callB o_len (by rfl) B.b_len (by decide +kernel) (a_cons (e_var 4) a_nil)) (e_callB o_len (by rfl) B.b_len (by decide +kernel) (a_cons (e_var 0) a_nil))) (c_one (d_set (i := 4) sc_bent.nd rfl (by first | exact Or.inl rfl | exact Or.inr rfl) (e_bin o_add (e_var 4) (e_lst (a_cons (e_tup (a_cons (e_var 3) (a_cons (e_bin o_mod (e_bin o_fdiv (e_var 1) e_int) e_int) a_nil))) a_nil))))) c_nil)
    (c_cons (d_set (i := 6) sc_bent.nd rfl (by first | exact Or.inl rfl | exact Or.inr rfl) (e_dict a.calm (by rfl) B.b_dict (a_cons (e_var 4) a_nil)))
    (c_one (d_ret (e_callTy o_tuple (by rfl) B.b_tuple (by decide +kernel) (a_cons (e_lc a.calm sc_bent.nd (i_seq (e_callB o_sorted (by rfl) B.b_sorted (by decide +kernel) (a_cons (e_callTy (o_listX a.calm) (by rfl) B.b_list (by decide +kernel) (a_cons (e_var 6) a_nil)) a_nil))) (blkOk_by (N := [("_law_value_here" : PySem.Str), ("_law_path" : PySem.Str), ("_law_labels_here" : PySem.Str), ("_law_word" : PySem.Str), ("_law_rest" : PySem.Str), ("_law_pair" : PySem.Str), ("_law_fields" : PySem.Str), ("_law_label" : PySem.Str), ("_law_at" : PySem.Str), ("_law_inner" : PySem.Str)]) (sc := defScope (topS 11)) (own := [(("_law_label" : PySem.Str), 7)]) (by decide +kernel)) (g_name (vs := [7]) 7) (fun _ _ _ _ _ => (pg_name (i := 7) sc_bent.nd rfl (by first | exact Or.inl rfl | exact Or.inr rfl))) (fun _ _ _ _ _ => t_nil) (fun _ _ _ _ _ => (e_tup (a_cons (e_var 7) (a_cons (e_dget (u1 a.room) (e_var 6) (e_var 7)) a_nil))))) a_nil)))))))) c_nil)
    (c_cons (d_set (i := 8) sc_bent.nd rfl (by first | exact Or.inl rfl | exact Or.inr rfl) (e_bin o_mod (e_bin o_fdiv (e_var 1) e_int) (e_callB o_len (by rfl) B.b_len (by decide +kernel) (a_cons (e_var 0) a_nil))))
    (c_cons (d_set (i := 9) sc_bent.nd rfl (by first | exact Or.inl rfl | exact Or.inr rfl) (e_callC C_bent a.takes a.room (by rfl) (a_cons (e_ix (e_ix (e_var 0) (e_var 8)) e_int) (a_cons (e_bin o_fdiv (e_var 1) e_int) (a_cons (e_var 2) a_nil)))))
    (c_one (d_ret (e_bin o_add (e_bin o_add (e_sl (e_var 0) s_none (s_some (e_var 8))) (e_tup (a_cons (e_tup (a_cons (e_ix (e_ix (e_var 0) (e_var 8)) e_int) (a_cons (e_var 9) a_nil))) a_nil))) (e_sl (e_var 0) (s_some (e_bin o_add (e_var 8) e_int)) s_none))))))))
theorem c_due (D_due : List D → M D) {k : Nat} {f : Addr} {fd : FuncData} (F : Fun K "_law_due" "_law_due" (topS 12) f fd) (gf : mg "_law_due" = some (.ref f)) (B : Blt mg) (C_due : Cal P w K mg base k "_law_due" 2 D_due) : Cal P w K mg base (k + 1) "_law_due" 2 (fnD false 5 (g_due D_due)) := by
  refine Cal.mk' F gf (F.binds (ps := [("_law_value_here" : PySem.Str), ("_law_kind_here" : PySem.Str)]) fun _ _ _ _ _ _ us hl => match us, hl with | [_, _], _ => rfl) (fn_ok (N := [("_law_value_here" : PySem.Str), ("_law_kind_here" : PySem.Str), ("_law_fields" : PySem.Str), ("_law_label" : PySem.Str), ("_law_inner" : PySem.Str)]) false F sc_due rfl fun cdv A outer s H E a => ?_)
  exact (c_cons (d_if (b_cmp (o_eq (u64 a.room)) (e_ix (e_var 1) e_int) e_str) (c_one (d_ret e_bl)) c_nil)
    (c_cons (d_if (b_cmp (o_eq (u64 a.room)) (e_ix (e_var 1) e_int) e_str) (c_one (d_ret (e_not (e_isi (T := "tuple") (by rfl) B.b_isinstance (by rfl) B.b_tuple (by decide +kernel) (ha := (e_var 0)))))) c_nil)
    (c_cons (d_if (b_not (b_tru (e_isi (T := "tuple") (by rfl) B.b_isinstance (by rfl) B.b_tuple (by decide +kernel) (ha := (e_var 0))))) (c_one (d_ret e_bl)) c_nil)
    (c_cons (d_set (i := 2) sc_due.nd rfl (by first | exact Or.inl rfl | exact Or.inr rfl) (e_dict a.calm (by rfl) B.b_dict (a_cons (e_var 0) a_nil)))
    (c_cons (d_for a.own a.calm (i_seq (e_ix (e_var 1) e_int)) (pg_tup rfl (pgs_cons (pg_name (i := 3) sc_due.nd rfl (by first | exact Or.inl rfl | exact Or.inr rfl)) (pgs_cons (pg_name (i := 4) sc_due.nd rfl (by first | exact Or.inl rfl | exact Or.inr rfl)) pgs_nil))) (g_tup (g_cons (g_name (vs := [3, 4]) 3) (g_cons (g_name (vs := [3, 4]) 4) (g_nil (vs := [3, 4]))))) (c_one (d_if (b_w (w_or (b_pc (c_dnotIn (u1 a.room) (e_var 3) (e_var 2))) (w_or1 (b_not (b_tru (e_callC C_due a.takes a.room (by rfl) (a_cons (e_dget (u1 a.room) (e_var 2) (e_var 3)) (a_cons (e_var 4) a_nil)))))))) (c_one (d_ret e_bl)) c_nil)))
    (c_one (d_ret (e_or (e_cmp o_isNot (e_ix (e_var 1) e_int) e_non) (e_one (e_cmp (o_eq (u64 a.room)) (e_callB o_len (by rfl) B.b_len (by decide +kernel) (a_cons (e_var 0) a_nil)) (e_callB o_len (by rfl) B.b_len (by decide +kernel) (a_cons (e_ix (e_var 1) e_int) a_nil))))))))))))

theorem r_kind {L : Nat} {f_kind : Addr} {d_kind : FuncData} (F_kind : Fun K "_law_kind" "_law_kind" (topS 8) f_kind d_kind) (g_kind : mg "_law_kind" = some (.ref f_kind)) (B : Blt mg) (C_next : Cal P w K mg base L "_law_next" 1 D_next) : ∀ n : Nat, Cal P w K mg base (L + n) "_law_kind" 4 (R_kind n) := by
  intro n
  induction n with
  | zero => exact (Cal.zero F_kind g_kind (F_kind.binds (ps := [("_law_state" : PySem.Str), ("_law_labels_here" : PySem.Str), ("_law_met" : PySem.Str), ("_law_left" : PySem.Str)]) fun _ _ _ _ _ _ us hl => match us, hl with | [_, _, _, _], _ => rfl) rfl)
  | succ n ih => exact (c_kind _ F_kind g_kind B (C_next.mono (Nat.le_add_right _ _)) ih)
theorem r_any {L : Nat} {f_any : Addr} {d_any : FuncData} (F_any : Fun K "_law_any" "_law_any" (topS 9) f_any d_any) (g_any : mg "_law_any" = some (.ref f_any)) (B : Blt mg) (C_next : Cal P w K mg base L "_law_next" 1 D_next) : ∀ n : Nat, Cal P w K mg base (L + n) "_law_any" 3 (R_any n) := by
  intro n
  induction n with
  | zero => exact (Cal.zero F_any g_any (F_any.binds (ps := [("_law_state" : PySem.Str), ("_law_labels_here" : PySem.Str), ("_law_left" : PySem.Str)]) fun _ _ _ _ _ _ us hl => match us, hl with | [_, _, _], _ => rfl) rfl)
  | succ n ih => exact (c_any _ F_any g_any B (C_next.mono (Nat.le_add_right _ _)) ih)
theorem r_value {L : Nat} {f_value : Addr} {d_value : FuncData} (F_value : Fun K "_law_value" "_law_value" (topS 10) f_value d_value) (g_value : mg "_law_value" = some (.ref f_value)) (B : Blt mg) (C_any : Cal P w K mg base L "_law_any" 3 D_any) (C_next : Cal P w K mg base L "_law_next" 1 D_next) : ∀ n : Nat, Cal P w K mg base (L + n) "_law_value" 3 (R_value n) := by
  intro n
  induction n with
  | zero => exact (Cal.zero F_value g_value (F_value.binds (ps := [("_law_state" : PySem.Str), ("_law_kind_here" : PySem.Str), ("_law_labels_here" : PySem.Str)]) fun _ _ _ _ _ _ us hl => match us, hl with | [_, _, _], _ => rfl) rfl)
  | succ n ih => exact (c_value _ F_value g_value B (C_any.mono (Nat.le_add_right _ _)) ih (C_next.mono (Nat.le_add_right _ _)))
theorem r_bent {L : Nat} {f_bent : Addr} {d_bent : FuncData} (F_bent : Fun K "_law_bent" "_law_bent" (topS 11) f_bent d_bent) (g_bent : mg "_law_bent" = some (.ref f_bent)) (B : Blt mg) : ∀ n : Nat, Cal P w K mg base (L + n) "_law_bent" 3 (R_bent n) := by
  intro n
  induction n with
  | zero => exact (Cal.zero F_bent g_bent (F_bent.binds (ps := [("_law_value_here" : PySem.Str), ("_law_path" : PySem.Str), ("_law_labels_here" : PySem.Str)]) fun _ _ _ _ _ _ us hl => match us, hl with | [_, _, _], _ => rfl) rfl)
  | succ n ih => exact (c_bent _ F_bent g_bent B ih)
theorem r_due {L : Nat} {f_due : Addr} {d_due : FuncData} (F_due : Fun K "_law_due" "_law_due" (topS 12) f_due d_due) (g_due : mg "_law_due" = some (.ref f_due)) (B : Blt mg) : ∀ n : Nat, Cal P w K mg base (L + n) "_law_due" 2 (R_due n) := by
  intro n
  induction n with
  | zero => exact (Cal.zero F_due g_due (F_due.binds (ps := [("_law_value_here" : PySem.Str), ("_law_kind_here" : PySem.Str)]) fun _ _ _ _ _ _ us hl => match us, hl with | [_, _], _ => rfl) rfl)
  | succ n ih => exact (c_due _ F_due g_due B ih)
end
theorem fn_law {P : Program} {w : World} {K : PySem.W.Frag} {mg : Str → Option Value} {base : Heap} {k : Nat} {f : Addr} {fd : FuncData} (F : Fun K "law" "law" (topS 13) f fd) (B : Blt mg) (C_labels : Cal P w K mg base k "_law_labels" 2 D_labels) (C_kind : Cal P w K mg base k "_law_kind" 4 D_kind) (C_value : Cal P w K mg base k "_law_value" 3 D_value) (C_cell : Cal P w K mg base k "_law_cell" 2 D_cell) (C_is_of : Cal P w K mg base k "is_of" 2 D_is_of) (C_bent : Cal P w K mg base k "_law_bent" 3 D_bent) (C_due : Cal P w K mg base k "_law_due" 2 D_due) : FnOk P w K mg base (L2.CX P w) (k + 1) f fd [("_law_script" : PySem.Str)] (spD K mg 1 D_law) := by
  refine fn_ok (N := [("_law_script" : PySem.Str), ("_law_labels_here" : PySem.Str), ("_law_state" : PySem.Str), ("_law_met" : PySem.Str), ("_law_kind_here" : PySem.Str), ("_law_value_here" : PySem.Str), ("_law_way" : PySem.Str), ("_law_other" : PySem.Str), ("_law_found" : PySem.Str)]) false F sc_law rfl fun cdv A outer s H E a => ?_
  exact (c_cons (d_set (i := 1) sc_law.nd rfl (by first | exact Or.inl rfl | exact Or.inr rfl) (e_callC C_labels a.takes a.room (by rfl) (a_cons (e_callC C_cell a.takes a.room (by rfl) (a_cons (e_var 0) (a_cons e_int a_nil))) (a_cons e_int a_nil))))
    (c_cons (d_set (i := 2) sc_law.nd rfl (by first | exact Or.inl rfl | exact Or.inr rfl) (e_own (a_cons (e_bin o_add e_int (e_bin o_mod (e_callC C_cell a.takes a.room (by rfl) (a_cons (e_var 0) (a_cons e_int a_nil))) e_int)) (a_cons (e_bin o_add e_int (e_bin o_mod (e_callC C_cell a.takes a.room (by rfl) (a_cons (e_var 0) (a_cons e_int a_nil))) e_int)) a_nil))))
    (c_cons (d_set (i := 3) sc_law.nd rfl (by first | exact Or.inl rfl | exact Or.inr rfl) (e_own (a_cons (e_bin o_add e_int (e_bin o_mod (e_callC C_cell a.takes a.room (by rfl) (a_cons (e_var 0) (a_cons e_int a_nil))) (e_bin o_pow e_int e_int))) (a_cons (e_own a_nil) a_nil))))
    (c_cons (d_set (i := 4) sc_law.nd rfl (by first | exact Or.inl rfl | exact Or.inr rfl) (e_callC C_kind a.takes a.room (by rfl) (a_cons (e_var 2) (a_cons (e_var 1) (a_cons (e_var 3) (a_cons (e_bin o_add e_int (e_bin o_mod (e_bin o_fdiv (e_callC C_cell a.takes a.room (by rfl) (a_cons (e_var 0) (a_cons e_int a_nil))) e_int) e_int)) a_nil))))))
    (c_cons (d_set (i := 5) sc_law.nd rfl (by first | exact Or.inl rfl | exact Or.inr rfl) (e_callC C_value a.takes a.room (by rfl) (a_cons (e_var 2) (a_cons (e_var 4) (a_cons (e_var 1) a_nil)))))
    (c_cons (d_if (b_cmp o_isNotB (e_callC C_is_of a.takes a.room (by rfl) (a_cons (e_var 5) (a_cons (e_var 4) a_nil))) e_bl) (c_one (d_ret e_bl)) c_nil)
    (c_cons (d_set (i := 6) sc_law.nd rfl (by first | exact Or.inl rfl | exact Or.inr rfl) (e_callC C_cell a.takes a.room (by rfl) (a_cons (e_var 0) (a_cons e_int a_nil))))
    (c_cons (d_if (b_cmp o_gt (e_bin o_mod (e_var 6) e_int) e_int) (c_one (d_set (i := 5) sc_law.nd rfl (by first | exact Or.inl rfl | exact Or.inr rfl) (e_callC C_bent a.takes a.room (by rfl) (a_cons (e_var 5) (a_cons (e_bin o_fdiv (e_var 6) e_int) (a_cons (e_var 1) a_nil)))))) c_nil)
    (c_cons (d_for a.own a.calm (i_seq (e_lst (a_cons (e_var 4) (a_cons (e_tup (a_cons e_str a_nil)) (a_cons (e_var 4) a_nil))))) (pg_name (i := 7) sc_law.nd rfl (by first | exact Or.inl rfl | exact Or.inr rfl)) (g_name (vs := [7]) 7) (c_cons (d_set (i := 8) sc_law.nd rfl (by first | exact Or.inl rfl | exact Or.inr rfl) (e_callC C_is_of a.takes a.room (by rfl) (a_cons (e_var 5) (a_cons (e_var 7) a_nil))))
    (c_one (d_if (b_w (w_or (b_not (b_tru (e_isi (T := "bool") (by rfl) B.b_isinstance (by rfl) B.b_bool (by decide +kernel) (ha := (e_var 8))))) (w_or1 (b_cmp (o_ne (u64 a.room)) (e_var 8) (e_callC C_due a.takes a.room (by rfl) (a_cons (e_var 5) (a_cons (e_var 7) a_nil))))))) (c_one (d_ret e_bl)) c_nil))))
    (c_one (d_ret (e_and (e_cmp o_isB (e_callC C_is_of a.takes a.room (by rfl) (a_cons (e_var 5) (a_cons (e_tup (a_cons e_str (a_cons e_int a_nil))) a_nil))) e_bl) (e_one (e_cmp (o_eq (u64 a.room)) (e_callC C_is_of a.takes a.room (by rfl) (a_cons (e_var 5) (a_cons (e_tup (a_cons e_str (a_cons (e_tup a_nil) (a_cons e_int a_nil)))) a_nil))) (e_isi (T := "tuple") (by rfl) B.b_isinstance (by rfl) B.b_tuple (by decide +kernel) (ha := (e_var 5)))))))))))))))))
theorem all_mk (HL : ∀ ns : List Int, ns.length ≤ 63 → ∃ s, D_law [.scr (ns.map D.int)] [] = some (.ok (.bl true) s)) {P : Program} {w : World} {K : PySem.W.Frag} {h : Heap} {mg : Str → Option Value} {fa : Addr} (X : K.In h) (G : h.Ns mainGlobals mg) (hfa : mg "law" = some (.ref fa))
    {f_is_of : Addr} {o_is_of a_is_of : Option Addr} {s_is_of : Array (Option Value)} {zc_is_of v_is_of t_is_of p_is_of e_is_of u_is_of : Value}
    (ha_is_of : PySem.W.nsIn K mainGlobals "is_of" = some (some (.ref f_is_of))) (hl_is_of : K.lookup f_is_of = some ⟨zc_is_of, o_is_of, .func (PySem.W.fnOf "is_of" "is_of" (defArgs (topS 1)) (defBody (topS 1)) (defScope (topS 1)) .none v_is_of t_is_of p_is_of a_is_of e_is_of u_is_of), s_is_of⟩) (hc_is_of : PySem.W.codeIn K e_is_of "is_of" = true) (hk_is_of : PySem.W.keepIn K (.ref f_is_of) = true)
    {f_is_number : Addr} {o_is_number a_is_number : Option Addr} {s_is_number : Array (Option Value)} {zc_is_number v_is_number t_is_number p_is_number e_is_number u_is_number : Value}
    (ha_is_number : PySem.W.nsIn K mainGlobals "is_number" = some (some (.ref f_is_number))) (hl_is_number : K.lookup f_is_number = some ⟨zc_is_number, o_is_number, .func (PySem.W.fnOf "is_number" "is_number" (defArgs (topS 2)) (defBody (topS 2)) (defScope (topS 2)) .none v_is_number t_is_number p_is_number a_is_number e_is_number u_is_number), s_is_number⟩) (hc_is_number : PySem.W.codeIn K e_is_number "is_number" = true) (hk_is_number : PySem.W.keepIn K (.ref f_is_number) = true)
    {f_has_labels : Addr} {o_has_labels a_has_labels : Option Addr} {s_has_labels : Array (Option Value)} {zc_has_labels v_has_labels t_has_labels p_has_labels e_has_labels u_has_labels : Value}
    (ha_has_labels : PySem.W.nsIn K mainGlobals "has_labels" = some (some (.ref f_has_labels))) (hl_has_labels : K.lookup f_has_labels = some ⟨zc_has_labels, o_has_labels, .func (PySem.W.fnOf "has_labels" "has_labels" (defArgs (topS 3)) (defBody (topS 3)) (defScope (topS 3)) .none v_has_labels t_has_labels p_has_labels a_has_labels e_has_labels u_has_labels), s_has_labels⟩) (hc_has_labels : PySem.W.codeIn K e_has_labels "has_labels" = true) (hk_has_labels : PySem.W.keepIn K (.ref f_has_labels) = true)
    {f_cell : Addr} {o_cell a_cell : Option Addr} {s_cell : Array (Option Value)} {zc_cell v_cell t_cell p_cell e_cell u_cell : Value}
    (ha_cell : PySem.W.nsIn K mainGlobals "_law_cell" = some (some (.ref f_cell))) (hl_cell : K.lookup f_cell = some ⟨zc_cell, o_cell, .func (PySem.W.fnOf "_law_cell" "_law_cell" (defArgs (topS 5)) (defBody (topS 5)) (defScope (topS 5)) .none v_cell t_cell p_cell a_cell e_cell u_cell), s_cell⟩) (hc_cell : PySem.W.codeIn K e_cell "_law_cell" = true) (hk_cell : PySem.W.keepIn K (.ref f_cell) = true)
    {f_next : Addr} {o_next a_next : Option Addr} {s_next : Array (Option Value)} {zc_next v_next t_next p_next e_next u_next : Value}
    (ha_next : PySem.W.nsIn K mainGlobals "_law_next" = some (some (.ref f_next))) (hl_next : K.lookup f_next = some ⟨zc_next, o_next, .func (PySem.W.fnOf "_law_next" "_law_next" (defArgs (topS 6)) (defBody (topS 6)) (defScope (topS 6)) .none v_next t_next p_next a_next e_next u_next), s_next⟩) (hc_next : PySem.W.codeIn K e_next "_law_next" = true) (hk_next : PySem.W.keepIn K (.ref f_next) = true)
    {f_labels : Addr} {o_labels a_labels : Option Addr} {s_labels : Array (Option Value)} {zc_labels v_labels t_labels p_labels e_labels u_labels : Value}
    (ha_labels : PySem.W.nsIn K mainGlobals "_law_labels" = some (some (.ref f_labels))) (hl_labels : K.lookup f_labels = some ⟨zc_labels, o_labels, .func (PySem.W.fnOf "_law_labels" "_law_labels" (defArgs (topS 7)) (defBody (topS 7)) (defScope (topS 7)) .none v_labels t_labels p_labels a_labels e_labels u_labels), s_labels⟩) (hc_labels : PySem.W.codeIn K e_labels "_law_labels" = true) (hk_labels : PySem.W.keepIn K (.ref f_labels) = true)
    {f_kind : Addr} {o_kind a_kind : Option Addr} {s_kind : Array (Option Value)} {zc_kind v_kind t_kind p_kind e_kind u_kind : Value}
    (ha_kind : PySem.W.nsIn K mainGlobals "_law_kind" = some (some (.ref f_kind))) (hl_kind : K.lookup f_kind = some ⟨zc_kind, o_kind, .func (PySem.W.fnOf "_law_kind" "_law_kind" (defArgs (topS 8)) (defBody (topS 8)) (defScope (topS 8)) .none v_kind t_kind p_kind a_kind e_kind u_kind), s_kind⟩) (hc_kind : PySem.W.codeIn K e_kind "_law_kind" = true) (hk_kind : PySem.W.keepIn K (.ref f_kind) = true)
    {f_any : Addr} {o_any a_any : Option Addr} {s_any : Array (Option Value)} {zc_any v_any t_any p_any e_any u_any : Value}
    (ha_any : PySem.W.nsIn K mainGlobals "_law_any" = some (some (.ref f_any))) (hl_any : K.lookup f_any = some ⟨zc_any, o_any, .func (PySem.W.fnOf "_law_any" "_law_any" (defArgs (topS 9)) (defBody (topS 9)) (defScope (topS 9)) .none v_any t_any p_any a_any e_any u_any), s_any⟩) (hc_any : PySem.W.codeIn K e_any "_law_any" = true) (hk_any : PySem.W.keepIn K (.ref f_any) = true)
    {f_value : Addr} {o_value a_value : Option Addr} {s_value : Array (Option Value)} {zc_value v_value t_value p_value e_value u_value : Value}
    (ha_value : PySem.W.nsIn K mainGlobals "_law_value" = some (some (.ref f_value))) (hl_value : K.lookup f_value = some ⟨zc_value, o_value, .func (PySem.W.fnOf "_law_value" "_law_value" (defArgs (topS 10)) (defBody (topS 10)) (defScope (topS 10)) .none v_value t_value p_value a_value e_value u_value), s_value⟩) (hc_value : PySem.W.codeIn K e_value "_law_value" = true) (hk_value : PySem.W.keepIn K (.ref f_value) = true)
    {f_bent : Addr} {o_bent a_bent : Option Addr} {s_bent : Array (Option Value)} {zc_bent v_bent t_bent p_bent e_bent u_bent : Value}
    (ha_bent : PySem.W.nsIn K mainGlobals "_law_bent" = some (some (.ref f_bent))) (hl_bent : K.lookup f_bent = some ⟨zc_bent, o_bent, .func (PySem.W.fnOf "_law_bent" "_law_bent" (defArgs (topS 11)) (defBody (topS 11)) (defScope (topS 11)) .none v_bent t_bent p_bent a_bent e_bent u_bent), s_bent⟩) (hc_bent : PySem.W.codeIn K e_bent "_law_bent" = true) (hk_bent : PySem.W.keepIn K (.ref f_bent) = true)
    {f_due : Addr} {o_due a_due : Option Addr} {s_due : Array (Option Value)} {zc_due v_due t_due p_due e_due u_due : Value}
    (ha_due : PySem.W.nsIn K mainGlobals "_law_due" = some (some (.ref f_due))) (hl_due : K.lookup f_due = some ⟨zc_due, o_due, .func (PySem.W.fnOf "_law_due" "_law_due" (defArgs (topS 12)) (defBody (topS 12)) (defScope (topS 12)) .none v_due t_due p_due a_due e_due u_due), s_due⟩) (hc_due : PySem.W.codeIn K e_due "_law_due" = true) (hk_due : PySem.W.keepIn K (.ref f_due) = true)
    {f_law : Addr} {o_law a_law : Option Addr} {s_law : Array (Option Value)} {zc_law v_law t_law p_law e_law u_law : Value}
    (ha_law : PySem.W.nsIn K mainGlobals "law" = some (some (.ref f_law))) (hl_law : K.lookup f_law = some ⟨zc_law, o_law, .func (PySem.W.fnOf "law" "law" (defArgs (topS 13)) (defBody (topS 13)) (defScope (topS 13)) .none v_law t_law p_law a_law e_law u_law), s_law⟩) (hc_law : PySem.W.codeIn K e_law "law" = true) (hk_law : PySem.W.keepIn K (.ref f_law) = true)
    (hz_bool : PySem.W.nsIn K mainGlobals "bool" = some none)
    (hz_dict : PySem.W.nsIn K mainGlobals "dict" = some none)
    (hz_int : PySem.W.nsIn K mainGlobals "int" = some none)
    (hz_isinstance : PySem.W.nsIn K mainGlobals "isinstance" = some none)
    (hz_len : PySem.W.nsIn K mainGlobals "len" = some none)
    (hz_list : PySem.W.nsIn K mainGlobals "list" = some none)
    (hz_range : PySem.W.nsIn K mainGlobals "range" = some none)
    (hz_sorted : PySem.W.nsIn K mainGlobals "sorted" = some none)
    (hz_tuple : PySem.W.nsIn K mainGlobals "tuple" = some none) :
    ∃ fd : FuncData, (∀ (s : Shared) (v : Value), BindsTo s fd ⟨[v], []⟩ [("_law_script", v)]) ∧ ∀ base : Heap, K.In base → base.Ns mainGlobals mg → FnOk P w K mg base (L2.CX P w) 21 fa fd ["_law_script"] (spT K []) := by
  have e := hfa.symm.trans (PySem.W.mg_of X G ha_law)
  cases e
  have F_is_of := fun_mk (st := topS 1) hl_is_of hc_is_of hk_is_of
  have g_is_of := PySem.W.mg_of X G ha_is_of
  have F_is_number := fun_mk (st := topS 2) hl_is_number hc_is_number hk_is_number
  have g_is_number := PySem.W.mg_of X G ha_is_number
  have F_has_labels := fun_mk (st := topS 3) hl_has_labels hc_has_labels hk_has_labels
  have g_has_labels := PySem.W.mg_of X G ha_has_labels
  have F_cell := fun_mk (st := topS 5) hl_cell hc_cell hk_cell
  have g_cell := PySem.W.mg_of X G ha_cell
  have F_next := fun_mk (st := topS 6) hl_next hc_next hk_next
  have g_next := PySem.W.mg_of X G ha_next
  have F_labels := fun_mk (st := topS 7) hl_labels hc_labels hk_labels
  have g_labels := PySem.W.mg_of X G ha_labels
  have F_kind := fun_mk (st := topS 8) hl_kind hc_kind hk_kind
  have g_kind := PySem.W.mg_of X G ha_kind
  have F_any := fun_mk (st := topS 9) hl_any hc_any hk_any
  have g_any := PySem.W.mg_of X G ha_any
  have F_value := fun_mk (st := topS 10) hl_value hc_value hk_value
  have g_value := PySem.W.mg_of X G ha_value
  have F_bent := fun_mk (st := topS 11) hl_bent hc_bent hk_bent
  have g_bent := PySem.W.mg_of X G ha_bent
  have F_due := fun_mk (st := topS 12) hl_due hc_due hk_due
  have g_due := PySem.W.mg_of X G ha_due
  have F_law := fun_mk (st := topS 13) hl_law hc_law hk_law
  have g_law := PySem.W.mg_of X G ha_law
  have B : Blt mg := ⟨PySem.W.mg_none_of X G hz_bool, PySem.W.mg_none_of X G hz_dict, PySem.W.mg_none_of X G hz_int, PySem.W.mg_none_of X G hz_isinstance, PySem.W.mg_none_of X G hz_len, PySem.W.mg_none_of X G hz_list, PySem.W.mg_none_of X G hz_range, PySem.W.mg_none_of X G hz_sorted, PySem.W.mg_none_of X G hz_tuple⟩
  refine ⟨PySem.W.fnOf "law" "law" (defArgs (topS 13)) (defBody (topS 13)) (defScope (topS 13)) .none v_law t_law p_law a_law e_law u_law, fun s v => .of_eq rfl, fun base _ _ => ?_⟩
  have C_is_number : Cal P w K mg base 1 "is_number" 1 D_is_number := c_is_number (k := 0) F_is_number g_is_number B
  have C_has_labels : Cal P w K mg base 1 "has_labels" 2 D_has_labels := c_has_labels (k := 0) F_has_labels g_has_labels B
  have C_is_of : Cal P w K mg base 2 "is_of" 2 D_is_of := c_is_of (k := 1) F_is_of g_is_of B (C_is_number.mono (by decide)) (C_has_labels.mono (by decide))
  have C_cell : Cal P w K mg base 1 "_law_cell" 2 D_cell := c_cell (k := 0) F_cell g_cell B
  have C_next : Cal P w K mg base 1 "_law_next" 1 D_next := c_next (k := 0) F_next g_next B
  have C_labels : Cal P w K mg base 1 "_law_labels" 2 D_labels := c_labels (k := 0) F_labels g_labels B
  have R_kind := r_kind (P := P) (w := w) (base := base) (L := 1) F_kind g_kind B (C_next.mono (by decide))
  have C_kind : Cal P w K mg base 15 "_law_kind" 4 D_kind := (R_kind 14)
  have R_any := r_any (P := P) (w := w) (base := base) (L := 1) F_any g_any B (C_next.mono (by decide))
  have C_any : Cal P w K mg base 6 "_law_any" 3 D_any := (R_any 5)
  have R_value := r_value (P := P) (w := w) (base := base) (L := 6) F_value g_value B (C_any.mono (by decide)) (C_next.mono (by decide))
  have C_value : Cal P w K mg base 14 "_law_value" 3 D_value := (R_value 8)
  have R_bent := r_bent (P := P) (w := w) (base := base) (L := 0) F_bent g_bent B
  have C_bent : Cal P w K mg base 20 "_law_bent" 3 D_bent := (R_bent 20)
  have R_due := r_due (P := P) (w := w) (base := base) (L := 0) F_due g_due B
  have C_due : Cal P w K mg base 8 "_law_due" 2 D_due := (R_due 8)
  have L := fn_law (k := 20) (base := base) (P := P) (w := w) F_law B (C_labels.mono (by decide)) (C_kind.mono (by decide)) (C_value.mono (by decide)) (C_cell.mono (by decide)) (C_is_of.mono (by decide)) (C_bent.mono (by decide)) (C_due.mono (by decide))
  refine L.imp fun vs H Q E hs => ?_
  obtain ⟨a, ns, rfl, hS, hn, hH, q⟩ := hs
  exact law_spT 63 [] .nil (fun p hp => absurd hp (by simp)) HL H a ns hn hS (fun p hp => absurd hp (by simp)) q
end Pr


set_option Elab.async false
set_option linter.all false
set_option maxRecDepth 100000
set_option maxHeartbeats 4000000
/-! R0: helps for what is drawn. -/
namespace Pr
open PySem L2 PD
abbrev S (x : String) : Str := PySem.Str.ofString x
structure OkS (n : Nat) (x : Str) : Prop where
  len : x.length ≤ n
  let_ : ∀ c ∈ x.cps.toList, 97 ≤ c ∧ c ≤ 122
theorem OkS.cps {n : Nat} {x : Str} (h : OkS n x) : ∀ c ∈ x.cps.toList, c < 1114112 := fun c hc => by have := h.let_ c hc; omega
theorem OkS.mono {m n : Nat} {x : Str} (h : OkS m x) (hn : m ≤ n) : OkS n x := ⟨Nat.le_trans h.len hn, h.let_⟩
/-- plain, and at most n deep -/
structure Pl (n : Nat) (d : D) : Prop where
  low : D.low 0 d = true
  lay : (py d).canLay0 = true
  deep : (py d).depth ≤ n
theorem Pl.mono {m n : Nat} {d : D} (h : Pl m d) (hn : m ≤ n) : Pl n d := ⟨h.low, h.lay, Nat.le_trans h.deep hn⟩
theorem pl_str {k : Nat} (n : Nat) {x : Str} (h : OkS k x) : Pl n (.str x) := by
  refine ⟨rfl, ?_, by show PyData.depth (.str x) ≤ n; simp [PyData.depth]⟩
  show PyData.strOk x = true
  unfold PyData.strOk
  rw [Array.all_eq_true']
  intro c hc
  exact decide_eq_true (h.cps c (by simpa using hc))
theorem pl_all {n : Nat} : ∀ {ds : List D}, (∀ d ∈ ds, Pl n d) → D.lowAll 0 ds = true ∧ PyData.canLayAll0 (pyAll ds) = true ∧ PyData.depthAll (pyAll ds) ≤ n
  | [], _ => ⟨rfl, rfl, by simp [pyAll, PyData.depthAll]⟩
  | d :: ds, h => by
    obtain ⟨a, b, c⟩ := pl_all (ds := ds) fun x hx => h x (List.mem_cons_of_mem _ hx)
    have e := h d List.mem_cons_self
    refine ⟨?_, ?_, ?_⟩
    · show (D.low 0 d && D.lowAll 0 ds) = true
      rw [e.low, a]; rfl
    · show ((py d).canLay0 && PyData.canLayAll0 (pyAll ds)) = true
      rw [e.lay, b]; rfl
    · have := e.deep
      simp only [pyAll, PyData.depthAll]
      omega
theorem pl_lst {n : Nat} {ds : List D} (h : ∀ d ∈ ds, Pl n d) : Pl (n + 1) (.lst ds) := by
  obtain ⟨a, b, c⟩ := pl_all h
  refine ⟨a, b, ?_⟩
  show PyData.depth (.list (pyAll ds)) ≤ n + 1
  simp only [PyData.depth]
  omega
theorem pl_scr {n : Nat} {ds : List D} (h : ∀ d ∈ ds, Pl n d) : Pl (n + 1) (.scr ds) := by
  obtain ⟨a, b, c⟩ := pl_all h
  refine ⟨a, b, ?_⟩
  show PyData.depth (.list (pyAll ds)) ≤ n + 1
  simp only [PyData.depth]
  omega
theorem Pl.shaped {d : D} (h : Pl 64 d) : SeqAt.shaped (py d) = true := Bool.and_eq_true_iff.mpr ⟨h.lay, decide_eq_true h.deep⟩
theorem plainPy_of {s : Sto} {d : D} (h : Pl 64 (peek s d)) : plainPy s d = some (py (peek s d)) := by
  unfold plainPy
  rw [h.low, h.shaped]
  rfl
theorem fB_of {f : Sl → M D} {sl : Sl} {s s1 : Sto} {b : Bool} (h1 : f sl s = some (.ok (.bl b) s1)) : fB f sl s = some (.ok b s1) := by
  simp [fB, bindM, liftO, asB, h1]
theorem f2_of {o : Sto → D → D → Option D} {f g : Sl → M D} {sl : Sl} {s s1 s2 : Sto} {x y z : D} (h1 : f sl s = some (.ok x s1)) (h2 : g sl s1 = some (.ok y s2)) (h3 : o s2 x y = some z) : f2 o f g sl s = some (.ok z s2) := by
  simp [f2, bindM, liftO, h1, h2, h3]

theorem small_of {n : Nat} (h : n ≤ 1000000) : small n = true := decide_eq_true (by omega)
theorem low_strs (n : Nat) (L : List Str) : D.lowAll n (L.map D.str) = true := by
  rw [lowAll_iff]
  intro d hd
  obtain ⟨x, _, rfl⟩ := List.mem_map.mp hd
  rfl
mutual
/-- data without own lists, its texts not too long -/
def dt : D → Bool
  | .own _ => false | .scr _ => false | .par _ => false
  | .str x => decide (x.length ≤ 1000000)
  | .lst xs => dts xs | .tup xs => dts xs
  | .non => true | .bl _ => true | .int _ => true
def dts : List D → Bool
  | [] => true | x :: xs => dt x && dts xs
end
mutual
def sz : D → Nat
  | .lst xs => szs xs + 1 | .tup xs => szs xs + 1 | .scr xs => szs xs + 1 | .par xs => szs xs + 1
  | .non => 1 | .bl _ => 1 | .int _ => 1 | .str _ => 1 | .own _ => 1
def szs : List D → Nat
  | [] => 0 | x :: xs => sz x + szs xs
end
theorem dts_iff : ∀ {ds : List D}, dts ds = true ↔ ∀ d ∈ ds, dt d = true
  | [] => by simp [dts]
  | d :: ds => by
    show (dt d && dts ds) = true ↔ _
    rw [Bool.and_eq_true, dts_iff (ds := ds)]
    simp
mutual
theorem dt_low : ∀ d : D, dt d = true → D.low 0 d = true
  | .non, _ => rfl
  | .bl _, _ => rfl
  | .int _, _ => rfl
  | .str _, _ => rfl
  | .lst xs, h => dts_low xs h
  | .tup xs, h => dts_low xs h
theorem dts_low : ∀ ds : List D, dts ds = true → D.lowAll 0 ds = true
  | [], _ => rfl
  | d :: ds, h => by
    have h' : dt d = true ∧ dts ds = true := Bool.and_eq_true_iff.mp h
    show (D.low 0 d && D.lowAll 0 ds) = true
    rw [dt_low d h'.1, dts_low ds h'.2]
    rfl
end
theorem set_same {s : Sto} {k : Nat} {c : Cell} (h : s[k]? = some c) : s.set k c = s := by
  refine List.ext_getElem? fun i => ?_
  by_cases e : i = k
  · subst e
    rw [List.getElem?_set_self (List.getElem?_eq_some_iff.mp h).1, h]
  · rw [List.getElem?_set_ne (Ne.symm e)]
theorem no_own {d : D} (h : dt d = true) : ∀ k, d ≠ .own k := fun k e => by subst e; cases h
/-! ### words and numbers -/
theorem fOr_t {u v : Sl → M Bool} {sl : Sl} {s s1 : Sto} (h1 : u sl s = some (.ok true s1)) : fOr u v sl s = some (.ok true s1) := by
  simp [fOr, bindM, retM, h1]
theorem fOr_f {u v : Sl → M Bool} {sl : Sl} {s s1 : Sto} {r : Option (R Bool)} (h1 : u sl s = some (.ok false s1)) (h2 : v sl s1 = r) : fOr u v sl s = r := by
  simp [fOr, bindM, retM, h1, h2]
theorem skip_if {u : Sl → M Bool} {g r : SD} {sl : Sl} {s s' : Sto} (h : u sl s = some (.ok false s')) : seqS (ifS u g nextS) r sl s = r sl s' :=
  (seqS_nx ((ifS_f (g1 := g) (g2 := nextS) h).trans rfl))
end Pr

set_option Elab.async false
set_option linter.all false
set_option maxRecDepth 100000
set_option maxHeartbeats 4000000
namespace Pr
open PySem L2 PD
/-! ### cells, numbers drawn -/
theorem next_eq (s : Sto) (k : Nat) (a b : Int) (h : s[k]? = some (.lst [.int a, .int b])) :
    D_next [.own k] s = some (.ok (.int ((a * 48271 + 11) % 2147483647 / 7)) (s.set k (.lst [.int ((a * 48271 + 11) % 2147483647), .int (b - 1)]))) := by
  have hset : ∀ c : Cell, (s.set k c)[k]? = some c := set_at h
  unfold D_next
  refine fnD_rt (d := .int ((a * 48271 + 11) % 2147483647 / 7)) (s' := s.set k (.lst [.int ((a * 48271 + 11) % 2147483647), .int (b - 1)])) ?_ ?_
  · unfold g_next
    simp [seqS, setS, bindS, retS, retNS, exprS, ifS, asgS, setIxS, augS, augO, nextS, f1, f2, fN, bindM, liftO, retM, fVar, fC, fTup, fLst, fOwn, fCons, fNil, fB, fTru, fNot, fAnd, fOr, fAndV, fOrV, fIf, asB, truO, fCall, fM0, fM1, tdName, tdTup, tdCons, tdNil, ixO, seqOf, lsOf, atI, ixN, mulO, mulOk, addO, modO, subO, fdivO, setIx, h, hset]
  · have := closeM_low (keep := false) (s := s) (t := s.set k (.lst [.int ((a * 48271 + 11) % 2147483647), .int (b - 1)])) (junk := []) (d := .int ((a * 48271 + 11) % 2147483647 / 7)) (by simp) (keeps_set rfl) rfl (fun _ z => nomatch z)
    rw [List.append_nil] at this
    exact this
/-- what is drawn isn't below 0 -/
theorem next_nn (a : Int) : 0 ≤ (a * 48271 + 11) % 2147483647 / 7 := Int.ediv_nonneg (Int.emod_nonneg _ (by decide)) (by decide)
theorem cell_eq (ns : List Int) (k : Nat) (s : Sto) : ∃ v : Int, 0 ≤ v ∧ v < 2147483647 ∧ D_cell [.scr (ns.map D.int), .int k] s = some (.ok (.int v) s) := by
  have fin : ∀ v : Int, closeM false s (.int v) s = some (.ok (.int v) s) := fun v => by
    have := closeM_low (keep := false) (s := s) (t := s) (junk := []) (d := .int v) rfl (keeps_refl s) rfl (fun _ z => nomatch z)
    rw [List.append_nil] at this
    exact this
  by_cases hk : k < ns.length
  · refine ⟨ns[k] * 48271 % 2147483647, Int.emod_nonneg _ (by decide), Int.emod_lt_of_pos _ (by decide), ?_⟩
    unfold D_cell
    refine fnD_rt (d := .int (ns[k] * 48271 % 2147483647)) (s' := s) ?_ (fin _)
    unfold g_cell
    simp [seqS, setS, bindS, retS, retNS, exprS, ifS, asgS, setIxS, augS, augO, nextS, f1, f2, fN, bindM, liftO, retM, fVar, fC, fTup, fLst, fOwn, fCons, fNil, fB, fTru, fNot, fAnd, fOr, fAndV, fOrV, fIf, asB, truO, fCall, fM0, fM1, tdName, tdTup, tdCons, tdNil, ixO, seqOf, lsOf, atI, ixN, mulO, mulOk, modO, ltO, lenO, hk]
  · refine ⟨0, by decide, by decide, ?_⟩
    unfold D_cell
    refine fnD_rt (d := .int 0) (s' := s) ?_ (fin _)
    unfold g_cell
    simp [seqS, setS, bindS, retS, retNS, exprS, ifS, asgS, setIxS, augS, augO, nextS, f1, f2, fN, bindM, liftO, retM, fVar, fC, fTup, fLst, fOwn, fCons, fNil, fB, fTru, fNot, fAnd, fOr, fAndV, fOrV, fIf, asB, truO, fCall, fM0, fM1, tdName, tdTup, tdCons, tdNil, ixO, seqOf, lsOf, atI, ixN, mulO, mulOk, modO, ltO, lenO, hk]
end Pr

set_option Elab.async false
set_option linter.all false
set_option maxRecDepth 100000
set_option maxHeartbeats 4000000
namespace Pr
open PySem L2 PD
/-! ### labels -/
theorem OkS.app {m n : Nat} {x y : Str} (h : OkS m x) (g : OkS n y) : OkS (m + n) (x ++ y) := by
  refine ⟨?_, fun c hc => ?_⟩
  · show (x.cps ++ y.cps).size ≤ m + n
    rw [Array.size_append]
    exact Nat.add_le_add h.len g.len
  · have hc' : c ∈ (x.cps ++ y.cps).toList := hc
    rw [Array.toList_append] at hc'
    rcases List.mem_append.mp hc' with q | q
    · exact h.let_ c q
    · exact g.let_ c q
theorem OkS.cut {n : Nat} {x : Str} (h : OkS n x) (lo hi : Option Int) : OkS n (cutS x lo hi) := by
  refine ⟨?_, fun c hc => ?_⟩
  · show (cutS x lo hi).cps.size ≤ n
    unfold cutS
    rw [List.size_toArray, List.length_take, List.length_drop]
    have := h.len
    have e : x.cps.toList.length = x.length := rfl
    omega
  · have hc' : c ∈ ((x.cps.toList.drop (HT.sIx x.length 0 lo)).take (HT.sIx x.length x.length hi - HT.sIx x.length 0 lo)) := by
      have e : (cutS x lo hi).cps.toList = ((x.cps.toList.drop (HT.sIx x.length 0 lo)).take (HT.sIx x.length x.length hi - HT.sIx x.length 0 lo)) := rfl
      rw [e] at hc
      exact hc
    exact h.let_ c (List.mem_of_mem_drop (List.mem_of_mem_take hc'))
theorem OkS.one {c : Nat} (h : 97 ≤ c ∧ c ≤ 122) : OkS 1 ⟨#[c]⟩ := ⟨Nat.le_refl _, fun d hd => by
  have : d = c := by simpa using hd
  omega⟩
theorem OkS.join0 : ∀ (ys : List Str), (∀ y ∈ ys, OkS 1 y) → OkS ys.length (Txt.join (PySem.Str.ofString "") ys) := by
  intro ys h
  rw [show Txt.join (PySem.Str.ofString "") ys = Str.join (PySem.Str.ofString "") ys from PySem.StrLaws.glued_eq_join _ _]
  have e0 : (PySem.Str.ofString "" : Str) = ⟨#[]⟩ := by decide +kernel
  rw [e0]
  induction ys with
  | nil => exact ⟨Nat.le_refl _, fun c hc => by cases hc⟩
  | cons y r ih =>
    have hy := h y List.mem_cons_self
    have hr := ih fun z hz => h z (List.mem_cons_of_mem _ hz)
    cases r with
    | nil => exact hy
    | cons z r =>
      have q := (hy.app (y := ⟨#[]⟩) (n := 0) ⟨Nat.le_refl _, fun c hc => by cases hc⟩).app hr
      refine q.mono ?_
      simp only [List.length_cons]
      omega
abbrev abc : Str := PySem.Str.ofString "abcdefghijklmnopqrstuvwxyz"
theorem abc_len : abc.cps.toList.length = 26 := by decide +kernel
theorem abc_small : small abc.length = true := by decide +kernel
theorem abc_ok : ∀ c ∈ abc.cps.toList, 97 ≤ c ∧ c ≤ 122 := by decide +kernel
theorem abc_list : abc.cps.toList = List.range' 97 26 := by decide +kernel
theorem abc_at (i : Int) (h0 : 0 ≤ i) (h1 : i < 26) : ∃ c, atI abc.cps.toList i = some c ∧ (97 ≤ c ∧ c ≤ 122) ∧ c = 97 + i.toNat := by
  obtain ⟨j, rfl⟩ : ∃ j : Nat, i = (j : Int) := ⟨i.toNat, by omega⟩
  have hi : j < abc.cps.toList.length := by rw [abc_len]; omega
  refine ⟨abc.cps.toList[j], atI_nat (List.getElem?_eq_getElem hi), abc_ok _ (List.getElem_mem hi), ?_⟩
  have : abc.cps.toList[j]? = some (97 + j) := by
    rw [abc_list, List.getElem?_range' (by omega)]
    simp
  rw [List.getElem?_eq_getElem hi] at this
  rw [Option.some.inj this]
  simp
theorem abc_ix (s : Sto) (i : Int) (h0 : 0 ≤ i) (h1 : i < 26) : ∃ x, ixO s (.str abc) (.int i) = some (.str x) ∧ OkS 1 x ∧ x = ⟨#[97 + i.toNat]⟩ := by
  obtain ⟨c, h, hc, rfl⟩ := abc_at i h0 h1
  refine ⟨⟨#[97 + i.toNat]⟩, ?_, .one hc, rfl⟩
  show (if small abc.length = true then (atI abc.cps.toList i).map fun c => D.str ⟨#[c]⟩ else none) = _
  rw [if_pos abc_small, h]
  rfl
theorem mulOk_r {i j : Int} (h0 : -(2 ^ 64) < j) (h1 : j < 2 ^ 64) : mulOk i j = true := by
  unfold mulOk
  rw [decide_eq_true h0, decide_eq_true h1]
  simp
theorem mulOk_l {i j : Int} (h0 : -(2 ^ 64) < i) (h1 : i < 2 ^ 64) : mulOk i j = true := by
  unfold mulOk
  rw [decide_eq_true h0, decide_eq_true h1]
  simp
theorem mapStr (xs : List Str) : (xs.map D.str).mapM strD = some xs := by
  induction xs with
  | nil => rfl
  | cons x r ih => rw [List.map_cons, List.mapM_cons, ih]; rfl
theorem sum_le (xs : List Str) (n : Nat) (h : ∀ x ∈ xs, x.length ≤ n) : (xs.map (·.length)).sum ≤ xs.length * n := by
  induction xs with
  | nil => simp
  | cons x r ih =>
    have h1 := h x List.mem_cons_self
    have h2 := ih fun z hz => h z (List.mem_cons_of_mem _ hz)
    rw [List.map_cons, List.sum_cons, List.length_cons, Nat.succ_mul]
    omega
/-- the base of the labels -/
theorem base_eq (c size step : Int) (hs0 : 0 ≤ size) (hs : size < 7) (sl : Sl) (s : Sto) (h0 : sl[0]? = some (some (.int c))) (h2 : sl[2]? = some (some (.str abc))) (h3 : sl[3]? = some (some (.int size))) (h5 : sl[5]? = some (some (.int step))) (hl : 7 < sl.length) :
    ∃ b, OkS 6 b ∧ (fJoin (fC (.str (PySem.Str.ofString ""))) (fLc (tdName 7) fYes (f2 ixO (fVar 2) (f2 modO (f2 addO (fVar 5) (f2 mulO (f2 fdivO (fVar 0) (fC (.int 1274))) (fVar 7))) (fC (.int 26)))) (fRng1 (fVar 3)) [7])) sl s = some (.ok (.str b) s) := by
  have hr : fRng1 (fVar 3) sl s = some (.ok (rangeD 0 size.toNat, none) s) := by
    have c : size < 2 ^ 62 ∧ -(2 ^ 62) ≤ size := by omega
    simp only [fRng1, fVar, bindM, liftO, h3, rngO, if_pos c]
  have turn : ∀ i : Nat, i < 7 → ∃ x, OkS 1 x ∧ ixO s (.str abc) (.int ((step + c / 1274 * (0 + (i : Int))) % 26)) = some (.str x) := fun i _ => by
    obtain ⟨x, h, hx, _⟩ := abc_ix s ((step + c / 1274 * (0 + (i : Int))) % 26) (Int.emod_nonneg _ (by decide)) (Int.emod_lt_of_pos _ (by decide))
    exact ⟨x, hx, h⟩
  let f : Nat → Str := fun i => if h : i < 7 then Classical.choose (turn i h) else ⟨#[]⟩
  have hf : ∀ i (h : i < 7), OkS 1 (f i) ∧ ixO s (.str abc) (.int ((step + c / 1274 * (0 + (i : Int))) % 26)) = some (.str (f i)) := fun i h => by
    have := Classical.choose_spec (turn i h)
    show OkS 1 (if h : i < 7 then Classical.choose (turn i h) else ⟨#[]⟩) ∧ _ = some (D.str (if h : i < 7 then Classical.choose (turn i h) else ⟨#[]⟩))
    rw [dif_pos h]
    exact this
  have hlc : lcL (tdName 7) fYes (f2 ixO (fVar 2) (f2 modO (f2 addO (fVar 5) (f2 mulO (f2 fdivO (fVar 0) (fC (.int 1274))) (fVar 7))) (fC (.int 26)))) (rangeD 0 size.toNat, none) (wipeS sl [7]) (rangeD 0 size.toNat) s
      = some (.ok ((rangeD 0 size.toNat).map fun d => match d with | .int j => .str (f j.toNat) | _ => .non) s) := by
    refine lcL_map _ (ck_none _ _) _ fun x hx => ?_
    unfold rangeD at hx
    obtain ⟨i, hi, rfl⟩ := List.mem_map.mp hx
    have hi' : i < 7 := by
      have := List.mem_range.mp hi
      omega
    refine ⟨_, rfl, rfl, ?_⟩
    have e2 : ((wipeS sl [7]).set 7 (some (.int (0 + (i : Int)))))[2]? = some (some (.str abc)) := by
      simp [wipeS, h2]
    have e0 : ((wipeS sl [7]).set 7 (some (.int (0 + (i : Int)))))[0]? = some (some (.int c)) := by
      simp [wipeS, h0]
    have e5 : ((wipeS sl [7]).set 7 (some (.int (0 + (i : Int)))))[5]? = some (some (.int step)) := by
      simp [wipeS, h5]
    have e7 : ((wipeS sl [7]).set 7 (some (.int (0 + (i : Int)))))[7]? = some (some (.int (0 + (i : Int)))) := by
      rw [List.getElem?_set_self]
      simp [wipeS, hl]
    have hm : mulOk (c / 1274) (0 + (i : Int)) = true := mulOk_r (by omega) (by omega)
    simp only [f2, fVar, bindM, e2, e0, e5, e7, fC, retM, liftO, fdivO, mulO, addO, modO, hm, if_true]
    simp only [show (0 : Int) < 1274 ∧ (1274 : Int) < 1073741824 by decide, show (0 : Int) < 26 by decide, and_self, if_true, hm, (hf i hi').2]
    have : (0 + (i : Int)).toNat = i := by omega
    rw [this]
  have hys : (rangeD 0 size.toNat).map (fun d => match d with | .int j => D.str (f j.toNat) | _ => .non) = ((List.range size.toNat).map f).map D.str := by
    unfold rangeD
    rw [List.map_map, List.map_map]
    refine List.map_congr_left fun i _ => ?_
    show D.str (f (0 + (i : Int)).toNat) = D.str (f i)
    rw [show (0 + (i : Int)).toNat = i by omega]
  rw [hys] at hlc
  have ok1 : ∀ y ∈ (List.range size.toNat).map f, OkS 1 y := fun y hy => by
    obtain ⟨i, hi, rfl⟩ := List.mem_map.mp hy
    exact (hf i (by have := List.mem_range.mp hi; omega)).1
  have hlen : ((List.range size.toNat).map f).length = size.toNat := by simp
  refine ⟨Txt.join (PySem.Str.ofString "") ((List.range size.toNat).map f), (OkS.join0 _ ok1).mono (by rw [hlen]; omega), ?_⟩
  have hLc := fLc_of (T := tdName 7) (u := fYes) (f := (f2 ixO (fVar 2) (f2 modO (f2 addO (fVar 5) (f2 mulO (f2 fdivO (fVar 0) (fC (.int 1274))) (fVar 7))) (fC (.int 26))))) (vs := [7]) hr (ck_none _ _) hlc (by simp; omega)
  have hsm : small ((((List.range size.toNat).map f).map (·.length)).sum + ((List.range size.toNat).map f).length * (PySem.Str.ofString "").length) = true := by
    refine decide_eq_true ?_
    have h1 := sum_le _ 1 fun y hy => (ok1 y hy).len
    have h2 : (PySem.Str.ofString "").length = 0 := by decide +kernel
    rw [h2]
    rw [hlen] at h1 ⊢
    omega
  simp only [fJoin, bindM, fC, retM, liftO, isStr, hLc, joinO, seqOf, lsOf, Option.bind_some, mapStr, hsm, if_true]
end Pr

set_option Elab.async false
set_option linter.all false
set_option maxRecDepth 100000
set_option maxHeartbeats 8000000
/-! RL: the labels drawn. -/
namespace Pr
open PySem L2 PD
/-- the label of the i-th sign -/
def labAt (P Q : Str) (c : Int) (i : Nat) : Str := P ++ ⟨#[97 + ((c / 49 + 3 * (i : Int)) % 26).toNat]⟩ ++ Q
theorem labAt_ok {P Q : Str} (c : Int) (i : Nat) {p q : Nat} (hP : OkS p P) (hQ : OkS q Q) : OkS (p + 1 + q) (labAt P Q c i) := by
  have h := Int.emod_nonneg (c / 49 + 3 * (i : Int)) (show (26 : Int) ≠ 0 by decide)
  have h2 := Int.emod_lt_of_pos (c / 49 + 3 * (i : Int)) (show (0 : Int) < 26 by decide)
  exact (hP.app (.one (by omega))).app hQ
theorem labAt_len (P Q : Str) (c : Int) (i : Nat) : (labAt P Q c i).length = P.length + 1 + Q.length := by
  show ((P.cps ++ #[_]) ++ Q.cps).size = _
  rw [Array.size_append, Array.size_append]
  rfl
theorem labAt_inj {P Q : Str} {c : Int} {i j : Nat} (hi : i < 26) (hj : j < 26) (h : labAt P Q c i = labAt P Q c j) : (3 * (i : Int)) % 26 = (3 * (j : Int)) % 26 := by
  have h1 : ((P.cps ++ #[97 + ((c / 49 + 3 * (i : Int)) % 26).toNat]) ++ Q.cps) = ((P.cps ++ #[97 + ((c / 49 + 3 * (j : Int)) % 26).toNat]) ++ Q.cps) := congrArg Str.cps h
  have h2 := congrArg (fun a => a[P.cps.size]?) h1
  have g : ∀ n : Nat, ((P.cps ++ #[n]) ++ Q.cps)[P.cps.size]? = some n := fun n => by
    rw [Array.getElem?_append_left (by rw [Array.size_append]; simp)]
    rw [Array.getElem?_append_right (Nat.le_refl _)]
    simp
  simp only [g] at h2
  have h3 := Option.some.inj h2
  omega
structure LabsOk (n : Nat) (L : List Str) : Prop where
  len : L.length = n
  ok : ∀ l ∈ L, OkS 7 l
  pos : ∀ l ∈ L, 1 ≤ l.length
  nd : L.Nodup
theorem labs_all {P Q : Str} (c : Int) (n : Nat) (hn : n ≤ 8) {p q : Nat} (hP : OkS p P) (hQ : OkS q Q) (hl : P.length + Q.length ≤ 6) : LabsOk n ((List.range n).map (labAt P Q c)) := by
  refine ⟨by simp, fun l h => ?_, fun l h => ?_, ?_⟩
  · obtain ⟨i, _, rfl⟩ := List.mem_map.mp h
    have := labAt_ok c i hP hQ
    exact ⟨by rw [labAt_len]; omega, this.let_⟩
  · obtain ⟨i, _, rfl⟩ := List.mem_map.mp h
    rw [labAt_len]; omega
  · refine List.pairwise_map.mpr (List.Pairwise.imp_of_mem (fun {i j} hi hj hij e => ?_) (List.pairwise_lt_range (n := n)))
    have hi := List.mem_range.mp hi
    have hj := List.mem_range.mp hj
    have := labAt_inj (by omega) (by omega) e
    omega
theorem cutS_len (b : Str) (v : Int) (h0 : 0 ≤ v) : (cutS b none (some v)).length + (cutS b (some v) none).length ≤ b.length := by
  obtain ⟨j, rfl⟩ : ∃ j : Nat, v = (j : Int) := ⟨v.toNat, by omega⟩
  show (cutS b none (some (j : Int))).cps.size + (cutS b (some (j : Int)) none).cps.size ≤ b.cps.size
  unfold cutS
  have e : b.cps.toList.length = b.cps.size := rfl
  have hb : b.length = b.cps.size := rfl
  simp only [List.size_toArray, List.length_take, List.length_drop, HT.sIx_none, HT.sIx_nat]
  omega
theorem labels_eq (c : Int) (n : Nat) (hn : n ≤ 8) (s : Sto) : ∃ L : List Str, LabsOk n L ∧ D_labels [.int c, .int (n : Nat)] s = some (.ok (.lst (L.map D.str)) s) := by
  have p7 := Int.emod_nonneg c (show (7 : Int) ≠ 0 by decide)
  have q7 := Int.emod_lt_of_pos c (show (0 : Int) < 7 by decide)
  have h71 : 0 < c % 7 + 1 := by omega
  have pat := Int.emod_nonneg (c / 7) (show c % 7 + 1 ≠ 0 by omega)
  obtain ⟨b, hb, eb⟩ := base_eq c (c % 7) (c / 49 % 26) p7 q7 [some (.int c), some (.int (n : Nat)), some (.str abc), some (.int (c % 7)), some (.int (c / 7 % (c % 7 + 1))), some (.int (c / 49 % 26)), none, none, none, none] s rfl rfl rfl rfl (by simp)
  let P := cutS b none (some (c / 7 % (c % 7 + 1)))
  let Q := cutS b (some (c / 7 % (c % 7 + 1))) none
  have o1 : OkS 6 P := hb.cut none (some (c / 7 % (c % 7 + 1)))
  have o2 : OkS 6 Q := hb.cut (some (c / 7 % (c % 7 + 1))) none
  have hPQ : P.length + Q.length ≤ 6 := Nat.le_trans (cutS_len b _ pat) hb.len
  refine ⟨(List.range n).map (labAt P Q c), labs_all c n hn o1 o2 hPQ, ?_⟩
  let body : SD := (seqS (setS 9 (f2 ixO (fVar 2) (f2 modO (f2 addO (f2 fdivO (fVar 0) (fC (.int 49))) (f2 mulO (fC (.int 3)) (fVar 7))) (fC (.int 26)))))
      (exprS (fM1 appendM (fVar 8) (fCons (f2 addO (f2 addO (fSl (fVar 6) fNo (fSome (fVar 4))) (fVar 9)) (fSl (fVar 6) (fSome (fVar 4)) fNo)) fNil))))
  have turn : ∀ (i : Nat) (x9 : Option D), i < n → ∃ z, body [some (.int c), some (.int (n : Nat)), some (.str abc), some (.int (c % 7)), some (.int (c / 7 % (c % 7 + 1))), some (.int (c / 49 % 26)), some (.str b), some (.int (i : Nat)), some (.own s.length), x9] (s ++ [.lst (((List.range i).map (labAt P Q c)).map D.str)])
      = some (.nx [some (.int c), some (.int (n : Nat)), some (.str abc), some (.int (c % 7)), some (.int (c / 7 % (c % 7 + 1))), some (.int (c / 49 % 26)), some (.str b), some (.int (i : Nat)), some (.own s.length), some (.str z)] (s ++ [.lst (((List.range (i + 1)).map (labAt P Q c)).map D.str)])) := by
    intro i x9 hi
    obtain ⟨z, hz, oz, ez⟩ := abc_ix (s ++ [.lst (((List.range i).map (labAt P Q c)).map D.str)]) ((c / 49 + 3 * (i : Int)) % 26) (Int.emod_nonneg _ (by decide)) (Int.emod_lt_of_pos _ (by decide))
    refine ⟨z, ?_⟩
    have s1 : small (b.length) = true := small_of (by have := hb.len; omega)
    have s2 : small ((cutS b none (some (c / 7 % (c % 7 + 1)))).length + z.length) = true := small_of (by have h1 : (cutS b none (some (c / 7 % (c % 7 + 1)))).length ≤ 6 := o1.len; have := oz.len; omega)
    have s3 : small ((cutS b none (some (c / 7 % (c % 7 + 1))) ++ z).length + (cutS b (some (c / 7 % (c % 7 + 1))) none).length) = true := small_of (by have h1 : (cutS b none (some (c / 7 % (c % 7 + 1))) ++ z).length ≤ 6 + 1 := (o1.app oz).len; have h2 : (cutS b (some (c / 7 % (c % 7 + 1))) none).length ≤ 6 := o2.len; omega)
    have s4 : small ((((List.range i).map (labAt P Q c)).map D.str).length + 1) = true := small_of (by rw [List.length_map, List.length_map, List.length_range]; omega)
    have m : mulOk 3 (i : Int) = true := mulOk_l (by decide) (by decide)
    have e : labAt P Q c i = P ++ z ++ Q := by rw [ez]; rfl
    rw [List.range_succ, List.map_append, List.map_append]
    show body _ _ = some (RS.nx _ (s ++ [.lst (_ ++ [D.str (labAt P Q c i)])]))
    rw [e]
    simp only [body, seqS, setS, bindS, retS, retNS, exprS, ifS, asgS, setIxS, augS, augO, nextS, f1, f2, fN, bindM, liftO, retM, fVar, fC, fTup, fLst, fOwn, fCons, fNil, fB, fTru, fNot, fAnd, fOr, fAndV, fOrV, fIf, asB, truO, fCall, fM0, fM1, tdName, tdTup, tdCons, tdNil, fdivO, modO, addO, mulO, m, if_true, show (0 : Int) < 49 ∧ (49 : Int) < 1073741824 by decide, show (0 : Int) < 26 by decide, and_self, hz, List.getElem?_cons_zero, List.getElem?_cons_succ,
        List.set_cons_zero, List.set_cons_succ, fSl, fNo, fSome, asI, slO, s1, s2, s3, lsOf, app_at, Option.map_some, appendM, s4, app_set]
    rfl
  obtain ⟨sl', st', el, x7, x9, rfl, rfl⟩ := forL_range (T := tdName 7) (a := (rangeD 0 n, none)) (g := body)
    (fun i sl st => ∃ (x7 x9 : Option D), sl = [some (.int c), some (.int (n : Nat)), some (.str abc), some (.int (c % 7)), some (.int (c / 7 % (c % 7 + 1))), some (.int (c / 49 % 26)), some (.str b), x7, some (.own s.length), x9] ∧
      st = s ++ [.lst (((List.range i).map (labAt P Q c)).map D.str)]) n (fun i sl st hi ⟨x7, x9, e1, e2⟩ => by
      subst e1 e2
      obtain ⟨z, e⟩ := turn i x9 hi
      exact ⟨_, _, _, rfl, e, ck_none _ _, _, _, rfl, rfl⟩) _ _ ⟨none, none, rfl, rfl⟩
  unfold D_labels
  refine fnD_rt (d := .own s.length) (s' := s ++ [.lst (((List.range n).map (labAt P Q c)).map D.str)]) ?_ (closeM_lst rfl (keeps_refl s) (Nat.le_refl _) (app_at _ _ _) (low_strs _ _))
  unfold g_labels
  show seqS _ _ [some (.int c), some (.int (n : Nat)), none, none, none, none, none, none, none, none] s = _
  rw [seqS_nx (setS_ok rfl)]
  simp only [List.set_cons_zero, List.set_cons_succ]
  rw [seqS_nx (setS_ok (d := .int (c % 7)) (s' := s) (by simp [seqS, setS, bindS, retS, retNS, exprS, ifS, asgS, setIxS, augS, augO, nextS, f1, f2, fN, bindM, liftO, retM, fVar, fC, fTup, fLst, fOwn, fCons, fNil, fB, fTru, fNot, fAnd, fOr, fAndV, fOrV, fIf, asB, truO, fCall, fM0, fM1, tdName, tdTup, tdCons, tdNil, modO]))]
  simp only [List.set_cons_zero, List.set_cons_succ]
  rw [seqS_nx (setS_ok (d := .int (c / 7 % (c % 7 + 1))) (s' := s) (by simp [seqS, setS, bindS, retS, retNS, exprS, ifS, asgS, setIxS, augS, augO, nextS, f1, f2, fN, bindM, liftO, retM, fVar, fC, fTup, fLst, fOwn, fCons, fNil, fB, fTru, fNot, fAnd, fOr, fAndV, fOrV, fIf, asB, truO, fCall, fM0, fM1, tdName, tdTup, tdCons, tdNil, modO, fdivO, addO, h71]))]
  simp only [List.set_cons_zero, List.set_cons_succ]
  rw [seqS_nx (setS_ok (d := .int (c / 49 % 26)) (s' := s) (by simp [seqS, setS, bindS, retS, retNS, exprS, ifS, asgS, setIxS, augS, augO, nextS, f1, f2, fN, bindM, liftO, retM, fVar, fC, fTup, fLst, fOwn, fCons, fNil, fB, fTru, fNot, fAnd, fOr, fAndV, fOrV, fIf, asB, truO, fCall, fM0, fM1, tdName, tdTup, tdCons, tdNil, modO, fdivO]))]
  simp only [List.set_cons_zero, List.set_cons_succ]
  rw [seqS_nx (setS_ok eb)]
  simp only [List.set_cons_zero, List.set_cons_succ]
  rw [seqS_nx (setS_ok (d := .own s.length) (s' := s ++ [.lst []]) (by simp [seqS, setS, bindS, retS, retNS, exprS, ifS, asgS, setIxS, augS, augO, nextS, f1, f2, fN, bindM, liftO, retM, fVar, fC, fTup, fLst, fOwn, fCons, fNil, fB, fTru, fNot, fAnd, fOr, fAndV, fOrV, fIf, asB, truO, fCall, fM0, fM1, tdName, tdTup, tdCons, tdNil, small_of]))]
  simp only [List.set_cons_zero, List.set_cons_succ]
  have hi : (fRng1 (fVar 1)) [some (.int c), some (.int (n : Nat)), some (.str abc), some (.int (c % 7)), some (.int (c / 7 % (c % 7 + 1))), some (.int (c / 49 % 26)), some (.str b), none, some (.own s.length), none] (s ++ [.lst []]) = some (.ok (rangeD 0 n, none) (s ++ [.lst []])) := fRng1_of (d := .int (n : Nat)) rfl (rngO_nat (by omega))
  have hfor := (forS_of (T := tdName 7) (g := body) hi (ck_none _ _)).trans el
  rw [seqS_nx hfor]
  exact retS_ok rfl
end Pr

set_option Elab.async false
set_option linter.all false
set_option maxRecDepth 100000
set_option maxHeartbeats 8000000
/-! RK: kinds drawn, as kinds. -/
namespace Pr
open PySem L2 PD
theorem inFlat_strs (s : Sto) (l : Str) (xs : List Str) : inFlat s (.str l) (.lst (xs.map D.str)) = some (inV (.str l) (xs.map V.str)) := by
  have h : (xs.map D.str).mapM scD = some (xs.map V.str) := by
    induction xs with
    | nil => rfl
    | cons x r ih => rw [List.map_cons, List.mapM_cons, ih]; rfl
  have hf : (xs.map V.str).all flatV = true := by
    rw [List.all_map]
    exact List.all_eq_true.mpr fun _ _ => rfl
  unfold inFlat
  simp only [scD, seqOf, lsOf, Option.bind_some, h, hf, flatV, Bool.and_self, if_true]
theorem cutL_map {α β : Type} (f : α → β) (xs : List α) (lo hi : Option Int) : cutL (xs.map f) lo hi = (cutL xs lo hi).map f := by
  unfold cutL
  rw [List.length_map, ← List.map_drop, ← List.map_take]
theorem mapM_str : ∀ L : List Str, (L.map D.str).mapM strD = some L
  | [] => rfl
  | x :: L => by rw [List.map_cons, List.mapM_cons, mapM_str L]; rfl
theorem sortS_perm (L : List Str) : (sortS L).Perm L := List.mergeSort_perm L leS
/-! ### the label lists met -/
def encW (w : List Str) : D := .lst (w.map D.str)
def OkW (M : List (List Str)) : Prop := ∀ w ∈ M, ∀ x ∈ w, OkS 7 x
theorem pl_encW {w : List Str} (h : ∀ x ∈ w, OkS 7 x) : Pl 1 (encW w) := pl_lst (n := 0) fun d hd => by
  obtain ⟨x, hx, rfl⟩ := List.mem_map.mp hd
  exact pl_str 0 (h x hx)
theorem met_pl {s : Sto} {kx : Nat} {M : List (List Str)} (h : s[kx]? = some (.lst (M.map encW))) (ok : OkW M) : plainPy s (.own kx) = some (.list (pyAll (M.map encW))) := by
  have hp : peek s (.own kx) = .scr (M.map encW) := by
    show (match s[kx]? with | some (.lst xs) => D.scr xs | _ => .own kx) = _
    rw [h]
  have := plainPy_of (s := s) (d := .own kx) (by
    rw [hp]
    exact (pl_scr (n := 1) fun d hd => by
      obtain ⟨w, hw, rfl⟩ := List.mem_map.mp hd
      exact pl_encW (ok w hw)).mono (by decide))
  rw [hp] at this
  exact this
theorem w_pl (s : Sto) {w : List Str} (h : ∀ x ∈ w, OkS 7 x) : plainPy s (encW w) = some (py (encW w)) := plainPy_of (s := s) (d := encW w) ((pl_encW h).mono (by decide))
theorem firstEq_any {z : PyData} : ∀ {ds : List PyData}, (ds.any fun d => PyData.eqv d z) = true → ∃ j, firstEq z ds = some j
  | [], h => by cases h
  | d :: ds, h => by
    unfold firstEq
    by_cases e : PyData.eqv d z = true
    · exact ⟨0, by rw [if_pos e]⟩
    · rw [List.any_cons, Bool.eq_false_iff.mpr e, Bool.false_or] at h
      obtain ⟨j, hj⟩ := firstEq_any h
      exact ⟨j + 1, by rw [if_neg e, hj]; rfl⟩
theorem met_notin {s : Sto} {kx : Nat} {M : List (List Str)} (h : s[kx]? = some (.lst (M.map encW))) (ok : OkW M) {w : List Str} (hw : ∀ x ∈ w, OkS 7 x) :
    ∃ c : Bool, inO true s (encW w) (.own kx) = some (.bl c) ∧ (c = false → ∃ j, firstEq (py (encW w)) (pyAll (M.map encW)) = some j) := by
  have h1 : inFlat s (encW w) (.own kx) = none := rfl
  have hl : lsOf s (.own kx) = some (M.map encW) := by simp only [lsOf, h]
  have hall := pl_all (n := 1) (ds := M.map encW) (fun d hd => by
    obtain ⟨v, hv, rfl⟩ := List.mem_map.mp hd
    exact pl_encW (ok v hv))
  have hsh : (D.lowAll 0 (M.map encW) && SeqAt.shaped (.list (pyAll (M.map encW)))) = true := by
    have p2 : Pl 64 (.lst (M.map encW)) := (pl_lst (n := 1) fun d hd => by
      obtain ⟨v, hv, rfl⟩ := List.mem_map.mp hd
      exact pl_encW (ok v hv)).mono (by decide)
    rw [hall.1]
    exact p2.shaped
  have h2 : inDeep s (encW w) (.own kx) = some ((pyAll (M.map encW)).any fun z => PyData.eqv z (py (encW w))) := by
    unfold inDeep
    rw [w_pl s hw, hl]
    simp only [hsh, if_true]
  refine ⟨!((pyAll (M.map encW)).any fun z => PyData.eqv z (py (encW w))), ?_, fun e => firstEq_any (by simpa using e)⟩
  unfold inO
  rw [h1]
  simp only [h2]
  rfl
theorem met_index {s : Sto} {kx : Nat} {M : List (List Str)} (h : s[kx]? = some (.lst (M.map encW))) (ok : OkW M) {w : List Str} (hw : ∀ x ∈ w, OkS 7 x) {j : Nat} (hj : firstEq (py (encW w)) (pyAll (M.map encW)) = some j) :
    indexO s (.own kx) [encW w] = some (.int (j : Nat)) := by
  simp only [indexO, met_pl h ok, w_pl s hw, hj, Option.map_some]
theorem pyAll_append : ∀ xs ys : List D, pyAll (xs ++ ys) = pyAll xs ++ pyAll ys
  | [], ys => rfl
  | x :: xs, ys => by
    show py x :: pyAll (xs ++ ys) = py x :: (pyAll xs ++ pyAll ys)
    rw [pyAll_append xs ys]
theorem met_last (M : List (List Str)) {w : List Str} (hw : ∀ x ∈ w, OkS 7 x) : ∃ j, firstEq (py (encW w)) (pyAll ((M ++ [w]).map encW)) = some j := by
  refine firstEq_any ?_
  rw [List.map_append, pyAll_append, List.any_append]
  have : PyData.eqv (py (encW w)) (py (encW w)) = true := plain_eq (w_pl [] hw)
  show (_ || (PyData.eqv (py (encW w)) (py (encW w)) || false)) = true
  rw [this, Bool.true_or, Bool.or_true]
abbrev stC (a b : Int) : Cell := .lst [.int a, .int b]
def upS (s : Sto) (k kx : Nat) (a b : Int) (M : List (List Str)) : Sto := (s.set k (stC a b)).set kx (.lst (M.map encW))
theorem set_comm' {s : Sto} {i j : Nat} (h : i ≠ j) (c d : Cell) : (s.set i c).set j d = (s.set j d).set i c := List.set_comm _ _ h
/-- where the state, the met and the lists met stand -/
structure Stands (s : Sto) (k km kx : Nat) (a b m0 : Int) (M : List (List Str)) : Prop where
  k1 : s[k]? = some (stC a b)
  k2 : s[km]? = some (.lst [.int m0, .own kx])
  k3 : s[kx]? = some (.lst (M.map encW))
  n1 : k ≠ kx
  n2 : k ≠ km
  n3 : km ≠ kx
theorem Stands.up {s : Sto} {k km kx : Nat} {a b m0 : Int} {M : List (List Str)} (h : Stands s k km kx a b m0 M) (a' b' : Int) (M' : List (List Str)) : Stands (upS s k kx a' b' M') k km kx a' b' m0 M' where
  k1 := by
    unfold upS
    rw [List.getElem?_set_ne (Ne.symm h.n1)]
    exact set_at h.k1 _
  k2 := by
    unfold upS
    rw [List.getElem?_set_ne (Ne.symm h.n3), List.getElem?_set_ne h.n2]
    exact h.k2
  k3 := by
    unfold upS
    rw [set_comm' h.n1]
    rw [List.getElem?_set_ne h.n1]
    exact set_at h.k3 _
  n1 := h.n1
  n2 := h.n2
  n3 := h.n3
theorem Stands.up_up {s : Sto} {k km kx : Nat} {a b m0 : Int} {M : List (List Str)} (h : Stands s k km kx a b m0 M) (a' b' : Int) (M' : List (List Str)) (a2 b2 : Int) (M2 : List (List Str)) : upS (upS s k kx a' b' M') k kx a2 b2 M2 = upS s k kx a2 b2 M2 := by
  unfold upS
  rw [set_comm' h.n1 (stC a' b'), List.set_set, set_comm' (Ne.symm h.n1), List.set_set]
theorem Stands.self {s : Sto} {k km kx : Nat} {a b m0 : Int} {M : List (List Str)} (h : Stands s k km kx a b m0 M) : upS s k kx a b M = s := by
  unfold upS
  rw [set_same h.k1, set_same h.k3]
theorem Stands.next {s : Sto} {k km kx : Nat} {a b m0 : Int} {M : List (List Str)} (h : Stands s k km kx a b m0 M) (a' b' : Int) : s.set k (stC a' b') = upS s k kx a' b' M := by
  unfold upS
  rw [set_comm' h.n1, set_same h.k3]
theorem upS_len {s : Sto} {k kx : Nat} {a b : Int} {M : List (List Str)} : (upS s k kx a b M).length = s.length := by
  unfold upS
  rw [List.length_set, List.length_set]
theorem low_encWs (n : Nat) (M : List (List Str)) : D.lowAll n (M.map encW) = true := by
  rw [lowAll_iff]
  intro d hd
  obtain ⟨w, _, rfl⟩ := List.mem_map.mp hd
  exact low_strs n w
theorem upS_keeps (s : Sto) (k kx : Nat) (a b : Int) (M : List (List Str)) : Keeps s (upS s k kx a b M) := by
  intro j c hj
  unfold upS at hj
  by_cases e : j = kx
  · subst e
    have hl : j < (s.set k (stC a b)).length := by
      have := (List.getElem?_eq_some_iff.mp hj).1
      rw [List.length_set] at this
      exact this
    rw [List.getElem?_set_self hl] at hj
    cases hj
    exact .inr (low_encWs _ _)
  · rw [List.getElem?_set_ne (Ne.symm e)] at hj
    exact keeps_set (s := s) (k := k) (c := stC a b) rfl j c hj
theorem fin_up (s : Sto) (k kx : Nat) (a b : Int) (M : List (List Str)) (d : D) (h : D.low 0 d = true) (hn : ∀ k, d ≠ .own k) : closeM false s d (upS s k kx a b M) = some (.ok d (upS s k kx a b M)) := by
  have := closeM_low (keep := false) (s := s) (t := upS s k kx a b M) (junk := []) (d := d) upS_len (upS_keeps s k kx a b M) (low_mono (Nat.zero_le _) _ h) hn
  rw [List.append_nil] at this
  exact this
theorem fOr_b {u v : Sl → M Bool} {sl : Sl} {s : Sto} {x y : Bool} (h1 : u sl s = some (.ok x s)) (h2 : v sl s = some (.ok y s)) : fOr u v sl s = some (.ok (x || y) s) := by
  cases x
  · exact fOr_f h1 h2
  · exact fOr_t h1
theorem own_ix {s : Sto} {k : Nat} {xs : List D} (h : s[k]? = some (.lst xs)) (i : Nat) {d : D} (hd : xs[i]? = some d) : ixO s (.own k) (.int (i : Nat)) = some d := by
  show (seqOf s (.own k)).bind (fun xs => atI xs ((i : Nat) : Int)) = _
  have : seqOf s (.own k) = some xs := by simp only [seqOf, lsOf, h]
  rw [this]
  exact atI_nat hd
theorem mul_lt {i j : Int} (h1 : 0 ≤ i) (h2 : i ≤ 10000000) : mulOk i j = true := by
  unfold mulOk
  rw [Bool.or_eq_true, Bool.and_eq_true]
  exact .inl ⟨decide_eq_true (by omega), decide_eq_true (by omega)⟩
/-- the number of a rest -/
theorem rest_eq {s : Sto} {k km kx : Nat} {a b m0 : Int} {M : List (List Str)} (h : Stands s k km kx a b m0 M) (hm : 0 ≤ m0) (hm2 : m0 ≤ 2000000) (okM : OkW M) {W : List Str} (hW : ∀ w ∈ W, OkS 7 w) {j : Nat} (hj : firstEq (py (encW W)) (pyAll (M.map encW)) = some j)
    (sl : Sl) (h2 : sl[2]? = some (some (.own km))) (h6 : sl[6]? = some (some (.lst (W.map D.str)))) :
    (f2 mulO (f2 ixO (fVar 2) (fC (.int 0))) (f2 addO (fC (.int 1)) (f2 mulO (fC (.int 2)) (fMP isLs indexO (f2 ixO (fVar 2) (fC (.int 1))) (fCons (fVar 6) fNil))))) sl s = some (.ok (.int (m0 * (1 + 2 * (j : Nat)))) s) := by
  have e0 : (f2 ixO (fVar 2) (fC (.int 0))) sl s = some (.ok (.int m0) s) := f2_of (x := .own km) (y := .int 0) (s1 := s) (by simp only [fVar, h2]) rfl (own_ix h.k2 0 rfl)
  have e1 : (f2 ixO (fVar 2) (fC (.int 1))) sl s = some (.ok (.own kx) s) := f2_of (x := .own km) (y := .int 1) (s1 := s) (by simp only [fVar, h2]) rfl (own_ix h.k2 1 rfl)
  have hl : isLs s (.own kx) = true := by
    unfold isLs
    simp only [lsOf, h.k3]
    rfl
  have hi : (fMP isLs indexO (f2 ixO (fVar 2) (fC (.int 1))) (fCons (fVar 6) fNil)) sl s = some (.ok (.int (j : Nat)) s) := by
    have := met_index h.k3 okM hW hj
    have h6' : fVar 6 sl s = some (.ok (encW W) s) := by simp only [fVar, h6]; rfl
    simp only [fMP, bindM, e1, liftO, hl, if_true, fCons, h6', fNil, retM, this]
  have m2 : mulOk 2 (j : Nat) = true := mul_lt (by decide) (by decide)
  have m3 : mulOk m0 (1 + 2 * (j : Nat)) = true := mul_lt hm (by omega)
  refine f2_of e0 (f2_of (x := .int 1) (y := .int (2 * (j : Nat))) (s1 := s) rfl (f2_of (x := .int 2) (y := .int (j : Nat)) (s1 := s) rfl hi ?_) rfl) ?_
  · show (if mulOk 2 (j : Nat) = true then some (D.int (2 * (j : Nat))) else none) = _
    rw [if_pos m2]
  · show (if mulOk m0 (1 + 2 * (j : Nat)) = true then some (D.int (m0 * (1 + 2 * (j : Nat)))) else none) = _
    rw [if_pos m3]
theorem OkS.wd {x : Str} (h : OkS 7 x) (hp : 1 ≤ x.length) : Qk.wdB x = true := by
  unfold Qk.wdB
  have hl := h.len
  rw [decide_eq_true (show 1 ≤ (x.length : Int) by omega), decide_eq_true (show (x.length : Int) ≤ 8 by omega)]
  refine List.all_eq_true.mpr fun c hc => ?_
  obtain ⟨h1, h2⟩ := h.let_ c hc
  rw [decide_eq_true h1, decide_eq_true h2]
  rfl
theorem inV_strs (w : Str) (P : List Str) : inV (.str w) (P.map V.str) = decide (w ∈ P) := by
  have h : ∀ x y : Str, eqV (.str x) (.str y) = decide (x = y) := fun x y => by
    show (x == y) = _
    rw [Bool.beq_eq_decide_eq]
  induction P with
  | nil => rfl
  | cons p P ih =>
    have e : inV (.str w) ((p :: P).map V.str) = (eqV (.str p) (.str w) || inV (.str w) (P.map V.str)) := rfl
    rw [e, ih, h]
    by_cases c : p = w
    · subst c; simp
    · have : ¬ w = p := fun z => c z.symm
      simp [c, this]
end Pr

set_option Elab.async false
set_option linter.all false
set_option maxRecDepth 100000
set_option maxHeartbeats 8000000
/-! RK2: labels picked, in their order. -/
namespace Pr
open PySem L2 PD Qk
theorem nodup_le : ∀ {W P : List Str}, W.Nodup → (∀ w ∈ W, w ∈ P) → W.length ≤ P.length
  | [], _, _, _ => Nat.zero_le _
  | w :: W, P, nd, h => by
    rw [List.nodup_cons] at nd
    have hw := h w List.mem_cons_self
    have ih := nodup_le (W := W) (P := P.erase w) nd.2 fun x hx => by
      have hne : x ≠ w := fun e => nd.1 (e ▸ hx)
      exact (List.mem_erase_of_ne hne).mpr (h x (List.mem_cons_of_mem _ hx))
    have := List.length_erase_of_mem hw
    have := List.length_pos_of_mem hw
    rw [List.length_cons]
    omega
/-- rising, strictly -/
def Rising (L : List Str) : Prop := L.Pairwise fun a b => leS b a = false
theorem sort_rising {L : List Str} (nd : L.Nodup) : Rising (sortS L) := by
  have h1 : (sortS L).Pairwise (fun a b => leS a b = true) := List.pairwise_mergeSort leS_trans leS_total L
  have h2 : (sortS L).Nodup := (sortS_perm L).nodup_iff.mpr nd
  have h3 := List.Pairwise.and h1 h2
  refine h3.imp fun {a b} ⟨x, y⟩ => ?_
  cases c : leS b a with
  | false => rfl
  | true => exact absurd (leS_anti a b x c) y
theorem Rising.filter {L : List Str} (h : Rising L) (p : Str → Bool) : Rising (L.filter p) := List.Pairwise.filter p h
theorem rise_of : ∀ (ys L : List Str), (∀ y ∈ ys, wdB y = true) → Rising (L ++ ys) → riseF ys L = true
  | [], _, _, _ => rfl
  | y :: ys, L, hw, h => by
    have h1 : lastLt L y = true := by
      unfold lastLt
      cases hl : L.getLast? with
      | none => rfl
      | some z =>
        have hz : z ∈ L := List.mem_of_getLast? hl
        have := (List.pairwise_append.mp h).2.2 z hz y List.mem_cons_self
        show (!leS y z) = true
        rw [this]
        rfl
    have h2 := rise_of ys (L ++ [y]) (fun z hz => hw z (List.mem_cons_of_mem _ hz)) (by simpa using h)
    show ((wdB y && lastLt L y) && riseF ys (L ++ [y])) = true
    rw [hw y List.mem_cons_self, h1, h2]
    rfl
theorem LabsOk.wd {n : Nat} {L : List Str} (h : LabsOk n L) : ∀ l ∈ L, wdB l = true := fun l hl => (h.ok l hl).wd (h.pos l hl)
theorem labs_ix {n : Nat} (L : List Str) (hL : L.length = n) (s : Sto) (i : Int) (h0 : 0 ≤ i) (h4 : i < n) : ∃ l, l ∈ L ∧ ixO s (.lst (L.map D.str)) (.int i) = some (.str l) := by
  obtain ⟨j, rfl⟩ : ∃ j : Nat, i = (j : Int) := ⟨i.toNat, by omega⟩
  have hj : j < L.length := by omega
  refine ⟨L[j], List.getElem_mem hj, ?_⟩
  show (seqOf s (.lst (L.map D.str))).bind (fun xs => atI xs (j : Int)) = _
  exact atI_nat (by rw [List.getElem?_map, List.getElem?_eq_getElem hj]; rfl)
theorem pick_eq (L : List Str) (hL : L.length = 4) (N : Int) (sl : Sl) (s : Sto) (h1 : sl[1]? = some (some (.lst (L.map D.str)))) (h4 : sl[4]? = some (some (.int N))) :
    ∃ P : List Str, P.length ≤ 3 ∧ (fSl (fLst (fCons (f2 ixO (fVar 1) (f2 modO (f2 fdivO (fVar 4) (fC (.int 7))) (fC (.int 4)))) (fCons (f2 ixO (fVar 1) (f2 modO (f2 fdivO (fVar 4) (fC (.int 28))) (fC (.int 4)))) (fCons (f2 ixO (fVar 1) (f2 modO (f2 fdivO (fVar 4) (fC (.int 112))) (fC (.int 4)))) fNil)))) fNo (fSome (f2 modO (f2 fdivO (fVar 4) (fC (.int 448))) (fC (.int 4))))) sl s = some (.ok (.lst (P.map D.str)) s) := by
  have dm : ∀ q : Int, (0 < q ∧ q < 1073741824) → (f2 modO (f2 fdivO (fVar 4) (fC (.int q))) (fC (.int 4))) sl s = some (.ok (.int (N / q % 4)) s) := fun q hq => by
    simp [f2, fVar, fC, bindM, retM, liftO, h4, modO, fdivO, hq.1, hq.2]
  have ix : ∀ q : Int, (0 < q ∧ q < 1073741824) → ∃ l, (f2 ixO (fVar 1) (f2 modO (f2 fdivO (fVar 4) (fC (.int q))) (fC (.int 4)))) sl s = some (.ok (.str l) s) := fun q hq => by
    obtain ⟨l, _, e⟩ := labs_ix L hL s (N / q % 4) (Int.emod_nonneg _ (by decide)) (Int.emod_lt_of_pos _ (by decide))
    exact ⟨l, f2_of (x := .lst (L.map D.str)) (s1 := s) (by simp only [fVar, h1]) (dm q hq) e⟩
  obtain ⟨l1, e1⟩ := ix 7 (by decide)
  obtain ⟨l2, e2⟩ := ix 28 (by decide)
  obtain ⟨l3, e3⟩ := ix 112 (by decide)
  have h3 : small ([D.str l1, D.str l2, D.str l3] : List D).length = true := small_of (by simp)
  have hl : (fLst (fCons (f2 ixO (fVar 1) (f2 modO (f2 fdivO (fVar 4) (fC (.int 7))) (fC (.int 4)))) (fCons (f2 ixO (fVar 1) (f2 modO (f2 fdivO (fVar 4) (fC (.int 28))) (fC (.int 4)))) (fCons (f2 ixO (fVar 1) (f2 modO (f2 fdivO (fVar 4) (fC (.int 112))) (fC (.int 4)))) fNil)))) sl s = some (.ok (.lst ([l1, l2, l3].map D.str)) s) := by
    simp only [fLst, fCons, fNil, bindM, retM, liftO, e1, e2, e3, h3, if_true]
    rfl
  refine ⟨cutL [l1, l2, l3] none (some (N / 448 % 4)), ?_, ?_⟩
  · unfold cutL
    rw [List.length_take, List.length_drop]
    simp only [List.length_cons, List.length_nil]
    omega
  have hd := dm 448 (by decide)
  have hs : slO s (.lst ([l1, l2, l3].map D.str)) none (some (N / 448 % 4)) = some (.lst ((cutL [l1, l2, l3] none (some (N / 448 % 4))).map D.str)) := by
    rw [← cutL_map]
    rfl
  simp only [fSl, bindM, hl, fNo, retM, fSome, hd, liftO, asI, hs]
/-- the labels picked, in their order -/
theorem words_eq (L P : List Str) (hL : LabsOk 4 L) (sl : Sl) (s : Sto) (h1 : sl[1]? = some (some (.lst (L.map D.str)))) (h5 : sl[5]? = some (some (.lst (P.map D.str)))) (h7 : 7 < sl.length) :
    ∃ W : List Str, W.length ≤ P.length ∧ (∀ w ∈ W, w ∈ L) ∧ Rising W ∧ (fLc (tdName 7) (fB (f2 (inO false) (fVar 7) (fVar 5))) (fVar 7) (fIt (fN sortedO (fCons (fVar 1) fNil))) [7]) sl s = some (.ok (.lst (W.map D.str)) s) := by
  have hlen : (sortS L).length = 4 := by rw [(sortS_perm L).length_eq, hL.len]
  have nd : (sortS L).Nodup := (sortS_perm L).nodup_iff.mpr hL.nd
  refine ⟨(sortS L).filter fun w => inV (.str w) (P.map V.str), ?_, fun w hw => (sortS_perm L).mem_iff.mp (List.mem_filter.mp hw).1, (sort_rising hL.nd).filter _, ?_⟩
  · refine nodup_le (nd.filter _) fun w hw => ?_
    have := (List.mem_filter.mp hw).2
    rw [inV_strs] at this
    exact of_decide_eq_true this
  · have hit : (fIt (fN sortedO (fCons (fVar 1) fNil))) sl s = some (.ok ((sortS L).map D.str, none) s) := by
      have hs : sortedO s [.lst (L.map D.str)] = some (.lst ((sortS L).map D.str)) := by
        unfold sortedO
        simp only [lsOf, Option.bind_some, mapM_str]
        rw [if_pos (by rw [hL.len]; omega)]
      simp only [fIt, fN, fCons, fNil, fVar, bindM, retM, liftO, h1, hs, seqIt, itO]
    refine fLc_pure hit ?_ (by rw [List.length_map]; have := List.length_filter_le (fun w => inV (.str w) (P.map V.str)) (sortS L); omega)
    have h57 : ∀ x : D, ((wipeS sl [7]).set 7 (some x))[5]? = some (some (.lst (P.map D.str))) := fun x => by
      show ((sl.set 7 none).set 7 (some x))[5]? = _
      rw [List.getElem?_set_ne (by decide), List.getElem?_set_ne (by decide), h5]
    have h77 : ∀ x : D, ((wipeS sl [7]).set 7 (some x))[7]? = some (some x) := fun x => by
      show ((sl.set 7 none).set 7 (some x))[7]? = _
      rw [List.getElem?_set_self (by rw [List.length_set]; exact h7)]
    have := lcL_filter (T := tdName 7) (u := (fB (f2 (inO false) (fVar 7) (fVar 5)))) (f := fVar 7) (a := ((sortS L).map D.str, none)) (sl := wipeS sl [7]) (s := s)
      (fun d => match d with | .str w => inV (.str w) (P.map V.str) | _ => false) id (ck_none _ _) ((sortS L).map D.str) (fun x hx => by
        obtain ⟨w, _, rfl⟩ := List.mem_map.mp hx
        refine ⟨(wipeS sl [7]).set 7 (some (.str w)), rfl, fB_of (f2_of (x := .str w) (y := .lst (P.map D.str)) (s1 := s) ?_ ?_ ?_), fun _ => ?_⟩
        · simp only [fVar, h77]
        · simp only [fVar, h57]
        · unfold inO
          rw [inFlat_strs]
          rfl
        · simp only [fVar, h77]; rfl)
    rw [List.map_id, List.filter_map] at this
    exact this
/-- where the words stand among those met -/
theorem firstEq_at {w : List Str} : ∀ {M : List (List Str)} {j : Nat}, firstEq (py (encW w)) (pyAll (M.map encW)) = some j → M[j]? = some w
  | [], j, h => by cases h
  | v :: M, j, h => by
    have heq : PyData.eqv (py (encW v)) (py (encW w)) = true → v = w := fun e => by
      have e' : PyData.eqvAll (pyAll (v.map D.str)) (pyAll (w.map D.str)) = true := e
      have go : ∀ (a b : List Str), PyData.eqvAll (pyAll (a.map D.str)) (pyAll (b.map D.str)) = true → a = b := by
        intro a
        induction a with
        | nil => intro b hb; cases b with | nil => rfl | cons _ _ => cases hb
        | cons x a ih =>
          intro b hb
          cases b with
          | nil => cases hb
          | cons y b =>
            have hb' : (PyData.eqv (.str x) (.str y) && PyData.eqvAll (pyAll (a.map D.str)) (pyAll (b.map D.str))) = true := hb
            obtain ⟨h1, h2⟩ := Bool.and_eq_true_iff.mp hb'
            have : x = y := by
              have : (x == y) = true := h1
              exact beq_iff_eq.mp this
            rw [this, ih b h2]
      exact go v w e'
    have h' : firstEq (py (encW w)) (py (encW v) :: pyAll (M.map encW)) = some j := h
    unfold firstEq at h'
    split at h'
    · rename_i e
      cases h'
      rw [heq e]
      rfl
    · cases hm : firstEq (py (encW w)) (pyAll (M.map encW)) with
      | none => rw [hm] at h'; cases h'
      | some i =>
        rw [hm] at h'
        have : i + 1 = j := Option.some.inj h'
        subst this
        rw [List.getElem?_cons_succ]
        exact firstEq_at hm
/-- what a number of a drawn kind stands for -/
def EntOk (m0 : Int) (M : List (List Str)) (e : Int × Option (List Str)) : Prop :=
  (∃ j : Int, 0 ≤ j ∧ j < 3 ∧ e = (m0 * 2 * j, none)) ∨ (∃ (j : Nat) (w : List Str), M[j]? = some w ∧ e = (m0 * (1 + 2 * (j : Int)), some w))
theorem EntOk.mono {m0 : Int} {M M' : List (List Str)} {e : Int × Option (List Str)} (h : EntOk m0 M e) (hp : M <+: M') : EntOk m0 M' e := by
  rcases h with h | ⟨j, w, h1, h2⟩
  · exact .inl h
  · obtain ⟨t, rfl⟩ := hp
    exact .inr ⟨j, w, by rw [List.getElem?_append_left (List.getElem?_eq_some_iff.mp h1).1]; exact h1, h2⟩
theorem entOk_cons {m0 : Int} (hm : 1 ≤ m0) {M : List (List Str)} {es : Ents} (h : ∀ e ∈ es, EntOk m0 M e) : Cons es := fun p hp q hq e => by
  have odd : ∀ (a : Int) (b : Nat), m0 * 2 * a ≠ m0 * (1 + 2 * (b : Int)) := fun a b z => by
    rw [Int.mul_assoc] at z
    have := Int.eq_of_mul_eq_mul_left (show m0 ≠ 0 by omega) z
    omega
  rcases h p hp with ⟨a, _, _, rfl⟩ | ⟨a, v, ha, rfl⟩
  · rcases h q hq with ⟨b, _, _, rfl⟩ | ⟨b, w, hb, rfl⟩
    · rfl
    · exact absurd e (odd a b)
  · rcases h q hq with ⟨b, _, _, rfl⟩ | ⟨b, w, hb, rfl⟩
    · exact absurd e.symm (odd b a)
    · have e' : m0 * (1 + 2 * (a : Int)) = m0 * (1 + 2 * (b : Int)) := e
      have := Int.eq_of_mul_eq_mul_left (show m0 ≠ 0 by omega) e'
      have : a = b := by omega
      subst this
      rw [ha] at hb
      exact hb
end Pr

set_option Elab.async false
set_option linter.all false
set_option maxRecDepth 100000
set_option maxHeartbeats 8000000
/-! RK3: the kind drawn. -/
namespace Qk
mutual
/-- the most fields anywhere -/
def Ki.wid : Ki → Nat | .num => 0 | .bl _ => 0 | .rc fs _ => max fs.labs.length fs.wids
def Fs.wids : Fs → Nat | .nil => 0 | .cons _ k t => max k.wid t.wids
end
end Qk
namespace Pr
open PySem L2 PD Qk
structure KRes (m0 : Int) (M : List (List Str)) (left b : Int) (κ : Ki) (b' : Int) (M' : List (List Str)) : Prop where
  ok : κ.ok = true
  wid : κ.wid ≤ 3
  dep : (κ.dep : Int) ≤ max left 1
  kn : κ.kn + 3 * b'.toNat ≤ 1 + 3 * b.toNat
  pre : M <+: M'
  len : M'.length + b'.toNat ≤ M.length + b.toNat
  okM : OkW M'
  ents : ∀ e ∈ κ.ents, EntOk m0 M' e
def KSpec (F : List D → M D) (n : Nat) : Prop := ∀ (s : Sto) (k km kx : Nat) (a b m0 : Int) (M : List (List Str)) (left : Int) (L : List Str), Stands s k km kx a b m0 M → 1 ≤ m0 → m0 ≤ 2000000 → OkW M → M.length + b.toNat ≤ 1000 → left ≤ n → LabsOk 4 L →
  ∃ (κ : Ki) (a' b' : Int) (M' : List (List Str)), KRes m0 M left b κ b' M' ∧ F [.own k, .lst (L.map D.str), .own km, .int left] s = some (.ok κ.enc (upS s k kx a' b' M'))
structure FRes (m0 : Int) (M : List (List Str)) (left b : Int) (F : Fs) (R : List Str) (b' : Int) (M' : List (List Str)) : Prop where
  ok : F.oks = true
  wid : F.wids ≤ 3
  labs : F.labs = R
  dep : (F.deps : Int) ≤ max left 1
  kn : F.kns + 3 * b'.toNat ≤ R.length + 3 * b.toNat
  pre : M <+: M'
  len : M'.length + b'.toNat ≤ M.length + b.toNat
  okM : OkW M'
  ents : ∀ e ∈ F.entss, EntOk m0 M' e
/-- the fields drawn -/
theorem fields_lc {G : List D → M D} {n : Nat} (hG : KSpec G n) (s : Sto) (k km kx : Nat) (a b m0 : Int) (M : List (List Str)) (left : Int) (L W : List Str) (sl : Sl) (h : Stands s k km kx a b m0 M) (hm : 1 ≤ m0) (hm2 : m0 ≤ 2000000) (okM : OkW M) (hb : M.length + b.toNat ≤ 1000) (hleft : left - 1 ≤ n) (hL : LabsOk 4 L)
    (hW : W.length ≤ 4) (h0 : sl[0]? = some (some (.own k))) (h1 : sl[1]? = some (some (.lst (L.map D.str)))) (h2 : sl[2]? = some (some (.own km))) (h3 : sl[3]? = some (some (.int left))) (h6 : sl[6]? = some (some (.lst (W.map D.str)))) (h7 : 7 < sl.length) :
    ∃ (F : Fs) (a' b' : Int) (M' : List (List Str)), FRes m0 M (left - 1) b F W b' M' ∧
      (fLc (tdName 7) fYes (fTup (fCons (fVar 7) (fCons (fCall 4 G (fCons (fVar 0) (fCons (fVar 1) (fCons (fVar 2) (fCons (f2 subO (fVar 3) (fC (.int 1))) fNil))))) fNil))) (fIt (fVar 6)) [7]) sl s = some (.ok (.lst F.encs) (upS s k kx a' b' M')) := by
  have hit : (fIt (fVar 6)) sl s = some (.ok (W.map D.str, none) s) := by
    simp only [fIt, fVar, bindM, liftO, h6, seqIt, itO]
  have wv : ∀ (i : Nat) (x : D), i ≠ 7 → ((wipeS sl [7]).set 7 (some x))[i]? = sl[i]? := fun i x hi => by
    show ((sl.set 7 none).set 7 (some x))[i]? = _
    rw [List.getElem?_set_ne (Ne.symm hi), List.getElem?_set_ne (Ne.symm hi)]
  have h77 : ∀ x : D, ((wipeS sl [7]).set 7 (some x))[7]? = some (some x) := fun x => by
    show ((sl.set 7 none).set 7 (some x))[7]? = _
    rw [List.getElem?_set_self (by rw [List.length_set]; exact h7)]
  have go : ∀ (R : List Str) (a1 b1 : Int) (M1 : List (List Str)), OkW M1 → M1.length + b1.toNat ≤ 1000 →
      ∃ (F : Fs) (a' b' : Int) (M' : List (List Str)), FRes m0 M1 (left - 1) b1 F R b' M' ∧
        lcL (tdName 7) fYes (fTup (fCons (fVar 7) (fCons (fCall 4 G (fCons (fVar 0) (fCons (fVar 1) (fCons (fVar 2) (fCons (f2 subO (fVar 3) (fC (.int 1))) fNil))))) fNil))) (W.map D.str, none) (wipeS sl [7]) (R.map D.str) (upS s k kx a1 b1 M1) = some (.ok F.encs (upS s k kx a' b' M')) := by
    intro R
    induction R with
    | nil =>
      intro a1 b1 M1 ok1 _
      exact ⟨.nil, a1, b1, M1, ⟨rfl, Nat.zero_le _, rfl, by simp only [Fs.deps]; omega, by simp [Fs.kns], List.prefix_refl _, Nat.le_refl _, ok1, fun e he => by cases he⟩, rfl⟩
    | cons w R ih =>
      intro a1 b1 M1 ok1 hb1
      have hs1 := h.up a1 b1 M1
      obtain ⟨κ, a2, b2, M2, kr, e⟩ := hG (upS s k kx a1 b1 M1) k km kx a1 b1 m0 M1 (left - 1) L hs1 hm hm2 ok1 hb1 hleft hL
      rw [h.up_up] at e
      obtain ⟨F, a3, b3, M3, fr, e2⟩ := ih a2 b2 M2 kr.okM (by have := kr.len; omega)
      have hsmall : small ([D.str w, κ.enc] : List D).length = true := small_of (by simp)
      have hcall : (fTup (fCons (fVar 7) (fCons (fCall 4 G (fCons (fVar 0) (fCons (fVar 1) (fCons (fVar 2) (fCons (f2 subO (fVar 3) (fC (.int 1))) fNil))))) fNil))) ((wipeS sl [7]).set 7 (some (.str w))) (upS s k kx a1 b1 M1) = some (.ok (.tup [.str w, κ.enc]) (upS s k kx a2 b2 M2)) := by
        have hin : fCall 4 G (fCons (fVar 0) (fCons (fVar 1) (fCons (fVar 2) (fCons (f2 subO (fVar 3) (fC (.int 1))) fNil)))) ((wipeS sl [7]).set 7 (some (.str w))) (upS s k kx a1 b1 M1) = some (.ok κ.enc (upS s k kx a2 b2 M2)) := by
          refine fCall_eq (ds := [.own k, .lst (L.map D.str), .own km, .int (left - 1)]) (s1 := upS s k kx a1 b1 M1) ?_ rfl e
          simp only [fCons, fNil, f2, fC, fVar, bindM, retM, liftO, wv 0 _ (by decide), wv 1 _ (by decide), wv 2 _ (by decide), wv 3 _ (by decide), h0, h1, h2, h3, subO]
        simp only [fTup, fCons, fNil, bindM, retM, hin, liftO, fVar, h77, hsmall, if_true]
      refine ⟨.cons w κ F, a3, b3, M3, ⟨?_, Nat.max_le.mpr ⟨kr.wid, fr.wid⟩, ?_, ?_, ?_, kr.pre.trans fr.pre, by have := kr.len; have := fr.len; omega, fr.okM, ?_⟩, ?_⟩
      · show (κ.ok && F.oks) = true
        rw [kr.ok, fr.ok]; rfl
      · show w :: F.labs = w :: R
        rw [fr.labs]
      · have := kr.dep
        have := fr.dep
        simp only [Fs.deps]
        omega
      · have := kr.kn
        have := fr.kn
        simp only [Fs.kns, List.length_cons]
        omega
      · intro e he
        rcases List.mem_append.mp (show e ∈ κ.ents ++ F.entss from he) with he | he
        · exact (kr.ents e he).mono fr.pre
        · exact fr.ents e he
      · show lcL _ _ _ _ _ (D.str w :: R.map D.str) _ = _
        unfold lcL
        show bindM (noex (fYes _)) _ _ = _
        have hcall' : (fTup (fCons (fVar 7) (fCons (fCall 4 G (fCons (fVar 0) (fCons (fVar 1) (fCons (fVar 2) (fCons (f2 subO (fVar 3) (fC (.int 1))) fNil))))) fNil))) (List.set (wipeS sl [7]) 7 (some (.str w))) (upS s k kx a1 b1 M1) = some (.ok (.tup [.str w, κ.enc]) (upS s k kx a2 b2 M2)) := hcall
        simp only [bindM, noex, fYes, retM, if_true, ckM, hcall', if_pos (ck_none _ _), e2]
        rfl
  obtain ⟨F, a', b', M', fr, e⟩ := go W a b M okM hb
  rw [h.self] at e
  have hl : F.encs.length = W.length := by
    rw [← fr.labs]
    have : ∀ F : Fs, F.encs.length = F.labs.length := by
      intro F
      induction F using Fs.rec (motive_1 := fun _ => True) with
      | num => trivial
      | bl i => trivial
      | rc fs r _ => trivial
      | nil => rfl
      | cons y k t _ ih => show t.encs.length + 1 = t.labs.length + 1; rw [ih]
    exact this F
  exact ⟨F, a', b', M', fr, fLc_of hit (ck_none _ _) e (by omega)⟩
theorem kind_step {G : List D → M D} {n : Nat} (hG : 1 ≤ n → KSpec G n) : KSpec (fnD false 9 (g_kind G)) (n + 1) := by
  intro s k km kx a b m0 M left L h hm hm2 okM hb hleft hL
  have hnext : D_next [.own k] s = some (.ok (.int ((a * 48271 + 11) % 2147483647 / 7)) (upS s k kx ((a * 48271 + 11) % 2147483647) (b - 1) M)) := (next_eq s k a b h.k1).trans (by rw [← h.next])
  have hN := next_nn a
  generalize (a * 48271 + 11) % 2147483647 / 7 = N at hnext hN
  generalize (a * 48271 + 11) % 2147483647 = a1 at hnext
  have hs1 := h.up a1 (b - 1) M
  let s1 : Sto := upS s k kx a1 (b - 1) M
  have start : ∀ (g : SD) r, g [some (.own k), some (.lst (L.map D.str)), some (.own km), some (.int left), some (.int N), none, none, none, none] s1 = r →
      (seqS (setS 4 (fCall 1 D_next (fCons (fVar 0) fNil))) g) [some (.own k), some (.lst (L.map D.str)), some (.own km), some (.int left), none, none, none, none, none] s = r := fun g r e => (seqS_nx (setS_ok (fCall_eq (ds := [.own k]) (s1 := s) rfl rfl hnext))).trans e
  have done : ∀ (κ : Ki) (a' b' : Int) (M' : List (List Str)), κ.ok = true → (g_kind G) [some (.own k), some (.lst (L.map D.str)), some (.own km), some (.int left), none, none, none, none, none] s = some (.rt κ.enc (upS s k kx a' b' M')) →
      fnD false 9 (g_kind G) [.own k, .lst (L.map D.str), .own km, .int left] s = some (.ok κ.enc (upS s k kx a' b' M')) := fun κ a' b' M' kd e =>
    fnD_rt e (fin_up s k kx a' b' M' κ.enc (pd_low _ (κ.pd kd)) (pd_own (κ.pd kd)))
  let sl4 : Sl := [some (.own k), some (.lst (L.map D.str)), some (.own km), some (.int left), some (.int N), none, none, none, none]
  have t1 : (fB (f2 leO (fVar 3) (fC (.int 1)))) sl4 s1 = some (.ok (decide (left ≤ 1)) s1) := fB_of (f2_of (x := .int left) (y := .int 1) (s1 := s1) rfl rfl rfl)
  have t2 : (fB (f2 leO (f2 ixO (fVar 0) (fC (.int 1))) (fC (.int 0)))) sl4 s1 = some (.ok (decide (b - 1 ≤ 0)) s1) :=
    fB_of (f2_of (x := .int (b - 1)) (y := .int 0) (s1 := s1) (f2_of (x := .own k) (y := .int 1) (s1 := s1) rfl rfl (own_ix hs1.k1 1 rfl)) rfl rfl)
  have e7 : (f2 modO (fVar 4) (fC (.int 7))) sl4 s1 = some (.ok (.int (N % 7)) s1) := f2_of (x := .int N) (y := .int 7) (s1 := s1) rfl rfl (by simp [modO])
  have t3 : (fB (f2 ltO (f2 modO (fVar 4) (fC (.int 7))) (fC (.int 2)))) sl4 s1 = some (.ok (decide (N % 7 < 2)) s1) := fB_of (f2_of (x := .int (N % 7)) (y := .int 2) (s1 := s1) e7 rfl rfl)
  have t123 := fOr_b t1 (fOr_b t2 t3)
  have d1le : ((1 : Nat) : Int) ≤ max left 1 := by omega
  cases hc : (decide (left ≤ 1) || (decide (b - 1 ≤ 0) || decide (N % 7 < 2))) with
  | true =>
    rw [hc] at t123
    refine ⟨.num, a1, b - 1, M, ⟨rfl, Nat.zero_le _, d1le, by simp only [Ki.kn]; omega, List.prefix_refl _, by omega, okM, fun e he => by cases he⟩, done _ _ _ _ rfl ?_⟩
    unfold g_kind
    refine start _ _ (seqS_rt ((ifS_t t123).trans (retS_ok ?_)))
    have h1 : small ([D.str (S "number")] : List D).length = true := small_of (by simp)
    simp only [fTup, fCons, fNil, fC, bindM, retM, liftO, h1, if_true]
    rfl
  | false =>
    rw [hc] at t123
    simp only [Bool.or_eq_false_iff, decide_eq_false_iff_not] at hc
    obtain ⟨c1, c2, c3⟩ := hc
    have hn1 : 1 ≤ n := by omega
    have hbt : (b - 1).toNat + 1 = b.toNat := by omega
    have t4 : (fB (f2 (eqO false) (f2 modO (fVar 4) (fC (.int 7))) (fC (.int 2)))) sl4 s1 = some (.ok (decide (N % 7 = 2)) s1) := fB_of (f2_of (x := .int (N % 7)) (y := .int 2) (s1 := s1) e7 rfl (eqO_int _ _ _ _))
    by_cases d1 : N % 7 = 2
    · rw [decide_eq_true d1] at t4
      have hnn : 0 ≤ m0 * 2 * (N / 7 % 3) := Int.mul_nonneg (by omega) (by omega)
      refine ⟨.bl (m0 * 2 * (N / 7 % 3)), a1, b - 1, M, ⟨decide_eq_true hnn, Nat.zero_le _, d1le, by simp only [Ki.kn]; omega, List.prefix_refl _, by omega, okM, fun e he => ?_⟩, done _ _ _ _ (decide_eq_true hnn) ?_⟩
      · rw [List.mem_singleton.mp he]
        exact .inl ⟨N / 7 % 3, by omega, by omega, rfl⟩
      unfold g_kind
      refine start _ _ ((skip_if t123).trans (seqS_rt ((ifS_t t4).trans (retS_ok ?_))))
      have h2 : small ([D.str (S "blank"), D.int (m0 * 2 * (N / 7 % 3))] : List D).length = true := small_of (by simp)
      have e0 : (f2 ixO (fVar 2) (fC (.int 0))) sl4 s1 = some (.ok (.int m0) s1) := f2_of (x := .own km) (y := .int 0) (s1 := s1) rfl rfl (own_ix hs1.k2 0 rfl)
      have e1 : (f2 mulO (f2 ixO (fVar 2) (fC (.int 0))) (fC (.int 2))) sl4 s1 = some (.ok (.int (m0 * 2)) s1) := f2_of e0 rfl (by
        show (if mulOk m0 2 = true then some (D.int (m0 * 2)) else none) = _
        rw [if_pos (mul_lt (by omega) (by omega))])
      have e2 : (f2 modO (f2 fdivO (fVar 4) (fC (.int 7))) (fC (.int 3))) sl4 s1 = some (.ok (.int (N / 7 % 3)) s1) := f2_of (x := .int (N / 7)) (y := .int 3) (s1 := s1) (f2_of (x := .int N) (y := .int 7) (s1 := s1) rfl rfl (by simp [fdivO])) rfl (by simp [modO])
      have e3 : (f2 mulO (f2 mulO (f2 ixO (fVar 2) (fC (.int 0))) (fC (.int 2))) (f2 modO (f2 fdivO (fVar 4) (fC (.int 7))) (fC (.int 3)))) sl4 s1 = some (.ok (.int (m0 * 2 * (N / 7 % 3))) s1) := f2_of e1 e2 (by
        show (if mulOk (m0 * 2) (N / 7 % 3) = true then some (D.int (m0 * 2 * (N / 7 % 3))) else none) = _
        rw [if_pos (mul_lt (by omega) (by omega))])
      show (fTup (fCons (fC (.str (PySem.Str.ofString "blank"))) (fCons (f2 mulO (f2 mulO (f2 ixO (fVar 2) (fC (.int 0))) (fC (.int 2))) (f2 modO (f2 fdivO (fVar 4) (fC (.int 7))) (fC (.int 3)))) fNil))) sl4 s1 = _
      have hw : fC (.str (PySem.Str.ofString "blank")) sl4 s1 = some (.ok (.str (S "blank")) s1) := rfl
      show bindM (fCons _ _ sl4) _ _ = _
      simp only [fCons, bindM, hw, e3, fNil, retM, liftO]
      simp only [h2, if_true]
      rfl
    · rw [decide_eq_false d1] at t4
      obtain ⟨P, hP3, ep⟩ := pick_eq L hL.len N sl4 s1 rfl rfl
      let sl5 : Sl := [some (.own k), some (.lst (L.map D.str)), some (.own km), some (.int left), some (.int N), some (.lst (P.map D.str)), none, none, none]
      obtain ⟨W, hWP, hWL, hWr, ew⟩ := words_eq L P hL sl5 s1 rfl rfl (by simp [sl5])
      have hWs : ∀ w ∈ W, OkS 7 w := fun w hw => hL.ok w (hWL w hw)
      have hrise : riseF W [] = true := rise_of W [] (fun y hy => hL.wd y (hWL y hy)) (by simpa using hWr)
      let sl6 : Sl := [some (.own k), some (.lst (L.map D.str)), some (.own km), some (.int left), some (.int N), some (.lst (P.map D.str)), some (.lst (W.map D.str)), none, none]
      obtain ⟨F, a', b', M', fr, ef⟩ := fields_lc (hG hn1) s1 k km kx a1 (b - 1) m0 M left L W sl6 hs1 hm hm2 okM (by omega) (by omega) hL (by omega) rfl rfl rfl rfl rfl (by simp [sl6])
      rw [h.up_up] at ef
      let s2 : Sto := upS s k kx a' b' M'
      have hs2 := h.up a' b' M'
      let sl8 : Sl := [some (.own k), some (.lst (L.map D.str)), some (.own km), some (.int left), some (.int N), some (.lst (P.map D.str)), some (.lst (W.map D.str)), none, some (.tup F.encs)]
      have e8 : (fN tupleO (fCons (fLc (tdName 7) fYes (fTup (fCons (fVar 7) (fCons (fCall 4 G (fCons (fVar 0) (fCons (fVar 1) (fCons (fVar 2) (fCons (f2 subO (fVar 3) (fC (.int 1))) fNil))))) fNil))) (fIt (fVar 6)) [7]) fNil)) sl6 s1 = some (.ok (.tup F.encs) s2) := by
        show bindM (fCons _ _ sl6) _ s1 = _
        simp only [fCons, bindM, ef, fNil, retM, liftO, tupleO, lsOf, Option.map_some]
        rfl
      have t5 : (fB (f2 (eqO false) (f2 modO (f2 fdivO (fVar 4) (fC (.int 1792))) (fC (.int 2))) (fC (.int 0)))) sl8 s2 = some (.ok (decide (N / 1792 % 2 = 0)) s2) :=
        fB_of (f2_of (x := .int (N / 1792 % 2)) (y := .int 0) (s1 := s2) (f2_of (x := .int (N / 1792)) (y := .int 2) (s1 := s2) (f2_of (x := .int N) (y := .int 1792) (s1 := s2) rfl rfl (by simp [fdivO])) rfl (by simp [modO])) rfl (eqO_int _ _ _ _))
      have s5 := setS_ok (i := 5) ep
      have s5' : _ = some (RS.nx sl5 s1) := s5
      have s6 := setS_ok (i := 6) ew
      have s6' : _ = some (RS.nx sl6 s1) := s6
      have s8 := setS_ok (i := 8) e8
      have s8' : _ = some (RS.nx sl8 s2) := s8
      have upto : ∀ (g1 g2 g : SD) r, g sl8 s2 = r → _ = r := fun g1 g2 g r e => start _ _ ((skip_if (g := g1) t123).trans ((skip_if (g := g2) t4).trans ((seqS_nx s5').trans ((seqS_nx s6').trans ((seqS_nx s8').trans e)))))
      have okr : ∀ r : Option Int, okR r = true → (Ki.rc F r).ok = true := fun r hr => by
        show (riseF F.labs [] && okR r && F.oks) = true
        rw [fr.labs, hrise, hr, fr.ok]; rfl
      have dpr : ∀ r : Option Int, ((Ki.rc F r).dep : Int) ≤ max left 1 := fun r => by
        have := fr.dep
        simp only [Ki.dep]
        omega
      have wdr : ∀ r : Option Int, (Ki.rc F r).wid ≤ 3 := fun r => Nat.max_le.mpr ⟨by rw [fr.labs]; omega, fr.wid⟩
      have knr : ∀ r : Option Int, (Ki.rc F r).kn + 3 * b'.toNat ≤ 1 + 3 * b.toNat := fun r => by
        have := fr.kn
        simp only [Ki.kn]
        omega
      have hlen := fr.len
      by_cases d2 : N / 1792 % 2 = 0
      · rw [decide_eq_true d2] at t5
        refine ⟨.rc F none, a', b', M', ⟨okr none rfl, wdr none, dpr none, knr none, fr.pre, by omega, fr.okM, fun e he => ?_⟩, done _ _ _ _ (okr none rfl) ?_⟩
        · exact fr.ents e (by simpa [Ki.ents] using he)
        unfold g_kind
        refine upto _ _ _ _ (seqS_rt ((ifS_t t5).trans (retS_ok ?_)))
        have h3 : small ([D.str (S "record"), .tup F.encs, .non] : List D).length = true := small_of (by simp)
        show (fTup (fCons (fC (.str (PySem.Str.ofString "record"))) (fCons (fVar 8) (fCons (fC .non) fNil)))) sl8 s2 = _
        have hv8 : fVar 8 sl8 s2 = some (.ok (.tup F.encs) s2) := rfl
        simp only [fTup, fCons, fNil, fC, bindM, retM, liftO, hv8, h3, if_true]
        rfl
      · rw [decide_eq_false d2] at t5
        have e1 : (f2 ixO (fVar 2) (fC (.int 1))) sl8 s2 = some (.ok (.own kx) s2) := f2_of (x := .own km) (y := .int 1) (s1 := s2) rfl rfl (own_ix hs2.k2 1 rfl)
        obtain ⟨c, ec, hj⟩ := met_notin hs2.k3 fr.okM hWs
        have t6 : (fB (f2 (inO true) (fVar 6) (f2 ixO (fVar 2) (fC (.int 1))))) sl8 s2 = some (.ok c s2) := fB_of (f2_of (x := encW W) (y := .own kx) (s1 := s2) rfl e1 ec)
        have fin : ∀ (M2 : List (List Str)) (j : Nat), OkW M2 → firstEq (py (encW W)) (pyAll (M2.map encW)) = some j →
            (retS (fTup (fCons (fC (.str (PySem.Str.ofString "record"))) (fCons (fVar 8) (fCons (f2 mulO (f2 ixO (fVar 2) (fC (.int 0))) (f2 addO (fC (.int 1)) (f2 mulO (fC (.int 2)) (fMP isLs indexO (f2 ixO (fVar 2) (fC (.int 1))) (fCons (fVar 6) fNil))))) fNil))))) sl8 (upS s k kx a' b' M2)
              = some (.rt (Ki.rc F (some (m0 * (1 + 2 * (j : Nat))))).enc (upS s k kx a' b' M2)) := fun M2 j ok2 hj2 => by
          have hr := rest_eq (h.up a' b' M2) (by omega) hm2 ok2 hWs hj2 sl8 rfl rfl
          have h3 : small ([D.str (S "record"), .tup F.encs, .int (m0 * (1 + 2 * (j : Nat)))] : List D).length = true := small_of (by simp)
          have hv8 : fVar 8 sl8 (upS s k kx a' b' M2) = some (.ok (.tup F.encs) (upS s k kx a' b' M2)) := rfl
          have hw : fC (.str (PySem.Str.ofString "record")) sl8 (upS s k kx a' b' M2) = some (.ok (.str (S "record")) (upS s k kx a' b' M2)) := rfl
          refine retS_ok ?_
          show bindM (fCons _ _ sl8) _ _ = _
          simp only [fCons, bindM, hw, hv8, hr, fNil, retM, liftO]
          simp only [h3, if_true]
          rfl
        have hpos : ∀ j : Nat, okR (some (m0 * (1 + 2 * (j : Nat)))) = true := fun j => decide_eq_true (Int.mul_nonneg (by omega) (by omega))
        have entr : ∀ (M2 : List (List Str)) (j : Nat), M' <+: M2 → firstEq (py (encW W)) (pyAll (M2.map encW)) = some j → ∀ e ∈ (Ki.rc F (some (m0 * (1 + 2 * (j : Nat))))).ents, EntOk m0 M2 e := fun M2 j hp hj e he => by
          rcases List.mem_append.mp (show e ∈ F.entss ++ [(m0 * (1 + 2 * (j : Nat)), some F.labs)] from he) with he | he
          · exact (fr.ents e he).mono hp
          · rw [List.mem_singleton.mp he, fr.labs]
            exact .inr ⟨j, W, firstEq_at hj, rfl⟩
        cases c with
        | false =>
          obtain ⟨j, hj⟩ := hj rfl
          refine ⟨.rc F (some (m0 * (1 + 2 * (j : Nat)))), a', b', M', ⟨okr _ (hpos j), wdr _, dpr _, knr _, fr.pre, by omega, fr.okM, entr M' j (List.prefix_refl _) hj⟩, done _ _ _ _ (okr _ (hpos j)) ?_⟩
          unfold g_kind
          exact upto _ _ _ _ ((skip_if t5).trans ((skip_if t6).trans (fin M' j fr.okM hj)))
        | true =>
          obtain ⟨j, hj⟩ := met_last M' hWs
          have ok2 : OkW (M' ++ [W]) := fun w hw => by
            rcases List.mem_append.mp hw with q | q
            · exact fr.okM w q
            · rw [List.mem_singleton.mp q]; exact hWs
          refine ⟨.rc F (some (m0 * (1 + 2 * (j : Nat)))), a', b', M' ++ [W], ⟨okr _ (hpos j), wdr _, dpr _, knr _, fr.pre.trans (List.prefix_append _ _), by rw [List.length_append]; simp only [List.length_singleton]; omega, ok2, entr (M' ++ [W]) j (List.prefix_append _ _) hj⟩, done _ _ _ _ (okr _ (hpos j)) ?_⟩
          unfold g_kind
          have happ : (ifS (fB (f2 (inO true) (fVar 6) (f2 ixO (fVar 2) (fC (.int 1))))) (exprS (fM1 appendM (f2 ixO (fVar 2) (fC (.int 1))) (fCons (fVar 6) fNil))) nextS) sl8 s2 = some (.nx sl8 (upS s k kx a' b' (M' ++ [W]))) := by
            refine (ifS_t t6).trans (exprS_ok (d := .non) ?_)
            have hsm : small ((M'.map encW).length + 1) = true := small_of (by rw [List.length_map]; omega)
            have hv6 : fVar 6 sl8 s2 = some (.ok (encW W) s2) := rfl
            have hset : s2.set kx (.lst (M'.map encW ++ [encW W])) = upS s k kx a' b' (M' ++ [W]) := by
              show (upS s k kx a' b' M').set kx _ = _
              unfold upS
              rw [List.set_set, List.map_append]
              rfl
            have hk3 : s2[kx]? = some (.lst (M'.map encW)) := hs2.k3
            simp only [fM1, bindM, e1, liftO, lsOf, hk3, Option.map_some, fCons, hv6, fNil, retM, appendM, hsm, if_true, hset]
          exact upto _ _ _ _ ((skip_if t5).trans ((seqS_nx happ).trans (fin (M' ++ [W]) j ok2 hj)))
theorem kind_all : ∀ n, KSpec (R_kind (n + 1)) (n + 1)
  | 0 => kind_step (fun h => absurd h (by decide))
  | n + 1 => kind_step (fun _ => kind_all n)
theorem kind_eq : KSpec D_kind 14 := kind_all 13
end Pr

set_option Elab.async false
set_option linter.all false
set_option maxRecDepth 100000
set_option maxHeartbeats 4000000
/-! VI: values as a type of their own. -/
namespace Qk
open PySem L2 PD
mutual
inductive Vl where
  | num (i : Int) | rc (fs : Vf)
inductive Vf where
  | nil | cons (l : Str) (v : Vl) (t : Vf)
end
mutual
def Vl.enc : Vl → D
  | .num i => .int i
  | .rc fs => .tup fs.encs
def Vf.encs : Vf → List D
  | .nil => []
  | .cons l v t => .tup [.str l, v.enc] :: t.encs
end
def Vf.labs : Vf → List Str | .nil => [] | .cons l _ t => l :: t.labs
def Vf.lk : Vf → Str → Option Vl | .nil, _ => none | .cons l v t, x => if l = x then some v else t.lk x
def Vf.len : Vf → Nat | .nil => 0 | .cons _ _ t => t.len + 1
def Vf.kvs : Vf → List (Key × D) | .nil => [] | .cons l v t => (Sum.inr l, v.enc) :: t.kvs
mutual
/-- labels unlike, of signs that can be laid -/
def Vl.ok : Vl → Prop
  | .num _ => True
  | .rc fs => fs.labs.Nodup ∧ fs.oks
def Vf.oks : Vf → Prop
  | .nil => True
  | .cons l v t => OkT8 l ∧ v.ok ∧ t.oks
def OkT8 (l : Str) : Prop := PyData.strOk l = true
end
mutual
def Vl.sz : Vl → Nat | .num _ => 1 | .rc fs => fs.szs + 1
def Vf.szs : Vf → Nat | .nil => 0 | .cons _ v t => v.sz + t.szs + 1
end
theorem Vf.len_encs : ∀ fs : Vf, fs.encs.length = fs.len
  | .nil => rfl
  | .cons _ _ t => congrArg (· + 1) (Vf.len_encs t)
theorem Vf.len_labs : ∀ fs : Vf, fs.labs.length = fs.len
  | .nil => rfl
  | .cons _ _ t => congrArg (· + 1) (Vf.len_labs t)
theorem Vf.len_kvs : ∀ fs : Vf, fs.kvs.length = fs.len
  | .nil => rfl
  | .cons _ _ t => congrArg (· + 1) (Vf.len_kvs t)
theorem Vf.len_szs : ∀ fs : Vf, fs.len ≤ fs.szs
  | .nil => Nat.le_refl _
  | .cons _ v t => by
    have := Vf.len_szs t
    simp only [Vf.len, Vf.szs]
    omega
theorem Vf.prs : ∀ fs : Vf, fs.encs.mapM prD = some fs.kvs
  | .nil => rfl
  | .cons l v t => by
    show ((D.tup [.str l, v.enc] :: t.encs).mapM prD) = _
    rw [List.mapM_cons, Vf.prs t]
    rfl
theorem Vf.at_kvs (x : Str) : ∀ fs : Vf, atD fs.kvs (.inr x) = (fs.lk x).map Vl.enc
  | .nil => rfl
  | .cons l v t => by
    have ih := Vf.at_kvs x t
    unfold atD at *
    show (List.find? _ ((Sum.inr l, v.enc) :: t.kvs)).map _ = _
    rw [List.find?_cons]
    unfold Vf.lk
    by_cases e : l = x
    · simp [e]
    · have e' : ¬ ((Sum.inr l : Key) = Sum.inr x) := fun h => e (Sum.inr.inj h)
      simp only [e', decide_false]
      rw [ih, if_neg e]
theorem Vf.keys : ∀ fs : Vf, fs.kvs.map (·.1) = fs.labs.map Sum.inr
  | .nil => rfl
  | .cons l v t => by
    show Sum.inr l :: t.kvs.map (·.1) = Sum.inr l :: t.labs.map Sum.inr
    rw [Vf.keys t]
theorem putD_new {acc : List (Key × D)} {k : Key} {d : D} (h : k ∉ acc.map (·.1)) : putD acc k d = acc ++ [(k, d)] := by
  unfold putD
  have : (acc.any fun q => decide (q.1 = k)) = false := by
    rw [List.any_eq_false]
    intro q hq
    simp only [decide_eq_true_eq]
    intro e
    exact h (List.mem_map.mpr ⟨q, hq, e⟩)
  rw [this]
  rfl
theorem mergeD_nd : ∀ (more acc : List (Key × D)), ((acc ++ more).map (·.1)).Nodup → mergeD acc more = acc ++ more
  | [], acc, _ => by simp [mergeD]
  | q :: more, acc, nd => by
    have h : q.1 ∉ acc.map (·.1) := by
      rw [List.map_append, List.nodup_append] at nd
      exact fun hm => nd.2.2 _ hm _ (by simp) rfl
    show mergeD (putD acc q.1 q.2) more = _
    rw [putD_new h, mergeD_nd more (acc ++ [(q.1, q.2)]) (by simpa using nd)]
    simp
theorem Vf.merge (fs : Vf) (nd : fs.labs.Nodup) : mergeD [] fs.kvs = fs.kvs := by
  have := mergeD_nd fs.kvs [] (by
    rw [List.nil_append, Vf.keys]
    exact List.pairwise_map.mpr (nd.imp fun h e => h (Sum.inr.inj e)))
  simpa using this
mutual
theorem Vl.low : ∀ v : Vl, D.low 0 v.enc = true
  | .num _ => rfl
  | .rc fs => Vf.lows fs
theorem Vf.lows : ∀ fs : Vf, D.lowAll 0 fs.encs = true
  | .nil => rfl
  | .cons l v t => by
    show (D.low 0 (.tup [.str l, v.enc]) && D.lowAll 0 t.encs) = true
    rw [Vf.lows t, Bool.and_true]
    show (true && (D.low 0 v.enc && true)) = true
    rw [Vl.low v]
    rfl
end
theorem Vl.own (v : Vl) : ∀ k, v.enc ≠ .own k := fun k => by cases v <;> exact fun z => nomatch z
/-- dict(v) of a record -/
theorem dict_v {f : Sl → M D} {sl : Sl} {s s1 : Sto} {fs : Vf} (h : f sl s = some (.ok (.tup fs.encs) s1)) (nd : fs.labs.Nodup) : fNM dictO (fCons f fNil) sl s = some (.ok (.own s1.length) (s1 ++ [.dic fs.kvs])) := by
  have hl : (fCons f fNil) sl s = some (.ok [.tup fs.encs] s1) := one_ok h
  unfold fNM bindM
  rw [hl]
  have : dictO s1 [.tup fs.encs] = some (.own s1.length, s1 ++ [.dic (mergeD [] fs.kvs)]) := by
    unfold dictO
    simp only [show dcOf s1 (.tup fs.encs) = none from rfl, prsOf, Option.bind_some, Vf.prs]
  simp only [this, Vf.merge fs nd]
/-! ### a value is one of a kind -/
def Vl.isNum : Vl → Bool | .num _ => true | _ => false
def Fs.len : Fs → Nat | .nil => 0 | .cons _ _ t => t.len + 1
theorem Fs.len_encs : ∀ fs : Fs, fs.encs.length = fs.len
  | .nil => rfl
  | .cons _ _ t => congrArg (· + 1) (Fs.len_encs t)
mutual
def ofB : Ki → Vl → Bool
  | .num, v => v.isNum
  | .bl _, _ => true
  | .rc _ _, .num _ => false
  | .rc fs r, .rc vf => ofsB fs vf && (r.isSome || decide (vf.len = fs.len))
def ofsB : Fs → Vf → Bool
  | .nil, _ => true
  | .cons l k t, vf => (match vf.lk l with | some v => ofB k v | none => false) && ofsB t vf
end
/-- all labels are there -/
def hasL : Fs → Vf → Bool | .nil, _ => true | .cons l _ t, vf => (vf.lk l).isSome && hasL t vf
/-- what stands at the labels -/
def pairsOf : Fs → Vf → List (Vl × Ki) | .nil, _ => [] | .cons l k t, vf => (match vf.lk l with | some v => [(v, k)] | none => []) ++ pairsOf t vf
def allOf : List (Vl × Ki) → Bool | [] => true | p :: t => ofB p.2 p.1 && allOf t
theorem allOf_append : ∀ xs ys : List (Vl × Ki), allOf (xs ++ ys) = (allOf xs && allOf ys)
  | [], ys => rfl
  | x :: xs, ys => by
    show (_ && allOf (xs ++ ys)) = ((_ && allOf xs) && allOf ys)
    rw [allOf_append xs ys, Bool.and_assoc]
theorem ofs_pairs (vf : Vf) : ∀ fs : Fs, ofsB fs vf = (hasL fs vf && allOf (pairsOf fs vf))
  | .nil => rfl
  | .cons l k t => by
    have ih := ofs_pairs vf t
    unfold ofsB hasL pairsOf
    rw [ih]
    cases vf.lk l with
    | none => rfl
    | some v =>
      show (ofB k v && (hasL t vf && allOf (pairsOf t vf))) = ((true && hasL t vf) && (ofB k v && allOf (pairsOf t vf)))
      cases ofB k v <;> cases hasL t vf <;> rfl
theorem Vf.lk_ok : ∀ {fs : Vf}, fs.oks → ∀ {x : Str} {v : Vl}, fs.lk x = some v → v.ok
  | .nil, _, _, _, h => by cases h
  | .cons l w t, ho, x, v, h => by
    obtain ⟨_, h1, h2⟩ := (show OkT8 l ∧ w.ok ∧ t.oks from by simpa [Vf.oks] using ho)
    unfold Vf.lk at h
    split at h
    · cases h; exact h1
    · exact Vf.lk_ok h2 h
/-! ### fields as a list -/
mutual
def Vl.dep : Vl → Nat | .num _ => 1 | .rc fs => fs.deps + 1
def Vf.deps : Vf → Nat | .nil => 0 | .cons _ v t => max v.dep t.deps
end
mutual
def Vl.wid : Vl → Nat | .num _ => 0 | .rc fs => max fs.len fs.wids
def Vf.wids : Vf → Nat | .nil => 0 | .cons _ v t => max v.wid t.wids
end
abbrev Pv := Str × Vl
def Vf.toL : Vf → List Pv | .nil => [] | .cons l v t => (l, v) :: t.toL
def Vf.ofL : List Pv → Vf | [] => .nil | p :: t => .cons p.1 p.2 (Vf.ofL t)
def encPv (p : Pv) : D := .tup [.str p.1, p.2.enc]
def kvPv (p : Pv) : Key × D := (.inr p.1, p.2.enc)
theorem Vf.ofL_toL : ∀ fs : Vf, Vf.ofL fs.toL = fs
  | .nil => rfl
  | .cons l v t => by show Vf.cons l v (Vf.ofL t.toL) = _; rw [Vf.ofL_toL t]
theorem Vf.toL_ofL : ∀ xs : List Pv, (Vf.ofL xs).toL = xs
  | [] => rfl
  | p :: t => by show (p.1, p.2) :: (Vf.ofL t).toL = _; rw [Vf.toL_ofL t]
theorem Vf.encs_toL : ∀ fs : Vf, fs.encs = fs.toL.map encPv
  | .nil => rfl
  | .cons l v t => by show _ :: t.encs = _ :: t.toL.map encPv; rw [Vf.encs_toL t]; rfl
theorem Vf.kvs_toL : ∀ fs : Vf, fs.kvs = fs.toL.map kvPv
  | .nil => rfl
  | .cons l v t => by show _ :: t.kvs = _ :: t.toL.map kvPv; rw [Vf.kvs_toL t]; rfl
theorem Vf.labs_toL : ∀ fs : Vf, fs.labs = fs.toL.map (·.1)
  | .nil => rfl
  | .cons l v t => by show _ :: t.labs = _ :: t.toL.map (·.1); rw [Vf.labs_toL t]
theorem Vf.len_toL : ∀ fs : Vf, fs.len = fs.toL.length
  | .nil => rfl
  | .cons l v t => by show t.len + 1 = t.toL.length + 1; rw [Vf.len_toL t]
theorem Vf.oks_toL : ∀ fs : Vf, fs.oks ↔ ∀ p ∈ fs.toL, OkT8 p.1 ∧ p.2.ok
  | .nil => ⟨fun _ _ h => (nomatch h), fun _ => trivial⟩
  | .cons l v t => by
    have ih := Vf.oks_toL t
    have e : (Vf.cons l v t).oks ↔ (OkT8 l ∧ v.ok ∧ t.oks) := by simp [Vf.oks]
    rw [e, ih]
    constructor
    · rintro ⟨a, b, c⟩ p hp
      rcases List.mem_cons.mp (show p ∈ (l, v) :: t.toL from hp) with rfl | hp
      · exact ⟨a, b⟩
      · exact c p hp
    · intro h
      have h0 := h (l, v) (show (l, v) ∈ (l, v) :: t.toL from List.mem_cons_self)
      exact ⟨h0.1, h0.2, fun p hp => h p (show p ∈ (l, v) :: t.toL from List.mem_cons_of_mem _ hp)⟩
theorem Vf.deps_toL {n : Nat} : ∀ fs : Vf, fs.deps ≤ n ↔ ∀ p ∈ fs.toL, p.2.dep ≤ n
  | .nil => ⟨fun _ _ h => (nomatch h), fun _ => Nat.zero_le _⟩
  | .cons l v t => by
    have ih := Vf.deps_toL (n := n) t
    show max v.dep t.deps ≤ n ↔ ∀ p ∈ (l, v) :: t.toL, _
    rw [Nat.max_le, ih]
    simp
theorem Vf.wids_toL {n : Nat} : ∀ fs : Vf, fs.wids ≤ n ↔ ∀ p ∈ fs.toL, p.2.wid ≤ n
  | .nil => ⟨fun _ _ h => (nomatch h), fun _ => Nat.zero_le _⟩
  | .cons l v t => by
    have ih := Vf.wids_toL (n := n) t
    show max v.wid t.wids ≤ n ↔ ∀ p ∈ (l, v) :: t.toL, _
    rw [Nat.max_le, ih]
    simp
def lkL : List Pv → Str → Option Vl | [], _ => none | p :: t, x => if p.1 = x then some p.2 else lkL t x
theorem Vf.lk_toL (x : Str) : ∀ fs : Vf, fs.lk x = lkL fs.toL x
  | .nil => rfl
  | .cons l v t => by show (if l = x then some v else t.lk x) = _; rw [Vf.lk_toL x t]; rfl
theorem lkL_mem : ∀ {xs : List Pv} {p : Pv}, (xs.map (·.1)).Nodup → p ∈ xs → lkL xs p.1 = some p.2
  | q :: t, p, nd, hp => by
    have nd' := List.nodup_cons.mp (show (q.1 :: t.map (·.1)).Nodup from nd)
    show (if q.1 = p.1 then some q.2 else lkL t p.1) = _
    rcases List.mem_cons.mp hp with rfl | hp
    · rw [if_pos rfl]
    · have hn : ¬ q.1 = p.1 := fun e => nd'.1 (by rw [e]; exact List.mem_map.mpr ⟨p, hp, rfl⟩)
      rw [if_neg hn]
      exact lkL_mem nd'.2 hp
theorem lkL_some : ∀ {xs : List Pv} {x : Str} {v : Vl}, lkL xs x = some v → (x, v) ∈ xs
  | q :: t, x, v, h => by
    unfold lkL at h
    split at h
    · rename_i e
      cases h
      rw [← e]
      exact List.mem_cons_self
    · exact List.mem_cons_of_mem _ (lkL_some h)
theorem lkL_none : ∀ {xs : List Pv} {x : Str}, lkL xs x = none ↔ x ∉ xs.map (·.1)
  | [], x => by simp [lkL]
  | q :: t, x => by
    show (if q.1 = x then some q.2 else lkL t x) = none ↔ x ∉ q.1 :: t.map (·.1)
    by_cases e : q.1 = x
    · simp [e]
    · rw [if_neg e, lkL_none (xs := t)]
      simp [Ne.symm e]
theorem at_kvPv (x : Str) (xs : List Pv) : atD (xs.map kvPv) (.inr x) = (lkL xs x).map Vl.enc := by
  have := Vf.at_kvs x (Vf.ofL xs)
  rw [Vf.kvs_toL, Vf.toL_ofL, Vf.lk_toL, Vf.toL_ofL] at this
  exact this
theorem small_kv {xs : List Pv} (h : xs.length ≤ 100) : small ((xs.map kvPv).length + 1) = true := smallOf (by rw [List.length_map]; omega)
/-- a record of fields -/
def mk (xs : List Pv) : Vl := .rc (Vf.ofL xs)
theorem mk_enc (xs : List Pv) : (mk xs).enc = .tup (xs.map encPv) := by
  show D.tup (Vf.ofL xs).encs = _
  rw [Vf.encs_toL, Vf.toL_ofL]
theorem rc_mk (fs : Vf) : Vl.rc fs = mk fs.toL := by unfold mk; rw [Vf.ofL_toL]
theorem mk_ok {xs : List Pv} : (mk xs).ok ↔ (xs.map (·.1)).Nodup ∧ ∀ p ∈ xs, OkT8 p.1 ∧ p.2.ok := by
  have e : (mk xs).ok ↔ ((Vf.ofL xs).labs.Nodup ∧ (Vf.ofL xs).oks) := by simp [mk, Vl.ok]
  rw [e, Vf.labs_toL, Vf.oks_toL, Vf.toL_ofL]
theorem mk_dep {n : Nat} {xs : List Pv} : (mk xs).dep ≤ n + 1 ↔ ∀ p ∈ xs, p.2.dep ≤ n := by
  have := Vf.deps_toL (n := n) (Vf.ofL xs)
  rw [Vf.toL_ofL] at this
  rw [← this]
  show (Vf.ofL xs).deps + 1 ≤ n + 1 ↔ _
  omega
theorem mk_wid {n : Nat} {xs : List Pv} : (mk xs).wid ≤ n ↔ xs.length ≤ n ∧ ∀ p ∈ xs, p.2.wid ≤ n := by
  have := Vf.wids_toL (n := n) (Vf.ofL xs)
  have h2 := Vf.len_toL (Vf.ofL xs)
  rw [Vf.toL_ofL] at this h2
  rw [← this]
  show max (Vf.ofL xs).len (Vf.ofL xs).wids ≤ n ↔ _
  rw [Nat.max_le, h2]
theorem Vl.dep_pos (v : Vl) : 1 ≤ v.dep := by cases v <;> simp [Vl.dep]
mutual
theorem Vl.cl : ∀ v : Vl, v.ok → PD.cl v.enc = true ∧ dpD v.enc ≤ 2 * v.dep
  | .num i, _ => ⟨rfl, by show dpD (.int i) ≤ _; rw [dp_int]; exact Nat.zero_le _⟩
  | .rc fs, h => by
    obtain ⟨_, h2⟩ := (show fs.labs.Nodup ∧ fs.oks from by simpa [Vl.ok] using h)
    obtain ⟨a, b⟩ := Vf.cls fs h2
    refine ⟨a, ?_⟩
    show dpD (.tup fs.encs) ≤ 2 * (fs.deps + 1)
    rw [dp_tup]
    omega
theorem Vf.cls : ∀ fs : Vf, fs.oks → PD.cls fs.encs = true ∧ dpsD fs.encs ≤ 2 * fs.deps + 1
  | .nil, _ => ⟨rfl, by show dpsD [] ≤ _; rw [dps_nil]; exact Nat.zero_le _⟩
  | .cons l v t, h => by
    obtain ⟨h1, h2, h3⟩ := (show OkT8 l ∧ v.ok ∧ t.oks from by simpa [Vf.oks] using h)
    obtain ⟨a1, b1⟩ := Vl.cl v h2
    obtain ⟨a2, b2⟩ := Vf.cls t h3
    refine ⟨?_, ?_⟩
    · show ((PyData.strOk l && (PD.cl v.enc && true)) && PD.cls t.encs) = true
      rw [a1, a2, show PyData.strOk l = true from h1]; rfl
    · show dpsD (.tup [.str l, v.enc] :: t.encs) ≤ 2 * max v.dep t.deps + 1
      rw [dps_cons, dp_tup, dps_cons, dps_cons, dps_nil, dp_str]
      omega
end
end Qk

set_option Elab.async false
set_option linter.all false
set_option maxRecDepth 100000
set_option maxHeartbeats 4000000
/-! V1: is_number, has_labels, is_of, the law's own look. -/
namespace Pr
open PySem L2 PD Qk
-- WORDS number blank record
theorem is_number_eq (v : Vl) (s : Sto) : D_is_number [v.enc] s = some (.ok (.bl v.isNum) s) := by
  cases v with
  | num i => simp [D_is_number, g_is_number, fnD, seqS, setS, bindS, retS, retNS, exprS, ifS, asgS, setIxS, augS, augO, nextS, f1, f2, fN, bindM, liftO, retM, fVar, fC, fTup, fLst, fOwn, fCons, fNil, fB, fTru, fNot, fAnd, fOr, fAndV, fOrV, fIf, asB, truO, fCall, fM0, fM1, tdName, tdTup, tdCons, tdNil, Vl.enc, isiO, tyName, isiT, notO, close_bl, Vl.isNum]
  | rc fs => simp [D_is_number, g_is_number, fnD, seqS, setS, bindS, retS, retNS, exprS, ifS, asgS, setIxS, augS, augO, nextS, f1, f2, fN, bindM, liftO, retM, fVar, fC, fTup, fLst, fOwn, fCons, fNil, fB, fTru, fNot, fAnd, fOr, fAndV, fOrV, fIf, asB, truO, fCall, fM0, fM1, tdName, tdTup, tdCons, tdNil, Vl.enc, isiO, tyName, isiT, notO, close_bl, Vl.isNum]
/-- what is written first in a kind -/
def Ki.word : Ki → Str | .num => SS "number" | .bl _ => SS "blank" | .rc _ _ => SS "record"
theorem ki_ix0 (k : Ki) (s : Sto) : ixO s k.enc (.int 0) = some (.str (Ki.word k)) := by cases k <;> exact ixT0
theorem ki_word {f : Sl → M D} {sl : Sl} {s s1 : Sto} (k : Ki) (w : Str) (h : f sl s = some (.ok k.enc s1)) : (fB (f2 (eqO false) (f2 ixO f (fC (.int 0))) (fC (.str w)))) sl s = some (.ok (decide (Ki.word k = w)) s1) :=
  fB_ok (f2_ok (f2_ok h rfl (ki_ix0 k s1)) rfl (eqO_str _ _ _ _))
theorem len_e {neg : Bool} {s : Sto} {i j : Nat} : eqO neg s (.int i) (.int j) = some (.bl (ng neg (decide (i = j)))) := by
  rw [eqO_int]
  congr 3
  exact decide_eq_decide.mpr Int.ofNat_inj
theorem labels_loop (vf : Vf) (k : Nat) (fs0 : Fs) (r : Option Int) (s : Sto) (hk : s[k]? = some (.dic vf.kvs)) (a : Src) (ha : a.2 = none) : ∀ (fs : Fs) (x2 x3 : Option D),
    ∃ y2 y3, forL (tdTup (tdCons (tdName 2) (tdCons (tdName 3) tdNil))) (ifS (fB (f2 (dinO true) (fVar 2) (fVar 0))) (retS (fC (.bl false))) nextS) a fs.encs [some (.own k), some (Ki.rc fs0 r).enc, x2, x3] s =
      if hasL fs vf = true then some (.nx [some (.own k), some (Ki.rc fs0 r).enc, y2, y3] s) else some (.rt (.bl false) s)
  | .nil, x2, x3 => ⟨x2, x3, rfl⟩
  | .cons l κ t, x2, x3 => by
    have hck : ∀ s2, Ck a s2 := fun s2 => by unfold Ck; rw [ha]; trivial
    obtain ⟨y2, y3, e⟩ := labels_loop vf k fs0 r s hk a ha t (some (.str l)) (some κ.enc)
    have hT : tdTup (tdCons (tdName 2) (tdCons (tdName 3) tdNil)) (.tup [.str l, κ.enc]) [some (.own k), some (Ki.rc fs0 r).enc, x2, x3] = some [some (.own k), some (Ki.rc fs0 r).enc, some (.str l), some κ.enc] := rfl
    have ht : (fB (f2 (dinO true) (fVar 2) (fVar 0))) [some (.own k), some (Ki.rc fs0 r).enc, some (.str l), some κ.enc] s = some (.ok (!(vf.lk l).isSome) s) := by
      refine fB_ok (f2_ok (x := .str l) (y := .own k) rfl rfl ?_)
      unfold dinO
      have : dcOf s (.own k) = some vf.kvs := by unfold dcOf; simp only [hk]
      rw [this]
      show some (D.bl (ng true (atD vf.kvs (.inr l)).isSome)) = _
      rw [Vf.at_kvs, Option.isSome_map]
      rfl
    refine ⟨y2, y3, ?_⟩
    show forL _ _ a (.tup [.str l, κ.enc] :: t.encs) _ s = _
    unfold hasL
    cases hl : vf.lk l with
    | none =>
      rw [hl] at ht
      simp only [Option.isSome_none, Bool.false_and, Bool.false_eq_true, if_false]
      exact forL_rt hT (if_ret ht rfl)
    | some v =>
      rw [hl] at ht
      simp only [Option.isSome_some, Bool.true_and]
      exact (forL_cons hT ((ifS_f ht).trans rfl) (hck _)).trans e
theorem has_labels_eq (vf : Vf) (k : Nat) (fs : Fs) (r : Option Int) (s : Sto) (hk : s[k]? = some (.dic vf.kvs)) : D_has_labels [.own k, (Ki.rc fs r).enc] s = some (.ok (.bl (hasL fs vf && (r.isSome || decide (vf.len = fs.len)))) s) := by
  obtain ⟨y2, y3, e⟩ := labels_loop vf k fs r s hk (fs.encs, none) rfl fs none none
  have hit : (fIt (f2 ixO (fVar 1) (fC (.int 1)))) [some (.own k), some (Ki.rc fs r).enc, none, none] s = some (.ok (fs.encs, none) s) := it_ok (x := .tup fs.encs) (f2_ok (x := (Ki.rc fs r).enc) (y := .int 1) rfl rfl ixT1) rfl
  have hfor := (forS_of hit (ck_none _ _)).trans e
  unfold D_has_labels
  cases hh : hasL fs vf with
  | false =>
    rw [hh] at hfor
    exact fnD_rt (d := .bl false) (s' := s) (seqS_rt hfor) (close_bl s _)
  | true =>
    rw [hh] at hfor
    refine fnD_rt (d := .bl _) (s' := s) (sq_nx hfor (retS_ok ?_)) (close_bl s _)
    rw [Bool.true_and]
    have hn : (f2 (isNO true) (f2 ixO (fVar 1) (fC (.int 2))) (fC .non)) [some (.own k), some (Ki.rc fs r).enc, y2, y3] s = some (.ok (.bl r.isSome) s) := f2_ok (x := encR r) (y := .non) (f2_ok (x := (Ki.rc fs r).enc) (y := .int 2) rfl rfl ixT2) rfl (by cases r <;> rfl)
    cases r with
    | some i => exact orV_t hn
    | none =>
      refine orV_f hn (f2_ok (x := .int vf.len) (y := .int fs.len) (s1 := s) (fN_ok (one_ok rfl) ?_) (fN_ok (one_ok (f2_ok (x := (Ki.rc fs none).enc) (y := .int 1) rfl rfl ixT1)) ?_) len_e)
      · have : dcOf s (.own k) = some vf.kvs := by unfold dcOf; simp only [hk]
        unfold lenXO
        simp only [this, Vf.len_kvs]
      · show some (D.int fs.encs.length) = _
        rw [Fs.len_encs]
end Pr

set_option Elab.async false
set_option linter.all false
set_option maxRecDepth 100000
set_option maxHeartbeats 4000000
/-! V2: is_of. -/
namespace Pr
open PySem L2 PD Qk
-- WORDS number blank record
noncomputable abbrev ofBody : SD := (seqS (asgS (tdTup (tdCons (tdName 3) (tdCons (tdName 4) tdNil))) (fM0 popM (fVar 2)))
    (seqS (ifS (fAnd (fB (f2 (eqO false) (f2 ixO (fVar 4) (fC (.int 0))) (fC (.str (PySem.Str.ofString "number"))))) (fNot (fTru (fCall 1 D_is_number (fCons (fVar 3) fNil))))) (retS (fC (.bl false))) nextS)
    (ifS (fB (f2 (eqO false) (f2 ixO (fVar 4) (fC (.int 0))) (fC (.str (PySem.Str.ofString "record"))))) (seqS (ifS (fOr (fTru (fCall 1 D_is_number (fCons (fVar 3) fNil))) (fNot (fTru (fCall 2 D_has_labels (fCons (fNM dictO (fCons (fVar 3) fNil)) (fCons (fVar 4) fNil)))))) (retS (fC (.bl false))) nextS)
    (seqS (setS 5 (fNM dictO (fCons (fVar 3) fNil)))
    (exprS (fM1 extendM (fVar 2) (fCons (fLc (tdTup (tdCons (tdName 6) (tdCons (tdName 7) tdNil))) fYes (fTup (fCons (f2 dgetO (fVar 5) (fVar 6)) (fCons (fVar 7) fNil))) (fIt (f2 ixO (fVar 4) (fC (.int 1)))) [6, 7]) fNil))))) nextS)))
def encVK (p : Vl × Ki) : D := .tup [p.1.enc, p.2.enc]
def knP : List (Vl × Ki) → Nat | [] => 0 | p :: t => p.2.kn + knP t
theorem knP_append : ∀ xs ys : List (Vl × Ki), knP (xs ++ ys) = knP xs + knP ys
  | [], ys => by simp [knP]
  | x :: xs, ys => by
    have := knP_append xs ys
    simp only [List.cons_append, knP]
    omega
theorem knP_len : ∀ xs : List (Vl × Ki), xs.length ≤ knP xs
  | [] => Nat.le_refl _
  | x :: xs => by
    have := knP_len xs
    have := x.2.kn_pos
    simp only [knP, List.length_cons]
    omega
theorem knP_pairs (vf : Vf) : ∀ fs : Fs, knP (pairsOf fs vf) ≤ fs.kns
  | .nil => Nat.le_refl _
  | .cons l k t => by
    have := knP_pairs vf t
    show knP ((match vf.lk l with | some v => [(v, k)] | none => []) ++ pairsOf t vf) ≤ k.kn + t.kns
    rw [knP_append]
    cases vf.lk l with
    | none => simp only [knP]; omega
    | some v => simp only [knP]; omega
theorem fs_len_kns : ∀ fs : Fs, fs.len ≤ fs.kns
  | .nil => Nat.le_refl _
  | .cons _ k t => by
    have := fs_len_kns t
    have := k.kn_pos
    simp only [Fs.len, Fs.kns]
    omega
def prY (vf : Vf) (p : D) : D := match p with | .tup [.str l, b] => .tup [((vf.lk l).map Vl.enc).getD .non, b] | _ => .non
theorem prY_all (vf : Vf) : ∀ fs : Fs, hasL fs vf = true → fs.encs.map (prY vf) = (pairsOf fs vf).map encVK
  | .nil, _ => rfl
  | .cons l k t, h => by
    obtain ⟨h1, h2⟩ := Bool.and_eq_true_iff.mp (show ((vf.lk l).isSome && hasL t vf) = true from h)
    have ih := prY_all vf t h2
    show prY vf (.tup [.str l, k.enc]) :: t.encs.map (prY vf) = _
    rw [ih]
    show _ = (((match vf.lk l with | some v => [(v, k)] | none => []) ++ pairsOf t vf)).map encVK
    cases hl : vf.lk l with
    | none => rw [hl] at h1; cases h1
    | some v => simp [prY, hl, encVK]
theorem pairs_lc (vf : Vf) (fs : Fs) (r : Option Int) (k : Nat) (s : Sto) (hk : s[k]? = some (.dic vf.kvs)) (hh : hasL fs vf = true) (hn : fs.len ≤ 16777216) (x0 x1 x2 x3 x6 x7 : Option D) :
    (fLc (tdTup (tdCons (tdName 6) (tdCons (tdName 7) tdNil))) fYes (fTup (fCons (f2 dgetO (fVar 5) (fVar 6)) (fCons (fVar 7) fNil))) (fIt (f2 ixO (fVar 4) (fC (.int 1)))) [6, 7]) [x0, x1, x2, x3, some (Ki.rc fs r).enc, some (.own k), x6, x7] s = some (.ok (.lst ((pairsOf fs vf).map encVK)) s) := by
  rw [← prY_all vf fs hh]
  have hlab : ∀ (fs : Fs), hasL fs vf = true → ∀ p ∈ fs.encs, ∃ l v κ, p = .tup [.str l, κ] ∧ vf.lk l = some v := by
    intro fs
    induction fs using Fs.rec (motive_1 := fun _ => True) with
    | num => trivial
    | bl i => trivial
    | rc fs r _ => trivial
    | nil => intro _ p hp; cases hp
    | cons l κ t _ ih =>
      intro h p hp
      obtain ⟨h1, h2⟩ := Bool.and_eq_true_iff.mp (show ((vf.lk l).isSome && hasL t vf) = true from h)
      rcases List.mem_cons.mp hp with rfl | hp
      · obtain ⟨v, hv⟩ := Option.isSome_iff_exists.mp h1
        exact ⟨l, v, κ.enc, rfl, hv⟩
      · exact ih h2 p hp
  refine fLc_pure (xs := fs.encs) (it_ok (x := .tup fs.encs) (f2_ok (x := (Ki.rc fs r).enc) (y := .int 1) rfl rfl ixT1) rfl) (lcL_map (prY vf) (ck_none _ _) fs.encs fun p hp => ?_) (by rw [List.length_map, Fs.len_encs]; exact hn)
  obtain ⟨l, v, κ, rfl, hv⟩ := hlab fs hh p hp
  refine ⟨_, rfl, rfl, ?_⟩
  have hd : dcOf s (.own k) = some vf.kvs := by unfold dcOf; simp only [hk]
  have hg : (f2 dgetO (fVar 5) (fVar 6)) [x0, x1, x2, x3, some (Ki.rc fs r).enc, some (.own k), some (.str l), some κ] s = some (.ok v.enc s) := by
    refine f2_ok (x := .own k) (y := .str l) rfl rfl ?_
    unfold dgetO
    rw [hd]
    show atD vf.kvs (.inr l) = _
    rw [Vf.at_kvs, hv]
    rfl
  refine (tup_ok (two_ok hg (y := κ) (s2 := s) rfl) small2).trans ?_
  unfold prY
  simp only [hv]
  rfl
theorem of_loop (s : Sto) (d0 d1 : D) : ∀ (N : Nat) (X : List (Vl × Ki)) (J : Sto) (x3 x4 x5 x6 x7 : Option D), knP X ≤ N → knP X ≤ 100000 → (∀ p ∈ X, p.1.ok) →
    ∃ y3 y4 y5 y6 y7 J', whileS (fTru (fVar 2)) ofBody [some d0, some d1, some (.own s.length), x3, x4, x5, x6, x7] (s ++ .lst (X.map encVK) :: J) =
      if allOf X = true then some (.nx [some d0, some d1, some (.own s.length), y3, y4, y5, y6, y7] (s ++ J')) else some (.rt (.bl false) (s ++ J')) := by
  intro N
  induction N with
  | zero =>
    intro X J x3 x4 x5 x6 x7 hN _ _
    have hX : X = [] := by
      have := knP_len X
      cases X with
      | nil => rfl
      | cons _ _ => simp at this; omega
    subst hX
    exact ⟨x3, x4, x5, x6, x7, _, wh_stop (tru_own (xs := []) rfl (app_at _ _ _))⟩
  | succ N ih =>
    intro X J x3 x4 x5 x6 x7 hN hs hok
    rcases List.eq_nil_or_concat X with rfl | ⟨Y, p, rfl⟩
    · exact ⟨x3, x4, x5, x6, x7, _, wh_stop (tru_own (xs := []) rfl (app_at _ _ _))⟩
    · rw [List.concat_eq_append] at *
      obtain ⟨v, k⟩ := p
      have hv : v.ok := hok (v, k) (by simp)
      have hkn : knP (Y ++ [(v, k)]) = knP Y + k.kn := by rw [knP_append]; simp [knP]
      have hlY := knP_len Y
      have hall : allOf (Y ++ [(v, k)]) = (allOf Y && ofB k v) := by
        rw [allOf_append]
        show (allOf Y && (ofB k v && true)) = _
        rw [Bool.and_true]
      have hu : fTru (fVar 2) [some d0, some d1, some (.own s.length), x3, x4, x5, x6, x7] (s ++ .lst ((Y ++ [(v, k)]).map encVK) :: J) = some (.ok true (s ++ .lst ((Y ++ [(v, k)]).map encVK) :: J)) := by
        refine (tru_own (xs := (Y ++ [(v, k)]).map encVK) rfl (app_at _ _ _)).trans ?_
        simp
      let t : Sto := s ++ .lst (Y.map encVK) :: J
      let sl2 : Sl := [some d0, some d1, some (.own s.length), some v.enc, some k.enc, x5, x6, x7]
      have s1 : asgS (tdTup (tdCons (tdName 3) (tdCons (tdName 4) tdNil))) (fM0 popM (fVar 2)) [some d0, some d1, some (.own s.length), x3, x4, x5, x6, x7] (s ++ .lst ((Y ++ [(v, k)]).map encVK) :: J) = some (.nx sl2 t) := by
        refine asg_ok (d := encVK (v, k)) ((pop_own (k := s.length) (xs := Y.map encVK) (y := encVK (v, k)) rfl (by rw [app_at]; simp)).trans ?_) rfl
        rw [app_set]
      have hw := fun w => ki_word (f := fVar 4) (sl := sl2) (s := t) (s1 := t) k w rfl
      have hnum : fTru (fCall 1 D_is_number (fCons (fVar 3) fNil)) sl2 t = some (.ok v.isNum t) := tru_bl (call_ok (ds := [v.enc]) (one_ok rfl) (is_number_eq v t))
      have out : ∀ J', ofB k v = false → ofBody [some d0, some d1, some (.own s.length), x3, x4, x5, x6, x7] (s ++ .lst ((Y ++ [(v, k)]).map encVK) :: J) = some (.rt (.bl false) (s ++ J')) →
          ∃ y3 y4 y5 y6 y7 J', whileS (fTru (fVar 2)) ofBody [some d0, some d1, some (.own s.length), x3, x4, x5, x6, x7] (s ++ .lst ((Y ++ [(v, k)]).map encVK) :: J) =
            if allOf (Y ++ [(v, k)]) = true then some (.nx [some d0, some d1, some (.own s.length), y3, y4, y5, y6, y7] (s ++ J')) else some (.rt (.bl false) (s ++ J')) := fun J' hb e => by
        refine ⟨none, none, none, none, none, J', ?_⟩
        rw [hall, hb, Bool.and_false]
        exact wh_rt hu e
      have goon : ∀ (Z : List (Vl × Ki)) (J1 : Sto) (z5 z6 z7 : Option D), knP Z ≤ k.kn - 1 → (∀ p ∈ Z, p.1.ok) → ofB k v = allOf Z → ofBody [some d0, some d1, some (.own s.length), x3, x4, x5, x6, x7] (s ++ .lst ((Y ++ [(v, k)]).map encVK) :: J) = some (.nx [some d0, some d1, some (.own s.length), some v.enc, some k.enc, z5, z6, z7] (s ++ .lst ((Y ++ Z).map encVK) :: J1)) →
          ∃ y3 y4 y5 y6 y7 J', whileS (fTru (fVar 2)) ofBody [some d0, some d1, some (.own s.length), x3, x4, x5, x6, x7] (s ++ .lst ((Y ++ [(v, k)]).map encVK) :: J) =
            if allOf (Y ++ [(v, k)]) = true then some (.nx [some d0, some d1, some (.own s.length), y3, y4, y5, y6, y7] (s ++ J')) else some (.rt (.bl false) (s ++ J')) := fun Z J1 z5 z6 z7 hZ hZo hb e => by
        have hkp := k.kn_pos
        obtain ⟨y3, y4, y5, y6, y7, J', e2⟩ := ih (Y ++ Z) J1 (some v.enc) (some k.enc) z5 z6 z7 (by rw [knP_append]; omega) (by rw [knP_append]; omega) (fun p hp => by
          rcases List.mem_append.mp hp with hp | hp
          · exact hok p (by simp [hp])
          · exact hZo p hp)
        refine ⟨y3, y4, y5, y6, y7, J', ?_⟩
        rw [hall, hb, ← allOf_append]
        split
        · rename_i c
          rw [if_pos c] at e2
          exact wh_nx hu e e2
        · rename_i c
          rw [if_neg c] at e2
          exact wh_nx hu e e2
      cases k with
      | num =>
        have w1 := hw (SS "number")
        rw [show decide (Ki.word Ki.num = SS "number") = true from decide_eq_true rfl] at w1
        have w2 := hw (SS "record")
        rw [show decide (Ki.word Ki.num = SS "record") = false from decide_eq_false (by show ¬ SS "number" = SS "record"; simp only [ne_number_blank, ne_number_record, ne_blank_number, ne_blank_record, ne_record_number, ne_record_blank]; exact id)] at w2
        cases hn : v.isNum with
        | false =>
          rw [hn] at hnum
          exact out _ (by show v.isNum = false; exact hn) (sq_nx s1 (sq_ifret (and_t w1 (not_ok hnum)) rfl))
        | true =>
          rw [hn] at hnum
          refine goon [] J x5 x6 x7 (by simp [knP]) (fun p hp => by cases hp) (by show v.isNum = true; exact hn) ?_
          rw [List.append_nil]
          exact sq_nx s1 (sq_skip (and_t w1 (not_ok hnum)) ((ifS_f w2).trans rfl))
      | bl i =>
        have w1 := hw (SS "number")
        rw [show decide (Ki.word (Ki.bl i) = SS "number") = false from decide_eq_false (by show ¬ SS "blank" = SS "number"; simp only [ne_number_blank, ne_number_record, ne_blank_number, ne_blank_record, ne_record_number, ne_record_blank]; exact id)] at w1
        have w2 := hw (SS "record")
        rw [show decide (Ki.word (Ki.bl i) = SS "record") = false from decide_eq_false (by show ¬ SS "blank" = SS "record"; simp only [ne_number_blank, ne_number_record, ne_blank_number, ne_blank_record, ne_record_number, ne_record_blank]; exact id)] at w2
        refine goon [] J x5 x6 x7 (by simp [knP]) (fun p hp => by cases hp) rfl ?_
        rw [List.append_nil]
        exact sq_nx s1 (sq_skip (and_f w1) ((ifS_f w2).trans rfl))
      | rc fs r =>
        have w1 := hw (SS "number")
        rw [show decide (Ki.word (Ki.rc fs r) = SS "number") = false from decide_eq_false (by show ¬ SS "record" = SS "number"; simp only [ne_number_blank, ne_number_record, ne_blank_number, ne_blank_record, ne_record_number, ne_record_blank]; exact id)] at w1
        have w2 := hw (SS "record")
        rw [show decide (Ki.word (Ki.rc fs r) = SS "record") = true from decide_eq_true rfl] at w2
        cases v with
        | num i => exact out _ rfl (sq_nx s1 (sq_skip (and_f w1) (ifT w2 (sq_ifret (or_t hnum) rfl))))
        | rc vf =>
          obtain ⟨hnd, hvo⟩ := (show vf.labs.Nodup ∧ vf.oks from by simpa [Vl.ok] using hv)
          have hv3 : fVar 3 sl2 t = some (.ok (.tup vf.encs) t) := rfl
          have hd1 := dict_v hv3 hnd
          let t1 : Sto := t ++ [.dic vf.kvs]
          have hhl := has_labels_eq vf t.length fs r t1 (app_at _ _ _)
          have hch : fNot (fTru (fCall 2 D_has_labels (fCons (fNM dictO (fCons (fVar 3) fNil)) (fCons (fVar 4) fNil)))) sl2 t = some (.ok (!(hasL fs vf && (r.isSome || decide (vf.len = fs.len)))) t1) :=
            not_ok (tru_bl (call_ok (ds := [.own t.length, (Ki.rc fs r).enc]) (two_ok hd1 rfl) hhl))
          have et1 : t1 = s ++ .lst (Y.map encVK) :: (J ++ [.dic vf.kvs]) := by simp [t1, t]
          have hof : ofB (.rc fs r) (.rc vf) = (ofsB fs vf && (r.isSome || decide (vf.len = fs.len))) := rfl
          cases hb : (hasL fs vf && (r.isSome || decide (vf.len = fs.len))) with
          | false =>
            rw [hb] at hch
            refine out (.lst (Y.map encVK) :: (J ++ [.dic vf.kvs])) ?_ ?_
            · rw [hof, ofs_pairs]
              cases h1 : hasL fs vf with
              | false => rfl
              | true =>
                rw [h1, Bool.true_and] at hb
                rw [hb, Bool.and_false]
            · rw [← et1]
              exact sq_nx s1 (sq_skip (and_f w1) (ifT w2 (sq_ifret (or_f hnum hch) rfl)))
          | true =>
            rw [hb] at hch
            obtain ⟨h1, h2⟩ := Bool.and_eq_true_iff.mp hb
            have hv3' : fVar 3 sl2 t1 = some (.ok (.tup vf.encs) t1) := rfl
            have hd2 := dict_v hv3' hnd
            let t2 : Sto := t1 ++ [.dic vf.kvs]
            let sl3 : Sl := [some d0, some d1, some (.own s.length), some (Vl.rc vf).enc, some (Ki.rc fs r).enc, some (.own t1.length), x6, x7]
            have s5 : setS 5 (fNM dictO (fCons (fVar 3) fNil)) sl2 t1 = some (.nx sl3 t2) := setS_ok hd2
            have hfl := fs_len_kns fs
            have hlc := pairs_lc vf fs r t1.length t2 (app_at _ _ _) h1 (by simp only [Ki.kn] at hkn; omega) (some d0) (some d1) (some (.own s.length)) (some (Vl.rc vf).enc) x6 x7
            have et2 : t2 = s ++ .lst (Y.map encVK) :: (J ++ [.dic vf.kvs, .dic vf.kvs]) := by simp [t2, t1, t]
            have hpl := knP_pairs vf fs
            have hpl2 := knP_len (pairsOf fs vf)
            have hext : exprS (fM1 extendM (fVar 2) (fCons (fLc (tdTup (tdCons (tdName 6) (tdCons (tdName 7) tdNil))) fYes (fTup (fCons (f2 dgetO (fVar 5) (fVar 6)) (fCons (fVar 7) fNil))) (fIt (f2 ixO (fVar 4) (fC (.int 1)))) [6, 7]) fNil)) sl3 t2 = some (.nx sl3 (s ++ .lst ((Y ++ pairsOf fs vf).map encVK) :: (J ++ [.dic vf.kvs, .dic vf.kvs]))) := by
              refine exprS_ok (d := .non) ((ext_own (k := s.length) (xs := Y.map encVK) (ys := (pairsOf fs vf).map encVK) rfl ⟨Y.map encVK, by rw [et2]; exact app_at _ _ _⟩ hlc rfl (by rw [et2]; exact app_at _ _ _) ?_).trans ?_)
              · simp only [List.length_map]
                simp only [Ki.kn] at hkn
                omega
              · rw [et2, app_set, List.map_append]
            refine goon (pairsOf fs vf) (J ++ [.dic vf.kvs, .dic vf.kvs]) (some (.own t1.length)) x6 x7 (by simp only [Ki.kn]; omega) ?_ ?_ ?_
            · intro p hp
              have go : ∀ fs : Fs, ∀ p ∈ pairsOf fs vf, p.1.ok := by
                intro fs
                induction fs using Fs.rec (motive_1 := fun _ => True) with
                | num => trivial
                | bl i => trivial
                | rc fs r _ => trivial
                | nil => intro p hp; cases hp
                | cons l κ t _ ih =>
                  intro p hp
                  rcases List.mem_append.mp (show p ∈ (match vf.lk l with | some v => [(v, κ)] | none => []) ++ pairsOf t vf from hp) with hp | hp
                  · cases hl : vf.lk l with
                    | none => rw [hl] at hp; cases hp
                    | some w =>
                      rw [hl] at hp
                      rw [List.mem_singleton.mp hp]
                      exact Vf.lk_ok hvo hl
                  · exact ih p hp
              exact go fs p hp
            · rw [hof, ofs_pairs, h1, h2, Bool.true_and, Bool.and_true]
            · exact sq_nx s1 (sq_skip (and_f w1) (ifT w2 (sq_skip (or_f hnum hch) (sq_nx s5 hext))))
theorem is_of_eq (v : Vl) (k : Ki) (s : Sto) (hv : v.ok) (hk : k.kn ≤ 100000) : D_is_of [v.enc, k.enc] s = some (.ok (.bl (ofB k v)) s) := by
  obtain ⟨y3, y4, y5, y6, y7, J', e⟩ := of_loop s v.enc k.enc k.kn [(v, k)] [] none none none none none (by simp [knP]) (by simp [knP]; exact hk) (fun p hp => by rw [List.mem_singleton.mp hp]; exact hv)
  have ha : allOf [(v, k)] = ofB k v := by show (ofB k v && true) = _; rw [Bool.and_true]
  rw [ha] at e
  have s2 : setS 2 (fOwn (fCons (fTup (fCons (fVar 0) (fCons (fVar 1) fNil))) fNil)) [some v.enc, some k.enc, none, none, none, none, none, none] s = some (.nx [some v.enc, some k.enc, some (.own s.length), none, none, none, none, none] (s ++ [.lst ([(v, k)].map encVK)])) :=
    setS_ok (own_ok (one_ok (tup_ok (two_ok (x := v.enc) (y := k.enc) (s1 := s) rfl rfl) small2)) small1)
  unfold D_is_of
  by_cases c : ofB k v = true
  · rw [if_pos c] at e
    rw [c]
    exact fnD_rt (d := .bl true) (s' := s ++ J') (sq_nx s2 (sq_nx e (retS_ok rfl))) (close_jbl s _ _)
  · rw [if_neg c] at e
    rw [Bool.eq_false_iff.mpr c]
    exact fnD_rt (d := .bl false) (s' := s ++ J') (sq_nx s2 (seqS_rt e)) (close_jbl s _ _)
end Pr

set_option Elab.async false
set_option linter.all false
set_option maxRecDepth 100000
set_option maxHeartbeats 4000000
/-! V3: the law's own look. -/
namespace Pr
open PySem L2 PD Qk
-- WORDS number blank record
def DueSpec (F : List D → M D) (n : Nat) : Prop := ∀ (k : Ki) (v : Vl) (s : Sto), k.dep ≤ n → v.ok → F [v.enc, k.enc] s = some (.ok (.bl (ofB k v)) s)
theorem isi_v {f : Sl → M D} {sl : Sl} {s s1 : Sto} {v : Vl} (h : f sl s = some (.ok v.enc s1)) : f1 (isiO "tuple") f sl s = some (.ok (.bl (!v.isNum)) s1) := f1_ok h (by cases v <;> rfl)
theorem due_loop {G : List D → M D} {n : Nat} (hG : DueSpec G n) (vf : Vf) (hvo : vf.oks) (k : Nat) (d1 : D) (s : Sto) (hk : s[k]? = some (.dic vf.kvs)) (a : Src) (ha : a.2 = none) : ∀ (fs : Fs) (x3 x4 : Option D), fs.deps ≤ n →
    ∃ y3 y4, forL (tdTup (tdCons (tdName 3) (tdCons (tdName 4) tdNil))) (ifS (fOr (fB (f2 (dinO true) (fVar 3) (fVar 2))) (fNot (fTru (fCall 2 G (fCons (f2 dgetO (fVar 2) (fVar 3)) (fCons (fVar 4) fNil)))))) (retS (fC (.bl false))) nextS) a fs.encs [some (.tup vf.encs), some d1, some (.own k), x3, x4] s =
      if ofsB fs vf = true then some (.nx [some (.tup vf.encs), some d1, some (.own k), y3, y4] s) else some (.rt (.bl false) s)
  | .nil, x3, x4, _ => ⟨x3, x4, rfl⟩
  | .cons l κ t, x3, x4, hd => by
    have hck : ∀ s2, Ck a s2 := fun s2 => by unfold Ck; rw [ha]; trivial
    have hd' : max κ.dep t.deps ≤ n := hd
    obtain ⟨y3, y4, e⟩ := due_loop hG vf hvo k d1 s hk a ha t (some (.str l)) (some κ.enc) (by omega)
    have hT : tdTup (tdCons (tdName 3) (tdCons (tdName 4) tdNil)) (.tup [.str l, κ.enc]) [some (.tup vf.encs), some d1, some (.own k), x3, x4] = some [some (.tup vf.encs), some d1, some (.own k), some (.str l), some κ.enc] := rfl
    have hdc : dcOf s (.own k) = some vf.kvs := by unfold dcOf; simp only [hk]
    have ht : (fB (f2 (dinO true) (fVar 3) (fVar 2))) [some (.tup vf.encs), some d1, some (.own k), some (.str l), some κ.enc] s = some (.ok (!(vf.lk l).isSome) s) := by
      refine fB_ok (f2_ok (x := .str l) (y := .own k) rfl rfl ?_)
      unfold dinO
      rw [hdc]
      show some (D.bl (ng true (atD vf.kvs (.inr l)).isSome)) = _
      rw [Vf.at_kvs, Option.isSome_map]
      rfl
    refine ⟨y3, y4, ?_⟩
    show forL _ _ a (.tup [.str l, κ.enc] :: t.encs) _ s = _
    rw [show ofsB (.cons l κ t) vf = ((match vf.lk l with | some v => ofB κ v | none => false) && ofsB t vf) from rfl]
    cases hl : vf.lk l with
    | none =>
      rw [hl] at ht
      simp only [Bool.false_and, Bool.false_eq_true, if_false]
      exact forL_rt hT (if_ret (or_t ht) rfl)
    | some v =>
      rw [hl] at ht
      have hg : (f2 dgetO (fVar 2) (fVar 3)) [some (.tup vf.encs), some d1, some (.own k), some (.str l), some κ.enc] s = some (.ok v.enc s) := by
        refine f2_ok (x := .own k) (y := .str l) rfl rfl ?_
        unfold dgetO
        rw [hdc]
        show atD vf.kvs (.inr l) = _
        rw [Vf.at_kvs, hl]
        rfl
      have hc := not_ok (tru_bl (call_ok (n := 2) (two_ok hg (y := κ.enc) (g := fVar 4) (s2 := s) rfl) (hG κ v s (by omega) (Vf.lk_ok hvo hl))))
      simp only
      rcases Bool.eq_false_or_eq_true (ofB κ v) with hb | hb
      · rw [hb] at hc
        simp only [hb, Bool.true_and]
        exact (forL_cons hT ((ifS_f (or_f ht hc)).trans rfl) (hck _)).trans e
      · rw [hb] at hc
        simp only [hb, Bool.false_and, Bool.false_eq_true, if_false]
        exact forL_rt hT (if_ret (or_f ht hc) rfl)
theorem due_step {G : List D → M D} {n : Nat} (hG : DueSpec G n) : DueSpec (fnD false 5 (g_due G)) (n + 1) := by
  intro k v s hd hv
  let sl : Sl := [some v.enc, some k.enc, none, none, none]
  have hw := fun w => ki_word (f := fVar 1) (sl := sl) (s := s) (s1 := s) k w rfl
  have hi := isi_v (f := fVar 0) (sl := sl) (s := s) (s1 := s) (v := v) rfl
  have fin : ∀ b : Bool, (g_due G) sl s = some (.rt (.bl b) s) → fnD false 5 (g_due G) [v.enc, k.enc] s = some (.ok (.bl b) s) := fun b e => fnD_rt e (close_bl s b)
  cases k with
  | num =>
    have w1 := hw (SS "blank")
    rw [show decide (Ki.word Ki.num = SS "blank") = false from decide_eq_false (by show ¬ SS "number" = SS "blank"; simp only [ne_number_blank, ne_number_record, ne_blank_number, ne_blank_record, ne_record_number, ne_record_blank]; exact id)] at w1
    have w2 := hw (SS "number")
    rw [show decide (Ki.word Ki.num = SS "number") = true from decide_eq_true rfl] at w2
    refine fin _ (sq_skip w1 (sq_ifret w2 (f1_ok hi ?_)))
    show some (D.bl (!(!v.isNum))) = _
    rw [Bool.not_not]
    rfl
  | bl i =>
    have w1 := hw (SS "blank")
    rw [show decide (Ki.word (Ki.bl i) = SS "blank") = true from decide_eq_true rfl] at w1
    exact fin _ (sq_ifret w1 rfl)
  | rc fs r =>
    have w1 := hw (SS "blank")
    rw [show decide (Ki.word (Ki.rc fs r) = SS "blank") = false from decide_eq_false (by show ¬ SS "record" = SS "blank"; simp only [ne_number_blank, ne_number_record, ne_blank_number, ne_blank_record, ne_record_number, ne_record_blank]; exact id)] at w1
    have w2 := hw (SS "number")
    rw [show decide (Ki.word (Ki.rc fs r) = SS "number") = false from decide_eq_false (by show ¬ SS "record" = SS "number"; simp only [ne_number_blank, ne_number_record, ne_blank_number, ne_blank_record, ne_record_number, ne_record_blank]; exact id)] at w2
    cases v with
    | num i => exact fin _ (sq_skip w1 (sq_skip w2 (sq_ifret (not_ok (tru_bl hi)) rfl)))
    | rc vf =>
      obtain ⟨hnd, hvo⟩ := (show vf.labs.Nodup ∧ vf.oks from by simpa [Vl.ok] using hv)
      have hdd : fs.deps ≤ n := by simp only [Ki.dep] at hd; omega
      have hv0 : fVar 0 sl s = some (.ok (.tup vf.encs) s) := rfl
      have s2 : setS 2 (fNM dictO (fCons (fVar 0) fNil)) sl s = some (.nx [some (.tup vf.encs), some (Ki.rc fs r).enc, some (.own s.length), none, none] (s ++ [.dic vf.kvs])) := setS_ok (dict_v hv0 hnd)
      obtain ⟨y3, y4, e⟩ := due_loop hG vf hvo s.length (Ki.rc fs r).enc (s ++ [.dic vf.kvs]) (app_at _ _ _) (fs.encs, none) rfl fs none none hdd
      have hit : (fIt (f2 ixO (fVar 1) (fC (.int 1)))) [some (.tup vf.encs), some (Ki.rc fs r).enc, some (.own s.length), none, none] (s ++ [.dic vf.kvs]) = some (.ok (fs.encs, none) (s ++ [.dic vf.kvs])) := it_ok (x := .tup fs.encs) (f2_ok (x := (Ki.rc fs r).enc) (y := .int 1) rfl rfl ixT1) rfl
      have hfor := (forS_of hit (ck_none _ _)).trans e
      have finJ : ∀ b : Bool, (g_due G) sl s = some (.rt (.bl b) (s ++ [.dic vf.kvs])) → fnD false 5 (g_due G) [(Vl.rc vf).enc, (Ki.rc fs r).enc] s = some (.ok (.bl b) s) := fun b e => fnD_rt e (close_jbl s _ b)
      have hof : ofB (.rc fs r) (.rc vf) = (ofsB fs vf && (r.isSome || decide (vf.len = fs.len))) := rfl
      rw [hof]
      have hno : fNot (fTru (f1 (isiO "tuple") (fVar 0))) sl s = some (.ok false s) := not_ok (tru_bl hi)
      cases hb : ofsB fs vf with
      | false =>
        rw [hb] at hfor
        exact finJ _ (sq_skip w1 (sq_skip w2 (sq_skip hno (sq_nx s2 (seqS_rt hfor)))))
      | true =>
        rw [hb] at hfor
        refine finJ _ (sq_skip w1 (sq_skip w2 (sq_skip hno (sq_nx s2 (sq_nx hfor (retS_ok ?_))))))
        rw [Bool.true_and]
        have hn : (f2 (isNO true) (f2 ixO (fVar 1) (fC (.int 2))) (fC .non)) [some (.tup vf.encs), some (Ki.rc fs r).enc, some (.own s.length), y3, y4] (s ++ [.dic vf.kvs]) = some (.ok (.bl r.isSome) (s ++ [.dic vf.kvs])) := f2_ok (x := encR r) (y := .non) (f2_ok (x := (Ki.rc fs r).enc) (y := .int 2) rfl rfl ixT2) rfl (by cases r <;> rfl)
        cases r with
        | some i => exact orV_t hn
        | none =>
          refine orV_f hn (f2_ok (x := .int vf.len) (y := .int fs.len) (s1 := s ++ [.dic vf.kvs]) (fN_ok (one_ok rfl) ?_) (fN_ok (one_ok (f2_ok (x := (Ki.rc fs none).enc) (y := .int 1) rfl rfl ixT1)) ?_) len_e)
          · show some (D.int vf.encs.length) = _
            rw [Vf.len_encs]
          · show some (D.int fs.encs.length) = _
            rw [Fs.len_encs]
theorem due_all : ∀ n, DueSpec (R_due n) n
  | 0 => fun k v s hd _ => by cases k <;> simp [Ki.dep] at hd
  | n + 1 => due_step (due_all n)
theorem due_eq (k : Ki) (v : Vl) (s : Sto) (hd : k.dep ≤ 8) (hv : v.ok) : D_due [v.enc, k.enc] s = some (.ok (.bl (ofB k v)) s) := due_all 8 k v s hd hv
end Pr

set_option Elab.async false
set_option linter.all false
set_option maxRecDepth 100000
set_option maxHeartbeats 4000000
/-! V4: any value. -/
namespace Pr
open PySem L2 PD Qk
theorem fin_set (s junk : Sto) (k : Nat) (a b : Int) (v : Vl) : closeM false s v.enc (s.set k (stC a b) ++ junk) = some (.ok v.enc (s.set k (stC a b))) :=
  closeM_low (keep := false) (s := s) (t := s.set k (stC a b)) (junk := junk) (d := v.enc) (by simp) (keeps_set rfl) (low_mono (Nat.zero_le _) _ v.low) v.own
theorem fin_set0 (s : Sto) (k : Nat) (a b : Int) (v : Vl) : closeM false s v.enc (s.set k (stC a b)) = some (.ok v.enc (s.set k (stC a b))) := by
  have := fin_set s [] k a b v
  rwa [List.append_nil] at this
theorem next_call {sl : Sl} {s : Sto} {k : Nat} {a b : Int} (h0 : sl[0]? = some (some (.own k))) (hk : s[k]? = some (stC a b)) : ∃ (N a' b' : Int), 0 ≤ N ∧ fCall 1 D_next (fCons (fVar 0) fNil) sl s = some (.ok (.int N) (s.set k (stC a' b'))) :=
  ⟨_, _, _, next_nn a, call_ok (ds := [.own k]) (one_ok (v_ok h0)) (next_eq s k a b hk)⟩
theorem st_set {s : Sto} {k : Nat} (hk : k < s.length) (a b : Int) : (s.set k (stC a b))[k]? = some (stC a b) := List.getElem?_set_self hk
theorem any_labels (s : Sto) (k : Nat) (hk : k < s.length) (a0 : Src) (ha : a0.2 = none) (sl : Sl) (h0 : sl[0]? = some (some (.own k))) (h5 : 5 < sl.length) : ∀ (R : List Str) (a b : Int),
    ∃ (W : List Str) (a' b' : Int), W.Sublist R ∧ lcL (tdName 5) (fB (f2 (eqO false) (f2 modO (fCall 1 D_next (fCons (fVar 0) fNil)) (fC (.int 2))) (fC (.int 0)))) (fVar 5) a0 sl (R.map D.str) (s.set k (stC a b)) = some (.ok (W.map D.str) (s.set k (stC a' b')))
  | [], a, b => ⟨[], a, b, List.Sublist.refl _, rfl⟩
  | x :: R, a, b => by
    have hck : ∀ s2, Ck a0 s2 := fun s2 => by unfold Ck; rw [ha]; trivial
    obtain ⟨N, a1, b1, _, e⟩ := next_call (sl := sl.set 5 (some (.str x))) (s := s.set k (stC a b)) (k := k) (a := a) (b := b) (by rw [List.getElem?_set_ne (by decide)]; exact h0) (st_set hk a b)
    rw [List.set_set] at e
    obtain ⟨W, a', b', hs, e2⟩ := any_labels s k hk a0 ha sl h0 h5 R a1 b1
    have hu : (fB (f2 (eqO false) (f2 modO (fCall 1 D_next (fCons (fVar 0) fNil)) (fC (.int 2))) (fC (.int 0)))) (sl.set 5 (some (.str x))) (s.set k (stC a b)) = some (.ok (decide (N % 2 = 0)) (s.set k (stC a1 b1))) :=
      fB_ok (f2_ok (f2_ok e rfl (by simp [modO])) rfl (eqO_int _ _ _ _))
    have hv : fVar 5 (sl.set 5 (some (.str x))) (s.set k (stC a1 b1)) = some (.ok (.str x) (s.set k (stC a1 b1))) := v_ok (List.getElem?_set_self h5)
    by_cases c : N % 2 = 0
    · rw [decide_eq_true c] at hu
      refine ⟨x :: W, a', b', hs.cons₂ x, ?_⟩
      show lcL _ _ _ _ _ (D.str x :: R.map D.str) _ = _
      unfold lcL
      simp only [tdName, bindM, noex, hu, hv, ckM, if_pos (hck _), e2, retM, if_true]
      rfl
    · rw [decide_eq_false c] at hu
      refine ⟨W, a', b', hs.cons x, ?_⟩
      show lcL _ _ _ _ _ (D.str x :: R.map D.str) _ = _
      unfold lcL
      simp only [tdName, bindM, noex, hu, ckM, if_pos (hck _), e2, Bool.false_eq_true, if_false]
def AnySpec (F : List D → M D) (n : Nat) : Prop := ∀ (s : Sto) (k : Nat) (a b left : Int) (L : List Str), s[k]? = some (stC a b) → left ≤ n → LabsOk 4 L →
  ∃ (v : Vl) (a' b' : Int), v.ok ∧ (v.dep : Int) ≤ max left 1 ∧ v.wid ≤ 4 ∧ (left ≤ 1 → v.isNum = true) ∧ F [.own k, .lst (L.map D.str), .int left] s = some (.ok v.enc (s.set k (stC a' b')))
theorem any_fields {G : List D → M D} {n : Nat} (hG : AnySpec G n) (s : Sto) (k : Nat) (hk : k < s.length) (left : Int) (hl : left - 1 ≤ n) (L : List Str) (hL : LabsOk 4 L) (a0 : Src) (ha : a0.2 = none) (x3 x4 x5 : Option D) : ∀ (R : List Str) (a b : Int),
    ∃ (xs : List Pv) (a' b' : Int), xs.map (·.1) = R ∧ (∀ p ∈ xs, p.2.ok ∧ (p.2.dep : Int) ≤ max (left - 1) 1 ∧ p.2.wid ≤ 4) ∧
      lcL (tdName 5) fYes (fTup (fCons (fVar 5) (fCons (fCall 3 G (fCons (fVar 0) (fCons (fVar 1) (fCons (f2 subO (fVar 2) (fC (.int 1))) fNil)))) fNil))) a0 [some (.own k), some (.lst (L.map D.str)), some (.int left), x3, x4, x5] (R.map D.str) (s.set k (stC a b)) = some (.ok (xs.map encPv) (s.set k (stC a' b')))
  | [], a, b => ⟨[], a, b, rfl, fun _ h => (nomatch h), rfl⟩
  | x :: R, a, b => by
    have hck : ∀ s2, Ck a0 s2 := fun s2 => by unfold Ck; rw [ha]; trivial
    obtain ⟨v, a1, b1, h1, h2, h3, _, e⟩ := hG (s.set k (stC a b)) k a b (left - 1) L (st_set hk a b) hl hL
    rw [List.set_set] at e
    obtain ⟨xs, a', b', hx, hy, e2⟩ := any_fields hG s k hk left hl L hL a0 ha x3 x4 x5 R a1 b1
    refine ⟨(x, v) :: xs, a', b', by show x :: xs.map (·.1) = _; rw [hx], fun p hp => ?_, ?_⟩
    · rcases List.mem_cons.mp hp with rfl | hp
      · exact ⟨h1, h2, h3⟩
      · exact hy p hp
    · have hT : tdName 5 (.str x) [some (.own k), some (.lst (L.map D.str)), some (.int left), x3, x4, x5] = some [some (.own k), some (.lst (L.map D.str)), some (.int left), x3, x4, some (.str x)] := rfl
      have hf : (fTup (fCons (fVar 5) (fCons (fCall 3 G (fCons (fVar 0) (fCons (fVar 1) (fCons (f2 subO (fVar 2) (fC (.int 1))) fNil)))) fNil))) [some (.own k), some (.lst (L.map D.str)), some (.int left), x3, x4, some (.str x)] (s.set k (stC a b)) = some (.ok (encPv (x, v)) (s.set k (stC a1 b1))) :=
        tup_ok (two_ok (x := .str x) (s1 := s.set k (stC a b)) rfl (call_ok (ds := [.own k, .lst (L.map D.str), .int (left - 1)]) (s1 := s.set k (stC a b)) (cons_ok (x := .own k) rfl (two_ok (x := .lst (L.map D.str)) rfl (f2_ok (x := .int left) (y := .int 1) rfl rfl rfl))) e)) small2
      show lcL _ _ _ _ _ (D.str x :: R.map D.str) _ = _
      unfold lcL
      simp only [hT, bindM, noex, fYes, retM, if_true, hf, ckM, if_pos (hck _), e2]
      rfl
theorem lay_of {n : Nat} {x : Str} (h : OkS n x) : OkT8 x := (pl_str 0 h).lay
theorem sorted_labs (L : List Str) (hl : L.length < 64) (s : Sto) : sortedO s [.lst (L.map D.str)] = some (.lst ((sortS L).map D.str)) := by
  unfold sortedO
  simp only [lsOf, Option.bind_some, mapM_str]
  rw [if_pos hl]
theorem ixL0 (s : Sto) (x : D) (r : List D) : ixO s (.lst (x :: r)) (.int 0) = some x := show atI (x :: r) ((0 : Nat) : Int) = some x from atI_nat rfl
theorem ixL1 (s : Sto) (x y : D) (r : List D) : ixO s (.lst (x :: y :: r)) (.int 1) = some y := show atI (x :: y :: r) ((1 : Nat) : Int) = some y from atI_nat rfl
theorem any_num (N : Int) (sl : Sl) (s : Sto) (h3 : sl[3]? = some (some (.int N))) : ∃ i : Int, (f2 ixO (fLst (fCons (f2 modO (f2 fdivO (fVar 3) (fC (.int 2))) (fC (.int 5))) (fCons (f2 subO (f2 modO (f2 fdivO (fVar 3) (fC (.int 2))) (f2 mulO (fC (.int 2)) (f2 powO (fC (.int 10)) (fC (.int 12))))) (f2 powO (fC (.int 10)) (fC (.int 12)))) fNil))) (f2 modO (f2 fdivO (fVar 3) (fC (.int 20))) (fC (.int 2)))) sl s = some (.ok (.int i) s) := by
  have dv : ∀ q : Int, (0 < q ∧ q < 1073741824) → (f2 fdivO (fVar 3) (fC (.int q))) sl s = some (.ok (.int (N / q)) s) := fun q hq => f2_ok (v_ok h3) rfl (by
    show (if 0 < q ∧ q < 1073741824 then _ else _) = _
    rw [if_pos hq])
  have md : ∀ (f g : Sl → M D) (i j : Int), f sl s = some (.ok (.int i) s) → g sl s = some (.ok (.int j) s) → 0 < j → (f2 modO f g) sl s = some (.ok (.int (i % j)) s) := fun f g i j h1 h2 hj => f2_ok h1 h2 (by
    show (if 0 < j then _ else _) = _
    rw [if_pos hj])
  have pw : (f2 powO (fC (.int 10)) (fC (.int 12))) sl s = some (.ok (.int 1000000000000) s) := f2_ok (x := .int 10) (y := .int 12) (s1 := s) rfl rfl (by
    show (if 0 ≤ (12 : Int) ∧ (12 : Int) ≤ 64 ∧ (10 : Int).natAbs < 2 ^ 64 then some (D.int ((10 : Int) ^ (12 : Int).toNat)) else none) = _
    rw [if_pos (by decide)]
    rfl)
  have ml : (f2 mulO (fC (.int 2)) (f2 powO (fC (.int 10)) (fC (.int 12)))) sl s = some (.ok (.int 2000000000000) s) := f2_ok (x := .int 2) (s1 := s) rfl pw (by
    show (if mulOk 2 1000000000000 = true then some (D.int (2 * 1000000000000)) else none) = _
    rw [if_pos (mul_lt (by decide) (by decide))]
    rfl)
  have e1 := md _ _ _ _ (dv 2 (by decide)) (c_ok (d := .int 5)) (by decide)
  have e2 := f2_ok (o := subO) (md _ _ _ _ (dv 2 (by decide)) ml (by decide)) pw (z := .int _) rfl
  have e3 := md _ _ _ _ (dv 20 (by decide)) (c_ok (d := .int 2)) (by decide)
  have hl := lst_ok (two_ok e1 e2) small2
  have h0 : N / 20 % 2 = 0 ∨ N / 20 % 2 = 1 := by omega
  rcases h0 with h0 | h0
  · rw [h0] at e3
    exact ⟨_, f2_ok hl e3 (ixL0 s _ _)⟩
  · rw [h0] at e3
    exact ⟨_, f2_ok hl e3 (ixL1 s _ _ _)⟩
theorem any_step {G : List D → M D} {n : Nat} (hG : 1 ≤ n → AnySpec G n) : AnySpec (fnD false 6 (g_any G)) (n + 1) := by
  intro s k a b left L hk hl hL
  have hkl : k < s.length := (List.getElem?_eq_some_iff.mp hk).1
  obtain ⟨N, a1, b1, hN, e⟩ := next_call (sl := [some (.own k), some (.lst (L.map D.str)), some (.int left), none, none, none]) (s := s) (k := k) (a := a) (b := b) rfl hk
  let s1 : Sto := s.set k (stC a1 b1)
  let sl3 : Sl := [some (.own k), some (.lst (L.map D.str)), some (.int left), some (.int N), none, none]
  have t1 : (fB (f2 leO (fVar 2) (fC (.int 1)))) sl3 s1 = some (.ok (decide (left ≤ 1)) s1) := fB_ok (f2_ok (x := .int left) (y := .int 1) (s1 := s1) rfl rfl rfl)
  have t2 : (fB (f2 (eqO false) (f2 modO (fVar 3) (fC (.int 2))) (fC (.int 0)))) sl3 s1 = some (.ok (decide (N % 2 = 0)) s1) := fB_ok (f2_ok (f2_ok (x := .int N) (y := .int 2) (s1 := s1) rfl rfl (by simp [modO])) rfl (eqO_int _ _ _ _))
  have t12 := fOr_b t1 t2
  cases hc : (decide (left ≤ 1) || decide (N % 2 = 0)) with
  | true =>
    rw [hc] at t12
    obtain ⟨i, ei⟩ := any_num N sl3 s1 rfl
    refine ⟨.num i, a1, b1, trivial, by simp only [Vl.dep]; omega, Nat.zero_le _, fun _ => rfl, fnD_rt (d := .int i) (s' := s1) ?_ (fin_set0 s k a1 b1 (.num i))⟩
    exact sq_set e (sq_ifret t12 ei)
  | false =>
    rw [hc] at t12
    simp only [Bool.or_eq_false_iff, decide_eq_false_iff_not] at hc
    obtain ⟨c1, c2⟩ := hc
    have hit : (fIt (fN sortedO (fCons (fVar 1) fNil))) sl3 s1 = some (.ok ((sortS L).map D.str, none) s1) := it_ok (fN_ok (one_ok (x := .lst (L.map D.str)) (s1 := s1) rfl) (sorted_labs L (by rw [hL.len]; omega) s1)) rfl
    obtain ⟨W, a2, b2, hW, e2⟩ := any_labels s k hkl ((sortS L).map D.str, none) rfl (wipeS sl3 [5]) rfl (Nat.lt_of_lt_of_eq (by decide : 5 < 6) rfl) (sortS L) a1 b1
    have hWl : W.length ≤ 4 := by
      have := hW.length_le
      rwa [(sortS_perm L).length_eq, hL.len] at this
    have hWn : W.Nodup := hW.nodup ((sortS_perm L).nodup_iff.mpr hL.nd)
    have hWL : ∀ w ∈ W, w ∈ L := fun w hw => (sortS_perm L).mem_iff.mp (hW.subset hw)
    have h4 := fLc_of hit (ck_none _ _) e2 (by rw [List.length_map]; omega)
    let sl4 : Sl := [some (.own k), some (.lst (L.map D.str)), some (.int left), some (.int N), some (.lst (W.map D.str)), none]
    obtain ⟨xs, a3, b3, hx, hy, e3⟩ := any_fields (hG (by omega)) s k hkl left (by omega) L hL (W.map D.str, none) rfl (some (.int N)) (some (.lst (W.map D.str))) none W a2 b2
    have hxl : xs.length = W.length := by rw [← hx, List.length_map]
    have hit2 : (fIt (fVar 4)) sl4 (s.set k (stC a2 b2)) = some (.ok (W.map D.str, none) (s.set k (stC a2 b2))) := it_ok (x := .lst (W.map D.str)) rfl rfl
    have h5 := fLc_of (vs := [5]) hit2 (ck_none _ _) e3 (by rw [List.length_map]; omega)
    have h6 := fN_ok (o := tupleO) (one_ok h5) (z := .tup (xs.map encPv)) rfl
    refine ⟨mk xs, a3, b3, mk_ok.mpr ⟨by rw [hx]; exact hWn, fun p hp => ⟨?_, (hy p hp).1⟩⟩, ?_, mk_wid.mpr ⟨by omega, fun p hp => (hy p hp).2.2⟩, fun h => absurd h c1, fnD_rt (d := (mk xs).enc) (s' := s.set k (stC a3 b3)) ?_ (fin_set0 s k a3 b3 (mk xs))⟩
    · exact lay_of (hL.ok p.1 (hWL p.1 (by rw [← hx]; exact List.mem_map.mpr ⟨p, hp, rfl⟩)))
    · have : (mk xs).dep ≤ (left - 1).toNat + 1 := mk_dep.mpr fun p hp => by have := (hy p hp).2.1; omega
      omega
    · rw [mk_enc]
      exact sq_set e (sq_skip t12 (sq_set h4 (retS_ok h6)))
theorem any_all : ∀ n, AnySpec (R_any (n + 1)) (n + 1)
  | 0 => any_step (fun h => absurd h (by decide))
  | n + 1 => any_step (fun _ => any_all n)
theorem any_eq : AnySpec D_any 5 := any_all 4
end Pr

set_option Elab.async false
set_option linter.all false
set_option maxRecDepth 100000
set_option maxHeartbeats 4000000
/-! V5: a value of a kind. -/
namespace Qk
open PySem L2 PD
theorem Fs.len_labs : ∀ fs : Fs, fs.labs.length = fs.len
  | .nil => rfl
  | .cons _ _ t => congrArg (· + 1) (Fs.len_labs t)
/-- fields and values, one by one -/
def Mt : Fs → List Pv → Prop
  | .nil, [] => True
  | .cons l k t, p :: xs => p.1 = l ∧ ofB k p.2 = true ∧ Mt t xs
  | _, _ => False
theorem ofs_mt (vf : Vf) : ∀ (F : Fs) (xs : List Pv), Mt F xs → (∀ p ∈ xs, vf.lk p.1 = some p.2) → ofsB F vf = true
  | .nil, _, _, _ => rfl
  | .cons l k t, [], h, _ => h.elim
  | .cons l k t, p :: xs, h, hp => by
    obtain ⟨h1, h2, h3⟩ := h
    have e := hp p List.mem_cons_self
    have ih := ofs_mt vf t xs h3 fun q hq => hp q (List.mem_cons_of_mem _ hq)
    show ((match vf.lk l with | some v => ofB k v | none => false) && ofsB t vf) = true
    rw [← h1, e, ih]
    simp [h2]
end Qk
namespace Pr
open PySem L2 PD Qk
-- WORDS number blank record
theorem lt_trans' {a b c : Str} (h1 : leS b a = false) (h2 : leS c b = false) : leS c a = false := by
  cases h : leS c a with
  | false => rfl
  | true =>
    have hab : leS a b = true := by
      have := leS_total a b
      rw [h1, Bool.or_false] at this
      exact this
    rw [leS_trans _ _ _ h hab] at h2
    cases h2
theorem rise_pw : ∀ (ys L : List Str), riseF ys L = true → Rising L → Rising (L ++ ys) ∧ ∀ y ∈ ys, wdB y = true
  | [], L, _, h => by rw [List.append_nil]; exact ⟨h, fun _ z => (nomatch z)⟩
  | y :: ys, L, h, hL => by
    obtain ⟨h1, h3⟩ := Bool.and_eq_true_iff.mp (show ((wdB y && lastLt L y) && riseF ys (L ++ [y])) = true from h)
    obtain ⟨h1, h2⟩ := Bool.and_eq_true_iff.mp h1
    have hy : ∀ z ∈ L, leS y z = false := by
      intro z hz
      rcases List.eq_nil_or_concat L with rfl | ⟨L', w, rfl⟩
      · cases hz
      · rw [List.concat_eq_append] at *
        have hw : leS y w = false := by
          have : (!leS y w) = true := by simpa [lastLt] using h2
          simpa using this
        rcases List.mem_append.mp hz with hz | hz
        · exact lt_trans' ((List.pairwise_append.mp hL).2.2 z hz w (by simp)) hw
        · rw [List.mem_singleton.mp hz]; exact hw
    have hL' : Rising (L ++ [y]) := List.pairwise_append.mpr ⟨hL, List.pairwise_singleton _ _, fun z hz w hw => by rw [List.mem_singleton.mp hw]; exact hy z hz⟩
    obtain ⟨i1, i2⟩ := rise_pw ys (L ++ [y]) h3 hL'
    refine ⟨by simpa using i1, fun z hz => ?_⟩
    rcases List.mem_cons.mp hz with rfl | hz
    · exact h1
    · exact i2 z hz
theorem Rising.nodup {L : List Str} (h : Rising L) : L.Nodup := h.imp fun {a b} c e => by
  subst e
  have := leS_total a a
  rw [c] at this
  cases this
theorem wd_lay {x : Str} (h : wdB x = true) : OkT8 x := by
  show PyData.strOk x = true
  unfold PyData.strOk
  rw [Array.all_eq_true']
  intro c hc
  unfold wdB at h
  obtain ⟨_, h2⟩ := Bool.and_eq_true_iff.mp h
  have := List.all_eq_true.mp h2 c (by simpa using hc)
  obtain ⟨_, h4⟩ := Bool.and_eq_true_iff.mp this
  have := of_decide_eq_true h4
  exact decide_eq_true (by omega)
theorem jat (s : Sto) (k : Nat) (x d : Cell) (J : Sto) : (s.set k x ++ d :: J)[s.length]? = some d := by
  have := app_at (s.set k x) d J
  rwa [List.length_set] at this
theorem jset (s : Sto) (k : Nat) (x d e : Cell) (J : Sto) : (s.set k x ++ d :: J).set s.length e = s.set k x ++ e :: J := by
  have := app_set (s.set k x) d e J
  rwa [List.length_set] at this
theorem jst (s : Sto) {k : Nat} (hk : k < s.length) (x y : Cell) (J : Sto) : (s.set k x ++ J).set k y = s.set k y ++ J := by
  rw [List.set_append_left _ _ (by rw [List.length_set]; exact hk), List.set_set]
theorem jk (s : Sto) {k : Nat} (hk : k < s.length) (x : Cell) (J : Sto) : (s.set k x ++ J)[k]? = some x := by
  rw [List.getElem?_append_left (by rw [List.length_set]; exact hk), List.getElem?_set_self hk]
/-- a table, as a tuple of its pairs by label -/
theorem tab_back (i j c : Nat) (hij : i ≠ j) (sl : Sl) (s : Sto) (hi : i < sl.length) (hj : sl[j]? = some (some (.own c))) (xs : List Pv) (hc : s[c]? = some (.dic (xs.map kvPv))) (nd : (xs.map (·.1)).Nodup) (hl : xs.length < 64) :
    ∃ ys : List Pv, ys.map (·.1) = sortS (xs.map (·.1)) ∧ (∀ p ∈ ys, p ∈ xs) ∧ (∀ x, lkL ys x = lkL xs x) ∧
      (fN tupleO (fCons (fLc (tdName i) fYes (fTup (fCons (fVar i) (fCons (f2 dgetO (fVar j) (fVar i)) fNil))) (fIt (fN sortedO (fCons (fN listXO (fCons (fVar j) fNil)) fNil))) [i]) fNil)) sl s = some (.ok (mk ys).enc s) := by
  let W : List Str := sortS (xs.map (·.1))
  have hp : W.Perm (xs.map (·.1)) := sortS_perm _
  let g : Str → Pv := fun l => (l, (lkL xs l).getD (.num 0))
  have hg : ∀ l ∈ W, ∃ v, lkL xs l = some v := fun l h => by
    cases e : lkL xs l with
    | some v => exact ⟨v, rfl⟩
    | none => exact absurd (hp.mem_iff.mp h) (lkL_none.mp e)
  have hWl : W.length = xs.length := by rw [hp.length_eq, List.length_map]
  have hmap : (W.map g).map (·.1) = W := by
    rw [List.map_map]
    exact List.map_id W
  have hin : ∀ p ∈ W.map g, p ∈ xs := fun p h => by
    obtain ⟨l, hl, rfl⟩ := List.mem_map.mp h
    obtain ⟨v, hv⟩ := hg l hl
    have := lkL_some hv
    show (l, (lkL xs l).getD (.num 0)) ∈ xs
    rw [hv]
    exact this
  refine ⟨W.map g, hmap, hin, fun x => ?_, ?_⟩
  · by_cases hx : x ∈ W
    · obtain ⟨v, hv⟩ := hg x hx
      have : lkL (W.map g) (g x).1 = some (g x).2 := lkL_mem (by rw [hmap]; exact hp.nodup_iff.mpr nd) (List.mem_map.mpr ⟨x, hx, rfl⟩)
      have e : (g x).2 = v := by show (lkL xs x).getD _ = v; rw [hv]; rfl
      rw [hv, ← e]
      exact this
    · rw [lkL_none.mpr (by rw [hmap]; exact hx), lkL_none.mpr (fun h => hx (hp.mem_iff.mpr h))]
  · have hd : dcOf s (.own c) = some (xs.map kvPv) := by unfold dcOf; simp only [hc]
    have hlist : (fN listXO (fCons (fVar j) fNil)) sl s = some (.ok (.lst ((xs.map (·.1)).map D.str)) s) := fN_ok (one_ok (v_ok hj)) (by
      unfold listXO
      simp only [hd, List.map_map]
      rfl)
    have hit : (fIt (fN sortedO (fCons (fN listXO (fCons (fVar j) fNil)) fNil))) sl s = some (.ok (W.map D.str, none) s) := it_ok (fN_ok (one_ok hlist) (sorted_labs _ (by rw [List.length_map]; exact hl) s)) rfl
    have hlc := lcL_map (T := tdName i) (u := fYes) (f := (fTup (fCons (fVar i) (fCons (f2 dgetO (fVar j) (fVar i)) fNil)))) (a := (W.map D.str, none)) (sl := wipeS sl [i]) (s := s) (fun d => match d with | .str l => encPv (g l) | _ => .non) (ck_none _ _) (W.map D.str) (fun x hx => by
      obtain ⟨l, hl, rfl⟩ := List.mem_map.mp hx
      obtain ⟨v, hv⟩ := hg l hl
      have hwl : i < (wipeS sl [i]).length := by show i < (sl.set i none).length; rw [List.length_set]; exact hi
      have hvi : fVar i ((wipeS sl [i]).set i (some (.str l))) s = some (.ok (.str l) s) := v_ok (List.getElem?_set_self hwl)
      have hvj : fVar j ((wipeS sl [i]).set i (some (.str l))) s = some (.ok (.own c) s) := v_ok (by
        rw [List.getElem?_set_ne hij]
        show (sl.set i none)[j]? = _
        rw [List.getElem?_set_ne hij]
        exact hj)
      refine ⟨_, rfl, rfl, (tup_ok (two_ok hvi (f2_ok (z := v.enc) hvj hvi ?_)) small2).trans ?_⟩
      · unfold dgetO
        rw [hd]
        show atD (xs.map kvPv) (.inr l) = _
        rw [at_kvPv, hv]
        rfl
      · show _ = some (R.ok (encPv (l, (lkL xs l).getD (.num 0))) s)
        rw [hv]
        rfl)
    have h5 := fLc_pure (vs := [i]) hit hlc (by rw [List.length_map, List.length_map]; omega)
    have e : (W.map D.str).map (fun d => match d with | .str l => encPv (g l) | _ => .non) = (W.map g).map encPv := by
      rw [List.map_map, List.map_map]
      rfl
    rw [e] at h5
    rw [mk_enc]
    exact fN_ok (one_ok h5) rfl
def ValSpec (F : List D → M D) (n : Nat) : Prop := ∀ (s : Sto) (k : Nat) (a b : Int) (κ : Ki) (L : List Str), s[k]? = some (stC a b) → κ.ok = true → κ.dep ≤ n → κ.wid ≤ 3 → LabsOk 4 L →
  ∃ (v : Vl) (a' b' : Int), v.ok ∧ v.dep ≤ κ.dep + 2 ∧ v.wid ≤ 9 ∧ ofB κ v = true ∧ F [.own k, κ.enc, .lst (L.map D.str)] s = some (.ok v.enc (s.set k (stC a' b')))
theorem put_new {f : Sl → M D} {sl : Sl} {s : Sto} {k : Nat} {x : Cell} {J : Sto} {s0 : Sto} {xs : List Pv} {l : Str} {v : Vl} (hf : f sl s0 = some (.ok v.enc (s.set k x ++ .dic (xs.map kvPv) :: J))) (h3 : sl[3]? = some (some (.own s.length))) (h4 : sl[4]? = some (some (.str l)))
    (hn : l ∉ xs.map (·.1)) (hl : xs.length ≤ 100) : putIxS f (fVar 3) (fVar 4) sl s0 = some (.nx sl (s.set k x ++ .dic ((xs ++ [(l, v)]).map kvPv) :: J)) := by
  have e3 : fVar 3 sl (s.set k x ++ .dic (xs.map kvPv) :: J) = some (.ok (.own s.length) (s.set k x ++ .dic (xs.map kvPv) :: J)) := v_ok h3
  have e4 : fVar 4 sl (s.set k x ++ .dic (xs.map kvPv) :: J) = some (.ok (.str l) (s.set k x ++ .dic (xs.map kvPv) :: J)) := v_ok h4
  have hp : putIx (s.set k x ++ .dic (xs.map kvPv) :: J) (.own s.length) (.str l) v.enc = some (s.set k x ++ .dic ((xs ++ [(l, v)]).map kvPv) :: J) := by
    unfold putIx
    simp only [jat, kD, Option.bind_some, small_kv hl, if_true, jset]
    rw [putD_new, List.map_append]
    · rfl
    · rw [List.map_map]
      intro h
      obtain ⟨p, hp, e⟩ := List.mem_map.mp h
      exact hn (List.mem_map.mpr ⟨p, hp, Sum.inr.inj e⟩)
  unfold putIxS bindS
  simp only [hf, e3, e4, hp]
theorem val_fields {G : List D → M D} {n : Nat} (hG : ValSpec G n) (s : Sto) (k : Nat) (hk : k < s.length) (κ0 : D) (L : List Str) (hL : LabsOk 4 L) (a0 : Src) (ha : a0.2 = none) : ∀ (F : Fs) (acc : List Pv) (a b : Int) (x4 x5 : Option D),
    F.oks = true → F.deps ≤ n → F.wids ≤ 3 → (∀ l ∈ F.labs, l ∉ acc.map (·.1)) → F.labs.Nodup → acc.length + F.len ≤ 50 →
    ∃ (xs : List Pv) (a' b' : Int) (y4 y5 : Option D), xs.map (·.1) = F.labs ∧ Mt F xs ∧ (∀ p ∈ xs, p.2.ok ∧ p.2.dep ≤ F.deps + 2 ∧ p.2.wid ≤ 9) ∧
      forL (tdTup (tdCons (tdName 4) (tdCons (tdName 5) tdNil))) (putIxS (fCall 3 G (fCons (fVar 0) (fCons (fVar 5) (fCons (fVar 2) fNil)))) (fVar 3) (fVar 4)) a0 F.encs [some (.own k), some κ0, some (.lst (L.map D.str)), some (.own s.length), x4, x5] (s.set k (stC a b) ++ [.dic (acc.map kvPv)])
        = some (.nx [some (.own k), some κ0, some (.lst (L.map D.str)), some (.own s.length), y4, y5] (s.set k (stC a' b') ++ [.dic ((acc ++ xs).map kvPv)]))
  | .nil, acc, a, b, x4, x5, _, _, _, _, _, _ => ⟨[], a, b, x4, x5, rfl, trivial, fun _ h => (nomatch h), by rw [List.append_nil]; rfl⟩
  | .cons l κ t, acc, a, b, x4, x5, ho, hd, hw, hn, hnd, hlen => by
    have hck : ∀ s2, Ck a0 s2 := fun s2 => by unfold Ck; rw [ha]; trivial
    obtain ⟨ho1, ho2⟩ := Bool.and_eq_true_iff.mp (show (κ.ok && t.oks) = true from ho)
    have hd' : max κ.dep t.deps ≤ n := hd
    have hw' : max κ.wid t.wids ≤ 3 := hw
    have hlen' : acc.length + (t.len + 1) ≤ 50 := hlen
    obtain ⟨v, a1, b1, v1, v2, v3, v4, e⟩ := hG (s.set k (stC a b) ++ [.dic (acc.map kvPv)]) k a b κ L (jk s hk _ _) ho1 (by omega) (by omega) hL
    rw [jst s hk] at e
    have hln : l ∉ acc.map (·.1) := hn l List.mem_cons_self
    have hnd' := List.nodup_cons.mp (show (l :: t.labs).Nodup from hnd)
    obtain ⟨xs, a', b', y4, y5, h1, h2, h3, e2⟩ := val_fields hG s k hk κ0 L hL a0 ha t (acc ++ [(l, v)]) a1 b1 (some (.str l)) (some κ.enc) ho2 (by omega) (by omega) (fun x hx => by
      rw [List.map_append, List.mem_append]
      rintro (h | h)
      · exact hn x (List.mem_cons_of_mem _ hx) h
      · have : x = l := by simpa using h
        exact hnd'.1 (this ▸ hx)) hnd'.2 (by rw [List.length_append]; simp only [List.length_singleton]; omega)
    refine ⟨(l, v) :: xs, a', b', y4, y5, by show l :: xs.map (·.1) = l :: t.labs; rw [h1], ⟨rfl, v4, h2⟩, fun p hp => ?_, ?_⟩
    · have : (Fs.cons l κ t).deps = max κ.dep t.deps := rfl
      rcases List.mem_cons.mp hp with rfl | hp
      · exact ⟨v1, by show v.dep ≤ _; omega, v3⟩
      · obtain ⟨i1, i2, i3⟩ := h3 p hp
        exact ⟨i1, by omega, i3⟩
    · have hT : tdTup (tdCons (tdName 4) (tdCons (tdName 5) tdNil)) (.tup [.str l, κ.enc]) [some (.own k), some κ0, some (.lst (L.map D.str)), some (.own s.length), x4, x5] = some [some (.own k), some κ0, some (.lst (L.map D.str)), some (.own s.length), some (.str l), some κ.enc] := rfl
      have hc : fCall 3 G (fCons (fVar 0) (fCons (fVar 5) (fCons (fVar 2) fNil))) [some (.own k), some κ0, some (.lst (L.map D.str)), some (.own s.length), some (.str l), some κ.enc] (s.set k (stC a b) ++ [.dic (acc.map kvPv)]) = some (.ok v.enc (s.set k (stC a1 b1) ++ [.dic (acc.map kvPv)])) :=
        call_ok (ds := [.own k, κ.enc, .lst (L.map D.str)]) (cons_ok (x := .own k) rfl (two_ok (x := κ.enc) rfl rfl)) e
      have hp := put_new hc rfl rfl hln (by omega)
      show forL _ _ _ (.tup [.str l, κ.enc] :: t.encs) _ _ = _
      rw [List.append_assoc] at e2
      exact (forL_cons hT hp (hck _)).trans e2
theorem val_more (s : Sto) (k : Nat) (hk : k < s.length) (κ0 : D) (L : List Str) (hL : LabsOk 4 L) (a0 : Src) (ha : a0.2 = none) (x5 : Option D) : ∀ (R : List Str) (acc : List Pv) (a b : Int) (x4 : Option D),
    (∀ x ∈ R, OkT8 x) → (acc.map (·.1)).Nodup → acc.length + R.length ≤ 50 →
    ∃ (xs : List Pv) (a' b' : Int) (y4 : Option D), ((acc ++ xs).map (·.1)).Nodup ∧ xs.length ≤ R.length ∧ (∀ p ∈ xs, OkT8 p.1 ∧ p.2.ok ∧ p.2.dep ≤ 2 ∧ p.2.wid ≤ 4) ∧
      forL (tdName 4) (ifS (fAnd (fB (f2 (dinO true) (fVar 4) (fVar 3))) (fB (f2 (eqO false) (f2 modO (fCall 1 D_next (fCons (fVar 0) fNil)) (fC (.int 2))) (fC (.int 0))))) (putIxS (fCall 3 D_any (fCons (fVar 0) (fCons (fVar 2) (fCons (fC (.int 2)) fNil)))) (fVar 3) (fVar 4)) nextS) a0 (R.map D.str) [some (.own k), some κ0, some (.lst (L.map D.str)), some (.own s.length), x4, x5] (s.set k (stC a b) ++ [.dic (acc.map kvPv)])
        = some (.nx [some (.own k), some κ0, some (.lst (L.map D.str)), some (.own s.length), y4, x5] (s.set k (stC a' b') ++ [.dic ((acc ++ xs).map kvPv)]))
  | [], acc, a, b, x4, _, nd, _ => ⟨[], a, b, x4, by rw [List.append_nil]; exact nd, Nat.le_refl _, fun _ h => (nomatch h), by rw [List.append_nil]; rfl⟩
  | l :: R, acc, a, b, x4, ho, nd, hlen => by
    have hck : ∀ s2, Ck a0 s2 := fun s2 => by unfold Ck; rw [ha]; trivial
    let sl1 : Sl := [some (.own k), some κ0, some (.lst (L.map D.str)), some (.own s.length), some (.str l), x5]
    have hT : tdName 4 (.str l) [some (.own k), some κ0, some (.lst (L.map D.str)), some (.own s.length), x4, x5] = some sl1 := rfl
    let S : Sto := s.set k (stC a b) ++ [.dic (acc.map kvPv)]
    have hlen' : acc.length + (R.length + 1) ≤ 50 := hlen
    have ht : (fB (f2 (dinO true) (fVar 4) (fVar 3))) sl1 S = some (.ok (!(lkL acc l).isSome) S) := by
      refine fB_ok (f2_ok (x := .str l) (y := .own s.length) (s1 := S) rfl rfl ?_)
      unfold dinO
      have : dcOf S (.own s.length) = some (acc.map kvPv) := by unfold dcOf; simp only [S, jat]
      rw [this]
      show some (D.bl (ng true (atD (acc.map kvPv) (.inr l)).isSome)) = _
      rw [at_kvPv, Option.isSome_map]
      rfl
    have next : ∀ a1 b1, (fAnd (fB (f2 (dinO true) (fVar 4) (fVar 3))) (fB (f2 (eqO false) (f2 modO (fCall 1 D_next (fCons (fVar 0) fNil)) (fC (.int 2))) (fC (.int 0))))) sl1 S = some (.ok false (s.set k (stC a1 b1) ++ [.dic (acc.map kvPv)])) →
        ∃ (xs : List Pv) (a' b' : Int) (y4 : Option D), ((acc ++ xs).map (·.1)).Nodup ∧ xs.length ≤ (l :: R).length ∧ (∀ p ∈ xs, OkT8 p.1 ∧ p.2.ok ∧ p.2.dep ≤ 2 ∧ p.2.wid ≤ 4) ∧ _ = some (RS.nx [some (.own k), some κ0, some (.lst (L.map D.str)), some (.own s.length), y4, x5] (s.set k (stC a' b') ++ [.dic ((acc ++ xs).map kvPv)])) := fun a1 b1 hg => by
      obtain ⟨xs, a', b', y4, h1, h2, h3, e⟩ := val_more s k hk κ0 L hL a0 ha x5 R acc a1 b1 (some (.str l)) (fun x hx => ho x (List.mem_cons_of_mem _ hx)) nd (by omega)
      exact ⟨xs, a', b', y4, h1, Nat.le_succ_of_le h2, h3, (forL_cons hT ((ifS_f hg).trans rfl) (hck _)).trans e⟩
    cases hlk : lkL acc l with
    | some w =>
      rw [hlk] at ht
      exact next a b (and_f ht)
    | none =>
      rw [hlk] at ht
      obtain ⟨N, a1, b1, _, e1⟩ := next_call (sl := sl1) (s := S) (k := k) (a := a) (b := b) rfl (jk s hk _ _)
      rw [jst s hk] at e1
      have hu : (fB (f2 (eqO false) (f2 modO (fCall 1 D_next (fCons (fVar 0) fNil)) (fC (.int 2))) (fC (.int 0)))) sl1 S = some (.ok (decide (N % 2 = 0)) (s.set k (stC a1 b1) ++ [.dic (acc.map kvPv)])) :=
        fB_ok (f2_ok (f2_ok e1 rfl (by simp [modO])) rfl (eqO_int _ _ _ _))
      by_cases c : N % 2 = 0
      · rw [decide_eq_true c] at hu
        obtain ⟨v, a2, b2, v1, v2, v3, _, e2⟩ := any_eq (s.set k (stC a1 b1) ++ [.dic (acc.map kvPv)]) k a1 b1 2 L (jk s hk _ _) (by decide) hL
        rw [jst s hk] at e2
        have hc : fCall 3 D_any (fCons (fVar 0) (fCons (fVar 2) (fCons (fC (.int 2)) fNil))) sl1 (s.set k (stC a1 b1) ++ [.dic (acc.map kvPv)]) = some (.ok v.enc (s.set k (stC a2 b2) ++ [.dic (acc.map kvPv)])) :=
          call_ok (ds := [.own k, .lst (L.map D.str), .int 2]) (cons_ok (x := .own k) rfl (two_ok (x := .lst (L.map D.str)) rfl rfl)) e2
        have hp := put_new hc rfl rfl (lkL_none.mp hlk) (by omega)
        obtain ⟨xs, a', b', y4, h1, h2, h3, e⟩ := val_more s k hk κ0 L hL a0 ha x5 R (acc ++ [(l, v)]) a2 b2 (some (.str l)) (fun x hx => ho x (List.mem_cons_of_mem _ hx)) (by
          rw [List.map_append, List.nodup_append]
          refine ⟨nd, by simp, fun x hx y hy => ?_⟩
          have : y = l := by simpa using hy
          subst this
          exact fun z => lkL_none.mp hlk (z ▸ hx)) (by rw [List.length_append]; simp only [List.length_singleton]; omega)
        rw [List.append_assoc] at h1 e
        refine ⟨(l, v) :: xs, a', b', y4, h1, Nat.succ_le_succ h2, fun p hp => ?_, (forL_cons hT (ifT (and_t ht hu) hp) (hck _)).trans e⟩
        rcases List.mem_cons.mp hp with rfl | hp
        · exact ⟨ho l List.mem_cons_self, v1, by show v.dep ≤ 2; omega, v3⟩
        · exact h3 p hp
      · rw [decide_eq_false c] at hu
        exact next a1 b1 (and_t ht hu)
theorem val_step {G : List D → M D} {n : Nat} (hG : ValSpec G n) : ValSpec (fnD false 6 (g_value G)) (n + 1) := by
  intro s k a b κ L hk ho hd hw hL
  have hkl : k < s.length := (List.getElem?_eq_some_iff.mp hk).1
  let sl : Sl := [some (.own k), some κ.enc, some (.lst (L.map D.str)), none, none, none]
  have hword := fun w => ki_word (f := fVar 1) (sl := sl) (s := s) (s1 := s) κ w rfl
  have any : ∀ left : Int, left ≤ 5 → ∃ (v : Vl) (a' b' : Int), v.ok ∧ (v.dep : Int) ≤ max left 1 ∧ v.wid ≤ 4 ∧ (left ≤ 1 → v.isNum = true) ∧ fCall 3 D_any (fCons (fVar 0) (fCons (fVar 2) (fCons (fC (.int left)) fNil))) sl s = some (.ok v.enc (s.set k (stC a' b'))) := fun left hle => by
    obtain ⟨v, a', b', h1, h2, h3, h4, e⟩ := any_eq s k a b left L hk hle hL
    exact ⟨v, a', b', h1, h2, h3, h4, call_ok (ds := [.own k, .lst (L.map D.str), .int left]) (cons_ok (x := .own k) rfl (two_ok (x := .lst (L.map D.str)) rfl rfl)) e⟩
  cases κ with
  | num =>
    have w1 := hword (SS "blank")
    rw [show decide (Ki.word Ki.num = SS "blank") = false from decide_eq_false (by show ¬ SS "number" = SS "blank"; simp only [ne_number_blank, ne_number_record, ne_blank_number, ne_blank_record, ne_record_number, ne_record_blank]; exact id)] at w1
    have w2 := hword (SS "number")
    rw [show decide (Ki.word Ki.num = SS "number") = true from decide_eq_true rfl] at w2
    obtain ⟨v, a', b', h1, h2, h3, h4, e⟩ := any 1 (by decide)
    exact ⟨v, a', b', h1, by simp only [Ki.dep]; omega, by omega, h4 (by decide), fnD_rt (d := v.enc) (s' := s.set k (stC a' b')) (sq_skip w1 (sq_ifret w2 e)) (fin_set0 s k a' b' v)⟩
  | bl i =>
    have w1 := hword (SS "blank")
    rw [show decide (Ki.word (Ki.bl i) = SS "blank") = true from decide_eq_true rfl] at w1
    obtain ⟨v, a', b', h1, h2, h3, h4, e⟩ := any 3 (by decide)
    exact ⟨v, a', b', h1, by simp only [Ki.dep]; omega, by omega, rfl, fnD_rt (d := v.enc) (s' := s.set k (stC a' b')) (sq_ifret w1 e) (fin_set0 s k a' b' v)⟩
  | rc F r =>
    have w1 := hword (SS "blank")
    rw [show decide (Ki.word (Ki.rc F r) = SS "blank") = false from decide_eq_false (by show ¬ SS "record" = SS "blank"; simp only [ne_number_blank, ne_number_record, ne_blank_number, ne_blank_record, ne_record_number, ne_record_blank]; exact id)] at w1
    have w2 := hword (SS "number")
    rw [show decide (Ki.word (Ki.rc F r) = SS "number") = false from decide_eq_false (by show ¬ SS "record" = SS "number"; simp only [ne_number_blank, ne_number_record, ne_blank_number, ne_blank_record, ne_record_number, ne_record_blank]; exact id)] at w2
    obtain ⟨ho1, ho3⟩ := Bool.and_eq_true_iff.mp (show (riseF F.labs [] && okR r && F.oks) = true from ho)
    obtain ⟨ho1, _⟩ := Bool.and_eq_true_iff.mp ho1
    obtain ⟨hri, hwd⟩ := rise_pw F.labs [] ho1 List.Pairwise.nil
    rw [List.nil_append] at hri
    have hd' : F.deps + 1 ≤ n + 1 := hd
    have hw' : max F.labs.length F.wids ≤ 3 := hw
    have hlen := F.len_labs
    obtain ⟨xs, a1, b1, y4, y5, x1, x2, x3, e1⟩ := val_fields hG s k hkl (Ki.rc F r).enc L hL (F.encs, none) rfl F [] a b none none ho3 (by omega) (by omega) (fun _ _ h => (nomatch h)) hri.nodup (by simp only [List.length_nil]; omega)
    rw [List.nil_append] at e1
    have hxl : xs.length = F.len := by rw [← hlen, ← x1, List.length_map]
    have hs0 : s.set k (stC a b) = s := set_same hk
    have hit : (fIt (f2 ixO (fVar 1) (fC (.int 1)))) [some (.own k), some (Ki.rc F r).enc, some (.lst (L.map D.str)), some (.own s.length), none, none] (s ++ [.dic []]) = some (.ok (F.encs, none) (s ++ [.dic []])) := it_ok (x := .tup F.encs) (f2_ok (x := (Ki.rc F r).enc) (y := .int 1) rfl rfl ixT1) rfl
    rw [hs0] at e1
    have hfor := (forS_of hit (ck_none _ _)).trans e1
    have s3 : setS 3 fDNew sl s = some (.nx [some (.own k), some (Ki.rc F r).enc, some (.lst (L.map D.str)), some (.own s.length), none, none] (s ++ [.dic []])) := setS_ok rfl
    let T1 : Sto := s.set k (stC a1 b1) ++ [.dic (xs.map kvPv)]
    have hr : (fB (f2 (isNO true) (f2 ixO (fVar 1) (fC (.int 2))) (fC .non))) [some (.own k), some (Ki.rc F r).enc, some (.lst (L.map D.str)), some (.own s.length), y4, y5] T1 = some (.ok r.isSome T1) :=
      fB_ok (f2_ok (x := encR r) (y := .non) (f2_ok (x := (Ki.rc F r).enc) (y := .int 2) rfl rfl ixT2) rfl (by cases r <;> rfl))
    have hxo : ∀ p ∈ xs, OkT8 p.1 := fun p hp => wd_lay (hwd p.1 (by rw [← x1]; exact List.mem_map.mpr ⟨p, hp, rfl⟩))
    have fin : ∀ (zs : List Pv) (a2 b2 : Int) (z4 : Option D), ((xs ++ zs).map (·.1)).Nodup → zs.length ≤ 6 → (∀ p ∈ zs, OkT8 p.1 ∧ p.2.ok ∧ p.2.dep ≤ 2 ∧ p.2.wid ≤ 4) → (r.isSome = false → zs = []) →
        (∀ g1 r1, g1 [some (.own k), some (Ki.rc F r).enc, some (.lst (L.map D.str)), some (.own s.length), z4, y5] (s.set k (stC a2 b2) ++ [.dic ((xs ++ zs).map kvPv)]) = r1 →
          seqS (ifS (fB (f2 (isNO true) (f2 ixO (fVar 1) (fC (.int 2))) (fC .non))) (forS (tdName 4) (fIt (f2 addO (fVar 2) (fLst (fCons (fC (.str (PySem.Str.ofString "zzzzzzzz"))) (fCons (fC (.str (PySem.Str.ofString "a"))) fNil))))) (ifS (fAnd (fB (f2 (dinO true) (fVar 4) (fVar 3))) (fB (f2 (eqO false) (f2 modO (fCall 1 D_next (fCons (fVar 0) fNil)) (fC (.int 2))) (fC (.int 0))))) (putIxS (fCall 3 D_any (fCons (fVar 0) (fCons (fVar 2) (fCons (fC (.int 2)) fNil)))) (fVar 3) (fVar 4)) nextS)) nextS) g1 [some (.own k), some (Ki.rc F r).enc, some (.lst (L.map D.str)), some (.own s.length), y4, y5] T1 = r1) →
        ∃ (v : Vl) (a' b' : Int), v.ok ∧ v.dep ≤ (Ki.rc F r).dep + 2 ∧ v.wid ≤ 9 ∧ ofB (.rc F r) v = true ∧ fnD false 6 (g_value G) [.own k, (Ki.rc F r).enc, .lst (L.map D.str)] s = some (.ok v.enc (s.set k (stC a' b'))) := fun zs a2 b2 z4 z1 z2 z3 z5 hstep => by
      obtain ⟨ys, y1, y2, y3, ey⟩ := tab_back 4 3 s.length (by decide) [some (.own k), some (Ki.rc F r).enc, some (.lst (L.map D.str)), some (.own s.length), z4, y5] (s.set k (stC a2 b2) ++ [.dic ((xs ++ zs).map kvPv)]) (Nat.lt_of_lt_of_eq (by decide : 4 < 6) rfl) rfl (xs ++ zs) (jat _ _ _ _ _) z1 (by rw [List.length_append]; omega)
      have hyl : ys.length = xs.length + zs.length := by
        have := congrArg List.length y1
        rw [List.length_map, (sortS_perm _).length_eq, List.length_map, List.length_append] at this
        exact this
      have hF : (Ki.rc F r).dep = F.deps + 1 := rfl
      have hall : ∀ p ∈ ys, OkT8 p.1 ∧ p.2.ok ∧ p.2.dep ≤ F.deps + 2 ∧ p.2.wid ≤ 9 := fun p hp => by
        rcases List.mem_append.mp (y2 p hp) with h | h
        · obtain ⟨i1, i2, i3⟩ := x3 p h
          exact ⟨hxo p h, i1, i2, i3⟩
        · obtain ⟨i0, i1, i2, i3⟩ := z3 p h
          exact ⟨i0, i1, by omega, by omega⟩
      refine ⟨mk ys, a2, b2, mk_ok.mpr ⟨by rw [y1]; exact (sortS_perm _).nodup_iff.mpr z1, fun p hp => ⟨(hall p hp).1, (hall p hp).2.1⟩⟩, ?_, mk_wid.mpr ⟨by omega, fun p hp => (hall p hp).2.2.2⟩, ?_, ?_⟩
      · have : (mk ys).dep ≤ (F.deps + 2) + 1 := mk_dep.mpr fun p hp => (hall p hp).2.2.1
        omega
      · show (ofsB F (Vf.ofL ys) && (r.isSome || decide ((Vf.ofL ys).len = F.len))) = true
        have h1 : ofsB F (Vf.ofL ys) = true := ofs_mt _ F xs x2 fun p hp => by
          rw [Vf.lk_toL, Vf.toL_ofL, y3]
          exact lkL_mem z1 (List.mem_append_left _ hp)
        rw [h1, Bool.true_and]
        cases hr' : r.isSome with
        | true => rfl
        | false =>
          have := z5 hr'
          subst this
          rw [Bool.false_or]
          refine decide_eq_true ?_
          rw [Vf.len_toL, Vf.toL_ofL, hyl, hxl]
          rfl
      · refine fnD_rt (d := (mk ys).enc) (s' := s.set k (stC a2 b2) ++ [.dic ((xs ++ zs).map kvPv)]) ?_ (fin_set s _ k a2 b2 (mk ys))
        exact sq_skip w1 (sq_skip w2 (sq_nx s3 (sq_nx hfor (hstep _ _ (retS_ok ey)))))
    cases hr' : r.isSome with
    | false =>
      rw [hr'] at hr
      refine fin [] a1 b1 y4 (by rw [List.append_nil, x1]; exact hri.nodup) (Nat.zero_le _) (fun _ h => (nomatch h)) (fun _ => rfl) (fun g1 r1 e => ?_)
      rw [List.append_nil] at e
      exact sq_skip hr e
    | true =>
      rw [hr'] at hr
      let R : List Str := L ++ [SS "zzzzzzzz", SS "a"]
      have hR : R.length = 6 := by show (L ++ _).length = 6; rw [List.length_append, hL.len]; rfl
      have hRo : ∀ x ∈ R, OkT8 x := fun x hx => by
        rcases List.mem_append.mp hx with h | h
        · exact lay_of (hL.ok x h)
        · rcases List.mem_cons.mp h with rfl | h
          · exact (by decide +kernel : PyData.strOk (SS "zzzzzzzz") = true)
          · rw [List.mem_singleton.mp h]
            exact (by decide +kernel : PyData.strOk (SS "a") = true)
      obtain ⟨zs, a2, b2, z4, z1, z2, z3, e2⟩ := val_more s k hkl (Ki.rc F r).enc L hL (R.map D.str, none) rfl y5 R xs a1 b1 y4 hRo (by rw [x1]; exact hri.nodup) (by omega)
      have hit2 : (fIt (f2 addO (fVar 2) (fLst (fCons (fC (.str (PySem.Str.ofString "zzzzzzzz"))) (fCons (fC (.str (PySem.Str.ofString "a"))) fNil))))) [some (.own k), some (Ki.rc F r).enc, some (.lst (L.map D.str)), some (.own s.length), y4, y5] T1 = some (.ok (R.map D.str, none) T1) := by
        refine it_ok (x := .lst (R.map D.str)) (f2_ok (x := .lst (L.map D.str)) (y := .lst [.str (SS "zzzzzzzz"), .str (SS "a")]) (s1 := T1) rfl (lst_ok (two_ok rfl rfl) small2) ?_) rfl
        have : small ((L.map D.str).length + [D.str (SS "zzzzzzzz"), .str (SS "a")].length) = true := smallOf (by rw [List.length_map, hL.len]; simp)
        show (if _ = true then some (D.lst (L.map D.str ++ [.str (SS "zzzzzzzz"), .str (SS "a")])) else none) = _
        rw [if_pos this, show R.map D.str = L.map D.str ++ [.str (SS "zzzzzzzz"), .str (SS "a")] from List.map_append]
      have hfor2 := (forS_of hit2 (ck_none _ _)).trans e2
      exact fin zs a2 b2 z4 z1 (by omega) z3 (fun h => absurd (hr'.symm.trans h) (by decide)) (fun g1 r1 e => sq_nx (ifT hr hfor2) e)
theorem val_all : ∀ n, ValSpec (R_value n) n
  | 0 => fun s k a b κ L _ _ hd _ _ => by cases κ <;> simp [Ki.dep] at hd
  | n + 1 => val_step (val_all n)
theorem value_eq : ValSpec D_value 8 := val_all 8
end Pr

set_option Elab.async false
set_option linter.all false
set_option maxRecDepth 100000
set_option maxHeartbeats 4000000
/-! V6: a value bent. -/
namespace Pr
open PySem L2 PD Qk
def BentSpec (F : List D → M D) (n : Nat) : Prop := ∀ (s : Sto) (v : Vl) (path : Int) (L : List Str), v.ok → v.dep ≤ n → v.dep ≤ 30 → v.wid ≤ 30 → LabsOk 4 L → ∃ v' : Vl, v'.ok ∧ F [v.enc, .int path, .lst (L.map D.str)] s = some (.ok v'.enc s)
theorem mod_at {f : Sl → M D} {sl : Sl} {s : Sto} {i : Int} (q : Int) (hq : 0 < q) (h : f sl s = some (.ok (.int i) s)) : (f2 modO f (fC (.int q))) sl s = some (.ok (.int (i % q)) s) := f2_ok h rfl (by
  show (if 0 < q then _ else _) = _
  rw [if_pos hq])
theorem div_at {f : Sl → M D} {sl : Sl} {s : Sto} {i : Int} (q : Int) (hq : 0 < q ∧ q < 1073741824) (h : f sl s = some (.ok (.int i) s)) : (f2 fdivO f (fC (.int q))) sl s = some (.ok (.int (i / q)) s) := f2_ok h rfl (by
  show (if 0 < q ∧ q < 1073741824 then _ else _) = _
  rw [if_pos hq])
theorem isL_n {s : Sto} {xs : List D} {i : Int} (h0 : 0 ≤ i) (hl : i < xs.length) : ∃ (j : Nat) (h : j < xs.length), i = j ∧ ixO s (.lst xs) (.int i) = some xs[j] := by
  obtain ⟨j, rfl⟩ : ∃ j : Nat, i = (j : Int) := ⟨i.toNat, by omega⟩
  have hj : j < xs.length := by omega
  exact ⟨j, hj, rfl, show (seqOf s (.lst xs)).bind (fun xs => atI xs (j : Int)) = _ from atI_nat (List.getElem?_eq_getElem hj)⟩
theorem num_ok (i : Int) : (Vl.num i).ok := trivial
theorem one_ok' {l : Str} (hl : OkT8 l) (i : Int) : (mk [(l, .num i)]).ok := mk_ok.mpr ⟨by simp, fun p hp => by rw [List.mem_singleton.mp hp]; exact ⟨hl, trivial⟩⟩
theorem cutL_to {α : Type} (xs : List α) (j : Nat) (h : j ≤ xs.length) : cutL xs none (some (j : Int)) = xs.take j := by
  unfold cutL
  rw [HT.sIx_none, HT.sIx_nat, List.drop_zero, Nat.min_eq_left h, Nat.sub_zero]
theorem cutL_from {α : Type} (xs : List α) (j : Nat) (h : j ≤ xs.length) : cutL xs (some (j : Int)) none = xs.drop j := by
  unfold cutL
  rw [HT.sIx_none, HT.sIx_nat, Nat.min_eq_left h, List.take_of_length_le (by rw [List.length_drop]; omega)]
theorem dict_l {f : Sl → M D} {sl : Sl} {s s1 : Sto} {xs : List Pv} (h : f sl s = some (.ok (.lst (xs.map encPv)) s1)) (nd : (xs.map (·.1)).Nodup) : fNM dictO (fCons f fNil) sl s = some (.ok (.own s1.length) (s1 ++ [.dic (xs.map kvPv)])) := by
  have hl : (fCons f fNil) sl s = some (.ok [.lst (xs.map encPv)] s1) := one_ok h
  unfold fNM bindM
  rw [hl]
  have hp : (xs.map encPv).mapM prD = some (xs.map kvPv) := by
    have := Vf.prs (Vf.ofL xs)
    rwa [Vf.encs_toL, Vf.kvs_toL, Vf.toL_ofL] at this
  have hm := Vf.merge (Vf.ofL xs) (by rw [Vf.labs_toL, Vf.toL_ofL]; exact nd)
  rw [Vf.kvs_toL, Vf.toL_ofL] at hm
  have : dictO s1 [.lst (xs.map encPv)] = some (.own s1.length, s1 ++ [.dic (mergeD [] (xs.map kvPv))]) := by
    unfold dictO
    simp only [show dcOf s1 (.lst (xs.map encPv)) = none from rfl, prsOf, lsOf, Option.bind_some, hp]
  simp only [this, hm]
theorem zz_ok : OkT8 (SS "zzzzzzzz") := (by decide +kernel : PyData.strOk (SS "zzzzzzzz") = true)
theorem a_ok : OkT8 (SS "a") := (by decide +kernel : PyData.strOk (SS "a") = true)
theorem more_ok {L : List Str} (hL : LabsOk 4 L) : ∀ x ∈ L ++ [SS "zzzzzzzz", SS "a"], OkT8 x := fun x hx => by
  rcases List.mem_append.mp hx with h | h
  · exact lay_of (hL.ok x h)
  · rcases List.mem_cons.mp h with rfl | h
    · exact zz_ok
    · rw [List.mem_singleton.mp h]; exact a_ok
theorem bent_first (v : Vl) (path : Int) (L : List Str) (hL : LabsOk 4 L) (s : Sto) (sl : Sl) (h1 : sl[1]? = some (some (.int path))) (h2 : sl[2]? = some (some (.lst (L.map D.str)))) : ∃ v' : Vl, v'.ok ∧
    (f2 ixO (fLst (fCons (fC (.int 3)) (fCons (fTup fNil) (fCons (fTup (fCons (fTup (fCons (fC (.str (PySem.Str.ofString "zzzzzzzz"))) (fCons (fC (.int 5)) fNil))) fNil)) (fCons (fTup (fCons (fTup (fCons (f2 ixO (fVar 2) (fC (.int 0))) (fCons (fC (.int 0)) fNil))) fNil)) (fCons (f1 negO (fC (.int 7))) fNil)))))) (f2 modO (f2 fdivO (fVar 1) (fC (.int 5))) (fC (.int 5)))) sl s = some (.ok v'.enc s) := by
  obtain ⟨l0, hl0, e0⟩ := labs_ix L hL.len s 0 (by decide) (by decide)
  have el0 : (f2 ixO (fVar 2) (fC (.int 0))) sl s = some (.ok (.str l0) s) := f2_ok (v_ok h2) rfl e0
  let vs : List Vl := [.num 3, mk [], mk [(SS "zzzzzzzz", .num 5)], mk [(l0, .num 0)], .num (-7)]
  have hvs : ∀ w ∈ vs, w.ok := fun w hw => by
    simp only [vs, List.mem_cons, List.not_mem_nil, or_false] at hw
    rcases hw with rfl | rfl | rfl | rfl | rfl
    · exact num_ok 3
    · exact mk_ok.mpr ⟨by simp, fun _ h => (nomatch h)⟩
    · exact one_ok' zz_ok 5
    · exact one_ok' (lay_of (hL.ok l0 hl0)) 0
    · exact num_ok (-7)
  have hl : (fLst (fCons (fC (.int 3)) (fCons (fTup fNil) (fCons (fTup (fCons (fTup (fCons (fC (.str (PySem.Str.ofString "zzzzzzzz"))) (fCons (fC (.int 5)) fNil))) fNil)) (fCons (fTup (fCons (fTup (fCons (f2 ixO (fVar 2) (fC (.int 0))) (fCons (fC (.int 0)) fNil))) fNil)) (fCons (f1 negO (fC (.int 7))) fNil)))))) sl s = some (.ok (.lst (vs.map Vl.enc)) s) :=
    lst_ok (cons_ok (x := .int 3) rfl (cons_ok (tup_ok (xs := []) nil_ok small0) (cons_ok (tup_ok (one_ok (tup_ok (two_ok (x := .str (SS "zzzzzzzz")) (y := .int 5) (s1 := s) rfl rfl) small2)) small1) (two_ok (tup_ok (one_ok (tup_ok (two_ok el0 (y := .int 0) rfl) small2)) small1) (f1_ok (x := .int 7) (s1 := s) (z := .int (-7)) rfl rfl))))) (smallOf (show 5 ≤ 16777216 by decide))
  have hi := mod_at 5 (by decide) (div_at 5 (by decide) (v_ok (s := s) h1))
  obtain ⟨j, hj, _, e⟩ := isL_n (s := s) (xs := vs.map Vl.enc) (Int.emod_nonneg (path / 5) (show (5 : Int) ≠ 0 by decide)) (by
    rw [List.length_map]
    exact Int.emod_lt_of_pos (path / 5) (show (0 : Int) < 5 by decide))
  rw [List.getElem_map] at e
  exact ⟨vs[j]'(by rwa [List.length_map] at hj), hvs _ (List.getElem_mem _), f2_ok hl hi e⟩
theorem isi_e {f : Sl → M D} {sl : Sl} {s s1 : Sto} {xs : List D} (h : f sl s = some (.ok (.tup xs) s1)) : f1 (isiO "tuple") f sl s = some (.ok (.bl true) s1) := f1_ok h rfl
/-- p[0] of a pair -/
theorem pv_ix0 (p : Pv) (s : Sto) : ixO s (encPv p) (.int 0) = some (.str p.1) := ixT0
theorem pv_ix1 (p : Pv) (s : Sto) : ixO s (encPv p) (.int 1) = some p.2.enc := ixT1
noncomputable abbrev bentMid : SD := (seqS (setS 3 (f2 ixO (f2 addO (fVar 2) (fLst (fCons (fC (.str (PySem.Str.ofString "zzzzzzzz"))) (fCons (fC (.str (PySem.Str.ofString "a"))) fNil)))) (f2 modO (f2 fdivO (fVar 1) (fC (.int 5))) (fC (.int 6)))))
    (seqS (setS 4 (fLc (tdName 5) (fB (f2 (eqO true) (f2 ixO (fVar 5) (fC (.int 0))) (fVar 3))) (fVar 5) (fIt (fVar 0)) [5]))
    (seqS (ifS (fB (f2 (eqO false) (fN lenO (fCons (fVar 4) fNil)) (fN lenO (fCons (fVar 0) fNil)))) (setS 4 (f2 addO (fVar 4) (fLst (fCons (fTup (fCons (fVar 3) (fCons (f2 modO (f2 fdivO (fVar 1) (fC (.int 30))) (fC (.int 3))) fNil))) fNil)))) nextS)
    (seqS (setS 6 (fNM dictO (fCons (fVar 4) fNil)))
    (retS (fN tupleO (fCons (fLc (tdName 7) fYes (fTup (fCons (fVar 7) (fCons (f2 dgetO (fVar 6) (fVar 7)) fNil))) (fIt (fN sortedO (fCons (fN listXO (fCons (fVar 6) fNil)) fNil))) [7]) fNil)))))))
theorem bent_mid (xs : List Pv) (path : Int) (L : List Str) (hL : LabsOk 4 L) (s : Sto) (ho : (mk xs).ok) (hl : xs.length ≤ 30) : ∃ (v' : Vl) (J : Sto), v'.ok ∧ bentMid [some (.tup (xs.map encPv)), some (.int path), some (.lst (L.map D.str)), none, none, none, none, none, none, none] s = some (.rt v'.enc (s ++ J)) := by
  obtain ⟨nd, hok⟩ := mk_ok.mp ho
  let sl : Sl := [some (.tup (xs.map encPv)), some (.int path), some (.lst (L.map D.str)), none, none, none, none, none, none, none]
  let R : List Str := L ++ [SS "zzzzzzzz", SS "a"]
  have hRl : (R.map D.str).length = 6 := by rw [List.length_map]; show (L ++ _).length = 6; rw [List.length_append, hL.len]; rfl
  have hadd : (f2 addO (fVar 2) (fLst (fCons (fC (.str (PySem.Str.ofString "zzzzzzzz"))) (fCons (fC (.str (PySem.Str.ofString "a"))) fNil)))) sl s = some (.ok (.lst (R.map D.str)) s) := by
    refine f2_ok (x := .lst (L.map D.str)) (y := .lst [.str (SS "zzzzzzzz"), .str (SS "a")]) (s1 := s) rfl (lst_ok (two_ok rfl rfl) small2) ?_
    have : small ((L.map D.str).length + [D.str (SS "zzzzzzzz"), .str (SS "a")].length) = true := smallOf (by rw [List.length_map, hL.len]; simp)
    show (if _ = true then some (D.lst (L.map D.str ++ [.str (SS "zzzzzzzz"), .str (SS "a")])) else none) = _
    rw [if_pos this, show R.map D.str = L.map D.str ++ [.str (SS "zzzzzzzz"), .str (SS "a")] from List.map_append]
  obtain ⟨j, hj, _, ej⟩ := isL_n (s := s) (xs := R.map D.str) (Int.emod_nonneg (path / 5) (show (6 : Int) ≠ 0 by decide)) (by
    rw [hRl]
    exact Int.emod_lt_of_pos (path / 5) (show (0 : Int) < 6 by decide))
  rw [List.getElem_map] at ej
  generalize hw : R[j]'(by rwa [List.length_map] at hj) = w at ej
  have hwo : OkT8 w := more_ok hL w (by rw [← hw]; exact List.getElem_mem _)
  have e3 := f2_ok hadd (mod_at 6 (by decide) (div_at 5 (by decide) (v_ok (sl := sl) (s := s) (i := 1) rfl))) ej
  let sl3 : Sl := [some (.tup (xs.map encPv)), some (.int path), some (.lst (L.map D.str)), some (.str w), none, none, none, none, none, none]
  let p : Pv → Bool := fun q => !decide (q.1 = w)
  have hlc := lcL_filter (T := tdName 5) (u := (fB (f2 (eqO true) (f2 ixO (fVar 5) (fC (.int 0))) (fVar 3)))) (f := fVar 5) (a := (xs.map encPv, none)) (sl := sl3) (s := s) (fun d => match d with | .tup (.str l :: _) => !decide (l = w) | _ => false) id (ck_none _ _) (xs.map encPv) (fun x hx => by
    obtain ⟨q, hq, rfl⟩ := List.mem_map.mp hx
    exact ⟨sl3.set 5 (some (encPv q)), rfl, fB_ok (f2_ok (f2_ok (x := encPv q) (y := .int 0) (s1 := s) rfl rfl (pv_ix0 q s)) (y := .str w) (s2 := s) rfl (eqO_str _ _ _ _)), fun _ => rfl⟩)
  have hfm : ((xs.map encPv).filter (fun d => match d with | .tup (.str l :: _) => !decide (l = w) | _ => false)).map id = (xs.filter p).map encPv := by
    rw [List.map_id, List.filter_map]
    rfl
  rw [hfm] at hlc
  have hit : (fIt (fVar 0)) sl3 s = some (.ok (xs.map encPv, none) s) := it_ok (x := .tup (xs.map encPv)) rfl rfl
  have hfl : (xs.filter p).length ≤ xs.length := List.length_filter_le _ _
  have e4 := fLc_pure (vs := [5]) hit hlc (by rw [List.length_map]; omega)
  let sl4 : List Pv → Sl := fun ys => [some (.tup (xs.map encPv)), some (.int path), some (.lst (L.map D.str)), some (.str w), some (.lst (ys.map encPv)), none, none, none, none, none]
  have t4 : (fB (f2 (eqO false) (fN lenO (fCons (fVar 4) fNil)) (fN lenO (fCons (fVar 0) fNil)))) (sl4 (xs.filter p)) s = some (.ok (decide ((xs.filter p).length = xs.length)) s) := by
    have := fB_ok (f2_ok (o := eqO false) (fN_ok (o := lenO) (z := .int ((xs.filter p).map encPv).length) (one_ok (x := .lst ((xs.filter p).map encPv)) (f := fVar 4) (sl := sl4 (xs.filter p)) (s := s) (s1 := s) rfl) rfl) (fN_ok (o := lenO) (z := .int (xs.map encPv).length) (one_ok (x := .tup (xs.map encPv)) (f := fVar 0) rfl) rfl) len_e)
    rw [List.length_map, List.length_map] at this
    exact this
  have fin : ∀ ys : List Pv, (ys.map (·.1)).Nodup → ys.length ≤ 40 → (∀ q ∈ ys, OkT8 q.1 ∧ q.2.ok) → ∃ (v' : Vl) (J : Sto), v'.ok ∧ (seqS (setS 6 (fNM dictO (fCons (fVar 4) fNil)))
    (retS (fN tupleO (fCons (fLc (tdName 7) fYes (fTup (fCons (fVar 7) (fCons (f2 dgetO (fVar 6) (fVar 7)) fNil))) (fIt (fN sortedO (fCons (fN listXO (fCons (fVar 6) fNil)) fNil))) [7]) fNil)))) (sl4 ys) s = some (.rt v'.enc (s ++ J)) := fun ys nd2 hl2 ho2 => by
    have hd := dict_l (f := fVar 4) (sl := sl4 ys) (s := s) (s1 := s) (xs := ys) rfl nd2
    obtain ⟨zs, z1, z2, _, ez⟩ := tab_back 7 6 s.length (by decide) [some (.tup (xs.map encPv)), some (.int path), some (.lst (L.map D.str)), some (.str w), some (.lst (ys.map encPv)), none, some (.own s.length), none, none, none] (s ++ [.dic (ys.map kvPv)]) (Nat.lt_of_lt_of_eq (by decide : 7 < 10) rfl) rfl ys (app_at _ _ _) nd2 (by omega)
    exact ⟨mk zs, _, mk_ok.mpr ⟨by rw [z1]; exact (sortS_perm _).nodup_iff.mpr nd2, fun q hq => ho2 q (z2 q hq)⟩, sq_set hd (retS_ok ez)⟩
  by_cases c : (xs.filter p).length = xs.length
  · rw [decide_eq_true c] at t4
    have hfx : xs.filter p = xs := List.filter_eq_self.mpr (by
      have := List.length_filter_eq_length_iff.mp c
      exact this)
    have hwn : w ∉ xs.map (·.1) := fun h => by
      obtain ⟨q, hq, rfl⟩ := List.mem_map.mp h
      have := List.filter_eq_self.mp hfx q hq
      simp [p] at this
    rw [hfx] at t4 e4
    let i : Int := path / 30 % 3
    have hn : (f2 addO (fVar 4) (fLst (fCons (fTup (fCons (fVar 3) (fCons (f2 modO (f2 fdivO (fVar 1) (fC (.int 30))) (fC (.int 3))) fNil))) fNil))) (sl4 xs) s = some (.ok (.lst ((xs ++ [(w, Vl.num i)]).map encPv)) s) := by
      refine f2_ok (x := .lst (xs.map encPv)) (y := .lst [encPv (w, .num i)]) (s1 := s) rfl (lst_ok (one_ok (tup_ok (two_ok (x := .str w) (s1 := s) rfl (mod_at 3 (by decide) (div_at 30 (by decide) (v_ok (i := 1) rfl)))) small2)) small1) ?_
      have : small ((xs.map encPv).length + [encPv (w, Vl.num i)].length) = true := smallOf (by rw [List.length_map]; simp only [List.length_singleton]; omega)
      show (if _ = true then some (D.lst (xs.map encPv ++ [encPv (w, .num i)])) else none) = _
      rw [if_pos this, List.map_append]
      rfl
    obtain ⟨v', J, hv, e⟩ := fin (xs ++ [(w, .num i)]) (by
      rw [List.map_append, List.nodup_append]
      refine ⟨nd, by simp, fun x hx y hy => ?_⟩
      have : y = w := by simpa using hy
      subst this
      exact fun z => hwn (z ▸ hx)) (by rw [List.length_append]; simp only [List.length_singleton]; omega) (fun q hq => by
      rcases List.mem_append.mp hq with h | h
      · exact hok q h
      · rw [List.mem_singleton.mp h]; exact ⟨hwo, trivial⟩)
    exact ⟨v', J, hv, sq_set e3 (sq_set e4 (sq_nx (ifT t4 (setS_ok hn)) e))⟩
  · rw [decide_eq_false c] at t4
    obtain ⟨v', J, hv, e⟩ := fin (xs.filter p) ((List.Sublist.map (fun q : Pv => q.1) (List.filter_sublist (p := p) (l := xs))).nodup nd) (by omega) (fun q hq => hok q (List.mem_filter.mp hq).1)
    exact ⟨v', J, hv, sq_set e3 (sq_set e4 (sq_skip t4 e))⟩
theorem bent_step {G : List D → M D} {n : Nat} (hG : BentSpec G n) : BentSpec (fnD false 10 (g_bent G)) (n + 1) := by
  intro s v path L ho hd hd2 hw hL
  let sl : Sl := [some v.enc, some (.int path), some (.lst (L.map D.str)), none, none, none, none, none, none, none]
  have hi := isi_v (f := fVar 0) (sl := sl) (s := s) (s1 := s) (v := v) rfl
  have hm5 : (f2 modO (fVar 1) (fC (.int 5))) sl s = some (.ok (.int (path % 5)) s) := mod_at 5 (by decide) (v_ok rfl)
  have t1 := fOr_b (not_ok (tru_bl hi)) (fB_ok (f2_ok hm5 (y := .int 0) (g := fC (.int 0)) (s2 := s) rfl (eqO_int false _ _ _)))
  have first : (!(!v.isNum) || ng false (decide (path % 5 = 0))) = true → ∃ v' : Vl, v'.ok ∧ fnD false 10 (g_bent G) [v.enc, .int path, .lst (L.map D.str)] s = some (.ok v'.enc s) := fun h => by
    rw [h] at t1
    obtain ⟨v', hv, e⟩ := bent_first v path L hL s sl rfl rfl
    exact ⟨v', hv, fnD_rt (sq_ifret t1 e) (close_low s _ (low_mono (Nat.zero_le _) _ v'.low) v'.own)⟩
  cases v with
  | num i => exact first rfl
  | rc vf =>
    by_cases c0 : path % 5 = 0
    · exact first (by rw [decide_eq_true c0]; rfl)
    · have hf : (!(!(Vl.rc vf).isNum) || ng false (decide (path % 5 = 0))) = false := by rw [decide_eq_false c0]; rfl
      rw [hf] at t1
      generalize hx : vf.toL = xs
      have hv : Vl.rc vf = mk xs := by rw [rc_mk, hx]
      rw [hv] at ho hd hd2 hw ⊢
      have hsl : sl = [some (.tup (xs.map encPv)), some (.int path), some (.lst (L.map D.str)), none, none, none, none, none, none, none] := by show [some (Vl.rc vf).enc, _, _, _, _, _, _, _, _, _] = _; rw [hv, mk_enc]
      rw [hsl] at t1 hm5
      let sl' : Sl := [some (.tup (xs.map encPv)), some (.int path), some (.lst (L.map D.str)), none, none, none, none, none, none, none]
      obtain ⟨nd, hok⟩ := mk_ok.mp ho
      obtain ⟨hxl, hxw⟩ := mk_wid.mp hw
      have hcl := (mk xs).cl ho
      rw [mk_enc] at hcl
      have t2 := fOr_b (f2_ok (x := .tup (xs.map encPv)) (y := .tup []) (f := fVar 0) (g := fTup fNil) (sl := sl') (s := s) (s1 := s) (s2 := s) rfl (tup_ok nil_ok small0) (eqO_cl (neg := false) hcl.1 rfl (by omega) (by rw [dp_tup, dps_nil]; decide)) |> fB_ok) (fB_ok (f2_ok hm5 (y := .int 1) (g := fC (.int 1)) (s2 := s) rfl (eqO_int false _ _ _)))
      rw [mk_enc]
      cases hc : (ng false (decide (D.tup (xs.map encPv) = D.tup [])) || ng false (decide (path % 5 = 1))) with
      | true =>
        rw [hc] at t2
        obtain ⟨v', J, h1, e⟩ := bent_mid xs path L hL s ho hxl
        exact ⟨v', h1, fnD_rt (sq_skip t1 (seqS_rt (ifT t2 e))) (close_junk s J _ (low_mono (Nat.zero_le _) _ v'.low) v'.own)⟩
      | false =>
        rw [hc] at t2
        have hne : xs ≠ [] := fun z => by
          subst z
          have : decide (D.tup (List.map encPv []) = D.tup []) = true := decide_eq_true rfl
          rw [this] at hc
          cases hc
        have hpos : 0 < xs.length := List.length_pos_iff.mpr hne
        obtain ⟨j, hj⟩ : ∃ j : Nat, path / 5 % (xs.length : Int) = (j : Int) := ⟨(path / 5 % (xs.length : Int)).toNat, by have := Int.emod_nonneg (path / 5) (show (xs.length : Int) ≠ 0 by omega); omega⟩
        have hjl : j < xs.length := by have := Int.emod_lt_of_pos (path / 5) (show 0 < (xs.length : Int) by omega); omega
        have e8 : (f2 modO (f2 fdivO (fVar 1) (fC (.int 5))) (fN lenO (fCons (fVar 0) fNil))) sl' s = some (.ok (.int j) s) := by
          refine f2_ok (div_at 5 (by decide) (v_ok (i := 1) rfl)) (fN_ok (o := lenO) (z := .int (xs.map encPv).length) (one_ok (x := .tup (xs.map encPv)) (f := fVar 0) rfl) rfl) ?_
          rw [List.length_map]
          show (if 0 < (xs.length : Int) then _ else _) = _
          rw [if_pos (by omega), hj]
        let sl8 : Sl := [some (.tup (xs.map encPv)), some (.int path), some (.lst (L.map D.str)), none, none, none, none, none, some (.int j), none]
        have hat : ∀ z9 : Option D, (f2 ixO (fVar 0) (fVar 8)) [some (.tup (xs.map encPv)), some (.int path), some (.lst (L.map D.str)), none, none, none, none, none, some (.int j), z9] s = some (.ok (encPv xs[j]) s) := fun z9 => f2_ok (x := .tup (xs.map encPv)) (y := .int j) (s1 := s) rfl rfl (show atI (xs.map encPv) (j : Int) = _ from atI_nat (by rw [List.getElem?_map, List.getElem?_eq_getElem hjl]; rfl))
        have hjm : xs[j] ∈ xs := List.getElem_mem hjl
        have hdx : ∀ q ∈ xs, q.2.dep ≤ n ∧ q.2.dep ≤ 30 := fun q hq => by
          have hp := q.2.dep_pos
          have h1 : (mk xs).dep ≤ ((mk xs).dep - 1) + 1 := by omega
          have := mk_dep.mp h1 q hq
          have := (mk xs).dep_pos
          omega
        obtain ⟨v', hv', e9⟩ := hG s xs[j].2 (path / 20) L (hok _ hjm).2 (hdx _ hjm).1 (hdx _ hjm).2 (hxw _ hjm) hL
        have e9' : (fCall 3 G (fCons (f2 ixO (f2 ixO (fVar 0) (fVar 8)) (fC (.int 1))) (fCons (f2 fdivO (fVar 1) (fC (.int 20))) (fCons (fVar 2) fNil)))) sl8 s = some (.ok v'.enc s) :=
          call_ok (ds := [xs[j].2.enc, .int (path / 20), .lst (L.map D.str)]) (cons_ok (f2_ok (hat none) (y := .int 1) (s2 := s) rfl (pv_ix1 _ s)) (two_ok (div_at 20 (by decide) (v_ok (i := 1) rfl)) (y := .lst (L.map D.str)) rfl)) e9
        let sl9 : Sl := [some (.tup (xs.map encPv)), some (.int path), some (.lst (L.map D.str)), none, none, none, none, none, some (.int j), some v'.enc]
        let zs : List Pv := xs.take j ++ [(xs[j].1, v')] ++ xs.drop (j + 1)
        have hz1 : zs.map (·.1) = xs.map (·.1) := by
          show (xs.take j ++ [(xs[j].1, v')] ++ xs.drop (j + 1)).map (·.1) = _
          have h1 : xs.map (·.1) = (xs.take j).map (·.1) ++ (xs.drop j).map (·.1) := by rw [← List.map_append, List.take_append_drop]
          rw [h1, List.drop_eq_getElem_cons hjl, List.map_append, List.map_append, List.append_assoc]
          rfl
        have hz2 : ∀ q ∈ zs, OkT8 q.1 ∧ q.2.ok := fun q hq => by
          rcases List.mem_append.mp hq with h | h
          · rcases List.mem_append.mp h with h | h
            · exact hok q (List.mem_of_mem_take h)
            · rw [List.mem_singleton.mp h]; exact ⟨(hok _ hjm).1, hv'⟩
          · exact hok q (List.mem_of_mem_drop h)
        have hc1 : (fSl (fVar 0) fNo (fSome (fVar 8))) sl9 s = some (.ok (.tup ((xs.take j).map encPv)) s) := by
          show some (R.ok (D.tup (cutL (xs.map encPv) none (some (j : Int)))) s) = _
          rw [cutL_map, cutL_to _ _ (by omega)]
        have hc2 : (fSl (fVar 0) (fSome (f2 addO (fVar 8) (fC (.int 1)))) fNo) sl9 s = some (.ok (.tup ((xs.drop (j + 1)).map encPv)) s) := by
          show some (R.ok (D.tup (cutL (xs.map encPv) (some ((j : Int) + 1)) none)) s) = _
          rw [cutL_map, show ((j : Int) + 1) = ((j + 1 : Nat) : Int) from rfl, cutL_from _ _ (by omega)]
        have hmid : (fTup (fCons (fTup (fCons (f2 ixO (f2 ixO (fVar 0) (fVar 8)) (fC (.int 0))) (fCons (fVar 9) fNil))) fNil)) sl9 s = some (.ok (.tup [encPv (xs[j].1, v')]) s) :=
          tup_ok (one_ok (tup_ok (two_ok (f2_ok (hat (some v'.enc)) (y := .int 0) (s2 := s) rfl (pv_ix0 _ s)) (y := v'.enc) rfl) small2)) small1
        have htl : (xs.take j).length ≤ 30 := by rw [List.length_take]; omega
        have hdl : (xs.drop (j + 1)).length ≤ 30 := by rw [List.length_drop]; omega
        have ha1 : (f2 addO (fSl (fVar 0) fNo (fSome (fVar 8))) (fTup (fCons (fTup (fCons (f2 ixO (f2 ixO (fVar 0) (fVar 8)) (fC (.int 0))) (fCons (fVar 9) fNil))) fNil))) sl9 s = some (.ok (.tup ((xs.take j).map encPv ++ [encPv (xs[j].1, v')])) s) := f2_ok hc1 hmid (by
          have : small (((xs.take j).map encPv).length + [encPv (xs[j].1, v')].length) = true := smallOf (by rw [List.length_map]; simp only [List.length_singleton]; omega)
          show (if _ = true then _ else _) = _
          rw [if_pos this])
        have ha2 := f2_ok (o := addO) ha1 hc2 (z := .tup (((xs.take j).map encPv ++ [encPv (xs[j].1, v')]) ++ (xs.drop (j + 1)).map encPv)) (by
          have : small (((xs.take j).map encPv ++ [encPv (xs[j].1, v')]).length + ((xs.drop (j + 1)).map encPv).length) = true := smallOf (by rw [List.length_append, List.length_map, List.length_map]; simp only [List.length_singleton]; omega)
          show (if _ = true then _ else _) = _
          rw [if_pos this])
        have hze : (mk zs).enc = .tup (((xs.take j).map encPv ++ [encPv (xs[j].1, v')]) ++ (xs.drop (j + 1)).map encPv) := by
          rw [mk_enc]
          show D.tup ((xs.take j ++ [(xs[j].1, v')] ++ xs.drop (j + 1)).map encPv) = _
          rw [List.map_append, List.map_append]
          rfl
        refine ⟨mk zs, mk_ok.mpr ⟨by rw [hz1]; exact nd, hz2⟩, ?_⟩
        rw [hze]
        refine fnD_rt (s' := s) (sq_skip t1 (sq_skip t2 (sq_set e8 (sq_set e9' (retS_ok ha2))))) ?_
        rw [← hze]
        exact close_low s _ (low_mono (Nat.zero_le _) _ (mk zs).low) (mk zs).own
theorem bent_all : ∀ n, BentSpec (R_bent n) n
  | 0 => fun s v path L _ hd _ _ _ => by have := v.dep_pos; omega
  | n + 1 => bent_step (bent_all n)
theorem bent_eq : BentSpec D_bent 20 := bent_all 20
end Pr

set_option Elab.async false
set_option linter.all false
set_option maxRecDepth 100000
set_option maxHeartbeats 4000000
/-! V7: the law. -/
namespace Pr
open PySem L2 PD Qk
theorem eqO_bl (neg : Bool) (s : Sto) (a b : Bool) : eqO neg s (.bl a) (.bl b) = some (.bl (ng neg (decide (a = b)))) := by
  have h : decide (V.bl a = V.bl b) = decide (a = b) := by
    by_cases e : a = b
    · subst e; simp
    · simp [e]
  show ((if scal (V.bl a) (V.bl b) = true then some (decide (V.bl a = V.bl b)) else deepB s (.bl a) (.bl b)).map fun b => D.bl (ng neg b)) = _
  rw [if_pos (show scal _ _ = true from rfl), h]
  rfl
theorem cell_call (ns : List Int) (i : Nat) (s : Sto) : ∃ v : Int, 0 ≤ v ∧ v < 2147483647 ∧ ∀ sl : Sl, sl[0]? = some (some (.scr (ns.map D.int))) → (fCall 2 D_cell (fCons (fVar 0) (fCons (fC (.int (i : Nat))) fNil))) sl s = some (.ok (.int v) s) := by
  obtain ⟨v, h1, h2, e⟩ := cell_eq ns i s
  exact ⟨v, h1, h2, fun sl h => call_ok (ds := [.scr (ns.map D.int), .int (i : Nat)]) (two_ok (v_ok h) rfl) e⟩
noncomputable abbrev lawTurn : SD := (seqS (setS 8 (fCall 2 D_is_of (fCons (fVar 5) (fCons (fVar 7) fNil))))
    (ifS (fOr (fNot (fTru (f1 (isiO "bool") (fVar 8)))) (fB (f2 (eqO true) (fVar 8) (fCall 2 D_due (fCons (fVar 5) (fCons (fVar 7) fNil)))))) (retS (fC (.bl false))) nextS))
theorem turn_ok (v : Vl) (hv : v.ok) (κ : Ki) (hd : κ.dep ≤ 8) (hk : κ.kn ≤ 100000) (s : Sto) (x0 x1 x2 x3 x4 x6 x8 : Option D) :
    lawTurn [x0, x1, x2, x3, x4, some v.enc, x6, some κ.enc, x8] s = some (.nx [x0, x1, x2, x3, x4, some v.enc, x6, some κ.enc, some (.bl (ofB κ v))] s) := by
  let sl8 : Sl := [x0, x1, x2, x3, x4, some v.enc, x6, some κ.enc, some (.bl (ofB κ v))]
  have e1 : (fCall 2 D_is_of (fCons (fVar 5) (fCons (fVar 7) fNil))) [x0, x1, x2, x3, x4, some v.enc, x6, some κ.enc, x8] s = some (.ok (.bl (ofB κ v)) s) := call_ok (ds := [v.enc, κ.enc]) (two_ok rfl rfl) (is_of_eq v κ s hv hk)
  have e2 : (fCall 2 D_due (fCons (fVar 5) (fCons (fVar 7) fNil))) sl8 s = some (.ok (.bl (ofB κ v)) s) := call_ok (ds := [v.enc, κ.enc]) (two_ok rfl rfl) (due_eq κ v s hd hv)
  have t1 : (fNot (fTru (f1 (isiO "bool") (fVar 8)))) sl8 s = some (.ok false s) := not_ok (tru_bl (f1_ok (x := .bl (ofB κ v)) (s1 := s) (z := .bl true) rfl rfl))
  have t2 : (fB (f2 (eqO true) (fVar 8) (fCall 2 D_due (fCons (fVar 5) (fCons (fVar 7) fNil))))) sl8 s = some (.ok false s) := fB_ok (f2_ok (x := .bl (ofB κ v)) (s1 := s) rfl e2 (by rw [eqO_bl, decide_eq_true rfl]; rfl))
  exact sq_set e1 ((ifS_f (or_f t1 t2)).trans rfl)
theorem turns (v : Vl) (hv : v.ok) (s : Sto) (x0 x1 x2 x3 x4 x6 : Option D) (a : Src) (ha : a.2 = none) : ∀ (κs : List Ki) (x7 x8 : Option D), (∀ κ ∈ κs, κ.dep ≤ 8 ∧ κ.kn ≤ 100000) →
    ∃ y7 y8, forL (tdName 7) lawTurn a (κs.map Ki.enc) [x0, x1, x2, x3, x4, some v.enc, x6, x7, x8] s = some (.nx [x0, x1, x2, x3, x4, some v.enc, x6, y7, y8] s)
  | [], x7, x8, _ => ⟨x7, x8, rfl⟩
  | κ :: κs, x7, x8, h => by
    have hck : ∀ s2, Ck a s2 := fun s2 => by unfold Ck; rw [ha]; trivial
    obtain ⟨h1, h2⟩ := h κ List.mem_cons_self
    obtain ⟨y7, y8, e⟩ := turns v hv s x0 x1 x2 x3 x4 x6 a ha κs (some κ.enc) (some (.bl (ofB κ v))) fun q hq => h q (List.mem_cons_of_mem _ hq)
    exact ⟨y7, y8, (forL_cons (T := tdName 7) (x := κ.enc) (sl := [x0, x1, x2, x3, x4, some v.enc, x6, x7, x8]) (sl1 := [x0, x1, x2, x3, x4, some v.enc, x6, some κ.enc, x8]) rfl (turn_ok v hv κ h1 h2 s x0 x1 x2 x3 x4 x6 x8) (hck _)).trans e⟩
theorem law_true (ns : List Int) (h : ns.length ≤ 63) : ∃ s, D_law [.scr (ns.map D.int)] [] = some (.ok (.bl true) s) := by
  let sc : D := .scr (ns.map D.int)
  obtain ⟨v2, _, _, e2⟩ := cell_call ns 2 []
  obtain ⟨L, hL, eL⟩ := labels_eq v2 4 (by decide) []
  obtain ⟨v0, _, _, e0⟩ := cell_call ns 0 []
  obtain ⟨v1, p1, _, e1⟩ := cell_call ns 1 []
  let A : Int := 1 + v0 % 2147483645
  let B : Int := 1 + v1 % 20
  let S1 : Sto := [stC A B]
  obtain ⟨v3, _, _, e3⟩ := cell_call ns 3 S1
  let m0 : Int := 1 + v3 % 1000000
  let S3 : Sto := [stC A B, .lst [], .lst [.int m0, .own 1]]
  obtain ⟨u1, _, _, f1'⟩ := cell_call ns 1 S3
  have hst : Stands S3 0 2 1 A B m0 [] := ⟨rfl, rfl, rfl, by decide, by decide, by decide⟩
  have hB : B.toNat ≤ 20 := by show (1 + v1 % 20).toNat ≤ 20; omega
  obtain ⟨κ, A', B', M', kr, ek⟩ := kind_eq S3 0 2 1 A B m0 [] (1 + u1 / 20 % 5) L hst (by show 1 ≤ 1 + v3 % 1000000; omega) (by show 1 + v3 % 1000000 ≤ 2000000; omega) (fun _ z => (nomatch z)) (by show 0 + B.toNat ≤ 1000; omega) (by omega) hL
  have hkn : κ.kn ≤ 100000 := by have := kr.kn; omega
  have hkd : κ.dep ≤ 5 := by have := kr.dep; omega
  let S4 : Sto := upS S3 0 1 A' B' M'
  obtain ⟨v, A2, B2, w1, w2, w3, w4, ev⟩ := value_eq S4 0 A' B' κ L (hst.up A' B' M').k1 kr.ok (by omega) kr.wid hL
  let S5 : Sto := S4.set 0 (stC A2 B2)
  obtain ⟨way, _, _, ew⟩ := cell_call ns 4 S5
  have q2 : (f2 addO (fC (.int 1)) (f2 modO (fCall 2 D_cell (fCons (fVar 0) (fCons (fC (.int 0)) fNil))) (fC (.int 2147483645)))) [some sc, some (.lst (L.map D.str)), none, none, none, none, none, none, none] [] = some (.ok (.int A) []) :=
    f2_ok (x := .int 1) (s1 := []) rfl (mod_at 2147483645 (by decide) (e0 _ rfl)) rfl
  have q2' : (f2 addO (fC (.int 1)) (f2 modO (fCall 2 D_cell (fCons (fVar 0) (fCons (fC (.int 1)) fNil))) (fC (.int 20)))) [some sc, some (.lst (L.map D.str)), none, none, none, none, none, none, none] [] = some (.ok (.int B) []) :=
    f2_ok (x := .int 1) (s1 := []) rfl (mod_at 20 (by decide) (e1 _ rfl)) rfl
  have g2 := own_ok (two_ok q2 q2') small2
  have pw : (f2 powO (fC (.int 10)) (fC (.int 6))) [some sc, some (.lst (L.map D.str)), some (.own 0), none, none, none, none, none, none] S1 = some (.ok (.int 1000000) S1) := f2_ok (x := .int 10) (y := .int 6) (s1 := S1) rfl rfl (by simp [powO])
  have q3 : (f2 addO (fC (.int 1)) (f2 modO (fCall 2 D_cell (fCons (fVar 0) (fCons (fC (.int 3)) fNil))) (f2 powO (fC (.int 10)) (fC (.int 6))))) [some sc, some (.lst (L.map D.str)), some (.own 0), none, none, none, none, none, none] S1 = some (.ok (.int m0) S1) :=
    f2_ok (x := .int 1) (s1 := S1) rfl (f2_ok (e3 _ rfl) pw (z := .int (v3 % 1000000)) (by simp [modO])) rfl
  have g3 := own_ok (two_ok q3 (own_ok (sl := [some sc, some (.lst (L.map D.str)), some (.own 0), none, none, none, none, none, none]) (s1 := S1) nil_ok small0)) small2
  have q4 : (f2 addO (fC (.int 1)) (f2 modO (f2 fdivO (fCall 2 D_cell (fCons (fVar 0) (fCons (fC (.int 1)) fNil))) (fC (.int 20))) (fC (.int 5)))) [some sc, some (.lst (L.map D.str)), some (.own 0), some (.own 2), none, none, none, none, none] S3 = some (.ok (.int (1 + u1 / 20 % 5)) S3) :=
    f2_ok (x := .int 1) (s1 := S3) rfl (mod_at 5 (by decide) (div_at 20 (by decide) (f1' _ rfl))) rfl
  have g4 : (fCall 4 D_kind (fCons (fVar 2) (fCons (fVar 1) (fCons (fVar 3) (fCons (f2 addO (fC (.int 1)) (f2 modO (f2 fdivO (fCall 2 D_cell (fCons (fVar 0) (fCons (fC (.int 1)) fNil))) (fC (.int 20))) (fC (.int 5)))) fNil))))) [some sc, some (.lst (L.map D.str)), some (.own 0), some (.own 2), none, none, none, none, none] S3 = some (.ok κ.enc S4) :=
    call_ok (ds := [.own 0, .lst (L.map D.str), .own 2, .int (1 + u1 / 20 % 5)]) (cons_ok (x := .own 0) rfl (cons_ok (x := .lst (L.map D.str)) rfl (two_ok (x := .own 2) rfl q4))) ek
  have g5 : (fCall 3 D_value (fCons (fVar 2) (fCons (fVar 4) (fCons (fVar 1) fNil)))) [some sc, some (.lst (L.map D.str)), some (.own 0), some (.own 2), some κ.enc, none, none, none, none] S4 = some (.ok v.enc S5) :=
    call_ok (ds := [.own 0, κ.enc, .lst (L.map D.str)]) (cons_ok (x := .own 0) rfl (two_ok (x := κ.enc) rfl rfl)) ev
  have t5 : (fB (f2 (isBO true) (fCall 2 D_is_of (fCons (fVar 5) (fCons (fVar 4) fNil))) (fC (.bl true)))) [some sc, some (.lst (L.map D.str)), some (.own 0), some (.own 2), some κ.enc, some v.enc, none, none, none] S5 = some (.ok false S5) :=
    fB_ok (f2_ok (call_ok (ds := [v.enc, κ.enc]) (two_ok rfl rfl) (is_of_eq v κ S5 w1 hkn)) rfl (by rw [w4]; rfl))
  have g1 : (fCall 2 D_labels (fCons (fCall 2 D_cell (fCons (fVar 0) (fCons (fC (.int 2)) fNil))) (fCons (fC (.int 4)) fNil))) [some sc, none, none, none, none, none, none, none, none] [] = some (.ok (.lst (L.map D.str)) []) :=
    call_ok (ds := [.int v2, .int 4]) (two_ok (e2 _ rfl) rfl) eL
  have g6 : (fCall 2 D_cell (fCons (fVar 0) (fCons (fC (.int 4)) fNil))) [some sc, some (.lst (L.map D.str)), some (.own 0), some (.own 2), some κ.enc, some v.enc, none, none, none] S5 = some (.ok (.int way) S5) := ew _ rfl
  let sl6 : Sl := [some sc, some (.lst (L.map D.str)), some (.own 0), some (.own 2), some κ.enc, some v.enc, some (.int way), none, none]
  have t6 : (fB (f2 gtO (f2 modO (fVar 6) (fC (.int 3))) (fC (.int 0)))) sl6 S5 = some (.ok (decide (way % 3 > 0)) S5) := fB_ok (f2_ok (mod_at 3 (by decide) (v_ok (i := 6) rfl)) (y := .int 0) (s2 := S5) rfl rfl)
  have fin : ∀ v' : Vl, v'.ok → ∃ s, (seqS (forS (tdName 7) (fIt (fLst (fCons (fVar 4) (fCons (fTup (fCons (fC (.str (PySem.Str.ofString "number"))) fNil)) (fCons (fVar 4) fNil))))) lawTurn)
      (retS (fAndV (f2 (isBO false) (fCall 2 D_is_of (fCons (fVar 5) (fCons (fTup (fCons (fC (.str (PySem.Str.ofString "blank"))) (fCons (fC (.int 3)) fNil))) fNil))) (fC (.bl true))) (f2 (eqO false) (fCall 2 D_is_of (fCons (fVar 5) (fCons (fTup (fCons (fC (.str (PySem.Str.ofString "record"))) (fCons (fTup fNil) (fCons (fC (.int 0)) fNil)))) fNil))) (f1 (isiO "tuple") (fVar 5))))))
      [some sc, some (.lst (L.map D.str)), some (.own 0), some (.own 2), some κ.enc, some v'.enc, some (.int way), none, none] S5 = some (.rt (.bl true) s) := fun v' hv' => by
    let sl7 : Sl := [some sc, some (.lst (L.map D.str)), some (.own 0), some (.own 2), some κ.enc, some v'.enc, some (.int way), none, none]
    have hl : (fLst (fCons (fVar 4) (fCons (fTup (fCons (fC (.str (PySem.Str.ofString "number"))) fNil)) (fCons (fVar 4) fNil)))) sl7 S5 = some (.ok (.lst ([κ, .num, κ].map Ki.enc)) S5) :=
      lst_ok (cons_ok (x := κ.enc) rfl (two_ok (tup_ok (one_ok (x := .str (SS "number")) rfl) small1) rfl)) small3
    obtain ⟨y7, y8, e⟩ := turns v' hv' S5 (some sc) (some (.lst (L.map D.str))) (some (.own 0)) (some (.own 2)) (some κ.enc) (some (.int way)) ([κ, .num, κ].map Ki.enc, none) rfl [κ, .num, κ] none none (fun q hq => by
      simp only [List.mem_cons, List.not_mem_nil, or_false] at hq
      rcases hq with rfl | rfl | rfl
      · exact ⟨by omega, hkn⟩
      · exact ⟨by simp [Ki.dep], by simp [Ki.kn]⟩
      · exact ⟨by omega, hkn⟩)
    have hfor := (forS_of (it_ok hl rfl) (ck_none _ _)).trans e
    let sl9 : Sl := [some sc, some (.lst (L.map D.str)), some (.own 0), some (.own 2), some κ.enc, some v'.enc, some (.int way), y7, y8]
    have z1 : (f2 (isBO false) (fCall 2 D_is_of (fCons (fVar 5) (fCons (fTup (fCons (fC (.str (PySem.Str.ofString "blank"))) (fCons (fC (.int 3)) fNil))) fNil))) (fC (.bl true))) sl9 S5 = some (.ok (.bl true) S5) :=
      f2_ok (call_ok (ds := [v'.enc, (Ki.bl 3).enc]) (two_ok rfl (tup_ok (two_ok (x := .str (SS "blank")) (s1 := S5) rfl rfl) small2)) (is_of_eq v' (.bl 3) S5 hv' (by simp [Ki.kn]))) rfl rfl
    have z2 : (f2 (eqO false) (fCall 2 D_is_of (fCons (fVar 5) (fCons (fTup (fCons (fC (.str (PySem.Str.ofString "record"))) (fCons (fTup fNil) (fCons (fC (.int 0)) fNil)))) fNil))) (f1 (isiO "tuple") (fVar 5))) sl9 S5 = some (.ok (.bl true) S5) := by
      refine f2_ok (call_ok (ds := [v'.enc, (Ki.rc .nil (some 0)).enc]) (two_ok rfl (tup_ok (cons_ok (x := .str (SS "record")) rfl (two_ok (tup_ok (xs := []) nil_ok small0) rfl)) small3)) (is_of_eq v' (.rc .nil (some 0)) S5 hv' (by simp [Ki.kn, Fs.kns]))) (isi_v (v := v') rfl) ?_
      rw [eqO_bl]
      cases v' <;> rfl
    exact ⟨_, sq_nx hfor (retS_ok (andV_t z1 z2))⟩
  have close : ∀ s, g_law [some sc, none, none, none, none, none, none, none, none] [] = some (.rt (.bl true) s) → ∃ s, D_law [.scr (ns.map D.int)] [] = some (.ok (.bl true) s) := fun s e => ⟨[], fnD_rt e (close_jbl [] s true)⟩
  cases hc : decide (way % 3 > 0) with
  | false =>
    rw [hc] at t6
    obtain ⟨s, e⟩ := fin v w1
    exact close s (sq_set g1 (sq_set g2 (sq_set g3 (sq_set g4 (sq_set g5 (sq_skip t5 (sq_set g6 (sq_skip t6 e))))))))
  | true =>
    rw [hc] at t6
    obtain ⟨v', hv', eb⟩ := bent_eq S5 v (way / 3) L w1 (by omega) (by omega) (by omega) hL
    have g7 : (fCall 3 D_bent (fCons (fVar 5) (fCons (f2 fdivO (fVar 6) (fC (.int 3))) (fCons (fVar 1) fNil)))) sl6 S5 = some (.ok v'.enc S5) :=
      call_ok (ds := [v.enc, .int (way / 3), .lst (L.map D.str)]) (cons_ok (x := v.enc) rfl (two_ok (div_at 3 (by decide) (v_ok (i := 6) rfl)) rfl)) eb
    obtain ⟨s, e⟩ := fin v' hv'
    exact close s (sq_set g1 (sq_set g2 (sq_set g3 (sq_set g4 (sq_set g5 (sq_skip t5 (sq_set g6 (sq_nx (ifT t6 (setS_ok g7)) e))))))))
end Pr


set_option Elab.async false
set_option linter.all false
set_option maxRecDepth 100000
set_option maxHeartbeats 8000000
open PySem PySem.W PyProof.Rows
set_option maxHeartbeats 0 in
theorem PySem.Challenge.cw_fieldrest_k05_values_of_kinds_holds : PySem.Challenge.rw_fieldrest_k05_values_of_kinds.Holds := by
  w_on; o_law; k_head; (case hw => w_witness2)
  k_fill
  refine L2.walk_of (l := PySem.Challenge.rw_fieldrest_k05_values_of_kinds) (n := 63) (k := 21) (x := "_law_script") (CX := fun w => L2.CX PySem.Challenge.rw_fieldrest_k05_values_of_kinds.prog w) (sp := fun w => PD.spT _ []) rfl (by decide) rfl ⟨rfl, by decide, by decide⟩ (fun w h Y => PySem.W.kIn_of Y) ?F (fun _ _ a ns hl _ hS => ⟨a, ns, rfl, hS, hl, fun p hp => absurd hp (by simp), fun _ => rfl⟩) (fun _ _ _ _ _ h => PD.cx_none h)
  case F =>
    intro w mg fa h KX G hmg
    refine' Pr.all_mk Pr.law_true KX G hmg ?ha_is_of ?hl_is_of ?hc_is_of ?hk_is_of ?ha_is_number ?hl_is_number ?hc_is_number ?hk_is_number ?ha_has_labels ?hl_has_labels ?hc_has_labels ?hk_has_labels ?ha_cell ?hl_cell ?hc_cell ?hk_cell ?ha_next ?hl_next ?hc_next ?hk_next ?ha_labels ?hl_labels ?hc_labels ?hk_labels ?ha_kind ?hl_kind ?hc_kind ?hk_kind ?ha_any ?hl_any ?hc_any ?hk_any ?ha_value ?hl_value ?hc_value ?hk_value ?ha_bent ?hl_bent ?hc_bent ?hk_bent ?ha_due ?hl_due ?hc_due ?hk_due ?ha_law ?hl_law ?hc_law ?hk_law ?hz_bool ?hz_dict ?hz_int ?hz_isinstance ?hz_len ?hz_list ?hz_range ?hz_sorted ?hz_tuple
    (case ha_is_of => k_is)
    (case hl_is_of => k_is)
    (case hc_is_of => k_is)
    (case hk_is_of => k_is)
    (case ha_is_number => k_is)
    (case hl_is_number => k_is)
    (case hc_is_number => k_is)
    (case hk_is_number => k_is)
    (case ha_has_labels => k_is)
    (case hl_has_labels => k_is)
    (case hc_has_labels => k_is)
    (case hk_has_labels => k_is)
    (case ha_cell => k_is)
    (case hl_cell => k_is)
    (case hc_cell => k_is)
    (case hk_cell => k_is)
    (case ha_next => k_is)
    (case hl_next => k_is)
    (case hc_next => k_is)
    (case hk_next => k_is)
    (case ha_labels => k_is)
    (case hl_labels => k_is)
    (case hc_labels => k_is)
    (case hk_labels => k_is)
    (case ha_kind => k_is)
    (case hl_kind => k_is)
    (case hc_kind => k_is)
    (case hk_kind => k_is)
    (case ha_any => k_is)
    (case hl_any => k_is)
    (case hc_any => k_is)
    (case hk_any => k_is)
    (case ha_value => k_is)
    (case hl_value => k_is)
    (case hc_value => k_is)
    (case hk_value => k_is)
    (case ha_bent => k_is)
    (case hl_bent => k_is)
    (case hc_bent => k_is)
    (case hk_bent => k_is)
    (case ha_due => k_is)
    (case hl_due => k_is)
    (case hc_due => k_is)
    (case hk_due => k_is)
    (case ha_law => k_is)
    (case hl_law => k_is)
    (case hc_law => k_is)
    (case hk_law => k_is)
    (case hz_bool => k_is)
    (case hz_dict => k_is)
    (case hz_int => k_is)
    (case hz_isinstance => k_is)
    (case hz_len => k_is)
    (case hz_list => k_is)
    (case hz_range => k_is)
    (case hz_sorted => k_is)
    (case hz_tuple => k_is)