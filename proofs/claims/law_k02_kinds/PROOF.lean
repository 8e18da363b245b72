import PyProof.Rows.All
import Wide.All
import OpenK.AllK
import Wide.FinOn
import HandS.ForMost
import HandS.ForExc
import HandS.Walk
import HandS.Style
import HandS.IsInst
import HandS.Deep
import HandS.StrMore
import HandS.Wide
import HandS.Conv
import HandS.Flow
import HandS.TupAny
import HandS.AnyAll
import KE.KDictPairs
import HandS.SetKeys
import HandS.Finally
import HandS.SortInts
import HandS.Text
import HandS.More
import HandS.EndOwn
import PySem.Challenge.RW_fieldrest_k02_kinds
set_option Elab.async false
set_option linter.all false
set_option maxRecDepth 100000
set_option maxHeartbeats 4000000
/-! PD0: tuples that are known to have no dict; dict of such. -/
namespace PD
open PySem PySem.Spec PyProof.Rows L2
/-- a tuple without a dict of its own -/
def SqN (H : Hp) (a : Addr) (xs : List V) : Prop := ∃ o, H a = some (.frz o (.tup xs)) ∧ o.dict = none
theorem SqN.seq {K : PySem.W.Frag} {H : Hp} {a : Addr} {xs : List V} (h : SqN H a xs) : SqT K H a xs := let ⟨o, h, _⟩ := h; .inl (.inr ⟨o, h⟩)
theorem SqN.mk {H : Hp} {a : Addr} {o : Obj} {xs : List V} (hd : o.dict = none) : SqN (upd H a (.frz o (.tup xs))) a xs := ⟨o, upd_same, hd⟩
section
variable {X : Cx} {es : List Expr} {t : TA} {pos : Pos}
def tTupF (t : TA) : TE := fun σ H Q => t σ H fun xs H1 => xs.length ≤ sizeLine ∧ ∀ p o, o.dict = none → H1 p = none → Q (.ref p) (upd H1 p (.frz o (.tup xs)))
theorem pe_tupF {x1} (h : PA X es t) : PE X (.Tuple es x1 pos) (tTupF t) := by
  refine ⟨fun pins s σ H Q I hq => ?_⟩
  refine wpAny_Tuple_spliced (thn (h.run pos pins s σ H _ I hq) fun us s1 ⟨xs, H1, I1, r, z, q⟩ => ⟨by rw [← r.length]; exact z, ?_⟩)
  have hf : H1 s1.heap.objs.size = none := I1.hok.fresh (Nat.le_refl _)
  refine ⟨.ref s1.heap.objs.size, _, I1.laid (t' := s1.toks) (o := .frz { cls := .type "tuple", data := .seq us.toArray } (.tup xs)) (fun b u e => Heap.get?_push_of_some _ e) (Nat.le_refl _) ?_, rfl, q _ _ rfl hf⟩
  exact ⟨Heap.get?_push_size _ rfl, z, us, r, ⟨_, Heap.get?_push_size _ rfl, rfl, _, rfl⟩⟩
/-- t + u -/
def rCatF (K : PySem.W.Frag) : R2 := fun x y H Q => ∃ a b xs ys, x = .ref a ∧ y = .ref b ∧ SqT K H a xs ∧ SqT K H b ys ∧ xs.length + ys.length ≤ sizeLine ∧
  (xs = [] → Q (.ref b) H) ∧ (xs ≠ [] → ys = [] → Q (.ref a) H) ∧ (xs ≠ [] → ys ≠ [] → ∀ p o, o.dict = none → H p = none → Q (.ref p) (upd H p (.frz o (.tup (xs ++ ys)))))
theorem op_catF : OpR X (binaryOp .Add) (rCatF X.K) := by
  intro pins s σ H x y v u Q I rx ry h
  obtain ⟨a, b, xs, ys, rfl, rfl, ha, hb, hz, q0, q1, q2⟩ := h
  cases rx
  cases ry
  obtain ⟨its, r1, p1, _⟩ := I.tuple ha
  obtain ⟨its2, r2, p2, _⟩ := I.tuple hb
  by_cases hx : xs = []
  · subst hx
    cases r1
    exact cat_tup0 p1 p2 ⟨.ref b, H, I, rfl, q0 rfl⟩
  · refine HT.cat_tup p1 p2 (fun z => hx (r1.nil_iff.mp z)) (fun z => ⟨.ref a, H, I, rfl, q1 hx (r2.nil_iff.mp z)⟩) (fun z => ?_) (by rw [← r1.length, ← r2.length]; exact hz)
    refine ⟨.ref s.heap.objs.size, _, I.laid (t' := s.toks) (o := .frz { cls := .type "tuple", data := .seq (its ++ its2).toArray } (.tup (xs ++ ys))) (fun b ob q => Heap.get?_push_of_some _ q) (Nat.le_refl _) ?_, rfl, q2 hx (fun w => z (r2.nil_iff.mpr w)) _ _ rfl (I.hok.fresh (Nat.le_refl _))⟩
    exact ⟨Heap.get?_push_size _ rfl, by rw [List.length_append]; exact hz, _, r1.append r2, IsTup.new _ _⟩
/-- t[lo:hi] -/
def rSlF (K : PySem.W.Frag) : V → Option Int → Option Int → Hp → VK → Prop := fun x lo hi H Q => ∃ a xs, x = .ref a ∧ SqT K H a xs ∧
  (HT.sIx xs.length 0 lo = 0 ∧ HT.sIx xs.length xs.length hi = xs.length → Q (.ref a) H) ∧ (¬ (HT.sIx xs.length 0 lo = 0 ∧ HT.sIx xs.length xs.length hi = xs.length) → ∀ p o, o.dict = none → H p = none → Q (.ref p) (upd H p (.frz o (.tup (cutV xs lo hi)))))
theorem sl_tupF : SlR X (rSlF X.K) := by
  intro pins s σ H x v vl vu lo hi sl Q I rx hs pl pu h
  obtain ⟨a, xs, rfl, hx, q1, q2⟩ := h
  cases rx
  obtain ⟨its, r, ht, hz⟩ := I.tuple hx
  have hlen : its.toArray.size = xs.length := by rw [List.size_toArray]; exact r.length.symm
  refine ⟨"tuple", _, PyProof.Rows.slot_tuple_getitem.lookup, ht.typeIs, ?_⟩
  by_cases hw : HT.sIx xs.length 0 lo = 0 ∧ HT.sIx xs.length xs.length hi = xs.length
  · exact getItem_tuple_whole ht hs pl pu (by rw [hlen]; exact hw) ⟨.ref a, H, I, rfl, q1 hw⟩
  · refine HT.getItem_tuple_cut ht hs pl pu (by rw [hlen]; exact hw) ?_ (by rw [hlen]; exact hz)
    rw [hlen]
    refine ⟨.ref s.heap.objs.size, _, I.laid (t' := s.toks) (o := .frz { cls := .type "tuple", data := .seq ((its.drop (HT.sIx xs.length 0 lo)).take (HT.sIx xs.length xs.length hi - HT.sIx xs.length 0 lo)).toArray } (.tup (cutV xs lo hi))) (fun b ob q => Heap.get?_push_of_some _ q) (Nat.le_refl _) ?_, rfl, q2 hw _ _ rfl (I.hok.fresh (Nat.le_refl _))⟩
    exact ⟨Heap.get?_push_size _ (by first | rfl | simp), Nat.le_trans (cutV_length xs lo hi) hz, _, (r.drop (HT.sIx xs.length 0 lo)).take (HT.sIx xs.length xs.length hi - HT.sIx xs.length 0 lo), IsTup.new _ _⟩
/-- tuple(x) -/
theorem call_tupleF : CallR X (.type "tuple") (fun xs H Q => ∃ p ys, xs = [.ref p] ∧ ((SqL X.K H p ys ∧ ∀ l o, o.dict = none → H l = none → Q (.ref l) (upd H l (.frz o (.tup ys)))) ∨ (SqT X.K H p ys ∧ Q (.ref p) H))) := by
  intro pins s σ H xs us Q I r h
  obtain ⟨p, ys, rfl, h⟩ := h
  obtain ⟨u, rfl, rx⟩ := vals1 r
  cases rx
  rcases h with ⟨hq, q⟩ | ⟨hq, q⟩
  · obtain ⟨its, r', pl, hz⟩ := I.list hq
    have hlen := r'.length
    refine call_tuple_list pl.isList (fun h' kp => ?_) (by simp only [List.size_toArray] <;> omega)
    have I1 : Inv X pins σ H { s with heap := h' } := I.kept (t' := s.toks) kp
    have I2 : Inv X pins σ (upd H h'.objs.size (.frz { cls := .type "tuple", data := .seq its.toArray } (.tup ys))) { s with heap := h'.push { cls := .type "tuple", data := .seq its.toArray } } :=
      I1.laid (t' := s.toks) (fun b o e => Heap.get?_push_of_some _ e) (Nat.le_refl _) (show ObjOk X.prog X.w _ _ _ (.frz { cls := .type "tuple", data := .seq its.toArray } (.tup ys)) from ⟨Heap.get?_push_size _ rfl, hz, its, r', IsTup.new _ _⟩)
    exact ⟨.ref h'.objs.size, _, I2, rfl, q _ _ rfl (I1.hok.fresh (Nat.le_refl _))⟩
  · obtain ⟨its, r', pl, hz⟩ := I.tuple hq
    exact call_tuple_same pl ⟨.ref p, H, I, rfl, q⟩
/-- dict(t) of a tuple of pairs -/
theorem call_dictT (hcalm : X.calm = true) : CallR X (.type "dict") (fun xs H Q => ∃ (a : Addr) (ps : List Addr) (kvs : List (Key × V)), xs = [.ref a] ∧ SqN H a (ps.map V.ref) ∧ Paired (fun p kv => SqT X.K H p [kV kv.1, kv.2]) ps kvs ∧
    ∀ p, H p = none → Q (.ref p) (upd H p (.dK (mergeK [] kvs)))) := by
  intro pins s σ H xs us Q I r q
  obtain ⟨a, ps, kvs, ex, ⟨ob, hq, hdn⟩, hp, q⟩ := q
  subst ex
  obtain ⟨u, eu, rx⟩ := vals1 r
  subst eu
  cases rx
  obtain ⟨ho, hz, its, rv, ⟨o, ho', hc, n, hdat⟩⟩ := I.hok a _ hq
  rw [ho] at ho'
  cases ho'
  have ei := refs_at rv
  subst ei
  rw [List.length_map] at hz
  obtain ⟨prs, rel, hl, hpr⟩ := pairs_of I hp
  have pr1 : ∀ (j : Nat) (q : Key × Value), prs[j]? = some q → ∃ u, ps[j]? = some (ps.getD j 0) ∧ IsTup s.heap (ps.getD j 0) #[u, q.2] ∧ keyIs q.1 u = true := fun j q e => by
    obtain ⟨b, u, e1, e2, e3⟩ := hpr j q e
    have : ps.getD j 0 = b := by rw [List.getD_eq_getElem?_getD, e1]; rfl
    rw [this]
    exact ⟨u, e1, e2, e3⟩
  have hex : ∀ j : Nat, ∃ u : Value, ∀ q : Key × Value, prs[j]? = some q → IsTup s.heap (ps.getD j 0) #[u, q.2] ∧ keyIs q.1 u = true := fun j => by
    cases e : prs[j]? with
    | none => exact ⟨.none, fun q z => by cases z⟩
    | some q =>
      obtain ⟨u, _, h2, h3⟩ := pr1 j q e
      exact ⟨u, fun q' z => by cases z; exact ⟨h2, h3⟩⟩
  let U : Nat → Value := fun j => Classical.choose (hex j)
  have hU : ∀ (j : Nat) (q : Key × Value), prs[j]? = some q → IsTup s.heap (ps.getD j 0) #[U j, q.2] ∧ keyIs q.1 (U j) = true := fun j => Classical.choose_spec (hex j)
  let prs2 : List (Value × Value) := (List.range prs.length).map fun j => (U j, (prs.getD j (.inl 0, .none)).2)
  have len2 : prs2.length = prs.length := by simp [prs2]
  have at2 : ∀ (j : Nat) (k v : Value), prs2[j]? = some (k, v) → ∃ q, prs[j]? = some q ∧ k = U j ∧ v = q.2 := fun j k v e => by
    have hj : j < prs.length := by rw [← len2]; exact (List.getElem?_eq_some_iff.mp e).1
    simp only [prs2, List.getElem?_map, List.getElem?_range hj, Option.map_some, Option.some.injEq, Prod.mk.injEq] at e
    refine ⟨prs[j], List.getElem?_eq_getElem hj, e.1.symm, ?_⟩
    rw [← e.2, List.getD_eq_getElem?_getD, List.getElem?_eq_getElem hj]
    rfl
  refine _root_.PySem.call_dict_pairs (knd := mixKind X.prog X.w) (kvs := prs) (_root_.PySem.PairArg.tuple a (ps.map Value.ref).toArray (fun j => ps.getD j 0) prs2) (I.ok.hd hcalm) ⟨⟨ob, n, ho, hc, hdn, hdat⟩, ⟨by simp [len2, hl], fun j k v e => ?_⟩⟩ ⟨len2.symm, fun j k v e => ?_⟩ (by rw [len2, hl]; exact hz) fun h' tk hd' k => ?_
  · obtain ⟨q, hq', rfl, rfl⟩ := at2 j k v e
    obtain ⟨u, h1, _, _⟩ := pr1 j q hq'
    obtain ⟨⟨o2, g1, g2, n2, g3⟩, _⟩ := hU j q hq'
    refine ⟨?_, .inl ⟨o2, g1, g2, n2, g3⟩⟩
    rw [List.getElem?_toArray, List.getElem?_map, h1]
    rfl
  · obtain ⟨q, hq', rfl, rfl⟩ := at2 j k v e
    exact ⟨q.1, hq', (hU j q hq').2⟩
  · have hm : (s.heap.objs.size == sysModules) = false := beq_eq_false_iff_ne.mpr (Nat.ne_of_gt I.big)
    have hlen : (mergeK [] kvs).length ≤ sizeLine := by
      refine Nat.le_trans (length_mergeK kvs []) ?_
      rw [List.length_nil, Nat.zero_add, rel.length, hl]
      exact hz
    exact ⟨.ref s.heap.objs.size, upd H s.heap.objs.size (.dK (mergeK [] kvs)), I.laid (t' := tk) (fun b o => k b o (by simp)) (Nat.le_refl _) (show ObjOk X.prog X.w _ _ _ (.dK (mergeK [] kvs)) from ⟨hlen, hm, merged [] prs, KV.merge rel .nil, hd'⟩), rfl, q _ (I.hok.fresh (Nat.le_refl _))⟩
end
end PD

set_option Elab.async false
set_option linter.all false
set_option maxRecDepth 100000
set_option maxHeartbeats 4000000
/-! PD: what a def does, told as a plain function over data and a store of own lists; sound over the hand layer. -/
namespace PD
open PySem PySem.Spec PyProof.Rows L2

/-! ### data, cells, results -/
inductive D where
  | non | bl (b : Bool) | int (i : Int) | str (s : Str)
  | lst (xs : List D) | tup (xs : List D) | par (xs : List D) | scr (xs : List D)
  | own (k : Nat)
  deriving Inhabited
inductive Cell where
  | lst (xs : List D) | dic (kvs : List (Key × D)) | gone
  /-- an instance of an own class; the table of a def's code -/
  | obj (c : Str) (fs : List (Str × D)) | tab (x : Str)
  deriving Inhabited
abbrev Sto := List Cell
abbrev Sl := List (Option D)
inductive R (α : Type) where
  | ok (a : α) (s : Sto) | ex (c : Str) (s : Sto)
abbrev M (α : Type) := Sto → Option (R α)
inductive RS where
  | nx (l : Sl) (s : Sto) | rt (d : D) (s : Sto) | bk (l : Sl) (s : Sto) | ct (l : Sl) (s : Sto) | ex (c : Str) (l : Sl) (s : Sto)

mutual
/-- all own numbers are below n -/
def D.low (n : Nat) : D → Bool
  | .lst xs => D.lowAll n xs | .tup xs => D.lowAll n xs | .par xs => D.lowAll n xs | .scr xs => D.lowAll n xs
  | .own k => decide (k < n)
  | .non => true | .bl _ => true | .int _ => true | .str _ => true
def D.lowAll (n : Nat) : List D → Bool
  | [] => true | x :: xs => D.low n x && D.lowAll n xs
end
mutual
def py : D → PyData
  | .non => .none | .bl b => .bool b | .int i => .int i | .str s => .str s
  | .lst xs => .list (pyAll xs) | .tup xs => .tuple (pyAll xs) | .par xs => .tuple (pyAll xs) | .scr xs => .list (pyAll xs) | .own _ => .none
def pyAll : List D → List PyData
  | [] => [] | x :: xs => py x :: pyAll xs
end

/-! ### data stands in the heap -/
mutual
inductive Rp (K : PySem.W.Frag) (H : Hp) (O : List Addr) : V → D → Prop
  | non : Rp K H O .non .non
  | bl (b : Bool) : Rp K H O (.bl b) (.bl b)
  | int (i : Int) : Rp K H O (.int i) (.int i)
  | str (x : Str) : Rp K H O (.str x) (.str x)
  | lst {a : Addr} {vs : List V} {ds : List D} : H a = some (.lst vs) → RpAll K H O vs ds → Rp K H O (.ref a) (.lst ds)
  | tup {a : Addr} {vs : List V} {ds : List D} : SqN H a vs → RpAll K H O vs ds → Rp K H O (.ref a) (.tup ds)
  | par {a : Addr} {vs : List V} {ds : List D} : SqT K H a vs → RpAll K H O vs ds → Rp K H O (.ref a) (.par ds)
  | scr {a : Addr} {vs : List V} {ds : List D} : SqL K H a vs → RpAll K H O vs ds → Rp K H O (.ref a) (.scr ds)
  | own {k : Nat} {a : Addr} : O[k]? = some a → Rp K H O (.ref a) (.own k)
inductive RpAll (K : PySem.W.Frag) (H : Hp) (O : List Addr) : List V → List D → Prop
  | nil : RpAll K H O [] []
  | cons {v : V} {vs : List V} {d : D} {ds : List D} : Rp K H O v d → RpAll K H O vs ds → RpAll K H O (v :: vs) (d :: ds)
end
theorem sameT {K : PySem.W.Frag} {H H' : Hp} {a : Addr} {xs : List V} (e : Same H H') (h : SqT K H a xs) : SqT K H' a xs := by
  rcases h with (h | ⟨o, h⟩) | h
  · exact .inl (.inl (e _ _ h))
  · exact .inl (.inr ⟨o, e _ _ h⟩)
  · exact .inr h
theorem sameN {H H' : Hp} {a : Addr} {xs : List V} (e : Same H H') (h : SqN H a xs) : SqN H' a xs := let ⟨o, h, d⟩ := h; ⟨o, e _ _ h, d⟩
theorem sameNT {K : PySem.W.Frag} {H H' : Hp} {a : Addr} {xs : List V} (e : Same H H') (h : SqN H a xs) : SqT K H' a xs := (sameN e h).seq
def Pre (O O' : List Addr) : Prop := ∃ t, O' = O ++ t
theorem Pre.refl (O : List Addr) : Pre O O := ⟨[], (List.append_nil _).symm⟩
theorem Pre.trans {A B C : List Addr} (a : Pre A B) (b : Pre B C) : Pre A C := by
  obtain ⟨t, rfl⟩ := a
  obtain ⟨u, rfl⟩ := b
  exact ⟨t ++ u, List.append_assoc _ _ _⟩
theorem Pre.get {O O' : List Addr} (p : Pre O O') {k : Nat} {a : Addr} (h : O[k]? = some a) : O'[k]? = some a := by
  obtain ⟨t, rfl⟩ := p
  rw [List.getElem?_append_left (List.getElem?_eq_some_iff.mp h).1]
  exact h
section
variable {K : PySem.W.Frag} {H H' : Hp} {O O' : List Addr}
mutual
theorem Rp.mono (e : Same H H') (p : ∀ (k : Nat) (a : Addr), O[k]? = some a → O'[k]? = some a) : ∀ (d : D) (v : V), Rp K H O v d → Rp K H' O' v d
  | .non, _, h => by cases h; exact .non
  | .bl b, _, h => by cases h; exact .bl b
  | .int i, _, h => by cases h; exact .int i
  | .str x, _, h => by cases h; exact .str x
  | .lst ds, _, h => by cases h with | lst h1 h2 => exact .lst (e _ _ h1) (RpAll.mono e p ds _ h2)
  | .tup ds, _, h => by cases h with | tup h1 h2 => exact .tup (sameN e h1) (RpAll.mono e p ds _ h2)
  | .par ds, _, h => by cases h with | par h1 h2 => exact .par (sameT e h1) (RpAll.mono e p ds _ h2)
  | .scr ds, _, h => by cases h with | scr h1 h2 => exact .scr (e.seq h1) (RpAll.mono e p ds _ h2)
  | .own k, _, h => by cases h with | own h1 => exact .own (p _ _ h1)
theorem RpAll.mono (e : Same H H') (p : ∀ (k : Nat) (a : Addr), O[k]? = some a → O'[k]? = some a) : ∀ (ds : List D) (vs : List V), RpAll K H O vs ds → RpAll K H' O' vs ds
  | [], _, h => by cases h; exact .nil
  | d :: ds, _, h => by cases h with | cons h1 h2 => exact .cons (Rp.mono e p d _ h1) (RpAll.mono e p ds _ h2)
end
mutual
/-- what is below n stands with the first n own lists alone -/
theorem Rp.cut (n : Nat) : ∀ (d : D) (v : V), D.low n d = true → Rp K H O v d → Rp K H (O.take n) v d
  | .non, _, _, h => by cases h; exact .non
  | .bl b, _, _, h => by cases h; exact .bl b
  | .int i, _, _, h => by cases h; exact .int i
  | .str x, _, _, h => by cases h; exact .str x
  | .lst ds, _, b, h => by cases h with | lst h1 h2 => exact .lst h1 (RpAll.cut n ds _ b h2)
  | .tup ds, _, b, h => by cases h with | tup h1 h2 => exact .tup h1 (RpAll.cut n ds _ b h2)
  | .par ds, _, b, h => by cases h with | par h1 h2 => exact .par h1 (RpAll.cut n ds _ b h2)
  | .scr ds, _, b, h => by cases h with | scr h1 h2 => exact .scr h1 (RpAll.cut n ds _ b h2)
  | .own k, _, b, h => by
    cases h with
    | own h1 =>
      refine .own ?_
      have hk : k < n := of_decide_eq_true b
      rw [List.getElem?_take, if_pos hk]
      exact h1
theorem RpAll.cut (n : Nat) : ∀ (ds : List D) (vs : List V), D.lowAll n ds = true → RpAll K H O vs ds → RpAll K H (O.take n) vs ds
  | [], _, _, h => by cases h; exact .nil
  | d :: ds, _, b, h => by
    cases h with
    | cons h1 h2 =>
      have b' := Bool.and_eq_true_iff.mp b
      exact .cons (Rp.cut n d _ b'.1 h1) (RpAll.cut n ds _ b'.2 h2)
end
mutual
theorem Rp.bel : ∀ (d : D) (v : V), Rp K H O v d → D.low O.length d = true
  | .non, _, h => rfl
  | .bl b, _, h => rfl
  | .int i, _, h => rfl
  | .str x, _, h => rfl
  | .lst ds, _, h => by cases h with | lst h1 h2 => exact RpAll.bel ds _ h2
  | .tup ds, _, h => by cases h with | tup h1 h2 => exact RpAll.bel ds _ h2
  | .par ds, _, h => by cases h with | par h1 h2 => exact RpAll.bel ds _ h2
  | .scr ds, _, h => by cases h with | scr h1 h2 => exact RpAll.bel ds _ h2
  | .own k, _, h => by cases h with | own h1 => exact decide_eq_true (List.getElem?_eq_some_iff.mp h1).1
theorem RpAll.bel : ∀ (ds : List D) (vs : List V), RpAll K H O vs ds → D.lowAll O.length ds = true
  | [], _, h => rfl
  | d :: ds, _, h => by cases h with | cons h1 h2 => exact Bool.and_eq_true_iff.mpr ⟨Rp.bel d _ h1, RpAll.bel ds _ h2⟩
end
theorem RpAll.length : ∀ {vs : List V} {ds : List D}, RpAll K H O vs ds → vs.length = ds.length
  | _, _, .nil => rfl
  | _, _, .cons _ t => congrArg (· + 1) (RpAll.length t)
theorem RpAll.get : ∀ {vs : List V} {ds : List D} {i : Nat} {d : D}, RpAll K H O vs ds → ds[i]? = some d → ∃ v, vs[i]? = some v ∧ Rp K H O v d
  | _, _, _, _, .nil, e => by simp at e
  | _, _, 0, _, .cons r _, e => by simp at e; subst e; exact ⟨_, rfl, r⟩
  | _, _, i + 1, d, .cons _ t, e => by
    obtain ⟨v, h1, h2⟩ := RpAll.get (i := i) (d := d) t (by simpa using e)
    exact ⟨v, by simpa using h1, h2⟩
theorem RpAll.getV : ∀ {vs : List V} {ds : List D} {i : Nat} {v : V}, RpAll K H O vs ds → vs[i]? = some v → ∃ d, ds[i]? = some d ∧ Rp K H O v d
  | _, _, _, _, .nil, e => by simp at e
  | _, _, 0, _, .cons r _, e => by simp at e; subst e; exact ⟨_, rfl, r⟩
  | _, _, i + 1, v, .cons _ t, e => by
    obtain ⟨d, h1, h2⟩ := RpAll.getV (i := i) (v := v) t (by simpa using e)
    exact ⟨d, by simpa using h1, h2⟩
theorem RpAll.append : ∀ {vs us : List V} {ds es : List D}, RpAll K H O vs ds → RpAll K H O us es → RpAll K H O (vs ++ us) (ds ++ es)
  | _, _, _, _, .nil, s => s
  | _, _, _, _, .cons r t, s => .cons r (RpAll.append t s)
theorem RpAll.one {v : V} {d : D} (h : Rp K H O v d) : RpAll K H O [v] [d] := .cons h .nil
theorem RpAll.take : ∀ {vs : List V} {ds : List D} (n : Nat), RpAll K H O vs ds → RpAll K H O (vs.take n) (ds.take n)
  | _, _, 0, _ => .nil
  | _, _, _ + 1, .nil => .nil
  | _, _, n + 1, .cons r t => .cons r (RpAll.take n t)
theorem RpAll.drop : ∀ {vs : List V} {ds : List D} (n : Nat), RpAll K H O vs ds → RpAll K H O (vs.drop n) (ds.drop n)
  | _, _, 0, r => r
  | _, _, _ + 1, .nil => .nil
  | _, _, n + 1, .cons _ t => RpAll.drop n t
theorem RpAll.reverse : ∀ {vs : List V} {ds : List D}, RpAll K H O vs ds → RpAll K H O vs.reverse ds.reverse
  | _, _, .nil => .nil
  | _, _, .cons r t => by rw [List.reverse_cons, List.reverse_cons]; exact RpAll.append (RpAll.reverse t) (.one r)
theorem RpAll.set {v : V} {d : D} (r : Rp K H O v d) : ∀ {vs : List V} {ds : List D} (i : Nat), RpAll K H O vs ds → RpAll K H O (vs.set i v) (ds.set i d)
  | _, _, _, .nil => .nil
  | _, _, 0, .cons _ t => .cons r t
  | _, _, i + 1, .cons q t => .cons q (RpAll.set r i t)
theorem RpAll.dropLast {vs : List V} {ds : List D} (h : RpAll K H O vs ds) : RpAll K H O vs.dropLast ds.dropLast := by
  rw [List.dropLast_eq_take, List.dropLast_eq_take, h.length]
  exact h.take _
end

/-! ### the base: the stable part H0 of the heap, the own lists at O -/
/-- the class of that name stands at C -/
def ClsIs (K : PySem.W.Frag) (c : Str) (C : Addr) : Prop := PySem.W.nsIn K mainGlobals c = some (some (.ref C))
/-- the table of the code of the def of that name is P -/
def TabIs (K : PySem.W.Frag) (x : Str) (P : Addr) : Prop := ∃ (fa : Addr) (o : Obj) (fd : FuncData) (cc : Addr) (oc : Obj) (vs : Array Value), PySem.W.nsIn K mainGlobals x = some (some (.ref fa)) ∧ K.lookup fa = some o ∧ o.data = .func fd ∧ fd.code = .ref cc ∧
  K.lookup cc = some oc ∧ oc.data = .fields vs ∧ vs[11]? = some (.ref P)
theorem TabIs.uni {K : PySem.W.Frag} {x : Str} {P Q : Addr} (a : TabIs K x P) (b : TabIs K x Q) : P = Q := by
  obtain ⟨fa, o, fd, cc, oc, vs, a1, a2, a3, a4, a5, a6, a7⟩ := a
  obtain ⟨fa', o', fd', cc', oc', vs', b1, b2, b3, b4, b5, b6, b7⟩ := b
  rw [a1] at b1; cases b1
  rw [a2] at b2; cases b2
  rw [a3] at b3; cases b3
  rw [a4] at b4; cases b4
  rw [a5] at b5; cases b5
  rw [a6] at b6; cases b6
  rw [a7] at b7; cases b7
  rfl
def CellOk (K : PySem.W.Frag) (H H0 : Hp) (O : List Addr) (a : Addr) : Cell → Prop
  | .lst xs => ∃ vs, H a = some (.lst vs) ∧ RpAll K H0 O vs xs ∧ H0 a = none
  | .dic kvs => ∃ ks, H a = some (.dK ks) ∧ Paired (fun (p : Key × V) (q : Key × D) => p.1 = q.1 ∧ Rp K H0 O p.2 q.2) ks kvs ∧ H0 a = none
  | .gone => True
  | .obj c fs => ∃ C dx ks, ClsIs K c C ∧ H a = some (.ins C dx ks) ∧ Paired (fun (p : Str × V) (q : Str × D) => p.1 = q.1 ∧ Rp K H0 O p.2 q.2) ks fs ∧ H0 a = none
  | .tab x => TabIs K x a ∧ GxR.TabG H a ∧ H0 a = none
structure Base (K : PySem.W.Frag) (H H0 : Hp) (O : List Addr) (sto : Sto) : Prop where
  sub : Same H0 H
  nd : O.Nodup
  len : O.length = sto.length
  live : ∀ a ∈ O, H a ≠ none
  cell : ∀ (k : Nat) (a : Addr) (c : Cell), O[k]? = some a → sto[k]? = some c → CellOk K H H0 O a c
structure Ext (H H0 : Hp) (O : List Addr) (H' H0' : Hp) (O' : List Addr) : Prop where
  h0 : Same H0 H0'
  o : Pre O O'
  fresh : ∀ a ∈ O', a ∈ O ∨ H a = none
  frame : ∀ a o, H a = some o → a ∉ O → H' a = some o
  live : ∀ a, H a ≠ none → H' a ≠ none
  h0n : ∀ a, H0' a ≠ none → H0 a ≠ none ∨ H a = none ∨ a ∈ O
theorem Ext.refl (H H0 : Hp) (O : List Addr) : Ext H H0 O H H0 O := ⟨.refl _, .refl _, fun _ h => .inl h, fun _ _ h _ => h, fun _ h => h, fun _ h => .inl h⟩
theorem Ext.trans {A A0 B B0 C C0 : Hp} {P Q R : List Addr} (a : Ext A A0 P B B0 Q) (b : Ext B B0 Q C C0 R) : Ext A A0 P C C0 R where
  h0 := a.h0.trans b.h0
  o := a.o.trans b.o
  fresh := fun x hx => by
    rcases b.fresh x hx with h | h
    · exact a.fresh x h
    · refine .inr ?_
      cases q : A x with
      | none => rfl
      | some o => exact absurd h (a.live x (by rw [q]; simp))
  frame := fun x o h hn => b.frame x o (a.frame x o h hn) fun hx => (a.fresh x hx).elim hn fun z => by rw [z] at h; cases h
  live := fun x h => b.live x (a.live x h)
  h0n := fun x h => by
    rcases b.h0n x h with h | h | h
    · exact a.h0n x h
    · refine .inr (.inl ?_)
      cases q : A x with
      | none => rfl
      | some o => exact absurd h (a.live x (by rw [q]; simp))
    · rcases a.fresh x h with h | h
      · exact .inr (.inr h)
      · exact .inr (.inl h)
section
variable {K : PySem.W.Frag} {H H0 H' H0' : Hp} {O O' : List Addr} {sto sto' : Sto}
theorem Ext.rp {d : D} {v : V} (e : Ext H H0 O H' H0' O') (r : Rp K H0 O v d) : Rp K H0' O' v d := Rp.mono e.h0 (fun _ _ h => e.o.get h) d v r
theorem Ext.rps {ds : List D} {vs : List V} (e : Ext H H0 O H' H0' O') (r : RpAll K H0 O vs ds) : RpAll K H0' O' vs ds := RpAll.mono e.h0 (fun _ _ h => e.o.get h) ds vs r
theorem CellOk.mono {a : Addr} {c : Cell} (h : CellOk K H H0 O a c) (e : Same H0 H0') (p : ∀ (k : Nat) (a : Addr), O[k]? = some a → O'[k]? = some a) (ha : H' a = H a) (h0 : H0' a = none) : CellOk K H' H0' O' a c := by
  cases c with
  | lst xs => obtain ⟨vs, h1, h2, _⟩ := h; exact ⟨vs, ha.trans h1, RpAll.mono e p _ _ h2, h0⟩
  | dic kvs => obtain ⟨ks, h1, h2, _⟩ := h; exact ⟨ks, ha.trans h1, Paired.mapP h2 fun _ _ z => ⟨z.1, Rp.mono e p _ _ z.2⟩, h0⟩
  | gone => trivial
  | obj c fs => obtain ⟨C, dx, ks, hC, h1, h2, _⟩ := h; exact ⟨C, dx, ks, hC, ha.trans h1, Paired.mapP h2 fun _ _ z => ⟨z.1, Rp.mono e p _ _ z.2⟩, h0⟩
  | tab x => obtain ⟨hT, ⟨ps, h1, h2⟩, _⟩ := h; exact ⟨hT, ⟨ps, ha.trans h1, h2⟩, h0⟩
theorem CellOk.none {a : Addr} {c : Cell} (h : CellOk K H H0 O a c) (hc : c ≠ .gone) : H0 a = Option.none := by
  cases c with
  | lst xs => obtain ⟨_, _, _, z⟩ := h; exact z
  | dic kvs => obtain ⟨_, _, _, z⟩ := h; exact z
  | gone => exact absurd rfl hc
  | obj c fs => obtain ⟨_, _, _, _, _, _, z⟩ := h; exact z
  | tab x => obtain ⟨_, _, z⟩ := h; exact z
theorem get_mem {O : List Addr} {k : Nat} {a : Addr} (h : O[k]? = some a) : a ∈ O := List.mem_iff_getElem?.mpr ⟨k, h⟩
theorem get_inj {O : List Addr} (nd : O.Nodup) {j k : Nat} {a : Addr} (h : O[j]? = some a) (h' : O[k]? = some a) : j = k := by
  obtain ⟨h1, e1⟩ := List.getElem?_eq_some_iff.mp h
  obtain ⟨h2, e2⟩ := List.getElem?_eq_some_iff.mp h'
  exact (List.getElem_inj nd).mp (e1.trans e2.symm)
/-- a new stable object -/
theorem Base.new (B : Base K H H0 O sto) {p : Addr} (hp : H p = none) (o : HO) : Base K (upd H p o) (upd H0 p o) O sto ∧ Ext H H0 O (upd H p o) (upd H0 p o) O := by
  have hp0 : H0 p = none := by
    cases q : H0 p with
    | none => rfl
    | some u => rw [B.sub _ _ q] at hp; cases hp
  have s0 : Same H0 (upd H0 p o) := fun b u e => by rw [upd_ne (ne_of_none e hp0)]; exact e
  have ne : ∀ a ∈ O, a ≠ p := fun a ha e => by subst e; exact B.live a ha hp
  refine ⟨⟨fun b u e => ?_, B.nd, B.len, fun a ha => ?_, fun k a c h1 h2 => ?_⟩, ⟨s0, .refl _, fun _ h => .inl h, fun a u h _ => ?_, fun a h => ?_, fun a h => ?_⟩⟩
  · by_cases hb : b = p
    · subst hb; rw [upd_same] at e ⊢; exact e
    · rw [upd_ne hb] at e ⊢; exact B.sub _ _ e
  · rw [upd_ne (ne a ha)]; exact B.live a ha
  · have q := B.cell k a c h1 h2
    have hn := ne a (get_mem h1)
    by_cases hg : c = .gone
    · subst hg; trivial
    · exact q.mono s0 (fun _ _ h => h) (upd_ne hn) (by rw [upd_ne hn]; exact q.none hg)
  · rw [upd_ne (ne_of_none h hp)]; exact h
  · by_cases hb : a = p
    · subst hb; exact absurd hp h
    · rw [upd_ne hb]; exact h
  · by_cases hb : a = p
    · subst hb; exact .inr (.inl hp)
    · rw [upd_ne hb] at h; exact .inl h
/-- a new own object -/
theorem Base.newOwn (B : Base K H H0 O sto) {p : Addr} (hp : H p = none) {o : HO} {c : Cell} (hc : CellOk K (upd H p o) H0 O p c) :
    Base K (upd H p o) H0 (O ++ [p]) (sto ++ [c]) ∧ Ext H H0 O (upd H p o) H0 (O ++ [p]) := by
  have ne : ∀ a ∈ O, a ≠ p := fun a ha e => by subst e; exact B.live a ha hp
  have pr : ∀ (k : Nat) (a : Addr), O[k]? = some a → (O ++ [p])[k]? = some a := fun k a h => Pre.get ⟨_, rfl⟩ h
  have hp0 : H0 p = none := by
    cases q : H0 p with
    | none => rfl
    | some u => rw [B.sub _ _ q] at hp; cases hp
  refine ⟨⟨fun b u e => ?_, ?_, by simp [B.len], fun a ha => ?_, fun k a c' h1 h2 => ?_⟩, ⟨.refl _, ⟨_, rfl⟩, fun a h => ?_, fun a u h _ => ?_, fun a h => ?_, fun _ h => .inl h⟩⟩
  · rw [upd_ne (ne_of_none e hp0)]; exact B.sub _ _ e
  · rw [List.nodup_append]
    refine ⟨B.nd, by simp, fun a ha b hb => ?_⟩
    rw [List.mem_singleton.mp hb]
    exact ne a ha
  · rcases List.mem_append.mp ha with ha | ha
    · rw [upd_ne (ne a ha)]; exact B.live a ha
    · rw [List.mem_singleton.mp ha, upd_same]; simp
  · by_cases hk : k < O.length
    · rw [List.getElem?_append_left hk] at h1
      rw [List.getElem?_append_left (by rw [← B.len]; exact hk)] at h2
      have q := B.cell k a c' h1 h2
      by_cases hg : c' = .gone
      · subst hg; trivial
      · exact q.mono (.refl _) pr (upd_ne (ne a (get_mem h1))) (q.none hg)
    · have hk2 : k = O.length := by
        have := (List.getElem?_eq_some_iff.mp h1).1
        rw [List.length_append, List.length_singleton] at this
        omega
      subst hk2
      rw [List.getElem?_append_right (Nat.le_refl _), Nat.sub_self] at h1
      rw [List.getElem?_append_right (by rw [B.len]; exact Nat.le_refl _), B.len, Nat.sub_self] at h2
      cases h1; cases h2
      by_cases hg : c = .gone
      · subst hg; trivial
      · exact hc.mono (.refl _) pr rfl (hc.none hg)
  · rcases List.mem_append.mp h with h | h
    · exact .inl h
    · rw [List.mem_singleton.mp h]; exact .inr hp
  · rw [upd_ne (ne_of_none h hp)]; exact h
  · by_cases hb : a = p
    · subst hb; exact absurd hp h
    · rw [upd_ne hb]; exact h
/-- an own object is written -/
theorem Base.write (B : Base K H H0 O sto) {k : Nat} {a : Addr} (hk : O[k]? = some a) (h0 : H0 a = none) {o : HO} {c : Cell} (hc : CellOk K (upd H a o) H0 O a c) :
    Base K (upd H a o) H0 O (sto.set k c) ∧ Ext H H0 O (upd H a o) H0 O := by
  refine ⟨⟨fun b u e => ?_, B.nd, by rw [List.length_set]; exact B.len, fun b hb => ?_, fun j b c' h1 h2 => ?_⟩, ⟨.refl _, .refl _, fun _ h => .inl h, fun b u h hn => ?_, fun b h => ?_, fun _ h => .inl h⟩⟩
  · rw [upd_ne (ne_of_none e h0)]; exact B.sub _ _ e
  · by_cases e : b = a
    · subst e; rw [upd_same]; simp
    · rw [upd_ne e]; exact B.live b hb
  · by_cases hj : j = k
    · subst hj
      rw [hk] at h1; cases h1
      rw [List.getElem?_set_self (by rw [← B.len]; exact (List.getElem?_eq_some_iff.mp hk).1)] at h2
      cases h2
      exact hc
    · rw [List.getElem?_set_ne (Ne.symm hj)] at h2
      have q := B.cell j b c' h1 h2
      have hb : b ≠ a := fun e => by subst e; exact hj (get_inj B.nd h1 hk)
      by_cases hg : c' = .gone
      · subst hg; trivial
      · exact q.mono (.refl _) (fun _ _ h => h) (upd_ne hb) (q.none hg)
  · have hb : b ≠ a := fun e => by subst e; exact hn (get_mem hk)
    rw [upd_ne hb]; exact h
  · by_cases e : b = a
    · subst e; rw [upd_same]; simp
    · rw [upd_ne e]; exact h
/-- an own list becomes stable -/
theorem Base.freeze (B : Base K H H0 O sto) {k : Nat} {a : Addr} {vs : List V} (hk : O[k]? = some a) (h0 : H0 a = none) (ha : H a = some (.lst vs)) :
    Base K H (upd H0 a (.lst vs)) O (sto.set k .gone) ∧ Ext H H0 O H (upd H0 a (.lst vs)) O := by
  have s0 : Same H0 (upd H0 a (.lst vs)) := fun b u e => by rw [upd_ne (ne_of_none e h0)]; exact e
  refine ⟨⟨fun b u e => ?_, B.nd, by rw [List.length_set]; exact B.len, B.live, fun j b c' h1 h2 => ?_⟩, ⟨s0, .refl _, fun _ h => .inl h, fun _ _ h _ => h, fun _ h => h, fun b h => ?_⟩⟩
  · by_cases hb : b = a
    · subst hb; rw [upd_same] at e; cases e; exact ha
    · rw [upd_ne hb] at e; exact B.sub _ _ e
  · by_cases hj : j = k
    · subst hj
      rw [List.getElem?_set_self (by rw [← B.len]; exact (List.getElem?_eq_some_iff.mp hk).1)] at h2
      cases h2
      trivial
    · rw [List.getElem?_set_ne (Ne.symm hj)] at h2
      have q := B.cell j b c' h1 h2
      have hb : b ≠ a := fun e => by subst e; exact hj (get_inj B.nd h1 hk)
      by_cases hg : c' = .gone
      · subst hg; trivial
      · exact q.mono s0 (fun _ _ h => h) rfl (by rw [upd_ne hb]; exact q.none hg)
  · by_cases hb : b = a
    · subst hb; exact .inr (.inr (get_mem hk))
    · rw [upd_ne hb] at h; exact .inl h
/-- forgetting the own lists from n on -/
theorem Base.cut (B : Base K H H0 O sto) {n : Nat} (s0 : Sto) (hl : s0.length = n) (hs : ∃ t, sto = s0 ++ t) (hb : ∀ c ∈ s0, match c with | .lst xs => D.lowAll n xs = true | .dic kvs => ∀ q ∈ kvs, D.low n q.2 = true | .gone => True | .obj _ fs => ∀ q ∈ fs, D.low n q.2 = true | .tab _ => True) :
    Base K H H0 (O.take n) s0 := by
  obtain ⟨t, rfl⟩ := hs
  have hO : n ≤ O.length := by rw [B.len, List.length_append]; omega
  refine ⟨B.sub, B.nd.sublist (List.take_sublist _ _), by rw [List.length_take]; omega, fun a ha => B.live a (List.mem_of_mem_take ha), fun k a c h1 h2 => ?_⟩
  have hk : k < n := by rw [← hl]; exact (List.getElem?_eq_some_iff.mp h2).1
  rw [List.getElem?_take, if_pos hk] at h1
  have q := B.cell k a c h1 (by rw [List.getElem?_append_left (by omega)]; exact h2)
  have m := hb c (List.mem_iff_getElem?.mpr ⟨k, h2⟩)
  cases c with
  | lst xs => obtain ⟨vs, e1, e2, e3⟩ := q; exact ⟨vs, e1, RpAll.cut n _ _ m e2, e3⟩
  | dic kvs =>
    obtain ⟨ks, e1, e2, e3⟩ := q
    refine ⟨ks, e1, ?_, e3⟩
    clear e1 h2
    induction e2 with
    | nil => exact .nil
    | cons r _ ih => exact .cons ⟨r.1, Rp.cut n _ _ (m _ List.mem_cons_self) r.2⟩ (ih fun q hq => m q (List.mem_cons_of_mem _ hq))
  | gone => trivial
  | obj c fs =>
    obtain ⟨C, dx, ks, hC, e1, e2, e3⟩ := q
    refine ⟨C, dx, ks, hC, e1, ?_, e3⟩
    clear e1 h2
    induction e2 with
    | nil => exact .nil
    | cons r _ ih => exact .cons ⟨r.1, Rp.cut n _ _ (m _ List.mem_cons_self) r.2⟩ (ih fun q hq => m q (List.mem_cons_of_mem _ hq))
  | tab x => exact q
end
end PD

set_option Elab.async false
set_option linter.all false
set_option maxRecDepth 100000
set_option maxHeartbeats 4000000
/-! PD: readings of expressions. -/
namespace PD
open PySem PySem.Spec PyProof.Rows L2

/-! ### the monad -/
def retM {α : Type} (a : α) : M α := fun s => some (.ok a s)
def bindM {α β : Type} (m : M α) (k : α → M β) : M β := fun s => match m s with
  | none => none
  | some (.ok a s') => k a s'
  | some (.ex c s') => some (.ex c s')
def liftO {α : Type} (o : Sto → Option α) : M α := fun s => match o s with
  | none => none
  | some a => some (.ok a s)

abbrev Rep (β α : Type) := Hp → List Addr → β → α → Prop
def PostG (K : PySem.W.Frag) (mg : Str → Option Value) {β α : Type} (rp : Rep β α) (H H0 : Hp) (O : List Addr) (Q : β → Hp → Prop) (E : XK) : R α → Prop
  | .ok a s => ∀ b H' H0' O', Base K H' H0' O' s → Ext H H0 O H' H0' O' → rp H0' O' b a → Q b H'
  | .ex c s => ∀ cls dd H' H0' O', mg c = some cls → Base K H' H0' O' s → Ext H H0 O H' H0' O' → E cls dd H'
section
variable {K : PySem.W.Frag} {mg : Str → Option Value} {β α β' α' : Type} {rp : Rep β α} {rp' : Rep β' α'} {H H0 H1 H01 : Hp} {O O1 : List Addr} {E : XK}
theorem PostG.mono {Q Q' : β → Hp → Prop} {r : R α} (p : PostG K mg rp H H0 O Q E r) (h : ∀ b H, Q b H → Q' b H) : PostG K mg rp H H0 O Q' E r := by
  cases r with
  | ok a s => exact fun b H' H0' O' x y z => h _ _ (p b H' H0' O' x y z)
  | ex c s => exact p
theorem PostG.monoE {E' : XK} {Q : β → Hp → Prop} {r : R α} (p : PostG K mg rp H H0 O Q E r) (h : ∀ c d H, E c d H → E' c d H) : PostG K mg rp H H0 O Q E' r := by
  cases r with
  | ok a s => exact p
  | ex c s => exact fun cls dd H' H0' O' x y z => h _ _ _ (p cls dd H' H0' O' x y z)
theorem PostG.ext {Q : β → Hp → Prop} {r : R α} (p : PostG K mg rp H H0 O Q E r) (X : Ext H H0 O H1 H01 O1) : PostG K mg rp H1 H01 O1 Q E r := by
  cases r with
  | ok a s => exact fun b H' H0' O' x y z => p b H' H0' O' x (X.trans y) z
  | ex c s => exact fun cls dd H' H0' O' x y z => p cls dd H' H0' O' x y (X.trans z)
/-- where one stands in the midst of an expression -/
def Mid (K : PySem.W.Frag) (mg : Str → Option Value) {β α β' α' : Type} (rp : Rep β α) (rp' : Rep β' α') (k : α → M α') (H H0 : Hp) (O : List Addr) (Q : β' → Hp → Prop) (E : XK) (b : β) (H1 : Hp) : Prop :=
  ∃ H0' O' s a r, Base K H1 H0' O' s ∧ Ext H H0 O H1 H0' O' ∧ rp H0' O' b a ∧ k a s = some r ∧ PostG K mg rp' H1 H0' O' Q E r
theorem PostG.bind {m : M α} {k : α → M α'} {sto : Sto} {r : R α'} {Q : β' → Hp → Prop} (h : bindM m k sto = some r) (p : PostG K mg rp' H H0 O Q E r) :
    ∃ r1, m sto = some r1 ∧ PostG K mg rp H H0 O (Mid K mg rp rp' k H H0 O Q E) E r1 := by
  unfold bindM at h
  cases e : m sto with
  | none => rw [e] at h; cases h
  | some r1 =>
    rw [e] at h
    refine ⟨r1, rfl, ?_⟩
    cases r1 with
    | ok a s => exact fun b H' H0' O' x y z => ⟨H0', O', s, a, r, x, y, z, h, p.ext y⟩
    | ex c s =>
      cases h
      exact p
theorem PostG.one {o : Sto → Option α} {sto : Sto} {r : R α} {Q : β → Hp → Prop} (h : liftO o sto = some r) : ∃ a, o sto = some a ∧ r = .ok a sto := by
  unfold liftO at h
  cases e : o sto with
  | none => rw [e] at h; cases h
  | some a => rw [e] at h; cases h; exact ⟨a, rfl, rfl⟩
end

/-! ### slots -/
structure RpSl (K : PySem.W.Frag) (H0 : Hp) (O : List Addr) (σ : L2.St) (sl : Sl) : Prop where
  len : σ.length = sl.length
  at_ : ∀ (i : Nat) (d : D), sl[i]? = some (some d) → ∃ v, σ[i]? = some (some v) ∧ Rp K H0 O v d
section
variable {K : PySem.W.Frag} {H H0 H' H0' : Hp} {O O' : List Addr} {σ : L2.St} {sl : Sl}
theorem RpSl.ext (r : RpSl K H0 O σ sl) (e : Ext H H0 O H' H0' O') : RpSl K H0' O' σ sl :=
  ⟨r.len, fun i d h => let ⟨v, h1, h2⟩ := r.at_ i d h; ⟨v, h1, e.rp h2⟩⟩
theorem RpSl.set (r : RpSl K H0 O σ sl) {v : V} {d : D} (h : Rp K H0 O v d) (i : Nat) : RpSl K H0 O (σ.set i (some v)) (sl.set i (some d)) := by
  refine ⟨by rw [List.length_set, List.length_set]; exact r.len, fun j e h1 => ?_⟩
  by_cases hj : j = i
  · subst hj
    have hl : j < sl.length := by
      have := (List.getElem?_eq_some_iff.mp h1).1
      rw [List.length_set] at this
      exact this
    rw [List.getElem?_set_self hl] at h1
    cases h1
    rw [List.getElem?_set_self (by rw [r.len]; exact hl)]
    exact ⟨v, rfl, h⟩
  · rw [List.getElem?_set_ne (Ne.symm hj)] at h1 ⊢
    exact r.at_ j e h1
def wipeS (sl : Sl) : List Nat → Sl
  | [] => sl
  | v :: vs => (wipeS sl vs).set v none
theorem RpSl.forget (r : RpSl K H0 O σ sl) (i : Nat) : RpSl K H0 O (σ.set i none) (sl.set i none) := by
  refine ⟨by rw [List.length_set, List.length_set]; exact r.len, fun j e h1 => ?_⟩
  by_cases hj : j = i
  · subst hj
    have hl : j < sl.length := by
      have := (List.getElem?_eq_some_iff.mp h1).1
      rw [List.length_set] at this
      exact this
    rw [List.getElem?_set_self hl] at h1
    cases h1
  · rw [List.getElem?_set_ne (Ne.symm hj)] at h1 ⊢
    exact r.at_ j e h1
theorem RpSl.wipe (r : RpSl K H0 O σ sl) : ∀ vs : List Nat, RpSl K H0 O (wipe σ vs) (wipeS sl vs)
  | [] => r
  | v :: vs => (RpSl.wipe r vs).forget v
end

/-! ### the reading -/
/-- a reading by a function over the slots -/
def tG (K : PySem.W.Frag) (mg : Str → Option Value) (W : WX) {β α : Type} (rp : Rep β α) (f : Sl → M α) : L2.St → Hp → (β → Hp → Prop) → Prop := fun σ H Q =>
  ∃ H0 O sl sto r, Base K H H0 O sto ∧ RpSl K H0 O σ sl ∧ f sl sto = some r ∧ PostG K mg rp H H0 O Q (fun c d H' => W c d σ H') r
abbrev eqB : Rep Bool Bool := fun _ _ b a => b = a
abbrev tE (K : PySem.W.Frag) (mg : Str → Option Value) (W : WX) (f : Sl → M D) : TE := tG K mg W (Rp K) f
abbrev tA (K : PySem.W.Frag) (mg : Str → Option Value) (W : WX) (f : Sl → M (List D)) : TA := tG K mg W (RpAll K) f
abbrev tT (K : PySem.W.Frag) (mg : Str → Option Value) (W : WX) (f : Sl → M Bool) : TT := tG K mg W eqB f
section
variable {X : Cx} {e : Expr} {es : List Expr}
theorem PE.imp {t t' : TE} (h : PE X e t) (i : ∀ σ H Q, t' σ H Q → t σ H Q) : PE X e t' := ⟨fun pins s σ H Q I q => h.run pins s σ H Q I (i _ _ _ q)⟩
theorem PT.imp {t t' : TT} (h : PT X e t) (i : ∀ σ H Q, t' σ H Q → t σ H Q) : PT X e t' := ⟨fun pins s σ H Q I q => h.run pins s σ H Q I (i _ _ _ q)⟩
theorem PW.imp {t t' : TT} (h : PW X e t) (i : ∀ σ H Q, t' σ H Q → t σ H Q) : PW X e t' := ⟨fun wh pins s σ H Q I q => h.run wh pins s σ H Q I (i _ _ _ q)⟩
theorem PA.imp {t t' : TA} (h : PA X es t) (i : ∀ σ H Q, t' σ H Q → t σ H Q) : PA X es t' := ⟨fun p pins s σ H Q I q => h.run p pins s σ H Q I (i _ _ _ q)⟩
end
/-- the step: the first of a chain -/
theorem tG_bind {K : PySem.W.Frag} {mg : Str → Option Value} {W : WX} {β α β' α' : Type} {rp : Rep β α} {rp' : Rep β' α'} {f : Sl → M α} {k : Sl → α → M α'} {σ : L2.St} {H : Hp} {Q : β' → Hp → Prop}
    (h : tG K mg W rp' (fun sl => bindM (f sl) (k sl)) σ H Q) :
    tG K mg W rp f σ H (fun b H1 => ∃ H0 O sl s a r, Base K H1 H0 O s ∧ RpSl K H0 O σ sl ∧ rp H0 O b a ∧ k sl a s = some r ∧ PostG K mg rp' H1 H0 O Q (fun c d H' => W c d σ H') r) := by
  obtain ⟨H0, O, sl, sto, r, B, S, e, p⟩ := h
  obtain ⟨r1, e1, p1⟩ := PostG.bind (rp := rp) e p
  refine ⟨H0, O, sl, sto, r1, B, S, e1, p1.mono fun b H1 q => ?_⟩
  obtain ⟨H0', O', s, a, r', B', X', ra, e', p'⟩ := q
  exact ⟨H0', O', sl, s, a, r', B', S.ext X', ra, e', p'⟩
theorem tG_mono {K : PySem.W.Frag} {mg : Str → Option Value} {W : WX} {β α : Type} {rp : Rep β α} {f : Sl → M α} {σ : L2.St} {H : Hp} {Q Q' : β → Hp → Prop} (t : tG K mg W rp f σ H Q) (h : ∀ b H, Q b H → Q' b H) : tG K mg W rp f σ H Q' := by
  obtain ⟨H0, O, sl, sto, r, B, S, e, p⟩ := t
  exact ⟨H0, O, sl, sto, r, B, S, e, p.mono h⟩
/-- the last of a chain: what is told of values -/
theorem post_ok {K : PySem.W.Frag} {mg : Str → Option Value} {β α : Type} {rp : Rep β α} {H H0 : Hp} {O : List Addr} {Q : β → Hp → Prop} {E : XK} {a : α} {s : Sto} {b : β}
    (p : PostG K mg rp H H0 O Q E (.ok a s)) (B : Base K H H0 O s) (r : rp H0 O b a) : Q b H := p b H H0 O B (.refl _ _ _) r

/-! ### values of one sort -/
def lsOf (sto : Sto) : D → Option (List D)
  | .lst xs => some xs
  | .scr xs => some xs
  | .own k => match sto[k]? with | some (.lst xs) => some xs | _ => none
  | _ => none
def seqOf (sto : Sto) : D → Option (List D)
  | .tup xs => some xs
  | .par xs => some xs
  | d => lsOf sto d
section
variable {K : PySem.W.Frag} {H H0 : Hp} {O : List Addr} {sto : Sto} {d : D} {v : V} {xs : List D}
theorem lsOf_ok (B : Base K H H0 O sto) (r : Rp K H0 O v d) (h : lsOf sto d = some xs) : ∃ a vs, v = .ref a ∧ SqL K H a vs ∧ RpAll K H0 O vs xs := by
  cases d with
  | lst ys => cases h; cases r with | lst h1 h2 => exact ⟨_, _, rfl, SqL.of (B.sub _ _ h1), h2⟩
  | scr ys => cases h; cases r with | scr h1 h2 => exact ⟨_, _, rfl, B.sub.seq h1, h2⟩
  | own k =>
    cases r with
    | own h1 =>
      rename_i a
      cases e : sto[k]? with
      | none => simp only [lsOf, e] at h; cases h
      | some c =>
        cases c with
        | lst ys =>
          simp only [lsOf, e] at h
          cases h
          obtain ⟨vs, q1, q2, _⟩ := B.cell k _ _ h1 e
          exact ⟨a, vs, rfl, SqL.of q1, q2⟩
        | _ => simp only [lsOf, e] at h; cases h
  | _ => cases h
theorem seqOf_ok (B : Base K H H0 O sto) (r : Rp K H0 O v d) (h : seqOf sto d = some xs) : ∃ a vs, v = .ref a ∧ (SqL K H a vs ∨ SqT K H a vs) ∧ RpAll K H0 O vs xs := by
  cases d with
  | tup ys => cases h; cases r with | tup h1 h2 => exact ⟨_, _, rfl, .inr (sameNT B.sub h1), h2⟩
  | par ys => cases h; cases r with | par h1 h2 => exact ⟨_, _, rfl, .inr (sameT B.sub h1), h2⟩
  | lst ys => obtain ⟨a, vs, e, h1, h2⟩ := lsOf_ok B r h; exact ⟨a, vs, e, .inl h1, h2⟩
  | scr ys => obtain ⟨a, vs, e, h1, h2⟩ := lsOf_ok B r h; exact ⟨a, vs, e, .inl h1, h2⟩
  | own k => obtain ⟨a, vs, e, h1, h2⟩ := lsOf_ok B r h; exact ⟨a, vs, e, .inl h1, h2⟩
  | _ => cases h
end

/-! ### names, constants, chains -/
section
variable {X : Cx} {W : WX} {e a b c : Expr} {es : List Expr} {pos : Pos} {f g : Sl → M D} {h : Sl → M (List D)}
def fVar (i : Nat) : Sl → M D := fun sl s => match sl[i]? with | some (some d) => some (.ok d s) | _ => none
theorem tG_of {K : PySem.W.Frag} {mg : Str → Option Value} {β α : Type} {rp : Rep β α} {f : Sl → M α} {σ : L2.St} {H : Hp} {Q : β → Hp → Prop} (t : tG K mg W rp f σ H Q) :
    ∃ H0 O sl sto r, Base K H H0 O sto ∧ RpSl K H0 O σ sl ∧ f sl sto = some r ∧ PostG K mg rp H H0 O Q (fun c d H' => W c d σ H') r := t
theorem e_var (i : Nat) {x : Str} {pos : Pos} (hN : X.N[i]? = some x := by rfl) (hv : Vis X.env.scope x := by first | exact Or.inl rfl | exact Or.inr (Or.inl rfl) | exact Or.inr (Or.inr rfl)) (hd : (x == ("__debug__" : Str)) = false := by decide)
    (hcd : (x == ("__classdict__" : Str)) = false := by decide) : PE X (.Name x pos) (tE X.K X.mg W (fVar i)) := by
  refine PE.imp (pe_var (i := i) hN hv hd hcd) fun σ H Q t => ?_
  obtain ⟨H0, O, sl, sto, r, B, S, q, p⟩ := t
  unfold fVar at q
  split at q
  · rename_i d hd
    cases q
    obtain ⟨v, h1, h2⟩ := S.at_ i d hd
    exact ⟨v, h1, post_ok p B h2⟩
  · cases q
def fC (d : D) : Sl → M D := fun _ => retM d
theorem e_const {v : V} {d : D} (he : PE X e (tC v)) (hd : ∀ H O, Rp X.K H O v d) : PE X e (tE X.K X.mg W (fC d)) := by
  refine PE.imp he fun σ H Q t => ?_
  obtain ⟨H0, O, sl, sto, r, B, S, q, p⟩ := t
  cases q
  exact post_ok p B (hd _ _)
theorem e_int {i j pos} : PE X (.Constant (.int i) j pos) (tE X.K X.mg W (fC (.int i))) := e_const pe_int fun _ _ => .int i
theorem e_bl {b j pos} : PE X (.Constant (.bool b) j pos) (tE X.K X.mg W (fC (.bl b))) := e_const pe_bl fun _ _ => .bl b
theorem e_non {j pos} : PE X (.Constant .none j pos) (tE X.K X.mg W (fC .non)) := e_const pe_non fun _ _ => .non
theorem e_str {x j pos} : PE X (.Constant (.str x) j pos) (tE X.K X.mg W (fC (.str x))) := e_const pe_str fun _ _ => .str x
/-- arguments -/
def fNil : Sl → M (List D) := fun _ => retM []
def fCons (f : Sl → M D) (h : Sl → M (List D)) : Sl → M (List D) := fun sl => bindM (f sl) fun x => bindM (h sl) fun xs => retM (x :: xs)
theorem a_nil : PA X [] (tA X.K X.mg W fNil) := by
  refine PA.imp pa_nil fun σ H Q t => ?_
  obtain ⟨H0, O, sl, sto, r, B, S, q, p⟩ := t
  cases q
  exact post_ok p B .nil
theorem a_cons (he : PE X e (tE X.K X.mg W f)) (hr : PA X es (tA X.K X.mg W h)) (hs : starEach (e :: es) X.env = (false, eval e X.env) :: starEach es X.env := by rfl) : PA X (e :: es) (tA X.K X.mg W (fCons f h)) := by
  refine PA.imp (pa_cons he hr hs) fun σ H Q t => ?_
  refine tG_mono (tG_bind t) fun v H1 z => ?_
  obtain ⟨H0', O', sl', s', x, r', B', S', rx, q', p'⟩ := z
  obtain ⟨r2, e2, p2⟩ := PostG.bind (rp := RpAll X.K) q' p'
  refine ⟨H0', O', sl', s', r2, B', S', e2, p2.mono fun vs H2 z => ?_⟩
  obtain ⟨H02, O2, s2, xs, r3, B2, X2, rxs, q3, p3⟩ := z
  cases q3
  exact post_ok p3 B2 (.cons (X2.rp rx) rxs)
/-- one operand -/
def f1 (o : Sto → D → Option D) (f : Sl → M D) : Sl → M D := fun sl => bindM (f sl) fun x => liftO fun s => o s x
def f2 (o : Sto → D → D → Option D) (f g : Sl → M D) : Sl → M D := fun sl => bindM (f sl) fun x => bindM (g sl) fun y => liftO fun s => o s x y
/-- what an operation on values keeps -/
def rD1 (K : PySem.W.Frag) (o : Sto → D → Option D) : V → Hp → VK → Prop := fun x H Q => ∃ H0 O sto d z, Base K H H0 O sto ∧ Rp K H0 O x d ∧ o sto d = some z ∧ ∀ v H' H0', Base K H' H0' O sto → Ext H H0 O H' H0' O → Rp K H0' O v z → Q v H'
def rD2 (K : PySem.W.Frag) (o : Sto → D → D → Option D) : R2 := fun x y H Q => ∃ H0 O sto d e z, Base K H H0 O sto ∧ Rp K H0 O x d ∧ Rp K H0 O y e ∧ o sto d e = some z ∧ ∀ v H' H0', Base K H' H0' O sto → Ext H H0 O H' H0' O → Rp K H0' O v z → Q v H'
theorem tE_f1 {o : Sto → D → Option D} {σ : L2.St} {H : Hp} {Q : VK} (t : tE X.K X.mg W (f1 o f) σ H Q) : tE X.K X.mg W f σ H fun x H1 => rD1 X.K o x H1 Q := by
  refine tG_mono (tG_bind t) fun v H1 z => ?_
  obtain ⟨H0', O', sl', s', x, r', B', S', rx, q', p'⟩ := z
  obtain ⟨y, hy, rfl⟩ := PostG.one (Q := Q) q'
  exact ⟨H0', O', s', x, y, B', rx, hy, fun v H' H0'' b x r => p' v H' H0'' O' b x r⟩
theorem tE_f2 {o : Sto → D → D → Option D} {σ : L2.St} {H : Hp} {Q : VK} (t : tE X.K X.mg W (f2 o f g) σ H Q) : tE X.K X.mg W f σ H fun x H1 => tE X.K X.mg W g σ H1 fun y H2 => rD2 X.K o x y H2 Q := by
  refine tG_mono (tG_bind t) fun v H1 z => ?_
  obtain ⟨H0', O', sl', s', x, r', B', S', rx, q', p'⟩ := z
  obtain ⟨r2, e2, p2⟩ := PostG.bind (rp := Rp X.K) q' p'
  refine ⟨H0', O', sl', s', r2, B', S', e2, p2.mono fun y H2 z => ?_⟩
  obtain ⟨H02, O2, s2, ys, r3, B2, X2, ry, q3, p3⟩ := z
  obtain ⟨y', hy, rfl⟩ := PostG.one (Q := Q) q3
  exact ⟨H02, O2, s2, x, ys, y', B2, X2.rp rx, ry, hy, fun v H' H0'' b x r => p3 v H' H0'' O2 b x r⟩
theorem e_bin {op : Operator} {o : Sto → D → D → Option D} (ho : OpR X (binaryOp op) (rD2 X.K o)) (ha : PE X a (tE X.K X.mg W f)) (hb : PE X b (tE X.K X.mg W g)) : PE X (.BinOp a op b pos) (tE X.K X.mg W (f2 o f g)) :=
  PE.imp (pe_op ho ha hb) fun _ _ _ t => tE_f2 t
theorem e_cmp {op : CmpOp} {o : Sto → D → D → Option D} (ho : OpR X (compareOp op) (rD2 X.K o)) (ha : PE X a (tE X.K X.mg W f)) (hb : PE X b (tE X.K X.mg W g)) (hm : behindInMarks op b = false := by first | exact nomark _ | rfl) : PE X (.Compare a [op] [b] pos) (tE X.K X.mg W (f2 o f g)) :=
  PE.imp (pe_cmpR ho ha hb hm) fun _ _ _ t => tE_f2 t
/-- tests -/
def asB : D → Option Bool | .bl b => some b | _ => none
def fB (f : Sl → M D) : Sl → M Bool := fun sl => bindM (f sl) fun x => liftO fun _ => asB x
theorem tT_fB {σ : L2.St} {H : Hp} {Q : Bool → Hp → Prop} (t : tT X.K X.mg W (fB f) σ H Q) : tE X.K X.mg W f σ H fun x H1 => ∃ k, x = .bl k ∧ Q k H1 := by
  refine tG_mono (tG_bind t) fun v H1 z => ?_
  obtain ⟨H0', O', sl', s', x, r', B', S', rx, q', p'⟩ := z
  obtain ⟨y, hy, rfl⟩ := PostG.one (Q := Q) q'
  cases x with
  | bl k => cases hy; cases rx; exact ⟨_, rfl, post_ok p' B' rfl⟩
  | _ => cases hy
theorem b_cmp {op : CmpOp} {o : Sto → D → D → Option D} (ho : OpR X (compareOp op) (rD2 X.K o)) (ha : PE X a (tE X.K X.mg W f)) (hb : PE X b (tE X.K X.mg W g)) (hm : behindInMarks op b = false := by first | exact nomark _ | rfl) : PT X (.Compare a [op] [b] pos) (tT X.K X.mg W (fB (f2 o f g))) :=
  PT.imp (pt_cmpR ho ha hb hm) fun _ _ _ t => (tE_f2 (tT_fB t))
/-- the truth of a value -/
def truO (s : Sto) : D → Option Bool
  | .non => some false
  | .bl b => some b
  | .int i => some (i != 0)
  | .str x => if x.length ≤ 16777216 then some ((x.length : Int) != 0) else none
  | d => (seqOf s d).map fun xs => !xs.isEmpty
def fTru (f : Sl → M D) : Sl → M Bool := fun sl => bindM (f sl) fun x => liftO fun s => truO s x
theorem empty_of {K : PySem.W.Frag} {H : Hp} {O : List Addr} {vs : List V} {xs : List D} (r : RpAll K H O vs xs) : vs.isEmpty = xs.isEmpty := by
  cases r <;> rfl
theorem b_tru (ha : PE X e (tE X.K X.mg W f)) (he : ∀ whole, isTrue e X.env whole = (do let v ← whole; standAt e.pos; holding [v] (truthy v)) := by intro _; rfl) : PT X e (tT X.K X.mg W (fTru f)) := by
  refine PT.imp (pt_truth ha he) fun σ H Q t => ?_
  refine tG_mono (tG_bind t) fun v H1 z => ?_
  obtain ⟨H0', O', sl', s', x, r', B', S', rx, q', p'⟩ := z
  obtain ⟨y, hy, rfl⟩ := PostG.one (Q := Q) q'
  refine ⟨y, ?_, post_ok p' B' rfl⟩
  have seq : ∀ d, Rp X.K H0' O' v d → (seqOf s' d).map (fun xs => !xs.isEmpty) = some y → TruV X.K v H1 y := fun d rd h => by
    cases e : seqOf s' d with
    | none => rw [e] at h; cases h
    | some xs =>
      rw [e] at h
      cases h
      obtain ⟨a, vs, rfl, hs, rs⟩ := seqOf_ok B' rd e
      rcases hs with hs | hs
      · exact .inl ⟨vs, hs, by rw [empty_of rs]⟩
      · exact .inr (.inl ⟨vs, hs, by rw [empty_of rs]⟩)
  cases x with
  | non => cases rx; cases hy; rfl
  | bl b => cases rx; cases hy; rfl
  | int i => cases rx; cases hy; rfl
  | str z =>
    cases rx
    have hy' : (if z.length ≤ 16777216 then some ((z.length : Int) != 0) else none) = some y := hy
    split at hy'
    · rename_i hz
      cases hy'
      exact ⟨by rw [sizeLine_eq]; exact hz, rfl⟩
    · cases hy'
  | lst xs => exact seq _ rx hy
  | tup xs => exact seq _ rx hy
  | par xs => exact seq _ rx hy
  | scr xs => exact seq _ rx hy
  | own k => exact seq _ rx hy
def fNot (f : Sl → M Bool) : Sl → M Bool := fun sl => bindM (f sl) fun x => retM (!x)
def fAnd (f g : Sl → M Bool) : Sl → M Bool := fun sl => bindM (f sl) fun x => if x = true then g sl else retM false
def fOr (f g : Sl → M Bool) : Sl → M Bool := fun sl => bindM (f sl) fun x => if x = true then retM true else g sl
variable {u v : Sl → M Bool}
theorem b_not (ha : PT X a (tT X.K X.mg W u)) : PT X (.UnaryOp .Not a pos) (tT X.K X.mg W (fNot u)) := by
  refine PT.imp (pt_not ha) fun σ H Q t => ?_
  refine tG_mono (tG_bind t) fun v H1 z => ?_
  obtain ⟨H0', O', sl', s', x, r', B', S', rx, q', p'⟩ := z
  cases rx
  cases q'
  exact post_ok p' B' rfl
theorem w_and {rest : List Expr} (ha : PT X a (tT X.K X.mg W u)) (hb : PW X (.BoolOp .And (b :: rest) pos) (tT X.K X.mg W v)) : PW X (.BoolOp .And (a :: b :: rest) pos) (tT X.K X.mg W (fAnd u v)) := by
  refine PW.imp (pw_and ha hb) fun σ H Q t => ?_
  refine tG_mono (tG_bind t) fun y H1 z => ?_
  obtain ⟨H0', O', sl', s', x, r', B', S', rx, q', p'⟩ := z
  cases rx
  cases y with
  | true => exact iteT ⟨H0', O', sl', s', r', B', S', q', p'⟩
  | false => cases q'; exact iteF (post_ok p' B' rfl)
theorem w_or {rest : List Expr} (ha : PT X a (tT X.K X.mg W u)) (hb : PW X (.BoolOp .Or (b :: rest) pos) (tT X.K X.mg W v)) : PW X (.BoolOp .Or (a :: b :: rest) pos) (tT X.K X.mg W (fOr u v)) := by
  refine PW.imp (pw_or ha hb) fun σ H Q t => ?_
  refine tG_mono (tG_bind t) fun y H1 z => ?_
  obtain ⟨H0', O', sl', s', x, r', B', S', rx, q', p'⟩ := z
  cases rx
  cases y with
  | true => cases q'; exact iteT (post_ok p' B' rfl)
  | false => exact iteF ⟨H0', O', sl', s', r', B', S', q', p'⟩
theorem w_and1 (ha : PT X a (tT X.K X.mg W u)) : PW X (.BoolOp .And [a] pos) (tT X.K X.mg W u) := pw_and1 ha
theorem w_or1 (ha : PT X a (tT X.K X.mg W u)) : PW X (.BoolOp .Or [a] pos) (tT X.K X.mg W u) := pw_or1 ha
theorem b_w (h : PW X e (tT X.K X.mg W u)) : PT X e (tT X.K X.mg W u) := h.pt
/-- and, or, not as values of truths -/
def fAndV (f g : Sl → M D) : Sl → M D := fun sl => bindM (f sl) fun x => match x with | .bl true => g sl | .bl false => retM (.bl false) | _ => fun _ => none
def fOrV (f g : Sl → M D) : Sl → M D := fun sl => bindM (f sl) fun x => match x with | .bl true => retM (.bl true) | .bl false => g sl | _ => fun _ => none
theorem e_and {rest : List Expr} (ha : PE X a (tE X.K X.mg W f)) (hb : PE X (.BoolOp .And (b :: rest) pos) (tE X.K X.mg W g)) : PE X (.BoolOp .And (a :: b :: rest) pos) (tE X.K X.mg W (fAndV f g)) := by
  refine PE.imp (pe_and ha hb) fun σ H Q t => ?_
  refine tG_mono (tG_bind t) fun y H1 z => ?_
  obtain ⟨H0', O', sl', s', x, r', B', S', rx, q', p'⟩ := z
  cases x with
  | bl k =>
    cases rx
    refine ⟨k, rfl, ?_⟩
    cases k with
    | true => exact iteT ⟨H0', O', sl', s', r', B', S', q', p'⟩
    | false => cases q'; exact iteF (post_ok p' B' (.bl false))
  | _ => cases q'
theorem e_or {rest : List Expr} (ha : PE X a (tE X.K X.mg W f)) (hb : PE X (.BoolOp .Or (b :: rest) pos) (tE X.K X.mg W g)) : PE X (.BoolOp .Or (a :: b :: rest) pos) (tE X.K X.mg W (fOrV f g)) := by
  refine PE.imp (pe_or ha hb) fun σ H Q t => ?_
  refine tG_mono (tG_bind t) fun y H1 z => ?_
  obtain ⟨H0', O', sl', s', x, r', B', S', rx, q', p'⟩ := z
  cases x with
  | bl k =>
    cases rx
    refine ⟨k, rfl, ?_⟩
    cases k with
    | true => cases q'; exact iteT (post_ok p' B' (.bl true))
    | false => exact iteF ⟨H0', O', sl', s', r', B', S', q', p'⟩
  | _ => cases q'
theorem e_one {op} (h : PE X a (tE X.K X.mg W f)) : PE X (.BoolOp op [a] pos) (tE X.K X.mg W f) := pe_one h
def notO (_ : Sto) : D → Option D | .bl b => some (.bl (!b)) | _ => none
theorem e_not (ha : PE X a (tE X.K X.mg W f)) : PE X (.UnaryOp .Not a pos) (tE X.K X.mg W (f1 notO f)) := by
  refine PE.imp (pe_not ha) fun σ H Q t => ?_
  refine tG_mono (tE_f1 t) fun y H1 z => ?_
  obtain ⟨H0', O', s', x, z', B', rx, hz, k⟩ := z
  cases x with
  | bl b => cases rx; cases hz; exact ⟨b, rfl, k _ _ _ B' (.refl _ _ _) (.bl _)⟩
  | _ => cases hz
def fIf (u : Sl → M Bool) (f g : Sl → M D) : Sl → M D := fun sl => bindM (u sl) fun x => if x = true then f sl else g sl
theorem e_if (hc : PT X c (tT X.K X.mg W u)) (ha : PE X a (tE X.K X.mg W f)) (hb : PE X b (tE X.K X.mg W g)) : PE X (.IfExp c a b pos) (tE X.K X.mg W (fIf u f g)) := by
  refine PE.imp (pe_ifExp hc ha hb) fun σ H Q t => ?_
  refine tG_mono (tG_bind t) fun y H1 z => ?_
  obtain ⟨H0', O', sl', s', x, r', B', S', rx, q', p'⟩ := z
  cases rx
  cases y with
  | true => exact iteT ⟨H0', O', sl', s', r', B', S', q', p'⟩
  | false => exact iteF ⟨H0', O', sl', s', r', B', S', q', p'⟩
/-- -a -/
def negO (_ : Sto) : D → Option D | .int i => some (.int (-i)) | _ => none
theorem e_neg (ha : PE X a (tE X.K X.mg W f)) : PE X (.UnaryOp .USub a pos) (tE X.K X.mg W (f1 negO f)) := by
  refine PE.imp (pe_un un_neg ha) fun σ H Q t => ?_
  refine tG_mono (tE_f1 t) fun y H1 z => ?_
  obtain ⟨H0', O', s', x, z', B', rx, hz, k⟩ := z
  cases x with
  | int i => cases rx; cases hz; exact ⟨i, rfl, k _ _ _ B' (.refl _ _ _) (.int _)⟩
  | _ => cases hz
/-! ### displays -/
def small (n : Nat) : Bool := decide (n ≤ 16777216)
def fTup (h : Sl → M (List D)) : Sl → M D := fun sl => bindM (h sl) fun xs => liftO fun _ => if small xs.length = true then some (.tup xs) else none
def fLst (h : Sl → M (List D)) : Sl → M D := fun sl => bindM (h sl) fun xs => liftO fun _ => if small xs.length = true then some (.lst xs) else none
/-- a display of a list of one's own -/
def fOwn (h : Sl → M (List D)) : Sl → M D := fun sl => bindM (h sl) fun xs s => if small xs.length = true then some (.ok (.own s.length) (s ++ [.lst xs])) else none
theorem small_ok {n : Nat} (h : small n = true) : n ≤ sizeLine := by rw [sizeLine_eq]; exact of_decide_eq_true h
theorem e_tup {x1} (ha : PA X es (tA X.K X.mg W h)) : PE X (.Tuple es x1 pos) (tE X.K X.mg W (fTup h)) := by
  refine PE.imp (pe_tupF ha) fun σ H Q t => ?_
  refine tG_mono (tG_bind t) fun vs H1 z => ?_
  obtain ⟨H0', O', sl', s', xs, r', B', S', rx, q', p'⟩ := z
  obtain ⟨y, hy, rfl⟩ := PostG.one (Q := Q) q'
  split at hy
  · rename_i hz
    cases hy
    refine ⟨by rw [rx.length]; exact small_ok hz, fun p0 o hd hp => ?_⟩
    obtain ⟨b1, b2⟩ := B'.new hp (.frz o (.tup vs))
    exact p' _ _ _ _ b1 b2 (.tup (SqN.mk hd) (b2.rps rx))
  · cases hy
theorem e_lst (ha : PA X es (tA X.K X.mg W h)) : PE X (.List es pos) (tE X.K X.mg W (fLst h)) := by
  refine PE.imp (pe_lst ha) fun σ H Q t => ?_
  refine tG_mono (tG_bind t) fun vs H1 z => ?_
  obtain ⟨H0', O', sl', s', xs, r', B', S', rx, q', p'⟩ := z
  obtain ⟨y, hy, rfl⟩ := PostG.one (Q := Q) q'
  split at hy
  · rename_i hz
    cases hy
    refine ⟨by rw [rx.length]; exact small_ok hz, fun p0 hp => ?_⟩
    obtain ⟨b1, b2⟩ := B'.new hp (.lst vs)
    exact p' _ _ _ _ b1 b2 (.lst upd_same (b2.rps rx))
  · cases hy
theorem none0 {K : PySem.W.Frag} {H H0 : Hp} {O : List Addr} {sto : Sto} (B : Base K H H0 O sto) {p : Addr} (hp : H p = none) : H0 p = none := by
  cases q : H0 p with
  | none => rfl
  | some u => rw [B.sub _ _ q] at hp; cases hp
theorem own_new {K : PySem.W.Frag} {H H0 : Hp} {O : List Addr} {sto : Sto} (B : Base K H H0 O sto) {p : Addr} (hp : H p = none) {vs : List V} {xs : List D} (rx : RpAll K H0 O vs xs) :
    Base K (upd H p (.lst vs)) H0 (O ++ [p]) (sto ++ [.lst xs]) ∧ Ext H H0 O (upd H p (.lst vs)) H0 (O ++ [p]) ∧ Rp K H0 (O ++ [p]) (.ref p) (.own sto.length) := by
  obtain ⟨b1, b2⟩ := B.newOwn hp (o := .lst vs) (c := .lst xs) ⟨vs, upd_same, rx, none0 B hp⟩
  refine ⟨b1, b2, .own ?_⟩
  rw [← B.len, List.getElem?_append_right (Nat.le_refl _), Nat.sub_self]
  rfl
theorem e_own (ha : PA X es (tA X.K X.mg W h)) : PE X (.List es pos) (tE X.K X.mg W (fOwn h)) := by
  refine PE.imp (pe_lst ha) fun σ H Q t => ?_
  refine tG_mono (tG_bind t) fun vs H1 z => ?_
  obtain ⟨H0', O', sl', s', xs, r', B', S', rx, q', p'⟩ := z
  have q2 : (if small xs.length = true then some (R.ok (D.own s'.length) (s' ++ [.lst xs])) else none) = some r' := q'
  split at q2
  · rename_i hz
    cases q2
    refine ⟨by rw [rx.length]; exact small_ok hz, fun p0 hp => ?_⟩
    obtain ⟨b1, b2, b3⟩ := own_new B' hp rx
    exact p' _ _ _ _ b1 b2 b3
  · cases q2
end
end PD

set_option Elab.async false
set_option linter.all false
set_option maxRecDepth 100000
set_option maxHeartbeats 4000000
/-! PD: operations on data. -/
namespace PD
open PySem PySem.Spec PyProof.Rows L2
section
variable {X : Cx}

/-! ### arithmetic -/
/-- a list whose object is tracked -/
def rawOf (sto : Sto) : D → Option (List D)
  | .lst xs => some xs
  | .own k => match sto[k]? with | some (.lst xs) => some xs | _ => none
  | _ => none
theorem rawOf_ok {K : PySem.W.Frag} {H H0 : Hp} {O : List Addr} {sto : Sto} {d : D} {v : V} {xs : List D} (B : Base K H H0 O sto) (r : Rp K H0 O v d) (h : rawOf sto d = some xs) : ∃ a vs, v = .ref a ∧ H a = some (.lst vs) ∧ RpAll K H0 O vs xs := by
  cases d with
  | lst ys => cases h; cases r with | lst h1 h2 => exact ⟨_, _, rfl, B.sub _ _ h1, h2⟩
  | own k =>
    cases r with
    | own h1 =>
      rename_i a
      cases e : sto[k]? with
      | none => simp only [rawOf, e] at h; cases h
      | some c =>
        cases c with
        | lst ys =>
          simp only [rawOf, e] at h
          cases h
          obtain ⟨vs, q1, q2, _⟩ := B.cell k _ _ h1 e
          exact ⟨a, vs, rfl, q1, q2⟩
        | _ => simp only [rawOf, e] at h; cases h
  | _ => cases h
def addO (s : Sto) : D → D → Option D
  | .int i, .int j => some (.int (i + j))
  | .str a, .str b => if small (a.length + b.length) = true then some (.str (a ++ b)) else none
  | .tup a, .tup b => if small (a.length + b.length) = true then some (.tup (a ++ b)) else none
  | d, e => match rawOf s d, rawOf s e with
    | some a, some b => if small (a.length + b.length) = true then some (.lst (a ++ b)) else none
    | _, _ => none
theorem o_add : OpR X (binaryOp .Add) (rD2 X.K addO) := by
  intro pins s σ H x y v u Q I rx ry h
  obtain ⟨H0, O, sto, d, e, z, B, rd, re, hz, k⟩ := h
  unfold addO at hz
  split at hz
  · cases rd; cases re; cases hz
    exact op_add pins s σ H _ _ v u Q I rx ry ⟨_, _, rfl, rfl, k _ _ _ B (.refl _ _ _) (.int _)⟩
  · split at hz
    · rename_i hs
      cases rd; cases re; cases hz
      exact op_add_str pins s σ H _ _ v u Q I rx ry ⟨_, _, rfl, rfl, small_ok hs, k _ _ _ B (.refl _ _ _) (.str _)⟩
    · cases hz
  · split at hz
    · rename_i hs
      cases hz
      cases rd with
      | tup h1 h2 =>
        cases re with
        | tup g1 g2 =>
          refine op_catF pins s σ H _ _ v u Q I rx ry ⟨_, _, _, _, rfl, rfl, sameNT B.sub h1, sameNT B.sub g1, by rw [h2.length, g2.length]; exact small_ok hs, fun e => ?_, fun _ e => ?_, fun _ _ p o hd hp => ?_⟩
          · subst e
            cases h2
            exact k _ _ _ B (.refl _ _ _) (.tup g1 g2)
          · subst e
            cases g2
            refine k _ _ _ B (.refl _ _ _) ?_
            rw [List.append_nil]
            exact .tup h1 h2
          · obtain ⟨b1, b2⟩ := B.new hp (.frz o (.tup _))
            exact k _ _ _ b1 b2 (.tup (SqN.mk hd) ((b2.rps h2).append (b2.rps g2)))
    · cases hz
  · split at hz
    · rename_i a b ha hb
      split at hz
      · rename_i hs
        cases hz
        obtain ⟨p1, vs, rfl, h1, h2⟩ := rawOf_ok B rd ha
        obtain ⟨p2, us, rfl, g1, g2⟩ := rawOf_ok B re hb
        refine op_cat pins s σ H _ _ v u Q I rx ry ⟨_, _, _, _, rfl, rfl, h1, g1, by rw [h2.length, g2.length]; exact small_ok hs, fun p hp => ?_⟩
        obtain ⟨b1, b2⟩ := B.new hp (.lst (vs ++ us))
        exact k _ _ _ b1 b2 (.lst upd_same ((b2.rps h2).append (b2.rps g2)))
      · cases hz
    · cases hz
def subO (_ : Sto) : D → D → Option D
  | .int i, .int j => some (.int (i - j))
  | _, _ => none
theorem o_sub : OpR X (binaryOp .Sub) (rD2 X.K subO) := by
  intro pins s σ H x y v u Q I rx ry h
  obtain ⟨H0, O, sto, d, e, z, B, rd, re, hz, k⟩ := h
  unfold subO at hz
  split at hz
  · cases rd; cases re; cases hz
    exact op_sub pins s σ H _ _ v u Q I rx ry ⟨_, _, rfl, rfl, k _ _ _ B (.refl _ _ _) (.int _)⟩
  · cases hz
def mulOk (i j : Int) : Bool := (decide (-(2 ^ 64) < i) && decide (i < 2 ^ 64)) || (decide (-(2 ^ 64) < j) && decide (j < 2 ^ 64))
def mulO (_ : Sto) : D → D → Option D
  | .int i, .int j => if mulOk i j = true then some (.int (i * j)) else none
  | _, _ => none
theorem mulOk_ok {i j : Int} (h : mulOk i j = true) : CMul i j := by
  unfold mulOk at h
  simp only [Bool.or_eq_true, Bool.and_eq_true, decide_eq_true_eq] at h
  exact h
theorem o_mul : OpR X (binaryOp .Mult) (rD2 X.K mulO) := by
  intro pins s σ H x y v u Q I rx ry h
  obtain ⟨H0, O, sto, d, e, z, B, rd, re, hz, k⟩ := h
  unfold mulO at hz
  split at hz
  · split at hz
    · rename_i hs
      cases rd; cases re; cases hz
      exact op_mul pins s σ H _ _ v u Q I rx ry ⟨_, _, rfl, rfl, mulOk_ok hs, k _ _ _ B (.refl _ _ _) (.int _)⟩
    · cases hz
  · cases hz
def modO (_ : Sto) : D → D → Option D
  | .int i, .int j => if 0 < j then some (.int (i % j)) else none
  | _, _ => none
theorem o_mod : OpR X (binaryOp .Mod) (rD2 X.K modO) := by
  intro pins s σ H x y v u Q I rx ry h
  obtain ⟨H0, O, sto, d, e, z, B, rd, re, hz, k⟩ := h
  unfold modO at hz
  split at hz
  · split at hz
    · rename_i i j hs
      cases rd; cases re; cases hz
      refine op_modN pins s σ H _ _ v u Q I rx ry ⟨_, _, rfl, rfl, by omega, ?_⟩
      have e : i.fmod j = i % j := Int.fmod_eq_emod_of_nonneg i (by omega)
      show Q (V.int (i.fmod j)) H
      rw [e]
      exact k _ _ _ B (.refl _ _ _) (.int _)
    · cases hz
  · cases hz
def fdivO (_ : Sto) : D → D → Option D
  | .int i, .int j => if 0 < j ∧ j < 1073741824 then some (.int (i / j)) else none
  | _, _ => none
theorem o_fdiv : OpR X (binaryOp .FloorDiv) (rD2 X.K fdivO) := by
  intro pins s σ H x y v u Q I rx ry h
  obtain ⟨H0, O, sto, d, e, z, B, rd, re, hz, k⟩ := h
  unfold fdivO at hz
  split at hz
  · split at hz
    · rename_i i j hs
      cases rd; cases re; cases hz
      refine op_fdivN pins s σ H _ _ v u Q I rx ry ⟨_, _, rfl, rfl, ⟨by omega, by omega⟩, ?_⟩
      have e : i.fdiv j = i / j := Int.fdiv_eq_ediv_of_nonneg i (by omega)
      show Q (V.int (i.fdiv j)) H
      rw [e]
      exact k _ _ _ B (.refl _ _ _) (.int _)
    · cases hz
  · cases hz
def powO (_ : Sto) : D → D → Option D
  | .int i, .int j => if 0 ≤ j ∧ j ≤ 64 ∧ i.natAbs < 2 ^ 64 then some (.int (i ^ j.toNat)) else none
  | _, _ => none
theorem o_pow : OpR X (binaryOp .Pow) (rD2 X.K powO) := by
  intro pins s σ H x y v u Q I rx ry h
  obtain ⟨H0, O, sto, d, e, z, B, rd, re, hz, k⟩ := h
  unfold powO at hz
  split at hz
  · split at hz
    · rename_i i j hs
      cases rd; cases re; cases hz
      exact op_pow pins s σ H _ _ v u Q I rx ry ⟨_, _, rfl, rfl, ⟨hs.1, by omega, hs.2.2⟩, k _ _ _ B (.refl _ _ _) (.int _)⟩
    · cases hz
  · cases hz

/-! ### equality -/
mutual
theorem Rp.dp {K : PySem.W.Frag} {H : Hp} {O : List Addr} : ∀ (d : D) (v : V), D.low 0 d = true → Rp K H O v d → Dp K H v (py d)
  | .non, _, _, h => by cases h; exact .non
  | .bl b, _, _, h => by cases h; exact .bl b
  | .int i, _, _, h => by cases h; exact .int i
  | .str x, _, _, h => by cases h; exact .str x
  | .lst ds, _, b, h => by cases h with | lst h1 h2 => exact .lst (SqL.of h1) (RpAll.dp ds _ b h2)
  | .tup ds, _, b, h => by cases h with | tup h1 h2 => exact .tup h1.seq (RpAll.dp ds _ b h2)
  | .par ds, _, b, h => by cases h with | par h1 h2 => exact .tup h1 (RpAll.dp ds _ b h2)
  | .scr ds, _, b, h => by cases h with | scr h1 h2 => exact .lst h1 (RpAll.dp ds _ b h2)
  | .own k, _, b, h => absurd (show decide (k < 0) = true from b) (by simp)
theorem RpAll.dp {K : PySem.W.Frag} {H : Hp} {O : List Addr} : ∀ (ds : List D) (vs : List V), D.lowAll 0 ds = true → RpAll K H O vs ds → DpAll K H vs (pyAll ds)
  | [], _, _, h => by cases h; exact .nil
  | d :: ds, _, b, h => by
    cases h with
    | cons h1 h2 =>
      have b' := Bool.and_eq_true_iff.mp b
      exact .cons (Rp.dp d _ b'.1 h1) (RpAll.dp ds _ b'.2 h2)
end
def peek (sto : Sto) : D → D
  | .own k => match sto[k]? with | some (.lst xs) => .scr xs | _ => .own k
  | d => d
theorem peek_rp {K : PySem.W.Frag} {H H0 : Hp} {O : List Addr} {sto : Sto} {d : D} {v : V} (B : Base K H H0 O sto) (r : Rp K H0 O v d) : Rp K H O v (peek sto d) := by
  have go : ∀ d, Rp K H0 O v d → Rp K H O v d := fun d r => Rp.mono B.sub (fun _ _ h => h) d v r
  unfold peek
  split
  · rename_i k
    split
    · rename_i xs e
      cases r with
      | own h1 =>
        obtain ⟨vs, q1, q2, _⟩ := B.cell k _ _ h1 e
        exact .scr (SqL.of q1) (RpAll.mono B.sub (fun _ _ h => h) _ _ q2)
    · exact go _ r
  · exact go _ r
def plainPy (s : Sto) (d : D) : Option PyData := if (D.low 0 (peek s d) && SeqAt.shaped (py (peek s d))) = true then some (py (peek s d)) else none
theorem plainPy_ok {K : PySem.W.Frag} {H H0 : Hp} {O : List Addr} {sto : Sto} {d : D} {v : V} {z : PyData} (B : Base K H H0 O sto) (r : Rp K H0 O v d) (h : plainPy sto d = some z) : Dp K H v z ∧ SeqAt.shaped z = true := by
  unfold plainPy at h
  split at h
  · rename_i c
    cases h
    have c' := Bool.and_eq_true_iff.mp c
    exact ⟨Rp.dp _ _ c'.1 (peek_rp B r), c'.2⟩
  · cases h
def scD : D → Option V
  | .non => some .non | .bl b => some (.bl b) | .int i => some (.int i) | .str x => some (.str x)
  | _ => none
theorem scD_ok {K : PySem.W.Frag} {H : Hp} {O : List Addr} {d : D} {v x : V} (r : Rp K H O v d) (h : scD d = some x) : v = x := by
  cases d with
  | non => cases r; cases h; rfl
  | bl _ => cases r; cases h; rfl
  | int _ => cases r; cases h; rfl
  | str _ => cases r; cases h; rfl
  | _ => cases h
def deepB (s : Sto) (d e : D) : Option Bool := match plainPy s d, plainPy s e with
  | some a, some b => some (PyData.eqv a b)
  | _, _ => none
/-- a list or tuple, of any depth, beside a text -/
def seqStr (s : Sto) (d e : D) : Option Bool := match e with
  | .str _ => (seqOf s d).map fun _ => false
  | _ => none
def eqBo (s : Sto) (d e : D) : Option Bool := match scD d, scD e with
  | some x, some y => if scal x y = true then some (decide (x = y)) else deepB s d e
  | _, _ => match deepB s d e with
    | some b => some b
    | none => seqStr s d e
def ng (neg b : Bool) : Bool := match neg with | true => !b | false => b
def eqO (neg : Bool) (s : Sto) (d e : D) : Option D := (eqBo s d e).map fun b => .bl (ng neg b)
theorem o_eqAux {op : CmpOp} {neg : Bool} (h1 : OpR X (compareOp op) (fun x y H Q => scal x y = true ∧ Q (.bl (ng neg (decide (x = y)))) H))
    (h2 : OpR X (compareOp op) (fun x y H Q => ∃ d e, Dp X.K H x d ∧ Dp X.K H y e ∧ SeqAt.shaped d = true ∧ SeqAt.shaped e = true ∧ Q (.bl (ng neg (PyData.eqv d e))) H))
    (h3 : OpR X (compareOp op) (fun x y H Q => ∃ a vs b, x = .ref a ∧ y = .str b ∧ (SqL X.K H a vs ∨ SqT X.K H a vs) ∧ Q (.bl (ng neg false)) H)) :
    OpR X (compareOp op) (rD2 X.K (eqO neg)) := by
  intro pins s σ H x y v u Q I rx ry h
  obtain ⟨H0, O, sto, d, e, z, B, rd, re, hz, k⟩ := h
  have deep : ∀ b, deepB sto d e = some b → z = .bl (ng neg b) → wpAny (model X.prog X.w) X.A (compareOp op v u) (EP X pins σ Q) X.xe s := by
    intro b hb ez
    unfold deepB at hb
    split at hb
    · rename_i p q hp hq
      cases hb
      obtain ⟨a1, a2⟩ := plainPy_ok B rd hp
      obtain ⟨b1, b2⟩ := plainPy_ok B re hq
      refine h2 pins s σ H _ _ v u Q I rx ry ⟨_, _, a1, b1, a2, b2, k _ _ _ B (.refl _ _ _) ?_⟩
      rw [ez]
      exact .bl _
    · cases hb
  unfold eqO at hz
  cases hE : eqBo sto d e with
  | none => rw [hE] at hz; cases hz
  | some b =>
    rw [hE] at hz
    have ez : z = .bl (ng neg b) := (Option.some.inj hz).symm
    unfold eqBo at hE
    split at hE
    · rename_i p q ha hb
      split at hE
      · rename_i hs
        have e1 := scD_ok rd ha
        have e2 := scD_ok re hb
        subst e1 e2
        cases hE
        subst ez
        exact h1 pins s σ H _ _ v u Q I rx ry ⟨hs, k _ _ _ B (.refl _ _ _) (.bl _)⟩
      · exact deep b hE ez
    · split at hE
      · rename_i b' hb'
        cases hE
        exact deep b hb' ez
      · unfold seqStr at hE
        split at hE
        · rename_i w
          cases hq : seqOf sto d with
          | none => rw [hq] at hE; cases hE
          | some xs =>
            rw [hq] at hE
            cases hE
            cases re
            obtain ⟨p, vs, rfl, g1, g2⟩ := seqOf_ok B rd hq
            subst ez
            exact h3 pins s σ H _ _ v u Q I rx ry ⟨p, vs, _, rfl, rfl, g1, k _ _ _ B (.refl _ _ _) (.bl _)⟩
        · cases hE
theorem op_eqSS (hu : X.A.units + 64 < cLine) : OpR X (compareOp .Eq) (fun x y H Q => ∃ a vs b, x = .ref a ∧ y = .str b ∧ (SqL X.K H a vs ∨ SqT X.K H a vs) ∧ Q (.bl (ng false false)) H) := by
  intro pins s σ H x y v u Q I rx ry h
  obtain ⟨a, vs, b, rfl, rfl, hs, q⟩ := h
  cases rx
  obtain ⟨t, rfl⟩ := ry
  rcases hs with hq | hq
  · obtain ⟨its, r', pl, hz⟩ := I.list hq
    exact SeqAt.RcAt.list_str b t pl.isList (by omega) _ _ _ _ ⟨.bl false, H, I, rfl, q⟩
  · obtain ⟨its, r', pl, hz⟩ := I.tuple hq
    exact SeqAt.RcAt.tuple_str b t pl (by omega) _ _ _ _ ⟨.bl false, H, I, rfl, q⟩
theorem op_neSS (hu : X.A.units + 64 < cLine) : OpR X (compareOp .NotEq) (fun x y H Q => ∃ a vs b, x = .ref a ∧ y = .str b ∧ (SqL X.K H a vs ∨ SqT X.K H a vs) ∧ Q (.bl (ng true false)) H) := by
  intro pins s σ H x y v u Q I rx ry h
  obtain ⟨a, vs, b, rfl, rfl, hs, q⟩ := h
  cases rx
  obtain ⟨t, rfl⟩ := ry
  rcases hs with hq | hq
  · obtain ⟨its, r', pl, hz⟩ := I.list hq
    exact SeqAt.RcNeAt.list_str b t pl.isList (by omega) _ _ _ _ ⟨.bl true, H, I, rfl, q⟩
  · obtain ⟨its, r', pl, hz⟩ := I.tuple hq
    exact SeqAt.RcNeAt.tuple_str b t pl (by omega) _ _ _ _ ⟨.bl true, H, I, rfl, q⟩
theorem o_eq (hu : X.A.units + 64 < cLine) : OpR X (compareOp .Eq) (rD2 X.K (eqO false)) := o_eqAux (fun pins s σ H x y v u Q I rx ry h => op_eq pins s σ H x y v u Q I rx ry ⟨h.1, h.2⟩) (fun pins s σ H x y v u Q I rx ry h => op_eqD hu pins s σ H x y v u Q I rx ry h) (op_eqSS hu)
theorem o_ne (hu : X.A.units + 64 < cLine) : OpR X (compareOp .NotEq) (rD2 X.K (eqO true)) := o_eqAux (fun pins s σ H x y v u Q I rx ry h => op_ne pins s σ H x y v u Q I rx ry ⟨h.1, h.2⟩) (fun pins s σ H x y v u Q I rx ry h => op_neD hu pins s σ H x y v u Q I rx ry h) (op_neSS hu)
def ltO (_ : Sto) : D → D → Option D
  | .int i, .int j => some (.bl (decide (i < j)))
  | .str a, .str b => some (.bl (decide (a.cps.toList < b.cps.toList)))
  | _, _ => none
def leO (_ : Sto) : D → D → Option D
  | .int i, .int j => some (.bl (decide (i ≤ j)))
  | .str a, .str b => some (.bl (!decide (b.cps.toList < a.cps.toList)))
  | _, _ => none
def gtO (_ : Sto) : D → D → Option D
  | .int i, .int j => some (.bl (decide (j < i)))
  | .str a, .str b => some (.bl (decide (b.cps.toList < a.cps.toList)))
  | _, _ => none
def geO (_ : Sto) : D → D → Option D
  | .int i, .int j => some (.bl (decide (j ≤ i)))
  | .str a, .str b => some (.bl (!decide (a.cps.toList < b.cps.toList)))
  | _, _ => none
theorem o_lt : OpR X (compareOp .Lt) (rD2 X.K ltO) := by
  intro pins s σ H x y v u Q I rx ry h
  obtain ⟨H0, O, sto, d, e, z, B, rd, re, hz, k⟩ := h
  unfold ltO at hz
  split at hz
  · cases rd; cases re; cases hz
    exact op_lt pins s σ H _ _ v u Q I rx ry ⟨_, _, rfl, rfl, k _ _ _ B (.refl _ _ _) (.bl _)⟩
  · cases rd; cases re; cases hz
    exact op_lt_str pins s σ H _ _ v u Q I rx ry ⟨_, _, rfl, rfl, k _ _ _ B (.refl _ _ _) (.bl _)⟩
  · cases hz
theorem o_le : OpR X (compareOp .LtE) (rD2 X.K leO) := by
  intro pins s σ H x y v u Q I rx ry h
  obtain ⟨H0, O, sto, d, e, z, B, rd, re, hz, k⟩ := h
  unfold leO at hz
  split at hz
  · cases rd; cases re; cases hz
    exact op_le pins s σ H _ _ v u Q I rx ry ⟨_, _, rfl, rfl, k _ _ _ B (.refl _ _ _) (.bl _)⟩
  · cases rd; cases re; cases hz
    exact op_le_str pins s σ H _ _ v u Q I rx ry ⟨_, _, rfl, rfl, k _ _ _ B (.refl _ _ _) (.bl _)⟩
  · cases hz
theorem o_gt : OpR X (compareOp .Gt) (rD2 X.K gtO) := by
  intro pins s σ H x y v u Q I rx ry h
  obtain ⟨H0, O, sto, d, e, z, B, rd, re, hz, k⟩ := h
  unfold gtO at hz
  split at hz
  · cases rd; cases re; cases hz
    exact op_gt pins s σ H _ _ v u Q I rx ry ⟨_, _, rfl, rfl, k _ _ _ B (.refl _ _ _) (.bl _)⟩
  · cases rd; cases re; cases hz
    exact op_gt_str pins s σ H _ _ v u Q I rx ry ⟨_, _, rfl, rfl, k _ _ _ B (.refl _ _ _) (.bl _)⟩
  · cases hz
theorem o_ge : OpR X (compareOp .GtE) (rD2 X.K geO) := by
  intro pins s σ H x y v u Q I rx ry h
  obtain ⟨H0, O, sto, d, e, z, B, rd, re, hz, k⟩ := h
  unfold geO at hz
  split at hz
  · cases rd; cases re; cases hz
    exact op_ge pins s σ H _ _ v u Q I rx ry ⟨_, _, rfl, rfl, k _ _ _ B (.refl _ _ _) (.bl _)⟩
  · cases rd; cases re; cases hz
    exact op_ge_str pins s σ H _ _ v u Q I rx ry ⟨_, _, rfl, rfl, k _ _ _ B (.refl _ _ _) (.bl _)⟩
  · cases hz
/-- a is None -/
def isNO (neg : Bool) (_ : Sto) (d e : D) : Option D := match e with
  | .non => some (.bl (match d with | .non => !neg | _ => neg))
  | _ => none
theorem is_aux {K : PySem.W.Frag} {H : Hp} {O : List Addr} {d : D} {v : V} (r : Rp K H O v d) : decide (v = V.non) = (match d with | .non => true | _ => false) := by
  cases r <;> first | exact decide_eq_true rfl | exact decide_eq_false (fun z => nomatch z)
theorem o_is : OpR X (compareOp .Is) (rD2 X.K (isNO false)) := by
  intro pins s σ H x y v u Q I rx ry h
  obtain ⟨H0, O, sto, d, e, z, B, rd, re, hz, k⟩ := h
  unfold isNO at hz
  split at hz
  · cases re; cases hz
    refine op_isN pins s σ H _ _ v u Q I rx ry ⟨rfl, k _ _ _ B (.refl _ _ _) ?_⟩
    rw [is_aux rd]
    cases d <;> exact .bl _
  · cases hz
theorem o_isNot : OpR X (compareOp .IsNot) (rD2 X.K (isNO true)) := by
  intro pins s σ H x y v u Q I rx ry h
  obtain ⟨H0, O, sto, d, e, z, B, rd, re, hz, k⟩ := h
  unfold isNO at hz
  split at hz
  · cases re; cases hz
    refine op_notN pins s σ H _ _ v u Q I rx ry ⟨rfl, k _ _ _ B (.refl _ _ _) ?_⟩
    rw [is_aux rd]
    cases d <;> exact .bl _
  · cases hz
/-! ### in -/
theorem mapSc_ok {K : PySem.W.Frag} {H : Hp} {O : List Addr} : ∀ {xs : List D} {vs ys : List V}, RpAll K H O vs xs → xs.mapM scD = some ys → vs = ys
  | [], _, _, .nil, h => by cases h; rfl
  | x :: xs, v :: vs, ys, .cons r t, h => by
    rw [List.mapM_cons] at h
    cases e : scD x with
    | none => rw [e] at h; cases h
    | some y =>
      rw [e] at h
      cases e2 : xs.mapM scD with
      | none => rw [e2] at h; cases h
      | some zs =>
        rw [e2] at h
        cases h
        rw [scD_ok r e, mapSc_ok t e2]
def inFlat (s : Sto) (d e : D) : Option Bool := match scD d, (seqOf s e).bind (fun xs => xs.mapM scD) with
  | some x, some ys => if (flatV x && ys.all flatV) = true then some (inV x ys) else none
  | _, _ => none
def inDeep (s : Sto) (d e : D) : Option Bool := match plainPy s d, lsOf s e with
  | some a, some xs => if (D.lowAll 0 xs && SeqAt.shaped (.list (pyAll xs))) = true then some ((pyAll xs).any fun z => PyData.eqv z a) else none
  | _, _ => none
def inO (neg : Bool) (s : Sto) (d e : D) : Option D := match inFlat s d e with
  | some b => some (.bl (ng neg b))
  | none => (inDeep s d e).map fun b => .bl (ng neg b)
theorem o_inAux {op : CmpOp} {neg : Bool} (h1 : OpR X (compareOp op) (rIn X.K neg))
    (h2 : OpR X (compareOp op) (fun x y H Q => ∃ d ds, Dp X.K H x d ∧ Dp X.K H y (.list ds) ∧ SeqAt.shaped d = true ∧ SeqAt.shaped (.list ds) = true ∧ Q (.bl (ng neg (ds.any fun z => PyData.eqv z d))) H)) :
    OpR X (compareOp op) (rD2 X.K (inO neg)) := by
  intro pins s σ H x y v u Q I rx ry h
  obtain ⟨H0, O, sto, d, e, z, B, rd, re, hz, k⟩ := h
  unfold inO at hz
  split at hz
  · rename_i b hb
    cases hz
    unfold inFlat at hb
    split at hb
    · rename_i a ys ha hy
      split at hb
      · rename_i hf
        cases hb
        have e1 := scD_ok rd ha
        subst e1
        cases hq : seqOf sto e with
        | none => rw [hq] at hy; cases hy
        | some xs =>
          rw [hq] at hy
          obtain ⟨p, vs, rfl, g1, g2⟩ := seqOf_ok B re hq
          have e2 := mapSc_ok g2 hy
          subst e2
          have hf' := Bool.and_eq_true_iff.mp hf
          refine h1 pins s σ H _ _ v u Q I rx ry ⟨p, vs, rfl, g1, hf'.1, hf'.2, ?_⟩
          cases neg <;> exact k _ _ _ B (.refl _ _ _) (.bl _)
      · cases hb
    · cases hb
  · cases hd : inDeep sto d e with
    | none => rw [hd] at hz; cases hz
    | some b =>
      rw [hd] at hz
      cases hz
      unfold inDeep at hd
      split at hd
      · rename_i a xs ha hx
        split at hd
        · rename_i hf
          cases hd
          obtain ⟨p, vs, rfl, g1, g2⟩ := lsOf_ok B re hx
          have hf' := Bool.and_eq_true_iff.mp hf
          obtain ⟨a1, a2⟩ := plainPy_ok B rd ha
          exact h2 pins s σ H _ _ v u Q I rx ry ⟨_, _, a1, .lst g1 (RpAll.dp _ _ hf'.1 (RpAll.mono B.sub (fun _ _ h => h) _ _ g2)), a2, hf'.2, k _ _ _ B (.refl _ _ _) (.bl _)⟩
        · cases hd
      · cases hd
theorem o_in (hu : X.A.units + 65 < cLine) : OpR X (compareOp .In) (rD2 X.K (inO false)) := o_inAux op_in_seq fun pins s σ H x y v u Q I rx ry h => op_inD hu pins s σ H x y v u Q I rx ry h
theorem o_notIn (hu : X.A.units + 65 < cLine) : OpR X (compareOp .NotIn) (rD2 X.K (inO true)) := o_inAux op_notIn_seq fun pins s σ H x y v u Q I rx ry h => op_notInD hu pins s σ H x y v u Q I rx ry h
/-! ### index, slices -/
def ixO (s : Sto) (d e : D) : Option D := match e with
  | .int i => match d with
    | .str z => if small z.length = true then (atI z.cps.toList i).map fun c => .str ⟨#[c]⟩ else none
    | d => (seqOf s d).bind fun xs => atI xs i
  | _ => none
theorem atI_rp {K : PySem.W.Frag} {H : Hp} {O : List Addr} {vs : List V} {xs : List D} {i : Int} {d : D} (r : RpAll K H O vs xs) (h : atI xs i = some d) : ∃ v, atI vs i = some v ∧ Rp K H O v d := by
  unfold atI at h ⊢
  rw [r.length]
  cases e : ixN xs.length i with
  | none => rw [e] at h; cases h
  | some j => rw [e] at h; exact r.get h
variable {W : WX} {e a b c o : Expr} {es : List Expr} {pos p2 : Pos} {f g : Sl → M D} {h : Sl → M (List D)}
theorem e_ix (ha : PE X a (tE X.K X.mg W f)) (hb : PE X b (tE X.K X.mg W g)) (hs : PlainIx b := by intro _ _; rfl) : PE X (.Subscript a b pos) (tE X.K X.mg W (f2 ixO f g)) := by
  refine PE.imp (pe_ix ix_seq ha hb hs) fun σ H Q t => ?_
  refine tG_mono (tE_f2 t) fun x H1 z => tG_mono z fun y H2 z => ?_
  obtain ⟨H0, O, sto, d, e, z, B, rd, re, hz, k⟩ := z
  unfold ixO at hz
  split at hz
  · rename_i i
    cases re
    split at hz
    · rename_i z'
      split at hz
      · rename_i hs
        cases rd
        cases hc : atI z'.cps.toList i with
        | none => rw [hc] at hz; cases hz
        | some c =>
          rw [hc] at hz
          cases hz
          exact .inr (.inr ⟨z', i, c, rfl, rfl, small_ok hs, hc, k _ _ _ B (.refl _ _ _) (.str _)⟩)
      · cases hz
    · rename_i d' _
      cases hq : seqOf sto d with
      | none => rw [hq] at hz; cases hz
      | some xs =>
        rw [hq] at hz
        obtain ⟨p, vs, rfl, g1, g2⟩ := seqOf_ok B rd hq
        obtain ⟨w, q1, q2⟩ := atI_rp g2 hz
        rcases g1 with g1 | g1
        · exact .inl ⟨p, vs, i, w, rfl, rfl, g1, q1, k _ _ _ B (.refl _ _ _) q2⟩
        · exact .inr (.inl ⟨p, vs, i, w, rfl, rfl, g1, q1, k _ _ _ B (.refl _ _ _) q2⟩)
  · cases hz
abbrev eqI : Rep (Option Int) (Option Int) := fun _ _ b a => b = a
abbrev tPo (K : PySem.W.Frag) (mg : Str → Option Value) (W : WX) (f : Sl → M (Option Int)) : TO := tG K mg W eqI f
def fNo : Sl → M (Option Int) := fun _ => retM none
def asI : D → Option (Option Int) | .int i => some (some i) | _ => none
def fSome (f : Sl → M D) : Sl → M (Option Int) := fun sl => bindM (f sl) fun x => liftO fun _ => asI x
theorem PO.imp {e : Option Expr} {t t' : TO} (h : PO X e t) (i : ∀ σ H Q, t' σ H Q → t σ H Q) : PO X e t' := ⟨fun pins s σ H Q I q => h.run pins s σ H Q I (i _ _ _ q)⟩
theorem s_none : PO X none (tPo X.K X.mg W fNo) := by
  refine PO.imp po_none fun σ H Q t => ?_
  obtain ⟨H0, O, sl, sto, r, B, S, q, p⟩ := t
  cases q
  exact post_ok p B rfl
theorem s_some (he : PE X e (tE X.K X.mg W f)) : PO X (some e) (tPo X.K X.mg W (fSome f)) := by
  refine PO.imp (po_some he) fun σ H Q t => ?_
  refine tG_mono (tG_bind t) fun v H1 z => ?_
  obtain ⟨H0', O', sl', s', x, r', B', S', rx, q', p'⟩ := z
  obtain ⟨y, hy, rfl⟩ := PostG.one (Q := Q) q'
  cases x with
  | int i => cases hy; cases rx; exact ⟨i, rfl, post_ok p' B' rfl⟩
  | _ => cases hy
def cutL {α : Type} (xs : List α) (lo hi : Option Int) : List α := (xs.drop (HT.sIx xs.length 0 lo)).take (HT.sIx xs.length xs.length hi - HT.sIx xs.length 0 lo)
theorem cut_rp {K : PySem.W.Frag} {H : Hp} {O : List Addr} {vs : List V} {xs : List D} (lo hi : Option Int) (r : RpAll K H O vs xs) : RpAll K H O (cutV vs lo hi) (cutL xs lo hi) := by
  unfold cutV cutL
  rw [r.length]
  exact (r.drop _).take _
def slO (s : Sto) (d : D) (lo hi : Option Int) : Option D := match d with
  | .str z => if small z.length = true then some (.str (cutS z lo hi)) else none
  | .tup xs => some (.tup (cutL xs lo hi))
  | d => (lsOf s d).map fun xs => .lst (cutL xs lo hi)
def fSl (f : Sl → M D) (u v : Sl → M (Option Int)) : Sl → M D := fun sl => bindM (f sl) fun x => bindM (u sl) fun lo => bindM (v sl) fun hi => liftO fun s => slO s x lo hi
variable {lo hi : Option Expr} {u v : Sl → M (Option Int)}
theorem sIx_whole (n : Nat) (lo hi : Option Int) {α : Type} (xs : List α) (hn : xs.length = n) (h : HT.sIx n 0 lo = 0 ∧ HT.sIx n n hi = n) : cutL xs lo hi = xs := by
  unfold cutL
  rw [hn, h.1, h.2, ← hn]
  simp
theorem e_sl (he : PE X e (tE X.K X.mg W f)) (hl : PO X lo (tPo X.K X.mg W u)) (hh : PO X hi (tPo X.K X.mg W v)) : PE X (.Subscript e (.Slice lo hi none p2) pos) (tE X.K X.mg W (fSl f u v)) := by
  refine PE.imp (pe_slice (sl_list.or (sl_tupF.or sl_str)) he hl hh) fun σ H Q t => ?_
  refine tG_mono (tG_bind t) fun x H1 z => ?_
  obtain ⟨H0', O', sl', s', d, r', B', S', rx, q', p'⟩ := z
  obtain ⟨r2, e2, p2⟩ := PostG.bind (rp := eqI) q' p'
  refine ⟨H0', O', sl', s', r2, B', S', e2, p2.mono fun l H2 z => ?_⟩
  obtain ⟨H02, O2, s2, l', r3, B2, X2, rl, q3, p3⟩ := z
  obtain ⟨r4, e4, p4⟩ := PostG.bind (rp := eqI) q3 p3
  refine ⟨H02, O2, sl', s2, r4, B2, S'.ext X2, e4, p4.mono fun u H3 z => ?_⟩
  obtain ⟨H03, O3, s3, u', r5, B3, X3, ru, q5, p5⟩ := z
  obtain ⟨y, hy, rfl⟩ := PostG.one (Q := Q) q5
  cases rl
  cases ru
  have rd := X3.rp (X2.rp rx)
  unfold slO at hy
  split at hy
  · rename_i z
    split at hy
    · rename_i hs
      cases hy
      cases rd
      exact .inr (.inr ⟨z, rfl, small_ok hs, post_ok p5 B3 (.str _)⟩)
    · cases hy
  · rename_i xs
    cases hy
    cases rd with
    | tup h1 h2 =>
      refine .inr (.inl ⟨_, _, rfl, sameNT B3.sub h1, fun hw => ?_, fun hw p o hd hp => ?_⟩)
      · rw [sIx_whole _ l u xs h2.length.symm hw] at p5
        exact post_ok p5 B3 (.tup h1 h2)
      · obtain ⟨b1, b2⟩ := B3.new hp (.frz o (.tup (cutV _ l u)))
        exact p5 _ _ _ _ b1 b2 (.tup (SqN.mk hd) (cut_rp l u (b2.rps h2)))
  · cases hq : lsOf s3 d with
    | none => rw [hq] at hy; cases hy
    | some xs =>
      rw [hq] at hy
      cases hy
      obtain ⟨a, vs, rfl, g1, g2⟩ := lsOf_ok B3 rd hq
      refine .inl ⟨a, vs, rfl, g1, fun p hp => ?_⟩
      obtain ⟨b1, b2⟩ := B3.new hp (.lst (cutV vs l u))
      exact p5 _ _ _ _ b1 b2 (.lst upd_same (cut_rp l u (b2.rps g2)))
def revO (s : Sto) (d : D) : Option D := (lsOf s d).map fun xs => .lst xs.reverse
theorem e_rev {k : Nat} {q1 q2 q3 : Pos} (he : PE X e (tE X.K X.mg W f)) : PE X (.Subscript e (.Slice none none (some (.UnaryOp .USub (.Constant (.int 1) k q1) q2)) q3) pos) (tE X.K X.mg W (f1 revO f)) := by
  refine PE.imp (pe_revL he) fun σ H Q t => ?_
  refine tG_mono (tE_f1 t) fun x H1 z => ?_
  obtain ⟨H0, O, sto, d, z, B, rd, hz, k⟩ := z
  unfold revO at hz
  cases hq : lsOf sto d with
  | none => rw [hq] at hz; cases hz
  | some xs =>
    rw [hq] at hz
    cases hz
    obtain ⟨a, vs, rfl, g1, g2⟩ := lsOf_ok B rd hq
    refine ⟨a, vs, rfl, g1, fun p hp => ?_⟩
    obtain ⟨b1, b2⟩ := B.new hp (.lst vs.reverse)
    exact k _ _ _ b1 b2 (.lst upd_same (b2.rps g2).reverse)
end
end PD

set_option Elab.async false
set_option linter.all false
set_option maxRecDepth 100000
set_option maxHeartbeats 4000000
/-! PD: calls. -/
namespace PD
open PySem PySem.Spec PyProof.Rows L2
section
variable {X : Cx} {W : WX} {e a b c o : Expr} {es : List Expr} {x : Str} {p pos apos : Pos} {f g : Sl → M D} {h : Sl → M (List D)} {id T : String}

/-! ### built-ins by name -/
def rDn (K : PySem.W.Frag) (o : Sto → List D → Option D) : List V → Hp → VK → Prop := fun vs H Q => ∃ H0 O sto ds z, Base K H H0 O sto ∧ RpAll K H0 O vs ds ∧ o sto ds = some z ∧ ∀ v H' H0', Base K H' H0' O sto → Ext H H0 O H' H0' O → Rp K H0' O v z → Q v H'
def fN (o : Sto → List D → Option D) (h : Sl → M (List D)) : Sl → M D := fun sl => bindM (h sl) fun xs => liftO fun s => o s xs
theorem tE_fN {o : Sto → List D → Option D} {σ : L2.St} {H : Hp} {Q : VK} (t : tE X.K X.mg W (fN o h) σ H Q) : tA X.K X.mg W h σ H fun xs H1 => rDn X.K o xs H1 Q := by
  refine tG_mono (tG_bind t) fun v H1 z => ?_
  obtain ⟨H0', O', sl', s', x, r', B', S', rx, q', p'⟩ := z
  obtain ⟨y, hy, rfl⟩ := PostG.one (Q := Q) q'
  exact ⟨H0', O', s', x, y, B', rx, hy, fun v H' H0'' b x r => p' v H' H0'' O' b x r⟩
theorem e_callB {o : Sto → List D → Option D} (hc : CallR X (.builtin id) (rDn X.K o)) (hg : Gl X x) (hm : X.mg x = none) (hv : bootBuiltins x = some (.builtin id)) (ha : PA X (e :: es) (tA X.K X.mg W h)) (hn : x ≠ "__name__" := by decide) (hdb : (x == ("__debug__" : Str)) = false := by decide)
    (he : starEach (e :: es) X.env = (false, eval e X.env) :: starEach es X.env := by rfl) (hpl : (backTo pos (starEach es X.env)).any (·.1) = false := by rfl) : PE X (.Call (.Name x p) (e :: es) [] pos) (tE X.K X.mg W (fN o h)) :=
  PE.imp (pe_callB hc hg hm hv ha hn hdb he hpl) fun _ _ _ t => tE_fN t
theorem e_callTy {o : Sto → List D → Option D} (hc : CallR X (.type T) (rDn X.K o)) (hg : Gl X x) (hm : X.mg x = none) (hv : bootBuiltins x = some (.type T)) (ha : PA X (e :: es) (tA X.K X.mg W h)) (hn : x ≠ "__name__" := by decide) (hdb : (x == ("__debug__" : Str)) = false := by decide)
    (he : starEach (e :: es) X.env = (false, eval e X.env) :: starEach es X.env := by rfl) (hpl : (backTo pos (starEach es X.env)).any (·.1) = false := by rfl) : PE X (.Call (.Name x p) (e :: es) [] pos) (tE X.K X.mg W (fN o h)) :=
  PE.imp (pe_callTy hc hg hm hv ha hn hdb he hpl) fun _ _ _ t => tE_fN t
def lenO (s : Sto) : List D → Option D
  | [.str z] => if small z.length = true then some (.int z.length) else none
  | [d] => (seqOf s d).map fun xs => .int xs.length
  | _ => none
theorem o_len : CallR X (.builtin "len") (rDn X.K lenO) := by
  intro pins s σ H xs us Q I r h
  obtain ⟨H0, O, sto, ds, z, B, rd, hz, k⟩ := h
  unfold lenO at hz
  split at hz
  · split at hz
    · rename_i hs
      cases hz
      cases rd with
      | cons r1 r2 =>
        cases r2
        cases r1
        exact call_len pins s σ H _ us Q I r ⟨_, _, rfl, ⟨small_ok hs, rfl⟩, k _ _ _ B (.refl _ _ _) (.int _)⟩
    · cases hz
  · rename_i d _
    cases hq : seqOf sto d with
    | none => rw [hq] at hz; cases hz
    | some ys =>
      rw [hq] at hz
      cases hz
      cases rd with
      | cons r1 r2 =>
        cases r2
        obtain ⟨q, vs, rfl, g1, g2⟩ := seqOf_ok B r1 hq
        refine call_len_seq pins s σ H _ us Q I r ⟨q, vs, rfl, g1, ?_⟩
        rw [g2.length]
        exact k _ _ _ B (.refl _ _ _) (.int _)
  · cases hz
def listO (s : Sto) : List D → Option D
  | [d] => (seqOf s d).map fun xs => .lst xs
  | _ => none
theorem o_list : CallR X (.type "list") (rDn X.K listO) := by
  intro pins s σ H xs us Q I r h
  obtain ⟨H0, O, sto, ds, z, B, rd, hz, k⟩ := h
  unfold listO at hz
  split at hz
  · rename_i d
    cases hq : seqOf sto d with
    | none => rw [hq] at hz; cases hz
    | some ys =>
      rw [hq] at hz
      cases hz
      cases rd with
      | cons r1 r2 =>
        cases r2
        obtain ⟨q, vs, rfl, g1, g2⟩ := seqOf_ok B r1 hq
        refine call_list_of pins s σ H _ us Q I r ⟨q, vs, rfl, g1, fun l hl => ?_⟩
        obtain ⟨b1, b2⟩ := B.new hl (.lst vs)
        exact k _ _ _ b1 b2 (.lst upd_same (b2.rps g2))
  · cases hz
def tupleO (s : Sto) : List D → Option D
  | [.tup xs] => some (.tup xs)
  | [d] => (lsOf s d).map fun xs => .tup xs
  | _ => none
theorem o_tuple : CallR X (.type "tuple") (rDn X.K tupleO) := by
  intro pins s σ H xs us Q I r h
  obtain ⟨H0, O, sto, ds, z, B, rd, hz, k⟩ := h
  unfold tupleO at hz
  split at hz
  · cases hz
    cases rd with
    | cons r1 r2 =>
      cases r2
      cases r1 with
      | tup h1 h2 => exact call_tupleF pins s σ H _ us Q I r ⟨_, _, rfl, .inr ⟨sameNT B.sub h1, k _ _ _ B (.refl _ _ _) (.tup h1 h2)⟩⟩
  · rename_i d _
    cases hq : lsOf sto d with
    | none => rw [hq] at hz; cases hz
    | some ys =>
      rw [hq] at hz
      cases hz
      cases rd with
      | cons r1 r2 =>
        cases r2
        obtain ⟨q, vs, rfl, g1, g2⟩ := lsOf_ok B r1 hq
        refine call_tupleF pins s σ H _ us Q I r ⟨q, vs, rfl, .inl ⟨g1, fun l o hd hl => ?_⟩⟩
        obtain ⟨b1, b2⟩ := B.new hl (.frz o (.tup vs))
        exact k _ _ _ b1 b2 (.tup (SqN.mk hd) (b2.rps g2))
  · cases hz
/-! ### isinstance(x, T), T a built-in class -/
def tyName (s : Sto) : D → Option String
  | .non => some "NoneType" | .bl _ => some "bool" | .int _ => some "int" | .str _ => some "str"
  | .lst _ => some "list" | .scr _ => some "list" | .tup _ => some "tuple" | .par _ => some "tuple"
  | .own k => match s[k]? with | some (.lst _) => some "list" | some (.dic _) => some "dict" | _ => none
theorem tyX_list {K : PySem.W.Frag} {H : Hp} {a : Addr} {vs : List V} (h : SqL K H a vs) : TyX K H (.ref a) (.type "list") := by
  rcases h with (h | ⟨o, h⟩) | ⟨o, its, n, hk, hc, _⟩
  · exact .base (.lst h)
  · exact .base (.frz h)
  · exact .kList hk hc
theorem tyX_tup {K : PySem.W.Frag} {H : Hp} {a : Addr} {vs : List V} (h : SqT K H a vs) : TyX K H (.ref a) (.type "tuple") := by
  rcases h with (h | ⟨o, h⟩) | ⟨o, its, n, hk, hc, _⟩
  · exact .base (.tup h)
  · exact .fTuple h
  · exact .kTuple hk hc
theorem tyName_ok {K : PySem.W.Frag} {H H0 : Hp} {O : List Addr} {sto : Sto} {d : D} {v : V} {n : String} (B : Base K H H0 O sto) (r : Rp K H0 O v d) (h : tyName sto d = some n) : TyX K H v (.type n) := by
  cases d with
  | non => cases r; cases h; exact .base .non
  | bl _ => cases r; cases h; exact .base (.bl _)
  | int _ => cases r; cases h; exact .base (.int _)
  | str _ => cases r; cases h; exact .base (.str _)
  | lst _ => cases h; cases r with | lst h1 h2 => exact .base (.lst (B.sub _ _ h1))
  | scr _ => cases h; cases r with | scr h1 h2 => exact tyX_list (B.sub.seq h1)
  | tup _ => cases h; cases r with | tup h1 h2 => exact tyX_tup (sameNT B.sub h1)
  | par _ => cases h; cases r with | par h1 h2 => exact tyX_tup (sameT B.sub h1)
  | own k =>
    cases r with
    | own h1 =>
      unfold tyName at h
      simp only at h
      split at h
      · rename_i e
        cases h
        obtain ⟨vs, q1, _⟩ := B.cell k _ _ h1 e
        exact .base (.lst q1)
      · rename_i e
        cases h
        obtain ⟨vs, q1, _⟩ := B.cell k _ _ h1 e
        exact .base (.dK q1)
      · cases h
/-- isinstance of two built-in classes' names -/
def isiT (a b : String) : Option Bool := match a, b with
  | "NoneType", "int" => some false | "NoneType", "str" => some false | "NoneType", "list" => some false | "NoneType", "tuple" => some false | "NoneType", "dict" => some false | "NoneType", "bool" => some false
  | "bool", "int" => some true | "bool", "str" => some false | "bool", "list" => some false | "bool", "tuple" => some false | "bool", "dict" => some false | "bool", "bool" => some true
  | "int", "int" => some true | "int", "str" => some false | "int", "list" => some false | "int", "tuple" => some false | "int", "dict" => some false | "int", "bool" => some false
  | "str", "int" => some false | "str", "str" => some true | "str", "list" => some false | "str", "tuple" => some false | "str", "dict" => some false | "str", "bool" => some false
  | "list", "int" => some false | "list", "str" => some false | "list", "list" => some true | "list", "tuple" => some false | "list", "dict" => some false | "list", "bool" => some false
  | "tuple", "int" => some false | "tuple", "str" => some false | "tuple", "list" => some false | "tuple", "tuple" => some true | "tuple", "dict" => some false | "tuple", "bool" => some false
  | "dict", "int" => some false | "dict", "str" => some false | "dict", "list" => some false | "dict", "tuple" => some false | "dict", "dict" => some true | "dict", "bool" => some false
  | _, _ => none
theorem isiT_ok {K : PySem.W.Frag} {a b : String} {r : Bool} (h : isiT a b = some r) : PySem.W.kitOne K (.type a) (.type b) = some r := by
  unfold isiT at h
  split at h <;> first | (cases h; done) | (cases h; exact kit_ty (by decide +kernel))
def isiO (T : String) (s : Sto) (d : D) : Option D := ((tyName s d).bind fun n => isiT n T).map .bl
theorem e_isi {q : Pos} {y : Str} (hg : Gl X "isinstance") (hm : X.mg "isinstance" = none) (hgT : Gl X y) (hmT : X.mg y = none) (hvT : bootBuiltins y = some (.type T)) (hn : y ≠ "__name__" := by decide) (hd : (y == ("__debug__" : Str)) = false := by decide) (ha : PE X a (tE X.K X.mg W f))
    (he : starEach [a, .Name y q] X.env = (false, eval a X.env) :: starEach [.Name y q] X.env := by rfl) (he2 : starEach [.Name y q] X.env = (false, eval (.Name y q) X.env) :: starEach [] X.env := by rfl) (hpl : (backTo pos (starEach [.Name y q] X.env)).any (·.1) = false := by rfl) :
    PE X (.Call (.Name "isinstance" p) [a, .Name y q] [] pos) (tE X.K X.mg W (f1 (isiO T) f)) := by
  have hT : PE X (.Name y q) (tC (.ty T)) := pe_bltn hgT hmT hvT rfl hn hd
  refine PE.imp (pe_callB call_isi hg hm (by decide +kernel) (pa_cons ha (pa_cons hT pa_nil he2) he) (by decide) (by decide) he hpl) fun σ H Q t => ?_
  refine tG_mono (tE_f1 t) fun x H1 z => ?_
  obtain ⟨H0, O, sto, d, z, B, rd, hz, k⟩ := z
  unfold isiO at hz
  cases hq : tyName sto d with
  | none => rw [hq] at hz; cases hz
  | some n =>
    rw [hq] at hz
    have hz' : (isiT n T).map D.bl = some z := hz
    cases hr : isiT n T with
    | none => rw [hr] at hz'; cases hz'
    | some b =>
      rw [hr] at hz'
      cases hz'
      exact ⟨x, .ty T, .type n, .type T, b, rfl, .ty T, tyName_ok B rd hq, isiT_ok hr, k _ _ _ B (.refl _ _ _) (.bl _)⟩
/-! ### join -/
def strD : D → Option Str | .str x => some x | _ => none
theorem mapStr_ok {K : PySem.W.Frag} {H : Hp} {O : List Addr} : ∀ {xs : List D} {vs : List V} {ys : List Str}, RpAll K H O vs xs → xs.mapM strD = some ys → vs = ys.map V.str
  | [], _, _, .nil, h => by cases h; rfl
  | x :: xs, v :: vs, ys, .cons r t, h => by
    rw [List.mapM_cons] at h
    cases e : strD x with
    | none => rw [e] at h; cases h
    | some y =>
      rw [e] at h
      cases e2 : xs.mapM strD with
      | none => rw [e2] at h; cases h
      | some zs =>
        rw [e2] at h
        cases h
        have ex : x = .str y := by
          unfold strD at e
          split at e
          · cases e; rfl
          · cases e
        subst ex
        cases r
        rw [mapStr_ok t e2]
        rfl
def joinO (s : Sto) (d e : D) : Option D := match d with
  | .str a => match (seqOf s e).bind fun xs => xs.mapM strD with
    | some ys => if small ((ys.map (·.length)).sum + ys.length * a.length) = true then some (.str (Txt.join a ys)) else none
    | none => none
  | _ => none
def isStr : D → Option D | .str x => some (.str x) | _ => none
def fJoin (f g : Sl → M D) : Sl → M D := fun sl => bindM (f sl) fun x => bindM (liftO fun _ => isStr x) fun _ => bindM (g sl) fun y => liftO fun s => joinO s x y
theorem e_join (ho : PE X o (tE X.K X.mg W f)) (he : PE X e (tE X.K X.mg W g)) (hs : starEach [e] X.env = [(false, eval e X.env)] := by rfl) (hbase : attributeBase o "join" X.env (eval o X.env) = eval o X.env := by rfl) (hline : (apos.endLine == pos.line) = true := by rfl) :
    PE X (.Call (.Attribute o "join" apos) [e] [] pos) (tE X.K X.mg W (fJoin f g)) := by
  refine PE.imp (pe_join ho he hs hbase hline) fun σ H Q t => ?_
  refine tG_mono (tG_bind t) fun v H1 z => ?_
  obtain ⟨H0', O', sl', s', x, r', B', S', rx, q', p'⟩ := z
  obtain ⟨r2, e2, p2⟩ := PostG.bind (rp := Rp X.K) q' p'
  obtain ⟨y, hy, rfl⟩ := PostG.one (β := V) (Q := fun _ _ => True) e2
  cases x with
  | str w =>
    cases hy
    cases rx
    refine ⟨⟨w, rfl⟩, ?_⟩
    obtain ⟨H02, O2, s2, xs, r3, B2, X2, _, q3, p3⟩ := post_ok p2 B' (.str w)
    obtain ⟨r4, e4, p4⟩ := PostG.bind (rp := Rp X.K) q3 p3
    refine ⟨H02, O2, sl', s2, r4, B2, S'.ext X2, e4, p4.mono fun u H3 z => ?_⟩
    obtain ⟨H03, O3, s3, d3, r5, B3, X3, r3', q5, p5⟩ := z
    obtain ⟨y5, hy5, rfl⟩ := PostG.one (Q := Q) q5
    unfold joinO at hy5
    simp only at hy5
    split at hy5
    · rename_i ys hys
      split at hy5
      · rename_i hsm
        cases hy5
        cases hq : seqOf s3 d3 with
        | none => rw [hq] at hys; cases hys
        | some zs =>
          rw [hq] at hys
          obtain ⟨q, vs, rfl, g1, g2⟩ := seqOf_ok B3 r3' hq
          have ev := mapStr_ok g2 hys
          subst ev
          exact ⟨w, q, ys, rfl, rfl, g1, by have := small_ok hsm; rw [sizeLine_eq] at this; exact this, post_ok p5 B3 (.str _)⟩
      · cases hy5
    · cases hy5
  | _ => cases hy
/-! ### methods of lists -/
def fM0 (o : D → M D) (f : Sl → M D) : Sl → M D := fun sl => bindM (f sl) fun x => bindM (liftO fun s => (lsOf s x).map fun _ => D.non) fun _ => o x
def fM1 (o : D → List D → M D) (f : Sl → M D) (h : Sl → M (List D)) : Sl → M D := fun sl => bindM (f sl) fun x => bindM (liftO fun s => (lsOf s x).map fun _ => D.non) fun _ => bindM (h sl) fun xs => o x xs
def appendM (d : D) (ds : List D) : M D := fun s => match d, ds with
  | .own k, [y] => match s[k]? with
    | some (.lst xs) => if small (xs.length + 1) = true then some (.ok .non (s.set k (.lst (xs ++ [y])))) else none
    | _ => none
  | _, _ => none
def popM (d : D) : M D := fun s => match d with
  | .own k => match s[k]? with
    | some (.lst xs) => match xs[xs.length - 1]? with
      | some y => some (.ok y (s.set k (.lst xs.dropLast)))
      | none => none
    | _ => none
  | _ => none
theorem tyV_of {K : PySem.W.Frag} {H H0 : Hp} {O : List Addr} {sto : Sto} {d : D} {v : V} {y : D} (B : Base K H H0 O sto) (r : Rp K H0 O v d) (h : (lsOf sto d).map (fun _ => D.non) = some y) : tyV K "list" v H := by
  cases hq : lsOf sto d with
  | none => rw [hq] at h; cases h
  | some xs =>
    obtain ⟨a, vs, rfl, g1, g2⟩ := lsOf_ok B r hq
    exact .inl ⟨rfl, vs, g1⟩
theorem e_append (ho : PE X o (tE X.K X.mg W f)) (ha : PA X (e :: es) (tA X.K X.mg W h))
    (hbase : attributeBase o "append" X.env (eval o X.env) = eval o X.env := by rfl)
    (hfew : ((backTo pos (starEach (e :: es) X.env)).all (fun x => !x.1) && (backToKw pos (keywordEach [] X.env)).all (fun x => x.1.isSome)
      && decide ((e :: es).length + ([] : List Keyword).length + (if ([] : List Keyword).isEmpty then 0 else 1) < 30)) = true := by rfl) (hline : (apos.endLine == pos.line) = true := by rfl)
    (hs : starEach (e :: es) X.env = (false, eval e X.env) :: starEach es X.env := by rfl) (hplain : (backTo pos (starEach es X.env)).any (·.1) = false := by rfl) :
    PE X (.Call (.Attribute o "append" apos) (e :: es) [] pos) (tE X.K X.mg W (fM1 appendM f h)) := by
  refine PE.imp (pe_bm PySem.F.plainAttrs_list PySem.F.slot_list_append PySem.F.type_list_append mt_append ho ha hbase hfew (hline := hline) (hs := hs) (hplain := hplain)) fun σ H Q t => ?_
  refine tG_mono (tG_bind t) fun v H1 z => ?_
  obtain ⟨H0', O', sl', s', x, r', B', S', rx, q', p'⟩ := z
  obtain ⟨r2, e2, p2⟩ := PostG.bind (rp := Rp X.K) q' p'
  obtain ⟨y, hy, rfl⟩ := PostG.one (β := V) (Q := fun _ _ => True) e2
  refine ⟨tyV_of B' rx hy, ?_⟩
  obtain ⟨H02, O2, s2, xs, r3, B2, X2, _, q3, p3⟩ := p2 .non _ _ _ B' (.refl _ _ _) (by
    cases hq : lsOf s' x with
    | none => rw [hq] at hy; cases hy
    | some _ => rw [hq] at hy; cases hy; exact .non)
  obtain ⟨r4, e4, p4⟩ := PostG.bind (rp := RpAll X.K) q3 p3
  refine ⟨H02, O2, sl', s2, r4, B2, S'.ext X2, e4, p4.mono fun us H3 z => ?_⟩
  obtain ⟨H03, O3, s3, ds, r5, B3, X3, rs, q5, p5⟩ := z
  have rx3 := X3.rp (X2.rp rx)
  replace q5 : appendM x ds s3 = some r5 := q5
  unfold appendM at q5
  split at q5
  · rename_i k y5
    split at q5
    · rename_i ys hk
      split at q5
      · rename_i hsm
        cases q5
        cases rx3 with
        | own h1 =>
          rename_i a
          obtain ⟨vs, g1, g2, g3⟩ := B3.cell k _ _ h1 hk
          cases rs with
          | cons ry rn =>
            cases rn
            rename_i w
            have hl : vs.length < sizeLine := by
              have := small_ok hsm
              rw [g2.length]
              omega
            obtain ⟨b1, b2⟩ := B3.write (o := .lst (vs ++ [w])) (c := .lst (ys ++ [y5])) h1 g3 ⟨_, upd_same, g2.append (.one ry), g3⟩
            exact ⟨a, vs, w, rfl, rfl, g1, hl, p5 _ _ _ _ b1 b2 .non⟩
      · cases q5
    · cases q5
  · cases q5
theorem e_pop (ho : PE X o (tE X.K X.mg W f)) (hbase : attributeBase o "pop" X.env (eval o X.env) = eval o X.env := by rfl) (hline : (apos.endLine == pos.line) = true := by rfl) :
    PE X (.Call (.Attribute o "pop" apos) [] [] pos) (tE X.K X.mg W (fM0 popM f)) := by
  refine PE.imp (pe_bm0 PySem.F.plainAttrs_list PySem.F.slot_list_pop PySem.F.type_list_pop mt_pop ho hbase hline) fun σ H Q t => ?_
  refine tG_mono (tG_bind t) fun v H1 z => ?_
  obtain ⟨H0', O', sl', s', x, r', B', S', rx, q', p'⟩ := z
  obtain ⟨r2, e2, p2⟩ := PostG.bind (rp := Rp X.K) q' p'
  obtain ⟨y, hy, rfl⟩ := PostG.one (β := V) (Q := fun _ _ => True) e2
  refine ⟨tyV_of B' rx hy, ?_⟩
  obtain ⟨H03, O3, s3, xs, r3, B3, X3, _, q5, p5⟩ := p2 .non _ _ _ B' (.refl _ _ _) (by
    cases hq : lsOf s' x with
    | none => rw [hq] at hy; cases hy
    | some _ => rw [hq] at hy; cases hy; exact .non)
  have rx3 := X3.rp rx
  replace q5 : popM x s3 = some r3 := q5
  unfold popM at q5
  split at q5
  · rename_i k
    split at q5
    · rename_i ys hk
      split at q5
      · rename_i y5 hl5
        cases q5
        cases rx3 with
        | own h1 =>
          rename_i a
          obtain ⟨vs, g1, g2, g3⟩ := B3.cell k _ _ h1 hk
          obtain ⟨w, hw, rw'⟩ := g2.get hl5
          obtain ⟨b1, b2⟩ := B3.write (o := .lst vs.dropLast) (c := .lst ys.dropLast) h1 g3 ⟨_, upd_same, g2.dropLast, g3⟩
          exact ⟨a, vs, w, rfl, rfl, g1, by rw [g2.length]; exact hw, p5 _ _ _ _ b1 b2 rw'⟩
      · cases q5
    · cases q5
  · cases q5
end

/-! ### defs -/
def spD (K : PySem.W.Frag) (mg : Str → Option Value) (n : Nat) (g : List D → M D) : Sp := fun vs H Q E =>
  ∃ H0 O sto ds r, ds.length = n ∧ Base K H H0 O sto ∧ RpAll K H0 O vs ds ∧ g ds sto = some r ∧ PostG K mg (Rp K) H H0 O Q E r
def fCall (n : Nat) (g : List D → M D) (h : Sl → M (List D)) : Sl → M D := fun sl => bindM (h sl) fun ds => if ds.length = n then g ds else fun _ => none
section
variable {X : Cx} {W : WX} {k : Nat} {f : Addr} {fd : FuncData} {ps : List Str} {n : Nat} {g : List D → M D} {x : Str} {p pos : Pos} {e : Expr} {es : List Expr} {h : Sl → M (List D)}
theorem e_call (F : FnOk X.prog X.w X.K X.mg X.base (L2.CX X.prog X.w) k f fd ps (spD X.K X.mg n g)) (tk : L2.Takes X W) (hr : Room k X.A) (hg : Gl X x) (hm : X.mg x = some (.ref f)) (hk : PySem.W.keepIn X.K (.ref f) = true) (hb : Binds X.K fd ps [])
    (ha : PA X (e :: es) (tA X.K X.mg W h)) (hdb : (x == ("__debug__" : Str)) = false := by decide) (he : starEach (e :: es) X.env = (false, eval e X.env) :: starEach es X.env := by rfl) (hpl : (backTo pos (starEach es X.env)).any (·.1) = false := by rfl) :
    PE X (.Call (.Name x p) (e :: es) [] pos) (tE X.K X.mg W (fCall n g h)) := by
  refine PE.imp (pe_callS F hr hg hm hk hb (fun σ => passAt tk σ) ha hdb he hpl) fun σ H Q t => ?_
  refine tG_mono (tG_bind t) fun vs H1 z => ?_
  obtain ⟨H0', O', sl', s', ds, r', B', S', rx, q', p'⟩ := z
  split at q'
  · rename_i hn
    exact ⟨H0', O', s', ds, r', hn, B', rx, q', p'⟩
  · cases q'
end
end PD

set_option Elab.async false
set_option linter.all false
set_option maxRecDepth 100000
set_option maxHeartbeats 4000000
/-! PD: statements, loops, comprehensions. -/
namespace PD
open PySem PySem.Spec PyProof.Rows L2

abbrev SD := Sl → Sto → Option RS
def PostS (K : PySem.W.Frag) (mg : Str → Option Value) (W : WX) (H H0 : Hp) (O : List Addr) (D : Ends) : RS → Prop
  | .nx l s => ∀ σ' H' H0' O', Base K H' H0' O' s → Ext H H0 O H' H0' O' → RpSl K H0' O' σ' l → D.nx σ' H'
  | .bk l s => ∀ σ' H' H0' O', Base K H' H0' O' s → Ext H H0 O H' H0' O' → RpSl K H0' O' σ' l → D.bk σ' H'
  | .ct l s => ∀ σ' H' H0' O', Base K H' H0' O' s → Ext H H0 O H' H0' O' → RpSl K H0' O' σ' l → D.ct σ' H'
  | .rt d s => ∀ v H' H0' O', Base K H' H0' O' s → Ext H H0 O H' H0' O' → Rp K H0' O' v d → D.rt v H'
  | .ex c l s => ∀ cls dd σ' H' H0' O', mg c = some cls → Base K H' H0' O' s → Ext H H0 O H' H0' O' → RpSl K H0' O' σ' l → W cls dd σ' H'
def tS (K : PySem.W.Frag) (mg : Str → Option Value) (W : WX) (g : SD) : TS := fun D σ H => ∃ H0 O sl sto r, Base K H H0 O sto ∧ RpSl K H0 O σ sl ∧ g sl sto = some r ∧ PostS K mg W H H0 O D r
def bindS {α : Type} (m : M α) (sl : Sl) (k : α → Sto → Option RS) : Sto → Option RS := fun s => match m s with
  | none => none
  | some (.ok a s') => k a s'
  | some (.ex c s') => some (.ex c sl s')
section
variable {K : PySem.W.Frag} {mg : Str → Option Value} {W : WX} {H H0 H1 H01 : Hp} {O O1 : List Addr} {D D' : Ends} {σ : L2.St} {sl : Sl} {sto : Sto}
theorem PostS.ext {r : RS} (p : PostS K mg W H H0 O D r) (X : Ext H H0 O H1 H01 O1) : PostS K mg W H1 H01 O1 D r := by
  cases r with
  | nx l s => exact fun σ' H' H0' O' x y z => p σ' H' H0' O' x (X.trans y) z
  | bk l s => exact fun σ' H' H0' O' x y z => p σ' H' H0' O' x (X.trans y) z
  | ct l s => exact fun σ' H' H0' O' x y z => p σ' H' H0' O' x (X.trans y) z
  | rt d s => exact fun σ' H' H0' O' x y z => p σ' H' H0' O' x (X.trans y) z
  | ex c l s => exact fun cls dd σ' H' H0' O' w x y z => p cls dd σ' H' H0' O' w x (X.trans y) z
/-- in the midst of a statement -/
def MidS (K : PySem.W.Frag) (mg : Str → Option Value) (W : WX) {β α : Type} (rp : Rep β α) (k : α → Sto → Option RS) (H H0 : Hp) (O : List Addr) (D : Ends) (b : β) (H1 : Hp) : Prop :=
  ∃ H0' O' s a r, Base K H1 H0' O' s ∧ Ext H H0 O H1 H0' O' ∧ rp H0' O' b a ∧ k a s = some r ∧ PostS K mg W H1 H0' O' D r
theorem PostS.bind {β α : Type} {rp : Rep β α} {m : M α} {k : α → Sto → Option RS} {r : RS} (S : RpSl K H0 O σ sl) (h : bindS m sl k sto = some r) (p : PostS K mg W H H0 O D r) :
    ∃ r1, m sto = some r1 ∧ PostG K mg rp H H0 O (MidS K mg W rp k H H0 O D) (fun c d H' => W c d σ H') r1 := by
  unfold bindS at h
  cases e : m sto with
  | none => rw [e] at h; cases h
  | some r1 =>
    rw [e] at h
    refine ⟨r1, rfl, ?_⟩
    cases r1 with
    | ok a s => exact fun b H' H0' O' x y z => ⟨H0', O', s, a, r, x, y, z, h, p.ext y⟩
    | ex c s =>
      cases h
      exact fun cls dd H' H0' O' w x y => p cls dd σ H' H0' O' w x y (S.ext y)
theorem tS_bind {β α : Type} {rp : Rep β α} {f : Sl → M α} {k : Sl → α → Sto → Option RS} {H : Hp} (t : tS K mg W (fun sl => bindS (f sl) sl (k sl)) D σ H) :
    tG K mg W rp f σ H (fun b H1 => ∃ H0 O sl s a r, Base K H1 H0 O s ∧ RpSl K H0 O σ sl ∧ rp H0 O b a ∧ k sl a s = some r ∧ PostS K mg W H1 H0 O D r) := by
  obtain ⟨H0, O, sl, sto, r, B, S, e, p⟩ := t
  obtain ⟨r1, e1, p1⟩ := PostS.bind (rp := rp) S e p
  refine ⟨H0, O, sl, sto, r1, B, S, e1, p1.mono fun b H1 q => ?_⟩
  obtain ⟨H0', O', s, a, r', B', X', ra, e', p'⟩ := q
  exact ⟨H0', O', sl, s, a, r', B', S.ext X', ra, e', p'⟩
end
section
variable {X : Cx} {W : WX} {e a b c o : Expr} {es : List Expr} {pos p2 : Pos} {f g : Sl → M D} {h : Sl → M (List D)} {st : Stmt} {rest : List Stmt} {s1 s2 : SD}
theorem PS.imp {t t' : TS} (h : PS X st t) (i : ∀ D σ H, t' D σ H → t D σ H) : PS X st t' := ⟨fun pins s σ H D I q => h.run pins s σ H D I (i _ _ _ q)⟩
theorem PSs.imp {t t' : TS} (h : PSs X rest t) (i : ∀ D σ H, t' D σ H → t D σ H) : PSs X rest t' := ⟨fun pins s σ H D I q => h.run pins s σ H D I (i _ _ _ q)⟩
def seqS (g1 g2 : SD) : SD := fun sl s => match g1 sl s with
  | some (.nx sl' s') => g2 sl' s'
  | r => r
theorem c_cons (h1 : PS X st (tS X.K X.mg W s1)) (h2 : PSs X rest (tS X.K X.mg W s2)) : PSs X (st :: rest) (tS X.K X.mg W (seqS s1 s2)) := by
  refine PSs.imp (pss_cons h1 h2) fun D σ H t => ?_
  obtain ⟨H0, O, sl, sto, r, B, S, e, p⟩ := t
  unfold seqS at e
  cases q : s1 sl sto with
  | none => rw [q] at e; cases e
  | some r1 =>
    rw [q] at e
    refine ⟨H0, O, sl, sto, r1, B, S, q, ?_⟩
    cases r1 with
    | nx l s => exact fun σ' H' H0' O' x y z => ⟨H0', O', l, s, r, x, z, e, p.ext y⟩
    | bk l s => cases e; exact p
    | ct l s => cases e; exact p
    | rt d s => cases e; exact p
    | ex c l s => cases e; exact p
theorem c_one (h1 : PS X st (tS X.K X.mg W s1)) : PSs X [st] (tS X.K X.mg W s1) := pss_one h1
def nextS : SD := fun sl s => some (.nx sl s)
theorem c_nil : PSs X [] (tS X.K X.mg W nextS) := by
  refine PSs.imp pss_nil fun D σ H t => ?_
  obtain ⟨H0, O, sl, sto, r, B, S, e, p⟩ := t
  cases e
  exact p _ _ _ _ B (.refl _ _ _) S
theorem d_pass : PS X (.Pass pos) (tS X.K X.mg W nextS) := by
  refine PS.imp ps_pass fun D σ H t => ?_
  obtain ⟨H0, O, sl, sto, r, B, S, e, p⟩ := t
  cases e
  exact p _ _ _ _ B (.refl _ _ _) S
theorem d_doc {x j pos pos'} : PS X (.Expr (.Constant (.str x) j pos) pos') (tS X.K X.mg W nextS) := by
  refine PS.imp ps_doc fun D σ H t => ?_
  obtain ⟨H0, O, sl, sto, r, B, S, e, p⟩ := t
  cases e
  exact p _ _ _ _ B (.refl _ _ _) S
def breakS : SD := fun sl s => some (.bk sl s)
def contS : SD := fun sl s => some (.ct sl s)
theorem d_break : PS X (.Break pos) (tS X.K X.mg W breakS) := by
  refine PS.imp ps_break fun D σ H t => ?_
  obtain ⟨H0, O, sl, sto, r, B, S, e, p⟩ := t
  cases e
  exact p _ _ _ _ B (.refl _ _ _) S
theorem d_cont : PS X (.Continue pos) (tS X.K X.mg W contS) := by
  refine PS.imp ps_continue fun D σ H t => ?_
  obtain ⟨H0, O, sl, sto, r, B, S, e, p⟩ := t
  cases e
  exact p _ _ _ _ B (.refl _ _ _) S
def neverS : SD := fun _ _ => none
theorem d_never : PS X st (tS X.K X.mg W neverS) := by
  refine PS.imp ps_never fun D σ H t => ?_
  obtain ⟨H0, O, sl, sto, r, B, S, e, p⟩ := t
  cases e
def exprS (f : Sl → M D) : SD := fun sl => bindS (f sl) sl fun _ s => some (.nx sl s)
theorem d_expr (he : PE X e (tE X.K X.mg W f)) (hs : swapsWith e none pos.line X.env = pure false := by rfl) : PS X (.Expr e pos) (tS X.K X.mg W (exprS f)) := by
  refine PS.imp (ps_expr he hs) fun D σ H t => ?_
  refine tG_mono (tS_bind t) fun v H1 z => ?_
  obtain ⟨H0', O', sl', s', x, r', B', S', rx, q', p'⟩ := z
  cases q'
  exact p' _ _ _ _ B' (.refl _ _ _) S'
def retS (f : Sl → M D) : SD := fun sl => bindS (f sl) sl fun d s => some (.rt d s)
theorem d_ret (he : PE X e (tE X.K X.mg W f)) : PS X (.Return (some e) pos) (tS X.K X.mg W (retS f)) := by
  refine PS.imp (ps_ret he) fun D σ H t => ?_
  refine tG_mono (tS_bind t) fun v H1 z => ?_
  obtain ⟨H0', O', sl', s', x, r', B', S', rx, q', p'⟩ := z
  cases q'
  exact p' _ _ _ _ B' (.refl _ _ _) rx
def retNS : SD := fun _ s => some (.rt .non s)
theorem d_retN : PS X (.Return none pos) (tS X.K X.mg W retNS) := by
  refine PS.imp ps_retN fun D σ H t => ?_
  obtain ⟨H0, O, sl, sto, r, B, S, e, p⟩ := t
  cases e
  exact p _ _ _ _ B (.refl _ _ _) .non
def ifS (u : Sl → M Bool) (g1 g2 : SD) : SD := fun sl => bindS (u sl) sl fun b s => if b = true then g1 sl s else g2 sl s
theorem d_if {a b : List Stmt} {u : Sl → M Bool} (hc : PT X c (tT X.K X.mg W u)) (ha : PSs X a (tS X.K X.mg W s1)) (hb : PSs X b (tS X.K X.mg W s2)) : PS X (.If c a b pos) (tS X.K X.mg W (ifS u s1 s2)) := by
  refine PS.imp (ps_if hc ha hb) fun D σ H t => ?_
  refine tG_mono (tS_bind t) fun v H1 z => ?_
  obtain ⟨H0', O', sl', s', x, r', B', S', rx, q', p'⟩ := z
  cases rx
  cases v with
  | true => exact iteT ⟨H0', O', sl', s', r', B', S', q', p'⟩
  | false => exact iteF ⟨H0', O', sl', s', r', B', S', q', p'⟩
/-! ### stores -/
def setS (i : Nat) (f : Sl → M D) : SD := fun sl => bindS (f sl) sl fun d s => some (.nx (sl.set i (some d)) s)
theorem d_set {i : Nat} {x : Str} {pos' : Pos} (hN : X.N.Nodup) (hi : X.N[i]? = some x) (hx : Loc X.env.scope x) (he : PE X e (tE X.K X.mg W f)) (hs : swapsWith e (some (.Name x pos')) pos.line X.env = pure false := by rfl) (hf : X.fn x = true ∨ X.env.scope.names.lookup x = some .local := by first | exact .inl rfl | exact .inr rfl | assumption) :
    PS X (.Assign [.Name x pos'] e pos) (tS X.K X.mg W (setS i f)) := by
  refine PS.imp (ps_set hN hi hx he hs hf) fun D σ H t => ?_
  refine tG_mono (tS_bind t) fun v H1 z => ?_
  obtain ⟨H0', O', sl', s', x, r', B', S', rx, q', p'⟩ := z
  cases q'
  exact p' _ _ _ _ B' (.refl _ _ _) (S'.set rx i)
/-- targets: names and tuples of them -/
abbrev TD := D → Sl → Option Sl
theorem wipe_set (i : Nat) (x : Option V) : ∀ (vs : List Nat) (σ : L2.St), i ∈ vs → wipe (σ.set i x) vs = wipe σ vs := by
  have gen : ∀ (vs : List Nat) (σ : L2.St), wipe (σ.set i x) vs = if i ∈ vs then wipe σ vs else (wipe σ vs).set i x := by
    intro vs
    induction vs with
    | nil => intro σ; simp [wipe]
    | cons v vs ih =>
      intro σ
      show (wipe (σ.set i x) vs).set v none = if i ∈ v :: vs then (wipe σ vs).set v none else ((wipe σ vs).set v none).set i x
      rw [ih σ]
      by_cases h1 : i ∈ vs
      · rw [if_pos h1, if_pos (List.mem_cons_of_mem _ h1)]
      · rw [if_neg h1]
        by_cases h2 : i = v
        · subst h2
          rw [if_pos List.mem_cons_self, List.set_set]
        · rw [if_neg (by simp [h1, h2]), List.set_comm _ _ h2]
  intro vs σ h
  rw [gen vs σ, if_pos h]
structure TgOk (K : PySem.W.Frag) (vs : List Nat) (G : TG) (T : TD) : Prop where
  run : ∀ (H0 H : Hp) (O : List Addr) (v : V) (d : D) (σ : L2.St) (sl sl' : Sl) (Q : L2.St → Hp → Prop), Same H0 H → Rp K H0 O v d → RpSl K H0 O σ sl → T d sl = some sl' →
    (∀ σ', RpSl K H0 O σ' sl' → wipe σ' vs = wipe σ vs → Q σ' H) → G v σ H Q
def tdName (i : Nat) : TD := fun d sl => some (sl.set i (some d))
theorem g_name {K : PySem.W.Frag} {vs : List Nat} (i : Nat) (h : i ∈ vs := by decide) : TgOk K vs (gName i) (tdName i) := by
  refine ⟨fun H0 H O v d σ sl sl' Q s r S e q => ?_⟩
  cases e
  exact q _ (S.set r i) (wipe_set i _ vs σ h)
abbrev TDs := List D → Sl → Option Sl
structure TgsOk (K : PySem.W.Frag) (vs : List Nat) (n : Nat) (G : TGs) (T : TDs) : Prop where
  len : ∀ ds sl sl', T ds sl = some sl' → ds.length = n
  run : ∀ (H0 H : Hp) (O : List Addr) (us : List V) (ds : List D) (σ : L2.St) (sl sl' : Sl) (Q : L2.St → Hp → Prop), Same H0 H → RpAll K H0 O us ds → RpSl K H0 O σ sl → T ds sl = some sl' →
    (∀ σ', RpSl K H0 O σ' sl' → wipe σ' vs = wipe σ vs → Q σ' H) → G us σ H Q
def tdNil : TDs := fun ds sl => match ds with | [] => some sl | _ => none
def tdCons (T : TD) (U : TDs) : TDs := fun ds sl => match ds with
  | d :: r => match T d sl with | some sl1 => U r sl1 | none => none
  | [] => none
theorem g_nil {K : PySem.W.Frag} {vs : List Nat} : TgsOk K vs 0 gNil tdNil := by
  refine ⟨fun ds sl sl' e => ?_, fun H0 H O us ds σ sl sl' Q s r S e q => ?_⟩
  · unfold tdNil at e
    split at e
    · rfl
    · cases e
  · unfold tdNil at e
    split at e
    · cases e
      cases r
      exact ⟨rfl, q _ S rfl⟩
    · cases e
theorem g_cons {K : PySem.W.Frag} {vs : List Nat} {n : Nat} {G : TG} {T : TD} {Gs : TGs} {Ts : TDs} (h1 : TgOk K vs G T) (h2 : TgsOk K vs n Gs Ts) : TgsOk K vs (n + 1) (gCons G Gs) (tdCons T Ts) := by
  refine ⟨fun ds sl sl' e => ?_, fun H0 H O us ds σ sl sl' Q s r S e q => ?_⟩
  · unfold tdCons at e
    split at e
    · split at e
      · rw [List.length_cons, h2.len _ _ _ e]
      · cases e
    · cases e
  · unfold tdCons at e
    split at e
    · split at e
      · rename_i sl1 e1
        cases r with
        | cons r1 r2 => exact ⟨_, _, rfl, h1.run H0 H O _ _ σ sl sl1 _ s r1 S e1 fun σ1 S1 w1 => h2.run H0 H O _ _ σ1 sl1 sl' _ s r2 S1 e fun σ2 S2 w2 => q σ2 S2 (w2.trans w1)⟩
      · cases e
    · cases e
def tdTup (T : TDs) : TD := fun d sl => match d with | .tup xs => T xs sl | .par xs => T xs sl | _ => none
theorem g_tup {K : PySem.W.Frag} {vs : List Nat} {n : Nat} {Gs : TGs} {Ts : TDs} (h : TgsOk K vs n Gs Ts) : TgOk K vs (gTup K n Gs) (tdTup Ts) := by
  refine ⟨fun H0 H O v d σ sl sl' Q s r S e q => ?_⟩
  unfold tdTup at e
  split at e
  · cases r with
    | tup r1 r2 => exact ⟨_, _, rfl, sameNT s r1, by rw [r2.length]; exact h.len _ _ _ e, h.run H0 H O _ _ σ sl sl' Q s r2 S e q⟩
  · cases r with
    | par r1 r2 => exact ⟨_, _, rfl, sameT s r1, by rw [r2.length]; exact h.len _ _ _ e, h.run H0 H O _ _ σ sl sl' Q s r2 S e q⟩
  · cases e
def asgS (T : TD) (f : Sl → M D) : SD := fun sl => bindS (f sl) sl fun d s => match T d sl with | some sl' => some (.nx sl' s) | none => none
theorem d_asg {tg : Expr} {G : TG} {T : TD} {vs : List Nat} (he : PE X e (tE X.K X.mg W f)) (hg : PG X tg G) (ht : TgOk X.K vs G T) (hs : swapsWithSole [tg] e pos.line X.env = pure false := by rfl) (hw : swappedStores [tg] e X.env = pure none := by rfl)
    (h1 : (assignEach [tg] X.env).map (·.2) = [assign tg X.env] := by rfl) : PS X (.Assign [tg] e pos) (tS X.K X.mg W (asgS T f)) := by
  refine PS.imp (ps_asg he hg hs hw h1) fun D σ H t => ?_
  refine tG_mono (tS_bind t) fun v H1 z => ?_
  obtain ⟨H0', O', sl', s', x, r', B', S', rx, q', p'⟩ := z
  split at q'
  · rename_i sl2 e2
    cases q'
    exact ht.run H0' H1 O' v x σ sl' sl2 _ B'.sub rx S' e2 fun σ2 S2 _ => p' _ _ _ _ B' (.refl _ _ _) S2
  · cases q'
/-- xs[i] = e -/
def setIx (s : Sto) (d e y : D) : Option Sto := match d, e with
  | .own k, .int i => match s[k]? with
    | some (.lst xs) => (ixN xs.length i).map fun j => s.set k (.lst (xs.set j y))
    | _ => none
  | _, _ => none
def setIxS (f o i : Sl → M D) : SD := fun sl => bindS (f sl) sl fun y => bindS (o sl) sl fun d => bindS (i sl) sl fun e s => match setIx s d e y with | some s' => some (.nx sl s') | none => none
theorem d_setIx {i : Expr} {fi fo : Sl → M D} (he : PE X e (tE X.K X.mg W f)) (ho : PE X o (tE X.K X.mg W fo)) (hi : PE X i (tE X.K X.mg W fi))
    (ha : ∀ v, assign (.Subscript o i p2) X.env v = (do
      let ov ← holding [v] (eval o X.env)
      let iv ← holding [v, ov] (eval i X.env)
      standAt p2
      holding [v, ov, iv] (setItem ov iv v)
      release [v, ov, iv] []) := by intro _; rfl)
    (hs : swapsWithSole [.Subscript o i p2] e pos.line X.env = pure false := by rfl) (hw : swappedStores [.Subscript o i p2] e X.env = pure none := by rfl)
    (h1 : (assignEach [.Subscript o i p2] X.env).map (·.2) = [assign (.Subscript o i p2) X.env] := by rfl) : PS X (.Assign [.Subscript o i p2] e pos) (tS X.K X.mg W (setIxS f fo fi)) := by
  refine PS.imp (ps_asg he (pg_sub ho hi set_list ha) hs hw h1) fun D σ H t => ?_
  refine tG_mono (tS_bind t) fun v H1 z => ?_
  obtain ⟨H0', O', sl', s', y, r', B', S', rx, q', p'⟩ := z
  obtain ⟨r1, e1, p1⟩ := PostS.bind (rp := Rp X.K) S' q' p'
  refine ⟨H0', O', sl', s', r1, B', S', e1, p1.mono fun u H2 z => ?_⟩
  obtain ⟨H02, O2, s2, d, r2, B2, X2, rd, q2, p2⟩ := z
  obtain ⟨r3, e3, p3⟩ := PostS.bind (rp := Rp X.K) (S'.ext X2) q2 p2
  refine ⟨H02, O2, sl', s2, r3, B2, S'.ext X2, e3, p3.mono fun w H3 z => ?_⟩
  obtain ⟨H03, O3, s3, ei, r4, B3, X3, ri, q3, p3⟩ := z
  have q3' : (match setIx s3 d ei y with | some s' => some (RS.nx sl' s') | none => none) = some r4 := q3
  cases hx : setIx s3 d ei y with
  | none => rw [hx] at q3'; cases q3'
  | some s4 =>
    rw [hx] at q3'
    cases q3'
    unfold setIx at hx
    split at hx
    · rename_i k j
      split at hx
      · rename_i xs hk
        have rd3 := X3.rp rd
        have ry3 := X3.rp (X2.rp rx)
        cases rd3 with
        | own h1 =>
          cases ri
          rename_i a
          obtain ⟨vs, g1, g2, g3⟩ := B3.cell _ _ _ h1 hk
          cases hj : ixN xs.length j with
          | none => rw [hj] at hx; cases hx
          | some m =>
            rw [hj] at hx
            cases hx
            obtain ⟨b1, b2⟩ := B3.write (o := .lst (vs.set m v)) (c := .lst (xs.set m y)) h1 g3 ⟨_, upd_same, RpAll.set ry3 m g2, g3⟩
            exact ⟨a, vs, j, m, rfl, rfl, g1, by rw [g2.length]; exact hj, p3 _ _ _ _ b1 b2 (((S'.ext X2).ext X3).ext b2)⟩
      · cases hx
    · cases hx
/-- x += e, whole numbers -/
def augO (op : Int → Int → Int) : D → D → Option D
  | .int i, .int j => some (.int (op i j))
  | _, _ => none
def augS (i : Nat) (op : Int → Int → Int) (f : Sl → M D) : SD := fun sl s => match sl[i]? with
  | some (some d) => bindS (f sl) sl (fun e s => match augO op d e with | some z => some (.nx (sl.set i (some z)) s) | none => none) s
  | _ => none
theorem d_aug {i : Nat} {x : Str} {op : Operator} {fo : Int → Int → Int} {pos' : Pos} (hN : X.N.Nodup) (hi : X.N[i]? = some x) (hx : Loc X.env.scope x) (he : PE X e (tE X.K X.mg W f)) (ho : PIp X op (ipI fo)) (hf : X.fn x = true ∨ X.env.scope.names.lookup x = some .local := by first | exact .inl rfl | exact .inr rfl | assumption) :
    PS X (.AugAssign (.Name x pos') op e pos) (tS X.K X.mg W (augS i fo f)) := by
  refine PS.imp (ps_aug hN hi hx he ho hf) fun D σ H t => ?_
  obtain ⟨H0, O, sl, sto, r, B, S, q, p⟩ := t
  unfold augS at q
  split at q
  · rename_i d hd
    obtain ⟨v, h1, h2⟩ := S.at_ i d hd
    refine ⟨v, h1, ?_⟩
    obtain ⟨r1, e1, p1⟩ := PostS.bind (rp := Rp X.K) S q p
    refine ⟨H0, O, sl, sto, r1, B, S, e1, p1.mono fun u H2 z => ?_⟩
    obtain ⟨H02, O2, s2, d2, r2, B2, X2, rd, q2, p2⟩ := z
    replace q2 : (match augO fo d d2 with | some z => some (RS.nx (sl.set i (some z)) s2) | none => none) = some r2 := q2
    cases hx : augO fo d d2 with
    | none => rw [hx] at q2; cases q2
    | some z =>
      rw [hx] at q2
      cases q2
      unfold augO at hx
      split at hx
      · cases hx
        cases h2
        cases rd
        exact ⟨_, _, rfl, rfl, p2 _ _ _ _ B2 (.refl _ _ _) ((S.ext X2).set (.int _) i)⟩
      · cases hx
  · cases q
end
end PD

set_option Elab.async false
set_option linter.all false
set_option maxRecDepth 100000
set_option maxHeartbeats 4000000
/-! PD: loops, comprehensions, defs. -/
namespace PD
open PySem PySem.Spec PyProof.Rows L2

/-! ### what is walked -/
abbrev Src := List D × Option Nat
/-- an own list that is walked stands as it stood -/
def Ck (a : Src) (s : Sto) : Prop := match a.2 with | none => True | some k => s[k]? = some (.lst a.1)
noncomputable instance instCk (a : Src) (s : Sto) : Decidable (Ck a s) := Classical.propDecidable _
structure WalkD (K : PySem.W.Frag) (J : It) (H0 : Hp) (O : List Addr) (a : Src) : Prop where
  goes : ∀ i H H0' O' s, i < a.1.length → Base K H H0' O' s → Same H0 H0' → Pre O O' → Ck a s → J.go i H
  stops : ∀ H H0' O' s, Base K H H0' O' s → Same H0 H0' → Pre O O' → Ck a s → J.stop a.1.length H
  yields : ∀ i H H0' O' s v H', i < a.1.length → Base K H H0' O' s → Same H0 H0' → Pre O O' → Ck a s → J.yld i H v H' →
    ∃ H0'' d, Base K H' H0'' O' s ∧ Ext H H0' O' H' H0'' O' ∧ a.1[i]? = some d ∧ Rp K H0'' O' v d
abbrev WkR (K : PySem.W.Frag) : Rep It Src := fun H0 O J a => WalkD K J H0 O a
def itO (s : Sto) : D → Option Src
  | .lst xs => some (xs, none)
  | .scr xs => some (xs, none)
  | .own k => match s[k]? with | some (.lst xs) => some (xs, some k) | _ => none
  | _ => none
section
variable {K : PySem.W.Frag} {H H0 : Hp} {O : List Addr}
theorem walkD_list {a : Addr} {vs : List V} {xs : List D} (h : SqL K H0 a vs) (r : RpAll K H0 O vs xs) : WalkD K (Itl K a) H0 O (xs, none) := by
  refine ⟨fun i H H0' O' s hi B e p _ => ?_, fun H H0' O' s B e p _ => ?_, fun i H H0' O' s v H' hi B e p _ y => ?_⟩
  · have hv : i < vs.length := by rw [r.length]; exact hi
    exact ⟨vs, vs[i], (e.trans B.sub).seq h, List.getElem?_eq_getElem hv⟩
  · exact ⟨vs, (e.trans B.sub).seq h, by rw [r.length]; exact Nat.le_refl _⟩
  · obtain ⟨rfl, f⟩ := y
    obtain ⟨d, h1, h2⟩ := r.getV (f vs ((e.trans B.sub).seq h))
    exact ⟨H0', d, B, .refl _ _ _, h1, Rp.mono e (fun _ _ h => p.get h) _ _ h2⟩
theorem walkD_tup {a : Addr} {vs : List V} {xs : List D} (h : SqT K H0 a vs) (r : RpAll K H0 O vs xs) : WalkD K (Itt K a) H0 O (xs, none) := by
  refine ⟨fun i H H0' O' s hi B e p _ => ?_, fun H H0' O' s B e p _ => ?_, fun i H H0' O' s v H' hi B e p _ y => ?_⟩
  · have hv : i < vs.length := by rw [r.length]; exact hi
    exact ⟨vs, vs[i], sameT (e.trans B.sub) h, List.getElem?_eq_getElem hv⟩
  · exact ⟨vs, sameT (e.trans B.sub) h, by rw [r.length]; exact Nat.le_refl _⟩
  · obtain ⟨rfl, f⟩ := y
    obtain ⟨d, h1, h2⟩ := r.getV (f vs (sameT (e.trans B.sub) h))
    exact ⟨H0', d, B, .refl _ _ _, h1, Rp.mono e (fun _ _ h => p.get h) _ _ h2⟩
theorem walkD_own {a : Addr} {k : Nat} {xs : List D} (h : O[k]? = some a) : WalkD K (Itl K a) H0 O (xs, some k) := by
  refine ⟨fun i H H0' O' s hi B e p c => ?_, fun H H0' O' s B e p c => ?_, fun i H H0' O' s v H' hi B e p c y => ?_⟩
  · obtain ⟨vs, g1, g2, _⟩ := B.cell k _ _ (p.get h) c
    have hv : i < vs.length := by rw [g2.length]; exact hi
    exact ⟨vs, vs[i], SqL.of g1, List.getElem?_eq_getElem hv⟩
  · obtain ⟨vs, g1, g2, _⟩ := B.cell k _ _ (p.get h) c
    exact ⟨vs, SqL.of g1, by rw [g2.length]; exact Nat.le_refl _⟩
  · obtain ⟨rfl, f⟩ := y
    obtain ⟨vs, g1, g2, _⟩ := B.cell k _ _ (p.get h) c
    obtain ⟨d, h1, h2⟩ := g2.getV (f vs (SqL.of g1))
    exact ⟨H0', d, B, .refl _ _ _, h1, h2⟩
def rangeD (lo : Int) (n : Nat) : List D := (List.range n).map fun i => .int (lo + (i : Nat))
theorem walkD_range (lo : Int) (n : Nat) : WalkD K (Itr lo n) H0 O (rangeD lo n, none) := by
  have hl : (rangeD lo n).length = n := by unfold rangeD; rw [List.length_map, List.length_range]
  refine ⟨fun i H H0' O' s hi B e p _ => by rw [hl] at hi; exact hi, fun H H0' O' s B e p _ => by show n ≤ (rangeD lo n).length; rw [hl]; exact Nat.le_refl _, fun i H H0' O' s v H' hi B e p _ y => ?_⟩
  obtain ⟨rfl, rfl⟩ := y
  rw [hl] at hi
  refine ⟨H0', .int (lo + (i : Nat)), B, .refl _ _ _, ?_, .int _⟩
  show (rangeD lo n)[i]? = _
  unfold rangeD
  rw [List.getElem?_map, List.getElem?_range hi]
  rfl
/-- enumerate -/
def enumD : Nat → List D → List D
  | _, [] => []
  | i, x :: xs => .par [.int (i : Nat), x] :: enumD (i + 1) xs
theorem enumD_length : ∀ (i : Nat) (xs : List D), (enumD i xs).length = xs.length
  | _, [] => rfl
  | i, x :: xs => congrArg (· + 1) (enumD_length (i + 1) xs)
theorem enumD_get : ∀ (i : Nat) (xs : List D) (j : Nat) (d : D), xs[j]? = some d → (enumD i xs)[j]? = some (.par [.int ((i + j : Nat) : Int), d])
  | _, [], _, _, h => by simp at h
  | i, x :: xs, 0, d, h => by
    have e : x = d := by simpa using h
    subst e
    rfl
  | i, x :: xs, j + 1, d, h => by
    have q := enumD_get (i + 1) xs j d (by simpa using h)
    show (enumD (i + 1) xs)[j]? = _
    rw [q, show i + 1 + j = i + (j + 1) by omega]
theorem walkD_enum {a : Addr} {vs : List V} {xs : List D} (h : SqL K H0 a vs) (r : RpAll K H0 O vs xs) : WalkD K (Ite K a) H0 O (enumD 0 xs, none) := by
  refine ⟨fun i H H0' O' s hi B e p _ => ?_, fun H H0' O' s B e p _ => ?_, fun i H H0' O' s v H' hi B e p _ y => ?_⟩
  · have hi' : i < xs.length := by rw [← enumD_length 0 xs]; exact hi
    have hv : i < vs.length := by rw [r.length]; exact hi'
    exact ⟨vs, vs[i], (e.trans B.sub).seq h, List.getElem?_eq_getElem hv⟩
  · exact ⟨vs, (e.trans B.sub).seq h, by rw [r.length, ← enumD_length 0 xs]; exact Nat.le_refl _⟩
  · obtain ⟨T, x, rfl, nT, rfl, f⟩ := y
    obtain ⟨d, h1, h2⟩ := r.getV (f vs ((e.trans B.sub).seq h))
    obtain ⟨b1, b2⟩ := B.new nT (.tup [.int (i : Nat), x])
    refine ⟨_, _, b1, b2, ?_, .par (SqT.of upd_same) (.cons (.int (i : Nat)) (.one (b2.rp (Rp.mono e (fun _ _ h => p.get h) _ _ h2))))⟩
    have q := enumD_get 0 xs i d h1
    rw [Nat.zero_add] at q
    exact q
end
section
variable {X : Cx} {W : WX} {e a b c o tg iter elt : Expr} {es : List Expr} {pos p p2 : Pos} {f g : Sl → M D} {h : Sl → M (List D)} {x : Str}
abbrev tI (K : PySem.W.Frag) (mg : Str → Option Value) (W : WX) (f : Sl → M Src) : TI := tG K mg W (WkR K) f
/-- a list or tuple that is walked -/
def seqIt (s : Sto) : D → Option Src
  | .tup xs => some (xs, none)
  | .par xs => some (xs, none)
  | d => itO s d
def fIt (f : Sl → M D) : Sl → M Src := fun sl => bindM (f sl) fun d => liftO fun s => seqIt s d
theorem tG_cut {α α' : Type} {m : M α} {k : α → M α'} {sto : Sto} {r : R α'} (q : bindM m k sto = some r) : (∃ d s', m sto = some (.ok d s') ∧ k d s' = some r) ∨ (∃ c s', m sto = some (.ex c s') ∧ r = .ex c s') := by
  unfold bindM at q
  cases e : m sto with
  | none => rw [e] at q; cases q
  | some r1 =>
    rw [e] at q
    cases r1 with
    | ok d s' => exact .inl ⟨d, s', rfl, q⟩
    | ex c s' => cases q; exact .inr ⟨c, s', rfl, rfl⟩
theorem i_seq (he : PE X e (tE X.K X.mg W f)) : PI X tg e (tI X.K X.mg W (fIt f)) := by
  refine ⟨fun pins s σ H R I t => ?_⟩
  obtain ⟨H0, O, sl, sto, r, B, S, q, p⟩ := t
  rcases tG_cut q with ⟨d, s', e1, q1⟩ | ⟨c, s', e1, rfl⟩
  · obtain ⟨y, hy, rfl⟩ := PostG.one (β := It) (Q := R) q1
    unfold seqIt at hy
    split at hy
    · cases hy
      refine (pi_tup he).run pins s σ H R I ⟨H0, O, sl, sto, _, B, S, e1, fun v H1 H01 O1 B1 X1 rv => ?_⟩
      cases rv with
      | tup h1 h2 => exact ⟨_, rfl, ⟨_, sameNT B1.sub h1⟩, p _ _ _ _ B1 X1 (walkD_tup h1.seq h2)⟩
    · cases hy
      refine (pi_tup he).run pins s σ H R I ⟨H0, O, sl, sto, _, B, S, e1, fun v H1 H01 O1 B1 X1 rv => ?_⟩
      cases rv with
      | par h1 h2 => exact ⟨_, rfl, ⟨_, sameT B1.sub h1⟩, p _ _ _ _ B1 X1 (walkD_tup h1 h2)⟩
    · refine (pi_list he).run pins s σ H R I ⟨H0, O, sl, sto, _, B, S, e1, fun v H1 H01 O1 B1 X1 rv => ?_⟩
      unfold itO at hy
      split at hy
      · cases hy
        cases rv with
        | lst h1 h2 => exact ⟨_, rfl, ⟨_, SqL.of (B1.sub _ _ h1)⟩, p _ _ _ _ B1 X1 (walkD_list (SqL.of h1) h2)⟩
      · cases hy
        cases rv with
        | scr h1 h2 => exact ⟨_, rfl, ⟨_, B1.sub.seq h1⟩, p _ _ _ _ B1 X1 (walkD_list h1 h2)⟩
      · split at hy
        · rename_i k xs hk
          cases hy
          cases rv with
          | own h1 =>
            obtain ⟨vs, g1, _⟩ := B1.cell _ _ _ h1 hk
            exact ⟨_, rfl, ⟨_, SqL.of g1⟩, p _ _ _ _ B1 X1 (walkD_own h1)⟩
        · cases hy
      · cases hy
  · exact (pi_list he).run pins s σ H R I ⟨H0, O, sl, sto, _, B, S, e1, p⟩
def rngO (d : D) : Option Src := match d with
  | .int n => if n < 2 ^ 62 ∧ -(2 ^ 62) ≤ n then some (rangeD 0 n.toNat, none) else none
  | _ => none
def fRng1 (f : Sl → M D) : Sl → M Src := fun sl => bindM (f sl) fun d => liftO fun _ => rngO d
theorem i_range1 (hg : Gl X "range") (hm : X.mg "range" = none) (ha : PE X a (tE X.K X.mg W f)) (hs : starEach [a] X.env = [(false, eval a X.env)] := by rfl) (hs2 : starEach (a :: []) X.env = (false, eval a X.env) :: starEach [] X.env := by rfl) : PI X tg (.Call (.Name "range" p) [a] [] pos) (tI X.K X.mg W (fRng1 f)) := by
  refine ⟨fun pins s σ H R I t => ?_⟩
  refine (pi_range1 hg hm (pa_cons ha pa_nil hs2) hs).run pins s σ H R I ?_
  refine tG_mono (tG_bind t) fun v H1 z => ?_
  obtain ⟨H0', O', sl', s', x, r', B', S', rx, q', p'⟩ := z
  obtain ⟨y, hy, rfl⟩ := PostG.one (β := It) (Q := R) q'
  unfold rngO at hy
  split at hy
  · split at hy
    · rename_i hn
      cases hy
      cases rx
      exact ⟨_, rfl, hn.2, hn.1, post_ok p' B' (walkD_range 0 _)⟩
    · cases hy
  · cases hy
def rngO2 (d e : D) : Option Src := match d, e with
  | .int m, .int n => if (-(2 ^ 62) ≤ m ∧ m < 2 ^ 62) ∧ -(2 ^ 62) ≤ n ∧ n < 2 ^ 62 then some (rangeD m (n - m).toNat, none) else none
  | _, _ => none
def fRng2 (f g : Sl → M D) : Sl → M Src := fun sl => bindM (f sl) fun d => bindM (g sl) fun e => liftO fun _ => rngO2 d e
theorem i_range2 (hg : Gl X "range") (hm : X.mg "range" = none) (ha : PE X a (tE X.K X.mg W f)) (hb : PE X b (tE X.K X.mg W g)) (hs : starEach [a, b] X.env = [(false, eval a X.env), (false, eval b X.env)] := by rfl) (hs2 : starEach [b] X.env = [(false, eval b X.env)] := by rfl)
    (hs3 : starEach (a :: [b]) X.env = (false, eval a X.env) :: starEach [b] X.env := by rfl) (hs4 : starEach (b :: []) X.env = (false, eval b X.env) :: starEach [] X.env := by rfl) : PI X tg (.Call (.Name "range" p) [a, b] [] pos) (tI X.K X.mg W (fRng2 f g)) := by
  refine ⟨fun pins s σ H R I t => ?_⟩
  refine (pi_range2 hg hm (pa_cons ha (pa_cons hb pa_nil hs4) hs3) hs hs2).run pins s σ H R I ?_
  refine tG_mono (tG_bind t) fun v H1 z => ?_
  obtain ⟨H0', O', sl', s', x, r', B', S', rx, q', p'⟩ := z
  obtain ⟨r2, e2, p2⟩ := PostG.bind (rp := Rp X.K) q' p'
  refine ⟨H0', O', sl', s', r2, B', S', e2, p2.mono fun u H2 z => ?_⟩
  obtain ⟨H02, O2, s2, y, r3, B2, X2, ry, q3, p3⟩ := z
  obtain ⟨w, hy, rfl⟩ := PostG.one (β := It) (Q := R) q3
  unfold rngO2 at hy
  split at hy
  · split at hy
    · rename_i hn
      cases hy
      cases rx
      cases ry
      exact ⟨_, _, rfl, ⟨hn.1.1, hn.1.2, hn.2.1, hn.2.2⟩, post_ok p3 B2 (walkD_range _ _)⟩
    · cases hy
  · cases hy
def fEnum (f : Sl → M D) : Sl → M Src := fun sl => bindM (f sl) fun d => liftO fun _ => match d with | .lst xs => some (enumD 0 xs, none) | .scr xs => some (enumD 0 xs, none) | _ => none
theorem i_enum {tpos : Pos} {elts : List Expr} {kk : Nat} (hg : Gl X "enumerate") (hm : X.mg "enumerate" = none) (ha : PE X a (tE X.K X.mg W f)) (hs : starEach [a] X.env = [(false, eval a X.env)] := by rfl) (hs2 : starEach (a :: []) X.env = (false, eval a X.env) :: starEach [] X.env := by rfl) :
    PI X (.Tuple elts kk tpos) (.Call (.Name "enumerate" p) [a] [] pos) (tI X.K X.mg W (fEnum f)) := by
  refine ⟨fun pins s σ H R I t => ?_⟩
  refine (pi_enum hg hm (pa_cons ha pa_nil hs2) hs).run pins s σ H R I ?_
  refine tG_mono (tG_bind t) fun v H1 z => ?_
  obtain ⟨H0', O', sl', s', x, r', B', S', rx, q', p'⟩ := z
  obtain ⟨y, hy, rfl⟩ := PostG.one (β := It) (Q := R) q'
  split at hy
  · cases hy
    cases rx with
    | lst h1 h2 => exact ⟨_, _, rfl, SqL.of (B'.sub _ _ h1), post_ok p' B' (walkD_enum (SqL.of h1) h2)⟩
  · cases hy
    cases rx with
    | scr h1 h2 => exact ⟨_, _, rfl, B'.sub.seq h1, post_ok p' B' (walkD_enum h1 h2)⟩
  · cases hy

/-! ### for -/
/-- the turns of a loop -/
noncomputable def forL (T : TD) (g : SD) (a : Src) : List D → Sl → Sto → Option RS
  | [], sl, s => some (.nx sl s)
  | x :: xs, sl, s => match T x sl with
    | none => none
    | some sl1 => match g sl1 s with
      | some (.nx sl2 s2) => if Ck a s2 then forL T g a xs sl2 s2 else none
      | some (.ct sl2 s2) => if Ck a s2 then forL T g a xs sl2 s2 else none
      | some (.bk sl2 s2) => some (.nx sl2 s2)
      | r => r
noncomputable def forS (T : TD) (i : Sl → M Src) (g : SD) : SD := fun sl => bindS (i sl) sl fun a s => if Ck a s then forL T g a a.1 sl s else none
theorem d_for {G : TG} {T : TD} {vs : List Nat} {i : Sl → M Src} {body : List Stmt} {s1 : SD} (hp : PassesOwn (model X.prog X.w) X.A X.env X.xe) (hc : X.calm = true) (hi : PI X tg iter (tI X.K X.mg W i)) (hg : PG X tg G) (ht : TgOk X.K vs G T) (hb : PSs X body (tS X.K X.mg W s1))
    (hs : ∀ x, foldedSetIterable iter X.env x = pure x := by intro _; rfl) : PS X (.For tg iter body [] pos) (tS X.K X.mg W (forS T i s1)) := by
  refine PS.imp (ps_for hp hc hi hg hb hs) fun D σ H t => ?_
  refine tG_mono (tS_bind t) fun J H1 z => ?_
  obtain ⟨H0, O, sl, s, a, r, B, S, wk, q, p⟩ := z
  by_cases hck : Ck a s
  · rw [if_pos hck] at q
    refine ⟨fun i m σ H => m = a.1.length - i ∧ i ≤ a.1.length ∧ ∃ H0' O' sl' s', Base X.K H H0' O' s' ∧ Ext H1 H0 O H H0' O' ∧ RpSl X.K H0' O' σ sl' ∧ Ck a s' ∧ forL T s1 a (a.1.drop i) sl' s' = some r,
      ⟨a.1.length, by simp, Nat.zero_le _, H0, O, sl, s, B, .refl _ _ _, S, hck, q⟩, ?_⟩
    rintro i m σ H ⟨rfl, hi, H0', O', sl', s', B', X', S', ck, e⟩
    by_cases hlt : i < a.1.length
    · refine .inr ⟨wk.goes i H H0' O' s' hlt B' X'.h0 X'.o ck, _, fun σ' H' nq => ⟨a.1.length - (i + 1), by omega, rfl, hlt, nq⟩, fun x H' y => ?_⟩
      obtain ⟨H0'', d, B2, X2, hd, rd⟩ := wk.yields i H H0' O' s' x H' hlt B' X'.h0 X'.o ck y
      have hdrop : a.1.drop i = d :: a.1.drop (i + 1) := by
        rw [List.drop_eq_getElem_cons hlt]
        have := List.getElem?_eq_getElem hlt
        rw [this] at hd
        cases hd
        rfl
      rw [hdrop] at e
      unfold forL at e
      split at e
      · cases e
      · rename_i sl1 e1
        refine ht.run H0'' H' O' x d σ sl' sl1 _ B2.sub rd (S'.ext X2) e1 fun σ1 S1 _ => ?_
        cases eg : s1 sl1 s' with
        | none => rw [eg] at e; cases e
        | some r1 =>
          refine ⟨H0'', O', sl1, s', r1, B2, S1, eg, ?_⟩
          rw [eg] at e
          cases r1 with
          | nx sl2 s2 =>
            intro σ' H2 H02 O2 Bx Xx Sx
            replace e : (if Ck a s2 then forL T s1 a (a.1.drop (i + 1)) sl2 s2 else none) = some r := e
            split at e
            · rename_i c2
              exact ⟨H02, O2, sl2, s2, Bx, (X'.trans X2).trans Xx, Sx, c2, e⟩
            · cases e
          | ct sl2 s2 =>
            intro σ' H2 H02 O2 Bx Xx Sx
            replace e : (if Ck a s2 then forL T s1 a (a.1.drop (i + 1)) sl2 s2 else none) = some r := e
            split at e
            · rename_i c2
              exact ⟨H02, O2, sl2, s2, Bx, (X'.trans X2).trans Xx, Sx, c2, e⟩
            · cases e
          | bk sl2 s2 =>
            cases e
            exact p.ext (X'.trans X2)
          | rt d2 s2 =>
            cases e
            exact p.ext (X'.trans X2)
          | ex c l s2 =>
            cases e
            exact p.ext (X'.trans X2)
    · have ei : i = a.1.length := by omega
      subst ei
      refine .inl ⟨wk.stops H H0' O' s' B' X'.h0 X'.o ck, ?_⟩
      rw [List.drop_length] at e
      cases e
      exact p σ H H0' O' B' X' S'
  · rw [if_neg hck] at q
    cases q
/-! ### while -/
def whileN (u : Sl → M Bool) (g : SD) : Nat → SD
  | 0, _, _ => none
  | n + 1, sl, s => match u sl s with
    | none => none
    | some (.ex c s') => some (.ex c sl s')
    | some (.ok false s') => some (.nx sl s')
    | some (.ok true s') => match g sl s' with
      | some (.nx sl2 s2) => whileN u g n sl2 s2
      | some (.ct sl2 s2) => whileN u g n sl2 s2
      | some (.bk sl2 s2) => some (.nx sl2 s2)
      | r => r
open Classical in
noncomputable def whileS (u : Sl → M Bool) (g : SD) : SD := fun sl s => if h : ∃ n r, whileN u g n sl s = some r then some (Classical.choose (Classical.choose_spec h)) else none
theorem whileN_mono {u : Sl → M Bool} {g : SD} : ∀ {n : Nat} {sl : Sl} {s : Sto} {r : RS}, whileN u g n sl s = some r → whileN u g (n + 1) sl s = some r := by
  intro n
  induction n with
  | zero => intro sl s r h; cases h
  | succ n ih =>
    intro sl s r h
    unfold whileN at h ⊢
    cases e : u sl s with
    | none => rw [e] at h; cases h
    | some r1 =>
      rw [e] at h
      cases r1 with
      | ex c s' => exact h
      | ok b s' =>
        cases b with
        | false => exact h
        | true =>
          cases eg : g sl s' with
          | none => simp only [eg] at h; cases h
          | some r2 =>
            simp only [eg] at h ⊢
            cases r2 with
            | nx l2 s2 => exact ih h
            | ct l2 s2 => exact ih h
            | bk l2 s2 => exact h
            | rt d s2 => exact h
            | ex c l s2 => exact h
theorem whileN_le {u : Sl → M Bool} {g : SD} {n m : Nat} {sl : Sl} {s : Sto} {r : RS} (h : whileN u g n sl s = some r) (hm : n ≤ m) : whileN u g m sl s = some r := by
  induction hm with
  | refl => exact h
  | step _ ih => exact whileN_mono ih
theorem whileS_eq {u : Sl → M Bool} {g : SD} {n : Nat} {sl : Sl} {s : Sto} {r : RS} (h : whileN u g n sl s = some r) : whileS u g sl s = some r := by
  have ex : ∃ n r, whileN u g n sl s = some r := ⟨n, r, h⟩
  unfold whileS
  rw [dif_pos ex]
  have q := Classical.choose_spec (Classical.choose_spec ex)
  have a := whileN_le q (Nat.le_max_left (Classical.choose ex) n)
  have b := whileN_le h (Nat.le_max_right (Classical.choose ex) n)
  rw [a] at b
  exact b
theorem whileS_ex {u : Sl → M Bool} {g : SD} {sl : Sl} {s : Sto} {r : RS} (h : whileS u g sl s = some r) : ∃ n, whileN u g n sl s = some r := by
  unfold whileS at h
  split at h
  · rename_i ex
    cases h
    exact ⟨_, Classical.choose_spec (Classical.choose_spec ex)⟩
  · cases h
theorem d_while {c : Expr} {u : Sl → M Bool} {body : List Stmt} {s1 : SD} (hp : PassesOwn (model X.prog X.w) X.A X.env X.xe) (hc : PT X c (tT X.K X.mg W u)) (hb : PSs X body (tS X.K X.mg W s1)) : PS X (.While c body [] pos) (tS X.K X.mg W (whileS u s1)) := by
  refine PS.imp (ps_while hp hc hb) fun D σ H t => ?_
  obtain ⟨H0, O, sl, sto, r, B, S, q, p⟩ := t
  obtain ⟨n, hn⟩ := whileS_ex q
  refine ⟨fun m σ' H' => ∃ H0' O' sl' s', Base X.K H' H0' O' s' ∧ Ext H H0 O H' H0' O' ∧ RpSl X.K H0' O' σ' sl' ∧ whileN u s1 m sl' s' = some r, ⟨n, H0, O, sl, sto, B, .refl _ _ _, S, hn⟩, ?_⟩
  rintro m σ' H' ⟨H0', O', sl', s', B', X', S', e⟩
  cases m with
  | zero => cases e
  | succ m =>
    unfold whileN at e
    cases eu : u sl' s' with
    | none => rw [eu] at e; cases e
    | some r1 =>
      refine ⟨H0', O', sl', s', r1, B', S', eu, ?_⟩
      rw [eu] at e
      cases r1 with
      | ex c s2 =>
        cases e
        exact fun cls dd H2 H02 O2 w b x => p cls dd σ' H2 H02 O2 w b (X'.trans x) (S'.ext x)
      | ok b s2 =>
        intro b' H2 H02 O2 B2 X2 eb
        cases eb
        cases b with
        | false =>
          cases e
          exact iteF (p _ _ _ _ B2 (X'.trans X2) (S'.ext X2))
        | true =>
          refine iteT ⟨fun σ3 H3 => ∃ H0' O' sl' s', Base X.K H3 H0' O' s' ∧ Ext H H0 O H3 H0' O' ∧ RpSl X.K H0' O' σ3 sl' ∧ whileN u s1 m sl' s' = some r, fun σ3 H3 h => ⟨m, Nat.lt_succ_self _, h⟩, ?_⟩
          cases eg : s1 sl' s2 with
          | none => simp only [eg] at e; cases e
          | some r2 =>
            refine ⟨H02, O2, sl', s2, r2, B2, S'.ext X2, eg, ?_⟩
            simp only [eg] at e
            cases r2 with
            | nx l3 s3 => exact fun σ3 H3 H03 O3 b x z => ⟨H03, O3, l3, s3, b, (X'.trans X2).trans x, z, e⟩
            | ct l3 s3 => exact fun σ3 H3 H03 O3 b x z => ⟨H03, O3, l3, s3, b, (X'.trans X2).trans x, z, e⟩
            | bk l3 s3 => cases e; exact p.ext (X'.trans X2)
            | rt d s3 => cases e; exact p.ext (X'.trans X2)
            | ex c l s3 => cases e; exact p.ext (X'.trans X2)
end
end PD

set_option Elab.async false
set_option linter.all false
set_option maxRecDepth 100000
set_option maxHeartbeats 4000000
/-! PD: comprehensions, defs. -/
namespace PD
open PySem PySem.Spec PyProof.Rows L2

/-! ### comprehensions -/
abbrev wF : WX := fun _ _ _ _ => False
def noex {α : Type} (m : M α) : M α := fun s => match m s with | some (.ex _ _) => none | r => r
noncomputable def ckM (a : Src) : M Unit := fun s => if Ck a s then some (.ok () s) else none
/-- the turns of a comprehension; each begins with the slots sl -/
noncomputable def lcL (T : TD) (u : Sl → M Bool) (f : Sl → M D) (a : Src) (sl : Sl) : List D → M (List D)
  | [] => retM []
  | x :: xs => match T x sl with
    | none => fun _ => none
    | some sl1 => bindM (noex (u sl1)) fun b => if b = true then bindM (noex (f sl1)) fun y => bindM (ckM a) fun _ => bindM (lcL T u f a sl xs) fun ys => retM (y :: ys) else bindM (ckM a) fun _ => lcL T u f a sl xs
noncomputable def fLc (T : TD) (u : Sl → M Bool) (f : Sl → M D) (i : Sl → M Src) (vs : List Nat) : Sl → M D := fun sl =>
  bindM (i sl) fun a => bindM (ckM a) fun _ => bindM (lcL T u f a (wipeS sl vs) a.1) fun ys => liftO fun _ => if small ys.length = true then some (.lst ys) else none
noncomputable def fLcOwn (T : TD) (u : Sl → M Bool) (f : Sl → M D) (i : Sl → M Src) (vs : List Nat) : Sl → M D := fun sl =>
  bindM (i sl) fun a => bindM (ckM a) fun _ => bindM (lcL T u f a (wipeS sl vs) a.1) fun ys s => if small ys.length = true then some (.ok (.own s.length) (s ++ [.lst ys])) else none
def fYes : Sl → M Bool := fun _ => retM true
section
variable {X : Cx} {W : WX} {e a b c o tg iter elt : Expr} {es : List Expr} {pos p p2 : Pos} {f : Sl → M D} {x : Str}
theorem noex_ok {α : Type} {m : M α} {s : Sto} {r : R α} (h : noex m s = some r) : ∃ a s', r = .ok a s' ∧ m s = some (.ok a s') := by
  unfold noex at h
  cases e : m s with
  | none => rw [e] at h; cases h
  | some r1 =>
    rw [e] at h
    cases r1 with
    | ok a s' => cases h; exact ⟨a, s', rfl, rfl⟩
    | ex c s' => cases h
theorem ckM_ok {a : Src} {s : Sto} {r : R Unit} (h : ckM a s = some r) : r = .ok () s ∧ Ck a s := by
  unfold ckM at h
  split at h
  · rename_i c
    cases h
    exact ⟨rfl, c⟩
  · cases h
theorem lcL_ok {T : TD} {u : Sl → M Bool} {f : Sl → M D} {a : Src} {sl : Sl} : ∀ (xs : List D) (s : Sto) (r : R (List D)), lcL T u f a sl xs s = some r → ∃ ys s', r = .ok ys s' := by
  intro xs
  induction xs with
  | nil => intro s r h; cases h; exact ⟨_, _, rfl⟩
  | cons x xs ih =>
    intro s r h
    unfold lcL at h
    cases e1 : T x sl with
    | none => simp only [e1] at h; cases h
    | some sl1 =>
      simp only [e1] at h
      rcases tG_cut h with ⟨b, s1, h1, h2⟩ | ⟨c, s1, h1, h2⟩
      · split at h2
        · rcases tG_cut h2 with ⟨y, s2, h3, h4⟩ | ⟨c, s2, h3, h4⟩
          · rcases tG_cut h4 with ⟨_, s3, h5, h6⟩ | ⟨c, s3, h5, h6⟩
            · rcases tG_cut h6 with ⟨ys, s4, h7, h8⟩ | ⟨c, s4, h7, h8⟩
              · cases h8; exact ⟨_, _, rfl⟩
              · obtain ⟨_, _, z⟩ := ih _ _ h7; cases z
            · obtain ⟨z, _⟩ := ckM_ok h5; cases z
          · obtain ⟨_, _, z, _⟩ := noex_ok h3; cases z
        · rcases tG_cut h2 with ⟨_, s3, h5, h6⟩ | ⟨c, s3, h5, h6⟩
          · exact ih _ _ h6
          · obtain ⟨z, _⟩ := ckM_ok h5; cases z
      · obtain ⟨_, _, z, _⟩ := noex_ok h1; cases z
/-- one step of the new list -/
theorem Base.acc {K : PySem.W.Frag} {H H0 : Hp} {O : List Addr} {sto : Sto} (B : Base K H H0 O sto) {p : Addr} (h0 : H0 p = none) (hO : p ∉ O) (hl : H p ≠ none) (o : HO) : Base K (upd H p o) H0 O sto := by
  refine ⟨fun b u e => ?_, B.nd, B.len, fun a ha => ?_, fun k a c h1 h2 => ?_⟩
  · rw [upd_ne (ne_of_none e h0)]; exact B.sub _ _ e
  · by_cases e : a = p
    · subst e; rw [upd_same]; simp
    · rw [upd_ne e]; exact B.live a ha
  · have q := B.cell k a c h1 h2
    have hn : a ≠ p := fun e => hO (by subst e; exact get_mem h1)
    by_cases hg : c = .gone
    · subst hg; trivial
    · exact q.mono (.refl _) (fun _ _ h => h) (upd_ne hn) (q.none hg)
/-- the new list at D stands apart from all else -/
structure Apart (H0 : Hp) (O : List Addr) (H : Hp) (Dd : Addr) (acc : List V) : Prop where
  at_ : H Dd = some (.lst acc)
  no0 : H0 Dd = none
  noO : Dd ∉ O
theorem Apart.ext {H H0 H' H0' : Hp} {O O' : List Addr} {Dd : Addr} {acc : List V} (A : Apart H0 O H Dd acc) (E : Ext H H0 O H' H0' O') : Apart H0' O' H' Dd acc := by
  refine ⟨E.frame _ _ A.at_ A.noO, ?_, fun h => ?_⟩
  · cases q : H0' Dd with
    | none => rfl
    | some u =>
      rcases E.h0n Dd (by rw [q]; simp) with h | h | h
      · exact absurd A.no0 h
      · rw [A.at_] at h; cases h
      · exact absurd h A.noO
  · rcases E.fresh _ h with h | h
    · exact A.noO h
    · rw [A.at_] at h; cases h
/-- behind a step on the new list: what came, as seen from the start H1, H0, O -/
structure LcAt (K : PySem.W.Frag) (H1 H0 : Hp) (O : List Addr) (H H0' : Hp) (O' : List Addr) (s : Sto) (Dd : Addr) (acc : List V) (ds : List D) : Prop where
  base : Base K H H0' O' s
  h0 : Same H0 H0'
  o : Pre O O'
  fresh : ∀ a ∈ O', a ∈ O ∨ H1 a = none
  frame : ∀ a u, H1 a = some u → a ∉ O → H a = some u
  live : ∀ a, H1 a ≠ none → H a ≠ none
  h0n : ∀ a, H0' a ≠ none → H0 a ≠ none ∨ H1 a = none ∨ a ∈ O
  apart : Apart H0' O' H Dd acc
  acc : RpAll K H0' O' acc ds
section
variable {K : PySem.W.Frag} {H1 H0 H H0' H2 H02 : Hp} {O O' O2 : List Addr} {s s2 : Sto} {Dd : Addr} {acc : List V} {ds : List D}
theorem LcAt.step (L : LcAt K H1 H0 O H H0' O' s Dd acc ds) (B : Base K H2 H02 O2 s2) (E : Ext H H0' O' H2 H02 O2) : LcAt K H1 H0 O H2 H02 O2 s2 Dd acc ds where
  base := B
  h0 := L.h0.trans E.h0
  o := L.o.trans E.o
  fresh := fun x hx => by
    rcases E.fresh x hx with h | h
    · exact L.fresh x h
    · refine .inr ?_
      cases q : H1 x with
      | none => rfl
      | some o => exact absurd h (L.live x (by rw [q]; simp))
  frame := fun x o h hn => E.frame x o (L.frame x o h hn) fun hx => (L.fresh x hx).elim hn fun z => by rw [z] at h; cases h
  live := fun x h => E.live x (L.live x h)
  h0n := fun x h => by
    rcases E.h0n x h with h | h | h
    · exact L.h0n x h
    · refine .inr (.inl ?_)
      cases q : H1 x with
      | none => rfl
      | some o => exact absurd h (L.live x (by rw [q]; simp))
    · rcases L.fresh x h with h | h
      · exact .inr (.inr h)
      · exact .inr (.inl h)
  apart := L.apart.ext E
  acc := E.rps L.acc
theorem LcAt.push (L : LcAt K H1 H0 O H H0' O' s Dd acc ds) (hD : H1 Dd = none) {v : V} {d : D} (r : Rp K H0' O' v d) : LcAt K H1 H0 O (upd H Dd (.lst (acc ++ [v]))) H0' O' s Dd (acc ++ [v]) (ds ++ [d]) where
  base := L.base.acc L.apart.no0 L.apart.noO (by rw [L.apart.at_]; simp) _
  h0 := L.h0
  o := L.o
  fresh := L.fresh
  frame := fun a u h hn => by rw [upd_ne (ne_of_none h hD)]; exact L.frame a u h hn
  live := fun a h => by
    by_cases e : a = Dd
    · subst e; exact absurd hD h
    · rw [upd_ne e]; exact L.live a h
  h0n := L.h0n
  apart := ⟨upd_same, L.apart.no0, L.apart.noO⟩
  acc := L.acc.append (.one r)
theorem LcAt.start (B : Base K H1 H0 O s) (hD : H1 Dd = none) : LcAt K H1 H0 O (upd H1 Dd (.lst [])) H0 O s Dd [] [] where
  base := by
    refine ⟨fun b u e => ?_, B.nd, B.len, fun a ha => ?_, fun k a c h1 h2 => ?_⟩
    · rw [upd_ne (ne_of_none (B.sub _ _ e) hD)]; exact B.sub _ _ e
    · have hn : a ≠ Dd := fun e => by subst e; exact B.live _ ha hD
      rw [upd_ne hn]; exact B.live a ha
    · have q := B.cell k a c h1 h2
      have hn : a ≠ Dd := fun e => by subst e; exact B.live _ (get_mem h1) hD
      by_cases hg : c = .gone
      · subst hg; trivial
      · exact q.mono (.refl _) (fun _ _ h => h) (upd_ne hn) (q.none hg)
  h0 := .refl _
  o := .refl _
  fresh := fun _ h => .inl h
  frame := fun a u h _ => by rw [upd_ne (ne_of_none h hD)]; exact h
  live := fun a h => by
    by_cases e : a = Dd
    · subst e; exact absurd hD h
    · rw [upd_ne e]; exact h
  h0n := fun _ h => .inl h
  apart := ⟨upd_same, none0 B hD, fun h => B.live _ h hD⟩
  acc := .nil
/-- at the end the new list is one of the stable ones -/
theorem LcAt.done (L : LcAt K H1 H0 O H H0' O' s Dd acc ds) (hD : H1 Dd = none) : Base K H (upd H0' Dd (.lst acc)) O' s ∧ Ext H1 H0 O H (upd H0' Dd (.lst acc)) O' ∧ Rp K (upd H0' Dd (.lst acc)) O' (.ref Dd) (.lst ds) := by
  have s0 : Same H0' (upd H0' Dd (.lst acc)) := fun b u e => by rw [upd_ne (ne_of_none e L.apart.no0)]; exact e
  refine ⟨⟨fun b u e => ?_, L.base.nd, L.base.len, L.base.live, fun k a c h1 h2 => ?_⟩, ⟨L.h0.trans s0, L.o, L.fresh, L.frame, L.live, fun a h => ?_⟩, .lst upd_same (RpAll.mono s0 (fun _ _ h => h) _ _ L.acc)⟩
  · by_cases hb : b = Dd
    · subst hb; rw [upd_same] at e; cases e; exact L.apart.at_
    · rw [upd_ne hb] at e; exact L.base.sub _ _ e
  · have q := L.base.cell k a c h1 h2
    have hn : a ≠ Dd := fun e => by subst e; exact L.apart.noO (get_mem h1)
    by_cases hg : c = .gone
    · subst hg; trivial
    · exact q.mono s0 (fun _ _ h => h) rfl (by rw [upd_ne hn]; exact q.none hg)
  · by_cases hb : a = Dd
    · subst hb; exact .inr (.inl hD)
    · rw [upd_ne hb] at h; exact L.h0n a h
/-- .. or one's own -/
theorem LcAt.doneOwn (L : LcAt K H1 H0 O H H0' O' s Dd acc ds) (hD : H1 Dd = none) : Base K H H0' (O' ++ [Dd]) (s ++ [.lst ds]) ∧ Ext H1 H0 O H H0' (O' ++ [Dd]) ∧ Rp K H0' (O' ++ [Dd]) (.ref Dd) (.own s.length) := by
  have pr : ∀ (k : Nat) (a : Addr), O'[k]? = some a → (O' ++ [Dd])[k]? = some a := fun k a h => Pre.get ⟨_, rfl⟩ h
  refine ⟨⟨L.base.sub, ?_, by simp [L.base.len], fun a ha => ?_, fun k a c' h1 h2 => ?_⟩, ⟨L.h0, L.o.trans ⟨_, rfl⟩, fun a h => ?_, L.frame, L.live, L.h0n⟩, .own ?_⟩
  · rw [List.nodup_append]
    refine ⟨L.base.nd, by simp, fun a ha b hb e => ?_⟩
    rw [List.mem_singleton.mp hb] at e
    exact L.apart.noO (e ▸ ha)
  · rcases List.mem_append.mp ha with ha | ha
    · exact L.base.live a ha
    · rw [List.mem_singleton.mp ha, L.apart.at_]; simp
  · by_cases hk : k < O'.length
    · rw [List.getElem?_append_left hk] at h1
      rw [List.getElem?_append_left (by rw [← L.base.len]; exact hk)] at h2
      have q := L.base.cell k a c' h1 h2
      by_cases hg : c' = .gone
      · subst hg; trivial
      · exact q.mono (.refl _) pr rfl (q.none hg)
    · have hk2 : k = O'.length := by
        have := (List.getElem?_eq_some_iff.mp h1).1
        rw [List.length_append, List.length_singleton] at this
        omega
      subst hk2
      rw [List.getElem?_append_right (Nat.le_refl _), Nat.sub_self] at h1
      rw [List.getElem?_append_right (by rw [L.base.len]; exact Nat.le_refl _), L.base.len, Nat.sub_self] at h2
      cases h1; cases h2
      exact ⟨acc, L.apart.at_, RpAll.mono (.refl _) pr _ _ L.acc, L.apart.no0⟩
  · rcases List.mem_append.mp h with h | h
    · exact L.fresh a h
    · rw [List.mem_singleton.mp h]; exact .inr hD
  · rw [← L.base.len, List.getElem?_append_right (Nat.le_refl _), Nat.sub_self]
    rfl
end
theorem lc_size (n : Nat) (h : small n = true) : n ≤ sizeLine := small_ok h
/-- the reading of a comprehension -/
theorem lc_read {mg : Str → Option Value} {K : PySem.W.Frag} {G : TG} {T : TD} {vs : List Nat} {u : Sl → M Bool} {σ : L2.St} {H1 H0 : Hp} {O : List Addr} {sl : Sl} {s : Sto} {a : Src} {J : It} {r : R (List D)} {Qd : Addr → Hp → Prop}
    (B : Base K H1 H0 O s) (S : RpSl K H0 O σ sl) (wk : WalkD K J H0 O a) (ck : Ck a s) (ht : TgOk K vs G T) (q : lcL T u f a (wipeS sl vs) a.1 s = some r)
    (hsz : ∀ ys s', r = .ok ys s' → small ys.length = true)
    (hd : ∀ Dd ys s' acc H H0' O', r = .ok ys s' → H1 Dd = none → LcAt K H1 H0 O H H0' O' s' Dd acc ys → Qd Dd H) (Dd : Addr) (hD : H1 Dd = none) :
    ∃ Wt : Nat → Nat → Hp → Prop, (∃ m, Wt 0 m (upd H1 Dd (.lst []))) ∧ ∀ i m H, Wt i m H →
      (J.stop i H ∧ Qd Dd H) ∨ (J.go i H ∧ ∃ Nx : Hp → Prop, (∀ H', Nx H' → ∃ m', m' < m ∧ Wt (i + 1) m' H') ∧ ∀ x H', J.yld i H x H' → G x (wipe σ vs) H' fun σ2 H2 => wipe σ2 vs = wipe σ vs ∧ tT K mg wF u σ2 H2 fun b H3 =>
        if b = true then tE K mg wF f σ2 H3 fun y H4 => ∃ acc, H4 Dd = some (.lst acc) ∧ acc.length < sizeLine ∧ Nx (upd H4 Dd (.lst (acc ++ [y]))) else Nx H3) := by
  have lcLen : ∀ (xs : List D) (s : Sto) (ys : List D) (s' : Sto), lcL T u f a (wipeS sl vs) xs s = some (.ok ys s') → True := fun _ _ _ _ _ => trivial
  refine ⟨fun i m H => m = a.1.length - i ∧ i ≤ a.1.length ∧ ∃ H0' O' s' acc ds zs s'', LcAt K H1 H0 O H H0' O' s' Dd acc ds ∧ Ck a s' ∧ lcL T u f a (wipeS sl vs) (a.1.drop i) s' = some (.ok zs s'') ∧ r = .ok (ds ++ zs) s'',
    ?_, ?_⟩
  · obtain ⟨ys, s', rfl⟩ := lcL_ok _ _ _ q
    exact ⟨a.1.length, by simp, Nat.zero_le _, H0, O, s, [], [], ys, s', LcAt.start B hD, ck, q, rfl⟩
  rintro i m H ⟨rfl, hi, H0', O', s', acc, ds, zs, s'', L, ck', e, er⟩
  by_cases hlt : i < a.1.length
  · refine .inr ⟨wk.goes i H H0' O' s' hlt L.base L.h0 L.o ck', _, fun H' nq => ⟨a.1.length - (i + 1), by omega, rfl, hlt, nq⟩, fun x H' y => ?_⟩
    obtain ⟨H0'', d, B2, X2, hd', rd⟩ := wk.yields i H H0' O' s' x H' hlt L.base L.h0 L.o ck' y
    have L2' := L.step B2 X2
    have hdrop : a.1.drop i = d :: a.1.drop (i + 1) := by
      rw [List.drop_eq_getElem_cons hlt]
      have := List.getElem?_eq_getElem hlt
      rw [this] at hd'
      cases hd'
      rfl
    rw [hdrop] at e
    unfold lcL at e
    cases e1 : T d (wipeS sl vs) with
    | none => simp only [e1] at e; cases e
    | some sl1 =>
      simp only [e1] at e
      have Sw : RpSl K H0'' O' (wipe σ vs) (wipeS sl vs) := by
        have S' : RpSl K H0'' O' σ sl := ⟨S.len, fun j dd hh => let ⟨v, h1, h2⟩ := S.at_ j dd hh; ⟨v, h1, Rp.mono L2'.h0 (fun _ _ h => L2'.o.get h) _ _ h2⟩⟩
        exact S'.wipe vs
      refine ht.run H0'' H' O' x d (wipe σ vs) (wipeS sl vs) sl1 _ B2.sub rd Sw e1 fun σ1 S1 w1 => ⟨?_, ?_⟩
      · rw [w1]
        clear w1 S1
        have idem : ∀ vs' : List Nat, (∀ v ∈ vs', v ∈ vs) → wipe (wipe σ vs') vs = wipe σ vs := by
          intro vs'
          induction vs' with
          | nil => intro _; rfl
          | cons v vs' ih =>
            intro hv
            show wipe ((wipe σ vs').set v none) vs = wipe σ vs
            rw [wipe_set v none vs _ (hv v List.mem_cons_self)]
            exact ih fun w hw => hv w (List.mem_cons_of_mem _ hw)
        exact idem vs fun _ h => h
      · rcases tG_cut e with ⟨b, s1, h1, h2⟩ | ⟨c, s1, h1, h2⟩
        · obtain ⟨b', s1', z1, h1'⟩ := noex_ok h1
          cases z1
          refine ⟨H0'', O', sl1, s', _, B2, S1, h1', fun b' H3 H03 O3 B3 X3 eb => ?_⟩
          cases eb
          cases b with
          | true =>
            refine iteT ?_
            rw [if_pos rfl] at h2
            rcases tG_cut h2 with ⟨y', s2, h3, h4⟩ | ⟨c, s2, h3, h4⟩
            · obtain ⟨y2, s2', z2, h3'⟩ := noex_ok h3
              cases z2
              refine ⟨H03, O3, sl1, s1, _, B3, S1.ext X3, h3', fun v H4 H04 O4 B4 X4 rv => ?_⟩
              have L4 := (L2'.step B3 X3).step B4 X4
              rcases tG_cut h4 with ⟨_, s3, h5, h6⟩ | ⟨c, s3, h5, h6⟩
              · obtain ⟨z3, ck3⟩ := ckM_ok h5
                cases z3
                rcases tG_cut h6 with ⟨ys, s4, h7, h8⟩ | ⟨c, s4, h7, h8⟩
                · cases h8
                  refine ⟨acc, L4.apart.at_, ?_, H04, O4, _, acc ++ [v], ds ++ [y'], ys, _, L4.push hD rv, ck3, h7, by rw [er, List.append_assoc]; rfl⟩
                  have hz := small_ok (hsz _ _ er)
                  rw [List.length_append, List.length_cons] at hz
                  rw [L.acc.length]
                  omega
                · cases h8
              · obtain ⟨z3, _⟩ := ckM_ok h5
                cases z3
            · obtain ⟨_, _, z2, _⟩ := noex_ok h3
              cases z2
          | false =>
            refine iteF ?_
            rw [if_neg (by simp)] at h2
            rcases tG_cut h2 with ⟨_, s3, h5, h6⟩ | ⟨c, s3, h5, h6⟩
            · obtain ⟨z3, ck3⟩ := ckM_ok h5
              cases z3
              exact ⟨H03, O3, s1, acc, ds, zs, s'', L2'.step B3 X3, ck3, h6, er⟩
            · obtain ⟨z3, _⟩ := ckM_ok h5
              cases z3
        · obtain ⟨_, _, z, _⟩ := noex_ok h1
          cases z
  · have ei : i = a.1.length := by omega
    subst ei
    rw [List.drop_length] at e
    cases e
    rw [List.append_nil] at er
    exact .inl ⟨wk.stops H H0' O' s' L.base L.h0 L.o ck', hd Dd ds s' acc H H0' O' er hD L⟩
end
end PD

set_option Elab.async false
set_option linter.all false
set_option maxRecDepth 100000
set_option maxHeartbeats 4000000
/-! PD: the comprehension's rules, defs. -/
namespace PD
open PySem PySem.Spec PyProof.Rows L2
section
variable {X : Cx} {W : WX} {e a b c o tg iter elt : Expr} {es : List Expr} {pos p p2 spos py : Pos} {f : Sl → M D} {x y : Str} {G : TG} {T : TD} {vs : List Nat} {u : Sl → M Bool} {i : Sl → M Src} {ifs : List Expr} {scope : Scope} {own : List (Str × Nat)}
theorem t_nil : PTs X [] (tT X.K X.mg W fYes) := ⟨fun pins s σ H Q I t => pts_nil.run pins s σ H Q I (by
  obtain ⟨H0, O, sl, sto, r, B, S, q, p⟩ := t
  cases q
  exact post_ok p B rfl)⟩
theorem t_one (h : PT X c (tT X.K X.mg W u)) : PTs X [c] (tT X.K X.mg W u) := pts_one h
/-- what the two makings of a comprehension's value have alike -/
theorem lc_tE (own' : Bool) {k : Src → List D → M D} {σ : L2.St} {H : Hp} {Q : VK} (ht : TgOk X.K vs G T)
    (hk : k = fun _ ys => if own' = true then (fun s => if small ys.length = true then some (.ok (.own s.length) (s ++ [.lst ys])) else none) else liftO fun _ => if small ys.length = true then some (.lst ys) else none)
    (t : tE X.K X.mg W (fun sl => bindM (i sl) fun a => bindM (ckM a) fun _ => bindM (lcL T u f a (wipeS sl vs) a.1) (k a)) σ H Q) :
    tLc (tI X.K X.mg W i) G (tT X.K X.mg wF u) (tE X.K X.mg wF f) vs σ H Q := by
  refine tG_mono (tG_bind t) fun J H1 z => ?_
  obtain ⟨H0, O, sl, s, a, r, B, S, wk, q, p⟩ := z
  intro Dd hD
  rcases tG_cut q with ⟨_, s1, h1, h2⟩ | ⟨c, s1, h1, h2⟩
  · obtain ⟨z, ck⟩ := ckM_ok h1
    cases z
    rcases tG_cut h2 with ⟨ys, s2, h3, h4⟩ | ⟨c, s2, h3, h4⟩
    · have hsm : small ys.length = true := by
        rw [hk] at h4
        cases hb : small ys.length with
        | true => rfl
        | false =>
          cases own' with
          | true => simp [hb] at h4
          | false => simp [liftO, hb] at h4
      refine lc_read (mg := X.mg) (Qd := fun Dd H => Q (V.ref Dd) H) B S wk ck ht h3 (fun ys' s' e => by cases e; exact hsm) (fun Dd ys' s' acc H H0' O' e hD L => ?_) Dd hD
      cases e
      rw [hk] at h4
      cases own' with
      | true =>
        simp only [if_true, hsm] at h4
        cases h4
        obtain ⟨b1, b2, b3⟩ := L.doneOwn hD
        exact p _ _ _ _ b1 b2 b3
      | false =>
        simp only [liftO, hsm, if_true] at h4
        cases h4
        obtain ⟨b1, b2, b3⟩ := L.done hD
        exact p _ _ _ _ b1 b2 b3
    · obtain ⟨_, _, z⟩ := lcL_ok _ _ _ h3
      cases z
  · obtain ⟨z, _⟩ := ckM_ok h1
    cases z
theorem e_lc (hc : X.calm = true) (hN : X.N.Nodup) (hi : PI X tg iter (tI X.K X.mg W i)) (ok : BlkOk X.N X.env.scope scope own) (ht : TgOk X.K (own.map (·.2)) G T)
    (hg : ∀ (s : Shared) (H : Hp) (C : Addr) (cl : List (Str × Addr)) (fp : List Addr), PG (X.blk s H scope (compEnvC scope cl C X.env) fp) tg G) (hu : ∀ (s : Shared) (H : Hp) (C : Addr) (cl : List (Str × Addr)) (fp : List Addr), PTs (X.blk s H scope (compEnvC scope cl C X.env) fp) ifs (tT X.K X.mg wF u))
    (he : ∀ (s : Shared) (H : Hp) (C : Addr) (cl : List (Str × Addr)) (fp : List Addr), PE (X.blk s H scope (compEnvC scope cl C X.env) fp) elt (tE X.K X.mg wF f)) (hs : ∀ x, foldedSetIterable iter X.env x = pure x := by intro _; rfl) :
    PE X (.ListComp elt [⟨tg, iter, ifs, 0⟩] scope pos) (tE X.K X.mg W (fLc T u f i (own.map (·.2)))) :=
  PE.imp (pe_lc hc hN hi ok hg hu he hs) fun σ H Q t => lc_tE false ht rfl t
theorem e_lcOwn (hc : X.calm = true) (hN : X.N.Nodup) (hi : PI X tg iter (tI X.K X.mg W i)) (ok : BlkOk X.N X.env.scope scope own) (ht : TgOk X.K (own.map (·.2)) G T)
    (hg : ∀ (s : Shared) (H : Hp) (C : Addr) (cl : List (Str × Addr)) (fp : List Addr), PG (X.blk s H scope (compEnvC scope cl C X.env) fp) tg G) (hu : ∀ (s : Shared) (H : Hp) (C : Addr) (cl : List (Str × Addr)) (fp : List Addr), PTs (X.blk s H scope (compEnvC scope cl C X.env) fp) ifs (tT X.K X.mg wF u))
    (he : ∀ (s : Shared) (H : Hp) (C : Addr) (cl : List (Str × Addr)) (fp : List Addr), PE (X.blk s H scope (compEnvC scope cl C X.env) fp) elt (tE X.K X.mg wF f)) (hs : ∀ x, foldedSetIterable iter X.env x = pure x := by intro _; rfl) :
    PE X (.ListComp elt [⟨tg, iter, ifs, 0⟩] scope pos) (tE X.K X.mg W (fLcOwn T u f i (own.map (·.2)))) :=
  PE.imp (pe_lc hc hN hi ok hg hu he hs) fun σ H Q t => lc_tE true ht rfl t
theorem tS_asg {D : Ends} {σ : L2.St} {H : Hp} {n : Nat} {te : TE} (h : ∀ Q : VK, tE X.K X.mg W f σ H Q → te σ H Q) (t : tS X.K X.mg W (setS n f) D σ H) : tAsg te (gName n) D σ H := by
  refine h _ (tG_mono (tS_bind t) fun v H1 z => ?_)
  obtain ⟨H0', O', sl', s', x, r', B', S', rx, q', p'⟩ := z
  cases q'
  exact p' _ _ _ _ B' (.refl _ _ _) (S'.set rx n)
theorem d_setLc {n : Nat} (own' : Bool) (hc : X.calm = true) (hN : X.N.Nodup) (hy : X.N[n]? = some y) (hyl : X.env.scope.names.lookup y = some .local)
    (hsw : swapsWith (.ListComp elt [⟨tg, iter, ifs, 0⟩] scope pos) (some (.Name y py)) spos.line X.env = pure true) (hi : PI X tg iter (tI X.K X.mg W i)) (ok : BlkOk X.N X.env.scope scope own) (ht : TgOk X.K (own.map (·.2)) G T)
    (hg : ∀ (s : Shared) (H : Hp) (C : Addr) (cl : List (Str × Addr)) (fp : List Addr), PG (X.blk s H scope (compEnvC scope cl C X.env) fp) tg G) (hu : ∀ (s : Shared) (H : Hp) (C : Addr) (cl : List (Str × Addr)) (fp : List Addr), PTs (X.blk s H scope (compEnvC scope cl C X.env) fp) ifs (tT X.K X.mg wF u))
    (he : ∀ (s : Shared) (H : Hp) (C : Addr) (cl : List (Str × Addr)) (fp : List Addr), PE (X.blk s H scope (compEnvC scope cl C X.env) fp) elt (tE X.K X.mg wF f)) (hs : ∀ x, foldedSetIterable iter X.env x = pure x := by intro _; rfl) :
    PS X (.Assign [.Name y py] (.ListComp elt [⟨tg, iter, ifs, 0⟩] scope pos) spos) (tS X.K X.mg W (setS n ((if own' = true then fLcOwn else fLc) T u f i (own.map (·.2))))) := by
  refine PS.imp (ps_setLc hc hN hy hyl hsw hi ok hg hu he hs) fun D σ H t => tS_asg (fun Q q => ?_) t
  cases own' with
  | true => exact lc_tE true ht rfl q
  | false => exact lc_tE false ht rfl q
end

/-! ### defs -/
def CellLow (n : Nat) : Cell → Prop
  | .lst xs => D.lowAll n xs = true
  | .dic kvs => ∀ q ∈ kvs, D.low n q.2 = true
  | .gone => True
  | .obj _ fs => ∀ q ∈ fs, D.low n q.2 = true
  | .tab _ => True
/-- t: the first of them, each as it was or with nothing of the def's own -/
def Keeps (s t : Sto) : Prop := ∀ (j : Nat) (c : Cell), t[j]? = some c → s[j]? = some c ∨ CellLow s.length c
noncomputable instance (s t : Sto) : Decidable (Keeps s t) := Classical.propDecidable _
noncomputable instance (n : Nat) (c : Cell) : Decidable (CellLow n c) := Classical.propDecidable _
/-- what a def gives back: its own lists are forgotten, a list that is given back is a stable one (keep: one's own) -/
noncomputable def closeM (keep : Bool) (s : Sto) (d : D) (s' : Sto) : Option (R D) :=
  if Keeps s (s'.take s.length) then match d with
    | .own k => if k < s.length then some (.ok (.own k) (s'.take s.length)) else match s'[k]? with
      | some (.lst xs) => if D.lowAll s.length xs = true then (if keep = true then some (.ok (.own s.length) (s'.take s.length ++ [.lst xs])) else some (.ok (.lst xs) (s'.take s.length))) else none
      | some (.dic kvs) => if keep = true ∧ CellLow s.length (.dic kvs) then some (.ok (.own s.length) (s'.take s.length ++ [.dic kvs])) else none
      | _ => none
    | d => if D.low s.length d = true then some (.ok d (s'.take s.length)) else none
  else none
noncomputable def closeX (c : Str) (s s' : Sto) : Option (R D) := if Keeps s (s'.take s.length) then some (.ex c (s'.take s.length)) else none
noncomputable def fnD (keep : Bool) (n : Nat) (g : SD) : List D → M D := fun ds s =>
  match g (ds.map some ++ List.replicate (n - ds.length) none) s with
  | some (.nx _ s') => closeM keep s .non s'
  | some (.rt d s') => closeM keep s d s'
  | some (.ex c _ s') => closeX c s s'
  | _ => none
def fnA (n : Nat) (g : SD) : List D → M D := fun ds s =>
  match g (ds.map some ++ List.replicate (n - ds.length) none) s with
  | some (.nx _ s') => some (.ok .non s')
  | some (.rt d s') => some (.ok d s')
  | some (.ex c _ s') => some (.ex c s')
  | _ => none
section
variable {K : PySem.W.Frag} {mg : Str → Option Value} {H H0 H' H0' : Hp} {O O' : List Addr} {s s' : Sto}
theorem Ext.cutO (E : Ext H H0 O H' H0' O') : Ext H H0 O H' H0' O := ⟨E.h0, .refl _, fun _ h => .inl h, E.frame, E.live, E.h0n⟩
theorem take_pre {O O' : List Addr} (p : Pre O O') : O'.take O.length = O := by
  obtain ⟨t, rfl⟩ := p
  exact List.take_left
theorem close_base (B : Base K H H0 O s) (B' : Base K H' H0' O' s') (E : Ext H H0 O H' H0' O') (h : Keeps s (s'.take s.length)) : Base K H' H0' O (s'.take s.length) := by
  have hl : s.length ≤ s'.length := by
    obtain ⟨t, e⟩ := E.o
    rw [← B.len, ← B'.len, e, List.length_append]
    exact Nat.le_add_right _ _
  have q := B'.cut (n := s.length) (s'.take s.length) (by rw [List.length_take]; omega) ⟨s'.drop s.length, (List.take_append_drop _ _).symm⟩ (fun c hc => ?_)
  · have e := take_pre E.o
    rw [B.len] at e
    rw [e] at q
    exact q
  · obtain ⟨j, hj⟩ := List.mem_iff_getElem?.mp hc
    have low : CellLow s.length c := by
      rcases h j c hj with z | z
      · have hjO : j < O.length := by rw [B.len]; exact (List.getElem?_eq_some_iff.mp z).1
        have q := B.cell j _ c (List.getElem?_eq_getElem hjO) z
        cases c with
        | lst xs =>
          obtain ⟨vs, _, q2, _⟩ := q
          have := RpAll.bel _ _ q2
          rw [B.len] at this
          exact this
        | dic kvs =>
          obtain ⟨ks, _, q2, _⟩ := q
          intro w hw
          obtain ⟨k0, hk0⟩ := Paired.right q2 w hw
          have := Rp.bel _ _ hk0.2
          rw [B.len] at this
          exact this
        | gone => trivial
        | obj c fs =>
          obtain ⟨C, dx, ks, _, _, q2, _⟩ := q
          intro w hw
          obtain ⟨k0, hk0⟩ := Paired.right q2 w hw
          have := Rp.bel _ _ hk0.2
          rw [B.len] at this
          exact this
        | tab x => trivial
      · exact z
    cases c with
    | lst xs => exact low
    | dic kvs => exact low
    | gone => trivial
    | obj c fs => exact low
    | tab x => trivial
theorem paired_cut {K : PySem.W.Frag} {H0' : Hp} {O' : List Addr} (n : Nat) : ∀ {kvs : List (Key × D)} {ks : List (Key × V)}, (∀ q ∈ kvs, D.low n q.2 = true) → Paired (fun (p : Key × V) (q : Key × D) => p.1 = q.1 ∧ Rp K H0' O' p.2 q.2) ks kvs →
    Paired (fun (p : Key × V) (q : Key × D) => p.1 = q.1 ∧ Rp K H0' (O'.take n) p.2 q.2) ks kvs
  | _, _, _, .nil => .nil
  | _, _, low, .cons r t => .cons ⟨r.1, Rp.cut n _ _ (low _ List.mem_cons_self) r.2⟩ (paired_cut n (fun q hq => low q (List.mem_cons_of_mem _ hq)) t)
theorem closeM_ok {keep : Bool} {Q : VK} {E : XK} {v : V} {d : D} {r : R D} (B : Base K H H0 O s) (p : PostG K mg (Rp K) H H0 O Q E r) (hc : closeM keep s d s' = some r)
    (B' : Base K H' H0' O' s') (X : Ext H H0 O H' H0' O') (rv : Rp K H0' O' v d) : Q v H' := by
  unfold closeM at hc
  split at hc
  · rename_i hk
    have b := close_base B B' X hk
    have hO : O'.take s.length = O := by rw [← B.len]; exact take_pre X.o
    split at hc
    · rename_i k
      split at hc
      · rename_i hlt
        cases hc
        cases rv with
        | own h1 =>
          refine p _ _ _ _ b X.cutO (.own ?_)
          rw [← hO, List.getElem?_take, if_pos hlt]
          exact h1
      · rename_i hge
        split at hc
        · rename_i xs hx
          split at hc
          · rename_i hlow
            cases rv with
            | own h1 =>
              rename_i a
              obtain ⟨vs, g1, g2, g3⟩ := B'.cell _ _ _ h1 hx
              have g2' : RpAll K H0' O vs xs := by
                have := RpAll.cut s.length _ _ hlow g2
                rw [hO] at this
                exact this
              have haO : a ∉ O := fun hm => by
                obtain ⟨j, hj⟩ := List.mem_iff_getElem?.mp hm
                have e := get_inj B'.nd (X.o.get hj) h1
                have := (List.getElem?_eq_some_iff.mp hj).1
                rw [B.len] at this
                omega
              have hfr : H a = none := (X.fresh a (get_mem h1)).resolve_left haO
              split at hc
              · cases hc
                have pr : ∀ (k : Nat) (b : Addr), O[k]? = some b → (O ++ [a])[k]? = some b := fun k b h => Pre.get ⟨_, rfl⟩ h
                have len : O.length = (s'.take s.length).length := b.len
                refine p (.ref a) H' H0' (O ++ [a]) ⟨b.sub, ?_, by rw [List.length_append, List.length_append, len]; rfl, fun c hc => ?_, fun j c cc h1' h2' => ?_⟩ ⟨X.h0, ⟨_, rfl⟩, fun c hc => ?_, X.frame, X.live, X.h0n⟩ (.own ?_)
                · rw [List.nodup_append]
                  refine ⟨b.nd, by simp, fun c hc d hd e => ?_⟩
                  rw [List.mem_singleton.mp hd] at e
                  exact haO (e ▸ hc)
                · rcases List.mem_append.mp hc with hc | hc
                  · exact b.live c hc
                  · rw [List.mem_singleton.mp hc, g1]; simp
                · by_cases hj : j < O.length
                  · rw [List.getElem?_append_left hj] at h1'
                    rw [List.getElem?_append_left (by rw [← len]; exact hj)] at h2'
                    have q := b.cell j c cc h1' h2'
                    by_cases hg : cc = .gone
                    · subst hg; trivial
                    · exact q.mono (.refl _) pr rfl (q.none hg)
                  · have hj2 : j = O.length := by
                      have := (List.getElem?_eq_some_iff.mp h1').1
                      rw [List.length_append, List.length_singleton] at this
                      omega
                    subst hj2
                    rw [List.getElem?_append_right (Nat.le_refl _), Nat.sub_self] at h1'
                    rw [List.getElem?_append_right (by rw [len]; exact Nat.le_refl _), len, Nat.sub_self] at h2'
                    cases h1'; cases h2'
                    exact ⟨vs, g1, RpAll.mono (.refl _) pr _ _ g2', g3⟩
                · rcases List.mem_append.mp hc with hc | hc
                  · exact .inl hc
                  · rw [List.mem_singleton.mp hc]; exact .inr hfr
                · rw [← B.len, List.getElem?_append_right (Nat.le_refl _), Nat.sub_self]
                  rfl
              · cases hc
                have s0 : Same H0' (upd H0' a (.lst vs)) := fun b u e => by rw [upd_ne (ne_of_none e g3)]; exact e
                refine p (.ref a) H' (upd H0' a (.lst vs)) O ⟨fun c u e => ?_, b.nd, b.len, b.live, fun j c cc h1' h2' => ?_⟩ ⟨X.h0.trans s0, .refl _, fun _ h => .inl h, X.frame, X.live, fun c hc => ?_⟩ (.lst upd_same (RpAll.mono s0 (fun _ _ h => h) _ _ g2'))
                · by_cases hb : c = a
                  · subst hb; rw [upd_same] at e; cases e; exact g1
                  · rw [upd_ne hb] at e; exact b.sub _ _ e
                · have q := b.cell j c cc h1' h2'
                  have hn : c ≠ a := fun e => by subst e; exact haO (get_mem h1')
                  by_cases hg : cc = .gone
                  · subst hg; trivial
                  · exact q.mono s0 (fun _ _ h => h) rfl (by rw [upd_ne hn]; exact q.none hg)
                · by_cases hb : c = a
                  · subst hb; exact .inr (.inl hfr)
                  · rw [upd_ne hb] at hc; exact X.h0n c hc
          · cases hc
        · rename_i kvs hx
          split at hc
          · rename_i hlow
            cases hc
            cases rv with
            | own h1 =>
              rename_i a
              obtain ⟨ks, g1, g2, g3⟩ := B'.cell _ _ _ h1 hx
              have low : ∀ q ∈ kvs, D.low s.length q.2 = true := hlow.2
              have g2' : Paired (fun (p : Key × V) (q : Key × D) => p.1 = q.1 ∧ Rp K H0' O p.2 q.2) ks kvs := by
                have := paired_cut s.length low g2
                rw [hO] at this
                exact this
              have haO : a ∉ O := fun hm => by
                obtain ⟨j, hj⟩ := List.mem_iff_getElem?.mp hm
                have e := get_inj B'.nd (X.o.get hj) h1
                have := (List.getElem?_eq_some_iff.mp hj).1
                rw [B.len] at this
                omega
              have hfr : H a = none := (X.fresh a (get_mem h1)).resolve_left haO
              have pr : ∀ (k : Nat) (b : Addr), O[k]? = some b → (O ++ [a])[k]? = some b := fun k b h => Pre.get ⟨_, rfl⟩ h
              have len : O.length = (s'.take s.length).length := b.len
              refine p (.ref a) H' H0' (O ++ [a]) ⟨b.sub, ?_, by rw [List.length_append, List.length_append, len]; rfl, fun c hc => ?_, fun j c cc h1' h2' => ?_⟩ ⟨X.h0, ⟨_, rfl⟩, fun c hc => ?_, X.frame, X.live, X.h0n⟩ (.own ?_)
              · rw [List.nodup_append]
                refine ⟨b.nd, by simp, fun c hc d hd e => ?_⟩
                rw [List.mem_singleton.mp hd] at e
                exact haO (e ▸ hc)
              · rcases List.mem_append.mp hc with hc | hc
                · exact b.live c hc
                · rw [List.mem_singleton.mp hc, g1]; simp
              · by_cases hj : j < O.length
                · rw [List.getElem?_append_left hj] at h1'
                  rw [List.getElem?_append_left (by rw [← len]; exact hj)] at h2'
                  have q := b.cell j c cc h1' h2'
                  by_cases hg : cc = .gone
                  · subst hg; trivial
                  · exact q.mono (.refl _) pr rfl (q.none hg)
                · have hj2 : j = O.length := by
                    have := (List.getElem?_eq_some_iff.mp h1').1
                    rw [List.length_append, List.length_singleton] at this
                    omega
                  subst hj2
                  rw [List.getElem?_append_right (Nat.le_refl _), Nat.sub_self] at h1'
                  rw [List.getElem?_append_right (by rw [len]; exact Nat.le_refl _), len, Nat.sub_self] at h2'
                  cases h1'; cases h2'
                  exact ⟨ks, g1, Paired.mapP g2' fun _ _ z => ⟨z.1, Rp.mono (.refl _) pr _ _ z.2⟩, g3⟩
              · rcases List.mem_append.mp hc with hc | hc
                · exact .inl hc
                · rw [List.mem_singleton.mp hc]; exact .inr hfr
              · rw [← B.len, List.getElem?_append_right (Nat.le_refl _), Nat.sub_self]
                rfl
          · cases hc
        · cases hc
    · split at hc
      · rename_i hlow
        cases hc
        have := Rp.cut s.length _ _ hlow rv
        rw [hO] at this
        exact p _ _ _ _ b X.cutO this
      · cases hc
  · cases hc
theorem rpSl_start {vs : List V} {ds : List D} {N : List Str} (r : RpAll K H0 O vs ds) : RpSl K H0 O (L2.start N vs) (ds.map some ++ List.replicate (N.length - ds.length) none) := by
  have hl := r.length
  refine ⟨by unfold L2.start; simp [hl], fun j d h => ?_⟩
  unfold L2.start
  by_cases hj : j < ds.length
  · rw [List.getElem?_append_left (by simpa using hj), List.getElem?_map] at h
    cases e : ds[j]? with
    | none => rw [e] at h; cases h
    | some d' =>
      rw [e] at h
      cases h
      obtain ⟨v, h1, h2⟩ := r.get e
      refine ⟨v, ?_, h2⟩
      rw [List.getElem?_append_left (by simp; omega), List.getElem?_map, h1]
      rfl
  · rw [List.getElem?_append_right (by simpa using hj)] at h
    have := List.mem_of_getElem? h
    simp at this
end
section
variable {P : Program} {w : World} {K : PySem.W.Frag} {mg : Str → Option Value} {base : Heap}
/-- where a def's body is walked -/
structure At (X : Cx) (k : Nat) (W : WX) : Prop where
  room : Room k X.A
  takes : L2.Takes X W
  own : PassesOwn (model X.prog X.w) X.A X.env X.xe
  calm : X.calm = true
theorem fn_ok {x qual : Str} {st : Stmt} {f : Addr} {fd : FuncData} {N ps : List Str} {k : Nat} {n : Nat} (keep : Bool) {g : SD} (F : Fun K x qual st f fd) (S : FnScope N ps (defScope st)) (hn : ps.length = n)
    (hb : ∀ (cdv : Value) (A : Around) (outer : List Env) (s : Shared) (H : Hp) (E : XK), At (cxOf (L2.CX P w) P w K mg base N qual (defScope st) f cdv A outer s H E) k (fun cls d _ H => E cls d H) →
      PSs (cxOf (L2.CX P w) P w K mg base N qual (defScope st) f cdv A outer s H E) (defBody st) (tS K mg (fun cls d _ H => E cls d H) g)) :
    FnOk P w K mg base (L2.CX P w) (k + 1) f fd ps (spD K mg n (fnD keep N.length g)) := by
  refine F.okX S (fun vs H Q E h => ?_) (fun cdv A outer s H vs Q E hr h => ⟨_, hb cdv A outer s H E ⟨hr, takes_of rfl rfl rfl rfl, passes_of rfl, rfl⟩, ?_⟩)
  · obtain ⟨H0, O, sto, ds, r, hl, B, rv, _⟩ := h
    rw [rv.length, hl, hn]
  · obtain ⟨H0, O, sto, ds, r, hl, B, rv, e, p⟩ := h
    unfold fnD at e
    cases eg : g (ds.map some ++ List.replicate (N.length - ds.length) none) sto with
    | none => rw [eg] at e; cases e
    | some r1 =>
      refine ⟨H0, O, _, sto, r1, B, rpSl_start rv, eg, ?_⟩
      rw [eg] at e
      cases r1 with
      | nx l s' => exact fun σ' H' H0' O' B' X' S' => closeM_ok B p e B' X' .non
      | rt d s' => exact fun v H' H0' O' B' X' r' => closeM_ok B p e B' X' r'
      | ex c l s' =>
        intro cls dd σ' H' H0' O' hw B' X' S'
        replace e : closeX c sto s' = some r := e
        unfold closeX at e
        split at e
        · rename_i hk
          cases e
          exact p cls dd H' H0' O hw (close_base B B' X' hk) X'.cutO
        · cases e
      | bk l s' => cases e
      | ct l s' => cases e
/-- a def whose new things all stay -/
theorem fn_okA {x qual : Str} {st : Stmt} {f : Addr} {fd : FuncData} {N ps : List Str} {k : Nat} {n : Nat} {g : SD} (F : Fun K x qual st f fd) (S : FnScope N ps (defScope st)) (hn : ps.length = n)
    (hb : ∀ (cdv : Value) (A : Around) (outer : List Env) (s : Shared) (H : Hp) (E : XK), At (cxOf (L2.CX P w) P w K mg base N qual (defScope st) f cdv A outer s H E) k (fun cls d _ H => E cls d H) →
      PSs (cxOf (L2.CX P w) P w K mg base N qual (defScope st) f cdv A outer s H E) (defBody st) (tS K mg (fun cls d _ H => E cls d H) g)) :
    FnOk P w K mg base (L2.CX P w) (k + 1) f fd ps (spD K mg n (fnA N.length g)) := by
  refine F.okX S (fun vs H Q E h => ?_) (fun cdv A outer s H vs Q E hr h => ⟨_, hb cdv A outer s H E ⟨hr, takes_of rfl rfl rfl rfl, passes_of rfl, rfl⟩, ?_⟩)
  · obtain ⟨H0, O, sto, ds, r, hl, B, rv, _⟩ := h
    rw [rv.length, hl, hn]
  · obtain ⟨H0, O, sto, ds, r, hl, B, rv, e, p⟩ := h
    unfold fnA at e
    cases eg : g (ds.map some ++ List.replicate (N.length - ds.length) none) sto with
    | none => rw [eg] at e; cases e
    | some r1 =>
      refine ⟨H0, O, _, sto, r1, B, rpSl_start rv, eg, ?_⟩
      rw [eg] at e
      cases r1 with
      | nx l s' => cases e; exact fun σ' H' H0' O' B' X' S' => p .non H' H0' O' B' X' .non
      | rt d s' => cases e; exact fun v H' H0' O' B' X' r' => p v H' H0' O' B' X' r'
      | ex c l s' => cases e; exact fun cls dd σ' H' H0' O' hw B' X' S' => p cls dd H' H0' O' hw B' X'
      | bk l s' => cases e
      | ct l s' => cases e
/-- nothing is promised of a def at level 0 -/
theorem fn_zero {f : Addr} {fd : FuncData} {ps : List Str} {n : Nat} (hn : ps.length = n) : FnOk P w K mg base (L2.CX P w) 0 f fd ps (spD K mg n (fun _ _ => none)) := by
  have no : ∀ vs H Q E, ¬ spD K mg n (fun _ _ => none) vs H Q E := fun vs H Q E h => by
    obtain ⟨_, _, _, _, _, _, _, _, e, _⟩ := h
    cases e
  exact ⟨fun vs H Q E h => absurd h (no vs H Q E), fun A outer s H args us vs Q E _ _ _ _ h => absurd h (no vs H Q E)⟩
end
end PD

set_option Elab.async false
set_option linter.all false
set_option maxRecDepth 100000
set_option maxHeartbeats 4000000
/-! PD: calls by name, further makings of own lists, the law's end. -/
namespace PD
open PySem PySem.Spec PyProof.Rows L2
theorem u64 {k : Nat} {A : Around} (r : Room k A) : A.units + 64 < cLine := by have := r.un; omega
theorem u65 {k : Nat} {A : Around} (r : Room k A) : A.units + 65 < cLine := by have := r.un; omega
/-- a def that may be called: its denotation is g -/
structure Cal (P : Program) (w : World) (K : PySem.W.Frag) (mg : Str → Option Value) (base : Heap) (k : Nat) (x : Str) (n : Nat) (g : List D → M D) : Prop where
  ex : ∃ (f : Addr) (fd : FuncData) (ps : List Str), FnOk P w K mg base (L2.CX P w) k f fd ps (spD K mg n g) ∧ mg x = some (.ref f) ∧ PySem.W.keepIn K (.ref f) = true ∧ Binds K fd ps []
section
variable {P : Program} {w : World} {K : PySem.W.Frag} {mg : Str → Option Value} {base : Heap} {j k : Nat} {x : Str} {n : Nat} {g : List D → M D}
theorem Cal.mono (c : Cal P w K mg base j x n g) (h : j ≤ k) : Cal P w K mg base k x n g := by
  obtain ⟨f, fd, ps, F, a, b, d⟩ := c.ex
  exact ⟨f, fd, ps, F.mono h, a, b, d⟩
theorem Cal.mk' {qual : Str} {st : Stmt} {f : Addr} {fd : FuncData} {ps : List Str} (F : Fun K x qual st f fd) (gf : mg x = some (.ref f)) (b : Binds K fd ps []) (h : FnOk P w K mg base (L2.CX P w) k f fd ps (spD K mg n g)) : Cal P w K mg base k x n g :=
  ⟨f, fd, ps, h, gf, F.kp, b⟩
theorem Cal.zero {qual : Str} {st : Stmt} {f : Addr} {fd : FuncData} {ps : List Str} (F : Fun K x qual st f fd) (gf : mg x = some (.ref f)) (b : Binds K fd ps []) (hn : ps.length = n) : Cal P w K mg base k x n (fun _ _ => none) :=
  ⟨f, fd, ps, (fn_zero hn).mono (Nat.zero_le _), gf, F.kp, b⟩
end
section
variable {X : Cx} {W : WX} {k n : Nat} {g : List D → M D} {x : Str} {p pos : Pos} {e : Expr} {es : List Expr} {h : Sl → M (List D)} {f : Sl → M D}
theorem e_callC (c : Cal X.prog X.w X.K X.mg X.base k x n g) (tk : L2.Takes X W) (hr : Room k X.A) (hg : Gl X x)
    (ha : PA X (e :: es) (tA X.K X.mg W h)) (hdb : (x == ("__debug__" : Str)) = false := by decide) (he : starEach (e :: es) X.env = (false, eval e X.env) :: starEach es X.env := by rfl) (hpl : (backTo pos (starEach es X.env)).any (·.1) = false := by rfl) :
    PE X (.Call (.Name x p) (e :: es) [] pos) (tE X.K X.mg W (fCall n g h)) := by
  obtain ⟨f, fd, ps, F, a, b, d⟩ := c.ex
  exact e_call F tk hr hg a b d ha hdb he hpl
def revOwnM (d : D) : M D := fun s => match lsOf s d with
  | some xs => some (.ok (.own s.length) (s ++ [.lst xs.reverse]))
  | none => none
def fRevOwn (f : Sl → M D) : Sl → M D := fun sl => bindM (f sl) fun x => revOwnM x
theorem e_revOwn {k : Nat} {q1 q2 q3 : Pos} (he : PE X e (tE X.K X.mg W f)) : PE X (.Subscript e (.Slice none none (some (.UnaryOp .USub (.Constant (.int 1) k q1) q2)) q3) pos) (tE X.K X.mg W (fRevOwn f)) := by
  refine PE.imp (pe_revL he) fun σ H Q t => ?_
  refine tG_mono (tG_bind t) fun x H1 z => ?_
  obtain ⟨H0', O', sl', s', d, r', B', S', rx, q', p'⟩ := z
  unfold revOwnM at q'
  split at q'
  · rename_i xs hq
    cases q'
    obtain ⟨a, vs, rfl, g1, g2⟩ := lsOf_ok B' rx hq
    refine ⟨a, vs, rfl, g1, fun p hp => ?_⟩
    obtain ⟨b1, b2, b3⟩ := own_new B' hp g2.reverse
    exact p' _ _ _ _ b1 b2 b3
  · cases q'
end
/-! ### the law -/
theorem law_spQ {K : PySem.W.Frag} {mg : Str → Option Value} {g : List D → M D} (n : Nat) (h : ∀ ns : List Int, ns.length ≤ n → ∃ s, g [.scr (ns.map D.int)] [] = some (.ok (.bl true) s))
    (H : Hp) (a : Addr) (ns : List Int) (hn : ns.length ≤ n) (hS : SqL K H a (ns.map V.int)) {Q : VK} {E : XK} (q : ∀ H', Q (.bl true) H') : spD K mg 1 g [.ref a] H Q E := by
  obtain ⟨s, e⟩ := h ns hn
  have all : ∀ ns : List Int, RpAll K H [] (ns.map V.int) (ns.map D.int) := by
    intro ns
    induction ns with
    | nil => exact .nil
    | cons x r ih => exact .cons (.int x) ih
  refine ⟨H, [], [], _, _, rfl, ⟨fun _ _ h => h, List.nodup_nil, rfl, (fun a h => by cases h), (fun k a c h _ => by simp at h)⟩, .one (.scr hS (all ns)), e, fun v H' H0' O' _ _ r => ?_⟩
  cases r
  exact q H'
theorem cx_none {P : Program} {w : World} {H : Hp} {s : Shared} {e : Value} {s' : Shared} (h : L2.CX P w [] H s (fun _ _ _ => False) e s') : False := by
  obtain ⟨_, _, _, _, _, _, _, _, _, _, _, _, z⟩ := h
  exact z
end PD

set_option Elab.async false
set_option linter.all false
set_option maxRecDepth 100000
set_option maxHeartbeats 4000000
/-! PD10: dicts. -/
namespace PD
open PySem PySem.Spec PyProof.Rows L2

abbrev KvR (K : PySem.W.Frag) (H0 : Hp) (O : List Addr) : List (Key × V) → List (Key × D) → Prop := Paired (fun (p : Key × V) (q : Key × D) => p.1 = q.1 ∧ Rp K H0 O p.2 q.2)
def dcOf (s : Sto) : D → Option (List (Key × D))
  | .own k => match s[k]? with | some (.dic kvs) => some kvs | _ => none
  | _ => none
def kD : D → Option Key | .int i => some (.inl i) | .str x => some (.inr x) | _ => none
def dK : Key → D | .inl i => .int i | .inr x => .str x
def atD (kvs : List (Key × D)) (k : Key) : Option D := (kvs.find? fun q => decide (q.1 = k)).map (·.2)
def putD (kvs : List (Key × D)) (k : Key) (d : D) : List (Key × D) := if (kvs.any fun q => decide (q.1 = k)) = true then kvs.map (fun q => if q.1 = k then (q.1, d) else q) else kvs ++ [(k, d)]
def dropD (kvs : List (Key × D)) (k : Key) : List (Key × D) := kvs.filter fun q => decide (q.1 ≠ k)
section
variable {K : PySem.W.Frag} {H H0 : Hp} {O : List Addr} {sto : Sto}
theorem dcOf_ok {d : D} {v : V} {kvs : List (Key × D)} (B : Base K H H0 O sto) (r : Rp K H0 O v d) (h : dcOf sto d = some kvs) :
    ∃ k a ks, d = .own k ∧ v = .ref a ∧ O[k]? = some a ∧ sto[k]? = some (.dic kvs) ∧ H a = some (.dK ks) ∧ KvR K H0 O ks kvs ∧ H0 a = none := by
  unfold dcOf at h
  split at h
  · rename_i k
    split at h
    · rename_i kvs' e
      cases h
      cases r with
      | own h1 =>
        rename_i a
        obtain ⟨ks, q1, q2, q3⟩ := B.cell k _ _ h1 e
        exact ⟨k, a, ks, rfl, rfl, h1, e, q1, q2, q3⟩
    · cases h
  · cases h
theorem kD_ok {d : D} {v : V} {k : Key} (r : Rp K H0 O v d) (h : kD d = some k) : v = kV k := by
  cases d with
  | int i => cases r; cases h; rfl
  | str x => cases r; cases h; rfl
  | _ => cases h
theorem rp_dK (k : Key) : Rp K H0 O (kV k) (dK k) := by
  cases k with
  | inl i => exact .int i
  | inr x => exact .str x
theorem kv_get {ks : List (Key × V)} {kvs : List (Key × D)} (k : Key) (p : KvR K H0 O ks kvs) : (∀ d, atD kvs k = some d → ∃ v, valV ks k = some v ∧ Rp K H0 O v d) ∧ (atD kvs k = none → valV ks k = none) := by
  induction p with
  | nil => exact ⟨fun d h => (by cases h), fun _ => rfl⟩
  | @cons a b l1 l2 r t ih =>
    by_cases e : b.1 = k
    · have e' : a.1 = k := r.1.trans e
      have h1 : atD (b :: l2) k = some b.2 := by simp [atD, List.find?_cons, e]
      rw [valV_pos e', h1]
      exact ⟨fun d h => (by cases h; exact ⟨_, rfl, r.2⟩), fun h => (by cases h)⟩
    · have e' : ¬ a.1 = k := fun q => e (r.1.symm.trans q)
      have h1 : atD (b :: l2) k = atD l2 k := by simp [atD, List.find?_cons, e]
      rw [valV_neg e', h1]
      exact ih
theorem kv_len {ks : List (Key × V)} {kvs : List (Key × D)} (p : KvR K H0 O ks kvs) : ks.length = kvs.length := by
  induction p with
  | nil => rfl
  | cons _ _ ih => rw [List.length_cons, List.length_cons, ih]
theorem kv_put {ks : List (Key × V)} {kvs : List (Key × D)} (k : Key) {v : V} {d : D} (p : KvR K H0 O ks kvs) (r : Rp K H0 O v d) : KvR K H0 O (putK ks k v) (putD kvs k d) := by
  have hany : ∀ {ks : List (Key × V)} {kvs : List (Key × D)}, KvR K H0 O ks kvs → (ks.any fun q => decide (q.1 = k)) = (kvs.any fun q => decide (q.1 = k)) := by
    intro ks kvs p
    induction p with
    | nil => rfl
    | cons r _ ih => rw [List.any_cons, List.any_cons, ih, r.1]
  unfold putK putD
  rw [hany p]
  split
  · have hmap : ∀ {ks : List (Key × V)} {kvs : List (Key × D)}, KvR K H0 O ks kvs → KvR K H0 O (ks.map fun kv => if kv.1 = k then (kv.1, v) else kv) (kvs.map fun q => if q.1 = k then (q.1, d) else q) := by
      intro ks kvs p
      induction p with
      | nil => exact .nil
      | @cons a b l1 l2 h _ ih =>
        rw [List.map_cons, List.map_cons]
        refine .cons ?_ ih
        by_cases e : b.1 = k
        · rw [if_pos e, if_pos (h.1.trans e)]; exact ⟨h.1, r⟩
        · rw [if_neg e, if_neg (fun q => e (h.1.symm.trans q))]; exact h
    exact hmap p
  · exact Paired.snoc p ⟨rfl, r⟩
theorem kv_drop {ks : List (Key × V)} {kvs : List (Key × D)} (k : Key) (p : KvR K H0 O ks kvs) : KvR K H0 O (dropK ks k) (dropD kvs k) := by
  induction p with
  | nil => exact .nil
  | @cons a b l1 l2 h _ ih =>
    unfold dropK dropD at *
    rw [List.filter_cons, List.filter_cons]
    by_cases e : b.1 = k
    · have e' : a.1 = k := h.1.trans e
      simpa [e, e'] using ih
    · have e' : ¬ a.1 = k := fun q => e (h.1.symm.trans q)
      have := Paired.cons (F := fun (p : Key × V) (q : Key × D) => p.1 = q.1 ∧ Rp K H0 O p.2 q.2) h ih
      simpa [e, e'] using this
theorem kv_keys {ks : List (Key × V)} {kvs : List (Key × D)} (p : KvR K H0 O ks kvs) : RpAll K H0 O (ks.map fun kv => kV kv.1) (kvs.map fun q => dK q.1) := by
  induction p with
  | nil => exact .nil
  | cons h _ ih =>
    rw [List.map_cons, List.map_cons, h.1]
    exact .cons (rp_dK _) ih
theorem own_newD (B : Base K H H0 O sto) {p : Addr} (hp : H p = none) {ks : List (Key × V)} {kvs : List (Key × D)} (r : KvR K H0 O ks kvs) :
    Base K (upd H p (.dK ks)) H0 (O ++ [p]) (sto ++ [.dic kvs]) ∧ Ext H H0 O (upd H p (.dK ks)) H0 (O ++ [p]) ∧ Rp K H0 (O ++ [p]) (.ref p) (.own sto.length) := by
  obtain ⟨b1, b2⟩ := B.newOwn hp (o := .dK ks) (c := .dic kvs) ⟨ks, upd_same, r, none0 B hp⟩
  refine ⟨b1, b2, .own ?_⟩
  rw [← B.len, List.getElem?_append_right (Nat.le_refl _), Nat.sub_self]
  rfl
end
section
variable {X : Cx} {W : WX} {e a b o i value : Expr} {es : List Expr} {pos pos' apos cpos : Pos} {f g h : Sl → M D}
/-- {} -/
def fDNew : Sl → M D := fun _ s => some (.ok (.own s.length) (s ++ [.dic []]))
theorem e_dNew : PE X (.Dict [] [] pos) (tE X.K X.mg W fDNew) := by
  refine PE.imp pe_dnewK fun σ H Q t p hp => ?_
  obtain ⟨H0, O, sl, s, r, B, S, e, q⟩ := tG_of t
  have e' : some (R.ok (D.own s.length) (s ++ [.dic []])) = some r := e
  cases e'
  obtain ⟨b1, b2, b3⟩ := own_newD B hp (ks := []) (kvs := []) .nil
  exact q _ _ _ _ b1 b2 b3
/-- d[k] -/
def dgetO (s : Sto) (d e : D) : Option D := (dcOf s d).bind fun kvs => (kD e).bind fun k => atD kvs k
theorem dget_at {K : PySem.W.Frag} {H H0 : Hp} {O : List Addr} {s : Sto} {x y : V} {d e z : D} (B : Base K H H0 O s) (rd : Rp K H0 O x d) (re : Rp K H0 O y e) (h : dgetO s d e = some z) : ∃ a v, x = .ref a ∧ DGet H a y (some v) ∧ Rp K H0 O v z := by
  unfold dgetO at h
  cases hd : dcOf s d with
  | none => rw [hd] at h; cases h
  | some kvs =>
    rw [hd] at h
    cases hk : kD e with
    | none => rw [hk] at h; cases h
    | some k =>
      rw [hk] at h
      obtain ⟨n, a, ks, rfl, rfl, h1, h2, h3, h4, h5⟩ := dcOf_ok B rd hd
      obtain ⟨v, hv, rv⟩ := (kv_get k h4).1 z h
      have := kD_ok re hk
      subst this
      refine ⟨a, v, rfl, ?_, rv⟩
      rw [← hv]
      exact .k h3
theorem e_dget (hu : X.A.units + 1 < cLine) (ho : PE X o (tE X.K X.mg W f)) (hi : PE X i (tE X.K X.mg W g)) (hs : NoSl i := by intro _ _; rfl) : PE X (.Subscript o i pos) (tE X.K X.mg W (f2 dgetO f g)) := by
  refine PE.imp (pe_dget hu ho hi hs) fun σ H Q t => ?_
  refine tG_mono (tE_f2 t) fun x H1 z => tG_mono z fun y H2 z => ?_
  obtain ⟨H0, O, s, d, e, z, B, rd, re, hz, k⟩ := z
  obtain ⟨a, v, rfl, g, rv⟩ := dget_at B rd re hz
  exact ⟨a, v, rfl, g, k _ _ _ B (.refl _ _ _) rv⟩
/-- k in d, k not in d -/
def dinO (neg : Bool) (s : Sto) (e d : D) : Option D := (dcOf s d).bind fun kvs => (kD e).map fun k => .bl (ng neg (atD kvs k).isSome)
theorem din_at {K : PySem.W.Frag} {H H0 : Hp} {O : List Addr} {s : Sto} {x y : V} {neg : Bool} {d e z : D} (B : Base K H H0 O s) (rd : Rp K H0 O x d) (re : Rp K H0 O y e) (h : dinO neg s e d = some z) : ∃ a o, x = .ref a ∧ DGet H a y o ∧ z = .bl (ng neg o.isSome) := by
  unfold dinO at h
  cases hd : dcOf s d with
  | none => rw [hd] at h; cases h
  | some kvs =>
    rw [hd] at h
    cases hk : kD e with
    | none => rw [hk] at h; cases h
    | some k =>
      rw [hk] at h
      cases h
      obtain ⟨n, a, ks, rfl, rfl, h1, h2, h3, h4, h5⟩ := dcOf_ok B rd hd
      have := kD_ok re hk
      subst this
      refine ⟨a, valV ks k, rfl, .k h3, ?_⟩
      obtain ⟨g1, g2⟩ := kv_get k h4
      cases hv : atD kvs k with
      | none => simp only [g2 hv, hv]; rfl
      | some d => obtain ⟨v, e1, _⟩ := g1 d hv; simp only [e1, hv]; rfl
theorem c_din (hu : X.A.units + 1 < cLine) (hi : PE X i (tE X.K X.mg W f)) (ho : PE X o (tE X.K X.mg W g)) : PC X .In i o (tE X.K X.mg W (f2 (dinO false) f g)) := by
  have := pc_din hu hi ho
  refine ⟨fun pins s σ H Q I t => this.run pins s σ H Q I ?_⟩
  refine tG_mono (tE_f2 t) fun y H1 z => tG_mono z fun x H2 z => ?_
  obtain ⟨H0, O, s, d, e, z, B, rd, re, hz, k⟩ := z
  obtain ⟨a, o, rfl, g, rfl⟩ := din_at B re rd hz
  exact ⟨a, o, rfl, g, k _ _ _ B (.refl _ _ _) (.bl _)⟩
theorem c_dnotIn (hu : X.A.units + 1 < cLine) (hi : PE X i (tE X.K X.mg W f)) (ho : PE X o (tE X.K X.mg W g)) : PC X .NotIn i o (tE X.K X.mg W (f2 (dinO true) f g)) := by
  have := pc_dnotin hu hi ho
  refine ⟨fun pins s σ H Q I t => this.run pins s σ H Q I ?_⟩
  refine tG_mono (tE_f2 t) fun y H1 z => tG_mono z fun x H2 z => ?_
  obtain ⟨H0, O, s, d, e, z, B, rd, re, hz, k⟩ := z
  obtain ⟨a, o, rfl, g, rfl⟩ := din_at B re rd hz
  exact ⟨a, o, rfl, g, k _ _ _ B (.refl _ _ _) (.bl _)⟩
theorem e_pc {op : CmpOp} {t : TE} (c : PC X op a b t) (hm : behindInMarks op b = false := by first | exact nomark _ | rfl) : PE X (.Compare a [op] [b] pos) t := pe_cmp c hm
theorem b_pc {op : CmpOp} {fo : Sl → M D} (c : PC X op a b (tE X.K X.mg W fo)) (hm : behindInMarks op b = false := by first | exact nomark _ | rfl) : PT X (.Compare a [op] [b] pos) (tT X.K X.mg W (fB fo)) :=
  PT.imp (pt_cmp c hm) fun _ _ _ t => tT_fB t
/-- d[k] = e -/
def putIx (s : Sto) (d e y : D) : Option Sto := match d with
  | .own k => match s[k]? with
    | some (.dic kvs) => (kD e).bind fun q => if small (kvs.length + 1) = true then some (s.set k (.dic (putD kvs q y))) else none
    | _ => none
  | _ => none
theorem putIx_at {K : PySem.W.Frag} {H H0 : Hp} {O : List Addr} {s s' : Sto} {x y v : V} {d e z : D} (B : Base K H H0 O s) (rd : Rp K H0 O x d) (re : Rp K H0 O y e) (rz : Rp K H0 O v z) (h : putIx s d e z = some s') :
    ∃ a ks k, x = .ref a ∧ y = kV k ∧ H a = some (.dK ks) ∧ ks.length < sizeLine ∧ Base K (upd H a (.dK (putK ks k v))) H0 O s' ∧ Ext H H0 O (upd H a (.dK (putK ks k v))) H0 O := by
  unfold putIx at h
  split at h
  · rename_i n
    split at h
    · rename_i kvs hn
      cases hk : kD e with
      | none => rw [hk] at h; cases h
      | some k =>
        rw [hk] at h
        have h' : (if small (kvs.length + 1) = true then some (s.set n (.dic (putD kvs k z))) else none) = some s' := h
        split at h'
        · rename_i hs
          cases h'
          cases rd with
          | own h1 =>
            rename_i a
            obtain ⟨ks, g1, g2, g3⟩ := B.cell _ _ _ h1 hn
            have := kD_ok re hk
            subst this
            obtain ⟨b1, b2⟩ := B.write (o := .dK (putK ks k v)) (c := .dic (putD kvs k z)) h1 g3 ⟨_, upd_same, kv_put k g2 rz, g3⟩
            have hl : ks.length < sizeLine := by
              have := small_ok hs
              have := kv_len g2
              omega
            exact ⟨a, ks, k, rfl, rfl, g1, hl, b1, b2⟩
        · cases h'
    · cases h
  · cases h
def putIxS (f o i : Sl → M D) : SD := fun sl => bindS (f sl) sl fun y => bindS (o sl) sl fun d => bindS (i sl) sl fun e s => match putIx s d e y with | some s' => some (.nx sl s') | none => none
theorem d_putIx {fi fo : Sl → M D} (hu : X.A.units + 1 < cLine) (he : PE X value (tE X.K X.mg W f)) (ho : PE X o (tE X.K X.mg W fo)) (hi : PE X i (tE X.K X.mg W fi))
    (hs : swapsWith value (some (.Subscript o i pos')) pos.line X.env = pure false := by rfl) : PS X (.Assign [.Subscript o i pos'] value pos) (tS X.K X.mg W (putIxS f fo fi)) := by
  refine PS.imp (ps_dput hu ho hi he hs) fun D σ H t => ?_
  refine tG_mono (tS_bind t) fun v H1 z => ?_
  obtain ⟨H0', O', sl', s', y, r', B', S', rx, q', p'⟩ := z
  obtain ⟨r1, e1, p1⟩ := PostS.bind (rp := Rp X.K) S' q' p'
  refine ⟨H0', O', sl', s', r1, B', S', e1, p1.mono fun u H2 z => ?_⟩
  obtain ⟨H02, O2, s2, d, r2, B2, X2, rd, q2, p2⟩ := z
  obtain ⟨r3, e3, p3⟩ := PostS.bind (rp := Rp X.K) (S'.ext X2) q2 p2
  refine ⟨H02, O2, sl', s2, r3, B2, S'.ext X2, e3, p3.mono fun w H3 z => ?_⟩
  obtain ⟨H03, O3, s3, ei, r4, B3, X3, ri, q3, p3⟩ := z
  have q3' : (match putIx s3 d ei y with | some s' => some (RS.nx sl' s') | none => none) = some r4 := q3
  cases hx : putIx s3 d ei y with
  | none => rw [hx] at q3'; cases q3'
  | some s4 =>
    rw [hx] at q3'
    cases q3'
    obtain ⟨a, ks, k, rfl, rfl, g1, hl, b1, b2⟩ := putIx_at B3 (X3.rp rd) ri (X3.rp (X2.rp rx)) hx
    exact ⟨a, _, rfl, .k g1 hl, p3 _ _ _ _ b1 b2 (((S'.ext X2).ext X3).ext b2)⟩
end
end PD

set_option Elab.async false
set_option linter.all false
set_option maxRecDepth 100000
set_option maxHeartbeats 4000000
/-! PD11: more calls: len and list of a dict, sorted, index, all, a sign in a text, chains, displays of dicts. -/
namespace PD
open PySem PySem.Spec PyProof.Rows L2
section
variable {X : Cx} {W : WX} {e a b c o i value : Expr} {es : List Expr} {pos pos' apos cpos p : Pos} {f g h : Sl → M D} {ha : Sl → M (List D)} {x : Str}
/-- len of a dict, too -/
def lenXO (s : Sto) : List D → Option D
  | [d] => match dcOf s d with | some kvs => some (.int kvs.length) | none => lenO s [d]
  | _ => none
theorem o_lenX : CallR X (.builtin "len") (rDn X.K lenXO) := by
  intro pins s σ H xs us Q I r h
  obtain ⟨H0, O, sto, ds, z, B, rd, hz, k⟩ := h
  unfold lenXO at hz
  split at hz
  · rename_i d
    split at hz
    · rename_i kvs hd
      cases hz
      cases rd with
      | cons r1 r2 =>
        cases r2
        obtain ⟨n, a, ks, rfl, rfl, h1, h2, h3, h4, h5⟩ := dcOf_ok B r1 hd
        exact call_lenD pins s σ H _ us Q I r ⟨a, ks, rfl, h3, by rw [kv_len h4]; exact k _ _ _ B (.refl _ _ _) (.int _)⟩
    · exact o_len pins s σ H xs us Q I r ⟨H0, O, sto, _, z, B, rd, hz, k⟩
  · cases hz
/-- list of a dict's keys, too -/
def listXO (s : Sto) : List D → Option D
  | [d] => match dcOf s d with | some kvs => some (.lst (kvs.map fun q => dK q.1)) | none => listO s [d]
  | _ => none
theorem new_lst {K : PySem.W.Frag} {H H0 : Hp} {O : List Addr} {s : Sto} (B : Base K H H0 O s) {q : Addr} (hq : H q = none) {vs : List V} {xs : List D} (r : RpAll K H0 O vs xs) :
    Base K (upd H q (.lst vs)) (upd H0 q (.lst vs)) O s ∧ Ext H H0 O (upd H q (.lst vs)) (upd H0 q (.lst vs)) O ∧ Rp K (upd H0 q (.lst vs)) O (.ref q) (.lst xs) := by
  obtain ⟨b1, b2⟩ := B.new hq (.lst vs)
  exact ⟨b1, b2, .lst upd_same (b2.rps r)⟩
theorem o_listX (hc : X.calm = true) : CallR X (.type "list") (rDn X.K listXO) := by
  intro pins s σ H xs us Q I r h
  obtain ⟨H0, O, sto, ds, z, B, rd, hz, k⟩ := h
  unfold listXO at hz
  split at hz
  · rename_i d
    split at hz
    · rename_i kvs hd
      cases hz
      cases rd with
      | cons r1 r2 =>
        cases r2
        obtain ⟨n, a, ks, rfl, rfl, h1, h2, h3, h4, h5⟩ := dcOf_ok B r1 hd
        refine call_list_dK hc pins s σ H _ us Q I r ⟨a, ks, rfl, h3, fun q hq => ?_⟩
        obtain ⟨b1, b2, b3⟩ := new_lst B hq (kv_keys h4)
        exact k _ _ _ b1 b2 b3
    · exact o_list pins s σ H xs us Q I r ⟨H0, O, sto, _, z, B, rd, hz, k⟩
  · cases hz
/-- sorted, texts -/
def leS (a b : Str) : Bool := !ltCps b.cps.toList a.cps.toList
def sortS (xs : List Str) : List Str := xs.mergeSort leS
def sortedO (s : Sto) : List D → Option D
  | [d] => match (lsOf s d).bind (fun xs => xs.mapM strD) with
    | some ys => if ys.length < 64 then some (.lst ((sortS ys).map D.str)) else none
    | none => none
  | _ => none
theorem leS_iff (a b : Str) : leS a b = true ↔ a.cps.toList ≤ b.cps.toList := by
  unfold leS
  rw [ltCps_eq, Bool.not_eq_true', decide_eq_false_iff_not]
  exact Iff.rfl
theorem leS_trans (a b c : Str) (h1 : leS a b = true) (h2 : leS b c = true) : leS a c = true := by
  rw [leS_iff] at *
  exact List.le_trans h1 h2
theorem leS_total (a b : Str) : (leS a b || leS b a) = true := by
  rw [Bool.or_eq_true, leS_iff, leS_iff]
  exact List.le_total _ _
theorem leS_anti (a b : Str) (h1 : leS a b = true) (h2 : leS b a = true) : a = b := by
  rw [leS_iff] at *
  have := List.le_antisymm h1 h2
  cases a; cases b
  simp at this
  simp [this]
theorem rising_pw : ∀ (xs : List Str) (p : Str), risingS p xs = true → (p :: xs).Pairwise (fun a b => leS a b = true)
  | [], p, _ => by simp
  | x :: r, p, h => by
    have h' : leS p x = true ∧ risingS x r = true := Bool.and_eq_true_iff.mp h
    have ih := rising_pw r x h'.2
    refine List.pairwise_cons.mpr ⟨fun y hy => ?_, ih⟩
    rcases List.mem_cons.mp hy with rfl | hy
    · exact h'.1
    · exact leS_trans _ _ _ h'.1 ((List.pairwise_cons.mp ih).1 y hy)
theorem sortS_uni {xs ys : List Str} (hp : ys.Perm xs) (hs : sortedS ys = true) : ys = sortS xs := by
  have h1 : ys.Pairwise (fun a b => leS a b = true) := by
    cases ys with
    | nil => exact .nil
    | cons y r => exact rising_pw r y hs
  have h2 : (sortS xs).Pairwise (fun a b => leS a b = true) := List.pairwise_mergeSort leS_trans leS_total xs
  exact List.Perm.eq_of_pairwise (fun a b _ _ => leS_anti a b) h1 h2 (hp.trans (List.mergeSort_perm xs leS).symm)
theorem rp_strs {K : PySem.W.Frag} {H0 : Hp} {O : List Addr} : ∀ ys : List Str, RpAll K H0 O (ys.map V.str) (ys.map D.str)
  | [] => .nil
  | y :: ys => .cons (.str y) (rp_strs ys)
theorem o_sorted : CallR X (.builtin "sorted") (rDn X.K sortedO) := by
  intro pins s σ H xs us Q I r h
  obtain ⟨H0, O, sto, ds, z, B, rd, hz, k⟩ := h
  unfold sortedO at hz
  split at hz
  · rename_i d
    split at hz
    · rename_i ys hy
      split at hz
      · rename_i hl
        cases hz
        cases rd with
        | cons r1 r2 =>
          cases r2
          cases hq : lsOf sto d with
          | none => rw [hq] at hy; cases hy
          | some zs =>
            rw [hq] at hy
            obtain ⟨a, vs, rfl, g1, g2⟩ := lsOf_ok B r1 hq
            have ev := mapStr_ok g2 hy
            subst ev
            refine cr_sortedS pins s σ H _ us Q I r ⟨a, ys, rfl, g1, hl, fun ys' q hp hs hq => ?_⟩
            rw [sortS_uni hp hs]
            obtain ⟨b1, b2, b3⟩ := new_lst B hq (rp_strs (sortS ys))
            exact k _ _ _ b1 b2 b3
      · cases hz
    · cases hz
  · cases hz
/-- all of bools -/
def blD : D → Option Bool | .bl b => some b | _ => none
theorem mapBl_ok {K : PySem.W.Frag} {H : Hp} {O : List Addr} : ∀ {xs : List D} {vs : List V} {ys : List Bool}, RpAll K H O vs xs → xs.mapM blD = some ys → vs = ys.map V.bl
  | [], _, _, .nil, h => by cases h; rfl
  | x :: xs, v :: vs, ys, .cons r t, h => by
    rw [List.mapM_cons] at h
    cases e : blD x with
    | none => rw [e] at h; cases h
    | some y =>
      rw [e] at h
      cases e2 : xs.mapM blD with
      | none => rw [e2] at h; cases h
      | some zs =>
        rw [e2] at h
        cases h
        cases x with
        | bl b => cases r; cases e; rw [mapBl_ok t e2]; rfl
        | _ => cases e
def allO (s : Sto) : List D → Option D
  | [d] => ((lsOf s d).bind fun xs => xs.mapM blD).map fun bs => .bl (bs.all id)
  | _ => none
theorem o_all (hc : X.calm = true) : CallR X (.builtin "all") (rDn X.K allO) := by
  intro pins s σ H xs us Q I r h
  obtain ⟨H0, O, sto, ds, z, B, rd, hz, k⟩ := h
  unfold allO at hz
  split at hz
  · rename_i d
    cases rd with
    | cons r1 r2 =>
      cases r2
      cases hq : lsOf sto d with
      | none => rw [hq] at hz; cases hz
      | some zs =>
        rw [hq] at hz
        have hz' : (zs.mapM blD).map (fun bs => D.bl (bs.all id)) = some z := hz
        cases hy : zs.mapM blD with
        | none => rw [hy] at hz'; cases hz'
        | some ys =>
          rw [hy] at hz'
          cases hz'
          obtain ⟨a, vs, rfl, g1, g2⟩ := lsOf_ok B r1 hq
          have ev := mapBl_ok g2 hy
          subst ev
          exact cr_all hc pins s σ H _ us Q I r ⟨a, ys, rfl, g1, k _ _ _ B (.refl _ _ _) (.bl _)⟩
  · cases hz
/-- a sign in a text -/
def insO (neg : Bool) (_ : Sto) (d e : D) : Option D := match d, e with
  | .str x, .str z => match x.cps.toList with
    | [c] => some (.bl (ng neg (decide (c ∈ z.cps.toList))))
    | _ => none
  | _, _ => none
theorem one_sign {x : Str} {c : Nat} (h : x.cps.toList = [c]) : x = ⟨#[c]⟩ := by
  cases x with
  | mk a => cases a with | mk l => simp at h; simp [h]
theorem o_ins : OpR X (compareOp .In) (rD2 X.K (insO false)) := by
  intro pins s σ H x y v u Q I rx ry h
  obtain ⟨H0, O, sto, d, e, z, B, rd, re, hz, k⟩ := h
  unfold insO at hz
  split at hz
  · split at hz
    · rename_i q1 q2 c hc
      cases hz
      cases rd
      cases re
      rw [one_sign hc] at rx
      exact op_in_sign pins s σ H _ _ v u Q I rx ry ⟨c, _, rfl, rfl, k _ _ _ B (.refl _ _ _) (.bl _)⟩
    · cases hz
  · cases hz
theorem o_notIns : OpR X (compareOp .NotIn) (rD2 X.K (insO true)) := by
  intro pins s σ H x y v u Q I rx ry h
  obtain ⟨H0, O, sto, d, e, z, B, rd, re, hz, k⟩ := h
  unfold insO at hz
  split at hz
  · split at hz
    · rename_i q1 q2 c hc
      cases hz
      cases rd
      cases re
      rw [one_sign hc] at rx
      exact op_notIn_sign pins s σ H _ _ v u Q I rx ry ⟨c, _, rfl, rfl, k _ _ _ B (.refl _ _ _) (.bl _)⟩
    · cases hz
  · cases hz
/-- a < b < c -/
def fChain (o o' : Sto → D → D → Option D) (f g h : Sl → M D) : Sl → M D := fun sl => bindM (f sl) fun x => bindM (g sl) fun y => bindM (liftO fun s => (o s x y).bind asB) fun k => if k = true then bindM (h sl) fun z => liftO fun s => o' s y z else retM (.bl false)
/-- the list is told to change no more -/
def fFrz (f : Sl → M D) : Sl → M D := fun sl => bindM (f sl) fun d s => match d with
  | .own k => match s[k]? with | some (.lst xs) => some (.ok (.lst xs) (s.set k .gone)) | _ => none
  | _ => none
theorem e_frz (he : PE X e (tE X.K X.mg W f)) : PE X e (tE X.K X.mg W (fFrz f)) := by
  refine PE.imp he fun σ H Q t => ?_
  refine tG_mono (tG_bind t) fun v H1 z => ?_
  obtain ⟨H0', O', sl', s', d, r', B', S', rd, q', p'⟩ := z
  cases d with
  | own k =>
    have q2 : (match s'[k]? with | some (.lst xs) => some (R.ok (D.lst xs) (s'.set k .gone)) | _ => none) = some r' := q'
    split at q2
    · rename_i xs hk
      cases q2
      cases rd with
      | own h1 =>
        obtain ⟨vs, g1, g2, g3⟩ := B'.cell _ _ _ h1 hk
        obtain ⟨b1, b2⟩ := B'.freeze h1 g3 g1
        exact p' _ _ _ _ b1 b2 (.lst upd_same (b2.rps g2))
    · cases q2
  | _ => cases q'
theorem t_chain {o o' : Sto → D → D → Option D} {σ : L2.St} {H : Hp} {Q : VK} (t : tE X.K X.mg W (fChain o o' f g h) σ H Q) : tChain (rD2 X.K o) (rD2 X.K o') (tE X.K X.mg W f) (tE X.K X.mg W g) (tE X.K X.mg W h) σ H Q := by
  refine tG_mono (tG_bind t) fun x H1 z => ?_
  obtain ⟨H01, O1, sl1, s1, d1, r1, B1, S1, rd1, q1, p1⟩ := z
  obtain ⟨r2, e2, p2⟩ := PostG.bind (rp := Rp X.K) q1 p1
  refine ⟨H01, O1, sl1, s1, r2, B1, S1, e2, p2.mono fun y H2 z => ?_⟩
  obtain ⟨H02, O2, s2, d2, r3, B2, X2, rd2, q2, p3⟩ := z
  cases hk : (o s2 d1 d2).bind asB with
  | none =>
    have q2' : bindM (liftO fun s => (o s d1 d2).bind asB) (fun k => if k = true then bindM (h sl1) fun z => liftO fun s => o' s d2 z else retM (.bl false)) s2 = some r3 := q2
    simp only [bindM, liftO, hk] at q2'
    cases q2'
  | some k =>
    have q2' : bindM (liftO fun s => (o s d1 d2).bind asB) (fun k => if k = true then bindM (h sl1) fun z => liftO fun s => o' s d2 z else retM (.bl false)) s2 = some r3 := q2
    simp only [bindM, liftO, hk] at q2'
    cases ho : o s2 d1 d2 with
    | none => rw [ho] at hk; cases hk
    | some zb =>
      rw [ho] at hk
      cases zb with
      | bl kb =>
        cases hk
        refine ⟨H02, O2, s2, d1, d2, .bl k, B2, X2.rp rd1, rd2, ho, fun v H3 H03 B3 X3 rv => ?_⟩
        cases rv
        refine ⟨k, rfl, ?_⟩
        cases k with
        | false =>
          simp only [Bool.false_eq_true, if_false] at q2' ⊢
          cases q2'
          exact p3 _ _ _ _ B3 X3 (.bl false)
        | true =>
          simp only [if_true] at q2' ⊢
          have q3 : bindM (h sl1) (fun z => liftO fun s => o' s d2 z) s2 = some r3 := q2'
          obtain ⟨r4, e4, p4⟩ := PostG.bind (rp := Rp X.K) (rp' := Rp X.K) q3 (p3.ext X3)
          refine ⟨H03, O2, sl1, s2, r4, B3, (S1.ext X2).ext X3, e4, p4.mono fun w H4 z => ?_⟩
          obtain ⟨H04, O4, s4, d4, r5, B4, X4, rd4, q4, p5⟩ := z
          obtain ⟨y5, hy5, rfl⟩ := PostG.one (Q := Q) q4
          exact ⟨H04, O4, s4, d2, d4, y5, B4, X4.rp (X3.rp rd2), rd4, hy5, fun v H' H0'' b x r => p5 v H' H0'' O4 b x r⟩
      | _ => cases hk
theorem e_chain {op op' : CmpOp} {o o' : Sto → D → D → Option D} (ho : OpR X (compareOp op) (rD2 X.K o)) (ho' : OpR X (compareOp op') (rD2 X.K o')) (h1 : PE X a (tE X.K X.mg W f)) (h2 : PE X b (tE X.K X.mg W g)) (h3 : PE X c (tE X.K X.mg W h))
    (hm : lastMarks [op, op'] [b, c] = false := by with_unfolding_all rfl) : PE X (.Compare a [op, op'] [b, c] pos) (tE X.K X.mg W (fChain o o' f g h)) :=
  PE.imp (pe_chain ho ho' h1 h2 h3 hm) fun _ _ _ t => t_chain t
theorem b_chain {op op' : CmpOp} {o o' : Sto → D → D → Option D} (ho : OpR X (compareOp op) (rD2 X.K o)) (ho' : OpR X (compareOp op') (rD2 X.K o')) (h1 : PE X a (tE X.K X.mg W f)) (h2 : PE X b (tE X.K X.mg W g)) (h3 : PE X c (tE X.K X.mg W h))
    (hm : lastMarks [op, op'] [b, c] = false := by with_unfolding_all rfl) : PT X (.Compare a [op, op'] [b, c] pos) (tT X.K X.mg W (fB (fChain o o' f g h))) :=
  PT.imp (pt_chain ho ho' h1 h2 h3 hm) fun _ _ _ t => t_chain (tT_fB t)
end
end PD

set_option Elab.async false
set_option linter.all false
set_option maxRecDepth 100000
set_option maxHeartbeats 4000000
/-! PD12: list.index; dict.get, dict.setdefault; displays of dicts; dict(..). -/
namespace PD
open PySem PySem.Spec PyProof.Rows L2
section
variable {X : Cx} {W : WX} {e a b c o i value : Expr} {es : List Expr} {pos pos' apos cpos p : Pos} {f g h : Sl → M D} {ha : Sl → M (List D)} {x : Str}
/-! ### a pure method with arguments -/
def fMP (T : Sto → D → Bool) (o : Sto → D → List D → Option D) (f : Sl → M D) (h : Sl → M (List D)) : Sl → M D := fun sl => bindM (f sl) fun x => bindM (liftO fun s => if T s x = true then some D.non else none) fun _ => bindM (h sl) fun xs => liftO fun s => o s x xs
def isLs (s : Sto) (d : D) : Bool := (lsOf s d).isSome
def isDc (s : Sto) (d : D) : Bool := (dcOf s d).isSome
theorem tyV_ls {K : PySem.W.Frag} {H H0 : Hp} {O : List Addr} {sto : Sto} {d : D} {v : V} (B : Base K H H0 O sto) (r : Rp K H0 O v d) (h : isLs sto d = true) : tyV K "list" v H := by
  unfold isLs at h
  cases hq : lsOf sto d with
  | none => rw [hq] at h; cases h
  | some xs =>
    obtain ⟨a, vs, rfl, g1, g2⟩ := lsOf_ok B r hq
    exact .inl ⟨rfl, vs, g1⟩
def rDM (K : PySem.W.Frag) (o : Sto → D → List D → Option D) : V → List V → Hp → VK → Prop := fun x xs H Q => ∃ H0 O sto d ds z, Base K H H0 O sto ∧ Rp K H0 O x d ∧ RpAll K H0 O xs ds ∧ o sto d ds = some z ∧ ∀ v H' H0', Base K H' H0' O sto → Ext H H0 O H' H0' O → Rp K H0' O v z → Q v H'
theorem tE_fMP {T : Sto → D → Bool} {o : Sto → D → List D → Option D} {Ty : V → Hp → Prop} (ty : ∀ {H H0 : Hp} {O : List Addr} {sto : Sto} {d : D} {v : V}, Base X.K H H0 O sto → Rp X.K H0 O v d → T sto d = true → Ty v H)
    {σ : L2.St} {H : Hp} {Q : VK} (t : tE X.K X.mg W (fMP T o f ha) σ H Q) : tE X.K X.mg W f σ H fun x H1 => Ty x H1 ∧ tA X.K X.mg W ha σ H1 fun xs H2 => rDM X.K o x xs H2 Q := by
  refine tG_mono (tG_bind t) fun v H1 z => ?_
  obtain ⟨H0', O', sl', s', x, r', B', S', rx, q', p'⟩ := z
  obtain ⟨r2, e2, p2⟩ := PostG.bind (rp := Rp X.K) q' p'
  obtain ⟨y, hy, rfl⟩ := PostG.one (β := V) (Q := fun _ _ => True) e2
  have hT : T s' x = true := by
    have hy' : (if T s' x = true then some D.non else none) = some y := hy
    split at hy'
    · assumption
    · cases hy'
  refine ⟨ty B' rx hT, ?_⟩
  obtain ⟨H02, O2, s2, xs, r3, B2, X2, _, q3, p3⟩ := p2 .non _ _ _ B' (.refl _ _ _) (by
    have hy' : (if T s' x = true then some D.non else none) = some y := hy
    rw [if_pos hT] at hy'
    cases hy'
    exact .non)
  obtain ⟨r4, e4, p4⟩ := PostG.bind (rp := RpAll X.K) q3 p3
  refine ⟨H02, O2, sl', s2, r4, B2, S'.ext X2, e4, p4.mono fun us H3 z => ?_⟩
  obtain ⟨H03, O3, s3, ds, r5, B3, X3, rs, q5, p5⟩ := z
  obtain ⟨y5, hy5, rfl⟩ := PostG.one (Q := Q) q5
  exact ⟨H03, O3, s3, x, ds, y5, B3, X3.rp (X2.rp rx), rs, hy5, fun v H' H0'' b x r => p5 v H' H0'' O3 b x r⟩
/-! ### xs.index(y) -/
def firstEq (z : PyData) : List PyData → Option Nat
  | [] => none
  | d :: ds => if PyData.eqv d z = true then some 0 else (firstEq z ds).map (· + 1)
theorem firstEq_ok {z : PyData} : ∀ {ds : List PyData} {j : Nat}, firstEq z ds = some j → (∃ d, ds[j]? = some d ∧ PyData.eqv d z = true) ∧ ∀ (m : Nat) (d : PyData), m < j → ds[m]? = some d → PyData.eqv d z = false
  | [], j, h => by cases h
  | d :: ds, j, h => by
    unfold firstEq at h
    split at h
    · rename_i e
      cases h
      exact ⟨⟨d, rfl, e⟩, fun m d' hm => absurd hm (Nat.not_lt_zero _)⟩
    · rename_i e
      cases hj : firstEq z ds with
      | none => rw [hj] at h; cases h
      | some k =>
        rw [hj] at h
        cases h
        obtain ⟨⟨d', h1, h2⟩, h3⟩ := firstEq_ok hj
        refine ⟨⟨d', h1, h2⟩, fun m d'' hm hd => ?_⟩
        cases m with
        | zero =>
          have hd' : d = d'' := Option.some.inj hd
          subst hd'
          exact Bool.eq_false_iff.mpr e
        | succ m => exact h3 m d'' (Nat.lt_of_succ_lt_succ hm) hd
def indexO (s : Sto) (d : D) : List D → Option D
  | [e] => match plainPy s d, plainPy s e with
    | some (.list ds), some z => (firstEq z ds).map fun j => .int (j : Nat)
    | _, _ => none
  | _ => none
theorem m_index (hu : X.A.units + 65 < cLine) : MtR X "list.index" (rDM X.K indexO) := by
  intro pins s σ H x xs v us Q I rx rxs h
  obtain ⟨H0, O, sto, d, ds, z, B, rd, rs, hz, k⟩ := h
  unfold indexO at hz
  split at hz
  · rename_i e'
    cases rs with
    | cons r1 r2 =>
      cases r2
      split at hz
      · rename_i ys z' hp hq
        cases hj : firstEq z' ys with
        | none => rw [hj] at hz; cases hz
        | some j =>
          rw [hj] at hz
          cases hz
          obtain ⟨a1, a2⟩ := plainPy_ok B rd hp
          obtain ⟨b1, b2⟩ := plainPy_ok B r1 hq
          obtain ⟨⟨dj, h1, h2⟩, h3⟩ := firstEq_ok hj
          cases x with
          | ref a => exact mt_indexD hu pins s σ H _ _ v us Q I rx rxs ⟨a, _, z', ys, j, dj, rfl, rfl, a1, b1, a2, b2, h1, h2, h3, k _ _ _ B (.refl _ _ _) (.int _)⟩
          | _ => cases a1
      · cases hz
  · cases hz
theorem e_index (hu : X.A.units + 65 < cLine) (ho : PE X o (tE X.K X.mg W f)) (hA : PA X (e :: es) (tA X.K X.mg W ha))
    (hbase : attributeBase o "index" X.env (eval o X.env) = eval o X.env := by rfl)
    (hfew : ((backTo cpos (starEach (e :: es) X.env)).all (fun x => !x.1) && (backToKw cpos (keywordEach [] X.env)).all (fun x => x.1.isSome)
      && decide ((e :: es).length + ([] : List Keyword).length + (if ([] : List Keyword).isEmpty then 0 else 1) < 30)) = true := by rfl) (hline : (apos.endLine == cpos.line) = true := by rfl)
    (hs : starEach (e :: es) X.env = (false, eval e X.env) :: starEach es X.env := by rfl) (hplain : (backTo cpos (starEach es X.env)).any (·.1) = false := by rfl) :
    PE X (.Call (.Attribute o "index" apos) (e :: es) [] cpos) (tE X.K X.mg W (fMP isLs indexO f ha)) :=
  PE.imp (pe_bm PySem.F.plainAttrs_list PySem.F.slot_list_index PySem.F.type_list_index (m_index hu) ho hA hbase hfew (hline := hline) (hs := hs) (hplain := hplain)) fun σ H Q t => tE_fMP (Ty := tyV X.K "list") tyV_ls t
/-! ### d.get(k, z), d.setdefault(k, z) -/
def fD2 (o : Sto → D → D → D → Option (D × Sto)) (f g h : Sl → M D) : Sl → M D := fun sl => bindM (f sl) fun x => bindM (liftO fun s => if isDc s x = true then some D.non else none) fun _ => bindM (g sl) fun y => bindM (h sl) fun z s => match o s x y z with | some (d, s') => some (.ok d s') | none => none
def getO (s : Sto) (d e z : D) : Option (D × Sto) := (dcOf s d).bind fun kvs => (kD e).map fun k => ((atD kvs k).getD z, s)
def setdO (s : Sto) (d e z : D) : Option (D × Sto) := match d with
  | .own n => match s[n]? with
    | some (.dic kvs) => match kD e with
      | some k => match atD kvs k with
        | some v => if small (kvs.length + 1) = true then some (v, s) else none
        | none => if small (kvs.length + 1) = true then some (z, s.set n (.dic (putD kvs k z))) else none
      | none => none
    | _ => none
  | _ => none
theorem isD_of {K : PySem.W.Frag} {H H0 : Hp} {O : List Addr} {sto : Sto} {d : D} {v : V} (B : Base K H H0 O sto) (r : Rp K H0 O v d) (h : isDc sto d = true) : ∃ a, v = .ref a ∧ IsD H a := by
  unfold isDc at h
  cases hq : dcOf sto d with
  | none => rw [hq] at h; cases h
  | some xs =>
    obtain ⟨n, a, ks, rfl, rfl, h1, h2, h3, h4, h5⟩ := dcOf_ok B r hq
    exact ⟨a, rfl, .inl ⟨ks, .inl h3⟩⟩
/-- what stands behind the three values -/
def rD3 (K : PySem.W.Frag) (o : Sto → D → D → D → Option (D × Sto)) : V → V → V → Hp → VK → Prop := fun x y z H Q => ∃ H0 O s d e w d' s', Base K H H0 O s ∧ Rp K H0 O x d ∧ Rp K H0 O y e ∧ Rp K H0 O z w ∧ o s d e w = some (d', s') ∧ ∀ v H' H0' O', Base K H' H0' O' s' → Ext H H0 O H' H0' O' → Rp K H0' O' v d' → Q v H'
theorem tE_fD2 {oo : Sto → D → D → D → Option (D × Sto)} {σ : L2.St} {H : Hp} {Q : VK} (t : tE X.K X.mg W (fD2 oo f g h) σ H Q) :
    tE X.K X.mg W f σ H fun x H1 => ∃ a, x = .ref a ∧ IsD H1 a ∧ tE X.K X.mg W g σ H1 fun y H2 => tE X.K X.mg W h σ H2 fun z H3 => rD3 X.K oo x y z H3 Q := by
  refine tG_mono (tG_bind t) fun v H1 z => ?_
  obtain ⟨H0', O', sl', s', x, r', B', S', rx, q', p'⟩ := z
  obtain ⟨r2, e2, p2⟩ := PostG.bind (rp := Rp X.K) q' p'
  obtain ⟨y, hy, rfl⟩ := PostG.one (β := V) (Q := fun _ _ => True) e2
  have hy' : (if isDc s' x = true then some D.non else none) = some y := hy
  have hT : isDc s' x = true := by
    split at hy'
    · assumption
    · cases hy'
  rw [if_pos hT] at hy'
  cases hy'
  obtain ⟨a, rfl, hd⟩ := isD_of B' rx hT
  refine ⟨a, rfl, hd, ?_⟩
  obtain ⟨H02, O2, s2, xs, r3, B2, X2, _, q3, p3⟩ := p2 .non _ _ _ B' (.refl _ _ _) .non
  obtain ⟨r4, e4, p4⟩ := PostG.bind (rp := Rp X.K) q3 p3
  refine ⟨H02, O2, sl', s2, r4, B2, S'.ext X2, e4, p4.mono fun us H3 z => ?_⟩
  obtain ⟨H03, O3, s3, ds, r5, B3, X3, rs, q5, p5⟩ := z
  obtain ⟨r6, e6, p6⟩ := PostG.bind (rp := Rp X.K) q5 p5
  refine ⟨H03, O3, sl', s3, r6, B3, (S'.ext X2).ext X3, e6, p6.mono fun ws H4 z => ?_⟩
  obtain ⟨H04, O4, s4, dz, r7, B4, X4, rz, q7, p7⟩ := z
  have q8 : (match oo s4 x ds dz with | some (d, s') => some (R.ok d s') | none => none) = some r7 := q7
  cases ho : oo s4 x ds dz with
  | none => rw [ho] at q8; cases q8
  | some pr =>
    obtain ⟨d', s5⟩ := pr
    rw [ho] at q8
    cases q8
    exact ⟨H04, O4, s4, x, ds, dz, d', s5, B4, X4.rp (X3.rp (X2.rp rx)), X4.rp rs, rz, ho, p7⟩
theorem e_get2 (hu : X.A.units + 1 < cLine) (ho : PE X o (tE X.K X.mg W f)) (h1 : PE X a (tE X.K X.mg W g)) (h2 : PE X b (tE X.K X.mg W h)) (m : M2 X o "get" apos a b cpos := by exact ⟨rfl, rfl, rfl, rfl⟩) :
    PE X (.Call (.Attribute o "get" apos) [a, b] [] cpos) (tE X.K X.mg W (fD2 getO f g h)) := by
  refine PE.imp (pe_dget2 hu ho h1 h2 m) fun σ H Q t => ?_
  refine tG_mono (tE_fD2 t) fun x H1 z => ?_
  obtain ⟨a, rfl, d, z⟩ := z
  refine ⟨a, rfl, d, tG_mono z fun y H2 z => tG_mono z fun w H3 z => ?_⟩
  obtain ⟨H0, O, s, d, e, w, d', s', B, rd, re, rw', ho, k⟩ := z
  unfold getO at ho
  cases hd : dcOf s d with
  | none => rw [hd] at ho; cases ho
  | some kvs =>
    rw [hd] at ho
    cases hk : kD e with
    | none => rw [hk] at ho; cases ho
    | some q =>
      rw [hk] at ho
      cases ho
      obtain ⟨n, a, ks, rfl, ea, h1, h2, h3, h4, h5⟩ := dcOf_ok B rd hd
      cases ea
      have := kD_ok re hk
      subst this
      refine ⟨valV ks q, .k h3, ?_⟩
      obtain ⟨g1, g2⟩ := kv_get q h4
      cases hv : atD kvs q with
      | none =>
        rw [g2 hv]
        rw [hv] at k
        exact k _ _ _ _ B (.refl _ _ _) rw'
      | some dv =>
        obtain ⟨v, e1, e2⟩ := g1 dv hv
        rw [e1]
        rw [hv] at k
        exact k _ _ _ _ B (.refl _ _ _) e2
theorem e_setd (ho : PE X o (tE X.K X.mg W f)) (h1 : PE X a (tE X.K X.mg W g)) (h2 : PE X b (tE X.K X.mg W h)) (m : M2 X o "setdefault" apos a b cpos := by exact ⟨rfl, rfl, rfl, rfl⟩) :
    PE X (.Call (.Attribute o "setdefault" apos) [a, b] [] cpos) (tE X.K X.mg W (fD2 setdO f g h)) := by
  refine PE.imp (pe_dsetd ho h1 h2 m) fun σ H Q t => ?_
  refine tG_mono (tE_fD2 t) fun x H1 z => ?_
  obtain ⟨a, rfl, d, z⟩ := z
  refine ⟨a, rfl, d, tG_mono z fun y H2 z => tG_mono z fun w H3 z => ?_⟩
  obtain ⟨H0, O, s, d, e, w, d', s', B, rd, re, rw', ho, k⟩ := z
  unfold setdO at ho
  split at ho
  · rename_i n
    split at ho
    · rename_i kvs hn
      split at ho
      · rename_i q hk
        cases rd with
        | own hO =>
          obtain ⟨ks, g1, g2, g3⟩ := B.cell _ _ _ hO hn
          have := kD_ok re hk
          subst this
          obtain ⟨p1, p2⟩ := kv_get q g2
          split at ho
          · rename_i v hv
            split at ho
            · rename_i hs
              cases ho
              obtain ⟨v', e1, e2⟩ := p1 _ hv
              have hl : ks.length < sizeLine := by
                have := small_ok hs
                have := kv_len g2
                omega
              refine ⟨ks, q, g1, rfl, hl, fun u hu => ?_, fun hu => ?_⟩
              · rw [e1] at hu
                cases hu
                exact k _ _ _ _ B (.refl _ _ _) e2
              · rw [e1] at hu; cases hu
            · cases ho
          · rename_i hv
            split at ho
            · rename_i hs
              cases ho
              have hl : ks.length < sizeLine := by
                have := small_ok hs
                have := kv_len g2
                omega
              have en := p2 hv
              refine ⟨ks, q, g1, rfl, hl, fun u hu => ?_, fun hu => ?_⟩
              · rw [en] at hu; cases hu
              · obtain ⟨b1, b2⟩ := B.write (o := .dK (putK ks q _)) (c := .dic (putD kvs q _)) hO g3 ⟨_, upd_same, kv_put q g2 rw', g3⟩
                exact k _ _ _ _ b1 b2 (b2.rp rw')
            · cases ho
      · cases ho
    · cases ho
  · cases ho
/-! ### dict(d), dict(pairs): a new one -/
def fNM (o : Sto → List D → Option (D × Sto)) (h : Sl → M (List D)) : Sl → M D := fun sl => bindM (h sl) fun xs s => match o s xs with | some (d, s') => some (.ok d s') | none => none
def rDN (K : PySem.W.Frag) (o : Sto → List D → Option (D × Sto)) : List V → Hp → VK → Prop := fun xs H Q => ∃ H0 O s ds d' s', Base K H H0 O s ∧ RpAll K H0 O xs ds ∧ o s ds = some (d', s') ∧ ∀ v H' H0' O', Base K H' H0' O' s' → Ext H H0 O H' H0' O' → Rp K H0' O' v d' → Q v H'
theorem tE_fNM {oo : Sto → List D → Option (D × Sto)} {σ : L2.St} {H : Hp} {Q : VK} (t : tE X.K X.mg W (fNM oo ha) σ H Q) : tA X.K X.mg W ha σ H fun xs H1 => rDN X.K oo xs H1 Q := by
  refine tG_mono (tG_bind t) fun v H1 z => ?_
  obtain ⟨H0', O', sl', s', x, r', B', S', rx, q', p'⟩ := z
  have q8 : (match oo s' x with | some (d, s') => some (R.ok d s') | none => none) = some r' := q'
  cases ho : oo s' x with
  | none => rw [ho] at q8; cases q8
  | some pr =>
    obtain ⟨d', s5⟩ := pr
    rw [ho] at q8
    cases q8
    exact ⟨H0', O', s', x, d', s5, B', rx, ho, p'⟩
def prD : D → Option (Key × D) | .tup [k, d] => (kD k).map fun q => (q, d) | .par [k, d] => (kD k).map fun q => (q, d) | _ => none
def mergeD (kvs more : List (Key × D)) : List (Key × D) := more.foldl (fun acc q => putD acc q.1 q.2) kvs
theorem kv_merge {K : PySem.W.Frag} {H0 : Hp} {O : List Addr} : ∀ {more : List (Key × V)} {more' : List (Key × D)} {ks : List (Key × V)} {kvs : List (Key × D)}, KvR K H0 O more more' → KvR K H0 O ks kvs → KvR K H0 O (mergeK ks more) (mergeD kvs more')
  | [], _, _, _, .nil, r => r
  | p :: more, q :: more', ks, kvs, .cons h t, r => by
    have := kv_put p.1 r h.2
    have e : KvR K H0 O (putK ks p.1 p.2) (putD kvs q.1 q.2) := by
      have h1 : p.1 = q.1 := h.1
      rw [← h1]
      exact this
    show KvR K H0 O (mergeK (putK ks p.1 p.2) more) (mergeD (putD kvs q.1 q.2) more')
    exact kv_merge t e
theorem pairs_at {K : PySem.W.Frag} {H H0 : Hp} {O : List Addr} (sub : Same H0 H) : ∀ {xs : List D} {vs : List V} {kvs : List (Key × D)}, RpAll K H0 O vs xs → xs.mapM prD = some kvs →
    ∃ (ps : List Addr) (ks : List (Key × V)), vs = ps.map V.ref ∧ Paired (fun p kv => SqT K H p [kV kv.1, kv.2]) ps ks ∧ KvR K H0 O ks kvs
  | [], _, _, .nil, h => by cases h; exact ⟨[], [], rfl, .nil, .nil⟩
  | x :: xs, v :: vs, kvs, .cons r t, h => by
    rw [List.mapM_cons] at h
    cases e : prD x with
    | none => rw [e] at h; cases h
    | some y =>
      rw [e] at h
      cases e2 : xs.mapM prD with
      | none => rw [e2] at h; cases h
      | some zs =>
        rw [e2] at h
        cases h
        obtain ⟨ps, ks, rfl, h1, h2⟩ := pairs_at sub t e2
        unfold prD at e
        split at e
        · rename_i k d
          cases hk : kD k with
          | none => rw [hk] at e; cases e
          | some q =>
            rw [hk] at e
            cases e
            cases r with
            | tup q1 q2 =>
              cases q2 with
              | cons r1 r2 =>
                cases r2 with
                | cons r3 r4 =>
                  cases r4
                  have := kD_ok r1 hk
                  subst this
                  exact ⟨_ :: ps, (q, _) :: ks, rfl, .cons (sameNT sub q1) h1, .cons ⟨rfl, r3⟩ h2⟩
        · rename_i k d
          cases hk : kD k with
          | none => rw [hk] at e; cases e
          | some q =>
            rw [hk] at e
            cases e
            cases r with
            | par q1 q2 =>
              cases q2 with
              | cons r1 r2 =>
                cases r2 with
                | cons r3 r4 =>
                  cases r4
                  have := kD_ok r1 hk
                  subst this
                  exact ⟨_ :: ps, (q, _) :: ks, rfl, .cons (sameT sub q1) h1, .cons ⟨rfl, r3⟩ h2⟩
        · cases e
def prsOf (s : Sto) : D → Option (List D) | .tup xs => some xs | d => lsOf s d
def dictO (s : Sto) : List D → Option (D × Sto)
  | [d] => match dcOf s d with
    | some kvs => some (.own s.length, s ++ [.dic kvs])
    | none => match (prsOf s d).bind fun xs => xs.mapM prD with
      | some kvs => some (.own s.length, s ++ [.dic (mergeD [] kvs)])
      | none => none
  | _ => none
theorem o_dict (hc : X.calm = true) : CallR X (.type "dict") (rDN X.K dictO) := by
  intro pins s σ H xs us Q I r h
  obtain ⟨H0, O, sto, ds, d', s', B, rd, hz, k⟩ := h
  unfold dictO at hz
  split at hz
  · rename_i d
    cases rd with
    | cons r1 r2 =>
      cases r2
      split at hz
      · rename_i kvs hd
        cases hz
        obtain ⟨n, a, ks, rfl, rfl, h1, h2, h3, h4, h5⟩ := dcOf_ok B r1 hd
        refine call_dictD pins s σ H _ us Q I r ⟨a, ks, rfl, .inl h3, fun q hq => ?_⟩
        obtain ⟨b1, b2, b3⟩ := own_newD B hq h4
        exact k _ _ _ _ b1 b2 b3
      · split at hz
        · rename_i kvs hk
          cases hz
          by_cases ht : ∃ xs, d = .tup xs
          · obtain ⟨xs, rfl⟩ := ht
            cases r1 with
            | tup g1 g2 =>
              obtain ⟨ps, ks, rfl, h1, h2⟩ := pairs_at B.sub g2 hk
              refine call_dictT hc pins s σ H _ us Q I r ⟨_, ps, ks, rfl, sameN B.sub g1, h1, fun q hq => ?_⟩
              obtain ⟨b1, b2, b3⟩ := own_newD B hq (kv_merge h2 .nil)
              exact k _ _ _ _ b1 b2 b3
          have hpl : prsOf sto d = lsOf sto d := by
            cases d <;> first | rfl | exact absurd ⟨_, rfl⟩ ht
          rw [hpl] at hk
          cases hq : lsOf sto d with
          | none => rw [hq] at hk; cases hk
          | some zs =>
            rw [hq] at hk
            obtain ⟨a, vs, rfl, g1, g2⟩ := lsOf_ok B r1 hq
            obtain ⟨ps, ks, rfl, h1, h2⟩ := pairs_at B.sub g2 hk
            refine call_dictP hc pins s σ H _ us Q I r ⟨a, ps, ks, rfl, g1, h1, fun q hq => ?_⟩
            obtain ⟨b1, b2, b3⟩ := own_newD B hq (kv_merge h2 .nil)
            exact k _ _ _ _ b1 b2 b3
        · cases hz
  · cases hz
theorem e_dict (hc : X.calm = true) (hg : Gl X "dict") (hm : X.mg "dict" = none) (hA : PA X (e :: es) (tA X.K X.mg W ha))
    (he : starEach (e :: es) X.env = (false, eval e X.env) :: starEach es X.env := by rfl) (hpl : (backTo pos (starEach es X.env)).any (·.1) = false := by rfl) : PE X (.Call (.Name "dict" p) (e :: es) [] pos) (tE X.K X.mg W (fNM dictO ha)) :=
  PE.imp (pe_callTy (o_dict hc) hg hm (by decide +kernel) hA (by decide) (by decide) he hpl) fun _ _ _ t => tE_fNM t
end
end PD

set_option Elab.async false
set_option linter.all false
set_option maxRecDepth 100000
set_option maxHeartbeats 4000000
/-! PD13: displays of dicts with pairs. -/
namespace PD
open PySem PySem.Spec PyProof.Rows L2
theorem u1 {k : Nat} {A : Around} (r : Room k A) : A.units + 1 < cLine := by have := r.un; omega
abbrev Prs := List ((Sl → M D) × (Sl → M D))
def fPairs : Prs → Sl → M (List (D × D))
  | [], _ => retM []
  | (k, v) :: r, sl => bindM (k sl) fun x => bindM (v sl) fun y => bindM (fPairs r sl) fun ps => retM ((x, y) :: ps)
def keyed : List (D × D) → Option (List (Key × D))
  | [] => some []
  | (x, y) :: r => (kD x).bind fun k => (keyed r).map fun q => (k, y) :: q
def fDisp (fs : Prs) : Sl → M D := fun sl s => match fPairs fs sl (s ++ [.dic []]) with
  | some (.ok ps s') => match s'[s.length]? with
    | some (.dic []) => match keyed ps with
      | some kvs => if kvs.length ≤ 15 then some (.ok (.own s.length) (s'.set s.length (.dic (mergeD [] kvs)))) else none
      | none => none
    | _ => none
  | _ => none
section
variable {X : Cx} {W : WX} {pos : Pos}
structure PPd (X : Cx) (W : WX) (pos : Pos) (keys : List (Option Expr)) (values : List Expr) (fs : Prs) : Prop where
  pp : PPs X pos keys values (fs.map fun f => (tE X.K X.mg W f.1, tE X.K X.mg W f.2))
  all : keys.all (·.isSome) = true
  len : keys.length = values.length
  n : keys.length = fs.length
theorem pp_nil : PPd X W pos [] [] [] := ⟨pps_nil, rfl, rfl, rfl⟩
theorem pp_cons {k v : Expr} {f g : Sl → M D} {ks : List (Option Expr)} {vs : List Expr} {fs : Prs} (hk : PE X k (tE X.K X.mg W f)) (hv : PE X v (tE X.K X.mg W g)) (r : PPd X W pos ks vs fs) : PPd X W pos (some k :: ks) (v :: vs) ((f, g) :: fs) :=
  ⟨pps_cons hk hv r.pp, by rw [List.all_cons, r.all]; rfl, by rw [List.length_cons, List.length_cons, r.len], by rw [List.length_cons, List.length_cons, r.n]⟩
def RpPs (K : PySem.W.Frag) (H0 : Hp) (O : List Addr) : List (V × V) → List (D × D) → Prop := Paired fun p q => Rp K H0 O p.1 q.1 ∧ Rp K H0 O p.2 q.2
theorem rpPs_ext {K : PySem.W.Frag} {H H0 H' H0' : Hp} {O O' : List Addr} {ps : List (V × V)} {qs : List (D × D)} (e : Ext H H0 O H' H0' O') (r : RpPs K H0 O ps qs) : RpPs K H0' O' ps qs := by
  unfold RpPs at *
  induction r with
  | nil => exact .nil
  | cons h _ ih => exact .cons ⟨e.rp h.1, e.rp h.2⟩ ih
theorem tPairs_of {σ : L2.St} : ∀ (fs : Prs) {H : Hp} {Q : List (V × V) → Hp → Prop}, tG X.K X.mg W (fun H0 O ps qs => RpPs X.K H0 O ps qs) (fPairs fs) σ H Q → tPairs (fs.map fun f => (tE X.K X.mg W f.1, tE X.K X.mg W f.2)) σ H Q
  | [], H, Q, t => by
    obtain ⟨H0, O, sl, s, r, B, S, e, q⟩ := tG_of t
    have e' : some (R.ok ([] : List (D × D)) s) = some r := e
    cases e'
    exact q _ _ _ _ B (.refl _ _ _) .nil
  | (f, g) :: fs, H, Q, t => by
    show tE X.K X.mg W f σ H fun x H1 => tE X.K X.mg W g σ H1 fun y H2 => tPairs (fs.map fun f => (tE X.K X.mg W f.1, tE X.K X.mg W f.2)) σ H2 fun ps H3 => Q ((x, y) :: ps) H3
    refine tG_mono (tG_bind (k := fun sl x => bindM (g sl) fun y => bindM (fPairs fs sl) fun ps => retM ((x, y) :: ps)) t) fun x H1 z => ?_
    obtain ⟨H01, O1, sl1, s1, d1, r1, B1, S1, rd1, q1, p1⟩ := z
    obtain ⟨r2, e2, p2⟩ := PostG.bind (rp := Rp X.K) q1 p1
    refine ⟨H01, O1, sl1, s1, r2, B1, S1, e2, p2.mono fun y H2 z => ?_⟩
    obtain ⟨H02, O2, s2, d2, r3, B2, X2, rd2, q2, p3⟩ := z
    obtain ⟨r4, e4, p4⟩ := PostG.bind (rp := fun H0 O ps qs => RpPs X.K H0 O ps qs) q2 p3
    refine tPairs_of fs ⟨H02, O2, sl1, s2, r4, B2, S1.ext X2, e4, p4.mono fun ps H3 z => ?_⟩
    obtain ⟨H03, O3, s3, qs, r5, B3, X3, rq, q5, p5⟩ := z
    have q6 : some (R.ok ((d1, d2) :: qs) s3) = some r5 := q5
    cases q6
    exact p5 _ _ _ _ B3 (.refl _ _ _) (.cons ⟨X3.rp (X2.rp rd1), X3.rp rd2⟩ rq)
theorem keyed_ok {K : PySem.W.Frag} {H0 : Hp} {O : List Addr} : ∀ {ps : List (V × V)} {qs : List (D × D)} {kvs : List (Key × D)}, RpPs K H0 O ps qs → keyed qs = some kvs → ∃ ks : List (Key × V), ps = ks.map (fun kv => (kV kv.1, kv.2)) ∧ KvR K H0 O ks kvs
  | [], _, kvs, .nil, h => by cases h; exact ⟨[], rfl, .nil⟩
  | p :: ps, q :: qs, kvs, .cons r t, h => by
    obtain ⟨x, y⟩ := q
    unfold keyed at h
    cases hk : kD x with
    | none => rw [hk] at h; cases h
    | some k =>
      rw [hk] at h
      have h' : (keyed qs).map (fun q => (k, y) :: q) = some kvs := h
      cases hq : keyed qs with
      | none => rw [hq] at h'; cases h'
      | some zs =>
        rw [hq] at h'
        cases h'
        obtain ⟨ks, rfl, h2⟩ := keyed_ok t hq
        have := kD_ok r.1 hk
        refine ⟨(k, p.2) :: ks, ?_, .cons ⟨rfl, r.2⟩ h2⟩
        rw [List.map_cons, ← this]
theorem e_disp {keys : List (Option Expr)} {values : List Expr} {fs : Prs} (h : PPd X W pos keys values fs) (h0 : keys ≠ [] := by exact fun z => nomatch z) (h15 : keys.length ≤ 15 := by decide) : PE X (.Dict keys values pos) (tE X.K X.mg W (fDisp fs)) := by
  refine PE.imp (pe_disp h.pp h.all h.len h0 h15) fun σ H Q t p hp => ?_
  obtain ⟨H0, O, sl, s, r, B, S, e, q⟩ := tG_of t
  obtain ⟨b1, b2, b3⟩ := own_newD B hp (ks := []) (kvs := []) .nil
  have e' : fDisp fs sl s = some r := e
  unfold fDisp at e'
  split at e'
  · rename_i ps s' he
    split at e'
    · rename_i hs
      split at e'
      · rename_i kvs hk
        split at e'
        · rename_i hl
          cases e'
          refine tPairs_of fs ⟨H0, O ++ [p], sl, s ++ [.dic []], _, b1, S.ext b2, he, ?_⟩
          show ∀ b H' H0' O', Base X.K H' H0' O' s' → Ext _ _ _ H' H0' O' → RpPs X.K H0' O' b ps → _
          intro vs H' H0' O' B' E' rv
          obtain ⟨ks, rfl, h2⟩ := keyed_ok rv hk
          have hO : O'[s.length]? = some p := E'.o.get (by rw [← B.len, List.getElem?_append_right (Nat.le_refl _), Nat.sub_self]; rfl)
          obtain ⟨ks0, g1, g2, g3⟩ := B'.cell _ _ _ hO hs
          cases g2
          refine ⟨g1, ks, rfl, by rw [kv_len h2]; exact hl, ?_⟩
          obtain ⟨c1, c2⟩ := B'.write (o := .dK (mergeK [] ks)) (c := .dic (mergeD [] kvs)) hO g3 ⟨_, upd_same, kv_merge h2 .nil, g3⟩
          exact q _ _ _ _ c1 ((b2.trans E').trans c2) (.own hO)
        · cases e'
      · cases e'
    · cases e'
  · cases e'
end
end PD

set_option Elab.async false
set_option linter.all false
set_option maxRecDepth 100000
set_option maxHeartbeats 4000000
/-! PD14: walks over texts. -/
namespace PD
open PySem PySem.Spec PyProof.Rows L2
def signsD (x : Str) : List D := x.cps.toList.map fun c => .str ⟨#[c]⟩
theorem walkD_str {K : PySem.W.Frag} {H0 : Hp} {O : List Addr} (x : Str) : WalkD K (Its x) H0 O (signsD x, none) := by
  have hl : (signsD x).length = x.cps.size := by unfold signsD; rw [List.length_map, Array.length_toList]
  refine ⟨fun i H H0' O' s hi B e p _ => by rw [hl] at hi; exact hi, fun H H0' O' s B e p _ => by show x.cps.size ≤ (signsD x).length; rw [hl]; exact Nat.le_refl _, fun i H H0' O' s v H' hi B e p _ y => ?_⟩
  obtain ⟨rfl, c, hc, rfl⟩ := y
  refine ⟨H0', .str ⟨#[c]⟩, B, .refl _ _ _, ?_, .str _⟩
  show (signsD x)[i]? = _
  unfold signsD
  rw [List.getElem?_map, Array.getElem?_toList, hc]
  rfl
def strIt (d : D) : Option Src := match d with | .str x => some (signsD x, none) | _ => none
def fItS (f : Sl → M D) : Sl → M Src := fun sl => bindM (f sl) fun d => liftO fun _ => strIt d
section
variable {X : Cx} {W : WX} {tg e : Expr} {f : Sl → M D}
theorem i_str (he : PE X e (tE X.K X.mg W f)) : PI X tg e (tI X.K X.mg W (fItS f)) := by
  refine ⟨fun pins s σ H R I t => ?_⟩
  refine (pi_str he).run pins s σ H R I ?_
  refine tG_mono (tG_bind t) fun v H1 z => ?_
  obtain ⟨H0', O', sl', s', x, r', B', S', rx, q', p'⟩ := z
  obtain ⟨y, hy, rfl⟩ := PostG.one (β := It) (Q := R) q'
  unfold strIt at hy
  split at hy
  · cases hy
    cases rx
    exact ⟨_, rfl, post_ok p' B' (walkD_str _)⟩
  · cases hy
end
end PD

set_option Elab.async false
set_option linter.all false
set_option maxRecDepth 100000
set_option maxHeartbeats 4000000
/-! PD15: raise. -/
namespace PD
open PySem PySem.Spec PyProof.Rows L2
def raiseS (c : Str) : SD := fun sl s => some (.ex c sl s)
section
variable {X : Cx} {W : WX} {e : Expr} {pos : Pos} {x : Str} {C : Addr}
theorem d_raise (hc : X.calm = true) (tk : L2.Takes X W) (gC : X.mg x = some (.ref C)) (pm : PMk X e (fun _ H Q => Q (.ref C) none H)) : PS X (.Raise (some e) none pos) (tS X.K X.mg W (raiseS x)) := by
  refine PS.imp (ps_raise hc tk pm) fun D σ H t => ?_
  obtain ⟨H0, O, sl, s, r, B, S, q, p⟩ := t
  have q' : some (RS.ex x sl s) = some r := q
  cases q'
  exact p (.ref C) none σ H H0 O gC B (.refl _ _ _) S
end
end PD

set_option Elab.async false
set_option linter.all false
set_option maxRecDepth 100000
set_option maxHeartbeats 4000000
/-! PD16: module constants, is of bools, further methods of lists, all(..) of a generator expression over a text. -/
namespace PD
open PySem PySem.Spec PyProof.Rows L2
section
variable {X : Cx} {W : WX} {e a b c o : Expr} {es : List Expr} {x : Str} {p pos apos cpos : Pos} {f g : Sl → M D} {h : Sl → M (List D)} {id T : String}
theorem e_glob {n : Int} (hg : Gl X x) (hm : ∃ t, X.mg x = some (.int n t)) (hd : (x == ("__debug__" : Str)) = false := by decide) : PE X (.Name x pos) (tE X.K X.mg W (fC (.int n))) :=
  let ⟨t, ht⟩ := hm
  e_const (pe_glob hg ht (v := .int n) ⟨t, rfl⟩ hd) fun _ _ => .int n
/-- is True, is not True -/
def isBO (neg : Bool) (_ : Sto) : D → D → Option D
  | .bl a, .bl b => some (.bl (ng neg (decide (a = b))))
  | _, _ => none
theorem o_isB : OpR X (compareOp .Is) (rD2 X.K (isBO false)) := by
  intro pins s σ H x y v u Q I rx ry h
  obtain ⟨H0, O, sto, d, e, z, B, rd, re, hz, k⟩ := h
  unfold isBO at hz
  split at hz
  · cases hz; cases rd; cases re
    exact op_isBl pins s σ H _ _ v u Q I rx ry ⟨_, _, rfl, rfl, k _ _ _ B (.refl _ _ _) (.bl _)⟩
  · cases hz
theorem o_isNotB : OpR X (compareOp .IsNot) (rD2 X.K (isBO true)) := by
  intro pins s σ H x y v u Q I rx ry h
  obtain ⟨H0, O, sto, d, e, z, B, rd, re, hz, k⟩ := h
  unfold isBO at hz
  split at hz
  · cases hz; cases rd; cases re
    exact op_notBl pins s σ H _ _ v u Q I rx ry ⟨_, _, rfl, rfl, k _ _ _ B (.refl _ _ _) (.bl _)⟩
  · cases hz
/-! ### methods of lists -/
/-- a method of lists with arguments -/
theorem e_lm {name : Str} {rr : V → List V → Hp → VK → Prop} {m : D → List D → M D} (slot : Slot "list" name id) (hty : typeOf (.builtin id) = pure (.type "method_descriptor")) (hm : MtR X id rr)
    (sound : ∀ {H H0 : Hp} {O : List Addr} {s : Sto} {d : D} {v : V} {ds : List D} {us : List V} {Q : VK} {E : XK} {r : R D}, Base X.K H H0 O s → Rp X.K H0 O v d → RpAll X.K H0 O us ds → m d ds s = some r → PostG X.K X.mg (Rp X.K) H H0 O Q E r → rr v us H Q)
    (ho : PE X o (tE X.K X.mg W f)) (ha : PA X (e :: es) (tA X.K X.mg W h))
    (hbase : attributeBase o name X.env (eval o X.env) = eval o X.env := by rfl)
    (hfew : ((backTo pos (starEach (e :: es) X.env)).all (fun x => !x.1) && (backToKw pos (keywordEach [] X.env)).all (fun x => x.1.isSome)
      && decide ((e :: es).length + ([] : List Keyword).length + (if ([] : List Keyword).isEmpty then 0 else 1) < 30)) = true := by rfl) (hline : (apos.endLine == pos.line) = true := by rfl)
    (hs : starEach (e :: es) X.env = (false, eval e X.env) :: starEach es X.env := by rfl) (hplain : (backTo pos (starEach es X.env)).any (·.1) = false := by rfl) :
    PE X (.Call (.Attribute o name apos) (e :: es) [] pos) (tE X.K X.mg W (fM1 m f h)) := by
  refine PE.imp (pe_bm PySem.F.plainAttrs_list slot hty hm ho ha hbase hfew (hline := hline) (hs := hs) (hplain := hplain)) fun σ H Q t => ?_
  refine tG_mono (tG_bind t) fun v H1 z => ?_
  obtain ⟨H0', O', sl', s', x, r', B', S', rx, q', p'⟩ := z
  obtain ⟨r2, e2, p2⟩ := PostG.bind (rp := Rp X.K) q' p'
  obtain ⟨y, hy, rfl⟩ := PostG.one (β := V) (Q := fun _ _ => True) e2
  refine ⟨tyV_of B' rx hy, ?_⟩
  obtain ⟨H02, O2, s2, xs, r3, B2, X2, _, q3, p3⟩ := p2 .non _ _ _ B' (.refl _ _ _) (by
    cases hq : lsOf s' x with
    | none => rw [hq] at hy; cases hy
    | some _ => rw [hq] at hy; cases hy; exact .non)
  obtain ⟨r4, e4, p4⟩ := PostG.bind (rp := RpAll X.K) q3 p3
  refine ⟨H02, O2, sl', s2, r4, B2, S'.ext X2, e4, p4.mono fun us H3 z => ?_⟩
  obtain ⟨H03, O3, s3, ds, r5, B3, X3, rs, q5, p5⟩ := z
  exact sound B3 (X3.rp (X2.rp rx)) rs q5 p5
def extendM (d : D) (ds : List D) : M D := fun s => match d, ds with
  | .own k, [y] => match s[k]? with
    | some (.lst xs) => match rawOf s y with
      | some ys => if small (xs.length + ys.length) = true then some (.ok .non (s.set k (.lst (xs ++ ys)))) else none
      | none => none
    | _ => none
  | _, _ => none
theorem e_extend (ho : PE X o (tE X.K X.mg W f)) (ha : PA X (e :: es) (tA X.K X.mg W h))
    (hbase : attributeBase o "extend" X.env (eval o X.env) = eval o X.env := by rfl)
    (hfew : ((backTo pos (starEach (e :: es) X.env)).all (fun x => !x.1) && (backToKw pos (keywordEach [] X.env)).all (fun x => x.1.isSome)
      && decide ((e :: es).length + ([] : List Keyword).length + (if ([] : List Keyword).isEmpty then 0 else 1) < 30)) = true := by rfl) (hline : (apos.endLine == pos.line) = true := by rfl)
    (hs : starEach (e :: es) X.env = (false, eval e X.env) :: starEach es X.env := by rfl) (hplain : (backTo pos (starEach es X.env)).any (·.1) = false := by rfl) :
    PE X (.Call (.Attribute o "extend" apos) (e :: es) [] pos) (tE X.K X.mg W (fM1 extendM f h)) := by
  refine e_lm PySem.F.slot_list_extend PySem.F.type_list_extend mt_extend (fun {H H0 O s d v ds us Q E r} B rd rs hm pp => ?_) ho ha hbase hfew hline hs hplain
  unfold extendM at hm
  split at hm
  · rename_i k y
    split at hm
    · rename_i xs hk
      split at hm
      · rename_i ys hy
        split at hm
        · rename_i hsm
          cases hm
          cases rd with
          | own h1 =>
            rename_i a
            obtain ⟨vs, g1, g2, g3⟩ := B.cell k _ _ h1 hk
            cases rs with
            | cons ry rn =>
              cases rn
              obtain ⟨b, ws, rfl, w1, w2⟩ := rawOf_ok B ry hy
              obtain ⟨b1, b2⟩ := B.write (o := .lst (vs ++ ws)) (c := .lst (xs ++ ys)) h1 g3 ⟨_, upd_same, g2.append w2, g3⟩
              exact ⟨a, b, vs, ws, rfl, rfl, g1, w1, by rw [g2.length, w2.length]; exact small_ok hsm, pp _ _ _ _ b1 b2 .non⟩
        · cases hm
      · cases hm
    · cases hm
  · cases hm
/-! ### all(test for c in text) -/
theorem Base.tabbed {K : PySem.W.Frag} {H H2 H0 : Hp} {O : List Addr} {s : Sto} {k : Nat} {P : Addr} {y : Str} (B : Base K H H0 O s) (hk : O[k]? = some P) (hc : s[k]? = some (.tab y)) (t : GxR.Tabbed P H H2) : Base K H2 H0 O s ∧ Ext H H0 O H2 H0 O := by
  obtain ⟨⟨ps, t1, t2⟩, t3⟩ := t
  obtain ⟨c1, c2, c3⟩ := B.cell k P _ hk hc
  refine ⟨⟨fun b u e => ?_, B.nd, B.len, fun a ha => ?_, fun j a c h1 h2 => ?_⟩, ⟨.refl _, .refl _, fun _ h => .inl h, fun a u h hn => ?_, fun a h => ?_, fun _ h => .inl h⟩⟩
  · rw [t3 b (ne_of_none e c3)]; exact B.sub _ _ e
  · by_cases e : a = P
    · subst e; rw [t1]; simp
    · rw [t3 a e]; exact B.live a ha
  · by_cases e : a = P
    · subst e
      have := get_inj B.nd h1 hk
      subst this
      rw [hc] at h2
      cases h2
      exact ⟨c1, ⟨ps, t1, t2⟩, c3⟩
    · have q := B.cell j a c h1 h2
      by_cases hg : c = .gone
      · subst hg; trivial
      · exact q.mono (.refl _) (fun _ _ h => h) (t3 a e) (q.none hg)
  · rw [t3 a (fun e => hn (by subst e; exact get_mem hk))]; exact h
  · by_cases e : a = P
    · subst e; rw [t1]; simp
    · rw [t3 a e]; exact h
theorem genS_of {env : Env} {scope : Scope} {x : Str} (kind : scope.kind = .function) (co : scope.isCoroutine = false) (cell : ∀ y ∈ scope.names, y.2 ≠ .cell) (dot : scope.names.lookup (".0" : Str) = some NameKind.local) (loc : scope.names.lookup x = some .local) (free : ∀ y ∈ scope.names, y.2 ≠ .free) : GxR.GenS env scope x :=
  ⟨kind, co, cell, dot, loc, fun y hy hf => absurd hf (free y hy)⟩
def HasTab (s : Sto) (x : Str) : Prop := ∃ k : Nat, s[k]? = some (Cell.tab x)
noncomputable instance (s : Sto) (x : Str) : Decidable (HasTab s x) := Classical.propDecidable _
/-- the def x is being walked, its code's table is known -/
structure TabAt (X : Cx) (x : Str) : Prop where
  ex : ∃ c P, GxR.TabB X.base X.mg c P ∧ X.env.code = .ref c ∧ TabIs X.K x P
noncomputable def fAllS (y : Str) (pb : Nat → Bool) (f : Sl → M D) : Sl → M D := fun sl => bindM (f sl) fun d => liftO fun s => match d with
  | .str z => if HasTab s y then some (.bl (z.cps.toList.all pb)) else none
  | _ => none
theorem e_allS {elt iter : Expr} {y z : Str} {px gpos : Pos} {scope : Scope} {pb : Nat → Bool} {k : Nat} (hr : Room k X.A) (hg : Gl X "all") (hm : X.mg "all" = none) (T : TabAt X y) (S : GxR.GenS X.env scope z) (hel : GxR.EltP X.prog X.w scope z elt pb) (hi : PE X iter (tE X.K X.mg W f))
    (hb : bootBuiltins "all" = some (.builtin "all") := by decide +kernel) (hs : ∀ v, genFold iter X.env v = pure v := by intro _; rfl)
    (he : starEach [.GeneratorExp elt [⟨.Name z px, iter, [], 0⟩] scope gpos] X.env = (false, eval (.GeneratorExp elt [⟨.Name z px, iter, [], 0⟩] scope gpos) X.env) :: starEach [] X.env := by rfl) :
    PE X (.Call (.Name "all" p) [.GeneratorExp elt [⟨.Name z px, iter, [], 0⟩] scope gpos] [] pos) (tE X.K X.mg W (fAllS y pb f)) := by
  obtain ⟨c, P, TB, hcode, hT⟩ := T.ex
  refine PE.imp (GxR.pe_allS hr hg hm hb TB hcode S hi hel hs he) fun σ H Q t => ?_
  refine tG_mono (tG_bind t) fun v H1 z => ?_
  obtain ⟨H0', O', sl', s', d, r', B', S', rd, q', p'⟩ := z
  obtain ⟨u, hu, rfl⟩ := PostG.one (Q := Q) q'
  cases d with
  | str w =>
    cases rd
    have hu' : (if HasTab s' y then some (D.bl (w.cps.toList.all pb)) else none) = some u := hu
    split at hu'
    · rename_i hx
      cases hu'
      obtain ⟨j, hj⟩ := hx
      have hjO : j < O'.length := by rw [B'.len]; exact (List.getElem?_eq_some_iff.mp hj).1
      obtain ⟨c1, c2, c3⟩ := B'.cell j _ _ (List.getElem?_eq_getElem hjO) hj
      have e := c1.uni hT
      have hO : O'[j]? = some P := by rw [← e]; exact List.getElem?_eq_getElem hjO
      rw [e] at c2
      refine ⟨w, rfl, c2, fun H2 ht => ?_⟩
      obtain ⟨b1, b2⟩ := B'.tabbed hO hj ht
      exact p' _ _ _ _ b1 b2 (.bl _)
    · cases hu'
  | _ => cases hu
/-- 'a' <= c <= 'z' -/
theorem elt_between {prog : Program} {w : World} {scope : Scope} {x lo hi : Str} {j1 j2 : Nat} {p1 p2 p3 p4 : Pos} (hk : scope.kind = .function) (hl : scope.names.lookup x = some .local) (hd : (x == ("__debug__" : Str)) = false := by decide)
    (hm : lastMarks [.LtE, .LtE] [.Name x p2, .Constant (.str hi) j2 p3] = false := by with_unfolding_all rfl) :
    GxR.EltP prog w scope x (.Compare (.Constant (.str lo) j1 p1) [.LtE, .LtE] [.Name x p2, .Constant (.str hi) j2 p3] p4) (fun c => !decide ([c] < lo.cps.toList) && !decide (hi.cps.toList < [c])) := by
  intro cenv A' E' c t s₂ m₂ hs hn hm'
  have nm : ∀ {Q : Value → Shared → Prop} {k : Nat}, Q (.str ⟨#[c]⟩ t) { s₂ with toks := k } → wpAny (model prog w) A' (eval (.Name x p2) cenv) Q E' { s₂ with toks := k } := fun {Q k} hQ =>
    wpAny_Name (wpAny_loadName_local (by rw [hs]; exact hk) (show cenv.scope.names.lookup x = some .local by rw [hs]; exact hl) (show Heap.Ns _ _ _ from hn) hm' hQ) hd
  refine Compare_chain ?_ hm
  refine Calls.Constant_str ?_
  refine chain_link (nm ?_)
  refine PySem.P.le_str ?_
  refine wpAny_truthy_bool ?_
  cases hlo : decide ([c] < lo.cps.toList) with
  | true =>
    simp only [hlo, Bool.not_true, Bool.false_and, Bool.false_eq_true, if_false]
    exact ⟨trivial, GxR.keeps_tok _ _⟩
  | false =>
    simp only [hlo, Bool.not_false, Bool.true_and, if_true]
    refine chain_last (Calls.Constant_str ?_)
    exact PySem.P.le_str ⟨rfl, GxR.keeps_tok _ _⟩
end
end PD

set_option Elab.async false
set_option linter.all false
set_option maxRecDepth 100000
set_option maxHeartbeats 4000000
/-! PD17: lists of one's own by list(..) and slices. -/
namespace PD
open PySem PySem.Spec PyProof.Rows L2
section
variable {X : Cx} {W : WX} {e a b c o : Expr} {es : List Expr} {x : Str} {p pos apos cpos p2 : Pos} {f g : Sl → M D} {h : Sl → M (List D)} {id T : String}
def listOwnO (s : Sto) : List D → Option (D × Sto)
  | [d] => (seqOf s d).map fun xs => (.own s.length, s ++ [.lst xs])
  | _ => none
theorem o_listOwn : CallR X (.type "list") (rDN X.K listOwnO) := by
  intro pins s σ H xs us Q I r h
  obtain ⟨H0, O, sto, ds, d', s', B, rd, hz, k⟩ := h
  unfold listOwnO at hz
  split at hz
  · rename_i d
    cases hq : seqOf sto d with
    | none => rw [hq] at hz; cases hz
    | some ys =>
      rw [hq] at hz
      cases hz
      cases rd with
      | cons r1 r2 =>
        cases r2
        obtain ⟨q, vs, rfl, g1, g2⟩ := seqOf_ok B r1 hq
        refine call_list_of pins s σ H _ us Q I r ⟨q, vs, rfl, g1, fun l hl => ?_⟩
        obtain ⟨b1, b2, b3⟩ := own_new B hl g2
        exact k _ _ _ _ b1 b2 b3
  · cases hz
theorem e_listOwn (hg : Gl X "list") (hm : X.mg "list" = none) (hA : PA X (e :: es) (tA X.K X.mg W h))
    (he : starEach (e :: es) X.env = (false, eval e X.env) :: starEach es X.env := by rfl) (hpl : (backTo pos (starEach es X.env)).any (·.1) = false := by rfl) : PE X (.Call (.Name "list" p) (e :: es) [] pos) (tE X.K X.mg W (fNM listOwnO h)) :=
  PE.imp (pe_callTy o_listOwn hg hm (by decide +kernel) hA (by decide) (by decide) he hpl) fun _ _ _ t => tE_fNM t
/-- a slice of a list, a list of one's own -/
def slOwnM (d : D) (lo hi : Option Int) : M D := fun s => match lsOf s d with
  | some xs => some (.ok (.own s.length) (s ++ [.lst (cutL xs lo hi)]))
  | none => none
def fSlOwn (f : Sl → M D) (u v : Sl → M (Option Int)) : Sl → M D := fun sl => bindM (f sl) fun x => bindM (u sl) fun lo => bindM (v sl) fun hi => slOwnM x lo hi
variable {lo hi : Option Expr} {u v : Sl → M (Option Int)}
theorem e_slOwn (he : PE X e (tE X.K X.mg W f)) (hl : PO X lo (tPo X.K X.mg W u)) (hh : PO X hi (tPo X.K X.mg W v)) : PE X (.Subscript e (.Slice lo hi none p2) pos) (tE X.K X.mg W (fSlOwn f u v)) := by
  refine PE.imp (pe_slice sl_list he hl hh) fun σ H Q t => ?_
  refine tG_mono (tG_bind t) fun x H1 z => ?_
  obtain ⟨H0', O', sl', s', d, r', B', S', rx, q', p'⟩ := z
  obtain ⟨r2, e2, p2⟩ := PostG.bind (rp := eqI) q' p'
  refine ⟨H0', O', sl', s', r2, B', S', e2, p2.mono fun l H2 z => ?_⟩
  obtain ⟨H02, O2, s2, l', r3, B2, X2, rl, q3, p3⟩ := z
  obtain ⟨r4, e4, p4⟩ := PostG.bind (rp := eqI) q3 p3
  refine ⟨H02, O2, sl', s2, r4, B2, S'.ext X2, e4, p4.mono fun u H3 z => ?_⟩
  obtain ⟨H03, O3, s3, u', r5, B3, X3, ru, q5, p5⟩ := z
  cases rl
  cases ru
  have rd := X3.rp (X2.rp rx)
  replace q5 : slOwnM d l u s3 = some r5 := q5
  unfold slOwnM at q5
  split at q5
  · rename_i xs hq
    cases q5
    obtain ⟨a, vs, rfl, g1, g2⟩ := lsOf_ok B3 rd hq
    refine ⟨a, vs, rfl, g1, fun p hp => ?_⟩
    obtain ⟨b1, b2, b3⟩ := own_new B3 hp (cut_rp l u g2)
    exact p5 _ _ _ _ b1 b2 b3
  · cases q5
end
end PD

set_option Elab.async false
set_option linter.all false
set_option maxRecDepth 100000
set_option maxHeartbeats 4000000
/-! PDE: defs whose code holds generator expressions; the law's end with their tables. -/
namespace PD
open PySem PySem.Spec PyProof.Rows L2
/-- the def of the name x at f: its code's table -/
structure TabF (K : PySem.W.Frag) (mg : Str → Option Value) (base : Heap) (x : Str) (f : Addr) (fd : FuncData) : Prop where
  ex : ∃ c P oc vs, fd.code = .ref c ∧ K.lookup c = some oc ∧ oc.data = .fields vs ∧ vs[11]? = some (.ref P) ∧ GxR.TabB base mg c P ∧ PySem.W.nsIn K mainGlobals x = some (some (.ref f))
section
variable {P : Program} {w : World} {K : PySem.W.Frag} {mg : Str → Option Value} {base : Heap}
theorem fn_okT {x qual : Str} {st : Stmt} {f : Addr} {fd : FuncData} {N ps : List Str} {k : Nat} {n : Nat} (keep : Bool) {g : SD} (F : Fun K x qual st f fd) (TF : TabF K mg base x f fd) (S : FnScope N ps (defScope st)) (hn : ps.length = n)
    (hb : ∀ (cdv : Value) (A : Around) (outer : List Env) (s : Shared) (H : Hp) (E : XK), At (cxOf (L2.CX P w) P w K mg base N qual (defScope st) f cdv A outer s H E) k (fun cls d _ H => E cls d H) →
      TabAt (cxOf (L2.CX P w) P w K mg base N qual (defScope st) f cdv A outer s H E) x →
      PSs (cxOf (L2.CX P w) P w K mg base N qual (defScope st) f cdv A outer s H E) (defBody st) (tS K mg (fun cls d _ H => E cls d H) g)) :
    FnOk P w K mg base (L2.CX P w) (k + 1) f fd ps (spD K mg n (fnD keep N.length g)) := by
  obtain ⟨oc, od, kV, doc, pm, an, cdv, ct, osl, rfl, lk, hcd⟩ := F.ex
  obtain ⟨c, Pt, oc2, vs2, t1, t2, t3, t4, t5, t6⟩ := TF.ex
  have t1' : cdv = .ref c := t1
  refine fn_of lk hcd S (fun vs H Q E h => ?_) fun A outer s H vs Q E hr h => ?_
  · obtain ⟨H0, O, sto, ds, r, hl, B, rv, _⟩ := h
    rw [rv.length, hl, hn]
  · refine ⟨_, hb cdv A outer s H E ⟨hr, takes_of rfl rfl rfl rfl, passes_of rfl, rfl⟩ ⟨c, Pt, t5, t1', f, _, _, c, oc2, vs2, t6, lk, rfl, t1', t2, t3, t4⟩, ?_⟩
    obtain ⟨H0, O, sto, ds, r, hl, B, rv, e, p⟩ := h
    unfold fnD at e
    cases eg : g (ds.map some ++ List.replicate (N.length - ds.length) none) sto with
    | none => rw [eg] at e; cases e
    | some r1 =>
      refine ⟨H0, O, _, sto, r1, B, rpSl_start rv, eg, ?_⟩
      rw [eg] at e
      cases r1 with
      | nx l s' => exact fun σ' H' H0' O' B' X' S' => closeM_ok B p e B' X' .non
      | rt d s' => exact fun v H' H0' O' B' X' r' => closeM_ok B p e B' X' r'
      | ex c l s' =>
        intro cls dd σ' H' H0' O' hw B' X' S'
        replace e : closeX c sto s' = some r := e
        unfold closeX at e
        split at e
        · rename_i hk
          cases e
          exact p cls dd H' H0' O hw (close_base B B' X' hk) X'.cutO
        · cases e
      | bk l s' => cases e
      | ct l s' => cases e
end
/-- the tables of the defs named so are empty at the law's start -/
theorem walk_ofD {l : PySem.W.OpenLaw} {n k : Nat} {q : Program} {loose : List Str} {XP : (Str → Option Value) → Heap → Prop} {YP : World → Heap → Prop} {d : DefRec} {K : Params → PySem.W.Frag} {CX : World → CXT} {x : Str} (ts : List Str)
    (hn : l.most = some n) (hn2 : n ≤ sizeLine) (hdf : d.params.defaults = []) (hr : Room k callerA) (hrec : (ts.all fun x => (recsOf q).any fun e => e.name == x) = true) (hY : ∀ (w : World) (h : Heap), YP w h → (K w.params).In h)
    (F : ∀ (w : World) (mg : Str → Option Value) (fa : Addr) (h : Heap), YP w h → (K w.params).In h → h.Ns mainGlobals mg → mg d.name = some (.ref fa) → (∀ x ∈ ts, ∀ fx, mg x = some (.ref fx) → LamX.OwnTab (K w.params) fx h) → LamX.LawAtS l w (K w.params) (CX w) k n x mg fa h)
    (hCX : ∀ (w : World) (H : Hp) (s : Shared) (e : Value) (s' : Shared), CX w [] H s (fun _ _ _ => False) e s' → False) :
    PySem.W.WalkO q loose XP YP l.row.toRowW d [] (fun f vs => PySem.call f vs) := by
  refine Att.attach_callB hn hdf fun w s₀ s₁ mg mb fa o pm cd doc a vs ns G Y ho hd hcd hmg hobj hints hlen hbits hg => ?_
  have KX := hY w _ Y
  have own : ∀ x ∈ ts, ∀ fx, mg x = some (.ref fx) → LamX.OwnTab (K w.params) fx s₁.heap := fun x hx fx hfx => fun c P o1 fd1 e dd vs1 sl k1 k2 k3 k4 k5 => by
    obtain ⟨dL, hm, hn1⟩ := List.any_eq_true.mp (List.all_eq_true.mp hrec x hx)
    have hn2 : dL.name = x := beq_iff_eq.mp hn1
    obtain ⟨a', o', fd', c', P', h1, h2, h3, h4, h5, h6⟩ := G.T.tab dL hm
    rw [hn2, hfx] at h1
    cases h1
    have g1 := KX _ _ k1
    rw [g1] at h2
    cases h2
    rw [k2] at h3
    cases h3
    rw [k3] at h4
    cases h4
    obtain ⟨⟨oc, vc, e1, _, e3, e4⟩, hP⟩ := h6
    have g2 := KX _ _ k4
    rw [g2] at e1
    cases e1
    cases e3
    rw [k5] at e4
    cases e4
    exact hP
  obtain ⟨fd, cs, sp, hT, nT, C, hb, hsp, hF⟩ := F w mg fa _ Y KX G.T.g hmg own
  exact LamX.law_callTs KX G.T.g G.T.b G.T.builtins G.T.nolimit hg hT nT C G.T.bmain hobj hints (Nat.le_trans hlen hn2) hr hF hb (fun H hH hS => hsp H a ns hlen hbits hH hS) fun H e s' => hCX w H s₁ e s'
/-- the law's promise: it gives True where the tables of these defs stand at these places -/
def spT (K : PySem.W.Frag) (ts : List (Str × Addr)) : Sp := fun vs H Q _ => ∃ (a : Addr) (ns : List Int), vs = [.ref a] ∧ SqL K H a (ns.map V.int) ∧ ns.length ≤ 63 ∧ (∀ p ∈ ts, H p.2 = some (.tbl #[])) ∧ ∀ H', Q (.bl true) H'
theorem law_spT {K : PySem.W.Frag} {mg : Str → Option Value} {g : List D → M D} (n : Nat) (ts : List (Str × Addr)) (nd : (ts.map (·.2)).Nodup) (hT : ∀ p ∈ ts, TabIs K p.1 p.2) (h : ∀ ns : List Int, ns.length ≤ n → ∃ s, g [.scr (ns.map D.int)] (ts.map fun p => .tab p.1) = some (.ok (.bl true) s))
    (H : Hp) (a : Addr) (ns : List Int) (hn : ns.length ≤ n) (hS : SqL K H a (ns.map V.int)) (hH : ∀ p ∈ ts, H p.2 = some (.tbl #[])) {Q : VK} {E : XK} (q : ∀ H', Q (.bl true) H') : spD K mg 1 g [.ref a] H Q E := by
  obtain ⟨s, e⟩ := h ns hn
  have all : ∀ (O : List Addr) (ns : List Int), RpAll K (fun b => if b ∈ ts.map (·.2) then none else H b) O (ns.map V.int) (ns.map D.int) := by
    intro O ns
    induction ns with
    | nil => exact .nil
    | cons x r ih => exact .cons (.int x) ih
  have mem : ∀ b, b ∈ ts.map (·.2) → H b = some (.tbl #[]) := fun b hb => by
    obtain ⟨p, hp, rfl⟩ := List.mem_map.mp hb
    exact hH p hp
  have sub : Same (fun b => if b ∈ ts.map (·.2) then none else H b) H := fun b u e => by
    by_cases hb : b ∈ ts.map (·.2)
    · simp only [if_pos hb] at e; cases e
    · simp only [if_neg hb] at e; exact e
  have hS0 : SqL K (fun b => if b ∈ ts.map (·.2) then none else H b) a (ns.map V.int) := by
    have ha : H a ≠ none → (∀ u, H a = some u → u ≠ .tbl #[]) → a ∉ ts.map (·.2) := fun _ h2 hm => h2 _ (mem a hm) rfl
    rcases hS with (h1 | ⟨o, h1⟩) | h1
    · refine .inl (.inl ?_)
      have : a ∉ ts.map (·.2) := fun hm => by rw [mem a hm] at h1; cases h1
      simp only [if_neg this]; exact h1
    · refine .inl (.inr ⟨o, ?_⟩)
      have : a ∉ ts.map (·.2) := fun hm => by rw [mem a hm] at h1; cases h1
      simp only [if_neg this]; exact h1
    · exact .inr h1
  refine ⟨fun b => if b ∈ ts.map (·.2) then none else H b, ts.map (·.2), _, [.scr (ns.map D.int)], _, rfl, ⟨sub, nd, by simp, fun b hb => by rw [mem b hb]; simp, fun k b c h1 h2 => ?_⟩, .one (.scr hS0 (all _ ns)), e, fun v H' H0' O' _ _ r => ?_⟩
  · rw [List.getElem?_map] at h1 h2
    cases ek : ts[k]? with
    | none => rw [ek] at h1; cases h1
    | some p =>
      rw [ek] at h1 h2
      cases h1
      cases h2
      have hp : p ∈ ts := List.mem_iff_getElem?.mpr ⟨k, ek⟩
      exact ⟨hT p hp, ⟨#[], hH p hp, True.intro⟩, by simp only [if_pos (List.mem_map_of_mem (f := (·.2)) hp)]⟩
  · cases r
    exact q H'
end PD

set_option Elab.async false
set_option linter.all false
set_option maxRecDepth 100000
set_option maxHeartbeats 4000000
/-! PDM: how the plain functions of PD are reckoned. -/
namespace PD
open PySem L2
/-! ### stores -/
theorem keeps_refl (s : Sto) : Keeps s s := fun j c h => .inl h
theorem keeps_set {s : Sto} {k : Nat} {c : Cell} (h : CellLow s.length c) : Keeps s (s.set k c) := by
  intro j c' hj
  by_cases e : j = k
  · subst e
    have hl : j < s.length := by
      have := (List.getElem?_eq_some_iff.mp hj).1
      rw [List.length_set] at this
      exact this
    rw [List.getElem?_set_self hl] at hj
    cases hj
    exact .inr h
  · rw [List.getElem?_set_ne (Ne.symm e)] at hj
    exact .inl hj
theorem cellLow_ints (n : Nat) (a b : Int) : CellLow n (.lst [.int a, .int b]) := rfl
theorem set_at {s : Sto} {k : Nat} {c0 : Cell} (h : s[k]? = some c0) (c : Cell) : (s.set k c)[k]? = some c := List.getElem?_set_self (List.getElem?_eq_some_iff.mp h).1
theorem app_at (s : Sto) (c : Cell) (t : Sto) : (s ++ c :: t)[s.length]? = some c := by
  rw [List.getElem?_append_right (Nat.le_refl _), Nat.sub_self]
  rfl
theorem app_at1 (s : Sto) (c d : Cell) (t : Sto) : (s ++ c :: d :: t)[s.length + 1]? = some d := by
  rw [List.getElem?_append_right (Nat.le_add_right _ _), Nat.add_sub_cancel_left]
  rfl
theorem app_set (s : Sto) (c c' : Cell) (t : Sto) : (s ++ c :: t).set s.length c' = s ++ c' :: t := by
  rw [List.set_append_right _ _ (Nat.le_refl _), Nat.sub_self]
  rfl
theorem app_set1 (s : Sto) (c d c' : Cell) (t : Sto) : (s ++ c :: d :: t).set (s.length + 1) c' = s ++ c :: c' :: t := by
  rw [List.set_append_right _ _ (Nat.le_add_right _ _), Nat.add_sub_cancel_left]
  rfl
theorem app_old {s : Sto} {k : Nat} {c : Cell} (h : s[k]? = some c) (t : Sto) : (s ++ t)[k]? = some c := by
  rw [List.getElem?_append_left (List.getElem?_eq_some_iff.mp h).1]
  exact h
theorem app_oldset {s : Sto} {k : Nat} {c0 : Cell} (h : s[k]? = some c0) (c : Cell) (t : Sto) : (s ++ t).set k c = s.set k c ++ t :=
  List.set_append_left _ _ (List.getElem?_eq_some_iff.mp h).1
/-! ### what a def gives back -/
theorem closeM_low {keep : Bool} {s t junk : Sto} {d : D} (hl : t.length = s.length) (hk : Keeps s t) (hd : D.low s.length d = true) (hn : ∀ k, d ≠ .own k) : closeM keep s d (t ++ junk) = some (.ok d t) := by
  have e : (t ++ junk).take s.length = t := by rw [← hl]; exact List.take_left
  unfold closeM
  rw [e, if_pos hk]
  cases d with
  | own k => exact absurd rfl (hn k)
  | non => simp only; rw [if_pos hd]
  | bl b => simp only; rw [if_pos hd]
  | int i => simp only; rw [if_pos hd]
  | str x => simp only; rw [if_pos hd]
  | lst xs => simp only; rw [if_pos hd]
  | tup xs => simp only; rw [if_pos hd]
  | par xs => simp only; rw [if_pos hd]
  | scr xs => simp only; rw [if_pos hd]
theorem closeM_lst {s t junk : Sto} {k : Nat} {xs : List D} (hl : t.length = s.length) (hk : Keeps s t) (hge : s.length ≤ k) (hx : (t ++ junk)[k]? = some (.lst xs)) (hd : D.lowAll s.length xs = true) : closeM false s (.own k) (t ++ junk) = some (.ok (.lst xs) t) := by
  have e : (t ++ junk).take s.length = t := by rw [← hl]; exact List.take_left
  unfold closeM
  rw [e, if_pos hk]
  simp only
  rw [if_neg (by omega), hx]
  simp only
  rw [if_pos hd, if_neg (by simp)]
theorem closeM_keep {s t junk : Sto} {k : Nat} {xs : List D} (hl : t.length = s.length) (hk : Keeps s t) (hge : s.length ≤ k) (hx : (t ++ junk)[k]? = some (.lst xs)) (hd : D.lowAll s.length xs = true) : closeM true s (.own k) (t ++ junk) = some (.ok (.own s.length) (t ++ [.lst xs])) := by
  have e : (t ++ junk).take s.length = t := by rw [← hl]; exact List.take_left
  unfold closeM
  rw [e, if_pos hk]
  simp only
  rw [if_neg (by omega), hx]
  simp only
  rw [if_pos hd]
  simp
theorem fnD_rt {keep : Bool} {n : Nat} {g : SD} {ds : List D} {s s' : Sto} {d : D} {r : R D} (e : g (ds.map some ++ List.replicate (n - ds.length) none) s = some (.rt d s')) (c : closeM keep s d s' = some r) : fnD keep n g ds s = some r := by
  unfold fnD
  rw [e]
  exact c
/-! ### lows -/
mutual
theorem low_mono {m n : Nat} (h : m ≤ n) : ∀ d : D, D.low m d = true → D.low n d = true
  | .non, _ => rfl
  | .bl _, _ => rfl
  | .int _, _ => rfl
  | .str _, _ => rfl
  | .lst xs, q => lowAll_mono h xs q
  | .tup xs, q => lowAll_mono h xs q
  | .par xs, q => lowAll_mono h xs q
  | .scr xs, q => lowAll_mono h xs q
  | .own k, q => by
    have : k < m := of_decide_eq_true q
    exact decide_eq_true (by omega)
theorem lowAll_mono {m n : Nat} (h : m ≤ n) : ∀ ds : List D, D.lowAll m ds = true → D.lowAll n ds = true
  | [], _ => rfl
  | d :: ds, q => by
    have q' := Bool.and_eq_true_iff.mp q
    exact Bool.and_eq_true_iff.mpr ⟨low_mono h d q'.1, lowAll_mono h ds q'.2⟩
end
theorem lowAll_iff {n : Nat} : ∀ {ds : List D}, D.lowAll n ds = true ↔ ∀ d ∈ ds, D.low n d = true
  | [] => by simp [D.lowAll]
  | d :: ds => by
    show (D.low n d && D.lowAll n ds) = true ↔ _
    rw [Bool.and_eq_true, lowAll_iff (ds := ds)]
    simp
/-! ### loops -/
theorem ck_none (xs : List D) (s : Sto) : Ck (xs, none) s := trivial
theorem forL_nil {T : TD} {g : SD} {a : Src} {sl : Sl} {s : Sto} : forL T g a [] sl s = some (.nx sl s) := rfl
theorem forL_cons {T : TD} {g : SD} {a : Src} {x : D} {xs : List D} {sl sl1 sl2 : Sl} {s s2 : Sto} (h1 : T x sl = some sl1) (h2 : g sl1 s = some (.nx sl2 s2)) (ck : Ck a s2) : forL T g a (x :: xs) sl s = forL T g a xs sl2 s2 := by
  conv => lhs; unfold forL
  rw [h1]
  simp only [h2]
  rw [if_pos ck]
theorem forL_rt {T : TD} {g : SD} {a : Src} {x : D} {xs : List D} {sl sl1 : Sl} {s s2 : Sto} {d : D} (h1 : T x sl = some sl1) (h2 : g sl1 s = some (.rt d s2)) : forL T g a (x :: xs) sl s = some (.rt d s2) := by
  conv => lhs; unfold forL
  rw [h1]
  simp only [h2]
/-- a loop that goes on at each turn -/
theorem forL_inv {T : TD} {g : SD} {a : Src} (I : List D → Sl → Sto → Prop) (step : ∀ x xs sl s, I (x :: xs) sl s → ∃ sl1 sl2 s2, T x sl = some sl1 ∧ g sl1 s = some (.nx sl2 s2) ∧ Ck a s2 ∧ I xs sl2 s2) :
    ∀ xs sl s, I xs sl s → ∃ sl' s', forL T g a xs sl s = some (.nx sl' s') ∧ I [] sl' s'
  | [], sl, s, h => ⟨sl, s, rfl, h⟩
  | x :: xs, sl, s, h => by
    obtain ⟨sl1, sl2, s2, h1, h2, ck, h3⟩ := step x xs sl s h
    obtain ⟨sl', s', e, i⟩ := forL_inv I step xs sl2 s2 h3
    exact ⟨sl', s', by rw [forL_cons h1 h2 ck]; exact e, i⟩
theorem rngO_int {z : Int} (h0 : 0 ≤ z) (h1 : z ≤ 1000000) : rngO (.int z) = some (rangeD 0 z.toNat, none) := by
  have c : z < 2 ^ 62 ∧ -(2 ^ 62) ≤ z := by omega
  simp only [rngO, if_pos c]
theorem rngO_nat {n : Nat} (h : n ≤ 1000000) : rngO (.int (n : Nat)) = some (rangeD 0 n, none) :=
  (rngO_int (z := (n : Int)) (Int.natCast_nonneg n) (by omega)).trans (by rw [Int.toNat_natCast])
theorem fRng1_of {f : Sl → M D} {sl : Sl} {s s' : Sto} {d : D} {a : Src} (e : f sl s = some (.ok d s')) (h : rngO d = some a) : fRng1 f sl s = some (.ok a s') := by
  unfold fRng1 bindM liftO
  rw [e]
  simp only
  rw [h]
/-- a loop over a range, by the turn's number -/
theorem forL_range {T : TD} {g : SD} {a : Src} (P : Nat → Sl → Sto → Prop) (n : Nat) (step : ∀ i sl s, i < n → P i sl s → ∃ sl1 sl2 s2, T (.int (i : Nat)) sl = some sl1 ∧ g sl1 s = some (.nx sl2 s2) ∧ Ck a s2 ∧ P (i + 1) sl2 s2) (sl : Sl) (s : Sto) (h : P 0 sl s) :
    ∃ sl' s', forL T g a (rangeD 0 n) sl s = some (.nx sl' s') ∧ P n sl' s' := by
  have e : rangeD 0 n = (List.range n).map fun i => D.int (i : Nat) := by
    unfold rangeD
    exact List.map_congr_left fun i _ => by rw [Int.zero_add]
  rw [e]
  obtain ⟨sl', s', e1, i, hi, h1⟩ := forL_inv (T := T) (g := g) (a := a) (fun xs sl s => ∃ i, i ≤ n ∧ xs = ((List.range n).drop i).map (fun i => D.int (i : Nat)) ∧ P i sl s) (fun x xs sl s ⟨i, hi, ex, hp⟩ => by
    by_cases hlt : i < n
    · have hd : (List.range n).drop i = i :: (List.range n).drop (i + 1) := by
        rw [List.drop_eq_getElem_cons (by simpa using hlt)]
        simp
      rw [hd, List.map_cons] at ex
      injection ex with ex1 ex2
      subst ex1
      obtain ⟨sl1, sl2, s2, h1, h2, h3, h4⟩ := step i sl s hlt hp
      exact ⟨sl1, sl2, s2, h1, h2, h3, i + 1, hlt, ex2, h4⟩
    · have : i = n := by omega
      subst this
      rw [List.drop_of_length_le (by simp)] at ex
      cases ex) ((List.range n).map fun i => D.int (i : Nat)) sl s ⟨0, Nat.zero_le _, by simp, h⟩
  refine ⟨sl', s', e1, ?_⟩
  have : i = n := by
    by_cases hlt : i < n
    · have := congrArg List.length h1.1
      simp at this
      omega
    · omega
  subst this
  exact h1.2
theorem forS_of {T : TD} {i : Sl → M Src} {g : SD} {sl : Sl} {s s1 : Sto} {a : Src} (h : i sl s = some (.ok a s1)) (ck : Ck a s1) : forS T i g sl s = forL T g a a.1 sl s1 := by
  unfold forS bindS
  rw [h]
  simp only
  rw [if_pos ck]
/-! ### comprehensions -/
theorem lcL_map {T : TD} {u : Sl → M Bool} {f : Sl → M D} {a : Src} {sl : Sl} {s : Sto} (y : D → D) (ck : Ck a s) :
    ∀ (xs : List D), (∀ x ∈ xs, ∃ sl1, T x sl = some sl1 ∧ u sl1 s = some (.ok true s) ∧ f sl1 s = some (.ok (y x) s)) → lcL T u f a sl xs s = some (.ok (xs.map y) s)
  | [], _ => rfl
  | x :: xs, h => by
    obtain ⟨sl1, h1, h2, h3⟩ := h x List.mem_cons_self
    have ih := lcL_map (T := T) (u := u) (f := f) (a := a) (sl := sl) (s := s) y ck xs fun z hz => h z (List.mem_cons_of_mem _ hz)
    unfold lcL
    simp only [h1, bindM, noex, h2, h3, ckM, if_pos ck, ih, retM, if_true]
    rfl
theorem lcL_filter {T : TD} {u : Sl → M Bool} {f : Sl → M D} {a : Src} {sl : Sl} {s : Sto} (p : D → Bool) (y : D → D) (ck : Ck a s) :
    ∀ (xs : List D), (∀ x ∈ xs, ∃ sl1, T x sl = some sl1 ∧ u sl1 s = some (.ok (p x) s) ∧ (p x = true → f sl1 s = some (.ok (y x) s))) → lcL T u f a sl xs s = some (.ok ((xs.filter p).map y) s)
  | [], _ => rfl
  | x :: xs, h => by
    obtain ⟨sl1, h1, h2, h3⟩ := h x List.mem_cons_self
    have ih := lcL_filter (T := T) (u := u) (f := f) (a := a) (sl := sl) (s := s) p y ck xs fun z hz => h z (List.mem_cons_of_mem _ hz)
    unfold lcL
    cases hp : p x with
    | true =>
      rw [hp] at h2
      have h3' := h3 hp
      simp only [h1, bindM, noex, h2, h3', ckM, if_pos ck, ih, retM, if_true, List.filter_cons, hp, List.map_cons]
    | false =>
      rw [hp] at h2
      simp [h1, bindM, noex, h2, ckM, if_pos ck, ih, List.filter_cons, hp]
/-- a comprehension whose turns may change the store -/
theorem lcL_inv {T : TD} {u : Sl → M Bool} {f : Sl → M D} {a : Src} {sl : Sl} (I : List D → List D → Sto → Prop)
    (step : ∀ x xs acc s, I (x :: xs) acc s → ∃ sl1 y s1, T x sl = some sl1 ∧ u sl1 s = some (.ok true s) ∧ f sl1 s = some (.ok y s1) ∧ Ck a s1 ∧ I xs (acc ++ [y]) s1) :
    ∀ xs acc s, I xs acc s → ∃ ys s', lcL T u f a sl xs s = some (.ok ys s') ∧ I [] (acc ++ ys) s'
  | [], acc, s, h => ⟨[], s, rfl, by rw [List.append_nil]; exact h⟩
  | x :: xs, acc, s, h => by
    obtain ⟨sl1, y, s1, h1, h2, h3, ck, h4⟩ := step x xs acc s h
    obtain ⟨ys, s', e, i⟩ := lcL_inv I step xs _ _ h4
    refine ⟨y :: ys, s', ?_, by rw [List.append_assoc] at i; exact i⟩
    unfold lcL
    simp only [h1, bindM, noex, h2, h3, ckM, if_pos ck, e, retM, if_true]
theorem fLc_of {T : TD} {u : Sl → M Bool} {f : Sl → M D} {i : Sl → M Src} {vs : List Nat} {sl : Sl} {s s1 s2 : Sto} {a : Src} {ys : List D} (h : i sl s = some (.ok a s1)) (ck : Ck a s1) (hl : lcL T u f a (wipeS sl vs) a.1 s1 = some (.ok ys s2)) (hs : ys.length ≤ 16777216) :
    fLc T u f i vs sl s = some (.ok (.lst ys) s2) := by
  have hs' : small ys.length = true := decide_eq_true hs
  unfold fLc
  simp only [bindM, h, ckM, if_pos ck, hl, liftO, hs', if_true]
theorem fLc_pure {T : TD} {u : Sl → M Bool} {f : Sl → M D} {i : Sl → M Src} {vs : List Nat} {sl : Sl} {s : Sto} {xs ys : List D} (h : i sl s = some (.ok (xs, none) s)) (hl : lcL T u f (xs, none) (wipeS sl vs) xs s = some (.ok ys s)) (hs : ys.length ≤ 16777216) :
    fLc T u f i vs sl s = some (.ok (.lst ys) s) := fLc_of h (ck_none _ _) hl hs
/-! ### statements, one after another -/
theorem seqS_nx {g1 g2 : SD} {sl sl' : Sl} {s s' : Sto} (h : g1 sl s = some (.nx sl' s')) : seqS g1 g2 sl s = g2 sl' s' := by
  unfold seqS
  rw [h]
theorem seqS_rt {g1 g2 : SD} {sl : Sl} {s s' : Sto} {d : D} (h : g1 sl s = some (.rt d s')) : seqS g1 g2 sl s = some (.rt d s') := by
  unfold seqS
  rw [h]
theorem setS_ok {i : Nat} {f : Sl → M D} {sl : Sl} {s s' : Sto} {d : D} (h : f sl s = some (.ok d s')) : setS i f sl s = some (.nx (sl.set i (some d)) s') := by
  unfold setS bindS
  rw [h]
theorem retS_ok {f : Sl → M D} {sl : Sl} {s s' : Sto} {d : D} (h : f sl s = some (.ok d s')) : retS f sl s = some (.rt d s') := by
  unfold retS bindS
  rw [h]
theorem exprS_ok {f : Sl → M D} {sl : Sl} {s s' : Sto} {d : D} (h : f sl s = some (.ok d s')) : exprS f sl s = some (.nx sl s') := by
  unfold exprS bindS
  rw [h]
theorem ifS_t {u : Sl → M Bool} {g1 g2 : SD} {sl : Sl} {s s' : Sto} (h : u sl s = some (.ok true s')) : ifS u g1 g2 sl s = g1 sl s' := by
  unfold ifS bindS
  rw [h]
  rfl
theorem ifS_f {u : Sl → M Bool} {g1 g2 : SD} {sl : Sl} {s s' : Sto} (h : u sl s = some (.ok false s')) : ifS u g1 g2 sl s = g2 sl s' := by
  unfold ifS bindS
  rw [h]
  rfl
theorem fCall_ok {n : Nat} {g : List D → M D} {h : Sl → M (List D)} {sl : Sl} {s s1 : Sto} {ds : List D} (e : h sl s = some (.ok ds s1)) (hn : ds.length = n) : fCall n g h sl s = g ds s1 := by
  unfold fCall bindM
  rw [e]
  simp only
  rw [if_pos hn]
theorem fCall_eq {n : Nat} {g : List D → M D} {h : Sl → M (List D)} {sl : Sl} {s s1 : Sto} {ds : List D} {r : Option (R D)} (e : h sl s = some (.ok ds s1)) (hn : ds.length = n) (k : g ds s1 = r) : fCall n g h sl s = r :=
  (fCall_ok e hn).trans k
theorem eqO_int (neg : Bool) (s : Sto) (i j : Int) : eqO neg s (.int i) (.int j) = some (.bl (ng neg (decide (i = j)))) := by
  have h : decide (V.int i = V.int j) = decide (i = j) := by
    by_cases e : i = j
    · subst e; simp
    · simp [e]
  show ((if scal (V.int i) (V.int j) = true then some (decide (V.int i = V.int j)) else deepB s (.int i) (.int j)).map fun b => D.bl (ng neg b)) = _
  rw [if_pos (show scal _ _ = true from rfl), h]
  rfl
theorem eqO_str (neg : Bool) (s : Sto) (x y : Str) : eqO neg s (.str x) (.str y) = some (.bl (ng neg (decide (x = y)))) := by
  have h : decide (V.str x = V.str y) = decide (x = y) := by
    by_cases e : x = y
    · subst e; simp
    · simp [e]
  show ((if scal (V.str x) (V.str y) = true then some (decide (V.str x = V.str y)) else deepB s (.str x) (.str y)).map fun b => D.bl (ng neg b)) = _
  rw [if_pos (show scal _ _ = true from rfl), h]
  rfl
/-! ### the eq of equal data -/
theorem plain_eq {s : Sto} {d : D} {z : PyData} (h : plainPy s d = some z) : PyData.eqv z z = true := by
  unfold plainPy at h
  split at h
  · rename_i c
    cases h
    exact PySem.SeqAt.eqv_refl _ (PySem.SeqAt.canLay_of_shaped (Bool.and_eq_true_iff.mp c).2)
  · cases h
theorem eqO_deep {neg : Bool} {s : Sto} {d e : D} {a b : PyData} (h : scD d = none ∨ scD e = none) (hd : plainPy s d = some a) (he : plainPy s e = some b) : eqO neg s d e = some (.bl (ng neg (PyData.eqv a b))) := by
  have q : deepB s d e = some (PyData.eqv a b) := by unfold deepB; rw [hd, he]
  unfold eqO eqBo
  rcases h with h | h
  · rw [h]
    simp only [q]
    rfl
  · rw [h]
    cases hs : scD d with
    | none => simp only [q]; rfl
    | some x => simp only [q]; rfl
/-- a list or tuple is no text -/
theorem eqO_seqStr {neg : Bool} {s : Sto} {d : D} {xs : List D} {w : Str} (h : seqOf s d = some xs) : eqO neg s d (.str w) = some (.bl (ng neg false)) := by
  have hn : scD d = none := by
    cases d <;> first | rfl | cases h
  have hq : seqStr s d (.str w) = some false := by unfold seqStr; rw [h]; rfl
  unfold eqO eqBo
  rw [hn]
  cases hd : deepB s d (.str w) with
  | none => simp only [hq]; rfl
  | some b =>
    have : b = false := by
      unfold deepB at hd
      split at hd
      · rename_i p q hp hq
        cases hd
        have hq' : q = .str w := by
          unfold plainPy at hq
          split at hq
          · cases hq; rfl
          · cases hq
        subst hq'
        have hp' : ∃ zs, p = .list zs ∨ p = .tuple zs := by
          unfold plainPy at hp
          split at hp
          · cases hp
            cases d with
            | own k =>
              unfold seqOf lsOf at h
              simp only at h
              split at h
              · rename_i ys hk
                unfold peek
                simp only [hk]
                exact ⟨_, .inl rfl⟩
              · cases h
            | lst _ => exact ⟨_, .inl rfl⟩
            | scr _ => exact ⟨_, .inl rfl⟩
            | tup _ => exact ⟨_, .inr rfl⟩
            | par _ => exact ⟨_, .inr rfl⟩
            | _ => cases h
          · cases hp
        obtain ⟨zs, rfl | rfl⟩ := hp' <;> rfl
      · cases hd
    subst this
    rfl
end PD

set_option Elab.async false
set_option linter.all false
set_option maxRecDepth 100000
set_option maxHeartbeats 4000000
/-! PH: helps for reckoning. -/
namespace PD
open PySem L2
abbrev SS (x : String) : Str := PySem.Str.ofString x
theorem close_low (s : Sto) (d : D) (h : D.low s.length d = true) (hn : ∀ k, d ≠ .own k) : closeM false s d s = some (.ok d s) := by
  have := closeM_low (keep := false) (s := s) (t := s) (junk := []) (d := d) rfl (keeps_refl s) h hn
  rwa [List.append_nil] at this
theorem close_bl (s : Sto) (b : Bool) : closeM false s (.bl b) s = some (.ok (.bl b) s) := close_low s _ rfl (fun _ z => nomatch z)
theorem close_junk (s junk : Sto) (d : D) (h : D.low s.length d = true) (hn : ∀ k, d ≠ .own k) : closeM false s d (s ++ junk) = some (.ok d s) := closeM_low rfl (keeps_refl s) h hn
theorem close_jbl (s junk : Sto) (b : Bool) : closeM false s (.bl b) (s ++ junk) = some (.ok (.bl b) s) := close_junk s junk _ rfl (fun _ z => nomatch z)
theorem close_jnon (s junk : Sto) : closeM false s .non (s ++ junk) = some (.ok .non s) := close_junk s junk _ rfl (fun _ z => nomatch z)
mutual
/-- data without own things, its texts not too long -/
def pd : D → Bool
  | .own _ => false | .scr _ => false | .par _ => false
  | .str x => decide (x.length ≤ 1000000)
  | .lst xs => pds xs | .tup xs => pds xs
  | .non => true | .bl _ => true | .int _ => true
def pds : List D → Bool
  | [] => true | x :: xs => pd x && pds xs
end
theorem pds_iff : ∀ {ds : List D}, pds ds = true ↔ ∀ d ∈ ds, pd d = true
  | [] => by simp [pds]
  | d :: ds => by
    show (pd d && pds ds) = true ↔ _
    rw [Bool.and_eq_true, pds_iff (ds := ds)]
    simp
mutual
theorem pd_low : ∀ d : D, pd d = true → D.low 0 d = true
  | .non, _ => rfl
  | .bl _, _ => rfl
  | .int _, _ => rfl
  | .str _, _ => rfl
  | .lst xs, h => pds_low xs h
  | .tup xs, h => pds_low xs h
theorem pds_low : ∀ ds : List D, pds ds = true → D.lowAll 0 ds = true
  | [], _ => rfl
  | d :: ds, h => by
    have h' : pd d = true ∧ pds ds = true := Bool.and_eq_true_iff.mp h
    show (D.low 0 d && D.lowAll 0 ds) = true
    rw [pd_low d h'.1, pds_low ds h'.2]
    rfl
end
theorem pd_own {d : D} (h : pd d = true) : ∀ k, d ≠ .own k := fun k e => by subst e; cases h
theorem close_pd (s : Sto) (d : D) (h : pd d = true) : closeM false s d s = some (.ok d s) := close_low s d (low_mono (Nat.zero_le _) _ (pd_low d h)) (pd_own h)
theorem smallOf {n : Nat} (h : n ≤ 16777216) : small n = true := decide_eq_true h
theorem small0 : small 0 = true := rfl
theorem small1 : small 1 = true := rfl
theorem small2 : small 2 = true := rfl
theorem small3 : small 3 = true := rfl
/-! ### readings, step by step -/
section
variable {f g : Sl → M D} {h : Sl → M (List D)} {u v : Sl → M Bool} {sl : Sl} {s s1 s2 : Sto} {x y z : D} {b : Bool} {r : Option (R D)}
theorem v_ok {i : Nat} {d : D} (e : sl[i]? = some (some d)) : fVar i sl s = some (.ok d s) := by simp [fVar, e]
theorem c_ok {d : D} : fC d sl s = some (.ok d s) := rfl
theorem f1_ok {o : Sto → D → Option D} (h1 : f sl s = some (.ok x s1)) (h2 : o s1 x = some z) : f1 o f sl s = some (.ok z s1) := by simp [f1, bindM, liftO, h1, h2]
theorem f2_ok {o : Sto → D → D → Option D} (h1 : f sl s = some (.ok x s1)) (h2 : g sl s1 = some (.ok y s2)) (h3 : o s2 x y = some z) : f2 o f g sl s = some (.ok z s2) := by simp [f2, bindM, liftO, h1, h2, h3]
theorem fB_ok (h1 : f sl s = some (.ok (.bl b) s1)) : fB f sl s = some (.ok b s1) := by simp [fB, bindM, liftO, asB, h1]
theorem tru_bl (h1 : f sl s = some (.ok (.bl b) s1)) : fTru f sl s = some (.ok b s1) := by simp [fTru, bindM, liftO, truO, h1]
theorem not_ok (h1 : u sl s = some (.ok b s1)) : fNot u sl s = some (.ok (!b) s1) := by simp [fNot, bindM, retM, h1]
theorem and_t {r : Option (R Bool)} (h1 : u sl s = some (.ok true s1)) (h2 : v sl s1 = r) : fAnd u v sl s = r := by simp [fAnd, bindM, h1, h2]
theorem and_f (h1 : u sl s = some (.ok false s1)) : fAnd u v sl s = some (.ok false s1) := by simp [fAnd, bindM, retM, h1]
theorem or_t (h1 : u sl s = some (.ok true s1)) : fOr u v sl s = some (.ok true s1) := by simp [fOr, bindM, retM, h1]
theorem or_f {r : Option (R Bool)} (h1 : u sl s = some (.ok false s1)) (h2 : v sl s1 = r) : fOr u v sl s = r := by simp [fOr, bindM, h1, h2]
theorem andV_t (h1 : f sl s = some (.ok (.bl true) s1)) (h2 : g sl s1 = r) : fAndV f g sl s = r := by simp [fAndV, bindM, h1, h2]
theorem andV_f (h1 : f sl s = some (.ok (.bl false) s1)) : fAndV f g sl s = some (.ok (.bl false) s1) := by simp [fAndV, bindM, retM, h1]
theorem orV_t (h1 : f sl s = some (.ok (.bl true) s1)) : fOrV f g sl s = some (.ok (.bl true) s1) := by simp [fOrV, bindM, retM, h1]
theorem orV_f (h1 : f sl s = some (.ok (.bl false) s1)) (h2 : g sl s1 = r) : fOrV f g sl s = r := by simp [fOrV, bindM, h1, h2]
theorem if_t (h1 : u sl s = some (.ok true s1)) (h2 : f sl s1 = r) : fIf u f g sl s = r := by simp [fIf, bindM, h1, h2]
theorem if_f (h1 : u sl s = some (.ok false s1)) (h2 : g sl s1 = r) : fIf u f g sl s = r := by simp [fIf, bindM, h1, h2]
theorem cons_ok {xs : List D} (h1 : f sl s = some (.ok x s1)) (h2 : h sl s1 = some (.ok xs s2)) : fCons f h sl s = some (.ok (x :: xs) s2) := by simp [fCons, bindM, retM, h1, h2]
theorem nil_ok : fNil sl s = some (.ok [] s) := rfl
theorem one_ok (h1 : f sl s = some (.ok x s1)) : fCons f fNil sl s = some (.ok [x] s1) := cons_ok h1 nil_ok
theorem two_ok (h1 : f sl s = some (.ok x s1)) (h2 : g sl s1 = some (.ok y s2)) : fCons f (fCons g fNil) sl s = some (.ok [x, y] s2) := cons_ok h1 (one_ok h2)
theorem tup_ok {xs : List D} (h1 : h sl s = some (.ok xs s1)) (hs : small xs.length = true) : fTup h sl s = some (.ok (.tup xs) s1) := by simp [fTup, bindM, liftO, h1, hs]
theorem lst_ok {xs : List D} (h1 : h sl s = some (.ok xs s1)) (hs : small xs.length = true) : fLst h sl s = some (.ok (.lst xs) s1) := by simp [fLst, bindM, liftO, h1, hs]
theorem own_ok {xs : List D} (h1 : h sl s = some (.ok xs s1)) (hs : small xs.length = true) : fOwn h sl s = some (.ok (.own s1.length) (s1 ++ [.lst xs])) := by simp [fOwn, bindM, h1, hs]
theorem call_ok {n : Nat} {F : List D → M D} {ds : List D} (h1 : h sl s = some (.ok ds s1)) (h2 : F ds s1 = r) (hn : ds.length = n := by rfl) : fCall n F h sl s = r := fCall_eq h1 hn h2
theorem fN_ok {o : Sto → List D → Option D} {ds : List D} (h1 : h sl s = some (.ok ds s1)) (h2 : o s1 ds = some z) : fN o h sl s = some (.ok z s1) := by simp [fN, bindM, liftO, h1, h2]
theorem chain_ok {o o' : Sto → D → D → Option D} {e : Sl → M D} {b c : Bool} (h1 : f sl s = some (.ok x s1)) (h2 : g sl s1 = some (.ok y s2)) (h3 : o s2 x y = some (.bl b)) (h4 : e sl s2 = some (.ok z s2)) (h5 : o' s2 y z = some (.bl c)) : fChain o o' f g e sl s = some (.ok (.bl (b && c)) s2) := by
  cases b <;> simp [fChain, bindM, liftO, retM, h1, h2, h3, h4, h5, asB]
theorem m1_ok {o : D → List D → M D} {xs ds : List D} (h1 : f sl s = some (.ok x s1)) (hx : lsOf s1 x = some xs) (h2 : h sl s1 = some (.ok ds s2)) (h3 : o x ds s2 = r) : fM1 o f h sl s = r := by simp [fM1, bindM, liftO, h1, hx, h2, h3]
theorem m0_ok {o : D → M D} {xs : List D} (h1 : f sl s = some (.ok x s1)) (hx : lsOf s1 x = some xs) (h3 : o x s1 = r) : fM0 o f sl s = r := by simp [fM0, bindM, liftO, h1, hx, h3]
theorem it_ok {a : Src} (h1 : f sl s = some (.ok x s1)) (h2 : seqIt s1 x = some a) : fIt f sl s = some (.ok a s1) := by simp [fIt, bindM, liftO, h1, h2]
end
section
variable {f : Sl → M D} {u : Sl → M Bool} {g1 g2 g3 : SD} {sl sl' : Sl} {s s' s1 : Sto} {d : D} {r : Option RS} {b : Bool}
theorem sq_set {i : Nat} (h1 : f sl s = some (.ok d s')) (h2 : g2 (sl.set i (some d)) s' = r) : seqS (setS i f) g2 sl s = r := (seqS_nx (setS_ok h1)).trans h2
theorem sq_expr (h1 : f sl s = some (.ok d s')) (h2 : g2 sl s' = r) : seqS (exprS f) g2 sl s = r := (seqS_nx (exprS_ok h1)).trans h2
theorem sq_ret (h1 : f sl s = some (.ok d s')) : seqS (retS f) g2 sl s = some (.rt d s') := seqS_rt (retS_ok h1)
theorem if_ret (h1 : u sl s = some (.ok true s1)) (h2 : f sl s1 = some (.ok d s')) : ifS u (retS f) g3 sl s = some (.rt d s') := (ifS_t h1).trans (retS_ok h2)
theorem sq_ifret (h1 : u sl s = some (.ok true s1)) (h2 : f sl s1 = some (.ok d s')) : seqS (ifS u (retS f) g3) g2 sl s = some (.rt d s') := seqS_rt (if_ret h1 h2)
theorem sq_skip (h1 : u sl s = some (.ok false s')) (h2 : g2 sl s' = r) : seqS (ifS u g1 nextS) g2 sl s = r := (seqS_nx ((ifS_f (g1 := g1) (g2 := nextS) h1).trans rfl)).trans h2
theorem sq_nx (h1 : g1 sl s = some (.nx sl' s')) (h2 : g2 sl' s' = r) : seqS g1 g2 sl s = r := (seqS_nx h1).trans h2
theorem ifT {g : SD} (h1 : u sl s = some (.ok true s')) (h2 : g1 sl s' = r) : ifS u g1 g sl s = r := (ifS_t h1).trans h2
theorem ifF {g : SD} (h1 : u sl s = some (.ok false s')) (h2 : g sl s' = r) : ifS u g1 g sl s = r := (ifS_f h1).trans h2
end
/-! ### items -/
theorem ixT0 {s : Sto} {x : D} {r : List D} : ixO s (.tup (x :: r)) (.int 0) = some x := by simp [ixO, seqOf, atI, ixN]
theorem ixT1 {s : Sto} {x y : D} {r : List D} : ixO s (.tup (x :: y :: r)) (.int 1) = some y := show atI (x :: y :: r) ((1 : Nat) : Int) = some y from atI_nat rfl
theorem ixT2 {s : Sto} {x y z : D} {r : List D} : ixO s (.tup (x :: y :: z :: r)) (.int 2) = some z := show atI (x :: y :: z :: r) ((2 : Nat) : Int) = some z from atI_nat rfl
/-! ### while -/
section
variable {u : Sl → M Bool} {g : SD} {sl sl2 : Sl} {s s1 s2 : Sto} {d : D} {r : RS}
theorem wh_stop (h : u sl s = some (.ok false s1)) : whileS u g sl s = some (.nx sl s1) := whileS_eq (n := 1) (by unfold whileN; rw [h])
theorem wh_rt (h : u sl s = some (.ok true s1)) (h2 : g sl s1 = some (.rt d s2)) : whileS u g sl s = some (.rt d s2) := whileS_eq (n := 1) (by unfold whileN; rw [h]; simp only [h2])
theorem wh_ex {c : Str} (h : u sl s = some (.ok true s1)) (h2 : g sl s1 = some (.ex c sl2 s2)) : whileS u g sl s = some (.ex c sl2 s2) := whileS_eq (n := 1) (by unfold whileN; rw [h]; simp only [h2])
theorem wh_nx (h : u sl s = some (.ok true s1)) (h2 : g sl s1 = some (.nx sl2 s2)) (h3 : whileS u g sl2 s2 = some r) : whileS u g sl s = some r := by
  obtain ⟨n, hn⟩ := whileS_ex h3
  exact whileS_eq (n := n + 1) (by unfold whileN; rw [h]; simp only [h2]; exact hn)
theorem wh_bk (h : u sl s = some (.ok true s1)) (h2 : g sl s1 = some (.bk sl2 s2)) : whileS u g sl s = some (.nx sl2 s2) := whileS_eq (n := 1) (by unfold whileN; rw [h]; simp only [h2])
end
theorem tru_own {i : Nat} {sl : Sl} {s : Sto} {k : Nat} {xs : List D} (h : sl[i]? = some (some (.own k))) (hk : s[k]? = some (.lst xs)) : fTru (fVar i) sl s = some (.ok (!xs.isEmpty) s) := by
  have hv : fVar i sl s = some (.ok (.own k) s) := v_ok h
  unfold fTru bindM
  rw [hv]
  simp only [liftO, truO, seqOf, lsOf, hk, Option.map_some]
theorem pop_own {i : Nat} {sl : Sl} {s : Sto} {k : Nat} {xs : List D} {y : D} (h : sl[i]? = some (some (.own k))) (hk : s[k]? = some (.lst (xs ++ [y]))) : fM0 popM (fVar i) sl s = some (.ok y (s.set k (.lst xs))) := by
  refine m0_ok (v_ok h) (xs := xs ++ [y]) (by simp only [lsOf, hk]) ?_
  unfold popM
  have e1 : (xs ++ [y])[(xs ++ [y]).length - 1]? = some y := by simp
  simp only [hk, e1, List.dropLast_concat]
theorem asg_ok {T : TD} {f : Sl → M D} {sl sl' : Sl} {s s' : Sto} {d : D} (h : f sl s = some (.ok d s')) (hT : T d sl = some sl') : asgS T f sl s = some (.nx sl' s') := by
  unfold asgS bindS
  rw [h]
  simp only [hT]
theorem aug_ok {i : Nat} {op : Int → Int → Int} {f : Sl → M D} {sl : Sl} {s s' : Sto} {a b : Int} (h1 : sl[i]? = some (some (.int a))) (h : f sl s = some (.ok (.int b) s')) : augS i op f sl s = some (.nx (sl.set i (some (.int (op a b)))) s') := by
  unfold augS
  simp [h1, bindS, h, augO]
theorem ext_own {i : Nat} {f : Sl → M D} {sl : Sl} {s s1 : Sto} {k : Nat} {xs ys : List D} {y : D} (h : sl[i]? = some (some (.own k))) (hk0 : ∃ zs, s[k]? = some (.lst zs)) (hf : f sl s = some (.ok y s1)) (hy : rawOf s1 y = some ys) (hk : s1[k]? = some (.lst xs)) (hs : xs.length + ys.length ≤ 16777216) :
    fM1 extendM (fVar i) (fCons f fNil) sl s = some (.ok .non (s1.set k (.lst (xs ++ ys)))) := by
  obtain ⟨zs, hk0⟩ := hk0
  refine m1_ok (v_ok h) (xs := zs) (by simp only [lsOf, hk0]) (one_ok hf) ?_
  unfold extendM
  simp only [hk, hy, smallOf hs, if_true]
end PD

set_option Elab.async false
set_option linter.all false
set_option maxRecDepth 100000
set_option maxHeartbeats 4000000
/-! PI: == of plain data. -/
namespace PD
open PySem L2
noncomputable instance : DecidableEq D := fun _ _ => Classical.propDecidable _
mutual
/-- None, ints, texts, tuples of such -/
def cl : D → Bool
  | .non => true | .int _ => true | .str x => PyData.strOk x | .tup xs => cls xs
  | _ => false
def cls : List D → Bool
  | [] => true | x :: xs => cl x && cls xs
end
theorem cls_iff : ∀ {ds : List D}, cls ds = true ↔ ∀ d ∈ ds, cl d = true
  | [] => by simp [cls]
  | d :: ds => by
    show (cl d && cls ds) = true ↔ _
    rw [Bool.and_eq_true, cls_iff (ds := ds)]
    simp
def dpD (d : D) : Nat := (py d).depth
def dpsD (ds : List D) : Nat := PyData.depthAll (pyAll ds)
mutual
theorem eqv_iff : ∀ d e : D, cl d = true → cl e = true → (PyData.eqv (py d) (py e) = true ↔ d = e)
  | .non, e, _, h => by cases e <;> first | cases h; done | (constructor <;> intro z <;> first | rfl | cases z)
  | .int i, e, _, h => by
    cases e with
    | int j =>
      show (i == j) = true ↔ _
      rw [beq_iff_eq]
      exact ⟨fun z => by rw [z], fun z => by cases z; rfl⟩
    | _ => first | cases h; done | (constructor <;> intro z <;> first | rfl | cases z)
  | .str x, e, _, h => by
    cases e with
    | str y =>
      show (x == y) = true ↔ _
      rw [beq_iff_eq]
      exact ⟨fun z => by rw [z], fun z => by cases z; rfl⟩
    | _ => first | cases h; done | (constructor <;> intro z <;> first | rfl | cases z)
  | .tup xs, e, hd, h => by
    cases e with
    | tup ys =>
      show PyData.eqvAll (pyAll xs) (pyAll ys) = true ↔ _
      rw [eqvs_iff xs ys hd h]
      exact ⟨fun z => by rw [z], fun z => by cases z; rfl⟩
    | _ => first | cases h; done | (constructor <;> intro z <;> first | rfl | cases z)
  | .bl _, _, h, _ => by cases h
  | .lst _, _, h, _ => by cases h
  | .par _, _, h, _ => by cases h
  | .scr _, _, h, _ => by cases h
  | .own _, _, h, _ => by cases h
theorem eqvs_iff : ∀ ds es : List D, cls ds = true → cls es = true → (PyData.eqvAll (pyAll ds) (pyAll es) = true ↔ ds = es)
  | [], [], _, _ => by simp [pyAll, PyData.eqvAll]
  | [], _ :: _, _, _ => by simp [pyAll, PyData.eqvAll]
  | _ :: _, [], _, _ => by simp [pyAll, PyData.eqvAll]
  | d :: ds, e :: es, h1, h2 => by
    have a := Bool.and_eq_true_iff.mp (show (cl d && cls ds) = true from h1)
    have b := Bool.and_eq_true_iff.mp (show (cl e && cls es) = true from h2)
    show (PyData.eqv (py d) (py e) && PyData.eqvAll (pyAll ds) (pyAll es)) = true ↔ _
    rw [Bool.and_eq_true, eqv_iff d e a.1 b.1, eqvs_iff ds es a.2 b.2]
    exact ⟨fun ⟨x, y⟩ => by rw [x, y], fun z => by cases z; exact ⟨rfl, rfl⟩⟩
end
mutual
theorem cl_low : ∀ d : D, cl d = true → D.low 0 d = true ∧ (py d).canLay0 = true
  | .non, _ => ⟨rfl, rfl⟩
  | .int _, _ => ⟨rfl, rfl⟩
  | .str x, h => ⟨rfl, h⟩
  | .tup xs, h => cls_low xs h
  | .bl _, h => by cases h
  | .lst _, h => by cases h
  | .par _, h => by cases h
  | .scr _, h => by cases h
  | .own _, h => by cases h
theorem cls_low : ∀ ds : List D, cls ds = true → D.lowAll 0 ds = true ∧ PyData.canLayAll0 (pyAll ds) = true
  | [], _ => ⟨rfl, rfl⟩
  | d :: ds, h => by
    have a := Bool.and_eq_true_iff.mp (show (cl d && cls ds) = true from h)
    obtain ⟨x1, x2⟩ := cl_low d a.1
    obtain ⟨y1, y2⟩ := cls_low ds a.2
    refine ⟨?_, ?_⟩
    · show (D.low 0 d && D.lowAll 0 ds) = true
      rw [x1, y1]; rfl
    · show ((py d).canLay0 && PyData.canLayAll0 (pyAll ds)) = true
      rw [x2, y2]; rfl
end
theorem cl_own {d : D} (h : cl d = true) : ∀ k, d ≠ .own k := fun k e => by subst e; cases h
theorem cl_peek {d : D} (h : cl d = true) (s : Sto) : peek s d = d := by
  cases d with
  | own k => cases h
  | _ => rfl
theorem plain_cl {d : D} (s : Sto) (h : cl d = true) (hd : dpD d ≤ 64) : plainPy s d = some (py d) := by
  obtain ⟨a, b⟩ := cl_low d h
  unfold plainPy
  rw [cl_peek h]
  have : SeqAt.shaped (py d) = true := Bool.and_eq_true_iff.mpr ⟨b, decide_eq_true hd⟩
  rw [a, this]
  rfl
theorem eqO_cl {neg : Bool} {s : Sto} {d e : D} (h1 : cl d = true) (h2 : cl e = true) (d1 : dpD d ≤ 64) (d2 : dpD e ≤ 64) : eqO neg s d e = some (.bl (ng neg (decide (d = e)))) := by
  have p1 := plain_cl s h1 d1
  have p2 := plain_cl s h2 d2
  have q : deepB s d e = some (decide (d = e)) := by
    unfold deepB
    rw [p1, p2]
    show some _ = _
    congr 1
    have := eqv_iff d e h1 h2
    by_cases c : d = e
    · rw [decide_eq_true c]; exact this.mpr c
    · rw [decide_eq_false c]; exact Bool.eq_false_iff.mpr fun z => c (this.mp z)
  have key : eqBo s d e = some (decide (d = e)) := by
    unfold eqBo
    cases hs : scD d with
    | none => simp only [q]
    | some x =>
      cases ht : scD e with
      | none => simp only [q]
      | some y =>
        simp only [q]
        split
        · congr 1
          cases d with
          | non => cases hs; cases e <;> first | cases h2; done | cases ht; done | (cases ht; first | rfl | simp)
          | int i => cases hs; cases e <;> first | cases h2; done | cases ht; done | (cases ht; first | rfl | simp)
          | str z => cases hs; cases e <;> first | cases h2; done | cases ht; done | (cases ht; first | rfl | simp)
          | _ => first | cases hs; done | cases h1
        · rfl
  unfold eqO
  rw [key]
  rfl
theorem dp_non : dpD .non = 0 := by simp [dpD, py, PyData.depth]
theorem dp_int (i : Int) : dpD (.int i) = 0 := by simp [dpD, py, PyData.depth]
theorem dp_str (x : Str) : dpD (.str x) = 0 := by simp [dpD, py, PyData.depth]
theorem dp_tup (xs : List D) : dpD (.tup xs) = dpsD xs + 1 := by simp [dpD, dpsD, py, PyData.depth]
theorem dps_nil : dpsD [] = 0 := by simp [dpsD, pyAll, PyData.depthAll]
theorem dps_cons (x : D) (xs : List D) : dpsD (x :: xs) = max (dpD x) (dpsD xs) := by simp [dpsD, dpD, pyAll, PyData.depthAll]
theorem dps_le {n : Nat} : ∀ {ds : List D}, (∀ d ∈ ds, dpD d ≤ n) → dpsD ds ≤ n
  | [], _ => by rw [dps_nil]; exact Nat.zero_le _
  | d :: ds, h => by
    have a := h d List.mem_cons_self
    have b := dps_le (ds := ds) fun x hx => h x (List.mem_cons_of_mem _ hx)
    rw [dps_cons]
    omega
end PD

set_option Elab.async false
set_option linter.all false
set_option maxRecDepth 100000
set_option maxHeartbeats 8000000
namespace Pr
open PySem PySem.Spec PyProof.Rows L2 PD
def topS (i : Nat) : Stmt := PySem.Challenge.pw_fieldrest_k02_kinds.main.body.getD i (.Pass ⟨0, 0, 0, 0⟩)
/-! is_blank_number -/
theorem sc_is_blank_number : FnScope [("thing" : PySem.Str)] [("thing" : PySem.Str)] (defScope (topS 6)) := ⟨rfl, rfl, rfl, by decide +kernel, rfl, by decide +kernel, by decide +kernel⟩
noncomputable def g_is_blank_number : SD := (retS (fAndV (f1 (isiO "int") (fVar 0)) (fAndV (f1 notO (f1 (isiO "bool") (fVar 0))) (f2 geO (fVar 0) (fC (.int 0))))))
noncomputable def D_is_blank_number : List D → M D := fnD false 1 g_is_blank_number
/-! is_word -/
theorem sc_is_word : FnScope [("thing" : PySem.Str), ("sign" : PySem.Str)] [("thing" : PySem.Str)] (defScope (topS 8)) := ⟨rfl, rfl, rfl, by decide +kernel, rfl, by decide +kernel, by decide +kernel⟩
noncomputable def g_is_word : SD := (retS (fAndV (f1 (isiO "str") (fVar 0)) (fAndV (fChain leO leO (fC (.int 1)) (fN lenO (fCons (fVar 0) fNil)) (fC (.int 8))) (fAllS "is_word" (fun c => !decide ([c] < (PySem.Str.ofString "a").cps.toList) && !decide ((PySem.Str.ofString "z").cps.toList < [c])) (fVar 0)))))
noncomputable def D_is_word : List D → M D := fnD false 2 g_is_word
/-! are_fields -/
theorem sc_are_fields : FnScope [("thing" : PySem.Str), ("labels" : PySem.Str), ("pair" : PySem.Str)] [("thing" : PySem.Str)] (defScope (topS 7)) := ⟨rfl, rfl, rfl, by decide +kernel, rfl, by decide +kernel, by decide +kernel⟩
noncomputable def g_are_fields : SD := (seqS (ifS (fNot (fTru (f1 (isiO "tuple") (fVar 0)))) (retS (fC (.bl false))) nextS)
    (seqS (setS 1 (fOwn fNil))
    (seqS (forS (tdName 2) (fIt (fVar 0)) (seqS (ifS (fOr (fNot (fTru (f1 (isiO "tuple") (fVar 2)))) (fOr (fB (f2 (eqO true) (fN lenO (fCons (fVar 2) fNil)) (fC (.int 2)))) (fNot (fTru (fCall 1 D_is_word (fCons (f2 ixO (fVar 2) (fC (.int 0))) fNil)))))) (retS (fC (.bl false))) nextS)
    (seqS (ifS (fAnd (fTru (fVar 1)) (fB (f2 leO (f2 ixO (fVar 2) (fC (.int 0))) (f2 ixO (fVar 1) (f1 negO (fC (.int 1))))))) (retS (fC (.bl false))) nextS)
    (exprS (fM1 appendM (fVar 1) (fCons (f2 ixO (fVar 2) (fC (.int 0))) fNil))))))
    (retS (fC (.bl true))))))
noncomputable def D_are_fields : List D → M D := fnD false 3 g_are_fields
/-! is_knot -/
theorem sc_is_knot : FnScope [("thing" : PySem.Str)] [("thing" : PySem.Str)] (defScope (topS 5)) := ⟨rfl, rfl, rfl, by decide +kernel, rfl, by decide +kernel, by decide +kernel⟩
noncomputable def g_is_knot : SD := (seqS (ifS (fOr (fNot (fTru (f1 (isiO "tuple") (fVar 0)))) (fB (f2 (eqO false) (fN lenO (fCons (fVar 0) fNil)) (fC (.int 0))))) (retS (fC (.bl false))) nextS)
    (seqS (ifS (fB (f2 (eqO false) (f2 ixO (fVar 0) (fC (.int 0))) (fC (.str (PySem.Str.ofString "number"))))) (retS (f2 (eqO false) (fN lenO (fCons (fVar 0) fNil)) (fC (.int 1)))) nextS)
    (seqS (ifS (fB (f2 (eqO false) (f2 ixO (fVar 0) (fC (.int 0))) (fC (.str (PySem.Str.ofString "blank"))))) (retS (fAndV (f2 (eqO false) (fN lenO (fCons (fVar 0) fNil)) (fC (.int 2))) (fCall 1 D_is_blank_number (fCons (f2 ixO (fVar 0) (fC (.int 1))) fNil)))) nextS)
    (seqS (ifS (fAnd (fB (f2 (eqO false) (f2 ixO (fVar 0) (fC (.int 0))) (fC (.str (PySem.Str.ofString "record"))))) (fB (f2 (eqO false) (fN lenO (fCons (fVar 0) fNil)) (fC (.int 3))))) (retS (fAndV (fCall 1 D_are_fields (fCons (f2 ixO (fVar 0) (fC (.int 1))) fNil)) (fOrV (f2 (isNO false) (f2 ixO (fVar 0) (fC (.int 2))) (fC .non)) (fCall 1 D_is_blank_number (fCons (f2 ixO (fVar 0) (fC (.int 2))) fNil))))) nextS)
    (retS (fC (.bl false)))))))
noncomputable def D_is_knot : List D → M D := fnD false 1 g_is_knot
/-! kinds_within -/
theorem sc_kinds_within : FnScope [("kind" : PySem.Str), ("label" : PySem.Str), ("inner" : PySem.Str)] [("kind" : PySem.Str)] (defScope (topS 9)) := ⟨rfl, rfl, rfl, by decide +kernel, rfl, by decide +kernel, by decide +kernel⟩
noncomputable def g_kinds_within : SD := (retS (fIf (fB (f2 (eqO false) (f2 ixO (fVar 0) (fC (.int 0))) (fC (.str (PySem.Str.ofString "record"))))) (fLc (tdTup (tdCons (tdName 1) (tdCons (tdName 2) tdNil))) fYes (fVar 2) (fIt (f2 ixO (fVar 0) (fC (.int 1)))) [1, 2]) (fLst fNil)))
noncomputable def D_kinds_within : List D → M D := fnD false 3 g_kinds_within
/-! has_form -/
theorem sc_has_form : FnScope [("thing" : PySem.Str), ("most" : PySem.Str), ("waiting" : PySem.Str), ("knots" : PySem.Str), ("here" : PySem.Str), ("deep" : PySem.Str), ("inner" : PySem.Str)] [("thing" : PySem.Str), ("most" : PySem.Str)] (defScope (topS 4)) := ⟨rfl, rfl, rfl, by decide +kernel, rfl, by decide +kernel, by decide +kernel⟩
noncomputable def g_has_form : SD := (seqS (setS 2 (fOwn (fCons (fTup (fCons (fVar 0) (fCons (fC (.int 1)) fNil))) fNil)))
    (seqS (setS 3 (fC (.int 0)))
    (seqS (whileS (fTru (fVar 2)) (seqS (asgS (tdTup (tdCons (tdName 4) (tdCons (tdName 5) tdNil))) (fM0 popM (fVar 2)))
    (seqS (augS 3 (fun i j => i + j) (fC (.int 1)))
    (seqS (ifS (fAnd (fB (f2 (isNO true) (fVar 1) (fC .non))) (fB (f2 gtO (fVar 3) (fVar 1)))) (retS (fC (.bl false))) nextS)
    (seqS (ifS (fOr (fB (f2 gtO (fVar 5) (fC (.int 12)))) (fNot (fTru (fCall 1 D_is_knot (fCons (fVar 4) fNil))))) (retS (fC (.bl false))) nextS)
    (exprS (fM1 extendM (fVar 2) (fCons (fLc (tdName 6) fYes (fTup (fCons (fVar 6) (fCons (f2 addO (fVar 5) (fC (.int 1))) fNil))) (fIt (fCall 1 D_kinds_within (fCons (fVar 4) fNil))) [6]) fNil))))))))
    (retS (fC (.bl true))))))
noncomputable def D_has_form : List D → M D := fnD false 7 g_has_form
/-! number_right_in -/
theorem sc_number_right_in : FnScope [("kind" : PySem.Str)] [("kind" : PySem.Str)] (defScope (topS 11)) := ⟨rfl, rfl, rfl, by decide +kernel, rfl, by decide +kernel, by decide +kernel⟩
noncomputable def g_number_right_in : SD := (seqS (ifS (fB (f2 (eqO false) (f2 ixO (fVar 0) (fC (.int 0))) (fC (.str (PySem.Str.ofString "blank"))))) (retS (f2 ixO (fVar 0) (fC (.int 1)))) nextS)
    (retS (fIf (fB (f2 (eqO false) (f2 ixO (fVar 0) (fC (.int 0))) (fC (.str (PySem.Str.ofString "record"))))) (f2 ixO (fVar 0) (fC (.int 2))) (fC .non))))
noncomputable def D_number_right_in : List D → M D := fnD false 1 g_number_right_in
/-! standing -/
theorem sc_standing : FnScope [("kinds" : PySem.Str), ("found" : PySem.Str), ("waiting" : PySem.Str), ("kind" : PySem.Str), ("number" : PySem.Str), ("ahead" : PySem.Str), ("label" : PySem.Str), ("inner" : PySem.Str)] [("kinds" : PySem.Str)] (defScope (topS 10)) := ⟨rfl, rfl, rfl, by decide +kernel, rfl, by decide +kernel, by decide +kernel⟩
noncomputable def g_standing : SD := (seqS (setS 1 fDNew)
    (seqS (setS 2 (fNM listOwnO (fCons (fVar 0) fNil)))
    (seqS (whileS (fTru (fVar 2)) (seqS (setS 3 (fM0 popM (fVar 2)))
    (seqS (exprS (fM1 extendM (fVar 2) (fCons (fCall 1 D_kinds_within (fCons (fVar 3) fNil)) fNil)))
    (seqS (setS 4 (fCall 1 D_number_right_in (fCons (fVar 3) fNil)))
    (ifS (fB (f2 (isNO true) (fVar 4) (fC .non))) (seqS (setS 5 (fIf (fB (f2 (eqO false) (f2 ixO (fVar 3) (fC (.int 0))) (fC (.str (PySem.Str.ofString "record"))))) (fN tupleO (fCons (fLc (tdTup (tdCons (tdName 6) (tdCons (tdName 7) tdNil))) fYes (fVar 6) (fIt (f2 ixO (fVar 3) (fC (.int 1)))) [6, 7]) fNil)) (fC .non)))
    (seqS (ifS (fAnd (fB (f2 (dinO false) (fVar 4) (fVar 1))) (fB (f2 (eqO true) (f2 dgetO (fVar 1) (fVar 4)) (fVar 5)))) (retS (fC .non)) nextS)
    (putIxS (fVar 5) (fVar 1) (fVar 4)))) nextS)))))
    (retS (fVar 1)))))
noncomputable def D_standing : List D → M D := fnD true 8 g_standing
/-! is_kind -/
theorem sc_is_kind : FnScope [("thing" : PySem.Str)] [("thing" : PySem.Str)] (defScope (topS 3)) := ⟨rfl, rfl, rfl, by decide +kernel, rfl, by decide +kernel, by decide +kernel⟩
noncomputable def g_is_kind : SD := (retS (fAndV (fCall 2 D_has_form (fCons (fVar 0) (fCons (fC (.int 200)) fNil))) (f2 (isNO true) (fCall 1 D_standing (fCons (fLst (fCons (fVar 0) fNil)) fNil)) (fC .non))))
noncomputable def D_is_kind : List D → M D := fnD false 1 g_is_kind
/-! cell -/
theorem sc_cell : FnScope [("_law_script" : PySem.Str), ("_law_k" : PySem.Str)] [("_law_script" : PySem.Str), ("_law_k" : PySem.Str)] (defScope (topS 13)) := ⟨rfl, rfl, rfl, by decide +kernel, rfl, by decide +kernel, by decide +kernel⟩
noncomputable def g_cell : SD := (seqS (ifS (fB (f2 ltO (fVar 1) (fN lenO (fCons (fVar 0) fNil)))) (retS (f2 modO (f2 mulO (f2 ixO (fVar 0) (fVar 1)) (fC (.int 48271))) (fC (.int 2147483647)))) nextS)
    (retS (fC (.int 0))))
noncomputable def D_cell : List D → M D := fnD false 2 g_cell
/-! next -/
theorem sc_next : FnScope [("_law_state" : PySem.Str)] [("_law_state" : PySem.Str)] (defScope (topS 14)) := ⟨rfl, rfl, rfl, by decide +kernel, rfl, by decide +kernel, by decide +kernel⟩
noncomputable def g_next : SD := (seqS (setIxS (f2 modO (f2 addO (f2 mulO (f2 ixO (fVar 0) (fC (.int 0))) (fC (.int 48271))) (fC (.int 11))) (fC (.int 2147483647))) (fVar 0) (fC (.int 0)))
    (seqS (setIxS (f2 subO (f2 ixO (fVar 0) (fC (.int 1))) (fC (.int 1))) (fVar 0) (fC (.int 1)))
    (retS (f2 fdivO (f2 ixO (fVar 0) (fC (.int 0))) (fC (.int 7))))))
noncomputable def D_next : List D → M D := fnD false 1 g_next
/-! labels -/
theorem sc_labels : FnScope [("_law_cell_here" : PySem.Str), ("_law_many" : PySem.Str), ("_law_signs" : PySem.Str), ("_law_size" : PySem.Str), ("_law_at" : PySem.Str), ("_law_step" : PySem.Str), ("_law_base" : PySem.Str), ("_law_k" : PySem.Str), ("_law_found" : PySem.Str), ("_law_sign" : PySem.Str)] [("_law_cell_here" : PySem.Str), ("_law_many" : PySem.Str)] (defScope (topS 15)) := ⟨rfl, rfl, rfl, by decide +kernel, rfl, by decide +kernel, by decide +kernel⟩
noncomputable def g_labels : SD := (seqS (setS 2 (fC (.str (PySem.Str.ofString "abcdefghijklmnopqrstuvwxyz"))))
    (seqS (setS 3 (f2 modO (fVar 0) (fC (.int 7))))
    (seqS (setS 4 (f2 modO (f2 fdivO (fVar 0) (fC (.int 7))) (f2 addO (fVar 3) (fC (.int 1)))))
    (seqS (setS 5 (f2 modO (f2 fdivO (fVar 0) (fC (.int 49))) (fC (.int 26))))
    (seqS (setS 6 (fJoin (fC (.str (PySem.Str.ofString ""))) (fLc (tdName 7) fYes (f2 ixO (fVar 2) (f2 modO (f2 addO (fVar 5) (f2 mulO (f2 fdivO (fVar 0) (fC (.int 1274))) (fVar 7))) (fC (.int 26)))) (fRng1 (fVar 3)) [7])))
    (seqS (setS 8 (fOwn fNil))
    (seqS (forS (tdName 7) (fRng1 (fVar 1)) (seqS (setS 9 (f2 ixO (fVar 2) (f2 modO (f2 addO (f2 fdivO (fVar 0) (fC (.int 49))) (f2 mulO (fC (.int 3)) (fVar 7))) (fC (.int 26)))))
    (exprS (fM1 appendM (fVar 8) (fCons (f2 addO (f2 addO (fSl (fVar 6) fNo (fSome (fVar 4))) (fVar 9)) (fSl (fVar 6) (fSome (fVar 4)) fNo)) fNil)))))
    (retS (fVar 8)))))))))
noncomputable def D_labels : List D → M D := fnD false 10 g_labels
/-! kind -/
theorem sc_kind : FnScope [("_law_state" : PySem.Str), ("_law_labels_here" : PySem.Str), ("_law_met" : PySem.Str), ("_law_left" : PySem.Str), ("_law_number_here" : PySem.Str), ("_law_picked" : PySem.Str), ("_law_words" : PySem.Str), ("_law_label" : PySem.Str), ("_law_fields" : PySem.Str)] [("_law_state" : PySem.Str), ("_law_labels_here" : PySem.Str), ("_law_met" : PySem.Str), ("_law_left" : PySem.Str)] (defScope (topS 16)) := ⟨rfl, rfl, rfl, by decide +kernel, rfl, by decide +kernel, by decide +kernel⟩
noncomputable def g_kind (D_kind : List D → M D) : SD := (seqS (setS 4 (fCall 1 D_next (fCons (fVar 0) fNil)))
    (seqS (ifS (fOr (fB (f2 leO (fVar 3) (fC (.int 1)))) (fOr (fB (f2 leO (f2 ixO (fVar 0) (fC (.int 1))) (fC (.int 0)))) (fB (f2 ltO (f2 modO (fVar 4) (fC (.int 7))) (fC (.int 2)))))) (retS (fTup (fCons (fC (.str (PySem.Str.ofString "number"))) fNil))) nextS)
    (seqS (ifS (fB (f2 (eqO false) (f2 modO (fVar 4) (fC (.int 7))) (fC (.int 2)))) (retS (fTup (fCons (fC (.str (PySem.Str.ofString "blank"))) (fCons (f2 mulO (f2 mulO (f2 ixO (fVar 2) (fC (.int 0))) (fC (.int 2))) (f2 modO (f2 fdivO (fVar 4) (fC (.int 7))) (fC (.int 3)))) fNil)))) nextS)
    (seqS (setS 5 (fSl (fLst (fCons (f2 ixO (fVar 1) (f2 modO (f2 fdivO (fVar 4) (fC (.int 7))) (fC (.int 4)))) (fCons (f2 ixO (fVar 1) (f2 modO (f2 fdivO (fVar 4) (fC (.int 28))) (fC (.int 4)))) (fCons (f2 ixO (fVar 1) (f2 modO (f2 fdivO (fVar 4) (fC (.int 112))) (fC (.int 4)))) fNil)))) fNo (fSome (f2 modO (f2 fdivO (fVar 4) (fC (.int 448))) (fC (.int 4))))))
    (seqS (setS 6 (fLc (tdName 7) (fB (f2 (inO false) (fVar 7) (fVar 5))) (fVar 7) (fIt (fN sortedO (fCons (fVar 1) fNil))) [7]))
    (seqS (setS 8 (fN tupleO (fCons (fLc (tdName 7) fYes (fTup (fCons (fVar 7) (fCons (fCall 4 D_kind (fCons (fVar 0) (fCons (fVar 1) (fCons (fVar 2) (fCons (f2 subO (fVar 3) (fC (.int 1))) fNil))))) fNil))) (fIt (fVar 6)) [7]) fNil)))
    (seqS (ifS (fB (f2 (eqO false) (f2 modO (f2 fdivO (fVar 4) (fC (.int 1792))) (fC (.int 2))) (fC (.int 0)))) (retS (fTup (fCons (fC (.str (PySem.Str.ofString "record"))) (fCons (fVar 8) (fCons (fC .non) fNil))))) nextS)
    (seqS (ifS (fB (f2 (inO true) (fVar 6) (f2 ixO (fVar 2) (fC (.int 1))))) (exprS (fM1 appendM (f2 ixO (fVar 2) (fC (.int 1))) (fCons (fVar 6) fNil))) nextS)
    (retS (fTup (fCons (fC (.str (PySem.Str.ofString "record"))) (fCons (fVar 8) (fCons (f2 mulO (f2 ixO (fVar 2) (fC (.int 0))) (f2 addO (fC (.int 1)) (f2 mulO (fC (.int 2)) (fMP isLs indexO (f2 ixO (fVar 2) (fC (.int 1))) (fCons (fVar 6) fNil))))) fNil)))))))))))))
noncomputable def R_kind : Nat → (List D → M D)
  | 0 => fun _ _ => none
  | n + 1 => fnD false 9 (g_kind (R_kind n))
noncomputable def D_kind : List D → M D := (R_kind 14)
/-! odd -/
theorem sc_odd : FnScope [("_law_number_here" : PySem.Str), ("_law_inner" : PySem.Str), ("_law_some" : PySem.Str)] [("_law_number_here" : PySem.Str), ("_law_inner" : PySem.Str)] (defScope (topS 17)) := ⟨rfl, rfl, rfl, by decide +kernel, rfl, by decide +kernel, by decide +kernel⟩
noncomputable def g_odd : SD := (seqS (setS 2 (fLst (fCons (fC .non) (fCons (fC (.bl true)) (fCons (fC (.int 0)) (fCons (fC (.str (PySem.Str.ofString "number"))) (fCons (fLst fNil) (fCons (fTup fNil) (fCons (fTup (fCons (fC (.str (PySem.Str.ofString "number"))) (fCons (fC (.int 1)) fNil))) (fCons (fTup (fCons (fC (.str (PySem.Str.ofString "number"))) fNil)) (fCons (fLst (fCons (fC (.str (PySem.Str.ofString "number"))) fNil)) (fCons (fTup (fCons (fC (.str (PySem.Str.ofString "blank"))) fNil)) (fCons (fTup (fCons (fC (.str (PySem.Str.ofString "blank"))) (fCons (f1 negO (fC (.int 1))) fNil))) fNil)))))))))))))
    (seqS (setS 2 (f2 addO (fVar 2) (fLst (fCons (fTup (fCons (fC (.str (PySem.Str.ofString "blank"))) (fCons (fC (.bl true)) fNil))) (fCons (fTup (fCons (fC (.str (PySem.Str.ofString "blank"))) (fCons (fC (.str (PySem.Str.ofString "0"))) fNil))) (fCons (fTup (fCons (fC (.str (PySem.Str.ofString "blank"))) (fCons (fC (.int 0)) fNil))) (fCons (fTup (fCons (fC (.str (PySem.Str.ofString "blank"))) (fCons (fC (.int 7)) (fCons (fC (.int 7)) fNil)))) fNil)))))))
    (seqS (setS 2 (f2 addO (fVar 2) (fLst (fCons (fTup (fCons (fC (.str (PySem.Str.ofString "blanks"))) (fCons (fC (.int 7)) fNil))) (fCons (fTup (fCons (fC (.str (PySem.Str.ofString "Number"))) fNil)) (fCons (fTup (fCons (fC (.str (PySem.Str.ofString "n"))) fNil)) fNil))))))
    (seqS (setS 2 (f2 addO (fVar 2) (fLst (fCons (fTup (fCons (fC (.str (PySem.Str.ofString "record"))) (fCons (fTup fNil) (fCons (fC .non) fNil)))) (fCons (fTup (fCons (fC (.str (PySem.Str.ofString "record"))) (fCons (fLst fNil) (fCons (fC .non) fNil)))) (fCons (fTup (fCons (fC (.str (PySem.Str.ofString "record"))) (fCons (fTup fNil) fNil))) fNil))))))
    (seqS (setS 2 (f2 addO (fVar 2) (fLst (fCons (fTup (fCons (fC (.str (PySem.Str.ofString "record"))) (fCons (fTup fNil) (fCons (fC (.bl true)) fNil)))) (fCons (fTup (fCons (fC (.str (PySem.Str.ofString "record"))) (fCons (fTup fNil) (fCons (f1 negO (fC (.int 1))) fNil)))) fNil)))))
    (seqS (setS 2 (f2 addO (fVar 2) (fLst (fCons (fTup (fCons (fC (.str (PySem.Str.ofString "record"))) (fCons (fTup fNil) (fCons (fC (.str (PySem.Str.ofString "1"))) fNil)))) (fCons (fTup (fCons (fC (.str (PySem.Str.ofString "record"))) (fCons (fTup fNil) (fCons (fC (.int 7)) fNil)))) (fCons (fTup (fCons (fC (.str (PySem.Str.ofString "record"))) (fCons (fTup (fCons (fTup (fCons (fC (.str (PySem.Str.ofString "a"))) (fCons (fVar 1) fNil))) fNil)) (fCons (fC (.int 7)) fNil)))) (fCons (fTup (fCons (fC (.str (PySem.Str.ofString "record"))) (fCons (fTup (fCons (fC (.str (PySem.Str.ofString "a"))) fNil)) (fCons (fC .non) fNil)))) fNil)))))))
    (seqS (setS 2 (f2 addO (fVar 2) (fLst (fCons (fTup (fCons (fC (.str (PySem.Str.ofString "record"))) (fCons (fTup (fCons (fTup (fCons (fC (.str (PySem.Str.ofString "b"))) (fCons (fVar 1) fNil))) (fCons (fTup (fCons (fC (.str (PySem.Str.ofString "a"))) (fCons (fVar 1) fNil))) fNil))) (fCons (fC .non) fNil)))) (fCons (fTup (fCons (fC (.str (PySem.Str.ofString "record"))) (fCons (fTup (fCons (fTup (fCons (fC (.str (PySem.Str.ofString "a"))) (fCons (fVar 1) fNil))) (fCons (fTup (fCons (fC (.str (PySem.Str.ofString "a"))) (fCons (fVar 1) fNil))) fNil))) (fCons (fC .non) fNil)))) fNil)))))
    (seqS (setS 2 (f2 addO (fVar 2) (fLst (fCons (fTup (fCons (fC (.str (PySem.Str.ofString "record"))) (fCons (fTup (fCons (fTup (fCons (fC (.str (PySem.Str.ofString ""))) (fCons (fVar 1) fNil))) fNil)) (fCons (fC .non) fNil)))) (fCons (fTup (fCons (fC (.str (PySem.Str.ofString "record"))) (fCons (fTup (fCons (fTup (fCons (fC (.str (PySem.Str.ofString "abcdefghi"))) (fCons (fVar 1) fNil))) fNil)) (fCons (fC .non) fNil)))) fNil)))))
    (seqS (setS 2 (f2 addO (fVar 2) (fLst (fCons (fTup (fCons (fC (.str (PySem.Str.ofString "record"))) (fCons (fTup (fCons (fTup (fCons (fC (.str (PySem.Str.ofString "abcdefgh"))) (fCons (fVar 1) fNil))) fNil)) (fCons (fC .non) fNil)))) (fCons (fTup (fCons (fC (.str (PySem.Str.ofString "record"))) (fCons (fTup (fCons (fTup (fCons (fC (.str (PySem.Str.ofString "A"))) (fCons (fVar 1) fNil))) fNil)) (fCons (fC .non) fNil)))) fNil)))))
    (seqS (setS 2 (f2 addO (fVar 2) (fLst (fCons (fTup (fCons (fC (.str (PySem.Str.ofString "record"))) (fCons (fTup (fCons (fTup (fCons (fC (.str (PySem.Str.ofString "a1"))) (fCons (fVar 1) fNil))) fNil)) (fCons (fC .non) fNil)))) (fCons (fTup (fCons (fC (.str (PySem.Str.ofString "record"))) (fCons (fTup (fCons (fTup (fCons (fC (.int 5)) (fCons (fVar 1) fNil))) fNil)) (fCons (fC .non) fNil)))) fNil)))))
    (seqS (setS 2 (f2 addO (fVar 2) (fLst (fCons (fTup (fCons (fC (.str (PySem.Str.ofString "record"))) (fCons (fTup (fCons (fTup (fCons (fC .non) (fCons (fVar 1) fNil))) fNil)) (fCons (fC .non) fNil)))) fNil))))
    (seqS (setS 2 (f2 addO (fVar 2) (fLst (fCons (fTup (fCons (fC (.str (PySem.Str.ofString "record"))) (fCons (fTup (fCons (fLst (fCons (fC (.str (PySem.Str.ofString "a"))) (fCons (fVar 1) fNil))) fNil)) (fCons (fC .non) fNil)))) (fCons (fTup (fCons (fC (.str (PySem.Str.ofString "record"))) (fCons (fTup (fCons (fTup (fCons (fC (.str (PySem.Str.ofString "a"))) (fCons (fVar 1) (fCons (fC (.int 1)) fNil)))) fNil)) (fCons (fC .non) fNil)))) fNil)))))
    (seqS (setS 2 (f2 addO (fVar 2) (fLst (fCons (fTup (fCons (fC (.str (PySem.Str.ofString "record"))) (fCons (fTup (fCons (fTup (fCons (fC (.str (PySem.Str.ofString "a"))) fNil)) fNil)) (fCons (fC .non) fNil)))) fNil))))
    (seqS (setS 2 (f2 addO (fVar 2) (fLst (fCons (fTup (fCons (fC (.str (PySem.Str.ofString "record"))) (fCons (fTup (fCons (fTup (fCons (fC (.str (PySem.Str.ofString "a"))) (fCons (fTup (fCons (fC (.str (PySem.Str.ofString "blank"))) (fCons (fC (.int 8)) fNil))) fNil))) (fCons (fTup (fCons (fC (.str (PySem.Str.ofString "b"))) (fCons (fTup (fCons (fC (.str (PySem.Str.ofString "blank"))) (fCons (fC (.int 8)) fNil))) fNil))) fNil))) (fCons (fC (.int 8)) fNil)))) (fCons (fTup (fCons (fC (.str (PySem.Str.ofString "record"))) (fCons (fTup (fCons (fTup (fCons (fC (.str (PySem.Str.ofString "a"))) (fCons (fVar 1) fNil))) fNil)) (fCons (fC .non) (fCons (fC (.int 1)) fNil))))) fNil)))))
    (seqS (setS 2 (f2 addO (fVar 2) (fLst (fCons (fTup (fCons (fC (.str (PySem.Str.ofString "record"))) (fCons (fTup (fCons (fTup (fCons (fC (.str (PySem.Str.ofString "a"))) (fCons (fTup (fCons (fC (.str (PySem.Str.ofString "record"))) (fCons (fTup fNil) (fCons (fC (.int 9)) fNil)))) fNil))) fNil)) (fCons (fC (.int 9)) fNil)))) (fCons (fTup (fCons (fC (.str (PySem.Str.ofString "record"))) (fCons (fTup (fCons (fTup (fCons (fC (.str (PySem.Str.ofString "a"))) (fCons (fTup (fCons (fC (.str (PySem.Str.ofString "blank"))) (fCons (fC (.int 9)) fNil))) fNil))) fNil)) (fCons (fC (.int 10)) fNil)))) fNil)))))
    (seqS (setS 2 (f2 addO (fVar 2) (fLst (fCons (fTup (fCons (fC (.str (PySem.Str.ofString "records"))) (fCons (fTup fNil) (fCons (fC .non) fNil)))) fNil))))
    (seqS (setS 2 (f2 addO (fVar 2) (fLst (fCons (fTup (fCons (fC (.str (PySem.Str.ofString "record"))) (fCons (fTup (fCons (fTup (fCons (fC (.str (PySem.Str.ofString "a"))) (fCons (fTup (fCons (fC (.str (PySem.Str.ofString "record"))) (fCons (fTup (fCons (fTup (fCons (fC (.str (PySem.Str.ofString "a"))) (fCons (fVar 1) fNil))) fNil)) (fCons (fC (.int 9)) fNil)))) fNil))) fNil)) (fCons (fC (.int 9)) fNil)))) (fCons (fTup (fCons (fC (.int 5)) fNil)) (fCons (fTup (fCons (fC .non) (fCons (fC (.int 1)) fNil))) (fCons (fTup (fCons (fC (.str (PySem.Str.ofString "record"))) (fCons (fC .non) (fCons (fC .non) fNil)))) fNil)))))))
    (retS (f2 ixO (fVar 2) (f2 modO (fVar 0) (fN lenO (fCons (fVar 2) fNil))))))))))))))))))))))
noncomputable def D_odd : List D → M D := fnD false 3 g_odd
/-! changed -/
theorem sc_changed : FnScope [("_law_kind_here" : PySem.Str), ("_law_path" : PySem.Str), ("_law_odd_here" : PySem.Str), ("_law_at" : PySem.Str), ("_law_inner" : PySem.Str)] [("_law_kind_here" : PySem.Str), ("_law_path" : PySem.Str), ("_law_odd_here" : PySem.Str)] (defScope (topS 18)) := ⟨rfl, rfl, rfl, by decide +kernel, rfl, by decide +kernel, by decide +kernel⟩
noncomputable def g_changed (D_changed : List D → M D) : SD := (seqS (ifS (fOr (fB (f2 (eqO true) (f2 ixO (fVar 0) (fC (.int 0))) (fC (.str (PySem.Str.ofString "record"))))) (fOr (fB (f2 (eqO false) (f2 ixO (fVar 0) (fC (.int 1))) (fTup fNil))) (fB (f2 (eqO false) (f2 modO (fVar 1) (fC (.int 4))) (fC (.int 0)))))) (retS (fVar 2)) nextS)
    (seqS (setS 3 (f2 modO (f2 fdivO (fVar 1) (fC (.int 4))) (fN lenO (fCons (f2 ixO (fVar 0) (fC (.int 1))) fNil))))
    (seqS (setS 4 (fTup (fCons (f2 ixO (f2 ixO (f2 ixO (fVar 0) (fC (.int 1))) (fVar 3)) (fC (.int 0))) (fCons (fCall 3 D_changed (fCons (f2 ixO (f2 ixO (f2 ixO (fVar 0) (fC (.int 1))) (fVar 3)) (fC (.int 1))) (fCons (f2 fdivO (fVar 1) (fC (.int 16))) (fCons (fVar 2) fNil)))) fNil))))
    (retS (fTup (fCons (fC (.str (PySem.Str.ofString "record"))) (fCons (f2 addO (f2 addO (fSl (f2 ixO (fVar 0) (fC (.int 1))) fNo (fSome (fVar 3))) (fTup (fCons (fVar 4) fNil))) (fSl (f2 ixO (fVar 0) (fC (.int 1))) (fSome (f2 addO (fVar 3) (fC (.int 1)))) fNo)) (fCons (f2 ixO (fVar 0) (fC (.int 2))) fNil))))))))
noncomputable def R_changed : Nat → (List D → M D)
  | 0 => fun _ _ => none
  | n + 1 => fnD false 5 (g_changed (R_changed n))
noncomputable def D_changed : List D → M D := (R_changed 20)
/-! word -/
theorem sc_word : FnScope [("_law_thing_here" : PySem.Str), ("_law_sign" : PySem.Str)] [("_law_thing_here" : PySem.Str)] (defScope (topS 19)) := ⟨rfl, rfl, rfl, by decide +kernel, rfl, by decide +kernel, by decide +kernel⟩
noncomputable def g_word : SD := (seqS (ifS (fOr (fNot (fTru (f1 (isiO "str") (fVar 0)))) (fNot (fB (fChain leO leO (fC (.int 1)) (fN lenO (fCons (fVar 0) fNil)) (fC (.int 8)))))) (retS (fC (.bl false))) nextS)
    (retS (fN allO (fCons (fLc (tdName 1) fYes (f2 (insO false) (fVar 1) (fC (.str (PySem.Str.ofString "abcdefghijklmnopqrstuvwxyz")))) (fItS (fVar 0)) [1]) fNil))))
noncomputable def D_word : List D → M D := fnD false 2 g_word
/-! number -/
theorem sc_number : FnScope [("_law_thing_here" : PySem.Str)] [("_law_thing_here" : PySem.Str)] (defScope (topS 20)) := ⟨rfl, rfl, rfl, by decide +kernel, rfl, by decide +kernel, by decide +kernel⟩
noncomputable def g_number : SD := (retS (fAndV (f1 (isiO "int") (fVar 0)) (fAndV (f1 notO (f1 (isiO "bool") (fVar 0))) (f2 geO (fVar 0) (fC (.int 0))))))
noncomputable def D_number : List D → M D := fnD false 1 g_number
/-! blank -/
theorem sc_blank : FnScope [("_law_seen" : PySem.Str), ("_law_number_here" : PySem.Str), ("_law_labels_here" : PySem.Str)] [("_law_seen" : PySem.Str), ("_law_number_here" : PySem.Str), ("_law_labels_here" : PySem.Str)] (defScope (topS 21)) := ⟨rfl, rfl, rfl, by decide +kernel, rfl, by decide +kernel, by decide +kernel⟩
noncomputable def g_blank : SD := (seqS (ifS (fAnd (fB (f2 (dinO false) (fVar 1) (fVar 0))) (fB (f2 (eqO true) (f2 dgetO (fVar 0) (fVar 1)) (fVar 2)))) (retS (fC (.bl false))) nextS)
    (seqS (putIxS (fVar 2) (fVar 0) (fVar 1))
    (retS (fC (.bl true)))))
noncomputable def D_blank : List D → M D := fnD false 3 g_blank
/-! good -/
theorem sc_good : FnScope [("_law_thing_here" : PySem.Str), ("_law_left" : PySem.Str), ("_law_seen" : PySem.Str), ("_law_labels_here" : PySem.Str), ("_law_pair" : PySem.Str)] [("_law_thing_here" : PySem.Str), ("_law_left" : PySem.Str), ("_law_seen" : PySem.Str)] (defScope (topS 22)) := ⟨rfl, rfl, rfl, by decide +kernel, rfl, by decide +kernel, by decide +kernel⟩
noncomputable def g_good (D_good : List D → M D) : SD := (seqS (ifS (fOr (fB (f2 (eqO false) (fVar 1) (fC (.int 0)))) (fOr (fNot (fTru (f1 (isiO "tuple") (fVar 0)))) (fOr (fB (f2 (eqO false) (fN lenO (fCons (fVar 0) fNil)) (fC (.int 0)))) (fNot (fTru (f1 (isiO "str") (f2 ixO (fVar 0) (fC (.int 0))))))))) (retS (fC (.bl false))) nextS)
    (seqS (putIxS (f2 addO (f2 dgetO (fVar 2) (f1 negO (fC (.int 1)))) (fC (.int 1))) (fVar 2) (f1 negO (fC (.int 1))))
    (seqS (ifS (fB (f2 (eqO false) (f2 ixO (fVar 0) (fC (.int 0))) (fC (.str (PySem.Str.ofString "number"))))) (retS (f2 (eqO false) (fN lenO (fCons (fVar 0) fNil)) (fC (.int 1)))) nextS)
    (seqS (ifS (fB (f2 (eqO false) (f2 ixO (fVar 0) (fC (.int 0))) (fC (.str (PySem.Str.ofString "blank"))))) (retS (fAndV (f2 (eqO false) (fN lenO (fCons (fVar 0) fNil)) (fC (.int 2))) (fAndV (fCall 1 D_number (fCons (f2 ixO (fVar 0) (fC (.int 1))) fNil)) (fCall 3 D_blank (fCons (fVar 2) (fCons (f2 ixO (fVar 0) (fC (.int 1))) (fCons (fC .non) fNil))))))) nextS)
    (seqS (ifS (fOr (fB (f2 (eqO true) (f2 ixO (fVar 0) (fC (.int 0))) (fC (.str (PySem.Str.ofString "record"))))) (fOr (fB (f2 (eqO true) (fN lenO (fCons (fVar 0) fNil)) (fC (.int 3)))) (fNot (fTru (f1 (isiO "tuple") (f2 ixO (fVar 0) (fC (.int 1)))))))) (retS (fC (.bl false))) nextS)
    (seqS (setS 3 (fOwn fNil))
    (seqS (forS (tdName 4) (fIt (f2 ixO (fVar 0) (fC (.int 1)))) (seqS (ifS (fOr (fNot (fTru (f1 (isiO "tuple") (fVar 4)))) (fOr (fB (f2 (eqO true) (fN lenO (fCons (fVar 4) fNil)) (fC (.int 2)))) (fNot (fTru (fCall 1 D_word (fCons (f2 ixO (fVar 4) (fC (.int 0))) fNil)))))) (retS (fC (.bl false))) nextS)
    (seqS (ifS (fOr (fAnd (fB (f2 (eqO true) (fVar 3) (fLst fNil))) (fB (f2 geO (f2 ixO (fVar 3) (f1 negO (fC (.int 1)))) (f2 ixO (fVar 4) (fC (.int 0)))))) (fNot (fTru (fCall 3 D_good (fCons (f2 ixO (fVar 4) (fC (.int 1))) (fCons (f2 subO (fVar 1) (fC (.int 1))) (fCons (fVar 2) fNil))))))) (retS (fC (.bl false))) nextS)
    (exprS (fM1 appendM (fVar 3) (fCons (f2 ixO (fVar 4) (fC (.int 0))) fNil))))))
    (retS (fOrV (f2 (isNO false) (f2 ixO (fVar 0) (fC (.int 2))) (fC .non)) (fAndV (fCall 1 D_number (fCons (f2 ixO (fVar 0) (fC (.int 2))) fNil)) (fCall 3 D_blank (fCons (fVar 2) (fCons (f2 ixO (fVar 0) (fC (.int 2))) (fCons (fFrz (fVar 3)) fNil))))))))))))))
noncomputable def R_good : Nat → (List D → M D)
  | 0 => fun _ _ => none
  | n + 1 => fnD false 5 (g_good (R_good n))
noncomputable def D_good : List D → M D := (R_good 14)
/-! due -/
theorem sc_due : FnScope [("_law_thing_here" : PySem.Str), ("_law_seen" : PySem.Str)] [("_law_thing_here" : PySem.Str)] (defScope (topS 23)) := ⟨rfl, rfl, rfl, by decide +kernel, rfl, by decide +kernel, by decide +kernel⟩
noncomputable def g_due : SD := (seqS (setS 1 (fDisp (((f1 negO (fC (.int 1))), (fC (.int 0))) :: [])))
    (retS (fAndV (fCall 3 D_good (fCons (fVar 0) (fCons (fC (.int 12)) (fCons (fVar 1) fNil)))) (f2 leO (f2 dgetO (fVar 1) (f1 negO (fC (.int 1)))) (fC (.int 200))))))
noncomputable def D_due : List D → M D := fnD false 2 g_due
/-! merged -/
theorem sc_merged : FnScope [("_law_kind_here" : PySem.Str), ("_law_many" : PySem.Str), ("_law_rest" : PySem.Str), ("_law_label" : PySem.Str), ("_law_inner" : PySem.Str)] [("_law_kind_here" : PySem.Str), ("_law_many" : PySem.Str)] (defScope (topS 24)) := ⟨rfl, rfl, rfl, by decide +kernel, rfl, by decide +kernel, by decide +kernel⟩
noncomputable def g_merged (D_merged : List D → M D) : SD := (seqS (ifS (fB (f2 (eqO false) (f2 ixO (fVar 0) (fC (.int 0))) (fC (.str (PySem.Str.ofString "blank"))))) (retS (fTup (fCons (fC (.str (PySem.Str.ofString "blank"))) (fCons (f2 modO (f2 ixO (fVar 0) (fC (.int 1))) (fVar 1)) fNil)))) nextS)
    (seqS (ifS (fB (f2 (eqO false) (f2 ixO (fVar 0) (fC (.int 0))) (fC (.str (PySem.Str.ofString "number"))))) (retS (fVar 0)) nextS)
    (seqS (setS 2 (f2 ixO (fVar 0) (fC (.int 2))))
    (seqS (ifS (fB (f2 (isNO true) (fVar 2) (fC .non))) (setS 2 (f2 modO (fVar 2) (fVar 1))) nextS)
    (retS (fTup (fCons (fC (.str (PySem.Str.ofString "record"))) (fCons (fN tupleO (fCons (fLc (tdTup (tdCons (tdName 3) (tdCons (tdName 4) tdNil))) fYes (fTup (fCons (fVar 3) (fCons (fCall 2 D_merged (fCons (fVar 4) (fCons (fVar 1) fNil))) fNil))) (fIt (f2 ixO (fVar 0) (fC (.int 1)))) [3, 4]) fNil)) (fCons (fVar 2) fNil)))))))))
noncomputable def R_merged : Nat → (List D → M D)
  | 0 => fun _ _ => none
  | n + 1 => fnD false 5 (g_merged (R_merged n))
noncomputable def D_merged : List D → M D := (R_merged 14)
/-! thing -/
theorem sc_thing : FnScope [("_law_kind_here" : PySem.Str), ("_law_labels_here" : PySem.Str), ("_law_way" : PySem.Str), ("_law_number_here" : PySem.Str), ("_law_thing_here" : PySem.Str), ("_law_k" : PySem.Str), ("_law_signs" : PySem.Str), ("_law_size" : PySem.Str), ("_law_words" : PySem.Str), ("_law_word_here" : PySem.Str)] [("_law_kind_here" : PySem.Str), ("_law_labels_here" : PySem.Str), ("_law_way" : PySem.Str), ("_law_number_here" : PySem.Str)] (defScope (topS 25)) := ⟨rfl, rfl, rfl, by decide +kernel, rfl, by decide +kernel, by decide +kernel⟩
noncomputable def g_thing : SD := (seqS (ifS (fB (f2 (eqO false) (f2 modO (fVar 2) (fC (.int 4))) (fC (.int 0)))) (retS (fCall 2 D_merged (fCons (fVar 0) (fCons (f2 addO (fC (.int 2)) (f2 modO (fVar 3) (fC (.int 3)))) fNil)))) nextS)
    (seqS (ifS (fB (f2 (eqO false) (f2 modO (fVar 2) (fC (.int 4))) (fC (.int 1)))) (seqS (setS 4 (fVar 0))
    (seqS (forS (tdName 5) (fRng1 (f2 modO (fVar 3) (fC (.int 12)))) (setS 4 (fTup (fCons (fC (.str (PySem.Str.ofString "record"))) (fCons (fTup (fCons (fTup (fCons (f2 ixO (fVar 1) (f2 modO (fVar 5) (fC (.int 4)))) (fCons (fVar 4) fNil))) fNil)) (fCons (fC .non) fNil))))))
    (retS (fVar 4)))) nextS)
    (seqS (ifS (fAnd (fB (f2 (eqO false) (f2 modO (fVar 2) (fC (.int 4))) (fC (.int 2)))) (fB (f2 (eqO false) (f2 modO (f2 fdivO (fVar 2) (fC (.int 4))) (fC (.int 4))) (fC (.int 0))))) (seqS (setS 6 (fC (.str (PySem.Str.ofString "abcdefghijklmnopqrstuvwxyz"))))
    (seqS (setS 7 (f2 ixO (fLst (fCons (f2 modO (f2 fdivO (fVar 3) (fC (.int 2))) (fC (.int 210))) (fCons (f2 addO (fC (.int 199)) (f2 modO (f2 fdivO (fVar 3) (fC (.int 2))) (fC (.int 3)))) fNil))) (f2 modO (fVar 3) (fC (.int 2)))))
    (seqS (setS 8 (fLc (tdName 5) fYes (f2 addO (f2 ixO (fVar 6) (f2 fdivO (fVar 5) (fC (.int 26)))) (f2 ixO (fVar 6) (f2 modO (fVar 5) (fC (.int 26))))) (fRng1 (fVar 7)) [5]))
    (retS (fTup (fCons (fC (.str (PySem.Str.ofString "record"))) (fCons (fN tupleO (fCons (fLc (tdName 9) fYes (fTup (fCons (fVar 9) (fCons (fTup (fCons (fC (.str (PySem.Str.ofString "number"))) fNil)) fNil))) (fIt (fVar 8)) [9]) fNil)) (fCons (fC .non) fNil)))))))) nextS)
    (retS (fCall 3 D_changed (fCons (fVar 0) (fCons (f2 fdivO (fVar 2) (fC (.int 4))) (fCons (fCall 2 D_odd (fCons (fVar 3) (fCons (fTup (fCons (fC (.str (PySem.Str.ofString "number"))) fNil)) fNil))) fNil))))))))
noncomputable def D_thing : List D → M D := fnD false 10 g_thing
/-! law -/
theorem sc_law : FnScope [("_law_script" : PySem.Str), ("_law_labels_here" : PySem.Str), ("_law_state" : PySem.Str), ("_law_met" : PySem.Str), ("_law_kind_here" : PySem.Str), ("_law_things" : PySem.Str), ("_law_size" : PySem.Str), ("_law_k" : PySem.Str), ("_law_thing_here" : PySem.Str), ("_law_found" : PySem.Str)] [("_law_script" : PySem.Str)] (defScope (topS 26)) := ⟨rfl, rfl, rfl, by decide +kernel, rfl, by decide +kernel, by decide +kernel⟩
noncomputable def g_law : SD := (seqS (setS 1 (fCall 2 D_labels (fCons (fCall 2 D_cell (fCons (fVar 0) (fCons (fC (.int 2)) fNil))) (fCons (fC (.int 4)) fNil))))
    (seqS (setS 2 (fOwn (fCons (f2 addO (fC (.int 1)) (f2 modO (fCall 2 D_cell (fCons (fVar 0) (fCons (fC (.int 0)) fNil))) (fC (.int 2147483645)))) (fCons (f2 addO (fC (.int 1)) (f2 modO (fCall 2 D_cell (fCons (fVar 0) (fCons (fC (.int 1)) fNil))) (fC (.int 40)))) fNil))))
    (seqS (setS 3 (fOwn (fCons (f2 addO (fC (.int 1)) (f2 modO (fCall 2 D_cell (fCons (fVar 0) (fCons (fC (.int 3)) fNil))) (f2 powO (fC (.int 10)) (fC (.int 6))))) (fCons (fOwn fNil) fNil))))
    (seqS (setS 4 (fCall 4 D_kind (fCons (fVar 2) (fCons (fVar 1) (fCons (fVar 3) (fCons (f2 addO (fC (.int 2)) (f2 modO (f2 fdivO (fCall 2 D_cell (fCons (fVar 0) (fCons (fC (.int 1)) fNil))) (fC (.int 40))) (fC (.int 11)))) fNil))))))
    (seqS (setS 5 (fOwn (fCons (fVar 4) fNil)))
    (seqS (forS (tdName 6) (fIt (fLst (fCons (fC (.int 8)) (fCons (fC (.int 9)) fNil)))) (exprS (fM1 appendM (fVar 5) (fCons (fTup (fCons (fC (.str (PySem.Str.ofString "record"))) (fCons (fTup (fCons (fTup (fCons (fSl (f2 addO (f2 ixO (fVar 1) (fC (.int 0))) (fC (.str (PySem.Str.ofString "aaaaaaaaa")))) fNo (fSome (fVar 6))) (fCons (fTup (fCons (fC (.str (PySem.Str.ofString "number"))) fNil)) fNil))) fNil)) (fCons (fC .non) fNil)))) fNil))))
    (seqS (forS (tdName 7) (fRng1 (fC (.int 4))) (exprS (fM1 appendM (fVar 5) (fCons (fCall 4 D_thing (fCons (fVar 4) (fCons (fVar 1) (fCons (fCall 2 D_cell (fCons (fVar 0) (fCons (f2 addO (fC (.int 4)) (f2 mulO (fC (.int 2)) (fVar 7))) fNil))) (fCons (fCall 2 D_cell (fCons (fVar 0) (fCons (f2 addO (fC (.int 5)) (f2 mulO (fC (.int 2)) (fVar 7))) fNil))) fNil))))) fNil))))
    (seqS (forS (tdName 8) (fIt (f2 addO (fVar 5) (fSl (fVar 5) fNo (fSome (fC (.int 2)))))) (seqS (setS 9 (fCall 1 D_is_kind (fCons (fVar 8) fNil)))
    (ifS (fOr (fNot (fTru (f1 (isiO "bool") (fVar 9)))) (fB (f2 (eqO true) (fVar 9) (fCall 1 D_due (fCons (fVar 8) fNil))))) (retS (fC (.bl false))) nextS)))
    (retS (fC (.bl true)))))))))))
noncomputable def D_law : List D → M D := fnD false 10 g_law
structure Blt (mg : Str → Option Value) : Prop where
  b_all : mg "all" = none
  b_bool : mg "bool" = none
  b_int : mg "int" = none
  b_isinstance : mg "isinstance" = none
  b_len : mg "len" = none
  b_list : mg "list" = none
  b_range : mg "range" = none
  b_sorted : mg "sorted" = none
  b_str : mg "str" = none
  b_tuple : mg "tuple" = none
  c_MOST_DEEP : ∃ t, mg "MOST_DEEP" = some (.int 12 t)
  c_MOST_KNOTS : ∃ t, mg "MOST_KNOTS" = some (.int 200 t)
section
variable {P : Program} {w : World} {K : PySem.W.Frag} {mg : Str → Option Value} {base : Heap}
theorem c_is_blank_number {k : Nat} {f : Addr} {fd : FuncData} (F : Fun K "is_blank_number" "is_blank_number" (topS 6) f fd) (gf : mg "is_blank_number" = some (.ref f)) (B : Blt mg) : Cal P w K mg base (k + 1) "is_blank_number" 1 D_is_blank_number := by
  refine Cal.mk' F gf (F.binds (ps := [("thing" : PySem.Str)]) fun _ _ _ _ _ _ us hl => match us, hl with | [_], _ => rfl) (fn_ok (N := [("thing" : PySem.Str)]) false F sc_is_blank_number rfl fun cdv A outer s H E a => ?_)
  exact (c_one (d_ret (e_and (e_isi (T := "int") (by rfl) B.b_isinstance (by rfl) B.b_int (by decide +kernel) (ha := (e_var 0))) (e_and (e_not (e_isi (T := "bool") (by rfl) B.b_isinstance (by rfl) B.b_bool (by decide +kernel) (ha := (e_var 0)))) (e_one (e_cmp o_ge (e_var 0) e_int))))))
theorem c_is_word {k : Nat} {f : Addr} {fd : FuncData} (F : Fun K "is_word" "is_word" (topS 8) f fd) (gf : mg "is_word" = some (.ref f)) (B : Blt mg) (TF : TabF K mg base "is_word" f fd) : Cal P w K mg base (k + 1) "is_word" 1 D_is_word := by
  refine Cal.mk' F gf (F.binds (ps := [("thing" : PySem.Str)]) fun _ _ _ _ _ _ us hl => match us, hl with | [_], _ => rfl) (fn_okT (N := [("thing" : PySem.Str), ("sign" : PySem.Str)]) false F TF sc_is_word rfl fun cdv A outer s H E a ta => ?_)
  exact (c_one (d_ret (e_and (e_isi (T := "str") (by rfl) B.b_isinstance (by rfl) B.b_str (by decide +kernel) (ha := (e_var 0))) (e_and (e_chain o_le o_le e_int (e_callB o_len (by rfl) B.b_len (by decide +kernel) (a_cons (e_var 0) a_nil)) e_int) (e_one (e_allS (z := "sign") a.room (by rfl) B.b_all ta (genS_of rfl rfl (by decide +kernel) (by decide +kernel) (by decide +kernel) (by decide +kernel)) (elt_between (by decide +kernel) (by decide +kernel)) (e_var 0)))))))
theorem c_are_fields {k : Nat} {f : Addr} {fd : FuncData} (F : Fun K "are_fields" "are_fields" (topS 7) f fd) (gf : mg "are_fields" = some (.ref f)) (B : Blt mg) (C_is_word : Cal P w K mg base k "is_word" 1 D_is_word) : Cal P w K mg base (k + 1) "are_fields" 1 D_are_fields := by
  refine Cal.mk' F gf (F.binds (ps := [("thing" : PySem.Str)]) fun _ _ _ _ _ _ us hl => match us, hl with | [_], _ => rfl) (fn_ok (N := [("thing" : PySem.Str), ("labels" : PySem.Str), ("pair" : PySem.Str)]) false F sc_are_fields rfl fun cdv A outer s H E a => ?_)
  exact (c_cons (d_if (b_not (b_tru (e_isi (T := "tuple") (by rfl) B.b_isinstance (by rfl) B.b_tuple (by decide +kernel) (ha := (e_var 0))))) (c_one (d_ret e_bl)) c_nil)
    (c_cons (d_set (i := 1) sc_are_fields.nd rfl (by first | exact Or.inl rfl | exact Or.inr rfl) (e_own a_nil))
    (c_cons (d_for a.own a.calm (i_seq (e_var 0)) (pg_name (i := 2) sc_are_fields.nd rfl (by first | exact Or.inl rfl | exact Or.inr rfl)) (g_name (vs := [2]) 2) (c_cons (d_if (b_w (w_or (b_not (b_tru (e_isi (T := "tuple") (by rfl) B.b_isinstance (by rfl) B.b_tuple (by decide +kernel) (ha := (e_var 2))))) (w_or (b_cmp (o_ne (u64 a.room)) (e_callB o_len (by rfl) B.b_len (by decide +kernel) (a_cons (e_var 2) a_nil)) e_int) (w_or1 (b_not (b_tru (e_callC C_is_word a.takes a.room (by rfl) (a_cons (e_ix (e_var 2) e_int) a_nil)))))))) (c_one (d_ret e_bl)) c_nil)
    (c_cons (d_if (b_w (w_and (b_tru (e_var 1)) (w_and1 (b_cmp o_le (e_ix (e_var 2) e_int) (e_ix (e_var 1) (e_neg e_int)))))) (c_one (d_ret e_bl)) c_nil)
    (c_one (d_expr (e_append (e_var 1) (a_cons (e_ix (e_var 2) e_int) a_nil)))))))
    (c_one (d_ret e_bl)))))
theorem c_is_knot {k : Nat} {f : Addr} {fd : FuncData} (F : Fun K "is_knot" "is_knot" (topS 5) f fd) (gf : mg "is_knot" = some (.ref f)) (B : Blt mg) (C_is_blank_number : Cal P w K mg base k "is_blank_number" 1 D_is_blank_number) (C_are_fields : Cal P w K mg base k "are_fields" 1 D_are_fields) : Cal P w K mg base (k + 1) "is_knot" 1 D_is_knot := by
  refine Cal.mk' F gf (F.binds (ps := [("thing" : PySem.Str)]) fun _ _ _ _ _ _ us hl => match us, hl with | [_], _ => rfl) (fn_ok (N := [("thing" : PySem.Str)]) false F sc_is_knot rfl fun cdv A outer s H E a => ?_)
  exact (c_cons (d_if (b_w (w_or (b_not (b_tru (e_isi (T := "tuple") (by rfl) B.b_isinstance (by rfl) B.b_tuple (by decide +kernel) (ha := (e_var 0))))) (w_or1 (b_cmp (o_eq (u64 a.room)) (e_callB o_len (by rfl) B.b_len (by decide +kernel) (a_cons (e_var 0) a_nil)) e_int)))) (c_one (d_ret e_bl)) c_nil)
    (c_cons (d_if (b_cmp (o_eq (u64 a.room)) (e_ix (e_var 0) e_int) e_str) (c_one (d_ret (e_cmp (o_eq (u64 a.room)) (e_callB o_len (by rfl) B.b_len (by decide +kernel) (a_cons (e_var 0) a_nil)) e_int))) c_nil)
    (c_cons (d_if (b_cmp (o_eq (u64 a.room)) (e_ix (e_var 0) e_int) e_str) (c_one (d_ret (e_and (e_cmp (o_eq (u64 a.room)) (e_callB o_len (by rfl) B.b_len (by decide +kernel) (a_cons (e_var 0) a_nil)) e_int) (e_one (e_callC C_is_blank_number a.takes a.room (by rfl) (a_cons (e_ix (e_var 0) e_int) a_nil)))))) c_nil)
    (c_cons (d_if (b_w (w_and (b_cmp (o_eq (u64 a.room)) (e_ix (e_var 0) e_int) e_str) (w_and1 (b_cmp (o_eq (u64 a.room)) (e_callB o_len (by rfl) B.b_len (by decide +kernel) (a_cons (e_var 0) a_nil)) e_int)))) (c_one (d_ret (e_and (e_callC C_are_fields a.takes a.room (by rfl) (a_cons (e_ix (e_var 0) e_int) a_nil)) (e_one (e_or (e_cmp o_is (e_ix (e_var 0) e_int) e_non) (e_one (e_callC C_is_blank_number a.takes a.room (by rfl) (a_cons (e_ix (e_var 0) e_int) a_nil)))))))) c_nil)
    (c_one (d_ret e_bl))))))
theorem c_kinds_within {k : Nat} {f : Addr} {fd : FuncData} (F : Fun K "kinds_within" "kinds_within" (topS 9) f fd) (gf : mg "kinds_within" = some (.ref f)) (B : Blt mg) : Cal P w K mg base (k + 1) "kinds_within" 1 D_kinds_within := by
  refine Cal.mk' F gf (F.binds (ps := [("kind" : PySem.Str)]) fun _ _ _ _ _ _ us hl => match us, hl with | [_], _ => rfl) (fn_ok (N := [("kind" : PySem.Str), ("label" : PySem.Str), ("inner" : PySem.Str)]) false F sc_kinds_within rfl fun cdv A outer s H E a => ?_)
  exact (c_one (d_ret (e_if (b_cmp (o_eq (u64 a.room)) (e_ix (e_var 0) e_int) e_str) (e_lc a.calm sc_kinds_within.nd (i_seq (e_ix (e_var 0) e_int)) (blkOk_by (N := [("kind" : PySem.Str), ("label" : PySem.Str), ("inner" : PySem.Str)]) (sc := defScope (topS 9)) (own := [(("label" : PySem.Str), 1), (("inner" : PySem.Str), 2)]) (by decide +kernel)) (g_tup (g_cons (g_name (vs := [1, 2]) 1) (g_cons (g_name (vs := [1, 2]) 2) (g_nil (vs := [1, 2]))))) (fun _ _ _ _ _ => (pg_tup rfl (pgs_cons (pg_name (i := 1) sc_kinds_within.nd rfl (by first | exact Or.inl rfl | exact Or.inr rfl)) (pgs_cons (pg_name (i := 2) sc_kinds_within.nd rfl (by first | exact Or.inl rfl | exact Or.inr rfl)) pgs_nil)))) (fun _ _ _ _ _ => t_nil) (fun _ _ _ _ _ => (e_var 2))) (e_lst a_nil))))
theorem c_has_form {k : Nat} {f : Addr} {fd : FuncData} (F : Fun K "has_form" "has_form" (topS 4) f fd) (gf : mg "has_form" = some (.ref f)) (B : Blt mg) (C_is_knot : Cal P w K mg base k "is_knot" 1 D_is_knot) (C_kinds_within : Cal P w K mg base k "kinds_within" 1 D_kinds_within) : Cal P w K mg base (k + 1) "has_form" 2 D_has_form := by
  refine Cal.mk' F gf (F.binds (ps := [("thing" : PySem.Str), ("most" : PySem.Str)]) fun _ _ _ _ _ _ us hl => match us, hl with | [_, _], _ => rfl) (fn_ok (N := [("thing" : PySem.Str), ("most" : PySem.Str), ("waiting" : PySem.Str), ("knots" : PySem.Str), ("here" : PySem.Str), ("deep" : PySem.Str), ("inner" : PySem.Str)]) false F sc_has_form rfl fun cdv A outer s H E a => ?_)
  exact (c_cons (d_set (i := 2) sc_has_form.nd rfl (by first | exact Or.inl rfl | exact Or.inr rfl) (e_own (a_cons (e_tup (a_cons (e_var 0) (a_cons e_int a_nil))) a_nil)))
    (c_cons (d_set (i := 3) sc_has_form.nd rfl (by first | exact Or.inl rfl | exact Or.inr rfl) e_int)
    (c_cons (d_while a.own (b_tru (e_var 2)) (c_cons (d_asg (e_pop (e_var 2)) (pg_tup rfl (pgs_cons (pg_name (i := 4) sc_has_form.nd rfl (by first | exact Or.inl rfl | exact Or.inr rfl)) (pgs_cons (pg_name (i := 5) sc_has_form.nd rfl (by first | exact Or.inl rfl | exact Or.inr rfl)) pgs_nil))) (g_tup (g_cons (g_name (vs := [4, 5]) 4) (g_cons (g_name (vs := [4, 5]) 5) (g_nil (vs := [4, 5]))))))
    (c_cons (d_aug (i := 3) sc_has_form.nd rfl (by first | exact Or.inl rfl | exact Or.inr rfl) e_int ip_add)
    (c_cons (d_if (b_w (w_and (b_cmp o_isNot (e_var 1) e_non) (w_and1 (b_cmp o_gt (e_var 3) (e_var 1))))) (c_one (d_ret e_bl)) c_nil)
    (c_cons (d_if (b_w (w_or (b_cmp o_gt (e_var 5) (e_glob (by rfl) B.c_MOST_DEEP)) (w_or1 (b_not (b_tru (e_callC C_is_knot a.takes a.room (by rfl) (a_cons (e_var 4) a_nil))))))) (c_one (d_ret e_bl)) c_nil)
    (c_one (d_expr (e_extend (e_var 2) (a_cons (e_lc a.calm sc_has_form.nd (i_seq (e_callC C_kinds_within a.takes a.room (by rfl) (a_cons (e_var 4) a_nil))) (blkOk_by (N := [("thing" : PySem.Str), ("most" : PySem.Str), ("waiting" : PySem.Str), ("knots" : PySem.Str), ("here" : PySem.Str), ("deep" : PySem.Str), ("inner" : PySem.Str)]) (sc := defScope (topS 4)) (own := [(("inner" : PySem.Str), 6)]) (by decide +kernel)) (g_name (vs := [6]) 6) (fun _ _ _ _ _ => (pg_name (i := 6) sc_has_form.nd rfl (by first | exact Or.inl rfl | exact Or.inr rfl))) (fun _ _ _ _ _ => t_nil) (fun _ _ _ _ _ => (e_tup (a_cons (e_var 6) (a_cons (e_bin o_add (e_var 5) e_int) a_nil))))) a_nil)))))))))
    (c_one (d_ret e_bl)))))
theorem c_number_right_in {k : Nat} {f : Addr} {fd : FuncData} (F : Fun K "number_right_in" "number_right_in" (topS 11) f fd) (gf : mg "number_right_in" = some (.ref f)) (B : Blt mg) : Cal P w K mg base (k + 1) "number_right_in" 1 D_number_right_in := by
  refine Cal.mk' F gf (F.binds (ps := [("kind" : PySem.Str)]) fun _ _ _ _ _ _ us hl => match us, hl with | [_], _ => rfl) (fn_ok (N := [("kind" : PySem.Str)]) false F sc_number_right_in rfl fun cdv A outer s H E a => ?_)
  exact (c_cons (d_if (b_cmp (o_eq (u64 a.room)) (e_ix (e_var 0) e_int) e_str) (c_one (d_ret (e_ix (e_var 0) e_int))) c_nil)
    (c_one (d_ret (e_if (b_cmp (o_eq (u64 a.room)) (e_ix (e_var 0) e_int) e_str) (e_ix (e_var 0) e_int) e_non))))
theorem c_standing {k : Nat} {f : Addr} {fd : FuncData} (F : Fun K "standing" "standing" (topS 10) f fd) (gf : mg "standing" = some (.ref f)) (B : Blt mg) (C_number_right_in : Cal P w K mg base k "number_right_in" 1 D_number_right_in) (C_kinds_within : Cal P w K mg base k "kinds_within" 1 D_kinds_within) : Cal P w K mg base (k + 1) "standing" 1 D_standing := by
  refine Cal.mk' F gf (F.binds (ps := [("kinds" : PySem.Str)]) fun _ _ _ _ _ _ us hl => match us, hl with | [_], _ => rfl) (fn_ok (N := [("kinds" : PySem.Str), ("found" : PySem.Str), ("waiting" : PySem.Str), ("kind" : PySem.Str), ("number" : PySem.Str), ("ahead" : PySem.Str), ("label" : PySem.Str), ("inner" : PySem.Str)]) true F sc_standing rfl fun cdv A outer s H E a => ?_)
  exact (c_cons (d_set (i := 1) sc_standing.nd rfl (by first | exact Or.inl rfl | exact Or.inr rfl) e_dNew)
    (c_cons (d_set (i := 2) sc_standing.nd rfl (by first | exact Or.inl rfl | exact Or.inr rfl) (e_listOwn (by rfl) B.b_list (a_cons (e_var 0) a_nil)))
    (c_cons (d_while a.own (b_tru (e_var 2)) (c_cons (d_set (i := 3) sc_standing.nd rfl (by first | exact Or.inl rfl | exact Or.inr rfl) (e_pop (e_var 2)))
    (c_cons (d_expr (e_extend (e_var 2) (a_cons (e_callC C_kinds_within a.takes a.room (by rfl) (a_cons (e_var 3) a_nil)) a_nil)))
    (c_cons (d_set (i := 4) sc_standing.nd rfl (by first | exact Or.inl rfl | exact Or.inr rfl) (e_callC C_number_right_in a.takes a.room (by rfl) (a_cons (e_var 3) a_nil)))
    (c_one (d_if (b_cmp o_isNot (e_var 4) e_non) (c_cons (d_set (i := 5) sc_standing.nd rfl (by first | exact Or.inl rfl | exact Or.inr rfl) (e_if (b_cmp (o_eq (u64 a.room)) (e_ix (e_var 3) e_int) e_str) (e_callTy o_tuple (by rfl) B.b_tuple (by decide +kernel) (a_cons (e_lc a.calm sc_standing.nd (i_seq (e_ix (e_var 3) e_int)) (blkOk_by (N := [("kinds" : PySem.Str), ("found" : PySem.Str), ("waiting" : PySem.Str), ("kind" : PySem.Str), ("number" : PySem.Str), ("ahead" : PySem.Str), ("label" : PySem.Str), ("inner" : PySem.Str)]) (sc := defScope (topS 10)) (own := [(("label" : PySem.Str), 6), (("inner" : PySem.Str), 7)]) (by decide +kernel)) (g_tup (g_cons (g_name (vs := [6, 7]) 6) (g_cons (g_name (vs := [6, 7]) 7) (g_nil (vs := [6, 7]))))) (fun _ _ _ _ _ => (pg_tup rfl (pgs_cons (pg_name (i := 6) sc_standing.nd rfl (by first | exact Or.inl rfl | exact Or.inr rfl)) (pgs_cons (pg_name (i := 7) sc_standing.nd rfl (by first | exact Or.inl rfl | exact Or.inr rfl)) pgs_nil)))) (fun _ _ _ _ _ => t_nil) (fun _ _ _ _ _ => (e_var 6))) a_nil)) e_non))
    (c_cons (d_if (b_w (w_and (b_pc (c_din (u1 a.room) (e_var 4) (e_var 1))) (w_and1 (b_cmp (o_ne (u64 a.room)) (e_dget (u1 a.room) (e_var 1) (e_var 4)) (e_var 5))))) (c_one (d_ret e_non)) c_nil)
    (c_one (d_putIx (u1 a.room) (e_var 5) (e_var 1) (e_var 4))))) c_nil))))))
    (c_one (d_ret (e_var 1))))))
theorem c_is_kind {k : Nat} {f : Addr} {fd : FuncData} (F : Fun K "is_kind" "is_kind" (topS 3) f fd) (gf : mg "is_kind" = some (.ref f)) (B : Blt mg) (C_has_form : Cal P w K mg base k "has_form" 2 D_has_form) (C_standing : Cal P w K mg base k "standing" 1 D_standing) : Cal P w K mg base (k + 1) "is_kind" 1 D_is_kind := by
  refine Cal.mk' F gf (F.binds (ps := [("thing" : PySem.Str)]) fun _ _ _ _ _ _ us hl => match us, hl with | [_], _ => rfl) (fn_ok (N := [("thing" : PySem.Str)]) false F sc_is_kind rfl fun cdv A outer s H E a => ?_)
  exact (c_one (d_ret (e_and (e_callC C_has_form a.takes a.room (by rfl) (a_cons (e_var 0) (a_cons (e_glob (by rfl) B.c_MOST_KNOTS) a_nil))) (e_one (e_cmp o_isNot (e_callC C_standing a.takes a.room (by rfl) (a_cons (e_lst (a_cons (e_var 0) a_nil)) a_nil)) e_non)))))
theorem c_cell {k : Nat} {f : Addr} {fd : FuncData} (F : Fun K "_law_cell" "_law_cell" (topS 13) f fd) (gf : mg "_law_cell" = some (.ref f)) (B : Blt mg) : Cal P w K mg base (k + 1) "_law_cell" 2 D_cell := by
  refine Cal.mk' F gf (F.binds (ps := [("_law_script" : PySem.Str), ("_law_k" : PySem.Str)]) fun _ _ _ _ _ _ us hl => match us, hl with | [_, _], _ => rfl) (fn_ok (N := [("_law_script" : PySem.Str), ("_law_k" : PySem.Str)]) false F sc_cell rfl fun cdv A outer s H E a => ?_)
  exact (c_cons (d_if (b_cmp o_lt (e_var 1) (e_callB o_len (by rfl) B.b_len (by decide +kernel) (a_cons (e_var 0) a_nil))) (c_one (d_ret (e_bin o_mod (e_bin o_mul (e_ix (e_var 0) (e_var 1)) e_int) e_int))) c_nil)
    (c_one (d_ret e_int)))
theorem c_next {k : Nat} {f : Addr} {fd : FuncData} (F : Fun K "_law_next" "_law_next" (topS 14) f fd) (gf : mg "_law_next" = some (.ref f)) (B : Blt mg) : Cal P w K mg base (k + 1) "_law_next" 1 D_next := by
  refine Cal.mk' F gf (F.binds (ps := [("_law_state" : PySem.Str)]) fun _ _ _ _ _ _ us hl => match us, hl with | [_], _ => rfl) (fn_ok (N := [("_law_state" : PySem.Str)]) false F sc_next rfl fun cdv A outer s H E a => ?_)
  exact (c_cons (d_setIx (e_bin o_mod (e_bin o_add (e_bin o_mul (e_ix (e_var 0) e_int) e_int) e_int) e_int) (e_var 0) e_int)
    (c_cons (d_setIx (e_bin o_sub (e_ix (e_var 0) e_int) e_int) (e_var 0) e_int)
    (c_one (d_ret (e_bin o_fdiv (e_ix (e_var 0) e_int) e_int)))))
theorem c_labels {k : Nat} {f : Addr} {fd : FuncData} (F : Fun K "_law_labels" "_law_labels" (topS 15) f fd) (gf : mg "_law_labels" = some (.ref f)) (B : Blt mg) : Cal P w K mg base (k + 1) "_law_labels" 2 D_labels := by
  refine Cal.mk' F gf (F.binds (ps := [("_law_cell_here" : PySem.Str), ("_law_many" : PySem.Str)]) fun _ _ _ _ _ _ us hl => match us, hl with | [_, _], _ => rfl) (fn_ok (N := [("_law_cell_here" : PySem.Str), ("_law_many" : PySem.Str), ("_law_signs" : PySem.Str), ("_law_size" : PySem.Str), ("_law_at" : PySem.Str), ("_law_step" : PySem.Str), ("_law_base" : PySem.Str), ("_law_k" : PySem.Str), ("_law_found" : PySem.Str), ("_law_sign" : PySem.Str)]) false F sc_labels rfl fun cdv A outer s H E a => ?_)
  exact (c_cons (d_set (i := 2) sc_labels.nd rfl (by first | exact Or.inl rfl | exact Or.inr rfl) e_str)
    (c_cons (d_set (i := 3) sc_labels.nd rfl (by first | exact Or.inl rfl | exact Or.inr rfl) (e_bin o_mod (e_var 0) e_int))
    (c_cons (d_set (i := 4) sc_labels.nd rfl (by first | exact Or.inl rfl | exact Or.inr rfl) (e_bin o_mod (e_bin o_fdiv (e_var 0) e_int) (e_bin o_add (e_var 3) e_int)))
    (c_cons (d_set (i := 5) sc_labels.nd rfl (by first | exact Or.inl rfl | exact Or.inr rfl) (e_bin o_mod (e_bin o_fdiv (e_var 0) e_int) e_int))
    (c_cons (d_set (i := 6) sc_labels.nd rfl (by first | exact Or.inl rfl | exact Or.inr rfl) (e_join e_str (e_lc a.calm sc_labels.nd (i_range1 (by rfl) B.b_range (e_var 3)) (blkOk_by (N := [("_law_cell_here" : PySem.Str), ("_law_many" : PySem.Str), ("_law_signs" : PySem.Str), ("_law_size" : PySem.Str), ("_law_at" : PySem.Str), ("_law_step" : PySem.Str), ("_law_base" : PySem.Str), ("_law_k" : PySem.Str), ("_law_found" : PySem.Str), ("_law_sign" : PySem.Str)]) (sc := defScope (topS 15)) (own := [(("_law_k" : PySem.Str), 7)]) (by decide +kernel)) (g_name (vs := [7]) 7) (fun _ _ _ _ _ => (pg_name (i := 7) sc_labels.nd rfl (by first | exact Or.inl rfl | exact Or.inr rfl))) (fun _ _ _ _ _ => t_nil) (fun _ _ _ _ _ => (e_ix (e_var 2) (e_bin o_mod (e_bin o_add (e_var 5) (e_bin o_mul (e_bin o_fdiv (e_var 0) e_int) (e_var 7))) e_int))))))
    (c_cons (d_set (i := 8) sc_labels.nd rfl (by first | exact Or.inl rfl | exact Or.inr rfl) (e_own a_nil))
    (c_cons (d_for a.own a.calm (i_range1 (by rfl) B.b_range (e_var 1)) (pg_name (i := 7) sc_labels.nd rfl (by first | exact Or.inl rfl | exact Or.inr rfl)) (g_name (vs := [7]) 7) (c_cons (d_set (i := 9) sc_labels.nd rfl (by first | exact Or.inl rfl | exact Or.inr rfl) (e_ix (e_var 2) (e_bin o_mod (e_bin o_add (e_bin o_fdiv (e_var 0) e_int) (e_bin o_mul e_int (e_var 7))) e_int)))
    (c_one (d_expr (e_append (e_var 8) (a_cons (e_bin o_add (e_bin o_add (e_sl (e_var 6) s_none (s_some (e_var 4))) (e_var 9)) (e_sl (e_var 6) (s_some (e_var 4)) s_none)) a_nil))))))
    (c_one (d_ret (e_var 8))))))))))
theorem c_kind (D_kind : List D → M D) {k : Nat} {f : Addr} {fd : FuncData} (F : Fun K "_law_kind" "_law_kind" (topS 16) f fd) (gf : mg "_law_kind" = some (.ref f)) (B : Blt mg) (C_next : Cal P w K mg base k "_law_next" 1 D_next) (C_kind : Cal P w K mg base k "_law_kind" 4 D_kind) : Cal P w K mg base (k + 1) "_law_kind" 4 (fnD false 9 (g_kind D_kind)) := by
  refine Cal.mk' F gf (F.binds (ps := [("_law_state" : PySem.Str), ("_law_labels_here" : PySem.Str), ("_law_met" : PySem.Str), ("_law_left" : PySem.Str)]) fun _ _ _ _ _ _ us hl => match us, hl with | [_, _, _, _], _ => rfl) (fn_ok (N := [("_law_state" : PySem.Str), ("_law_labels_here" : PySem.Str), ("_law_met" : PySem.Str), ("_law_left" : PySem.Str), ("_law_number_here" : PySem.Str), ("_law_picked" : PySem.Str), ("_law_words" : PySem.Str), ("_law_label" : PySem.Str), ("_law_fields" : PySem.Str)]) false F sc_kind rfl fun cdv A outer s H E a => ?_)
  exact (c_cons (d_set (i := 4) sc_kind.nd rfl (by first | exact Or.inl rfl | exact Or.inr rfl) (e_callC C_next a.takes a.room (by rfl) (a_cons (e_var 0) a_nil)))
    (c_cons (d_if (b_w (w_or (b_cmp o_le (e_var 3) e_int) (w_or (b_cmp o_le (e_ix (e_var 0) e_int) e_int) (w_or1 (b_cmp o_lt (e_bin o_mod (e_var 4) e_int) e_int))))) (c_one (d_ret (e_tup (a_cons e_str a_nil)))) c_nil)
    (c_cons (d_if (b_cmp (o_eq (u64 a.room)) (e_bin o_mod (e_var 4) e_int) e_int) (c_one (d_ret (e_tup (a_cons e_str (a_cons (e_bin o_mul (e_bin o_mul (e_ix (e_var 2) e_int) e_int) (e_bin o_mod (e_bin o_fdiv (e_var 4) e_int) e_int)) a_nil))))) c_nil)
    (c_cons (d_set (i := 5) sc_kind.nd rfl (by first | exact Or.inl rfl | exact Or.inr rfl) (e_sl (e_lst (a_cons (e_ix (e_var 1) (e_bin o_mod (e_bin o_fdiv (e_var 4) e_int) e_int)) (a_cons (e_ix (e_var 1) (e_bin o_mod (e_bin o_fdiv (e_var 4) e_int) e_int)) (a_cons (e_ix (e_var 1) (e_bin o_mod (e_bin o_fdiv (e_var 4) e_int) e_int)) a_nil)))) s_none (s_some (e_bin o_mod (e_bin o_fdiv (e_var 4) e_int) e_int))))
    (c_cons (d_setLc (n := 6) false a.calm sc_kind.nd rfl rfl (sw_true rfl rfl rfl (by decide +kernel)) (i_seq (e_callB o_sorted (by rfl) B.b_sorted (by decide +kernel) (a_cons (e_var 1) a_nil))) (blkOk_by (N := [("_law_state" : PySem.Str), ("_law_labels_here" : PySem.Str), ("_law_met" : PySem.Str), ("_law_left" : PySem.Str), ("_law_number_here" : PySem.Str), ("_law_picked" : PySem.Str), ("_law_words" : PySem.Str), ("_law_label" : PySem.Str), ("_law_fields" : PySem.Str)]) (sc := defScope (topS 16)) (own := [(("_law_label" : PySem.Str), 7)]) (by decide +kernel)) (g_name (vs := [7]) 7) (fun _ _ _ _ _ => (pg_name (i := 7) sc_kind.nd rfl (by first | exact Or.inl rfl | exact Or.inr rfl))) (fun _ _ _ _ _ => (t_one (b_cmp (o_in (u65 a.room)) (e_var 7) (e_var 5)))) (fun _ _ _ _ _ => (e_var 7)))
    (c_cons (d_set (i := 8) sc_kind.nd rfl (by first | exact Or.inl rfl | exact Or.inr rfl) (e_callTy o_tuple (by rfl) B.b_tuple (by decide +kernel) (a_cons (e_lc a.calm sc_kind.nd (i_seq (e_var 6)) (blkOk_by (N := [("_law_state" : PySem.Str), ("_law_labels_here" : PySem.Str), ("_law_met" : PySem.Str), ("_law_left" : PySem.Str), ("_law_number_here" : PySem.Str), ("_law_picked" : PySem.Str), ("_law_words" : PySem.Str), ("_law_label" : PySem.Str), ("_law_fields" : PySem.Str)]) (sc := defScope (topS 16)) (own := [(("_law_label" : PySem.Str), 7)]) (by decide +kernel)) (g_name (vs := [7]) 7) (fun _ _ _ _ _ => (pg_name (i := 7) sc_kind.nd rfl (by first | exact Or.inl rfl | exact Or.inr rfl))) (fun _ _ _ _ _ => t_nil) (fun _ _ _ _ _ => (e_tup (a_cons (e_var 7) (a_cons (e_callC C_kind takes0 a.room (by rfl) (a_cons (e_var 0) (a_cons (e_var 1) (a_cons (e_var 2) (a_cons (e_bin o_sub (e_var 3) e_int) a_nil))))) a_nil))))) a_nil)))
    (c_cons (d_if (b_cmp (o_eq (u64 a.room)) (e_bin o_mod (e_bin o_fdiv (e_var 4) e_int) e_int) e_int) (c_one (d_ret (e_tup (a_cons e_str (a_cons (e_var 8) (a_cons e_non a_nil)))))) c_nil)
    (c_cons (d_if (b_cmp (o_notIn (u65 a.room)) (e_var 6) (e_ix (e_var 2) e_int)) (c_one (d_expr (e_append (e_ix (e_var 2) e_int) (a_cons (e_var 6) a_nil)))) c_nil)
    (c_one (d_ret (e_tup (a_cons e_str (a_cons (e_var 8) (a_cons (e_bin o_mul (e_ix (e_var 2) e_int) (e_bin o_add e_int (e_bin o_mul e_int (e_index (u65 a.room) (e_ix (e_var 2) e_int) (a_cons (e_var 6) a_nil))))) a_nil))))))))))))))
theorem c_odd {k : Nat} {f : Addr} {fd : FuncData} (F : Fun K "_law_odd" "_law_odd" (topS 17) f fd) (gf : mg "_law_odd" = some (.ref f)) (B : Blt mg) : Cal P w K mg base (k + 1) "_law_odd" 2 D_odd := by
  refine Cal.mk' F gf (F.binds (ps := [("_law_number_here" : PySem.Str), ("_law_inner" : PySem.Str)]) fun _ _ _ _ _ _ us hl => match us, hl with | [_, _], _ => rfl) (fn_ok (N := [("_law_number_here" : PySem.Str), ("_law_inner" : PySem.Str), ("_law_some" : PySem.Str)]) false F sc_odd rfl fun cdv A outer s H E a => ?_)
  exact (c_cons (d_set (i := 2) sc_odd.nd rfl (by first | exact Or.inl rfl | exact Or.inr rfl) (e_lst (a_cons e_non (a_cons e_bl (a_cons e_int (a_cons e_str (a_cons (e_lst a_nil) (a_cons (e_tup a_nil) (a_cons (e_tup (a_cons e_str (a_cons e_int a_nil))) (a_cons (e_tup (a_cons e_str a_nil)) (a_cons (e_lst (a_cons e_str a_nil)) (a_cons (e_tup (a_cons e_str a_nil)) (a_cons (e_tup (a_cons e_str (a_cons (e_neg e_int) a_nil))) a_nil)))))))))))))
    (c_cons (d_set (i := 2) sc_odd.nd rfl (by first | exact Or.inl rfl | exact Or.inr rfl) (e_bin o_add (e_var 2) (e_lst (a_cons (e_tup (a_cons e_str (a_cons e_bl a_nil))) (a_cons (e_tup (a_cons e_str (a_cons e_str a_nil))) (a_cons (e_tup (a_cons e_str (a_cons e_int a_nil))) (a_cons (e_tup (a_cons e_str (a_cons e_int (a_cons e_int a_nil)))) a_nil)))))))
    (c_cons (d_set (i := 2) sc_odd.nd rfl (by first | exact Or.inl rfl | exact Or.inr rfl) (e_bin o_add (e_var 2) (e_lst (a_cons (e_tup (a_cons e_str (a_cons e_int a_nil))) (a_cons (e_tup (a_cons e_str a_nil)) (a_cons (e_tup (a_cons e_str a_nil)) a_nil))))))
    (c_cons (d_set (i := 2) sc_odd.nd rfl (by first | exact Or.inl rfl | exact Or.inr rfl) (e_bin o_add (e_var 2) (e_lst (a_cons (e_tup (a_cons e_str (a_cons (e_tup a_nil) (a_cons e_non a_nil)))) (a_cons (e_tup (a_cons e_str (a_cons (e_lst a_nil) (a_cons e_non a_nil)))) (a_cons (e_tup (a_cons e_str (a_cons (e_tup a_nil) a_nil))) a_nil))))))
    (c_cons (d_set (i := 2) sc_odd.nd rfl (by first | exact Or.inl rfl | exact Or.inr rfl) (e_bin o_add (e_var 2) (e_lst (a_cons (e_tup (a_cons e_str (a_cons (e_tup a_nil) (a_cons e_bl a_nil)))) (a_cons (e_tup (a_cons e_str (a_cons (e_tup a_nil) (a_cons (e_neg e_int) a_nil)))) a_nil)))))
    (c_cons (d_set (i := 2) sc_odd.nd rfl (by first | exact Or.inl rfl | exact Or.inr rfl) (e_bin o_add (e_var 2) (e_lst (a_cons (e_tup (a_cons e_str (a_cons (e_tup a_nil) (a_cons e_str a_nil)))) (a_cons (e_tup (a_cons e_str (a_cons (e_tup a_nil) (a_cons e_int a_nil)))) (a_cons (e_tup (a_cons e_str (a_cons (e_tup (a_cons (e_tup (a_cons e_str (a_cons (e_var 1) a_nil))) a_nil)) (a_cons e_int a_nil)))) (a_cons (e_tup (a_cons e_str (a_cons (e_tup (a_cons e_str a_nil)) (a_cons e_non a_nil)))) a_nil)))))))
    (c_cons (d_set (i := 2) sc_odd.nd rfl (by first | exact Or.inl rfl | exact Or.inr rfl) (e_bin o_add (e_var 2) (e_lst (a_cons (e_tup (a_cons e_str (a_cons (e_tup (a_cons (e_tup (a_cons e_str (a_cons (e_var 1) a_nil))) (a_cons (e_tup (a_cons e_str (a_cons (e_var 1) a_nil))) a_nil))) (a_cons e_non a_nil)))) (a_cons (e_tup (a_cons e_str (a_cons (e_tup (a_cons (e_tup (a_cons e_str (a_cons (e_var 1) a_nil))) (a_cons (e_tup (a_cons e_str (a_cons (e_var 1) a_nil))) a_nil))) (a_cons e_non a_nil)))) a_nil)))))
    (c_cons (d_set (i := 2) sc_odd.nd rfl (by first | exact Or.inl rfl | exact Or.inr rfl) (e_bin o_add (e_var 2) (e_lst (a_cons (e_tup (a_cons e_str (a_cons (e_tup (a_cons (e_tup (a_cons e_str (a_cons (e_var 1) a_nil))) a_nil)) (a_cons e_non a_nil)))) (a_cons (e_tup (a_cons e_str (a_cons (e_tup (a_cons (e_tup (a_cons e_str (a_cons (e_var 1) a_nil))) a_nil)) (a_cons e_non a_nil)))) a_nil)))))
    (c_cons (d_set (i := 2) sc_odd.nd rfl (by first | exact Or.inl rfl | exact Or.inr rfl) (e_bin o_add (e_var 2) (e_lst (a_cons (e_tup (a_cons e_str (a_cons (e_tup (a_cons (e_tup (a_cons e_str (a_cons (e_var 1) a_nil))) a_nil)) (a_cons e_non a_nil)))) (a_cons (e_tup (a_cons e_str (a_cons (e_tup (a_cons (e_tup (a_cons e_str (a_cons (e_var 1) a_nil))) a_nil)) (a_cons e_non a_nil)))) a_nil)))))
    (c_cons (d_set (i := 2) sc_odd.nd rfl (by first | exact Or.inl rfl | exact Or.inr rfl) (e_bin o_add (e_var 2) (e_lst (a_cons (e_tup (a_cons e_str (a_cons (e_tup (a_cons (e_tup (a_cons e_str (a_cons (e_var 1) a_nil))) a_nil)) (a_cons e_non a_nil)))) (a_cons (e_tup (a_cons e_str (a_cons (e_tup (a_cons (e_tup (a_cons e_int (a_cons (e_var 1) a_nil))) a_nil)) (a_cons e_non a_nil)))) a_nil)))))
    (c_cons (d_set (i := 2) sc_odd.nd rfl (by first | exact Or.inl rfl | exact Or.inr rfl) (e_bin o_add (e_var 2) (e_lst (a_cons (e_tup (a_cons e_str (a_cons (e_tup (a_cons (e_tup (a_cons e_non (a_cons (e_var 1) a_nil))) a_nil)) (a_cons e_non a_nil)))) a_nil))))
    (c_cons (d_set (i := 2) sc_odd.nd rfl (by first | exact Or.inl rfl | exact Or.inr rfl) (e_bin o_add (e_var 2) (e_lst (a_cons (e_tup (a_cons e_str (a_cons (e_tup (a_cons (e_lst (a_cons e_str (a_cons (e_var 1) a_nil))) a_nil)) (a_cons e_non a_nil)))) (a_cons (e_tup (a_cons e_str (a_cons (e_tup (a_cons (e_tup (a_cons e_str (a_cons (e_var 1) (a_cons e_int a_nil)))) a_nil)) (a_cons e_non a_nil)))) a_nil)))))
    (c_cons (d_set (i := 2) sc_odd.nd rfl (by first | exact Or.inl rfl | exact Or.inr rfl) (e_bin o_add (e_var 2) (e_lst (a_cons (e_tup (a_cons e_str (a_cons (e_tup (a_cons (e_tup (a_cons e_str a_nil)) a_nil)) (a_cons e_non a_nil)))) a_nil))))
    (c_cons (d_set (i := 2) sc_odd.nd rfl (by first | exact Or.inl rfl | exact Or.inr rfl) (e_bin o_add (e_var 2) (e_lst (a_cons (e_tup (a_cons e_str (a_cons (e_tup (a_cons (e_tup (a_cons e_str (a_cons (e_tup (a_cons e_str (a_cons e_int a_nil))) a_nil))) (a_cons (e_tup (a_cons e_str (a_cons (e_tup (a_cons e_str (a_cons e_int a_nil))) a_nil))) a_nil))) (a_cons e_int a_nil)))) (a_cons (e_tup (a_cons e_str (a_cons (e_tup (a_cons (e_tup (a_cons e_str (a_cons (e_var 1) a_nil))) a_nil)) (a_cons e_non (a_cons e_int a_nil))))) a_nil)))))
    (c_cons (d_set (i := 2) sc_odd.nd rfl (by first | exact Or.inl rfl | exact Or.inr rfl) (e_bin o_add (e_var 2) (e_lst (a_cons (e_tup (a_cons e_str (a_cons (e_tup (a_cons (e_tup (a_cons e_str (a_cons (e_tup (a_cons e_str (a_cons (e_tup a_nil) (a_cons e_int a_nil)))) a_nil))) a_nil)) (a_cons e_int a_nil)))) (a_cons (e_tup (a_cons e_str (a_cons (e_tup (a_cons (e_tup (a_cons e_str (a_cons (e_tup (a_cons e_str (a_cons e_int a_nil))) a_nil))) a_nil)) (a_cons e_int a_nil)))) a_nil)))))
    (c_cons (d_set (i := 2) sc_odd.nd rfl (by first | exact Or.inl rfl | exact Or.inr rfl) (e_bin o_add (e_var 2) (e_lst (a_cons (e_tup (a_cons e_str (a_cons (e_tup a_nil) (a_cons e_non a_nil)))) a_nil))))
    (c_cons (d_set (i := 2) sc_odd.nd rfl (by first | exact Or.inl rfl | exact Or.inr rfl) (e_bin o_add (e_var 2) (e_lst (a_cons (e_tup (a_cons e_str (a_cons (e_tup (a_cons (e_tup (a_cons e_str (a_cons (e_tup (a_cons e_str (a_cons (e_tup (a_cons (e_tup (a_cons e_str (a_cons (e_var 1) a_nil))) a_nil)) (a_cons e_int a_nil)))) a_nil))) a_nil)) (a_cons e_int a_nil)))) (a_cons (e_tup (a_cons e_int a_nil)) (a_cons (e_tup (a_cons e_non (a_cons e_int a_nil))) (a_cons (e_tup (a_cons e_str (a_cons e_non (a_cons e_non a_nil)))) a_nil)))))))
    (c_one (d_ret (e_ix (e_var 2) (e_bin o_mod (e_var 0) (e_callB o_len (by rfl) B.b_len (by decide +kernel) (a_cons (e_var 2) a_nil)))))))))))))))))))))))
theorem c_changed (D_changed : List D → M D) {k : Nat} {f : Addr} {fd : FuncData} (F : Fun K "_law_changed" "_law_changed" (topS 18) f fd) (gf : mg "_law_changed" = some (.ref f)) (B : Blt mg) (C_changed : Cal P w K mg base k "_law_changed" 3 D_changed) : Cal P w K mg base (k + 1) "_law_changed" 3 (fnD false 5 (g_changed D_changed)) := by
  refine Cal.mk' F gf (F.binds (ps := [("_law_kind_here" : PySem.Str), ("_law_path" : PySem.Str), ("_law_odd_here" : PySem.Str)]) fun _ _ _ _ _ _ us hl => match us, hl with | [_, _, _], _ => rfl) (fn_ok (N := [("_law_kind_here" : PySem.Str), ("_law_path" : PySem.Str), ("_law_odd_here" : PySem.Str), ("_law_at" : PySem.Str), ("_law_inner" : PySem.Str)]) false F sc_changed rfl fun cdv A outer s H E a => ?_)
  exact (c_cons (d_if (b_w (w_or (b_cmp (o_ne (u64 a.room)) (e_ix (e_var 0) e_int) e_str) (w_or (b_cmp (o_eq (u64 a.room)) (e_ix (e_var 0) e_int) (e_tup a_nil)) (w_or1 (b_cmp (o_eq (u64 a.room)) (e_bin o_mod (e_var 1) e_int) e_int))))) (c_one (d_ret (e_var 2))) c_nil)
    (c_cons (d_set (i := 3) sc_changed.nd rfl (by first | exact Or.inl rfl | exact Or.inr rfl) (e_bin o_mod (e_bin o_fdiv (e_var 1) e_int) (e_callB o_len (by rfl) B.b_len (by decide +kernel) (a_cons (e_ix (e_var 0) e_int) a_nil))))
    (c_cons (d_set (i := 4) sc_changed.nd rfl (by first | exact Or.inl rfl | exact Or.inr rfl) (e_tup (a_cons (e_ix (e_ix (e_ix (e_var 0) e_int) (e_var 3)) e_int) (a_cons (e_callC C_changed a.takes a.room (by rfl) (a_cons (e_ix (e_ix (e_ix (e_var 0) e_int) (e_var 3)) e_int) (a_cons (e_bin o_fdiv (e_var 1) e_int) (a_cons (e_var 2) a_nil)))) a_nil))))
    (c_one (d_ret (e_tup (a_cons e_str (a_cons (e_bin o_add (e_bin o_add (e_sl (e_ix (e_var 0) e_int) s_none (s_some (e_var 3))) (e_tup (a_cons (e_var 4) a_nil))) (e_sl (e_ix (e_var 0) e_int) (s_some (e_bin o_add (e_var 3) e_int)) s_none)) (a_cons (e_ix (e_var 0) e_int) a_nil)))))))))
theorem c_word {k : Nat} {f : Addr} {fd : FuncData} (F : Fun K "_law_word" "_law_word" (topS 19) f fd) (gf : mg "_law_word" = some (.ref f)) (B : Blt mg) : Cal P w K mg base (k + 1) "_law_word" 1 D_word := by
  refine Cal.mk' F gf (F.binds (ps := [("_law_thing_here" : PySem.Str)]) fun _ _ _ _ _ _ us hl => match us, hl with | [_], _ => rfl) (fn_ok (N := [("_law_thing_here" : PySem.Str), ("_law_sign" : PySem.Str)]) false F sc_word rfl fun cdv A outer s H E a => ?_)
  exact (c_cons (d_if (b_w (w_or (b_not (b_tru (e_isi (T := "str") (by rfl) B.b_isinstance (by rfl) B.b_str (by decide +kernel) (ha := (e_var 0))))) (w_or1 (b_not (b_chain o_le o_le e_int (e_callB o_len (by rfl) B.b_len (by decide +kernel) (a_cons (e_var 0) a_nil)) e_int))))) (c_one (d_ret e_bl)) c_nil)
    (c_one (d_ret (e_callB (o_all a.calm) (by rfl) B.b_all (by decide +kernel) (a_cons (e_lc a.calm sc_word.nd (i_str (e_var 0)) (blkOk_by (N := [("_law_thing_here" : PySem.Str), ("_law_sign" : PySem.Str)]) (sc := defScope (topS 19)) (own := [(("_law_sign" : PySem.Str), 1)]) (by decide +kernel)) (g_name (vs := [1]) 1) (fun _ _ _ _ _ => (pg_name (i := 1) sc_word.nd rfl (by first | exact Or.inl rfl | exact Or.inr rfl))) (fun _ _ _ _ _ => t_nil) (fun _ _ _ _ _ => (e_cmp o_ins (e_var 1) e_str))) a_nil)))))
theorem c_number {k : Nat} {f : Addr} {fd : FuncData} (F : Fun K "_law_number" "_law_number" (topS 20) f fd) (gf : mg "_law_number" = some (.ref f)) (B : Blt mg) : Cal P w K mg base (k + 1) "_law_number" 1 D_number := by
  refine Cal.mk' F gf (F.binds (ps := [("_law_thing_here" : PySem.Str)]) fun _ _ _ _ _ _ us hl => match us, hl with | [_], _ => rfl) (fn_ok (N := [("_law_thing_here" : PySem.Str)]) false F sc_number rfl fun cdv A outer s H E a => ?_)
  exact (c_one (d_ret (e_and (e_isi (T := "int") (by rfl) B.b_isinstance (by rfl) B.b_int (by decide +kernel) (ha := (e_var 0))) (e_and (e_not (e_isi (T := "bool") (by rfl) B.b_isinstance (by rfl) B.b_bool (by decide +kernel) (ha := (e_var 0)))) (e_one (e_cmp o_ge (e_var 0) e_int))))))
theorem c_blank {k : Nat} {f : Addr} {fd : FuncData} (F : Fun K "_law_blank" "_law_blank" (topS 21) f fd) (gf : mg "_law_blank" = some (.ref f)) (B : Blt mg) : Cal P w K mg base (k + 1) "_law_blank" 3 D_blank := by
  refine Cal.mk' F gf (F.binds (ps := [("_law_seen" : PySem.Str), ("_law_number_here" : PySem.Str), ("_law_labels_here" : PySem.Str)]) fun _ _ _ _ _ _ us hl => match us, hl with | [_, _, _], _ => rfl) (fn_ok (N := [("_law_seen" : PySem.Str), ("_law_number_here" : PySem.Str), ("_law_labels_here" : PySem.Str)]) false F sc_blank rfl fun cdv A outer s H E a => ?_)
  exact (c_cons (d_if (b_w (w_and (b_pc (c_din (u1 a.room) (e_var 1) (e_var 0))) (w_and1 (b_cmp (o_ne (u64 a.room)) (e_dget (u1 a.room) (e_var 0) (e_var 1)) (e_var 2))))) (c_one (d_ret e_bl)) c_nil)
    (c_cons (d_putIx (u1 a.room) (e_var 2) (e_var 0) (e_var 1))
    (c_one (d_ret e_bl))))
theorem c_good (D_good : List D → M D) {k : Nat} {f : Addr} {fd : FuncData} (F : Fun K "_law_good" "_law_good" (topS 22) f fd) (gf : mg "_law_good" = some (.ref f)) (B : Blt mg) (C_number : Cal P w K mg base k "_law_number" 1 D_number) (C_blank : Cal P w K mg base k "_law_blank" 3 D_blank) (C_word : Cal P w K mg base k "_law_word" 1 D_word) (C_good : Cal P w K mg base k "_law_good" 3 D_good) : Cal P w K mg base (k + 1) "_law_good" 3 (fnD false 5 (g_good D_good)) := by
  refine Cal.mk' F gf (F.binds (ps := [("_law_thing_here" : PySem.Str), ("_law_left" : PySem.Str), ("_law_seen" : PySem.Str)]) fun _ _ _ _ _ _ us hl => match us, hl with | [_, _, _], _ => rfl) (fn_ok (N := [("_law_thing_here" : PySem.Str), ("_law_left" : PySem.Str), ("_law_seen" : PySem.Str), ("_law_labels_here" : PySem.Str), ("_law_pair" : PySem.Str)]) false F sc_good rfl fun cdv A outer s H E a => ?_)
  exact (c_cons (d_if (b_w (w_or (b_cmp (o_eq (u64 a.room)) (e_var 1) e_int) (w_or (b_not (b_tru (e_isi (T := "tuple") (by rfl) B.b_isinstance (by rfl) B.b_tuple (by decide +kernel) (ha := (e_var 0))))) (w_or (b_cmp (o_eq (u64 a.room)) (e_callB o_len (by rfl) B.b_len (by decide +kernel) (a_cons (e_var 0) a_nil)) e_int) (w_or1 (b_not (b_tru (e_isi (T := "str") (by rfl) B.b_isinstance (by rfl) B.b_str (by decide +kernel) (ha := (e_ix (e_var 0) e_int)))))))))) (c_one (d_ret e_bl)) c_nil)
    (c_cons (d_putIx (u1 a.room) (e_bin o_add (e_dget (u1 a.room) (e_var 2) (e_neg e_int)) e_int) (e_var 2) (e_neg e_int))
    (c_cons (d_if (b_cmp (o_eq (u64 a.room)) (e_ix (e_var 0) e_int) e_str) (c_one (d_ret (e_cmp (o_eq (u64 a.room)) (e_callB o_len (by rfl) B.b_len (by decide +kernel) (a_cons (e_var 0) a_nil)) e_int))) c_nil)
    (c_cons (d_if (b_cmp (o_eq (u64 a.room)) (e_ix (e_var 0) e_int) e_str) (c_one (d_ret (e_and (e_cmp (o_eq (u64 a.room)) (e_callB o_len (by rfl) B.b_len (by decide +kernel) (a_cons (e_var 0) a_nil)) e_int) (e_and (e_callC C_number a.takes a.room (by rfl) (a_cons (e_ix (e_var 0) e_int) a_nil)) (e_one (e_callC C_blank a.takes a.room (by rfl) (a_cons (e_var 2) (a_cons (e_ix (e_var 0) e_int) (a_cons e_non a_nil))))))))) c_nil)
    (c_cons (d_if (b_w (w_or (b_cmp (o_ne (u64 a.room)) (e_ix (e_var 0) e_int) e_str) (w_or (b_cmp (o_ne (u64 a.room)) (e_callB o_len (by rfl) B.b_len (by decide +kernel) (a_cons (e_var 0) a_nil)) e_int) (w_or1 (b_not (b_tru (e_isi (T := "tuple") (by rfl) B.b_isinstance (by rfl) B.b_tuple (by decide +kernel) (ha := (e_ix (e_var 0) e_int))))))))) (c_one (d_ret e_bl)) c_nil)
    (c_cons (d_set (i := 3) sc_good.nd rfl (by first | exact Or.inl rfl | exact Or.inr rfl) (e_own a_nil))
    (c_cons (d_for a.own a.calm (i_seq (e_ix (e_var 0) e_int)) (pg_name (i := 4) sc_good.nd rfl (by first | exact Or.inl rfl | exact Or.inr rfl)) (g_name (vs := [4]) 4) (c_cons (d_if (b_w (w_or (b_not (b_tru (e_isi (T := "tuple") (by rfl) B.b_isinstance (by rfl) B.b_tuple (by decide +kernel) (ha := (e_var 4))))) (w_or (b_cmp (o_ne (u64 a.room)) (e_callB o_len (by rfl) B.b_len (by decide +kernel) (a_cons (e_var 4) a_nil)) e_int) (w_or1 (b_not (b_tru (e_callC C_word a.takes a.room (by rfl) (a_cons (e_ix (e_var 4) e_int) a_nil)))))))) (c_one (d_ret e_bl)) c_nil)
    (c_cons (d_if (b_w (w_or (b_w (w_and (b_cmp (o_ne (u64 a.room)) (e_var 3) (e_lst a_nil)) (w_and1 (b_cmp o_ge (e_ix (e_var 3) (e_neg e_int)) (e_ix (e_var 4) e_int))))) (w_or1 (b_not (b_tru (e_callC C_good a.takes a.room (by rfl) (a_cons (e_ix (e_var 4) e_int) (a_cons (e_bin o_sub (e_var 1) e_int) (a_cons (e_var 2) a_nil))))))))) (c_one (d_ret e_bl)) c_nil)
    (c_one (d_expr (e_append (e_var 3) (a_cons (e_ix (e_var 4) e_int) a_nil)))))))
    (c_one (d_ret (e_or (e_cmp o_is (e_ix (e_var 0) e_int) e_non) (e_one (e_and (e_callC C_number a.takes a.room (by rfl) (a_cons (e_ix (e_var 0) e_int) a_nil)) (e_one (e_callC C_blank a.takes a.room (by rfl) (a_cons (e_var 2) (a_cons (e_ix (e_var 0) e_int) (a_cons (e_frz (e_var 3)) a_nil)))))))))))))))))
theorem c_due {k : Nat} {f : Addr} {fd : FuncData} (F : Fun K "_law_due" "_law_due" (topS 23) f fd) (gf : mg "_law_due" = some (.ref f)) (B : Blt mg) (C_good : Cal P w K mg base k "_law_good" 3 D_good) : Cal P w K mg base (k + 1) "_law_due" 1 D_due := by
  refine Cal.mk' F gf (F.binds (ps := [("_law_thing_here" : PySem.Str)]) fun _ _ _ _ _ _ us hl => match us, hl with | [_], _ => rfl) (fn_ok (N := [("_law_thing_here" : PySem.Str), ("_law_seen" : PySem.Str)]) false F sc_due rfl fun cdv A outer s H E a => ?_)
  exact (c_cons (d_set (i := 1) sc_due.nd rfl (by first | exact Or.inl rfl | exact Or.inr rfl) (e_disp (pp_cons (e_neg e_int) e_int pp_nil)))
    (c_one (d_ret (e_and (e_callC C_good a.takes a.room (by rfl) (a_cons (e_var 0) (a_cons e_int (a_cons (e_var 1) a_nil)))) (e_one (e_cmp o_le (e_dget (u1 a.room) (e_var 1) (e_neg e_int)) e_int))))))
theorem c_merged (D_merged : List D → M D) {k : Nat} {f : Addr} {fd : FuncData} (F : Fun K "_law_merged" "_law_merged" (topS 24) f fd) (gf : mg "_law_merged" = some (.ref f)) (B : Blt mg) (C_merged : Cal P w K mg base k "_law_merged" 2 D_merged) : Cal P w K mg base (k + 1) "_law_merged" 2 (fnD false 5 (g_merged D_merged)) := by
  refine Cal.mk' F gf (F.binds (ps := [("_law_kind_here" : PySem.Str), ("_law_many" : PySem.Str)]) fun _ _ _ _ _ _ us hl => match us, hl with | [_, _], _ => rfl) (fn_ok (N := [("_law_kind_here" : PySem.Str), ("_law_many" : PySem.Str), ("_law_rest" : PySem.Str), ("_law_label" : PySem.Str), ("_law_inner" : PySem.Str)]) false F sc_merged rfl fun cdv A outer s H E a => ?_)
  exact (c_cons (d_if (b_cmp (o_eq (u64 a.room)) (e_ix (e_var 0) e_int) e_str) (c_one (d_ret (e_tup (a_cons e_str (a_cons (e_bin o_mod (e_ix (e_var 0) e_int) (e_var 1)) a_nil))))) c_nil)
    (c_cons (d_if (b_cmp (o_eq (u64 a.room)) (e_ix (e_var 0) e_int) e_str) (c_one (d_ret (e_var 0))) c_nil)
    (c_cons (d_set (i := 2) sc_merged.nd rfl (by first | exact Or.inl rfl | exact Or.inr rfl) (e_ix (e_var 0) e_int))
    (c_cons (d_if (b_cmp o_isNot (e_var 2) e_non) (c_one (d_set (i := 2) sc_merged.nd rfl (by first | exact Or.inl rfl | exact Or.inr rfl) (e_bin o_mod (e_var 2) (e_var 1)))) c_nil)
    (c_one (d_ret (e_tup (a_cons e_str (a_cons (e_callTy o_tuple (by rfl) B.b_tuple (by decide +kernel) (a_cons (e_lc a.calm sc_merged.nd (i_seq (e_ix (e_var 0) e_int)) (blkOk_by (N := [("_law_kind_here" : PySem.Str), ("_law_many" : PySem.Str), ("_law_rest" : PySem.Str), ("_law_label" : PySem.Str), ("_law_inner" : PySem.Str)]) (sc := defScope (topS 24)) (own := [(("_law_label" : PySem.Str), 3), (("_law_inner" : PySem.Str), 4)]) (by decide +kernel)) (g_tup (g_cons (g_name (vs := [3, 4]) 3) (g_cons (g_name (vs := [3, 4]) 4) (g_nil (vs := [3, 4]))))) (fun _ _ _ _ _ => (pg_tup rfl (pgs_cons (pg_name (i := 3) sc_merged.nd rfl (by first | exact Or.inl rfl | exact Or.inr rfl)) (pgs_cons (pg_name (i := 4) sc_merged.nd rfl (by first | exact Or.inl rfl | exact Or.inr rfl)) pgs_nil)))) (fun _ _ _ _ _ => t_nil) (fun _ _ _ _ _ => (e_tup (a_cons (e_var 3) (a_cons (e_callC C_merged takes0 a.room (by rfl) (a_cons (e_var 4) (a_cons (e_var 1) a_nil))) a_nil))))) a_nil)) (a_cons (e_var 2) a_nil))))))))))
theorem c_thing {k : Nat} {f : Addr} {fd : FuncData} (F : Fun K "_law_thing" "_law_thing" (topS 25) f fd) (gf : mg "_law_thing" = some (.ref f)) (B : Blt mg) (C_changed : Cal P w K mg base k "_law_changed" 3 D_changed) (C_merged : Cal P w K mg base k "_law_merged" 2 D_merged) (C_odd : Cal P w K mg base k "_law_odd" 2 D_odd) : Cal P w K mg base (k + 1) "_law_thing" 4 D_thing := by
  refine Cal.mk' F gf (F.binds (ps := [("_law_kind_here" : PySem.Str), ("_law_labels_here" : PySem.Str), ("_law_way" : PySem.Str), ("_law_number_here" : PySem.Str)]) fun _ _ _ _ _ _ us hl => match us, hl with | [_, _, _, _], _ => rfl) (fn_ok (N := [("_law_kind_here" : PySem.Str), ("_law_labels_here" : PySem.Str), ("_law_way" : PySem.Str), ("_law_number_here" : PySem.Str), ("_law_thing_here" : PySem.Str), ("_law_k" : PySem.Str), ("_law_signs" : PySem.Str), ("_law_size" : PySem.Str), ("_law_words" : PySem.Str), ("_law_word_here" : PySem.Str)]) false F sc_thing rfl fun cdv A outer s H E a => ?_)
  exact (c_cons (d_if (b_cmp (o_eq (u64 a.room)) (e_bin o_mod (e_var 2) e_int) e_int) (c_one (d_ret (e_callC C_merged a.takes a.room (by rfl) (a_cons (e_var 0) (a_cons (e_bin o_add e_int (e_bin o_mod (e_var 3) e_int)) a_nil))))) c_nil)
    (c_cons (d_if (b_cmp (o_eq (u64 a.room)) (e_bin o_mod (e_var 2) e_int) e_int) (c_cons (d_set (i := 4) sc_thing.nd rfl (by first | exact Or.inl rfl | exact Or.inr rfl) (e_var 0))
    (c_cons (d_for a.own a.calm (i_range1 (by rfl) B.b_range (e_bin o_mod (e_var 3) e_int)) (pg_name (i := 5) sc_thing.nd rfl (by first | exact Or.inl rfl | exact Or.inr rfl)) (g_name (vs := [5]) 5) (c_one (d_set (i := 4) sc_thing.nd rfl (by first | exact Or.inl rfl | exact Or.inr rfl) (e_tup (a_cons e_str (a_cons (e_tup (a_cons (e_tup (a_cons (e_ix (e_var 1) (e_bin o_mod (e_var 5) e_int)) (a_cons (e_var 4) a_nil))) a_nil)) (a_cons e_non a_nil)))))))
    (c_one (d_ret (e_var 4))))) c_nil)
    (c_cons (d_if (b_w (w_and (b_cmp (o_eq (u64 a.room)) (e_bin o_mod (e_var 2) e_int) e_int) (w_and1 (b_cmp (o_eq (u64 a.room)) (e_bin o_mod (e_bin o_fdiv (e_var 2) e_int) e_int) e_int)))) (c_cons (d_set (i := 6) sc_thing.nd rfl (by first | exact Or.inl rfl | exact Or.inr rfl) e_str)
    (c_cons (d_set (i := 7) sc_thing.nd rfl (by first | exact Or.inl rfl | exact Or.inr rfl) (e_ix (e_lst (a_cons (e_bin o_mod (e_bin o_fdiv (e_var 3) e_int) e_int) (a_cons (e_bin o_add e_int (e_bin o_mod (e_bin o_fdiv (e_var 3) e_int) e_int)) a_nil))) (e_bin o_mod (e_var 3) e_int)))
    (c_cons (d_setLc (n := 8) false a.calm sc_thing.nd rfl rfl (sw_true rfl rfl rfl (by decide +kernel)) (i_range1 (by rfl) B.b_range (e_var 7)) (blkOk_by (N := [("_law_kind_here" : PySem.Str), ("_law_labels_here" : PySem.Str), ("_law_way" : PySem.Str), ("_law_number_here" : PySem.Str), ("_law_thing_here" : PySem.Str), ("_law_k" : PySem.Str), ("_law_signs" : PySem.Str), ("_law_size" : PySem.Str), ("_law_words" : PySem.Str), ("_law_word_here" : PySem.Str)]) (sc := defScope (topS 25)) (own := [(("_law_k" : PySem.Str), 5)]) (by decide +kernel)) (g_name (vs := [5]) 5) (fun _ _ _ _ _ => (pg_name (i := 5) sc_thing.nd rfl (by first | exact Or.inl rfl | exact Or.inr rfl))) (fun _ _ _ _ _ => t_nil) (fun _ _ _ _ _ => (e_bin o_add (e_ix (e_var 6) (e_bin o_fdiv (e_var 5) e_int)) (e_ix (e_var 6) (e_bin o_mod (e_var 5) e_int)))))
    (c_one (d_ret (e_tup (a_cons e_str (a_cons (e_callTy o_tuple (by rfl) B.b_tuple (by decide +kernel) (a_cons (e_lc a.calm sc_thing.nd (i_seq (e_var 8)) (blkOk_by (N := [("_law_kind_here" : PySem.Str), ("_law_labels_here" : PySem.Str), ("_law_way" : PySem.Str), ("_law_number_here" : PySem.Str), ("_law_thing_here" : PySem.Str), ("_law_k" : PySem.Str), ("_law_signs" : PySem.Str), ("_law_size" : PySem.Str), ("_law_words" : PySem.Str), ("_law_word_here" : PySem.Str)]) (sc := defScope (topS 25)) (own := [(("_law_word_here" : PySem.Str), 9)]) (by decide +kernel)) (g_name (vs := [9]) 9) (fun _ _ _ _ _ => (pg_name (i := 9) sc_thing.nd rfl (by first | exact Or.inl rfl | exact Or.inr rfl))) (fun _ _ _ _ _ => t_nil) (fun _ _ _ _ _ => (e_tup (a_cons (e_var 9) (a_cons (e_tup (a_cons e_str a_nil)) a_nil))))) a_nil)) (a_cons e_non a_nil))))))))) c_nil)
    (c_one (d_ret (e_callC C_changed a.takes a.room (by rfl) (a_cons (e_var 0) (a_cons (e_bin o_fdiv (e_var 2) e_int) (a_cons (e_callC C_odd a.takes a.room (by rfl) (a_cons (e_var 3) (a_cons (e_tup (a_cons e_str a_nil)) a_nil))) a_nil)))))))))

theorem r_kind {L : Nat} {f_kind : Addr} {d_kind : FuncData} (F_kind : Fun K "_law_kind" "_law_kind" (topS 16) f_kind d_kind) (g_kind : mg "_law_kind" = some (.ref f_kind)) (B : Blt mg) (C_next : Cal P w K mg base L "_law_next" 1 D_next) : ∀ n : Nat, Cal P w K mg base (L + n) "_law_kind" 4 (R_kind n) := by
  intro n
  induction n with
  | zero => exact (Cal.zero F_kind g_kind (F_kind.binds (ps := [("_law_state" : PySem.Str), ("_law_labels_here" : PySem.Str), ("_law_met" : PySem.Str), ("_law_left" : PySem.Str)]) fun _ _ _ _ _ _ us hl => match us, hl with | [_, _, _, _], _ => rfl) rfl)
  | succ n ih => exact (c_kind _ F_kind g_kind B (C_next.mono (Nat.le_add_right _ _)) ih)
theorem r_changed {L : Nat} {f_changed : Addr} {d_changed : FuncData} (F_changed : Fun K "_law_changed" "_law_changed" (topS 18) f_changed d_changed) (g_changed : mg "_law_changed" = some (.ref f_changed)) (B : Blt mg) : ∀ n : Nat, Cal P w K mg base (L + n) "_law_changed" 3 (R_changed n) := by
  intro n
  induction n with
  | zero => exact (Cal.zero F_changed g_changed (F_changed.binds (ps := [("_law_kind_here" : PySem.Str), ("_law_path" : PySem.Str), ("_law_odd_here" : PySem.Str)]) fun _ _ _ _ _ _ us hl => match us, hl with | [_, _, _], _ => rfl) rfl)
  | succ n ih => exact (c_changed _ F_changed g_changed B ih)
theorem r_good {L : Nat} {f_good : Addr} {d_good : FuncData} (F_good : Fun K "_law_good" "_law_good" (topS 22) f_good d_good) (g_good : mg "_law_good" = some (.ref f_good)) (B : Blt mg) (C_number : Cal P w K mg base L "_law_number" 1 D_number) (C_blank : Cal P w K mg base L "_law_blank" 3 D_blank) (C_word : Cal P w K mg base L "_law_word" 1 D_word) : ∀ n : Nat, Cal P w K mg base (L + n) "_law_good" 3 (R_good n) := by
  intro n
  induction n with
  | zero => exact (Cal.zero F_good g_good (F_good.binds (ps := [("_law_thing_here" : PySem.Str), ("_law_left" : PySem.Str), ("_law_seen" : PySem.Str)]) fun _ _ _ _ _ _ us hl => match us, hl with | [_, _, _], _ => rfl) rfl)
  | succ n ih => exact (c_good _ F_good g_good B (C_number.mono (Nat.le_add_right _ _)) (C_blank.mono (Nat.le_add_right _ _)) (C_word.mono (Nat.le_add_right _ _)) ih)
theorem r_merged {L : Nat} {f_merged : Addr} {d_merged : FuncData} (F_merged : Fun K "_law_merged" "_law_merged" (topS 24) f_merged d_merged) (g_merged : mg "_law_merged" = some (.ref f_merged)) (B : Blt mg) : ∀ n : Nat, Cal P w K mg base (L + n) "_law_merged" 2 (R_merged n) := by
  intro n
  induction n with
  | zero => exact (Cal.zero F_merged g_merged (F_merged.binds (ps := [("_law_kind_here" : PySem.Str), ("_law_many" : PySem.Str)]) fun _ _ _ _ _ _ us hl => match us, hl with | [_, _], _ => rfl) rfl)
  | succ n ih => exact (c_merged _ F_merged g_merged B ih)
end
theorem fn_law {P : Program} {w : World} {K : PySem.W.Frag} {mg : Str → Option Value} {base : Heap} {k : Nat} {f : Addr} {fd : FuncData} (F : Fun K "law" "law" (topS 26) f fd) (B : Blt mg) (C_labels : Cal P w K mg base k "_law_labels" 2 D_labels) (C_kind : Cal P w K mg base k "_law_kind" 4 D_kind) (C_cell : Cal P w K mg base k "_law_cell" 2 D_cell) (C_is_kind : Cal P w K mg base k "is_kind" 1 D_is_kind) (C_thing : Cal P w K mg base k "_law_thing" 4 D_thing) (C_due : Cal P w K mg base k "_law_due" 1 D_due) : FnOk P w K mg base (L2.CX P w) (k + 1) f fd [("_law_script" : PySem.Str)] (spD K mg 1 D_law) := by
  refine fn_ok (N := [("_law_script" : PySem.Str), ("_law_labels_here" : PySem.Str), ("_law_state" : PySem.Str), ("_law_met" : PySem.Str), ("_law_kind_here" : PySem.Str), ("_law_things" : PySem.Str), ("_law_size" : PySem.Str), ("_law_k" : PySem.Str), ("_law_thing_here" : PySem.Str), ("_law_found" : PySem.Str)]) false F sc_law rfl fun cdv A outer s H E a => ?_
  exact (c_cons (d_set (i := 1) sc_law.nd rfl (by first | exact Or.inl rfl | exact Or.inr rfl) (e_callC C_labels a.takes a.room (by rfl) (a_cons (e_callC C_cell a.takes a.room (by rfl) (a_cons (e_var 0) (a_cons e_int a_nil))) (a_cons e_int a_nil))))
    (c_cons (d_set (i := 2) sc_law.nd rfl (by first | exact Or.inl rfl | exact Or.inr rfl) (e_own (a_cons (e_bin o_add e_int (e_bin o_mod (e_callC C_cell a.takes a.room (by rfl) (a_cons (e_var 0) (a_cons e_int a_nil))) e_int)) (a_cons (e_bin o_add e_int (e_bin o_mod (e_callC C_cell a.takes a.room (by rfl) (a_cons (e_var 0) (a_cons e_int a_nil))) e_int)) a_nil))))
    (c_cons (d_set (i := 3) sc_law.nd rfl (by first | exact Or.inl rfl | exact Or.inr rfl) (e_own (a_cons (e_bin o_add e_int (e_bin o_mod (e_callC C_cell a.takes a.room (by rfl) (a_cons (e_var 0) (a_cons e_int a_nil))) (e_bin o_pow e_int e_int))) (a_cons (e_own a_nil) a_nil))))
    (c_cons (d_set (i := 4) sc_law.nd rfl (by first | exact Or.inl rfl | exact Or.inr rfl) (e_callC C_kind a.takes a.room (by rfl) (a_cons (e_var 2) (a_cons (e_var 1) (a_cons (e_var 3) (a_cons (e_bin o_add e_int (e_bin o_mod (e_bin o_fdiv (e_callC C_cell a.takes a.room (by rfl) (a_cons (e_var 0) (a_cons e_int a_nil))) e_int) e_int)) a_nil))))))
    (c_cons (d_set (i := 5) sc_law.nd rfl (by first | exact Or.inl rfl | exact Or.inr rfl) (e_own (a_cons (e_var 4) a_nil)))
    (c_cons (d_for a.own a.calm (i_seq (e_lst (a_cons e_int (a_cons e_int a_nil)))) (pg_name (i := 6) sc_law.nd rfl (by first | exact Or.inl rfl | exact Or.inr rfl)) (g_name (vs := [6]) 6) (c_one (d_expr (e_append (e_var 5) (a_cons (e_tup (a_cons e_str (a_cons (e_tup (a_cons (e_tup (a_cons (e_sl (e_bin o_add (e_ix (e_var 1) e_int) e_str) s_none (s_some (e_var 6))) (a_cons (e_tup (a_cons e_str a_nil)) a_nil))) a_nil)) (a_cons e_non a_nil)))) a_nil)))))
    (c_cons (d_for a.own a.calm (i_range1 (by rfl) B.b_range e_int) (pg_name (i := 7) sc_law.nd rfl (by first | exact Or.inl rfl | exact Or.inr rfl)) (g_name (vs := [7]) 7) (c_one (d_expr (e_append (e_var 5) (a_cons (e_callC C_thing a.takes a.room (by rfl) (a_cons (e_var 4) (a_cons (e_var 1) (a_cons (e_callC C_cell a.takes a.room (by rfl) (a_cons (e_var 0) (a_cons (e_bin o_add e_int (e_bin o_mul e_int (e_var 7))) a_nil))) (a_cons (e_callC C_cell a.takes a.room (by rfl) (a_cons (e_var 0) (a_cons (e_bin o_add e_int (e_bin o_mul e_int (e_var 7))) a_nil))) a_nil))))) a_nil)))))
    (c_cons (d_for a.own a.calm (i_seq (e_bin o_add (e_var 5) (e_sl (e_var 5) s_none (s_some e_int)))) (pg_name (i := 8) sc_law.nd rfl (by first | exact Or.inl rfl | exact Or.inr rfl)) (g_name (vs := [8]) 8) (c_cons (d_set (i := 9) sc_law.nd rfl (by first | exact Or.inl rfl | exact Or.inr rfl) (e_callC C_is_kind a.takes a.room (by rfl) (a_cons (e_var 8) a_nil)))
    (c_one (d_if (b_w (w_or (b_not (b_tru (e_isi (T := "bool") (by rfl) B.b_isinstance (by rfl) B.b_bool (by decide +kernel) (ha := (e_var 9))))) (w_or1 (b_cmp (o_ne (u64 a.room)) (e_var 9) (e_callC C_due a.takes a.room (by rfl) (a_cons (e_var 8) a_nil)))))) (c_one (d_ret e_bl)) c_nil))))
    (c_one (d_ret e_bl))))))))))
theorem all_mk (HL : ∀ ns : List Int, ns.length ≤ 63 → ∃ s, D_law [.scr (ns.map D.int)] [(.tab "is_word" : Cell)] = some (.ok (.bl true) s)) {w : World} {K : PySem.W.Frag} {h : Heap} {mg : Str → Option Value} {fa : Addr} (X : K.In h) (G : h.Ns mainGlobals mg) (hfa : mg "law" = some (.ref fa)) (own : ∀ x ∈ [("is_word" : PySem.Str)], ∀ fx, mg x = some (.ref fx) → LamX.OwnTab K fx h)
    {f_is_kind : Addr} {o_is_kind a_is_kind : Option Addr} {s_is_kind : Array (Option Value)} {zc_is_kind v_is_kind t_is_kind p_is_kind e_is_kind u_is_kind : Value}
    (ha_is_kind : PySem.W.nsIn K mainGlobals "is_kind" = some (some (.ref f_is_kind))) (hl_is_kind : K.lookup f_is_kind = some ⟨zc_is_kind, o_is_kind, .func (PySem.W.fnOf "is_kind" "is_kind" (defArgs (topS 3)) (defBody (topS 3)) (defScope (topS 3)) .none v_is_kind t_is_kind p_is_kind a_is_kind e_is_kind u_is_kind), s_is_kind⟩) (hc_is_kind : PySem.W.codeIn K e_is_kind "is_kind" = true) (hk_is_kind : PySem.W.keepIn K (.ref f_is_kind) = true)
    {f_has_form : Addr} {o_has_form a_has_form : Option Addr} {s_has_form : Array (Option Value)} {zc_has_form v_has_form t_has_form p_has_form e_has_form u_has_form : Value}
    (ha_has_form : PySem.W.nsIn K mainGlobals "has_form" = some (some (.ref f_has_form))) (hl_has_form : K.lookup f_has_form = some ⟨zc_has_form, o_has_form, .func (PySem.W.fnOf "has_form" "has_form" (defArgs (topS 4)) (defBody (topS 4)) (defScope (topS 4)) .none v_has_form t_has_form p_has_form a_has_form e_has_form u_has_form), s_has_form⟩) (hc_has_form : PySem.W.codeIn K e_has_form "has_form" = true) (hk_has_form : PySem.W.keepIn K (.ref f_has_form) = true)
    {f_is_knot : Addr} {o_is_knot a_is_knot : Option Addr} {s_is_knot : Array (Option Value)} {zc_is_knot v_is_knot t_is_knot p_is_knot e_is_knot u_is_knot : Value}
    (ha_is_knot : PySem.W.nsIn K mainGlobals "is_knot" = some (some (.ref f_is_knot))) (hl_is_knot : K.lookup f_is_knot = some ⟨zc_is_knot, o_is_knot, .func (PySem.W.fnOf "is_knot" "is_knot" (defArgs (topS 5)) (defBody (topS 5)) (defScope (topS 5)) .none v_is_knot t_is_knot p_is_knot a_is_knot e_is_knot u_is_knot), s_is_knot⟩) (hc_is_knot : PySem.W.codeIn K e_is_knot "is_knot" = true) (hk_is_knot : PySem.W.keepIn K (.ref f_is_knot) = true)
    {f_is_blank_number : Addr} {o_is_blank_number a_is_blank_number : Option Addr} {s_is_blank_number : Array (Option Value)} {zc_is_blank_number v_is_blank_number t_is_blank_number p_is_blank_number e_is_blank_number u_is_blank_number : Value}
    (ha_is_blank_number : PySem.W.nsIn K mainGlobals "is_blank_number" = some (some (.ref f_is_blank_number))) (hl_is_blank_number : K.lookup f_is_blank_number = some ⟨zc_is_blank_number, o_is_blank_number, .func (PySem.W.fnOf "is_blank_number" "is_blank_number" (defArgs (topS 6)) (defBody (topS 6)) (defScope (topS 6)) .none v_is_blank_number t_is_blank_number p_is_blank_number a_is_blank_number e_is_blank_number u_is_blank_number), s_is_blank_number⟩) (hc_is_blank_number : PySem.W.codeIn K e_is_blank_number "is_blank_number" = true) (hk_is_blank_number : PySem.W.keepIn K (.ref f_is_blank_number) = true)
    {f_are_fields : Addr} {o_are_fields a_are_fields : Option Addr} {s_are_fields : Array (Option Value)} {zc_are_fields v_are_fields t_are_fields p_are_fields e_are_fields u_are_fields : Value}
    (ha_are_fields : PySem.W.nsIn K mainGlobals "are_fields" = some (some (.ref f_are_fields))) (hl_are_fields : K.lookup f_are_fields = some ⟨zc_are_fields, o_are_fields, .func (PySem.W.fnOf "are_fields" "are_fields" (defArgs (topS 7)) (defBody (topS 7)) (defScope (topS 7)) .none v_are_fields t_are_fields p_are_fields a_are_fields e_are_fields u_are_fields), s_are_fields⟩) (hc_are_fields : PySem.W.codeIn K e_are_fields "are_fields" = true) (hk_are_fields : PySem.W.keepIn K (.ref f_are_fields) = true)
    {f_is_word : Addr} {o_is_word a_is_word : Option Addr} {s_is_word : Array (Option Value)} {zc_is_word v_is_word t_is_word p_is_word e_is_word u_is_word : Value}
    (ha_is_word : PySem.W.nsIn K mainGlobals "is_word" = some (some (.ref f_is_word))) (hl_is_word : K.lookup f_is_word = some ⟨zc_is_word, o_is_word, .func (PySem.W.fnOf "is_word" "is_word" (defArgs (topS 8)) (defBody (topS 8)) (defScope (topS 8)) .none v_is_word t_is_word p_is_word a_is_word e_is_word u_is_word), s_is_word⟩) (hc_is_word : PySem.W.codeIn K e_is_word "is_word" = true) (hk_is_word : PySem.W.keepIn K (.ref f_is_word) = true)
    {f_kinds_within : Addr} {o_kinds_within a_kinds_within : Option Addr} {s_kinds_within : Array (Option Value)} {zc_kinds_within v_kinds_within t_kinds_within p_kinds_within e_kinds_within u_kinds_within : Value}
    (ha_kinds_within : PySem.W.nsIn K mainGlobals "kinds_within" = some (some (.ref f_kinds_within))) (hl_kinds_within : K.lookup f_kinds_within = some ⟨zc_kinds_within, o_kinds_within, .func (PySem.W.fnOf "kinds_within" "kinds_within" (defArgs (topS 9)) (defBody (topS 9)) (defScope (topS 9)) .none v_kinds_within t_kinds_within p_kinds_within a_kinds_within e_kinds_within u_kinds_within), s_kinds_within⟩) (hc_kinds_within : PySem.W.codeIn K e_kinds_within "kinds_within" = true) (hk_kinds_within : PySem.W.keepIn K (.ref f_kinds_within) = true)
    {f_standing : Addr} {o_standing a_standing : Option Addr} {s_standing : Array (Option Value)} {zc_standing v_standing t_standing p_standing e_standing u_standing : Value}
    (ha_standing : PySem.W.nsIn K mainGlobals "standing" = some (some (.ref f_standing))) (hl_standing : K.lookup f_standing = some ⟨zc_standing, o_standing, .func (PySem.W.fnOf "standing" "standing" (defArgs (topS 10)) (defBody (topS 10)) (defScope (topS 10)) .none v_standing t_standing p_standing a_standing e_standing u_standing), s_standing⟩) (hc_standing : PySem.W.codeIn K e_standing "standing" = true) (hk_standing : PySem.W.keepIn K (.ref f_standing) = true)
    {f_number_right_in : Addr} {o_number_right_in a_number_right_in : Option Addr} {s_number_right_in : Array (Option Value)} {zc_number_right_in v_number_right_in t_number_right_in p_number_right_in e_number_right_in u_number_right_in : Value}
    (ha_number_right_in : PySem.W.nsIn K mainGlobals "number_right_in" = some (some (.ref f_number_right_in))) (hl_number_right_in : K.lookup f_number_right_in = some ⟨zc_number_right_in, o_number_right_in, .func (PySem.W.fnOf "number_right_in" "number_right_in" (defArgs (topS 11)) (defBody (topS 11)) (defScope (topS 11)) .none v_number_right_in t_number_right_in p_number_right_in a_number_right_in e_number_right_in u_number_right_in), s_number_right_in⟩) (hc_number_right_in : PySem.W.codeIn K e_number_right_in "number_right_in" = true) (hk_number_right_in : PySem.W.keepIn K (.ref f_number_right_in) = true)
    {f_cell : Addr} {o_cell a_cell : Option Addr} {s_cell : Array (Option Value)} {zc_cell v_cell t_cell p_cell e_cell u_cell : Value}
    (ha_cell : PySem.W.nsIn K mainGlobals "_law_cell" = some (some (.ref f_cell))) (hl_cell : K.lookup f_cell = some ⟨zc_cell, o_cell, .func (PySem.W.fnOf "_law_cell" "_law_cell" (defArgs (topS 13)) (defBody (topS 13)) (defScope (topS 13)) .none v_cell t_cell p_cell a_cell e_cell u_cell), s_cell⟩) (hc_cell : PySem.W.codeIn K e_cell "_law_cell" = true) (hk_cell : PySem.W.keepIn K (.ref f_cell) = true)
    {f_next : Addr} {o_next a_next : Option Addr} {s_next : Array (Option Value)} {zc_next v_next t_next p_next e_next u_next : Value}
    (ha_next : PySem.W.nsIn K mainGlobals "_law_next" = some (some (.ref f_next))) (hl_next : K.lookup f_next = some ⟨zc_next, o_next, .func (PySem.W.fnOf "_law_next" "_law_next" (defArgs (topS 14)) (defBody (topS 14)) (defScope (topS 14)) .none v_next t_next p_next a_next e_next u_next), s_next⟩) (hc_next : PySem.W.codeIn K e_next "_law_next" = true) (hk_next : PySem.W.keepIn K (.ref f_next) = true)
    {f_labels : Addr} {o_labels a_labels : Option Addr} {s_labels : Array (Option Value)} {zc_labels v_labels t_labels p_labels e_labels u_labels : Value}
    (ha_labels : PySem.W.nsIn K mainGlobals "_law_labels" = some (some (.ref f_labels))) (hl_labels : K.lookup f_labels = some ⟨zc_labels, o_labels, .func (PySem.W.fnOf "_law_labels" "_law_labels" (defArgs (topS 15)) (defBody (topS 15)) (defScope (topS 15)) .none v_labels t_labels p_labels a_labels e_labels u_labels), s_labels⟩) (hc_labels : PySem.W.codeIn K e_labels "_law_labels" = true) (hk_labels : PySem.W.keepIn K (.ref f_labels) = true)
    {f_kind : Addr} {o_kind a_kind : Option Addr} {s_kind : Array (Option Value)} {zc_kind v_kind t_kind p_kind e_kind u_kind : Value}
    (ha_kind : PySem.W.nsIn K mainGlobals "_law_kind" = some (some (.ref f_kind))) (hl_kind : K.lookup f_kind = some ⟨zc_kind, o_kind, .func (PySem.W.fnOf "_law_kind" "_law_kind" (defArgs (topS 16)) (defBody (topS 16)) (defScope (topS 16)) .none v_kind t_kind p_kind a_kind e_kind u_kind), s_kind⟩) (hc_kind : PySem.W.codeIn K e_kind "_law_kind" = true) (hk_kind : PySem.W.keepIn K (.ref f_kind) = true)
    {f_odd : Addr} {o_odd a_odd : Option Addr} {s_odd : Array (Option Value)} {zc_odd v_odd t_odd p_odd e_odd u_odd : Value}
    (ha_odd : PySem.W.nsIn K mainGlobals "_law_odd" = some (some (.ref f_odd))) (hl_odd : K.lookup f_odd = some ⟨zc_odd, o_odd, .func (PySem.W.fnOf "_law_odd" "_law_odd" (defArgs (topS 17)) (defBody (topS 17)) (defScope (topS 17)) .none v_odd t_odd p_odd a_odd e_odd u_odd), s_odd⟩) (hc_odd : PySem.W.codeIn K e_odd "_law_odd" = true) (hk_odd : PySem.W.keepIn K (.ref f_odd) = true)
    {f_changed : Addr} {o_changed a_changed : Option Addr} {s_changed : Array (Option Value)} {zc_changed v_changed t_changed p_changed e_changed u_changed : Value}
    (ha_changed : PySem.W.nsIn K mainGlobals "_law_changed" = some (some (.ref f_changed))) (hl_changed : K.lookup f_changed = some ⟨zc_changed, o_changed, .func (PySem.W.fnOf "_law_changed" "_law_changed" (defArgs (topS 18)) (defBody (topS 18)) (defScope (topS 18)) .none v_changed t_changed p_changed a_changed e_changed u_changed), s_changed⟩) (hc_changed : PySem.W.codeIn K e_changed "_law_changed" = true) (hk_changed : PySem.W.keepIn K (.ref f_changed) = true)
    {f_word : Addr} {o_word a_word : Option Addr} {s_word : Array (Option Value)} {zc_word v_word t_word p_word e_word u_word : Value}
    (ha_word : PySem.W.nsIn K mainGlobals "_law_word" = some (some (.ref f_word))) (hl_word : K.lookup f_word = some ⟨zc_word, o_word, .func (PySem.W.fnOf "_law_word" "_law_word" (defArgs (topS 19)) (defBody (topS 19)) (defScope (topS 19)) .none v_word t_word p_word a_word e_word u_word), s_word⟩) (hc_word : PySem.W.codeIn K e_word "_law_word" = true) (hk_word : PySem.W.keepIn K (.ref f_word) = true)
    {f_number : Addr} {o_number a_number : Option Addr} {s_number : Array (Option Value)} {zc_number v_number t_number p_number e_number u_number : Value}
    (ha_number : PySem.W.nsIn K mainGlobals "_law_number" = some (some (.ref f_number))) (hl_number : K.lookup f_number = some ⟨zc_number, o_number, .func (PySem.W.fnOf "_law_number" "_law_number" (defArgs (topS 20)) (defBody (topS 20)) (defScope (topS 20)) .none v_number t_number p_number a_number e_number u_number), s_number⟩) (hc_number : PySem.W.codeIn K e_number "_law_number" = true) (hk_number : PySem.W.keepIn K (.ref f_number) = true)
    {f_blank : Addr} {o_blank a_blank : Option Addr} {s_blank : Array (Option Value)} {zc_blank v_blank t_blank p_blank e_blank u_blank : Value}
    (ha_blank : PySem.W.nsIn K mainGlobals "_law_blank" = some (some (.ref f_blank))) (hl_blank : K.lookup f_blank = some ⟨zc_blank, o_blank, .func (PySem.W.fnOf "_law_blank" "_law_blank" (defArgs (topS 21)) (defBody (topS 21)) (defScope (topS 21)) .none v_blank t_blank p_blank a_blank e_blank u_blank), s_blank⟩) (hc_blank : PySem.W.codeIn K e_blank "_law_blank" = true) (hk_blank : PySem.W.keepIn K (.ref f_blank) = true)
    {f_good : Addr} {o_good a_good : Option Addr} {s_good : Array (Option Value)} {zc_good v_good t_good p_good e_good u_good : Value}
    (ha_good : PySem.W.nsIn K mainGlobals "_law_good" = some (some (.ref f_good))) (hl_good : K.lookup f_good = some ⟨zc_good, o_good, .func (PySem.W.fnOf "_law_good" "_law_good" (defArgs (topS 22)) (defBody (topS 22)) (defScope (topS 22)) .none v_good t_good p_good a_good e_good u_good), s_good⟩) (hc_good : PySem.W.codeIn K e_good "_law_good" = true) (hk_good : PySem.W.keepIn K (.ref f_good) = true)
    {f_due : Addr} {o_due a_due : Option Addr} {s_due : Array (Option Value)} {zc_due v_due t_due p_due e_due u_due : Value}
    (ha_due : PySem.W.nsIn K mainGlobals "_law_due" = some (some (.ref f_due))) (hl_due : K.lookup f_due = some ⟨zc_due, o_due, .func (PySem.W.fnOf "_law_due" "_law_due" (defArgs (topS 23)) (defBody (topS 23)) (defScope (topS 23)) .none v_due t_due p_due a_due e_due u_due), s_due⟩) (hc_due : PySem.W.codeIn K e_due "_law_due" = true) (hk_due : PySem.W.keepIn K (.ref f_due) = true)
    {f_merged : Addr} {o_merged a_merged : Option Addr} {s_merged : Array (Option Value)} {zc_merged v_merged t_merged p_merged e_merged u_merged : Value}
    (ha_merged : PySem.W.nsIn K mainGlobals "_law_merged" = some (some (.ref f_merged))) (hl_merged : K.lookup f_merged = some ⟨zc_merged, o_merged, .func (PySem.W.fnOf "_law_merged" "_law_merged" (defArgs (topS 24)) (defBody (topS 24)) (defScope (topS 24)) .none v_merged t_merged p_merged a_merged e_merged u_merged), s_merged⟩) (hc_merged : PySem.W.codeIn K e_merged "_law_merged" = true) (hk_merged : PySem.W.keepIn K (.ref f_merged) = true)
    {f_thing : Addr} {o_thing a_thing : Option Addr} {s_thing : Array (Option Value)} {zc_thing v_thing t_thing p_thing e_thing u_thing : Value}
    (ha_thing : PySem.W.nsIn K mainGlobals "_law_thing" = some (some (.ref f_thing))) (hl_thing : K.lookup f_thing = some ⟨zc_thing, o_thing, .func (PySem.W.fnOf "_law_thing" "_law_thing" (defArgs (topS 25)) (defBody (topS 25)) (defScope (topS 25)) .none v_thing t_thing p_thing a_thing e_thing u_thing), s_thing⟩) (hc_thing : PySem.W.codeIn K e_thing "_law_thing" = true) (hk_thing : PySem.W.keepIn K (.ref f_thing) = true)
    {f_law : Addr} {o_law a_law : Option Addr} {s_law : Array (Option Value)} {zc_law v_law t_law p_law e_law u_law : Value}
    (ha_law : PySem.W.nsIn K mainGlobals "law" = some (some (.ref f_law))) (hl_law : K.lookup f_law = some ⟨zc_law, o_law, .func (PySem.W.fnOf "law" "law" (defArgs (topS 26)) (defBody (topS 26)) (defScope (topS 26)) .none v_law t_law p_law a_law e_law u_law), s_law⟩) (hc_law : PySem.W.codeIn K e_law "law" = true) (hk_law : PySem.W.keepIn K (.ref f_law) = true)
    {cc_is_word P_is_word : Addr} {dd_is_word : Option Addr} {vs_is_word : Array Value} {sl_is_word : Array (Option Value)}
    (he_is_word : e_is_word = .ref cc_is_word) (hd_is_word : K.lookup cc_is_word = some ⟨.type "code", dd_is_word, .fields vs_is_word, sl_is_word⟩) (hP_is_word : vs_is_word[11]? = some (.ref P_is_word)) (hR_is_word : ∃ file tf flags tg inF text tt, vs_is_word.getD 11 .none = .ref P_is_word ∧ vs_is_word.getD 18 .none = .str file tf ∧ vs_is_word.getD 7 .none = .int flags tg ∧ vs_is_word.getD 9 .none = .bool inF ∧ vs_is_word.getD 10 .none = .int text tt ∧ cc_is_word ≠ P_is_word) (hN_is_word : K.lookup P_is_word = none)
    (hz_all : PySem.W.nsIn K mainGlobals "all" = some none)
    (hz_bool : PySem.W.nsIn K mainGlobals "bool" = some none)
    (hz_int : PySem.W.nsIn K mainGlobals "int" = some none)
    (hz_isinstance : PySem.W.nsIn K mainGlobals "isinstance" = some none)
    (hz_len : PySem.W.nsIn K mainGlobals "len" = some none)
    (hz_list : PySem.W.nsIn K mainGlobals "list" = some none)
    (hz_range : PySem.W.nsIn K mainGlobals "range" = some none)
    (hz_sorted : PySem.W.nsIn K mainGlobals "sorted" = some none)
    (hz_str : PySem.W.nsIn K mainGlobals "str" = some none)
    (hz_tuple : PySem.W.nsIn K mainGlobals "tuple" = some none)
    {t_MOST_DEEP : Tok} (hq_MOST_DEEP : PySem.W.nsIn K mainGlobals "MOST_DEEP" = some (some (.int 12 t_MOST_DEEP)))
    {t_MOST_KNOTS : Tok} (hq_MOST_KNOTS : PySem.W.nsIn K mainGlobals "MOST_KNOTS" = some (some (.int 200 t_MOST_KNOTS))) :
    LamX.LawAtS PySem.Challenge.rw_fieldrest_k02_kinds w K (L2.CX PySem.Challenge.rw_fieldrest_k02_kinds.prog w) 22 63 "_law_script" mg fa h := by
  have e := hfa.symm.trans (PySem.W.mg_of X G ha_law)
  cases e
  have F_is_kind := fun_mk (st := topS 3) hl_is_kind hc_is_kind hk_is_kind
  have g_is_kind := PySem.W.mg_of X G ha_is_kind
  have F_has_form := fun_mk (st := topS 4) hl_has_form hc_has_form hk_has_form
  have g_has_form := PySem.W.mg_of X G ha_has_form
  have F_is_knot := fun_mk (st := topS 5) hl_is_knot hc_is_knot hk_is_knot
  have g_is_knot := PySem.W.mg_of X G ha_is_knot
  have F_is_blank_number := fun_mk (st := topS 6) hl_is_blank_number hc_is_blank_number hk_is_blank_number
  have g_is_blank_number := PySem.W.mg_of X G ha_is_blank_number
  have F_are_fields := fun_mk (st := topS 7) hl_are_fields hc_are_fields hk_are_fields
  have g_are_fields := PySem.W.mg_of X G ha_are_fields
  have F_is_word := fun_mk (st := topS 8) hl_is_word hc_is_word hk_is_word
  have g_is_word := PySem.W.mg_of X G ha_is_word
  have F_kinds_within := fun_mk (st := topS 9) hl_kinds_within hc_kinds_within hk_kinds_within
  have g_kinds_within := PySem.W.mg_of X G ha_kinds_within
  have F_standing := fun_mk (st := topS 10) hl_standing hc_standing hk_standing
  have g_standing := PySem.W.mg_of X G ha_standing
  have F_number_right_in := fun_mk (st := topS 11) hl_number_right_in hc_number_right_in hk_number_right_in
  have g_number_right_in := PySem.W.mg_of X G ha_number_right_in
  have F_cell := fun_mk (st := topS 13) hl_cell hc_cell hk_cell
  have g_cell := PySem.W.mg_of X G ha_cell
  have F_next := fun_mk (st := topS 14) hl_next hc_next hk_next
  have g_next := PySem.W.mg_of X G ha_next
  have F_labels := fun_mk (st := topS 15) hl_labels hc_labels hk_labels
  have g_labels := PySem.W.mg_of X G ha_labels
  have F_kind := fun_mk (st := topS 16) hl_kind hc_kind hk_kind
  have g_kind := PySem.W.mg_of X G ha_kind
  have F_odd := fun_mk (st := topS 17) hl_odd hc_odd hk_odd
  have g_odd := PySem.W.mg_of X G ha_odd
  have F_changed := fun_mk (st := topS 18) hl_changed hc_changed hk_changed
  have g_changed := PySem.W.mg_of X G ha_changed
  have F_word := fun_mk (st := topS 19) hl_word hc_word hk_word
  have g_word := PySem.W.mg_of X G ha_word
  have F_number := fun_mk (st := topS 20) hl_number hc_number hk_number
  have g_number := PySem.W.mg_of X G ha_number
  have F_blank := fun_mk (st := topS 21) hl_blank hc_blank hk_blank
  have g_blank := PySem.W.mg_of X G ha_blank
  have F_good := fun_mk (st := topS 22) hl_good hc_good hk_good
  have g_good := PySem.W.mg_of X G ha_good
  have F_due := fun_mk (st := topS 23) hl_due hc_due hk_due
  have g_due := PySem.W.mg_of X G ha_due
  have F_merged := fun_mk (st := topS 24) hl_merged hc_merged hk_merged
  have g_merged := PySem.W.mg_of X G ha_merged
  have F_thing := fun_mk (st := topS 25) hl_thing hc_thing hk_thing
  have g_thing := PySem.W.mg_of X G ha_thing
  have F_law := fun_mk (st := topS 26) hl_law hc_law hk_law
  have g_law := PySem.W.mg_of X G ha_law
  have B : Blt mg := ⟨PySem.W.mg_none_of X G hz_all, PySem.W.mg_none_of X G hz_bool, PySem.W.mg_none_of X G hz_int, PySem.W.mg_none_of X G hz_isinstance, PySem.W.mg_none_of X G hz_len, PySem.W.mg_none_of X G hz_list, PySem.W.mg_none_of X G hz_range, PySem.W.mg_none_of X G hz_sorted, PySem.W.mg_none_of X G hz_str, PySem.W.mg_none_of X G hz_tuple, ⟨_, PySem.W.mg_of X G hq_MOST_DEEP⟩, ⟨_, PySem.W.mg_of X G hq_MOST_KNOTS⟩⟩
  subst he_is_word
  have hT_is_word : TabIs K "is_word" P_is_word := ⟨f_is_word, _, _, cc_is_word, _, vs_is_word, ha_is_word, hl_is_word, rfl, rfl, hd_is_word, rfl, hP_is_word⟩
  have hG_is_word : h.get? P_is_word = some { cls := .none, data := .fields #[] } := own "is_word" (by simp) f_is_word g_is_word cc_is_word P_is_word _ _ _ _ _ _ hl_is_word rfl rfl hd_is_word hP_is_word
  have hC_is_word : PySem.W.CodeHd h cc_is_word P_is_word := by
    obtain ⟨file, tf, flags, tg, inF, text, tt, q1, q2, q3, q4, q5, q6⟩ := hR_is_word
    exact ⟨_, vs_is_word, file, tf, flags, tg, inF, text, tt, X _ _ hd_is_word, rfl, rfl, hP_is_word, q1, q2, q3, q4, q5, q6⟩
  refine ⟨PySem.W.fnOf "law" "law" (defArgs (topS 26)) (defBody (topS 26)) (defScope (topS 26)) .none v_law t_law p_law a_law e_law u_law, [(cc_is_word, P_is_word)], spT K [(("is_word" : PySem.Str), P_is_word)], fun p hp => (by simp only [List.mem_cons, List.not_mem_nil, or_false] at hp; rcases hp with rfl <;> first | exact hG_is_word), fun p hp => (by simp only [List.mem_cons, List.not_mem_nil, or_false] at hp; rcases hp with rfl <;> first | exact hN_is_word), fun p hp => (by simp only [List.mem_cons, List.not_mem_nil, or_false] at hp; rcases hp with rfl <;> first | exact hC_is_word), fun s v => .of_eq rfl, fun H a ns hl _ hH hS => ⟨a, ns, rfl, hS, hl, fun p hp => (by simp only [List.mem_cons, List.not_mem_nil, or_false] at hp; rcases hp with rfl <;> first | exact hH (cc_is_word, P_is_word) (by simp)), fun _ => rfl⟩, fun base _ _ TB => ?_⟩
  have TB_is_word : GxR.TabB base mg cc_is_word P_is_word := ⟨(TB (cc_is_word, P_is_word) (by simp)).code, (TB (cc_is_word, P_is_word) (by simp)).bm, (TB (cc_is_word, P_is_word) (by simp)).gP⟩
  have TF_is_word : TabF K mg base "is_word" f_is_word (PySem.W.fnOf "is_word" "is_word" (defArgs (topS 8)) (defBody (topS 8)) (defScope (topS 8)) .none v_is_word t_is_word p_is_word a_is_word (.ref cc_is_word) u_is_word) := ⟨cc_is_word, P_is_word, _, vs_is_word, rfl, hd_is_word, rfl, hP_is_word, TB_is_word, ha_is_word⟩
  let P : Program := PySem.Challenge.rw_fieldrest_k02_kinds.prog
  have C_is_blank_number : Cal P w K mg base 1 "is_blank_number" 1 D_is_blank_number := c_is_blank_number (k := 0) F_is_blank_number g_is_blank_number B
  have C_is_word : Cal P w K mg base 1 "is_word" 1 D_is_word := c_is_word (k := 0) F_is_word g_is_word B TF_is_word
  have C_are_fields : Cal P w K mg base 2 "are_fields" 1 D_are_fields := c_are_fields (k := 1) F_are_fields g_are_fields B (C_is_word.mono (by decide))
  have C_is_knot : Cal P w K mg base 3 "is_knot" 1 D_is_knot := c_is_knot (k := 2) F_is_knot g_is_knot B (C_is_blank_number.mono (by decide)) (C_are_fields.mono (by decide))
  have C_kinds_within : Cal P w K mg base 1 "kinds_within" 1 D_kinds_within := c_kinds_within (k := 0) F_kinds_within g_kinds_within B
  have C_has_form : Cal P w K mg base 4 "has_form" 2 D_has_form := c_has_form (k := 3) F_has_form g_has_form B (C_is_knot.mono (by decide)) (C_kinds_within.mono (by decide))
  have C_number_right_in : Cal P w K mg base 1 "number_right_in" 1 D_number_right_in := c_number_right_in (k := 0) F_number_right_in g_number_right_in B
  have C_standing : Cal P w K mg base 2 "standing" 1 D_standing := c_standing (k := 1) F_standing g_standing B (C_number_right_in.mono (by decide)) (C_kinds_within.mono (by decide))
  have C_is_kind : Cal P w K mg base 5 "is_kind" 1 D_is_kind := c_is_kind (k := 4) F_is_kind g_is_kind B (C_has_form.mono (by decide)) (C_standing.mono (by decide))
  have C_cell : Cal P w K mg base 1 "_law_cell" 2 D_cell := c_cell (k := 0) F_cell g_cell B
  have C_next : Cal P w K mg base 1 "_law_next" 1 D_next := c_next (k := 0) F_next g_next B
  have C_labels : Cal P w K mg base 1 "_law_labels" 2 D_labels := c_labels (k := 0) F_labels g_labels B
  have R_kind := r_kind (P := P) (w := w) (base := base) (L := 1) F_kind g_kind B (C_next.mono (by decide))
  have C_kind : Cal P w K mg base 15 "_law_kind" 4 D_kind := (R_kind 14)
  have C_odd : Cal P w K mg base 1 "_law_odd" 2 D_odd := c_odd (k := 0) F_odd g_odd B
  have R_changed := r_changed (P := P) (w := w) (base := base) (L := 0) F_changed g_changed B
  have C_changed : Cal P w K mg base 20 "_law_changed" 3 D_changed := (R_changed 20)
  have C_word : Cal P w K mg base 1 "_law_word" 1 D_word := c_word (k := 0) F_word g_word B
  have C_number : Cal P w K mg base 1 "_law_number" 1 D_number := c_number (k := 0) F_number g_number B
  have C_blank : Cal P w K mg base 1 "_law_blank" 3 D_blank := c_blank (k := 0) F_blank g_blank B
  have R_good := r_good (P := P) (w := w) (base := base) (L := 1) F_good g_good B (C_number.mono (by decide)) (C_blank.mono (by decide)) (C_word.mono (by decide))
  have C_good : Cal P w K mg base 15 "_law_good" 3 D_good := (R_good 14)
  have C_due : Cal P w K mg base 16 "_law_due" 1 D_due := c_due (k := 15) F_due g_due B (C_good.mono (by decide))
  have R_merged := r_merged (P := P) (w := w) (base := base) (L := 0) F_merged g_merged B
  have C_merged : Cal P w K mg base 14 "_law_merged" 2 D_merged := (R_merged 14)
  have C_thing : Cal P w K mg base 21 "_law_thing" 4 D_thing := c_thing (k := 20) F_thing g_thing B (C_changed.mono (by decide)) (C_merged.mono (by decide)) (C_odd.mono (by decide))
  have L := fn_law (k := 21) (base := base) (P := PySem.Challenge.rw_fieldrest_k02_kinds.prog) (w := w) F_law B (C_labels.mono (by decide)) (C_kind.mono (by decide)) (C_cell.mono (by decide)) (C_is_kind.mono (by decide)) (C_thing.mono (by decide)) (C_due.mono (by decide))
  refine L.imp fun vs H Q E hs => ?_
  obtain ⟨a, ns, rfl, hS, hn, hH, q⟩ := hs
  exact law_spT 63 [(("is_word" : PySem.Str), P_is_word)] (by simp) (fun p hp => (by simp only [List.mem_cons, List.not_mem_nil, or_false] at hp; rcases hp with rfl <;> first | exact hT_is_word)) HL H a ns hn hS hH q
end Pr


set_option Elab.async false
set_option linter.all false
set_option maxRecDepth 100000
set_option maxHeartbeats 4000000
namespace Pr
open PySem L2 PD
abbrev S (x : String) : Str := PySem.Str.ofString x
structure OkS (n : Nat) (x : Str) : Prop where
  len : x.length ≤ n
  cps : ∀ c ∈ x.cps.toList, c < 1114112
theorem OkS.mono {m n : Nat} {x : Str} (h : OkS m x) (hn : m ≤ n) : OkS n x := ⟨Nat.le_trans h.len hn, h.cps⟩
/-- plain, and at most n deep -/
structure Pl (n : Nat) (d : D) : Prop where
  low : D.low 0 d = true
  lay : (py d).canLay0 = true
  deep : (py d).depth ≤ n
theorem Pl.mono {m n : Nat} {d : D} (h : Pl m d) (hn : m ≤ n) : Pl n d := ⟨h.low, h.lay, Nat.le_trans h.deep hn⟩
theorem pl_int (n : Nat) (i : Int) : Pl n (.int i) := ⟨rfl, rfl, by show PyData.depth (.int i) ≤ n; simp [PyData.depth]⟩
theorem pl_str {k : Nat} (n : Nat) {x : Str} (h : OkS k x) : Pl n (.str x) := by
  refine ⟨rfl, ?_, by show PyData.depth (.str x) ≤ n; simp [PyData.depth]⟩
  show PyData.strOk x = true
  unfold PyData.strOk
  rw [Array.all_eq_true']
  intro c hc
  exact decide_eq_true (h.cps c (by simpa using hc))
theorem pl_all {n : Nat} : ∀ {ds : List D}, (∀ d ∈ ds, Pl n d) → D.lowAll 0 ds = true ∧ PyData.canLayAll0 (pyAll ds) = true ∧ PyData.depthAll (pyAll ds) ≤ n
  | [], _ => ⟨rfl, rfl, by simp [pyAll, PyData.depthAll]⟩
  | d :: ds, h => by
    obtain ⟨a, b, c⟩ := pl_all (ds := ds) fun x hx => h x (List.mem_cons_of_mem _ hx)
    have e := h d List.mem_cons_self
    refine ⟨?_, ?_, ?_⟩
    · show (D.low 0 d && D.lowAll 0 ds) = true
      rw [e.low, a]; rfl
    · show ((py d).canLay0 && PyData.canLayAll0 (pyAll ds)) = true
      rw [e.lay, b]; rfl
    · have := e.deep
      simp only [pyAll, PyData.depthAll]
      omega
theorem pl_tup {n : Nat} {ds : List D} (h : ∀ d ∈ ds, Pl n d) : Pl (n + 1) (.tup ds) := by
  obtain ⟨a, b, c⟩ := pl_all h
  refine ⟨a, b, ?_⟩
  show PyData.depth (.tuple (pyAll ds)) ≤ n + 1
  simp only [PyData.depth]
  omega
theorem pl_lst {n : Nat} {ds : List D} (h : ∀ d ∈ ds, Pl n d) : Pl (n + 1) (.lst ds) := by
  obtain ⟨a, b, c⟩ := pl_all h
  refine ⟨a, b, ?_⟩
  show PyData.depth (.list (pyAll ds)) ≤ n + 1
  simp only [PyData.depth]
  omega
theorem pl_scr {n : Nat} {ds : List D} (h : ∀ d ∈ ds, Pl n d) : Pl (n + 1) (.scr ds) := by
  obtain ⟨a, b, c⟩ := pl_all h
  refine ⟨a, b, ?_⟩
  show PyData.depth (.list (pyAll ds)) ≤ n + 1
  simp only [PyData.depth]
  omega
theorem Pl.shaped {d : D} (h : Pl 64 d) : SeqAt.shaped (py d) = true := Bool.and_eq_true_iff.mpr ⟨h.lay, decide_eq_true h.deep⟩
theorem plainPy_of {s : Sto} {d : D} (h : Pl 64 (peek s d)) : plainPy s d = some (py (peek s d)) := by
  unfold plainPy
  rw [h.low, h.shaped]
  rfl
/-- equal lists -/
theorem eqO_same {neg : Bool} {s : Sto} {d e : D} (hd : Pl 64 (peek s d)) (he : py (peek s d) = py (peek s e)) (hl : Pl 64 (peek s e)) (hn : scD d = none) : eqO neg s d e = some (.bl (ng neg true)) := by
  have h1 := plainPy_of hd
  have h2 := plainPy_of hl
  have h3 := plain_eq h1
  unfold eqO eqBo
  rw [hn]
  simp only [deepB, h1, h2]
  rw [← he, h3]
  rfl
theorem fOr_ff {u v : Sl → M Bool} {sl : Sl} {s s1 s2 : Sto} (h1 : u sl s = some (.ok false s1)) (h2 : v sl s1 = some (.ok false s2)) : fOr u v sl s = some (.ok false s2) := by
  simp [fOr, bindM, h1, h2]
theorem fNot_of {u : Sl → M Bool} {sl : Sl} {s s1 : Sto} {b : Bool} (h1 : u sl s = some (.ok b s1)) : fNot u sl s = some (.ok (!b) s1) := by
  simp [fNot, bindM, retM, h1]
theorem fB_of {f : Sl → M D} {sl : Sl} {s s1 : Sto} {b : Bool} (h1 : f sl s = some (.ok (.bl b) s1)) : fB f sl s = some (.ok b s1) := by
  simp [fB, bindM, liftO, asB, h1]
theorem f2_of {o : Sto → D → D → Option D} {f g : Sl → M D} {sl : Sl} {s s1 s2 : Sto} {x y z : D} (h1 : f sl s = some (.ok x s1)) (h2 : g sl s1 = some (.ok y s2)) (h3 : o s2 x y = some z) : f2 o f g sl s = some (.ok z s2) := by
  simp [f2, bindM, liftO, h1, h2, h3]

theorem small_of {n : Nat} (h : n ≤ 1000000) : small n = true := decide_eq_true (by omega)
theorem fin_same (s : Sto) (d : D) (h : D.low s.length d = true) (hn : ∀ k, d ≠ .own k) : closeM false s d s = some (.ok d s) := by
  have := closeM_low (keep := false) (s := s) (t := s) (junk := []) (d := d) rfl (keeps_refl s) h hn
  rw [List.append_nil] at this
  exact this
theorem fin_setC (s : Sto) (k : Nat) (c : Cell) (junk : Sto) (d : D) (hc : CellLow s.length c) (h : D.low 0 d = true) (hn : ∀ k, d ≠ .own k) : closeM false s d (s.set k c ++ junk) = some (.ok d (s.set k c)) :=
  closeM_low (List.length_set) (keeps_set hc) (low_mono (Nat.zero_le _) _ h) hn
/-! ### the table of blanks -/
abbrev Lab := Option (List Str)
structure Tab where
  n : Int
  m : List (Int × Lab)
def encL : Lab → D
  | none => .non
  | some L => .lst (L.map D.str)
def encT (T : Tab) : List (Key × D) := (.inl (-1), .int T.n) :: T.m.map fun q => (.inl q.1, encL q.2)
def lkT (m : List (Int × Lab)) (i : Int) : Option Lab := (m.find? fun q => decide (q.1 = i)).map (·.2)
def putT (m : List (Int × Lab)) (i : Int) (v : Lab) : List (Int × Lab) := if (m.any fun q => decide (q.1 = i)) = true then m.map (fun q => if q.1 = i then (q.1, v) else q) else m ++ [(i, v)]
def OkL : Lab → Prop
  | none => True
  | some L => ∀ x ∈ L, OkS 8 x
structure OkT (T : Tab) : Prop where
  keys : ∀ q ∈ T.m, 0 ≤ q.1
  labs : ∀ q ∈ T.m, OkL q.2
theorem inl_eq {i j : Int} : ((Sum.inl i : Key) = Sum.inl j) ↔ i = j := ⟨fun h => Sum.inl.inj h, fun h => by rw [h]⟩
theorem atD_map (i : Int) : ∀ m : List (Int × Lab), atD (m.map fun q => (Sum.inl q.1, encL q.2)) (.inl i) = (lkT m i).map encL
  | [] => rfl
  | q :: m => by
    have ih := atD_map i m
    unfold atD lkT at *
    rw [List.map_cons, List.find?_cons, List.find?_cons]
    by_cases e : q.1 = i
    · simp [e]
    · have e' : ¬ ((Sum.inl q.1 : Key) = Sum.inl i) := fun h => e (inl_eq.mp h)
      simp only [e, e', decide_false]
      exact ih
theorem atD_cnt (T : Tab) : atD (encT T) (.inl (-1)) = some (.int T.n) := by simp [atD, encT]
theorem atD_i (T : Tab) {i : Int} (h : 0 ≤ i) : atD (encT T) (.inl i) = (lkT T.m i).map encL := by
  rw [← atD_map]
  unfold atD encT
  rw [List.find?_cons]
  have e' : ¬ ((Sum.inl (-1) : Key) = Sum.inl i) := fun h' => by have := inl_eq.mp h'; omega
  simp only [e', decide_false]
theorem putD_cnt (T : Tab) (h : ∀ q ∈ T.m, 0 ≤ q.1) (n : Int) : putD (encT T) (.inl (-1)) (.int n) = encT ⟨n, T.m⟩ := by
  unfold putD encT
  rw [if_pos (by simp), List.map_cons, if_pos rfl]
  congr 1
  rw [List.map_map]
  refine List.map_congr_left fun q hq => ?_
  have := h q hq
  have e' : ¬ ((Sum.inl q.1 : Key) = Sum.inl (-1)) := fun h' => by have := inl_eq.mp h'; omega
  show (if (Sum.inl q.1 : Key) = Sum.inl (-1) then _ else _) = _
  rw [if_neg e']
theorem putD_i (T : Tab) {i : Int} (h : 0 ≤ i) (v : Lab) : putD (encT T) (.inl i) (encL v) = encT ⟨T.n, putT T.m i v⟩ := by
  have e' : ¬ ((Sum.inl (-1) : Key) = Sum.inl i) := fun h' => by have := inl_eq.mp h'; omega
  have ha : ((encT T).any fun q => decide (q.1 = Sum.inl i)) = (T.m.any fun q => decide (q.1 = i)) := by
    unfold encT
    rw [List.any_cons, decide_eq_false e', Bool.false_or, List.any_map]
    congr 1
    funext q
    show decide ((Sum.inl q.1 : Key) = Sum.inl i) = _
    exact decide_eq_decide.mpr inl_eq
  unfold putD
  rw [ha]
  unfold putT encT
  split
  · rw [List.map_cons, if_neg e', List.map_map, List.map_map]
    congr 1
    refine List.map_congr_left fun q hq => ?_
    show (if (Sum.inl q.1 : Key) = Sum.inl i then _ else _) = _
    by_cases e : q.1 = i
    · simp [e]
    · rw [if_neg (fun h => e (inl_eq.mp h))]
      simp [e]
  · rw [List.map_append]
    rfl
theorem putT_len (m : List (Int × Lab)) (i : Int) (v : Lab) : (putT m i v).length ≤ m.length + 1 := by
  unfold putT
  split
  · rw [List.length_map]; omega
  · rw [List.length_append]; simp
theorem putT_ok {T : Tab} (h : OkT T) {i : Int} (hi : 0 ≤ i) {v : Lab} (hv : OkL v) (n : Int) : OkT ⟨n, putT T.m i v⟩ := by
  have key : ∀ q ∈ putT T.m i v, 0 ≤ q.1 ∧ OkL q.2 := by
    intro q hq
    unfold putT at hq
    split at hq
    · obtain ⟨p, hp, rfl⟩ := List.mem_map.mp hq
      split
      · exact ⟨h.keys p hp, hv⟩
      · exact ⟨h.keys p hp, h.labs p hp⟩
    · rcases List.mem_append.mp hq with hp | hp
      · exact ⟨h.keys q hp, h.labs q hp⟩
      · rw [List.mem_singleton.mp hp]
        exact ⟨hi, hv⟩
  exact ⟨fun q hq => (key q hq).1, fun q hq => (key q hq).2⟩
theorem lkT_ok {T : Tab} (h : OkT T) {i : Int} {v : Lab} (e : lkT T.m i = some v) : OkL v := by
  unfold lkT at e
  cases hf : T.m.find? fun q => decide (q.1 = i) with
  | none => rw [hf] at e; cases e
  | some q =>
    rw [hf] at e
    cases e
    exact h.labs q (List.mem_of_find?_eq_some hf)
theorem low_strs (n : Nat) (L : List Str) : D.lowAll n (L.map D.str) = true := by
  rw [lowAll_iff]
  intro d hd
  obtain ⟨x, _, rfl⟩ := List.mem_map.mp hd
  rfl
theorem low_encL (n : Nat) (v : Lab) : D.low n (encL v) = true := by
  cases v with
  | none => rfl
  | some L => exact low_strs n L
theorem low_encT (n : Nat) (T : Tab) : CellLow n (.dic (encT T)) := by
  intro q hq
  unfold encT at hq
  rcases List.mem_cons.mp hq with rfl | hq
  · rfl
  · obtain ⟨p, _, rfl⟩ := List.mem_map.mp hq
    exact low_encL n p.2
theorem pl_encL {v : Lab} (h : OkL v) : Pl 64 (encL v) := by
  cases v with
  | none => exact ⟨rfl, rfl, by show PyData.depth .none ≤ 64; simp [PyData.depth]⟩
  | some L => exact (pl_lst (n := 0) fun d hd => by
      obtain ⟨x, hx, rfl⟩ := List.mem_map.mp hd
      exact pl_str 0 (h x hx)).mono (by decide)
theorem eqv_strs : ∀ (L M : List Str), PyData.eqvAll (pyAll (L.map D.str)) (pyAll (M.map D.str)) = decide (L = M)
  | [], [] => rfl
  | [], _ :: _ => rfl
  | _ :: _, [] => rfl
  | x :: L, y :: M => by
    have ih := eqv_strs L M
    show (PyData.eqv (.str x) (.str y) && PyData.eqvAll (pyAll (L.map D.str)) (pyAll (M.map D.str))) = _
    rw [ih]
    have e : PyData.eqv (.str x) (.str y) = decide (x = y) := by
      show (x == y) = _
      rw [Bool.beq_eq_decide_eq]
    rw [e]
    by_cases h1 : x = y <;> by_cases h2 : L = M <;> simp [h1, h2]
theorem ne_encL (s : Sto) {v w : Lab} (hv : OkL v) (hw : OkL w) : eqO true s (encL v) (encL w) = some (.bl (!decide (v = w))) := by
  have pv : plainPy s (encL v) = some (py (encL v)) := by
    have := plainPy_of (s := s) (d := encL v) (by cases v <;> exact pl_encL hv)
    cases v <;> exact this
  have pw : plainPy s (encL w) = some (py (encL w)) := by
    have := plainPy_of (s := s) (d := encL w) (by cases w <;> exact pl_encL hw)
    cases w <;> exact this
  cases v with
  | none =>
    cases w with
    | none => rfl
    | some M =>
      exact (eqO_deep (by first | exact .inl rfl | exact .inr rfl) pv pw).trans rfl
  | some L =>
    cases w with
    | none =>
      exact (eqO_deep (by first | exact .inl rfl | exact .inr rfl) pv pw).trans rfl
    | some M =>
      refine (eqO_deep (.inl rfl) pv pw).trans ?_
      show some (D.bl (!(PyData.eqvAll (pyAll (L.map D.str)) (pyAll (M.map D.str))))) = _
      rw [eqv_strs]
      have : (decide ((some L : Lab) = some M)) = decide (L = M) := decide_eq_decide.mpr ⟨fun h => Option.some.inj h, fun h => by rw [h]⟩
      rw [this]
end Pr

set_option Elab.async false
set_option linter.all false
set_option maxRecDepth 100000
set_option maxHeartbeats 4000000
namespace Pr
open PySem L2 PD
mutual
/-- data without own lists, its texts not too long -/
def dt : D → Bool
  | .own _ => false | .scr _ => false | .par _ => false
  | .str x => decide (x.length ≤ 1000000)
  | .lst xs => dts xs | .tup xs => dts xs
  | .non => true | .bl _ => true | .int _ => true
def dts : List D → Bool
  | [] => true | x :: xs => dt x && dts xs
end
mutual
def sz : D → Nat
  | .lst xs => szs xs + 1 | .tup xs => szs xs + 1 | .scr xs => szs xs + 1 | .par xs => szs xs + 1
  | .non => 1 | .bl _ => 1 | .int _ => 1 | .str _ => 1 | .own _ => 1
def szs : List D → Nat
  | [] => 0 | x :: xs => sz x + szs xs
end
theorem dts_iff : ∀ {ds : List D}, dts ds = true ↔ ∀ d ∈ ds, dt d = true
  | [] => by simp [dts]
  | d :: ds => by
    show (dt d && dts ds) = true ↔ _
    rw [Bool.and_eq_true, dts_iff (ds := ds)]
    simp
mutual
theorem dt_low : ∀ d : D, dt d = true → D.low 0 d = true
  | .non, _ => rfl
  | .bl _, _ => rfl
  | .int _, _ => rfl
  | .str _, _ => rfl
  | .lst xs, h => dts_low xs h
  | .tup xs, h => dts_low xs h
theorem dts_low : ∀ ds : List D, dts ds = true → D.lowAll 0 ds = true
  | [], _ => rfl
  | d :: ds, h => by
    have h' : dt d = true ∧ dts ds = true := Bool.and_eq_true_iff.mp h
    show (D.low 0 d && D.lowAll 0 ds) = true
    rw [dt_low d h'.1, dts_low ds h'.2]
    rfl
end
theorem sz_pos (d : D) : 0 < sz d := by cases d <;> simp [sz]
theorem set_same {s : Sto} {k : Nat} {c : Cell} (h : s[k]? = some c) : s.set k c = s := by
  refine List.ext_getElem? fun i => ?_
  by_cases e : i = k
  · subst e
    rw [List.getElem?_set_self (List.getElem?_eq_some_iff.mp h).1, h]
  · rw [List.getElem?_set_ne (Ne.symm e)]
theorem no_own {d : D} (h : dt d = true) : ∀ k, d ≠ .own k := fun k e => by subst e; cases h
/-! ### words and numbers -/
abbrev letters : Str := S "abcdefghijklmnopqrstuvwxyz"
def isWord (x : Str) : Bool := decide (1 ≤ (x.length : Int)) && decide ((x.length : Int) ≤ 8) && x.cps.toList.all fun c => decide (c ∈ letters.cps.toList)
def wordD : D → Bool | .str x => isWord x | _ => false
def numD : D → Bool | .int i => decide (0 ≤ i) | _ => false
theorem bl_fin (s : Sto) (b : Bool) : closeM false s (.bl b) s = some (.ok (.bl b) s) := fin_same s _ rfl (fun _ z => nomatch z)
theorem wd_other (d : D) (s : Sto) (h : tyName s d ≠ none) (hs : (f1 (isiO "str") (fVar 0)) [some d, none] s = some (.ok (.bl false) s)) : D_word [d] s = some (.ok (.bl false) s) := by
  unfold D_word
  refine fnD_rt (d := .bl false) (s' := s) ?_ (bl_fin s false)
  unfold g_word
  refine seqS_rt ((ifS_t (s' := s) ?_).trans (retS_ok rfl))
  have h1 : (fNot (fTru (f1 (isiO "str") (fVar 0)))) [some d, none] s = some (.ok true s) := fNot_of (b := false) (by
    show bindM _ _ s = _
    unfold bindM
    rw [hs]
    rfl)
  show bindM _ _ s = _
  unfold bindM
  have h1' : (fNot (fTru (f1 (isiO "str") (fVar 0)))) ([d].map some ++ List.replicate (2 - [d].length) none) s = some (.ok true s) := h1
  rw [h1']
  rfl
theorem all_lc (x : Str) (s : Sto) : lcL (tdName 1) fYes (f2 (insO false) (fVar 1) (fC (.str letters))) (signsD x, none) [some (.str x), none] (signsD x) s = some (.ok ((x.cps.toList.map fun c => decide (c ∈ letters.cps.toList)).map D.bl) s) := by
  have go : ∀ cs : List Nat, lcL (tdName 1) fYes (f2 (insO false) (fVar 1) (fC (.str letters))) (signsD x, none) [some (.str x), none] (cs.map fun c => .str ⟨#[c]⟩) s = some (.ok ((cs.map fun c => decide (c ∈ letters.cps.toList)).map D.bl) s) := by
    intro cs
    induction cs with
    | nil => rfl
    | cons c r ih =>
      have e1 : (f2 (insO false) (fVar 1) (fC (.str letters))) [some (.str x), some (.str ⟨#[c]⟩)] s = some (.ok (.bl (decide (c ∈ letters.cps.toList))) s) := f2_of (x := .str ⟨#[c]⟩) (y := .str letters) rfl rfl rfl
      show lcL _ _ _ _ _ (D.str ⟨#[c]⟩ :: r.map fun c => D.str ⟨#[c]⟩) s = _
      unfold lcL
      show bindM (noex (fYes _)) _ s = _
      have e1' : (f2 (insO false) (fVar 1) (fC (.str letters))) ([some (.str x), none].set 1 (some (.str ⟨#[c]⟩))) s = some (.ok (.bl (decide (c ∈ letters.cps.toList))) s) := e1
      simp only [bindM, noex, fYes, retM, if_true, ckM, e1', if_pos (ck_none _ _), ih]
      rfl
  exact go _
theorem mapM_bl : ∀ bs : List Bool, (bs.map D.bl).mapM blD = some bs
  | [] => rfl
  | b :: bs => by rw [List.map_cons, List.mapM_cons, mapM_bl bs]; rfl
theorem word_eq (d : D) (s : Sto) (h : dt d = true) : D_word [d] s = some (.ok (.bl (wordD d)) s) := by
  cases d with
  | own k => cases h
  | scr xs => cases h
  | par xs => cases h
  | non => exact wd_other _ s (by simp [tyName]) rfl
  | bl b => exact wd_other _ s (by simp [tyName]) rfl
  | int i => exact wd_other _ s (by simp [tyName]) rfl
  | lst xs => exact wd_other _ s (by simp [tyName]) rfl
  | tup xs => exact wd_other _ s (by simp [tyName]) rfl
  | str x =>
    have hx : x.length ≤ 1000000 := of_decide_eq_true h
    have hs : small x.length = true := small_of hx
    unfold D_word
    refine fnD_rt (d := .bl (isWord x)) (s' := s) ?_ (bl_fin s _)
    unfold g_word
    show seqS _ _ [some (.str x), none] s = _
    have h1 : (fNot (fTru (f1 (isiO "str") (fVar 0)))) [some (.str x), none] s = some (.ok false s) := rfl
    have hl : (fN lenO (fCons (fVar 0) fNil)) [some (.str x), none] s = some (.ok (.int x.length) s) := by
      simp only [fN, fCons, fNil, fVar, bindM, retM, liftO, List.getElem?_cons_zero, lenO, hs, if_true]
    have h2 : (fB (fChain leO leO (fC (.int 1)) (fN lenO (fCons (fVar 0) fNil)) (fC (.int 8)))) [some (.str x), none] s = some (.ok (decide (1 ≤ (x.length : Int)) && decide ((x.length : Int) ≤ 8)) s) := by
      refine fB_of ?_
      unfold fChain
      simp only [bindM, fC, retM, hl, liftO, leO, Option.bind_some, asB]
      by_cases c : (1 : Int) ≤ x.length
      · simp [c]; rfl
      · simp [c]; rfl
    have h3 : (fOr (fNot (fTru (f1 (isiO "str") (fVar 0)))) (fNot (fB (fChain leO leO (fC (.int 1)) (fN lenO (fCons (fVar 0) fNil)) (fC (.int 8)))))) [some (.str x), none] s = some (.ok (!(decide (1 ≤ (x.length : Int)) && decide ((x.length : Int) ≤ 8))) s) := by
      show bindM _ _ s = _
      unfold bindM
      rw [h1]
      simp only [Bool.false_eq_true, if_false]
      exact fNot_of h2
    by_cases c : (decide (1 ≤ (x.length : Int)) && decide ((x.length : Int) ≤ 8)) = true
    · rw [c] at h3
      refine (seqS_nx ((ifS_f h3).trans rfl)).trans (retS_ok ?_)
      have c' := Bool.and_eq_true_iff.mp c
      have hle : x.length ≤ 8 := by
        have := of_decide_eq_true c'.2
        omega
      have hlc : (fLc (tdName 1) fYes (f2 (insO false) (fVar 1) (fC (.str letters))) (fItS (fVar 0)) [1]) [some (.str x), none] s = some (.ok (.lst ((x.cps.toList.map fun c => decide (c ∈ letters.cps.toList)).map D.bl)) s) := by
        refine fLc_pure (xs := signsD x) rfl (all_lc x s) ?_
        rw [List.length_map, List.length_map, Array.length_toList]
        have : x.cps.size ≤ 8 := hle
        omega
      have hall : isWord x = (x.cps.toList.map fun c => decide (c ∈ letters.cps.toList)).all id := by
        unfold isWord
        rw [c, Bool.true_and, List.all_map]
        rfl
      rw [hall]
      show bindM _ _ s = _
      unfold bindM
      simp only [fCons, bindM, hlc, fNil, retM, liftO, allO, lsOf, Option.bind_some, mapM_bl, Option.map_some]
    · have c' : (decide (1 ≤ (x.length : Int)) && decide ((x.length : Int) ≤ 8)) = false := Bool.eq_false_iff.mpr c
      rw [c'] at h3
      have : isWord x = false := by unfold isWord; rw [c']; rfl
      rw [this]
      exact seqS_rt ((ifS_t h3).trans (retS_ok rfl))
theorem number_eq (d : D) (s : Sto) (h : dt d = true) : D_number [d] s = some (.ok (.bl (numD d)) s) := by
  unfold D_number
  refine fnD_rt (d := .bl (numD d)) (s' := s) ?_ (bl_fin s _)
  unfold g_number
  refine retS_ok ?_
  cases d with
  | own k => cases h
  | scr xs => cases h
  | par xs => cases h
  | _ => rfl
/-! ### a blank's number -/
theorem dcOf_own {s : Sto} {k : Nat} {kvs : List (Key × D)} (h : s[k]? = some (.dic kvs)) : dcOf s (.own k) = some kvs := by
  unfold dcOf
  simp only [h]
def blankF (T : Tab) (i : Int) (v : Lab) : Bool × Tab := match lkT T.m i with
  | some w => if w = v then (true, ⟨T.n, putT T.m i v⟩) else (false, T)
  | none => (true, ⟨T.n, putT T.m i v⟩)
theorem blank_eq {s : Sto} {k : Nat} {T : Tab} (hk : s[k]? = some (.dic (encT T))) (ok : OkT T) (hl : T.m.length ≤ 900000) {i : Int} (hi : 0 ≤ i) {v : Lab} (hv : OkL v) :
    D_blank [.own k, .int i, encL v] s = some (.ok (.bl (blankF T i v).1) (s.set k (.dic (encT (blankF T i v).2)))) := by
  have hin : (fB (f2 (dinO false) (fVar 1) (fVar 0))) [some (.own k), some (.int i), some (encL v)] s = some (.ok (lkT T.m i).isSome s) := by
    refine fB_of (f2_of (x := .int i) (y := .own k) rfl rfl ?_)
    unfold dinO
    rw [dcOf_own hk]
    show some (D.bl (ng false (atD (encT T) (.inl i)).isSome)) = _
    rw [atD_i T hi, Option.isSome_map]
    rfl
  have hput : putIxS (fVar 2) (fVar 0) (fVar 1) [some (.own k), some (.int i), some (encL v)] s = some (.nx [some (.own k), some (.int i), some (encL v)] (s.set k (.dic (encT ⟨T.n, putT T.m i v⟩)))) := by
    have hs : small ((encT T).length + 1) = true := small_of (by unfold encT; rw [List.length_cons, List.length_map]; omega)
    have : putIx s (.own k) (.int i) (encL v) = some (s.set k (.dic (encT ⟨T.n, putT T.m i v⟩))) := by
      unfold putIx
      simp only [hk, kD, Option.bind_some, hs, if_true]
      rw [putD_i T hi v]
    simp only [putIxS, bindS, fVar, List.getElem?_cons_zero, List.getElem?_cons_succ, this]
  have put_all : (fAnd (fB (f2 (dinO false) (fVar 1) (fVar 0))) (fB (f2 (eqO true) (f2 dgetO (fVar 0) (fVar 1)) (fVar 2)))) [some (.own k), some (.int i), some (encL v)] s = some (.ok false s) →
      D_blank [.own k, .int i, encL v] s = some (.ok (.bl true) (s.set k (.dic (encT ⟨T.n, putT T.m i v⟩)))) := fun ht => by
    unfold D_blank
    refine fnD_rt (d := .bl true) (s' := s.set k (.dic (encT ⟨T.n, putT T.m i v⟩))) ?_ ?_
    · unfold g_blank
      exact (seqS_nx ((ifS_f ht).trans rfl)).trans ((seqS_nx hput).trans (retS_ok rfl))
    · have := fin_setC s k (.dic (encT ⟨T.n, putT T.m i v⟩)) [] (.bl true) (low_encT _ _) rfl (fun _ z => nomatch z)
      rw [List.append_nil] at this
      exact this
  unfold blankF
  cases e : lkT T.m i with
  | none =>
    rw [e] at hin
    refine put_all ?_
    show bindM _ _ s = _
    unfold bindM
    rw [hin]
    rfl
  | some w =>
    rw [e] at hin
    have hw := lkT_ok ok e
    have hget : (f2 dgetO (fVar 0) (fVar 1)) [some (.own k), some (.int i), some (encL v)] s = some (.ok (encL w) s) := by
      refine f2_of (x := .own k) (y := .int i) rfl rfl ?_
      unfold dgetO
      rw [dcOf_own hk]
      show atD (encT T) (.inl i) = _
      rw [atD_i T hi, e]
      rfl
    have hne : (fB (f2 (eqO true) (f2 dgetO (fVar 0) (fVar 1)) (fVar 2))) [some (.own k), some (.int i), some (encL v)] s = some (.ok (!decide (w = v)) s) := fB_of (f2_of hget rfl (ne_encL s hw hv))
    have hand : (fAnd (fB (f2 (dinO false) (fVar 1) (fVar 0))) (fB (f2 (eqO true) (f2 dgetO (fVar 0) (fVar 1)) (fVar 2)))) [some (.own k), some (.int i), some (encL v)] s = some (.ok (!decide (w = v)) s) := by
      show bindM _ _ s = _
      unfold bindM
      rw [hin]
      exact hne
    by_cases c : w = v
    · simp only [if_pos c]
      refine put_all ?_
      rw [hand, decide_eq_true c]
      rfl
    · simp only [if_neg c]
      rw [set_same hk]
      rw [decide_eq_false c] at hand
      unfold D_blank
      refine fnD_rt (d := .bl false) (s' := s) ?_ (bl_fin s false)
      unfold g_blank
      exact seqS_rt ((ifS_t hand).trans (retS_ok rfl))
end Pr

set_option Elab.async false
set_option linter.all false
set_option maxRecDepth 100000
set_option maxHeartbeats 4000000
namespace Pr
open PySem L2 PD
theorem ne_number_blank : (PySem.Str.ofString "number" = PySem.Str.ofString "blank") = False := eq_false (by decide +kernel)
theorem ne_number_record : (PySem.Str.ofString "number" = PySem.Str.ofString "record") = False := eq_false (by decide +kernel)
theorem ne_blank_number : (PySem.Str.ofString "blank" = PySem.Str.ofString "number") = False := eq_false (by decide +kernel)
theorem ne_blank_record : (PySem.Str.ofString "blank" = PySem.Str.ofString "record") = False := eq_false (by decide +kernel)
theorem ne_record_number : (PySem.Str.ofString "record" = PySem.Str.ofString "number") = False := eq_false (by decide +kernel)
theorem ne_record_blank : (PySem.Str.ofString "record" = PySem.Str.ofString "blank") = False := eq_false (by decide +kernel)
/-! ### what the law's own look does -/
def ltW (a b : Str) : Bool := decide (a.cps.toList < b.cps.toList)
def lastOk (L : List Str) (y : Str) : Bool := match L.getLast? with | none => true | some z => ltW z y
def fieldsF (G : D → Tab → Bool × Tab) : List D → List Str → Tab → Option (List Str) × Tab
  | [], L, T => (some L, T)
  | p :: fs, L, T => match p with
    | .tup [.str y, b] => if isWord y = true ∧ lastOk L y = true then (if (G b T).1 = true then fieldsF G fs (L ++ [y]) (G b T).2 else (none, (G b T).2)) else (none, T)
    | _ => (none, T)
def numF (x : D) (T : Tab) (v : Lab) : Bool × Tab := match x with
  | .int i => if 0 ≤ i then blankF T i v else (false, T)
  | _ => (false, T)
def endF (x : D) (L : List Str) (T : Tab) : Bool × Tab := match x with
  | .non => (true, T)
  | x => numF x T (some L)
def blankR (rest : List D) (T : Tab) : Bool × Tab := match rest with | [x] => numF x T none | _ => (false, T)
def recE (x : D) (r : Option (List Str) × Tab) : Bool × Tab := match r.1 with | some L => endF x L r.2 | none => (false, r.2)
def recR (G : D → Tab → Bool × Tab) (rest : List D) (T : Tab) : Bool × Tab := match rest with
  | [.tup fs, x] => recE x (fieldsF G fs [] T)
  | _ => (false, T)
def headF (G : D → Tab → Bool × Tab) (w : Str) (rest : List D) (T : Tab) : Bool × Tab :=
  if w = S "number" then (rest.isEmpty, T)
  else if w = S "blank" then blankR rest T
  else if w = S "record" then recR G rest T
  else (false, T)
def goodF : Nat → D → Tab → Bool × Tab
  | 0, _, T => (false, T)
  | l + 1, d, T => match d with
    | .tup (.str w :: rest) => headF (goodF l) w rest ⟨T.n + 1, T.m⟩
    | _ => (false, T)
/-! ### the table stays a table -/
theorem word_ok {y : Str} (h : isWord y = true) : OkS 8 y := by
  unfold isWord at h
  have h1 := Bool.and_eq_true_iff.mp h
  have h2 := Bool.and_eq_true_iff.mp h1.1
  have h3 := of_decide_eq_true h2.2
  refine ⟨by omega, fun c hc => ?_⟩
  have h4 := of_decide_eq_true (List.all_eq_true.mp h1.2 c hc)
  have h5 : ∀ c ∈ letters.cps.toList, c < 1114112 := by decide +kernel
  exact h5 c h4
def Keep (n : Nat) (T : Tab) (r : Tab) : Prop := OkT r ∧ r.m.length ≤ T.m.length + n
theorem blankF_ok {T : Tab} (h : OkT T) {i : Int} (hi : 0 ≤ i) {v : Lab} (hv : OkL v) : Keep 1 T (blankF T i v).2 := by
  have p : Keep 1 T ⟨T.n, putT T.m i v⟩ := ⟨putT_ok h hi hv T.n, putT_len _ _ _⟩
  unfold blankF
  split
  · split
    · exact p
    · exact ⟨h, Nat.le_add_right _ _⟩
  · exact p
theorem numF_ok {T : Tab} (h : OkT T) (x : D) {v : Lab} (hv : OkL v) : Keep 1 T (numF x T v).2 := by
  unfold numF
  split
  · split
    · rename_i i hi
      exact blankF_ok h hi hv
    · exact ⟨h, Nat.le_add_right _ _⟩
  · exact ⟨h, Nat.le_add_right _ _⟩
theorem endF_ok {T : Tab} (h : OkT T) (x : D) {L : List Str} (hL : ∀ y ∈ L, OkS 8 y) : Keep 1 T (endF x L T).2 := by
  unfold endF
  split
  · exact ⟨h, Nat.le_add_right _ _⟩
  · exact numF_ok h _ hL
theorem fieldsF_ok {G : D → Tab → Bool × Tab} (hG : ∀ d T, OkT T → Keep (sz d) T (G d T).2) : ∀ (fs : List D) (L : List Str) (T : Tab), OkT T → (∀ y ∈ L, OkS 8 y) →
    Keep (szs fs) T (fieldsF G fs L T).2 ∧ ∀ L', (fieldsF G fs L T).1 = some L' → ∀ y ∈ L', OkS 8 y
  | [], L, T, h, hL => ⟨⟨h, Nat.le_add_right _ _⟩, fun L' e => by cases e; exact hL⟩
  | p :: fs, L, T, h, hL => by
    unfold fieldsF
    split
    · rename_i y b
      split
      · rename_i c
        have g := hG b T h
        split
        · obtain ⟨k1, k2⟩ := fieldsF_ok hG fs (L ++ [y]) (G b T).2 g.1 (fun z hz => by
            rcases List.mem_append.mp hz with q | q
            · exact hL z q
            · rw [List.mem_singleton.mp q]; exact word_ok c.1)
          refine ⟨⟨k1.1, ?_⟩, k2⟩
          have := k1.2
          have := g.2
          simp only [szs, sz]
          omega
        · refine ⟨⟨g.1, ?_⟩, fun L' e => by cases e⟩
          have := g.2
          simp only [szs, sz]
          omega
      · exact ⟨⟨h, Nat.le_add_right _ _⟩, fun L' e => by cases e⟩
    · exact ⟨⟨h, Nat.le_add_right _ _⟩, fun L' e => by cases e⟩
theorem blankR_no {rest : List D} (T : Tab) (h : rest.length ≠ 1) : blankR rest T = (false, T) := by
  match rest, h with
  | [], _ => rfl
  | [x], h => exact absurd rfl h
  | x :: y :: r, _ => rfl
theorem recR_no (G : D → Tab → Bool × Tab) {rest : List D} (T : Tab) (h : rest.length ≠ 2) : recR G rest T = (false, T) := by
  match rest, h with
  | [], _ => rfl
  | [a], _ => cases a <;> rfl
  | [a, x], h => exact absurd rfl h
  | a :: x :: y :: r, _ => cases a <;> rfl
theorem headF_ok {G : D → Tab → Bool × Tab} (hG : ∀ d T, OkT T → Keep (sz d) T (G d T).2) (w : Str) (rest : List D) (T : Tab) (h : OkT T) : Keep (szs rest + 1) T (headF G w rest T).2 := by
  have k0 : Keep (szs rest + 1) T T := ⟨h, Nat.le_add_right _ _⟩
  unfold headF
  split
  · exact k0
  · split
    · unfold blankR
      split
      · have := numF_ok h (v := none) (by assumption) trivial
        refine ⟨this.1, ?_⟩
        have := this.2
        omega
      · exact k0
    · split
      · unfold recR
        split
        · rename_i fs x
          obtain ⟨k1, k2⟩ := fieldsF_ok hG fs [] T h (fun _ z => by cases z)
          unfold recE
          split
          · rename_i L e
            have k3 := endF_ok k1.1 x (k2 L e)
            refine ⟨k3.1, ?_⟩
            have q1 := k1.2
            have := k3.2
            simp only [szs, sz]
            omega
          · refine ⟨k1.1, ?_⟩
            have q1 := k1.2
            simp only [szs, sz]
            omega
        · exact k0
      · exact k0
theorem goodF_ok : ∀ (l : Nat) (d : D) (T : Tab), OkT T → Keep (sz d) T (goodF l d T).2
  | 0, d, T, h => ⟨h, Nat.le_add_right _ _⟩
  | l + 1, d, T, h => by
    unfold goodF
    split
    · rename_i w rest
      have k := headF_ok (goodF_ok l) w rest ⟨T.n + 1, T.m⟩ ⟨h.keys, h.labs⟩
      refine ⟨k.1, ?_⟩
      have := k.2
      simp only [szs, sz] at this ⊢
      omega
    · exact ⟨h, Nat.le_add_right _ _⟩
end Pr

set_option Elab.async false
set_option linter.all false
set_option maxRecDepth 100000
set_option maxHeartbeats 8000000
namespace Pr
open PySem L2 PD
def GoodSpec (G : List D → M D) (l : Nat) : Prop := ∀ (d : D) (T : Tab) (s : Sto) (k : Nat), dt d = true → OkT T → s[k]? = some (.dic (encT T)) → T.m.length + sz d ≤ 900000 →
  G [d, .int (l : Nat), .own k] s = some (.ok (.bl (goodF l d T).1) (s.set k (.dic (encT (goodF l d T).2))))
theorem fOr_t {u v : Sl → M Bool} {sl : Sl} {s s1 : Sto} (h1 : u sl s = some (.ok true s1)) : fOr u v sl s = some (.ok true s1) := by
  simp [fOr, bindM, retM, h1]
theorem fOr_f {u v : Sl → M Bool} {sl : Sl} {s s1 : Sto} {r : Option (R Bool)} (h1 : u sl s = some (.ok false s1)) (h2 : v sl s1 = r) : fOr u v sl s = r := by
  simp [fOr, bindM, retM, h1, h2]
theorem fAndV_f {f g : Sl → M D} {sl : Sl} {s s1 : Sto} (h : f sl s = some (.ok (.bl false) s1)) : fAndV f g sl s = some (.ok (.bl false) s1) := by
  simp [fAndV, bindM, retM, h]
theorem fAndV_t {f g : Sl → M D} {sl : Sl} {s s1 : Sto} {r : Option (R D)} (h : f sl s = some (.ok (.bl true) s1)) (h2 : g sl s1 = r) : fAndV f g sl s = r := by
  simp [fAndV, bindM, retM, h, h2]
theorem fOrV_t {f g : Sl → M D} {sl : Sl} {s s1 : Sto} (h : f sl s = some (.ok (.bl true) s1)) : fOrV f g sl s = some (.ok (.bl true) s1) := by
  simp [fOrV, bindM, retM, h]
theorem fOrV_f {f g : Sl → M D} {sl : Sl} {s s1 : Sto} {r : Option (R D)} (h : f sl s = some (.ok (.bl false) s1)) (h2 : g sl s1 = r) : fOrV f g sl s = r := by
  simp [fOrV, bindM, retM, h, h2]
theorem fTru_of {f : Sl → M D} {sl : Sl} {s s1 : Sto} {b : Bool} (h : f sl s = some (.ok (.bl b) s1)) : fTru f sl s = some (.ok b s1) := by
  simp [fTru, bindM, liftO, truO, h]
def isTb (d : D) : Bool := match d with | .tup _ => true | _ => false
def isSb (d : D) : Bool := match d with | .str _ => true | _ => false
theorem isi_tup {f : Sl → M D} {sl : Sl} {s s1 : Sto} {d : D} (h : f sl s = some (.ok d s1)) (hd : dt d = true) : (fTru (f1 (isiO "tuple") f)) sl s = some (.ok (isTb d) s1) := by
  refine fTru_of ?_
  show bindM _ _ s = _
  unfold bindM
  rw [h]
  cases d with
  | own k => cases hd
  | scr xs => cases hd
  | par xs => cases hd
  | _ => rfl
theorem isi_str {f : Sl → M D} {sl : Sl} {s s1 : Sto} {d : D} (h : f sl s = some (.ok d s1)) (hd : dt d = true) : (fTru (f1 (isiO "str") f)) sl s = some (.ok (isSb d) s1) := by
  refine fTru_of ?_
  show bindM _ _ s = _
  unfold bindM
  rw [h]
  cases d with
  | own k => cases hd
  | scr xs => cases hd
  | par xs => cases hd
  | _ => rfl
/-- items of a tuple -/
theorem ix0 {f : Sl → M D} {sl : Sl} {s s1 : Sto} {x : D} {r : List D} (h : f sl s = some (.ok (.tup (x :: r)) s1)) : (f2 ixO f (fC (.int 0))) sl s = some (.ok x s1) :=
  f2_of h rfl (by simp [ixO, seqOf, atI, ixN])
theorem ix1 {f : Sl → M D} {sl : Sl} {s s1 : Sto} {x y : D} {r : List D} (h : f sl s = some (.ok (.tup (x :: y :: r)) s1)) : (f2 ixO f (fC (.int 1))) sl s = some (.ok y s1) :=
  f2_of h rfl (show atI (x :: y :: r) ((1 : Nat) : Int) = some y from atI_nat rfl)
theorem ix2 {f : Sl → M D} {sl : Sl} {s s1 : Sto} {x y z : D} {r : List D} (h : f sl s = some (.ok (.tup (x :: y :: z :: r)) s1)) : (f2 ixO f (fC (.int 2))) sl s = some (.ok z s1) :=
  f2_of h rfl (show atI (x :: y :: z :: r) ((2 : Nat) : Int) = some z from atI_nat rfl)
theorem len_is {neg : Bool} {f : Sl → M D} {sl : Sl} {s s1 : Sto} {xs : List D} (n : Int) (h : f sl s = some (.ok (.tup xs) s1)) : (f2 (eqO neg) (fN lenO (fCons f fNil)) (fC (.int n))) sl s = some (.ok (.bl (ng neg (decide ((xs.length : Int) = n)))) s1) := by
  refine f2_of (x := .int xs.length) (y := .int n) (s1 := s1) ?_ rfl (eqO_int _ _ _ _)
  simp [fN, fCons, fNil, bindM, retM, liftO, h, lenO, seqOf]
theorem word_is {neg : Bool} {f : Sl → M D} {sl : Sl} {s s1 : Sto} {w : Str} (x : Str) (h : f sl s = some (.ok (.str w) s1)) : (fB (f2 (eqO neg) f (fC (.str x)))) sl s = some (.ok (ng neg (decide (w = x))) s1) :=
  fB_of (f2_of (x := .str w) (y := .str x) h rfl (eqO_str _ _ _ _))
theorem atI_last (L : List Str) (z : Str) (h : L.getLast? = some z) : atI (L.map D.str) (-1) = some (.str z) := by
  have hne : L ≠ [] := fun e => by subst e; cases h
  have hl : 0 < L.length := List.length_pos_iff.mpr hne
  have h1 : ixN (L.map D.str).length (-1) = some (L.length - 1) := by
    unfold ixN
    rw [List.length_map]
    rw [if_neg (by omega), if_pos (by omega)]
    congr 1
    omega
  unfold atI
  rw [h1]
  show (L.map D.str)[L.length - 1]? = _
  rw [List.getElem?_map, ← List.getLast?_eq_getElem?, h]
  rfl
/-! ### the end of a look: a number where it stands -/
theorem num_blank {f g : Sl → M D} {sl : Sl} {s s1 : Sto} {k : Nat} {T : Tab} {x : D} {v : Lab} {fv fk : Sl → M D} (hx : dt x = true) (h1 : f sl s = some (.ok x s)) (hf : ∀ i, x = .int i → 0 ≤ i → fv sl s = some (.ok (encL v) s1)) (hkk : fk sl s = some (.ok (.own k) s))
    (hs1 : s1[k]? = some (.dic (encT T))) (hs : s[k]? = some (.dic (encT T))) (ok : OkT T) (hl : T.m.length ≤ 900000) (hv : OkL v) :
    ∃ s2, (fAndV (fCall 1 D_number (fCons f fNil)) (fCall 3 D_blank (fCons fk (fCons f (fCons fv fNil))))) sl s = some (.ok (.bl (numF x T v).1) s2) ∧ (s2 = s ∧ (numF x T v).2 = T ∨ s2 = s1.set k (.dic (encT (numF x T v).2))) := by
  have hn : fCall 1 D_number (fCons f fNil) sl s = some (.ok (.bl (numD x)) s) := fCall_eq (ds := [x]) (by simp [fCons, fNil, bindM, retM, h1]) rfl (number_eq x s hx)
  have no : numD x = false → (numF x T v) = (false, T) := fun e => by
    unfold numF
    split
    · rename_i i
      rw [if_neg (of_decide_eq_false e)]
    · rfl
  cases e : numD x with
  | false =>
    rw [e] at hn
    rw [no e]
    exact ⟨s, fAndV_f hn, .inl ⟨rfl, rfl⟩⟩
  | true =>
    rw [e] at hn
    cases x with
    | int i =>
      have hi : 0 ≤ i := of_decide_eq_true e
      have hb := blank_eq hs1 ok hl hi hv
      have hfv := hf i rfl hi
      have en : numF (.int i) T v = blankF T i v := by
        show (if 0 ≤ i then blankF T i v else (false, T)) = _
        rw [if_pos hi]
      rw [en]
      exact ⟨_, fAndV_t hn (fCall_eq (ds := [.own k, .int i, encL v]) (s1 := s1) (by simp [fCons, fNil, bindM, retM, h1, hfv, hkk]) rfl hb), .inr rfl⟩
    | _ => cases e
end Pr

set_option Elab.async false
set_option linter.all false
set_option maxRecDepth 100000
set_option maxHeartbeats 8000000
namespace Pr
open PySem L2 PD
abbrev C (T : Tab) : Cell := .dic (encT T)
noncomputable abbrev lpBody (G : List D → M D) : SD := (seqS (ifS (fOr (fNot (fTru (f1 (isiO "tuple") (fVar 4)))) (fOr (fB (f2 (eqO true) (fN lenO (fCons (fVar 4) fNil)) (fC (.int 2)))) (fNot (fTru (fCall 1 D_word (fCons (f2 ixO (fVar 4) (fC (.int 0))) fNil)))))) (retS (fC (.bl false))) nextS)
    (seqS (ifS (fOr (fAnd (fB (f2 (eqO true) (fVar 3) (fLst fNil))) (fB (f2 geO (f2 ixO (fVar 3) (f1 negO (fC (.int 1)))) (f2 ixO (fVar 4) (fC (.int 0)))))) (fNot (fTru (fCall 3 G (fCons (f2 ixO (fVar 4) (fC (.int 1))) (fCons (f2 subO (fVar 1) (fC (.int 1))) (fCons (fVar 2) fNil))))))) (retS (fC (.bl false))) nextS)
    (exprS (fM1 appendM (fVar 3) (fCons (f2 ixO (fVar 4) (fC (.int 0))) fNil)))))
theorem szs_le {d : D} {ds : List D} (h : d ∈ ds) : sz d ≤ szs ds := by
  induction ds with
  | nil => cases h
  | cons x r ih =>
    rcases List.mem_cons.mp h with rfl | h
    · simp only [szs]; omega
    · have := ih h
      simp only [szs]; omega
theorem szs_len (ds : List D) : ds.length ≤ szs ds := by
  induction ds with
  | nil => simp [szs]
  | cons x r ih =>
    have := sz_pos x
    simp only [szs, List.length_cons]; omega
theorem ne_nil (s : Sto) (k : Nat) (L : List Str) (hk : s[k]? = some (.lst (L.map D.str))) (hL : ∀ y ∈ L, OkS 8 y) : eqO true s (.own k) (.lst []) = some (.bl (!L.isEmpty)) := by
  have hp : peek s (.own k) = .scr (L.map D.str) := by
    show (match s[k]? with | some (.lst xs) => D.scr xs | _ => .own k) = _
    rw [hk]
  have h1 : plainPy s (.own k) = some (.list (pyAll (L.map D.str))) := by
    have := plainPy_of (s := s) (d := .own k) (by
      rw [hp]
      exact (pl_scr (n := 0) fun d hd => by
        obtain ⟨x, hx, rfl⟩ := List.mem_map.mp hd
        exact pl_str 0 (hL x hx)).mono (by decide))
    rw [hp] at this
    exact this
  have h2 : plainPy s (.lst []) = some (.list []) := by
    have := plainPy_of (s := s) (d := .lst []) ((pl_lst (n := 0) fun _ z => by cases z).mono (by decide))
    exact this
  refine (eqO_deep (.inl rfl) h1 h2).trans ?_
  cases L with
  | nil => rfl
  | cons x r => rfl
def lpOut (sl : Sl) (s : Sto) (k : Nat) (c : Cell) (r : Option (List Str) × Tab) : Option RS := match r.1 with
  | some L' => some (.nx sl (s.set k (C r.2) ++ [.lst (L'.map D.str)]))
  | none => some (.rt (.bl false) (s.set k (C r.2) ++ [c]))
theorem skip_if {u : Sl → M Bool} {g r : SD} {sl : Sl} {s s' : Sto} (h : u sl s = some (.ok false s')) : seqS (ifS u g nextS) r sl s = r sl s' :=
  (seqS_nx ((ifS_f (g1 := g) (g2 := nextS) h).trans rfl))
theorem take_if {u : Sl → M Bool} {r : SD} {b : Bool} {sl : Sl} {s s' : Sto} (h : u sl s = some (.ok true s')) : seqS (ifS u (retS (fC (.bl b))) nextS) r sl s = some (.rt (.bl b) s') :=
  seqS_rt ((ifS_t (g1 := retS (fC (.bl b))) (g2 := nextS) h).trans (retS_ok rfl))
theorem p_cases (p : D) : isTb p = false ∨ (∃ xs, p = .tup xs ∧ xs.length ≠ 2) ∨ (∃ a b, p = .tup [a, b] ∧ wordD a = false) ∨ (∃ y b, p = .tup [.str y, b] ∧ isWord y = true) := by
  cases p with
  | tup xs =>
    refine .inr ?_
    match xs with
    | [] => exact .inl ⟨_, rfl, by simp⟩
    | [a] => exact .inl ⟨_, rfl, by simp⟩
    | a :: b :: c :: r => exact .inl ⟨_, rfl, by simp⟩
    | [a, b] =>
      refine .inr ?_
      cases h : wordD a with
      | false => exact .inl ⟨a, b, rfl, h⟩
      | true => cases a with
        | str y => exact .inr ⟨y, b, rfl, h⟩
        | _ => cases h
  | _ => exact .inl rfl
theorem f_not (G : D → Tab → Bool × Tab) (p : D) (L : List Str) (T : Tab) (h : ∀ y b, p = .tup [.str y, b] → isWord y = false) : fieldsF G [p] L T = (none, T) := by
  unfold fieldsF
  split
  · rename_i y b
    rw [if_neg (fun q => by have := h y b rfl; rw [this] at q; cases q.1)]
  · rfl
/-- one field -/
theorem lp_one {G : List D → M D} {l : Nat} (hG : GoodSpec G l) (s : Sto) (k : Nat) (d : D) (p : D) (L : List Str) (T : Tab) (hk : s[k]? = some (C T)) (ok : OkT T) (hL : ∀ y ∈ L, OkS 8 y) (hLl : L.length ≤ 900000) (hp : dt p = true) (hsz : T.m.length + sz p ≤ 900000) :
    lpBody G [some d, some (.int ((l + 1 : Nat) : Int)), some (.own k), some (.own s.length), some p] (s ++ [.lst (L.map D.str)]) =
      lpOut [some d, some (.int ((l + 1 : Nat) : Int)), some (.own k), some (.own s.length), some p] s k (.lst (L.map D.str)) (fieldsF (goodF l) [p] L T) := by
  let S0 : Sto := s ++ [.lst (L.map D.str)]
  let sl : Sl := [some d, some (.int ((l + 1 : Nat) : Int)), some (.own k), some (.own s.length), some p]
  have hkl : k < s.length := (List.getElem?_eq_some_iff.mp hk).1
  have same : s.set k (C T) = s := set_same hk
  have bad : (fOr (fNot (fTru (f1 (isiO "tuple") (fVar 4)))) (fOr (fB (f2 (eqO true) (fN lenO (fCons (fVar 4) fNil)) (fC (.int 2)))) (fNot (fTru (fCall 1 D_word (fCons (f2 ixO (fVar 4) (fC (.int 0))) fNil)))))) sl S0 = some (.ok true S0) →
      fieldsF (goodF l) [p] L T = (none, T) → lpBody G sl S0 = lpOut sl s k (.lst (L.map D.str)) (fieldsF (goodF l) [p] L T) := fun h e => by
    rw [e]
    show _ = some (RS.rt (.bl false) (s.set k (C T) ++ [.lst (L.map D.str)]))
    rw [same]
    exact take_if h
  have hv4 : fVar 4 sl S0 = some (.ok p S0) := rfl
  have htup := isi_tup hv4 hp
  have pair : ∀ a b, p = .tup [a, b] → dt a = true ∧ dt b = true ∧ (f2 ixO (fVar 4) (fC (.int 0))) sl S0 = some (.ok a S0) ∧ (f2 ixO (fVar 4) (fC (.int 1))) sl S0 = some (.ok b S0) ∧
      (fOr (fNot (fTru (f1 (isiO "tuple") (fVar 4)))) (fOr (fB (f2 (eqO true) (fN lenO (fCons (fVar 4) fNil)) (fC (.int 2)))) (fNot (fTru (fCall 1 D_word (fCons (f2 ixO (fVar 4) (fC (.int 0))) fNil)))))) sl S0 = some (.ok (!wordD a) S0) := fun a b e => by
    have hab : dt a = true ∧ dt b = true := by
      rw [e] at hp
      have := dts_iff.mp (show dts [a, b] = true from hp)
      exact ⟨this a (by simp), this b (by simp)⟩
    have hv : fVar 4 sl S0 = some (.ok (.tup [a, b]) S0) := by rw [← e]; exact hv4
    have hlen' : (fB (f2 (eqO true) (fN lenO (fCons (fVar 4) fNil)) (fC (.int 2)))) sl S0 = some (.ok false S0) := fB_of (len_is (neg := true) (f := fVar 4) (sl := sl) 2 hv)
    have h0 : (f2 ixO (fVar 4) (fC (.int 0))) sl S0 = some (.ok a S0) := ix0 hv
    have hw : (fTru (fCall 1 D_word (fCons (f2 ixO (fVar 4) (fC (.int 0))) fNil))) sl S0 = some (.ok (wordD a) S0) := fTru_of (fCall_eq (ds := [a]) (by simp [fCons, fNil, bindM, retM, h0]) rfl (word_eq a S0 hab.1))
    have ht : (fTru (f1 (isiO "tuple") (fVar 4))) sl S0 = some (.ok true S0) := by
      have := htup
      rw [e] at this
      exact this
    exact ⟨hab.1, hab.2, h0, ix1 hv, fOr_f (fNot_of ht) (fOr_f hlen' (fNot_of hw))⟩
  rcases p_cases p with hT | ⟨xs, e, h2⟩ | ⟨a, b, e, hwd⟩ | ⟨y, b, e, hy⟩
  · rw [hT] at htup
    exact bad (fOr_t (fNot_of htup)) (f_not _ p L T fun y b e => by rw [e] at hT; cases hT)
  · have hv : fVar 4 sl S0 = some (.ok (.tup xs) S0) := by rw [← e]; exact hv4
    have hlen := fB_of (len_is (neg := true) (f := fVar 4) (sl := sl) 2 hv)
    have hd2 : decide ((xs.length : Int) = 2) = false := decide_eq_false (fun h => h2 (by omega))
    rw [hd2] at hlen
    have ht : (fTru (f1 (isiO "tuple") (fVar 4))) sl S0 = some (.ok true S0) := by
      have := htup
      rw [e] at this
      exact this
    refine bad (fOr_f (fNot_of ht) (fOr_t hlen)) (f_not _ p L T fun y b e' => ?_)
    rw [e] at e'
    injection e' with e'
    exact absurd (by rw [e']; rfl) h2
  · obtain ⟨h1, h2, h3, h4, h5⟩ := pair a b e
    rw [hwd] at h5
    refine bad h5 (f_not _ p L T fun y b' e' => ?_)
    rw [e] at e'
    injection e' with e'
    injection e' with e1 e2
    rw [e1] at hwd
    exact hwd
  · obtain ⟨ha, hb, h0, h1, ht1⟩ := pair (.str y) b e
    have hwd : wordD (.str y) = true := hy
    rw [hwd] at ht1
    have hszb : sz b < sz p := by rw [e]; simp only [sz, szs]; omega
    refine (skip_if ht1).trans ?_
    -- the order of labels
    have hnn : (fB (f2 (eqO true) (fVar 3) (fLst fNil))) sl S0 = some (.ok (!L.isEmpty) S0) := by
      refine fB_of (f2_of (s1 := S0) (x := .own s.length) (y := .lst []) rfl ?_ (ne_nil S0 s.length L (app_at _ _ _) hL))
      have hs0 : small ([] : List D).length = true := small_of (by simp)
      simp only [fLst, fNil, bindM, retM, liftO, hs0, if_true]
    have hord : (fAnd (fB (f2 (eqO true) (fVar 3) (fLst fNil))) (fB (f2 geO (f2 ixO (fVar 3) (f1 negO (fC (.int 1)))) (f2 ixO (fVar 4) (fC (.int 0)))))) sl S0 = some (.ok (!lastOk L y) S0) := by
      show bindM _ _ S0 = _
      unfold bindM
      rw [hnn]
      cases hg : L.getLast? with
      | none =>
        have : L = [] := List.getLast?_eq_none_iff.mp hg
        subst this
        rfl
      | some z =>
        have hne : L.isEmpty = false := by
          cases L with
          | nil => cases hg
          | cons _ _ => rfl
        rw [hne]
        have hz : (f2 ixO (fVar 3) (f1 negO (fC (.int 1)))) sl S0 = some (.ok (.str z) S0) := by
          refine f2_of (s1 := S0) (x := .own s.length) (y := .int (-1)) rfl rfl ?_
          show (seqOf S0 (.own s.length)).bind (fun xs => atI xs (-1)) = _
          have : seqOf S0 (.own s.length) = some (L.map D.str) := by
            simp only [seqOf, lsOf, S0, app_at]
          rw [this]
          exact atI_last L z hg
        have hge : (fB (f2 geO (f2 ixO (fVar 3) (f1 negO (fC (.int 1)))) (f2 ixO (fVar 4) (fC (.int 0))))) sl S0 = some (.ok (!decide (z.cps.toList < y.cps.toList)) S0) := fB_of (f2_of hz h0 rfl)
        unfold lastOk
        rw [hg]
        exact hge
    by_cases hlast : lastOk L y = true
    · rw [hlast] at hord
      have hGd := hG b T S0 k hb ok (app_old hk _) (by omega)
      have hsub : (f2 subO (fVar 1) (fC (.int 1))) sl S0 = some (.ok (.int (l : Nat)) S0) := by
        refine f2_of (x := .int ((l + 1 : Nat) : Int)) (y := .int 1) rfl rfl ?_
        show some (D.int (((l + 1 : Nat) : Int) - 1)) = _
        congr 2
        omega
      have hgood : (fTru (fCall 3 G (fCons (f2 ixO (fVar 4) (fC (.int 1))) (fCons (f2 subO (fVar 1) (fC (.int 1))) (fCons (fVar 2) fNil))))) sl S0 = some (.ok (goodF l b T).1 (s.set k (C (goodF l b T).2) ++ [.lst (L.map D.str)])) := by
        refine fTru_of (fCall_eq (ds := [b, .int (l : Nat), .own k]) (s1 := S0) (by simp only [fCons, fNil, bindM, retM, h1, hsub]; rfl) rfl (hGd.trans ?_))
        rw [app_oldset hk]
      cases hgb : (goodF l b T).1 with
      | false =>
        rw [hgb] at hgood
        have e' : fieldsF (goodF l) [p] L T = (none, (goodF l b T).2) := by
          rw [e]
          show (if isWord y = true ∧ lastOk L y = true then (if (goodF l b T).1 = true then _ else (none, (goodF l b T).2)) else (none, T)) = _
          rw [if_pos ⟨hy, hlast⟩, hgb]
          rfl
        rw [e']
        exact take_if (fOr_f hord (fNot_of hgood))
      | true =>
        rw [hgb] at hgood
        have e' : fieldsF (goodF l) [p] L T = (some (L ++ [y]), (goodF l b T).2) := by
          rw [e]
          show (if isWord y = true ∧ lastOk L y = true then (if (goodF l b T).1 = true then fieldsF (goodF l) [] (L ++ [y]) (goodF l b T).2 else _) else (none, T)) = _
          rw [if_pos ⟨hy, hlast⟩, hgb, if_pos rfl]
          rfl
        rw [e']
        refine (skip_if (fOr_f hord (fNot_of hgood))).trans (exprS_ok (d := .non) ?_)
        have hsm : small ((L.map D.str).length + 1) = true := small_of (by rw [List.length_map]; omega)
        have hlen2 : (s.set k (C (goodF l b T).2)).length = s.length := List.length_set
        have hat : (s.set k (C (goodF l b T).2) ++ [Cell.lst (L.map D.str)])[s.length]? = some (.lst (L.map D.str)) := by
          have := app_at (s.set k (C (goodF l b T).2)) (.lst (L.map D.str)) []
          rw [hlen2] at this
          exact this
        have hset : (s.set k (C (goodF l b T).2) ++ [Cell.lst (L.map D.str)]).set s.length (.lst ((L ++ [y]).map D.str)) = s.set k (C (goodF l b T).2) ++ [.lst ((L ++ [y]).map D.str)] := by
          have := app_set (s.set k (C (goodF l b T).2)) (.lst (L.map D.str)) (.lst ((L ++ [y]).map D.str)) []
          rw [hlen2] at this
          exact this
        have h0' : (f2 ixO (fVar 4) (fC (.int 0))) sl (s.set k (C (goodF l b T).2) ++ [.lst (L.map D.str)]) = some (.ok (.str y) (s.set k (C (goodF l b T).2) ++ [.lst (L.map D.str)])) := ix0 (x := .str y) (r := [b]) (by rw [← e]; rfl)
        have hv3 : fVar 3 sl (s.set k (C (goodF l b T).2) ++ [.lst (L.map D.str)]) = some (.ok (.own s.length) (s.set k (C (goodF l b T).2) ++ [.lst (L.map D.str)])) := rfl
        simp only [fM1, bindM, hv3, liftO, lsOf, hat, Option.map_some, fCons, h0', fNil, retM, appendM, hsm, if_true]
        rw [← hset, List.map_append]
        rfl
    · have hlast' : lastOk L y = false := Bool.eq_false_iff.mpr hlast
      rw [hlast'] at hord
      have e' : fieldsF (goodF l) [p] L T = (none, T) := by
        rw [e]
        show (if isWord y = true ∧ lastOk L y = true then _ else (none, T)) = _
        rw [if_neg (fun h => hlast h.2)]
      rw [e']
      show _ = some (RS.rt (.bl false) (s.set k (C T) ++ [.lst (L.map D.str)]))
      rw [same]
      exact take_if (fOr_t hord)

end Pr

set_option Elab.async false
set_option linter.all false
set_option maxRecDepth 100000
set_option maxHeartbeats 8000000
namespace Pr
open PySem L2 PD
theorem fieldsF_cons (G : D → Tab → Bool × Tab) (p : D) (fs : List D) (L : List Str) (T : Tab) : fieldsF G (p :: fs) L T = (match (fieldsF G [p] L T).1 with | some L' => fieldsF G fs L' (fieldsF G [p] L T).2 | none => (none, (fieldsF G [p] L T).2)) := by
  rcases p_cases p with h | ⟨xs, e, h⟩ | ⟨a, b, e, h⟩ | ⟨y, b, e, h⟩
  all_goals first
    | subst e
    | skip
  · rw [f_not G p L T (fun y b e => by rw [e] at h; cases h)]
    cases p with
    | tup xs => cases h
    | _ => rfl
  · rw [f_not G _ L T (fun y b e => by injection e with e; rw [e] at h; exact absurd rfl h)]
    match xs, h with
    | [], _ => rfl
    | [a], _ => cases a <;> rfl
    | [a, b], h => exact absurd rfl h
    | a :: b :: c :: r, _ => cases a <;> rfl
  · rw [f_not G _ L T (fun y b' e => by injection e with e; injection e with e1 e2; rw [e1] at h; exact h)]
    cases a with
    | str y =>
      have h' : isWord y = false := h
      show (if isWord y = true ∧ lastOk L y = true then _ else (none, T)) = _
      rw [if_neg (fun q => by rw [h'] at q; cases q.1)]
    | _ => rfl
  · show (if isWord y = true ∧ lastOk L y = true then (if (G b T).1 = true then fieldsF G fs (L ++ [y]) (G b T).2 else (none, (G b T).2)) else (none, T)) = (match (if isWord y = true ∧ lastOk L y = true then (if (G b T).1 = true then ((some (L ++ [y]), (G b T).2) : Option (List Str) × Tab) else (none, (G b T).2)) else (none, T)).1 with
      | some L' => fieldsF G fs L' (if isWord y = true ∧ lastOk L y = true then (if (G b T).1 = true then ((some (L ++ [y]), (G b T).2) : Option (List Str) × Tab) else (none, (G b T).2)) else (none, T)).2
      | none => (none, (if isWord y = true ∧ lastOk L y = true then (if (G b T).1 = true then ((some (L ++ [y]), (G b T).2) : Option (List Str) × Tab) else (none, (G b T).2)) else (none, T)).2))
    split
    · split <;> rfl
    · rfl
theorem f_len1 (G : D → Tab → Bool × Tab) (p : D) (L L' : List Str) (T : Tab) (h : (fieldsF G [p] L T).1 = some L') : L'.length = L.length + 1 := by
  unfold fieldsF at h
  split at h
  · split at h
    · split at h
      · cases h
        rw [List.length_append]
        rfl
      · cases h
    · cases h
  · cases h
/-- all fields -/
theorem lp_all {G : List D → M D} {l : Nat} (hG : GoodSpec G l) (k : Nat) (d : D) (a : Src) (ha : a.2 = none) : ∀ (fs : List D) (s : Sto) (L : List Str) (T : Tab) (x4 : Option D), s[k]? = some (C T) → OkT T → (∀ y ∈ L, OkS 8 y) → L.length + fs.length ≤ 900000 → dts fs = true → T.m.length + szs fs ≤ 900000 →
    ∃ c y4, forL (tdName 4) (lpBody G) a fs [some d, some (.int ((l + 1 : Nat) : Int)), some (.own k), some (.own s.length), x4] (s ++ [.lst (L.map D.str)]) =
      lpOut [some d, some (.int ((l + 1 : Nat) : Int)), some (.own k), some (.own s.length), y4] s k c (fieldsF (goodF l) fs L T)
  | [], s, L, T, x4, hk, ok, hL, hl, hd, hsz => by
    refine ⟨.gone, x4, ?_⟩
    show some (RS.nx _ (s ++ [.lst (L.map D.str)])) = some (RS.nx _ (s.set k (C T) ++ [.lst (L.map D.str)]))
    rw [set_same hk]
  | p :: fs, s, L, T, x4, hk, ok, hL, hl, hd, hsz => by
    have hd' : dt p = true ∧ dts fs = true := Bool.and_eq_true_iff.mp hd
    have h1 := lp_one hG s k d p L T hk ok hL (by rw [List.length_cons] at hl; omega) hd'.1 (by simp only [szs] at hsz; omega)
    obtain ⟨k1, k2⟩ := fieldsF_ok (fun d T => goodF_ok l d T) [p] L T ok hL
    have f1 := f_len1 (goodF l) p L
    rw [fieldsF_cons]
    cases e : (fieldsF (goodF l) [p] L T).1 with
    | none =>
      unfold lpOut at h1
      rw [e] at h1
      refine ⟨.lst (L.map D.str), some p, ?_⟩
      unfold lpOut
      exact forL_rt rfl h1
    | some L' =>
      unfold lpOut at h1
      rw [e] at h1
      have hlen : (s.set k (C (fieldsF (goodF l) [p] L T).2)).length = s.length := List.length_set
      obtain ⟨c, y4, h2⟩ := lp_all hG k d a ha fs (s.set k (C (fieldsF (goodF l) [p] L T).2)) L' (fieldsF (goodF l) [p] L T).2 (some p) (set_at hk _) k1.1 (k2 L' e) (by have := f1 L' T e; rw [List.length_cons] at hl; omega) hd'.2 (by have := k1.2; simp only [szs] at this hsz; omega)
      rw [hlen] at h2
      refine ⟨c, y4, ?_⟩
      have ck : Ck a (s.set k (C (fieldsF (goodF l) [p] L T).2) ++ [.lst (L'.map D.str)]) := by
        unfold Ck
        rw [ha]
        trivial
      refine (forL_cons rfl h1 ck).trans (h2.trans ?_)
      unfold lpOut
      rw [List.set_set]
theorem d_cases (d : D) : isTb d = false ∨ d = .tup [] ∨ (∃ x r, d = .tup (x :: r) ∧ isSb x = false) ∨ (∃ w r, d = .tup (.str w :: r)) := by
  cases d with
  | tup xs =>
    refine .inr ?_
    match xs with
    | [] => exact .inl rfl
    | x :: r => cases x with
      | str w => exact .inr (.inr ⟨w, r, rfl⟩)
      | _ => exact .inr (.inl ⟨_, _, rfl, rfl⟩)
  | _ => exact .inl rfl
theorem g_not (l : Nat) (d : D) (T : Tab) (h : ∀ w r, d ≠ .tup (.str w :: r)) : goodF (l + 1) d T = (false, T) := by
  unfold goodF
  split
  · exact absurd rfl (h _ _)
  · rfl
noncomputable abbrev gT1 : Sl → M Bool := (fOr (fB (f2 (eqO false) (fVar 1) (fC (.int 0)))) (fOr (fNot (fTru (f1 (isiO "tuple") (fVar 0)))) (fOr (fB (f2 (eqO false) (fN lenO (fCons (fVar 0) fNil)) (fC (.int 0)))) (fNot (fTru (f1 (isiO "str") (f2 ixO (fVar 0) (fC (.int 0)))))))))
theorem good_bad {G : List D → M D} {d i : D} {k : Nat} {s : Sto} (h : gT1 [some d, some i, some (.own k), none, none] s = some (.ok true s)) : fnD false 5 (g_good G) [d, i, .own k] s = some (.ok (.bl false) s) := by
  refine fnD_rt (d := .bl false) (s' := s) ?_ (bl_fin s false)
  unfold g_good
  exact take_if h
theorem good_zero (G : List D → M D) : GoodSpec (fnD false 5 (g_good G)) 0 := by
  intro d T s k hd ok hk hsz
  show _ = some (R.ok (D.bl false) (s.set k (C T)))
  rw [set_same hk]
  exact good_bad (fOr_t (fB_of (f2_of (x := .int 0) (y := .int 0) rfl rfl (eqO_int _ _ _ _))))
end Pr

set_option Elab.async false
set_option linter.all false
set_option maxRecDepth 100000
set_option maxHeartbeats 8000000
namespace Pr
open PySem L2 PD
theorem isN_of {f : Sl → M D} {sl : Sl} {s s1 : Sto} {x : D} (h : f sl s = some (.ok x s1)) (b : Bool) (hb : (match x with | .non => true | _ => false) = b) : (f2 (isNO false) f (fC .non)) sl s = some (.ok (.bl b) s1) := by
  refine f2_of h rfl ?_
  subst hb
  cases x <;> rfl
theorem good_step {G : List D → M D} {l : Nat} (hG : GoodSpec G l) : GoodSpec (fnD false 5 (g_good G)) (l + 1) := by
  intro d T s k hd ok hk hsz
  have same := set_same hk
  have hq0 : ∀ d : D, (fB (f2 (eqO false) (fVar 1) (fC (.int 0)))) [some d, some (.int ((l + 1 : Nat) : Int)), some (.own k), none, none] s = some (.ok false s) := fun d => by
    have : (fB (f2 (eqO false) (fVar 1) (fC (.int 0)))) [some d, some (.int ((l + 1 : Nat) : Int)), some (.own k), none, none] s = some (.ok (ng false (decide (((l + 1 : Nat) : Int) = 0))) s) := fB_of (f2_of (x := .int ((l + 1 : Nat) : Int)) (y := .int 0) rfl rfl (eqO_int _ _ _ _))
    rw [decide_eq_false (by omega)] at this
    exact this
  have bad : ∀ d : D, gT1 [some d, some (.int ((l + 1 : Nat) : Int)), some (.own k), none, none] s = some (.ok true s) → (∀ w r, d ≠ .tup (.str w :: r)) → fnD false 5 (g_good G) [d, .int ((l + 1 : Nat) : Int), .own k] s = some (.ok (.bl (goodF (l + 1) d T).1) (s.set k (C (goodF (l + 1) d T).2))) := fun d h h2 => by
    rw [g_not l d T h2, same]
    exact good_bad h
  rcases d_cases d with hT | rfl | ⟨x, r, rfl, hx⟩ | ⟨w, rest, rfl⟩
  · have ht := isi_tup (f := fVar 0) (sl := [some d, some (.int ((l + 1 : Nat) : Int)), some (.own k), none, none]) (s := s) (s1 := s) rfl hd
    rw [hT] at ht
    exact bad d (fOr_f (hq0 d) (fOr_t (fNot_of ht))) (fun w r e => by rw [e] at hT; cases hT)
  · exact bad _ (fOr_f (hq0 _) (fOr_f (fNot_of (isi_tup (f := fVar 0) rfl hd)) (fOr_t (by have := fB_of (len_is (neg := false) (f := fVar 0) (sl := [some (.tup []), some (.int ((l + 1 : Nat) : Int)), some (.own k), none, none]) (s := s) (s1 := s) (xs := []) 0 rfl); exact this)))) (fun w r e => by injection e with e; cases e)
  · have hxd : dt x = true := (dts_iff.mp hd) x (by simp)
    have hl0 : (fB (f2 (eqO false) (fN lenO (fCons (fVar 0) fNil)) (fC (.int 0)))) [some (.tup (x :: r)), some (.int ((l + 1 : Nat) : Int)), some (.own k), none, none] s = some (.ok false s) := by
      have := fB_of (len_is (neg := false) (f := fVar 0) (sl := [some (.tup (x :: r)), some (.int ((l + 1 : Nat) : Int)), some (.own k), none, none]) (s := s) (s1 := s) 0 rfl)
      rw [decide_eq_false (by rw [List.length_cons]; omega)] at this
      exact this
    have hs := isi_str (f := f2 ixO (fVar 0) (fC (.int 0))) (sl := [some (.tup (x :: r)), some (.int ((l + 1 : Nat) : Int)), some (.own k), none, none]) (s := s) (s1 := s) (ix0 rfl) hxd
    rw [hx] at hs
    exact bad _ (fOr_f (hq0 _) (fOr_f (fNot_of (isi_tup (f := fVar 0) rfl hd)) (fOr_f hl0 (fNot_of hs)))) (fun w r' e => by injection e with e; injection e with e1 e2; subst e1; cases hx)
  · -- the main case
    have hrd : ∀ x ∈ rest, dt x = true := fun x hx => (dts_iff.mp hd) x (by simp [hx])
    have hwd : dt (.str w) = true := (dts_iff.mp hd) _ (by simp)
    have hszr : T.m.length + (szs rest + 2) ≤ 900000 := by simp only [sz, szs] at hsz; omega
    have hl0 : (fB (f2 (eqO false) (fN lenO (fCons (fVar 0) fNil)) (fC (.int 0)))) [some (.tup (.str w :: rest)), some (.int ((l + 1 : Nat) : Int)), some (.own k), none, none] s = some (.ok false s) := by
      have := fB_of (len_is (neg := false) (f := fVar 0) (sl := [some (.tup (.str w :: rest)), some (.int ((l + 1 : Nat) : Int)), some (.own k), none, none]) (s := s) (s1 := s) 0 rfl)
      rw [decide_eq_false (by rw [List.length_cons]; omega)] at this
      exact this
    have ht1 : gT1 [some (.tup (.str w :: rest)), some (.int ((l + 1 : Nat) : Int)), some (.own k), none, none] s = some (.ok false s) :=
      fOr_f (hq0 _) (fOr_f (fNot_of (isi_tup (f := fVar 0) rfl hd)) (fOr_f hl0 (fNot_of (isi_str (f := f2 ixO (fVar 0) (fC (.int 0))) (ix0 rfl) hwd))))
    let T1 : Tab := ⟨T.n + 1, T.m⟩
    have ok1 : OkT T1 := ⟨ok.keys, ok.labs⟩
    have hsz1 : T1.m.length + (szs rest + 2) ≤ 900000 := hszr
    let s1 : Sto := s.set k (C T1)
    have hk1 : s1[k]? = some (C T1) := set_at hk _
    have len1 : s1.length = s.length := List.length_set
    have ss : ∀ c, s1.set k c = s.set k c := fun c => by show (s.set k (C T1)).set k c = _; rw [List.set_set]
    have hput : putIxS (f2 addO (f2 dgetO (fVar 2) (f1 negO (fC (.int 1)))) (fC (.int 1))) (fVar 2) (f1 negO (fC (.int 1))) [some (.tup (.str w :: rest)), some (.int ((l + 1 : Nat) : Int)), some (.own k), none, none] s = some (.nx [some (.tup (.str w :: rest)), some (.int ((l + 1 : Nat) : Int)), some (.own k), none, none] s1) := by
      have hget : dgetO s (.own k) (.int (-1)) = some (.int T.n) := by
        unfold dgetO
        rw [dcOf_own hk]
        exact atD_cnt T
      have hs : small ((encT T).length + 1) = true := small_of (by unfold encT; rw [List.length_cons, List.length_map]; omega)
      have hp : putIx s (.own k) (.int (-1)) (.int (T.n + 1)) = some s1 := by
        unfold putIx
        simp only [hk, kD, Option.bind_some, hs, if_true]
        rw [putD_cnt T ok.keys]
      have hneg : f1 negO (fC (.int 1)) [some (.tup (.str w :: rest)), some (.int ((l + 1 : Nat) : Int)), some (.own k), none, none] s = some (.ok (.int (-1)) s) := rfl
      have hval : (f2 addO (f2 dgetO (fVar 2) (f1 negO (fC (.int 1)))) (fC (.int 1))) [some (.tup (.str w :: rest)), some (.int ((l + 1 : Nat) : Int)), some (.own k), none, none] s = some (.ok (.int (T.n + 1)) s) := f2_of (f2_of (x := .own k) rfl hneg hget) rfl rfl
      simp only [putIxS, bindS, hval, hneg, fVar, List.getElem?_cons_zero, List.getElem?_cons_succ, hp]
    have fin : ∀ (b : Bool) (T' : Tab) (junk : Sto), (g_good G) [some (.tup (.str w :: rest)), some (.int ((l + 1 : Nat) : Int)), some (.own k), none, none] s = some (.rt (.bl b) (s.set k (C T') ++ junk)) → fnD false 5 (g_good G) [.tup (.str w :: rest), .int ((l + 1 : Nat) : Int), .own k] s = some (.ok (.bl b) (s.set k (C T'))) :=
      fun b T' junk h => fnD_rt h (fin_setC s k _ junk _ (low_encT _ _) rfl (fun _ z => nomatch z))
    have eg : goodF (l + 1) (.tup (.str w :: rest)) T = headF (goodF l) w rest T1 := rfl
    rw [eg]
    have hw0 : (f2 ixO (fVar 0) (fC (.int 0))) [some (.tup (.str w :: rest)), some (.int ((l + 1 : Nat) : Int)), some (.own k), none, none] s1 = some (.ok (.str w) s1) := ix0 rfl
    have go : ∀ (g : SD) r, g [some (.tup (.str w :: rest)), some (.int ((l + 1 : Nat) : Int)), some (.own k), none, none] s1 = r → (seqS (ifS gT1 (retS (fC (.bl false))) nextS) (seqS (putIxS (f2 addO (f2 dgetO (fVar 2) (f1 negO (fC (.int 1)))) (fC (.int 1))) (fVar 2) (f1 negO (fC (.int 1)))) g)) [some (.tup (.str w :: rest)), some (.int ((l + 1 : Nat) : Int)), some (.own k), none, none] s = r := fun g r h => (skip_if ht1).trans ((seqS_nx hput).trans h)
    have hsame1 : s1 = s.set k (C T1) ++ [] := (List.append_nil _).symm
    by_cases c1 : w = S "number"
    · have e1 : headF (goodF l) w rest T1 = (rest.isEmpty, T1) := by unfold headF; rw [if_pos c1]
      rw [e1]
      refine fin _ T1 [] ?_
      unfold g_good
      have hw := word_is (neg := false) (S "number") hw0
      rw [decide_eq_true c1] at hw
      refine go _ _ (seqS_rt ((ifS_t hw).trans (retS_ok ?_)))
      have := len_is (neg := false) (f := fVar 0) (sl := [some (.tup (.str w :: rest)), some (.int ((l + 1 : Nat) : Int)), some (.own k), none, none]) (s := s1) (s1 := s1) 1 rfl
      rw [this, ← hsame1]
      cases rest with
      | nil => rfl
      | cons x r =>
        rw [decide_eq_false (by rw [List.length_cons, List.length_cons]; omega)]
        rfl
    · have hw := word_is (neg := false) (S "number") hw0
      rw [decide_eq_false c1] at hw
      by_cases c2 : w = S "blank"
      · have hw2 := word_is (neg := false) (S "blank") hw0
        rw [decide_eq_true c2] at hw2
        have e1 : headF (goodF l) w rest T1 = blankR rest T1 := by unfold headF; rw [if_neg c1, if_pos c2]
        have hln := len_is (neg := false) (f := fVar 0) (sl := [some (.tup (.str w :: rest)), some (.int ((l + 1 : Nat) : Int)), some (.own k), none, none]) (s := s1) (s1 := s1) 2 rfl
        by_cases hlen : rest.length = 1
        · obtain ⟨x, rfl⟩ : ∃ x, rest = [x] := by
            match rest, hlen with
            | [x], _ => exact ⟨x, rfl⟩
          obtain ⟨s2, h1, h2⟩ := num_blank (f := f2 ixO (fVar 0) (fC (.int 1))) (g := fVar 0) (sl := [some (.tup [.str w, x]), some (.int ((l + 1 : Nat) : Int)), some (.own k), none, none]) (s := s1) (s1 := s1) (k := k) (T := T1) (x := x) (v := none) (fv := fC .non) (fk := fVar 2) (hrd x (by simp)) (ix1 rfl) (fun i _ _ => rfl) rfl hk1 hk1 ok1 (by omega) trivial
          rw [e1]
          show _ = some (R.ok (D.bl (numF x T1 none).1) (s.set k (C (numF x T1 none).2)))
          refine fin _ _ [] ?_
          unfold g_good
          refine go _ _ ((skip_if hw).trans (seqS_rt ((ifS_t hw2).trans (retS_ok ((fAndV_t hln h1).trans ?_)))))
          rw [List.append_nil]
          rcases h2 with ⟨h2, h3⟩ | h2
          · rw [h2, h3]
          · rw [h2, ss]
        · have e2 := blankR_no T1 hlen
          rw [e1, e2]
          refine fin false T1 [] ?_
          unfold g_good
          rw [decide_eq_false (by rw [List.length_cons]; omega)] at hln
          refine go _ _ ((skip_if hw).trans (seqS_rt ((ifS_t hw2).trans (retS_ok ((fAndV_f hln).trans ?_)))))
          rw [← hsame1]
      · have hw2 := word_is (neg := false) (S "blank") hw0
        rw [decide_eq_false c2] at hw2
        have hw3 := word_is (neg := true) (S "record") hw0
        have badr : ∀ (h : (fOr (fB (f2 (eqO true) (f2 ixO (fVar 0) (fC (.int 0))) (fC (.str (PySem.Str.ofString "record"))))) (fOr (fB (f2 (eqO true) (fN lenO (fCons (fVar 0) fNil)) (fC (.int 3)))) (fNot (fTru (f1 (isiO "tuple") (f2 ixO (fVar 0) (fC (.int 1)))))))) [some (.tup (.str w :: rest)), some (.int ((l + 1 : Nat) : Int)), some (.own k), none, none] s1 = some (.ok true s1)) (e : headF (goodF l) w rest T1 = (false, T1)),
            fnD false 5 (g_good G) [.tup (.str w :: rest), .int ((l + 1 : Nat) : Int), .own k] s = some (.ok (.bl (headF (goodF l) w rest T1).1) (s.set k (C (headF (goodF l) w rest T1).2))) := fun h e => by
          rw [e]
          refine fin false T1 [] ?_
          unfold g_good
          rw [← hsame1]
          exact go _ _ ((skip_if hw).trans ((skip_if hw2).trans (take_if h)))
        by_cases c3 : w = S "record"
        · rw [decide_eq_true c3] at hw3
          have e1 : headF (goodF l) w rest T1 = recR (goodF l) rest T1 := by unfold headF; rw [if_neg c1, if_neg c2, if_pos c3]
          have hln := len_is (neg := true) (f := fVar 0) (sl := [some (.tup (.str w :: rest)), some (.int ((l + 1 : Nat) : Int)), some (.own k), none, none]) (s := s1) (s1 := s1) 3 rfl
          by_cases hlen : rest.length = 2
          · obtain ⟨a, x, rfl⟩ : ∃ a x, rest = [a, x] := by
              match rest, hlen with
              | [a, x], _ => exact ⟨a, x, rfl⟩
            have had : dt a = true := hrd a (by simp)
            have hxd : dt x = true := hrd x (by simp)
            have hia := isi_tup (f := f2 ixO (fVar 0) (fC (.int 1))) (sl := [some (.tup [.str w, a, x]), some (.int ((l + 1 : Nat) : Int)), some (.own k), none, none]) (s := s1) (s1 := s1) (ix1 rfl) had
            by_cases hTa : isTb a = true
            · obtain ⟨fs, rfl⟩ : ∃ fs, a = .tup fs := by
                cases a with
                | tup fs => exact ⟨fs, rfl⟩
                | _ => cases hTa
              have htest : (fOr (fB (f2 (eqO true) (f2 ixO (fVar 0) (fC (.int 0))) (fC (.str (PySem.Str.ofString "record"))))) (fOr (fB (f2 (eqO true) (fN lenO (fCons (fVar 0) fNil)) (fC (.int 3)))) (fNot (fTru (f1 (isiO "tuple") (f2 ixO (fVar 0) (fC (.int 1)))))))) [some (.tup [.str w, .tup fs, x]), some (.int ((l + 1 : Nat) : Int)), some (.own k), none, none] s1 = some (.ok false s1) :=
                fOr_f hw3 (fOr_f (fB_of hln) (fNot_of hia))
              have hown : setS 3 (fOwn fNil) [some (.tup [.str w, .tup fs, x]), some (.int ((l + 1 : Nat) : Int)), some (.own k), none, none] s1 = some (.nx [some (.tup [.str w, .tup fs, x]), some (.int ((l + 1 : Nat) : Int)), some (.own k), some (.own s1.length), none] (s1 ++ [.lst []])) := by
                have h0 : small ([] : List D).length = true := small_of (by simp)
                refine setS_ok ?_
                simp only [fOwn, fNil, bindM, retM, h0, if_true]
              have hfs := szs_len fs
              have hszf : T1.m.length + szs fs ≤ 900000 := by simp only [szs, sz] at hsz1; omega
              obtain ⟨c, y4, hloop⟩ := lp_all hG k (.tup [.str w, .tup fs, x]) (fs, none) rfl fs s1 [] T1 none hk1 ok1 (fun _ z => by cases z) (by rw [List.length_nil]; omega) had hszf
              obtain ⟨k1, k2⟩ := fieldsF_ok (fun d T => goodF_ok l d T) fs [] T1 ok1 (fun _ z => by cases z)
              have hfor : forS (tdName 4) (fIt (f2 ixO (fVar 0) (fC (.int 1)))) (lpBody G) [some (.tup [.str w, .tup fs, x]), some (.int ((l + 1 : Nat) : Int)), some (.own k), some (.own s1.length), none] (s1 ++ [.lst []]) = _ := (forS_of (a := (fs, none)) (s1 := s1 ++ [.lst []]) (by
                have h1 : (f2 ixO (fVar 0) (fC (.int 1))) [some (.tup [.str w, .tup fs, x]), some (.int ((l + 1 : Nat) : Int)), some (.own k), some (.own s1.length), none] (s1 ++ [.lst []]) = some (.ok (.tup fs) (s1 ++ [.lst []])) := ix1 rfl
                show bindM _ _ _ = _
                unfold bindM
                rw [h1]
                rfl) (ck_none _ _)).trans hloop
              rw [e1]
              show _ = some (R.ok (D.bl (recE x (fieldsF (goodF l) fs [] T1)).1) (s.set k (C (recE x (fieldsF (goodF l) fs [] T1)).2)))
              cases ef : fieldsF (goodF l) fs [] T1 with
              | mk r T' =>
                rw [ef] at hfor k1 k2
                cases r with
                | none =>
                  show _ = some (R.ok (D.bl false) (s.set k (C T')))
                  refine fin false T' [c] ?_
                  unfold g_good
                  refine go _ _ ((skip_if hw).trans ((skip_if hw2).trans ((skip_if htest).trans ((seqS_nx hown).trans (seqS_rt (hfor.trans ?_))))))
                  show some (RS.rt (D.bl false) (s1.set k (C T') ++ [c])) = _
                  rw [ss]
                | some L =>
                  show _ = some (R.ok (D.bl (endF x L T').1) (s.set k (C (endF x L T').2)))
                  have hL := k2 L rfl
                  have okT' : OkT T' := k1.1
                  have hT' : T'.m.length ≤ 900000 := by have h1 : T'.m.length ≤ T1.m.length + szs fs := k1.2; omega
                  let S2 : Sto := s1.set k (C T') ++ [.lst (L.map D.str)]
                  let sl2 : Sl := [some (.tup [.str w, .tup fs, x]), some (.int ((l + 1 : Nat) : Int)), some (.own k), some (.own s1.length), y4]
                  have hfor' : forS (tdName 4) (fIt (f2 ixO (fVar 0) (fC (.int 1)))) (lpBody G) [some (.tup [.str w, .tup fs, x]), some (.int ((l + 1 : Nat) : Int)), some (.own k), some (.own s1.length), none] (s1 ++ [.lst []]) = some (.nx sl2 S2) := hfor
                  have hx2 : (f2 ixO (fVar 0) (fC (.int 2))) sl2 S2 = some (.ok x S2) := ix2 rfl
                  have hlen2 : (s1.set k (C T')).length = s1.length := List.length_set
                  have hkT : (s1.set k (C T'))[k]? = some (C T') := set_at hk1 _
                  have enough : ∀ (b : Bool) (T2 : Tab) (j : Sto), (fOrV (f2 (isNO false) (f2 ixO (fVar 0) (fC (.int 2))) (fC .non)) (fAndV (fCall 1 D_number (fCons (f2 ixO (fVar 0) (fC (.int 2))) fNil)) (fCall 3 D_blank (fCons (fVar 2) (fCons (f2 ixO (fVar 0) (fC (.int 2))) (fCons (fFrz (fVar 3)) fNil)))))) sl2 S2 = some (.ok (.bl b) (s1.set k (C T2) ++ j)) →
                      fnD false 5 (g_good G) [.tup [.str w, .tup fs, x], .int ((l + 1 : Nat) : Int), .own k] s = some (.ok (.bl b) (s.set k (C T2))) := fun b T2 j h => by
                    refine fin b T2 j ?_
                    unfold g_good
                    rw [← ss]
                    exact go _ _ ((skip_if hw).trans ((skip_if hw2).trans ((skip_if htest).trans ((seqS_nx hown).trans ((seqS_nx hfor').trans (retS_ok h))))))
                  by_cases cx : x = .non
                  · subst cx
                    exact enough true T' [.lst (L.map D.str)] (fOrV_t (isN_of hx2 true rfl))
                  · have hnn : (f2 (isNO false) (f2 ixO (fVar 0) (fC (.int 2))) (fC .non)) sl2 S2 = some (.ok (.bl false) S2) := isN_of hx2 false (by cases x <;> first | exact absurd rfl cx | rfl)
                    have ee : endF x L T' = numF x T' (some L) := by
                      unfold endF
                      cases x <;> first | exact absurd rfl cx | rfl
                    rw [ee]
                    have hat : S2[s1.length]? = some (.lst (L.map D.str)) := by
                      have := app_at (s1.set k (C T')) (.lst (L.map D.str)) []
                      rw [hlen2] at this
                      exact this
                    have hset : S2.set s1.length .gone = s1.set k (C T') ++ [.gone] := by
                      have := app_set (s1.set k (C T')) (.lst (L.map D.str)) .gone []
                      rw [hlen2] at this
                      exact this
                    have hfrz : (fFrz (fVar 3)) sl2 S2 = some (.ok (encL (some L)) (S2.set s1.length .gone)) := by
                      show bindM _ _ S2 = _
                      have h3 : fVar 3 sl2 S2 = some (.ok (.own s1.length) S2) := rfl
                      simp only [bindM, h3, hat]
                      rfl
                    obtain ⟨s2, h1, h2⟩ := num_blank (f := f2 ixO (fVar 0) (fC (.int 2))) (g := fVar 0) (sl := sl2) (s := S2) (s1 := S2.set s1.length .gone) (k := k) (T := T') (x := x) (v := some L) (fv := fFrz (fVar 3)) (fk := fVar 2) hxd hx2 (fun i _ _ => hfrz) rfl (by rw [hset]; exact app_old hkT _) (app_old hkT _) okT' hT' hL
                    rcases h2 with ⟨h2, h3⟩ | h2
                    · rw [h3]
                      refine enough _ T' [.lst (L.map D.str)] ((fOrV_f hnn h1).trans ?_)
                      rw [h2]
                    · refine enough _ _ [.gone] ((fOrV_f hnn h1).trans ?_)
                      rw [h2, hset, app_oldset hkT, List.set_set]
            · have hTa' : isTb a = false := Bool.eq_false_iff.mpr hTa
              rw [hTa'] at hia
              refine badr (fOr_f hw3 (fOr_f (fB_of hln) (fNot_of hia))) (e1.trans ?_)
              cases a with
              | tup fs => cases hTa'
              | _ => rfl
          · rw [decide_eq_false (by rw [List.length_cons]; omega)] at hln
            refine badr (fOr_f hw3 (fOr_t (fB_of hln))) (e1.trans ?_)
            exact recR_no _ _ hlen
        · rw [decide_eq_false c3] at hw3
          refine badr (fOr_t hw3) ?_
          unfold headF
          rw [if_neg c1, if_neg c2, if_neg c3]
end Pr

set_option Elab.async false
set_option linter.all false
set_option maxRecDepth 100000
set_option maxHeartbeats 8000000
namespace Pr
open PySem L2 PD
theorem good_all : ∀ (l n : Nat), l < n → GoodSpec (R_good n) l
  | 0, n + 1, _ => good_zero (R_good n)
  | l + 1, n + 1, h => good_step (good_all l n (Nat.lt_of_succ_lt_succ h))
def T0 : Tab := ⟨0, []⟩
/-- the law's own word for a thing -/
def dueF (d : D) : Bool := (goodF 12 d T0).1 && decide ((goodF 12 d T0).2.n ≤ 200)
theorem due_eq (d : D) (s : Sto) (hd : dt d = true) (hs : sz d ≤ 900000) : D_due [d] s = some (.ok (.bl (dueF d)) s) := by
  let T' := (goodF 12 d T0).2
  have ok0 : OkT T0 := ⟨fun _ h => (by cases h), fun _ h => (by cases h)⟩
  have hg := good_all 12 14 (by decide) d T0 (s ++ [C T0]) s.length hd ok0 (app_at _ _ _) (by show 0 + sz d ≤ 900000; omega)
  rw [app_set] at hg
  have hg' : D_good [d, .int 12, .own s.length] (s ++ [C T0]) = some (.ok (.bl (goodF 12 d T0).1) (s ++ [C T'])) := hg
  have close : ∀ (b : Bool) (c : Cell), closeM false s (.bl b) (s ++ [c]) = some (.ok (.bl b) s) := fun b c => closeM_low (keep := false) (d := .bl b) rfl (keeps_refl s) rfl (fun _ z => nomatch z)
  unfold D_due
  refine fnD_rt (d := .bl (dueF d)) (s' := s ++ [C T']) ?_ (close _ _)
  unfold g_due
  show seqS _ _ [some d, none] s = _
  have hdisp : (fDisp (((f1 negO (fC (.int 1))), (fC (.int 0))) :: [])) [some d, none] s = some (.ok (.own s.length) (s ++ [C T0])) := by
    have hp : fPairs (((f1 negO (fC (.int 1))), (fC (.int 0))) :: []) [some d, none] (s ++ [.dic []]) = some (.ok [(.int (-1), .int 0)] (s ++ [.dic []])) := rfl
    unfold fDisp
    rw [hp]
    simp only [app_at]
    show (if (1 : Nat) ≤ 15 then some (R.ok (D.own s.length) ((s ++ [Cell.dic []]).set s.length (.dic (encT T0)))) else none) = _
    rw [if_pos (by decide), app_set]
  refine (seqS_nx (setS_ok hdisp)).trans (retS_ok ?_)
  have hcall : fCall 3 D_good (fCons (fVar 0) (fCons (fC (.int 12)) (fCons (fVar 1) fNil))) [some d, some (.own s.length)] (s ++ [C T0]) = some (.ok (.bl (goodF 12 d T0).1) (s ++ [C T'])) := fCall_eq rfl rfl hg'
  have hcall' : fCall 3 D_good (fCons (fVar 0) (fCons (fC (.int 12)) (fCons (fVar 1) fNil))) ([some d, none].set 1 (some (.own s.length))) (s ++ [C T0]) = some (.ok (.bl (goodF 12 d T0).1) (s ++ [C T'])) := hcall
  unfold dueF
  cases e : (goodF 12 d T0).1 with
  | false =>
    rw [e] at hcall'
    exact fAndV_f hcall'
  | true =>
    rw [e] at hcall'
    refine fAndV_t hcall' (f2_of (x := .int T'.n) (y := .int 200) (s1 := s ++ [C T']) (f2_of (x := .own s.length) (y := .int (-1)) (s1 := s ++ [C T']) rfl rfl ?_) rfl rfl)
    unfold dgetO
    rw [dcOf_own (app_at s (C T') [])]
    exact atD_cnt T'
end Pr

set_option Elab.async false
set_option linter.all false
set_option maxRecDepth 100000
set_option maxHeartbeats 4000000
namespace Pr
open PySem L2 PD
/-! ### cells, numbers drawn -/
theorem next_eq (s : Sto) (k : Nat) (a b : Int) (h : s[k]? = some (.lst [.int a, .int b])) :
    D_next [.own k] s = some (.ok (.int ((a * 48271 + 11) % 2147483647 / 7)) (s.set k (.lst [.int ((a * 48271 + 11) % 2147483647), .int (b - 1)]))) := by
  have hset : ∀ c : Cell, (s.set k c)[k]? = some c := set_at h
  unfold D_next
  refine fnD_rt (d := .int ((a * 48271 + 11) % 2147483647 / 7)) (s' := s.set k (.lst [.int ((a * 48271 + 11) % 2147483647), .int (b - 1)])) ?_ ?_
  · unfold g_next
    simp [seqS, setS, bindS, retS, retNS, exprS, ifS, asgS, setIxS, augS, augO, nextS, f1, f2, fN, bindM, liftO, retM, fVar, fC, fTup, fLst, fOwn, fCons, fNil, fB, fTru, fNot, fAnd, fOr, fAndV, fOrV, fIf, asB, truO, fCall, fM0, fM1, tdName, tdTup, tdCons, tdNil, ixO, seqOf, lsOf, atI, ixN, mulO, mulOk, addO, modO, subO, fdivO, setIx, h, hset]
  · have := closeM_low (keep := false) (s := s) (t := s.set k (.lst [.int ((a * 48271 + 11) % 2147483647), .int (b - 1)])) (junk := []) (d := .int ((a * 48271 + 11) % 2147483647 / 7)) (by simp) (keeps_set rfl) rfl (fun _ z => nomatch z)
    rw [List.append_nil] at this
    exact this
/-- what is drawn isn't below 0 -/
theorem next_nn (a : Int) : 0 ≤ (a * 48271 + 11) % 2147483647 / 7 := Int.ediv_nonneg (Int.emod_nonneg _ (by decide)) (by decide)
theorem cell_eq (ns : List Int) (k : Nat) (s : Sto) : ∃ v : Int, 0 ≤ v ∧ v < 2147483647 ∧ D_cell [.scr (ns.map D.int), .int k] s = some (.ok (.int v) s) := by
  have fin : ∀ v : Int, closeM false s (.int v) s = some (.ok (.int v) s) := fun v => by
    have := closeM_low (keep := false) (s := s) (t := s) (junk := []) (d := .int v) rfl (keeps_refl s) rfl (fun _ z => nomatch z)
    rw [List.append_nil] at this
    exact this
  by_cases hk : k < ns.length
  · refine ⟨ns[k] * 48271 % 2147483647, Int.emod_nonneg _ (by decide), Int.emod_lt_of_pos _ (by decide), ?_⟩
    unfold D_cell
    refine fnD_rt (d := .int (ns[k] * 48271 % 2147483647)) (s' := s) ?_ (fin _)
    unfold g_cell
    simp [seqS, setS, bindS, retS, retNS, exprS, ifS, asgS, setIxS, augS, augO, nextS, f1, f2, fN, bindM, liftO, retM, fVar, fC, fTup, fLst, fOwn, fCons, fNil, fB, fTru, fNot, fAnd, fOr, fAndV, fOrV, fIf, asB, truO, fCall, fM0, fM1, tdName, tdTup, tdCons, tdNil, ixO, seqOf, lsOf, atI, ixN, mulO, mulOk, modO, ltO, lenO, hk]
  · refine ⟨0, by decide, by decide, ?_⟩
    unfold D_cell
    refine fnD_rt (d := .int 0) (s' := s) ?_ (fin _)
    unfold g_cell
    simp [seqS, setS, bindS, retS, retNS, exprS, ifS, asgS, setIxS, augS, augO, nextS, f1, f2, fN, bindM, liftO, retM, fVar, fC, fTup, fLst, fOwn, fCons, fNil, fB, fTru, fNot, fAnd, fOr, fAndV, fOrV, fIf, asB, truO, fCall, fM0, fM1, tdName, tdTup, tdCons, tdNil, ixO, seqOf, lsOf, atI, ixN, mulO, mulOk, modO, ltO, lenO, hk]
end Pr

set_option Elab.async false
set_option linter.all false
set_option maxRecDepth 100000
set_option maxHeartbeats 4000000
namespace Pr
open PySem L2 PD
/-! ### labels -/
theorem OkS.app {m n : Nat} {x y : Str} (h : OkS m x) (g : OkS n y) : OkS (m + n) (x ++ y) := by
  refine ⟨?_, fun c hc => ?_⟩
  · show (x.cps ++ y.cps).size ≤ m + n
    rw [Array.size_append]
    exact Nat.add_le_add h.len g.len
  · have hc' : c ∈ (x.cps ++ y.cps).toList := hc
    rw [Array.toList_append] at hc'
    rcases List.mem_append.mp hc' with q | q
    · exact h.cps c q
    · exact g.cps c q
theorem OkS.cut {n : Nat} {x : Str} (h : OkS n x) (lo hi : Option Int) : OkS n (cutS x lo hi) := by
  refine ⟨?_, fun c hc => ?_⟩
  · show (cutS x lo hi).cps.size ≤ n
    unfold cutS
    rw [List.size_toArray, List.length_take, List.length_drop]
    have := h.len
    have e : x.cps.toList.length = x.length := rfl
    omega
  · have hc' : c ∈ ((x.cps.toList.drop (HT.sIx x.length 0 lo)).take (HT.sIx x.length x.length hi - HT.sIx x.length 0 lo)) := by
      have e : (cutS x lo hi).cps.toList = ((x.cps.toList.drop (HT.sIx x.length 0 lo)).take (HT.sIx x.length x.length hi - HT.sIx x.length 0 lo)) := rfl
      rw [e] at hc
      exact hc
    exact h.cps c (List.mem_of_mem_drop (List.mem_of_mem_take hc'))
theorem OkS.one {c : Nat} (h : c < 1114112) : OkS 1 ⟨#[c]⟩ := ⟨Nat.le_refl _, fun d hd => by
  have : d = c := by simpa using hd
  omega⟩
theorem OkS.join0 : ∀ (ys : List Str), (∀ y ∈ ys, OkS 1 y) → OkS ys.length (Txt.join (PySem.Str.ofString "") ys) := by
  intro ys h
  rw [show Txt.join (PySem.Str.ofString "") ys = Str.join (PySem.Str.ofString "") ys from PySem.StrLaws.glued_eq_join _ _]
  have e0 : (PySem.Str.ofString "" : Str) = ⟨#[]⟩ := by decide +kernel
  rw [e0]
  induction ys with
  | nil => exact ⟨Nat.le_refl _, fun c hc => by cases hc⟩
  | cons y r ih =>
    have hy := h y List.mem_cons_self
    have hr := ih fun z hz => h z (List.mem_cons_of_mem _ hz)
    cases r with
    | nil => exact hy
    | cons z r =>
      have q := (hy.app (y := ⟨#[]⟩) (n := 0) ⟨Nat.le_refl _, fun c hc => by cases hc⟩).app hr
      refine q.mono ?_
      simp only [List.length_cons]
      omega
abbrev abc : Str := PySem.Str.ofString "abcdefghijklmnopqrstuvwxyz"
theorem abc_len : abc.cps.toList.length = 26 := by decide +kernel
theorem abc_small : small abc.length = true := by decide +kernel
theorem abc_ok : ∀ c ∈ abc.cps.toList, c < 1114112 := by decide +kernel
theorem abc_at (i : Int) (h0 : 0 ≤ i) (h1 : i < 26) : ∃ c, atI abc.cps.toList i = some c ∧ c < 1114112 := by
  obtain ⟨j, rfl⟩ : ∃ j : Nat, i = (j : Int) := ⟨i.toNat, by omega⟩
  have hi : j < abc.cps.toList.length := by rw [abc_len]; omega
  exact ⟨abc.cps.toList[j], atI_nat (List.getElem?_eq_getElem hi), abc_ok _ (List.getElem_mem hi)⟩
theorem abc_ix (s : Sto) (i : Int) (h0 : 0 ≤ i) (h1 : i < 26) : ∃ x, ixO s (.str abc) (.int i) = some (.str x) ∧ OkS 1 x := by
  obtain ⟨c, h, hc⟩ := abc_at i h0 h1
  refine ⟨⟨#[c]⟩, ?_, .one hc⟩
  show (if small abc.length = true then (atI abc.cps.toList i).map fun c => D.str ⟨#[c]⟩ else none) = _
  rw [if_pos abc_small, h]
  rfl
theorem mulOk_r {i j : Int} (h0 : -(2 ^ 64) < j) (h1 : j < 2 ^ 64) : mulOk i j = true := by
  unfold mulOk
  rw [decide_eq_true h0, decide_eq_true h1]
  simp
theorem mulOk_l {i j : Int} (h0 : -(2 ^ 64) < i) (h1 : i < 2 ^ 64) : mulOk i j = true := by
  unfold mulOk
  rw [decide_eq_true h0, decide_eq_true h1]
  simp
theorem mapStr (xs : List Str) : (xs.map D.str).mapM strD = some xs := by
  induction xs with
  | nil => rfl
  | cons x r ih => rw [List.map_cons, List.mapM_cons, ih]; rfl
theorem sum_le (xs : List Str) (n : Nat) (h : ∀ x ∈ xs, x.length ≤ n) : (xs.map (·.length)).sum ≤ xs.length * n := by
  induction xs with
  | nil => simp
  | cons x r ih =>
    have h1 := h x List.mem_cons_self
    have h2 := ih fun z hz => h z (List.mem_cons_of_mem _ hz)
    rw [List.map_cons, List.sum_cons, List.length_cons, Nat.succ_mul]
    omega
/-- the base of the labels -/
theorem base_eq (c size step : Int) (hs0 : 0 ≤ size) (hs : size < 7) (sl : Sl) (s : Sto) (h0 : sl[0]? = some (some (.int c))) (h2 : sl[2]? = some (some (.str abc))) (h3 : sl[3]? = some (some (.int size))) (h5 : sl[5]? = some (some (.int step))) (hl : 7 < sl.length) :
    ∃ b, OkS 6 b ∧ (fJoin (fC (.str (PySem.Str.ofString ""))) (fLc (tdName 7) fYes (f2 ixO (fVar 2) (f2 modO (f2 addO (fVar 5) (f2 mulO (f2 fdivO (fVar 0) (fC (.int 1274))) (fVar 7))) (fC (.int 26)))) (fRng1 (fVar 3)) [7])) sl s = some (.ok (.str b) s) := by
  have hr : fRng1 (fVar 3) sl s = some (.ok (rangeD 0 size.toNat, none) s) := by
    have c : size < 2 ^ 62 ∧ -(2 ^ 62) ≤ size := by omega
    simp only [fRng1, fVar, bindM, liftO, h3, rngO, if_pos c]
  have turn : ∀ i : Nat, i < 7 → ∃ x, OkS 1 x ∧ ixO s (.str abc) (.int ((step + c / 1274 * (0 + (i : Int))) % 26)) = some (.str x) := fun i _ => by
    obtain ⟨x, h, hx⟩ := abc_ix s ((step + c / 1274 * (0 + (i : Int))) % 26) (Int.emod_nonneg _ (by decide)) (Int.emod_lt_of_pos _ (by decide))
    exact ⟨x, hx, h⟩
  let f : Nat → Str := fun i => if h : i < 7 then Classical.choose (turn i h) else ⟨#[]⟩
  have hf : ∀ i (h : i < 7), OkS 1 (f i) ∧ ixO s (.str abc) (.int ((step + c / 1274 * (0 + (i : Int))) % 26)) = some (.str (f i)) := fun i h => by
    have := Classical.choose_spec (turn i h)
    show OkS 1 (if h : i < 7 then Classical.choose (turn i h) else ⟨#[]⟩) ∧ _ = some (D.str (if h : i < 7 then Classical.choose (turn i h) else ⟨#[]⟩))
    rw [dif_pos h]
    exact this
  have hlc : lcL (tdName 7) fYes (f2 ixO (fVar 2) (f2 modO (f2 addO (fVar 5) (f2 mulO (f2 fdivO (fVar 0) (fC (.int 1274))) (fVar 7))) (fC (.int 26)))) (rangeD 0 size.toNat, none) (wipeS sl [7]) (rangeD 0 size.toNat) s
      = some (.ok ((rangeD 0 size.toNat).map fun d => match d with | .int j => .str (f j.toNat) | _ => .non) s) := by
    refine lcL_map _ (ck_none _ _) _ fun x hx => ?_
    unfold rangeD at hx
    obtain ⟨i, hi, rfl⟩ := List.mem_map.mp hx
    have hi' : i < 7 := by
      have := List.mem_range.mp hi
      omega
    refine ⟨_, rfl, rfl, ?_⟩
    have e2 : ((wipeS sl [7]).set 7 (some (.int (0 + (i : Int)))))[2]? = some (some (.str abc)) := by
      simp [wipeS, h2]
    have e0 : ((wipeS sl [7]).set 7 (some (.int (0 + (i : Int)))))[0]? = some (some (.int c)) := by
      simp [wipeS, h0]
    have e5 : ((wipeS sl [7]).set 7 (some (.int (0 + (i : Int)))))[5]? = some (some (.int step)) := by
      simp [wipeS, h5]
    have e7 : ((wipeS sl [7]).set 7 (some (.int (0 + (i : Int)))))[7]? = some (some (.int (0 + (i : Int)))) := by
      rw [List.getElem?_set_self]
      simp [wipeS, hl]
    have hm : mulOk (c / 1274) (0 + (i : Int)) = true := mulOk_r (by omega) (by omega)
    simp only [f2, fVar, bindM, e2, e0, e5, e7, fC, retM, liftO, fdivO, mulO, addO, modO, hm, if_true]
    simp only [show (0 : Int) < 1274 ∧ (1274 : Int) < 1073741824 by decide, show (0 : Int) < 26 by decide, and_self, if_true, hm, (hf i hi').2]
    have : (0 + (i : Int)).toNat = i := by omega
    rw [this]
  have hys : (rangeD 0 size.toNat).map (fun d => match d with | .int j => D.str (f j.toNat) | _ => .non) = ((List.range size.toNat).map f).map D.str := by
    unfold rangeD
    rw [List.map_map, List.map_map]
    refine List.map_congr_left fun i _ => ?_
    show D.str (f (0 + (i : Int)).toNat) = D.str (f i)
    rw [show (0 + (i : Int)).toNat = i by omega]
  rw [hys] at hlc
  have ok1 : ∀ y ∈ (List.range size.toNat).map f, OkS 1 y := fun y hy => by
    obtain ⟨i, hi, rfl⟩ := List.mem_map.mp hy
    exact (hf i (by have := List.mem_range.mp hi; omega)).1
  have hlen : ((List.range size.toNat).map f).length = size.toNat := by simp
  refine ⟨Txt.join (PySem.Str.ofString "") ((List.range size.toNat).map f), (OkS.join0 _ ok1).mono (by rw [hlen]; omega), ?_⟩
  have hLc := fLc_of (T := tdName 7) (u := fYes) (f := (f2 ixO (fVar 2) (f2 modO (f2 addO (fVar 5) (f2 mulO (f2 fdivO (fVar 0) (fC (.int 1274))) (fVar 7))) (fC (.int 26))))) (vs := [7]) hr (ck_none _ _) hlc (by simp; omega)
  have hsm : small ((((List.range size.toNat).map f).map (·.length)).sum + ((List.range size.toNat).map f).length * (PySem.Str.ofString "").length) = true := by
    refine decide_eq_true ?_
    have h1 := sum_le _ 1 fun y hy => (ok1 y hy).len
    have h2 : (PySem.Str.ofString "").length = 0 := by decide +kernel
    rw [h2]
    rw [hlen] at h1 ⊢
    omega
  simp only [fJoin, bindM, fC, retM, liftO, isStr, hLc, joinO, seqOf, lsOf, Option.bind_some, mapStr, hsm, if_true]
end Pr

set_option Elab.async false
set_option linter.all false
set_option maxRecDepth 100000
set_option maxHeartbeats 4000000
namespace Pr
open PySem L2 PD
theorem labels_eq (c : Int) (s : Sto) : ∃ L : List Str, L.length = 4 ∧ (∀ l ∈ L, OkS 13 l) ∧ D_labels [.int c, .int 4] s = some (.ok (.lst (L.map D.str)) s) := by
  have p7 := Int.emod_nonneg c (show (7 : Int) ≠ 0 by decide)
  have q7 := Int.emod_lt_of_pos c (show (0 : Int) < 7 by decide)
  have h71 : 0 < c % 7 + 1 := by omega
  obtain ⟨b, hb, eb⟩ := base_eq c (c % 7) (c / 49 % 26) p7 q7 [some (.int c), some (.int 4), some (.str abc), some (.int (c % 7)), some (.int (c / 7 % (c % 7 + 1))), some (.int (c / 49 % 26)), none, none, none, none] s rfl rfl rfl rfl (by simp)
  have turn : ∀ (i : Int) (x7 x9 : Option D) (acc : List Str), ∃ y z, OkS 13 y ∧ (seqS (setS 9 (f2 ixO (fVar 2) (f2 modO (f2 addO (f2 fdivO (fVar 0) (fC (.int 49))) (f2 mulO (fC (.int 3)) (fVar 7))) (fC (.int 26)))))
      (exprS (fM1 appendM (fVar 8) (fCons (f2 addO (f2 addO (fSl (fVar 6) fNo (fSome (fVar 4))) (fVar 9)) (fSl (fVar 6) (fSome (fVar 4)) fNo)) fNil))))
      [some (.int c), some (.int 4), some (.str abc), some (.int (c % 7)), some (.int (c / 7 % (c % 7 + 1))), some (.int (c / 49 % 26)), some (.str b), some (.int i), some (.own s.length), x9] (s ++ [.lst (acc.map D.str)])
      = if acc.length < 1000 then some (.nx [some (.int c), some (.int 4), some (.str abc), some (.int (c % 7)), some (.int (c / 7 % (c % 7 + 1))), some (.int (c / 49 % 26)), some (.str b), some (.int i), some (.own s.length), some (.str z)] (s ++ [.lst ((acc ++ [y]).map D.str)]))
        else (seqS (setS 9 (f2 ixO (fVar 2) (f2 modO (f2 addO (f2 fdivO (fVar 0) (fC (.int 49))) (f2 mulO (fC (.int 3)) (fVar 7))) (fC (.int 26)))))
      (exprS (fM1 appendM (fVar 8) (fCons (f2 addO (f2 addO (fSl (fVar 6) fNo (fSome (fVar 4))) (fVar 9)) (fSl (fVar 6) (fSome (fVar 4)) fNo)) fNil))))
      [some (.int c), some (.int 4), some (.str abc), some (.int (c % 7)), some (.int (c / 7 % (c % 7 + 1))), some (.int (c / 49 % 26)), some (.str b), some (.int i), some (.own s.length), x9] (s ++ [.lst (acc.map D.str)]) := by
    intro i x7 x9 acc
    obtain ⟨z, hz, oz⟩ := abc_ix (s ++ [.lst (acc.map D.str)]) ((c / 49 + 3 * i) % 26) (Int.emod_nonneg _ (by decide)) (Int.emod_lt_of_pos _ (by decide))
    have o1 := hb.cut none (some (c / 7 % (c % 7 + 1)))
    have o2 := hb.cut (some (c / 7 % (c % 7 + 1))) none
    refine ⟨cutS b none (some (c / 7 % (c % 7 + 1))) ++ z ++ cutS b (some (c / 7 % (c % 7 + 1))) none, z, ((o1.app oz).app o2).mono (by decide), ?_⟩
    split
    · rename_i ha
      have s1 : small (b.length) = true := small_of (by have := hb.len; omega)
      have s2 : small ((cutS b none (some (c / 7 % (c % 7 + 1)))).length + z.length) = true := small_of (by have := o1.len; have := oz.len; omega)
      have s3 : small ((cutS b none (some (c / 7 % (c % 7 + 1))) ++ z).length + (cutS b (some (c / 7 % (c % 7 + 1))) none).length) = true := small_of (by have := (o1.app oz).len; have := o2.len; omega)
      have s4 : small ((acc.map D.str).length + 1) = true := small_of (by rw [List.length_map]; omega)
      have m : mulOk 3 i = true := mulOk_l (by decide) (by decide)
      simp only [seqS, setS, bindS, retS, retNS, exprS, ifS, asgS, setIxS, augS, augO, nextS, f1, f2, fN, bindM, liftO, retM, fVar, fC, fTup, fLst, fOwn, fCons, fNil, fB, fTru, fNot, fAnd, fOr, fAndV, fOrV, fIf, asB, truO, fCall, fM0, fM1, tdName, tdTup, tdCons, tdNil, fdivO, modO, addO, mulO, m, if_true, show (0 : Int) < 49 ∧ (49 : Int) < 1073741824 by decide, show (0 : Int) < 26 by decide, and_self, hz, List.getElem?_cons_zero, List.getElem?_cons_succ,
        List.set_cons_zero, List.set_cons_succ, fSl, fNo, fSome, asI, slO, s1, s2, s3, lsOf, app_at, Option.map_some, appendM, s4, app_set, List.map_append, List.map_cons, List.map_nil]
    · rfl
  have hloop := forL_inv (T := tdName 7) (a := (rangeD 0 4, none)) (g := (seqS (setS 9 (f2 ixO (fVar 2) (f2 modO (f2 addO (f2 fdivO (fVar 0) (fC (.int 49))) (f2 mulO (fC (.int 3)) (fVar 7))) (fC (.int 26)))))
      (exprS (fM1 appendM (fVar 8) (fCons (f2 addO (f2 addO (fSl (fVar 6) fNo (fSome (fVar 4))) (fVar 9)) (fSl (fVar 6) (fSome (fVar 4)) fNo)) fNil)))))
    (fun xs sl st => ∃ (x7 x9 : Option D) (acc : List Str), sl = [some (.int c), some (.int 4), some (.str abc), some (.int (c % 7)), some (.int (c / 7 % (c % 7 + 1))), some (.int (c / 49 % 26)), some (.str b), x7, some (.own s.length), x9] ∧
      st = s ++ [.lst (acc.map D.str)] ∧ acc.length + xs.length = 4 ∧ (∀ l ∈ acc, OkS 13 l) ∧ ∀ x ∈ xs, ∃ i, x = .int i) ?_ (rangeD 0 4) _ _ ⟨none, none, [], rfl, rfl, rfl, (fun _ h => nomatch h), fun x hx => by
        unfold rangeD at hx
        obtain ⟨i, _, rfl⟩ := List.mem_map.mp hx
        exact ⟨_, rfl⟩⟩
  · obtain ⟨sl', st', el, x7, x9, acc, rfl, rfl, hl, hok, _⟩ := hloop
    refine ⟨acc, by simpa using hl, hok, ?_⟩
    unfold D_labels
    refine fnD_rt (d := .own s.length) (s' := s ++ [.lst (acc.map D.str)]) ?_ (closeM_lst rfl (keeps_refl s) (Nat.le_refl _) (app_at _ _ _) (low_strs _ _))
    unfold g_labels
    show seqS _ _ [some (.int c), some (.int 4), none, none, none, none, none, none, none, none] s = _
    rw [seqS_nx (setS_ok rfl)]
    simp only [List.set_cons_zero, List.set_cons_succ]
    rw [seqS_nx (setS_ok (d := .int (c % 7)) (s' := s) (by simp [seqS, setS, bindS, retS, retNS, exprS, ifS, asgS, setIxS, augS, augO, nextS, f1, f2, fN, bindM, liftO, retM, fVar, fC, fTup, fLst, fOwn, fCons, fNil, fB, fTru, fNot, fAnd, fOr, fAndV, fOrV, fIf, asB, truO, fCall, fM0, fM1, tdName, tdTup, tdCons, tdNil, modO]))]
    simp only [List.set_cons_zero, List.set_cons_succ]
    rw [seqS_nx (setS_ok (d := .int (c / 7 % (c % 7 + 1))) (s' := s) (by simp [seqS, setS, bindS, retS, retNS, exprS, ifS, asgS, setIxS, augS, augO, nextS, f1, f2, fN, bindM, liftO, retM, fVar, fC, fTup, fLst, fOwn, fCons, fNil, fB, fTru, fNot, fAnd, fOr, fAndV, fOrV, fIf, asB, truO, fCall, fM0, fM1, tdName, tdTup, tdCons, tdNil, modO, fdivO, addO, h71]))]
    simp only [List.set_cons_zero, List.set_cons_succ]
    rw [seqS_nx (setS_ok (d := .int (c / 49 % 26)) (s' := s) (by simp [seqS, setS, bindS, retS, retNS, exprS, ifS, asgS, setIxS, augS, augO, nextS, f1, f2, fN, bindM, liftO, retM, fVar, fC, fTup, fLst, fOwn, fCons, fNil, fB, fTru, fNot, fAnd, fOr, fAndV, fOrV, fIf, asB, truO, fCall, fM0, fM1, tdName, tdTup, tdCons, tdNil, modO, fdivO]))]
    simp only [List.set_cons_zero, List.set_cons_succ]
    rw [seqS_nx (setS_ok eb)]
    simp only [List.set_cons_zero, List.set_cons_succ]
    rw [seqS_nx (setS_ok (d := .own s.length) (s' := s ++ [.lst []]) (by simp [seqS, setS, bindS, retS, retNS, exprS, ifS, asgS, setIxS, augS, augO, nextS, f1, f2, fN, bindM, liftO, retM, fVar, fC, fTup, fLst, fOwn, fCons, fNil, fB, fTru, fNot, fAnd, fOr, fAndV, fOrV, fIf, asB, truO, fCall, fM0, fM1, tdName, tdTup, tdCons, tdNil, small_of]))]
    simp only [List.set_cons_zero, List.set_cons_succ]
    have hi : (fRng1 (fVar 1)) [some (.int c), some (.int 4), some (.str abc), some (.int (c % 7)), some (.int (c / 7 % (c % 7 + 1))), some (.int (c / 49 % 26)), some (.str b), none, some (.own s.length), none] (s ++ [.lst []]) = some (.ok (rangeD 0 4, none) (s ++ [.lst []])) := by
      simp [fRng1, seqS, setS, bindS, retS, retNS, exprS, ifS, asgS, setIxS, augS, augO, nextS, f1, f2, fN, bindM, liftO, retM, fVar, fC, fTup, fLst, fOwn, fCons, fNil, fB, fTru, fNot, fAnd, fOr, fAndV, fOrV, fIf, asB, truO, fCall, fM0, fM1, tdName, tdTup, tdCons, tdNil, rngO]
    have hfor := (forS_of (T := tdName 7) (g := (seqS (setS 9 (f2 ixO (fVar 2) (f2 modO (f2 addO (f2 fdivO (fVar 0) (fC (.int 49))) (f2 mulO (fC (.int 3)) (fVar 7))) (fC (.int 26)))))
      (exprS (fM1 appendM (fVar 8) (fCons (f2 addO (f2 addO (fSl (fVar 6) fNo (fSome (fVar 4))) (fVar 9)) (fSl (fVar 6) (fSome (fVar 4)) fNo)) fNil))))) hi (ck_none _ _)).trans el
    rw [seqS_nx hfor]
    exact retS_ok rfl
  · rintro x xs sl st ⟨x7, x9, acc, rfl, rfl, hl, hok, hx⟩
    obtain ⟨i, rfl⟩ := hx x List.mem_cons_self
    obtain ⟨y, z, hy, e⟩ := turn i x7 x9 acc
    rw [if_pos (by simp at hl; omega)] at e
    refine ⟨_, _, _, rfl, e, ck_none _ _, some (.int i), some (.str z), acc ++ [y], rfl, rfl, by simp at hl ⊢; omega, fun l h => ?_, fun w hw => hx w (List.mem_cons_of_mem _ hw)⟩
    rcases List.mem_append.mp h with h | h
    · exact hok l h
    · rw [List.mem_singleton.mp h]; exact hy
end Pr

set_option Elab.async false
set_option linter.all false
set_option maxRecDepth 100000
set_option maxHeartbeats 8000000
namespace Pr
open PySem L2 PD
/-! ### drawn kinds -/
def restD : Option Int → D
  | none => .non
  | some i => .int i
inductive Kd : Nat → D → Prop
  | num (n : Nat) : Kd (n + 1) (.tup [.str (S "number")])
  | blank (n : Nat) (i : Int) : Kd (n + 1) (.tup [.str (S "blank"), .int i])
  | rcd (n : Nat) (fs : List (Str × D)) (r : Option Int) : (∀ f ∈ fs, OkS 13 f.1) → (∀ f ∈ fs, Kd n f.2) → fs.length ≤ 4 → Kd (n + 1) (.tup [.str (S "record"), .tup (fs.map fun f => .tup [.str f.1, f.2]), restD r])
theorem lab_ix (L : List Str) (hL : L.length = 4) (s : Sto) (i : Int) (h0 : 0 ≤ i) (h4 : i < 4) : ∃ l, l ∈ L ∧ ixO s (.lst (L.map D.str)) (.int i) = some (.str l) := by
  obtain ⟨j, rfl⟩ : ∃ j : Nat, i = (j : Int) := ⟨i.toNat, by omega⟩
  have hj : j < L.length := by omega
  refine ⟨L[j], List.getElem_mem hj, ?_⟩
  show (seqOf s (.lst (L.map D.str))).bind (fun xs => atI xs (j : Int)) = _
  exact atI_nat (by rw [List.getElem?_map, List.getElem?_eq_getElem hj]; rfl)
theorem inFlat_strs (s : Sto) (l : Str) (xs : List Str) : inFlat s (.str l) (.lst (xs.map D.str)) = some (inV (.str l) (xs.map V.str)) := by
  have h : (xs.map D.str).mapM scD = some (xs.map V.str) := by
    induction xs with
    | nil => rfl
    | cons x r ih => rw [List.map_cons, List.mapM_cons, ih]; rfl
  have hf : (xs.map V.str).all flatV = true := by
    rw [List.all_map]
    exact List.all_eq_true.mpr fun _ _ => rfl
  unfold inFlat
  simp only [scD, seqOf, lsOf, Option.bind_some, h, hf, flatV, Bool.and_self, if_true]
theorem cutL_map {α β : Type} (f : α → β) (xs : List α) (lo hi : Option Int) : cutL (xs.map f) lo hi = (cutL xs lo hi).map f := by
  unfold cutL
  rw [List.length_map, ← List.map_drop, ← List.map_take]
theorem mapM_str : ∀ L : List Str, (L.map D.str).mapM strD = some L
  | [] => rfl
  | x :: L => by rw [List.map_cons, List.mapM_cons, mapM_str L]; rfl
theorem sortS_perm (L : List Str) : (sortS L).Perm L := List.mergeSort_perm L leS
/-- the labels picked, in their order -/
theorem words_eq (L P : List Str) (hL : L.length = 4) (sl : Sl) (s : Sto) (h1 : sl[1]? = some (some (.lst (L.map D.str)))) (h5 : sl[5]? = some (some (.lst (P.map D.str)))) (h7 : 7 < sl.length) :
    ∃ W : List Str, W.length ≤ 4 ∧ (∀ w ∈ W, w ∈ L) ∧ (fLc (tdName 7) (fB (f2 (inO false) (fVar 7) (fVar 5))) (fVar 7) (fIt (fN sortedO (fCons (fVar 1) fNil))) [7]) sl s = some (.ok (.lst (W.map D.str)) s) := by
  have hlen : (sortS L).length = 4 := by rw [(sortS_perm L).length_eq, hL]
  refine ⟨(sortS L).filter fun w => inV (.str w) (P.map V.str), ?_, fun w hw => (sortS_perm L).mem_iff.mp (List.mem_filter.mp hw).1, ?_⟩
  · have := List.length_filter_le (fun w => inV (.str w) (P.map V.str)) (sortS L)
    omega
  · have hit : (fIt (fN sortedO (fCons (fVar 1) fNil))) sl s = some (.ok ((sortS L).map D.str, none) s) := by
      have hs : sortedO s [.lst (L.map D.str)] = some (.lst ((sortS L).map D.str)) := by
        unfold sortedO
        simp only [lsOf, Option.bind_some, mapM_str]
        rw [if_pos (by omega)]
      simp only [fIt, fN, fCons, fNil, fVar, bindM, retM, liftO, h1, hs, seqIt, itO]
    refine fLc_pure hit ?_ (by rw [List.length_map]; have := List.length_filter_le (fun w => inV (.str w) (P.map V.str)) (sortS L); omega)
    have h57 : ∀ x : D, ((wipeS sl [7]).set 7 (some x))[5]? = some (some (.lst (P.map D.str))) := fun x => by
      show ((sl.set 7 none).set 7 (some x))[5]? = _
      rw [List.getElem?_set_ne (by decide), List.getElem?_set_ne (by decide), h5]
    have h77 : ∀ x : D, ((wipeS sl [7]).set 7 (some x))[7]? = some (some x) := fun x => by
      show ((sl.set 7 none).set 7 (some x))[7]? = _
      rw [List.getElem?_set_self (by rw [List.length_set]; exact h7)]
    have := lcL_filter (T := tdName 7) (u := (fB (f2 (inO false) (fVar 7) (fVar 5)))) (f := fVar 7) (a := ((sortS L).map D.str, none)) (sl := wipeS sl [7]) (s := s)
      (fun d => match d with | .str w => inV (.str w) (P.map V.str) | _ => false) id (ck_none _ _) ((sortS L).map D.str) (fun x hx => by
        obtain ⟨w, _, rfl⟩ := List.mem_map.mp hx
        refine ⟨(wipeS sl [7]).set 7 (some (.str w)), rfl, fB_of (f2_of (x := .str w) (y := .lst (P.map D.str)) (s1 := s) ?_ ?_ ?_), fun _ => ?_⟩
        · simp only [fVar, h77]
        · simp only [fVar, h57]
        · unfold inO
          rw [inFlat_strs]
          rfl
        · simp only [fVar, h77]; rfl)
    rw [List.map_id, List.filter_map] at this
    exact this
/-! ### the label lists met -/
def encW (w : List Str) : D := .lst (w.map D.str)
def OkW (M : List (List Str)) : Prop := ∀ w ∈ M, ∀ x ∈ w, OkS 13 x
theorem pl_encW {w : List Str} (h : ∀ x ∈ w, OkS 13 x) : Pl 1 (encW w) := pl_lst (n := 0) fun d hd => by
  obtain ⟨x, hx, rfl⟩ := List.mem_map.mp hd
  exact pl_str 0 (h x hx)
theorem met_pl {s : Sto} {kx : Nat} {M : List (List Str)} (h : s[kx]? = some (.lst (M.map encW))) (ok : OkW M) : plainPy s (.own kx) = some (.list (pyAll (M.map encW))) := by
  have hp : peek s (.own kx) = .scr (M.map encW) := by
    show (match s[kx]? with | some (.lst xs) => D.scr xs | _ => .own kx) = _
    rw [h]
  have := plainPy_of (s := s) (d := .own kx) (by
    rw [hp]
    exact (pl_scr (n := 1) fun d hd => by
      obtain ⟨w, hw, rfl⟩ := List.mem_map.mp hd
      exact pl_encW (ok w hw)).mono (by decide))
  rw [hp] at this
  exact this
theorem w_pl (s : Sto) {w : List Str} (h : ∀ x ∈ w, OkS 13 x) : plainPy s (encW w) = some (py (encW w)) := plainPy_of (s := s) (d := encW w) ((pl_encW h).mono (by decide))
theorem firstEq_any {z : PyData} : ∀ {ds : List PyData}, (ds.any fun d => PyData.eqv d z) = true → ∃ j, firstEq z ds = some j
  | [], h => by cases h
  | d :: ds, h => by
    unfold firstEq
    by_cases e : PyData.eqv d z = true
    · exact ⟨0, by rw [if_pos e]⟩
    · rw [List.any_cons, Bool.eq_false_iff.mpr e, Bool.false_or] at h
      obtain ⟨j, hj⟩ := firstEq_any h
      exact ⟨j + 1, by rw [if_neg e, hj]; rfl⟩
theorem met_notin {s : Sto} {kx : Nat} {M : List (List Str)} (h : s[kx]? = some (.lst (M.map encW))) (ok : OkW M) {w : List Str} (hw : ∀ x ∈ w, OkS 13 x) :
    ∃ c : Bool, inO true s (encW w) (.own kx) = some (.bl c) ∧ (c = false → ∃ j, firstEq (py (encW w)) (pyAll (M.map encW)) = some j) := by
  have h1 : inFlat s (encW w) (.own kx) = none := rfl
  have hl : lsOf s (.own kx) = some (M.map encW) := by simp only [lsOf, h]
  have hall := pl_all (n := 1) (ds := M.map encW) (fun d hd => by
    obtain ⟨v, hv, rfl⟩ := List.mem_map.mp hd
    exact pl_encW (ok v hv))
  have hsh : (D.lowAll 0 (M.map encW) && SeqAt.shaped (.list (pyAll (M.map encW)))) = true := by
    have p2 : Pl 64 (.lst (M.map encW)) := (pl_lst (n := 1) fun d hd => by
      obtain ⟨v, hv, rfl⟩ := List.mem_map.mp hd
      exact pl_encW (ok v hv)).mono (by decide)
    rw [hall.1]
    exact p2.shaped
  have h2 : inDeep s (encW w) (.own kx) = some ((pyAll (M.map encW)).any fun z => PyData.eqv z (py (encW w))) := by
    unfold inDeep
    rw [w_pl s hw, hl]
    simp only [hsh, if_true]
  refine ⟨!((pyAll (M.map encW)).any fun z => PyData.eqv z (py (encW w))), ?_, fun e => firstEq_any (by simpa using e)⟩
  unfold inO
  rw [h1]
  simp only [h2]
  rfl
theorem met_index {s : Sto} {kx : Nat} {M : List (List Str)} (h : s[kx]? = some (.lst (M.map encW))) (ok : OkW M) {w : List Str} (hw : ∀ x ∈ w, OkS 13 x) {j : Nat} (hj : firstEq (py (encW w)) (pyAll (M.map encW)) = some j) :
    indexO s (.own kx) [encW w] = some (.int (j : Nat)) := by
  simp only [indexO, met_pl h ok, w_pl s hw, hj, Option.map_some]
theorem pyAll_append : ∀ xs ys : List D, pyAll (xs ++ ys) = pyAll xs ++ pyAll ys
  | [], ys => rfl
  | x :: xs, ys => by
    show py x :: pyAll (xs ++ ys) = py x :: (pyAll xs ++ pyAll ys)
    rw [pyAll_append xs ys]
theorem met_last (M : List (List Str)) {w : List Str} (hw : ∀ x ∈ w, OkS 13 x) : ∃ j, firstEq (py (encW w)) (pyAll ((M ++ [w]).map encW)) = some j := by
  refine firstEq_any ?_
  rw [List.map_append, pyAll_append, List.any_append]
  have : PyData.eqv (py (encW w)) (py (encW w)) = true := plain_eq (w_pl [] hw)
  show (_ || (PyData.eqv (py (encW w)) (py (encW w)) || false)) = true
  rw [this, Bool.true_or, Bool.or_true]
end Pr

set_option Elab.async false
set_option linter.all false
set_option maxRecDepth 100000
set_option maxHeartbeats 8000000
namespace Pr
open PySem L2 PD
abbrev stC (a b : Int) : Cell := .lst [.int a, .int b]
def upS (s : Sto) (k kx : Nat) (a b : Int) (M : List (List Str)) : Sto := (s.set k (stC a b)).set kx (.lst (M.map encW))
theorem set_comm' {s : Sto} {i j : Nat} (h : i ≠ j) (c d : Cell) : (s.set i c).set j d = (s.set j d).set i c := List.set_comm _ _ h
/-- where the state, the met and the lists met stand -/
structure Stands (s : Sto) (k km kx : Nat) (a b m0 : Int) (M : List (List Str)) : Prop where
  k1 : s[k]? = some (stC a b)
  k2 : s[km]? = some (.lst [.int m0, .own kx])
  k3 : s[kx]? = some (.lst (M.map encW))
  n1 : k ≠ kx
  n2 : k ≠ km
  n3 : km ≠ kx
theorem Stands.up {s : Sto} {k km kx : Nat} {a b m0 : Int} {M : List (List Str)} (h : Stands s k km kx a b m0 M) (a' b' : Int) (M' : List (List Str)) : Stands (upS s k kx a' b' M') k km kx a' b' m0 M' where
  k1 := by
    unfold upS
    rw [List.getElem?_set_ne (Ne.symm h.n1)]
    exact set_at h.k1 _
  k2 := by
    unfold upS
    rw [List.getElem?_set_ne (Ne.symm h.n3), List.getElem?_set_ne h.n2]
    exact h.k2
  k3 := by
    unfold upS
    rw [set_comm' h.n1]
    rw [List.getElem?_set_ne h.n1]
    exact set_at h.k3 _
  n1 := h.n1
  n2 := h.n2
  n3 := h.n3
theorem Stands.up_up {s : Sto} {k km kx : Nat} {a b m0 : Int} {M : List (List Str)} (h : Stands s k km kx a b m0 M) (a' b' : Int) (M' : List (List Str)) (a2 b2 : Int) (M2 : List (List Str)) : upS (upS s k kx a' b' M') k kx a2 b2 M2 = upS s k kx a2 b2 M2 := by
  unfold upS
  rw [set_comm' h.n1 (stC a' b'), List.set_set, set_comm' (Ne.symm h.n1), List.set_set]
theorem Stands.self {s : Sto} {k km kx : Nat} {a b m0 : Int} {M : List (List Str)} (h : Stands s k km kx a b m0 M) : upS s k kx a b M = s := by
  unfold upS
  rw [set_same h.k1, set_same h.k3]
theorem Stands.next {s : Sto} {k km kx : Nat} {a b m0 : Int} {M : List (List Str)} (h : Stands s k km kx a b m0 M) (a' b' : Int) : s.set k (stC a' b') = upS s k kx a' b' M := by
  unfold upS
  rw [set_comm' h.n1, set_same h.k3]
theorem upS_len {s : Sto} {k kx : Nat} {a b : Int} {M : List (List Str)} : (upS s k kx a b M).length = s.length := by
  unfold upS
  rw [List.length_set, List.length_set]
theorem low_encWs (n : Nat) (M : List (List Str)) : D.lowAll n (M.map encW) = true := by
  rw [lowAll_iff]
  intro d hd
  obtain ⟨w, _, rfl⟩ := List.mem_map.mp hd
  exact low_strs n w
theorem upS_keeps (s : Sto) (k kx : Nat) (a b : Int) (M : List (List Str)) : Keeps s (upS s k kx a b M) := by
  intro j c hj
  unfold upS at hj
  by_cases e : j = kx
  · subst e
    have hl : j < (s.set k (stC a b)).length := by
      have := (List.getElem?_eq_some_iff.mp hj).1
      rw [List.length_set] at this
      exact this
    rw [List.getElem?_set_self hl] at hj
    cases hj
    exact .inr (low_encWs _ _)
  · rw [List.getElem?_set_ne (Ne.symm e)] at hj
    exact keeps_set (s := s) (k := k) (c := stC a b) rfl j c hj
theorem fin_up (s : Sto) (k kx : Nat) (a b : Int) (M : List (List Str)) (d : D) (h : D.low 0 d = true) (hn : ∀ k, d ≠ .own k) : closeM false s d (upS s k kx a b M) = some (.ok d (upS s k kx a b M)) := by
  have := closeM_low (keep := false) (s := s) (t := upS s k kx a b M) (junk := []) (d := d) upS_len (upS_keeps s k kx a b M) (low_mono (Nat.zero_le _) _ h) hn
  rw [List.append_nil] at this
  exact this
theorem OkS.dt {n : Nat} {x : Str} (h : OkS n x) (hn : n ≤ 1000000) : Pr.dt (.str x) = true := decide_eq_true (Nat.le_trans h.len hn)
theorem word_dt (x : String) (h : (decide ((S x).length ≤ 1000000)) = true) : dt (.str (S x)) = true := h
theorem Kd.dt {n : Nat} {d : D} (h : Kd n d) : Pr.dt d = true := by
  induction h with
  | num n => exact dts_iff.mpr (by simp; exact word_dt _ (by decide +kernel))
  | blank n i => exact dts_iff.mpr (fun x hx => by
      simp only [List.mem_cons, List.not_mem_nil, or_false] at hx
      rcases hx with rfl | rfl
      · exact word_dt _ (by decide +kernel)
      · rfl)
  | rcd n fs r h1 h2 h3 ih => exact dts_iff.mpr (fun x hx => by
      simp only [List.mem_cons, List.not_mem_nil, or_false] at hx
      rcases hx with rfl | rfl | rfl
      · exact word_dt _ (by decide +kernel)
      · exact dts_iff.mpr (fun y hy => by
          obtain ⟨f, hf, rfl⟩ := List.mem_map.mp hy
          exact dts_iff.mpr (fun z hz => by
            simp only [List.mem_cons, List.not_mem_nil, or_false] at hz
            rcases hz with rfl | rfl
            · exact (h1 f hf).dt (by decide)
            · exact ih f hf))
      · cases r <;> rfl)
theorem Kd.tup {n : Nat} {d : D} (h : Kd n d) : ∃ xs, d = .tup xs := by cases h <;> exact ⟨_, rfl⟩
def KindSpec (F : List D → M D) (n : Nat) : Prop := ∀ (s : Sto) (k km kx : Nat) (a b m0 : Int) (M : List (List Str)) (left : Int) (L : List Str), Stands s k km kx a b m0 M → 0 ≤ m0 → m0 ≤ 2000000 → OkW M → M.length + b.toNat ≤ 1000 → left ≤ n → L.length = 4 → (∀ l ∈ L, OkS 13 l) →
  ∃ (d : D) (a' b' : Int) (M' : List (List Str)), Kd n d ∧ sz d + 21 * b'.toNat ≤ 3 + 21 * b.toNat ∧ M'.length + b'.toNat ≤ M.length + b.toNat ∧ OkW M' ∧ F [.own k, .lst (L.map D.str), .own km, .int left] s = some (.ok d (upS s k kx a' b' M'))
/-- the fields drawn -/
theorem fields_lc {G : List D → M D} {n : Nat} (hG : KindSpec G n) (s : Sto) (k km kx : Nat) (a b m0 : Int) (M : List (List Str)) (left : Int) (L W : List Str) (sl : Sl) (h : Stands s k km kx a b m0 M) (hm : 0 ≤ m0) (hm2 : m0 ≤ 2000000) (okM : OkW M) (hb : M.length + b.toNat ≤ 1000) (hleft : left - 1 ≤ n) (hL : L.length = 4) (hLs : ∀ l ∈ L, OkS 13 l)
    (hW : W.length ≤ 4) (hWs : ∀ w ∈ W, OkS 13 w) (h0 : sl[0]? = some (some (.own k))) (h1 : sl[1]? = some (some (.lst (L.map D.str)))) (h2 : sl[2]? = some (some (.own km))) (h3 : sl[3]? = some (some (.int left))) (h6 : sl[6]? = some (some (.lst (W.map D.str)))) (h7 : 7 < sl.length) :
    ∃ (fs : List (Str × D)) (a' b' : Int) (M' : List (List Str)), (∀ f ∈ fs, OkS 13 f.1) ∧ (∀ f ∈ fs, Kd n f.2) ∧ fs.length ≤ 4 ∧ szs (fs.map fun f => D.tup [.str f.1, f.2]) + 21 * b'.toNat ≤ 20 + 21 * b.toNat ∧ M'.length + b'.toNat ≤ M.length + b.toNat ∧ OkW M' ∧
      (fLc (tdName 7) fYes (fTup (fCons (fVar 7) (fCons (fCall 4 G (fCons (fVar 0) (fCons (fVar 1) (fCons (fVar 2) (fCons (f2 subO (fVar 3) (fC (.int 1))) fNil))))) fNil))) (fIt (fVar 6)) [7]) sl s = some (.ok (.lst (fs.map fun f => D.tup [.str f.1, f.2])) (upS s k kx a' b' M')) := by
  have hit : (fIt (fVar 6)) sl s = some (.ok (W.map D.str, none) s) := by
    simp only [fIt, fVar, bindM, liftO, h6, seqIt, itO]
  have wv : ∀ (i : Nat) (x : D), i ≠ 7 → ((wipeS sl [7]).set 7 (some x))[i]? = sl[i]? := fun i x hi => by
    show ((sl.set 7 none).set 7 (some x))[i]? = _
    rw [List.getElem?_set_ne (Ne.symm hi), List.getElem?_set_ne (Ne.symm hi)]
  have h77 : ∀ x : D, ((wipeS sl [7]).set 7 (some x))[7]? = some (some x) := fun x => by
    show ((sl.set 7 none).set 7 (some x))[7]? = _
    rw [List.getElem?_set_self (by rw [List.length_set]; exact h7)]
  have go : ∀ (R : List Str) (a1 b1 : Int) (M1 : List (List Str)), (∀ w ∈ R, OkS 13 w) → OkW M1 → M1.length + b1.toNat ≤ 1000 →
      ∃ (fs : List (Str × D)) (a' b' : Int) (M' : List (List Str)), (∀ f ∈ fs, OkS 13 f.1) ∧ (∀ f ∈ fs, Kd n f.2) ∧ fs.length = R.length ∧ szs (fs.map fun f => D.tup [.str f.1, f.2]) + 21 * b'.toNat ≤ 5 * R.length + 21 * b1.toNat ∧ M'.length + b'.toNat ≤ M1.length + b1.toNat ∧ OkW M' ∧
        lcL (tdName 7) fYes (fTup (fCons (fVar 7) (fCons (fCall 4 G (fCons (fVar 0) (fCons (fVar 1) (fCons (fVar 2) (fCons (f2 subO (fVar 3) (fC (.int 1))) fNil))))) fNil))) (W.map D.str, none) (wipeS sl [7]) (R.map D.str) (upS s k kx a1 b1 M1) = some (.ok (fs.map fun f => D.tup [.str f.1, f.2]) (upS s k kx a' b' M')) := by
    intro R
    induction R with
    | nil =>
      intro a1 b1 M1 _ ok1 _
      exact ⟨[], a1, b1, M1, fun _ z => (by cases z), fun _ z => (by cases z), rfl, by simp [szs], Nat.le_refl _, ok1, rfl⟩
    | cons w R ih =>
      intro a1 b1 M1 hR ok1 hb1
      have hs1 := h.up a1 b1 M1
      obtain ⟨d, a2, b2, M2, kd, q1, q2, q3, e⟩ := hG (upS s k kx a1 b1 M1) k km kx a1 b1 m0 M1 (left - 1) L hs1 hm hm2 ok1 hb1 hleft hL hLs
      rw [h.up_up] at e
      obtain ⟨fs, a3, b3, M3, p1, p2, p3, p4, p5, p6, e2⟩ := ih a2 b2 M2 (fun x hx => hR x (List.mem_cons_of_mem _ hx)) q3 (by omega)
      have hsmall : small ([D.str w, d] : List D).length = true := small_of (by simp)
      have hcall : (fTup (fCons (fVar 7) (fCons (fCall 4 G (fCons (fVar 0) (fCons (fVar 1) (fCons (fVar 2) (fCons (f2 subO (fVar 3) (fC (.int 1))) fNil))))) fNil))) ((wipeS sl [7]).set 7 (some (.str w))) (upS s k kx a1 b1 M1) = some (.ok (.tup [.str w, d]) (upS s k kx a2 b2 M2)) := by
        have hin : fCall 4 G (fCons (fVar 0) (fCons (fVar 1) (fCons (fVar 2) (fCons (f2 subO (fVar 3) (fC (.int 1))) fNil)))) ((wipeS sl [7]).set 7 (some (.str w))) (upS s k kx a1 b1 M1) = some (.ok d (upS s k kx a2 b2 M2)) := by
          refine fCall_eq (ds := [.own k, .lst (L.map D.str), .own km, .int (left - 1)]) (s1 := upS s k kx a1 b1 M1) ?_ rfl e
          simp only [fCons, fNil, f2, fC, fVar, bindM, retM, liftO, wv 0 _ (by decide), wv 1 _ (by decide), wv 2 _ (by decide), wv 3 _ (by decide), h0, h1, h2, h3, subO]
        simp only [fTup, fCons, fNil, bindM, retM, hin, liftO, fVar, h77, hsmall, if_true]
      refine ⟨(w, d) :: fs, a3, b3, M3, ?_, ?_, ?_, ?_, by omega, p6, ?_⟩
      · intro f hf
        rcases List.mem_cons.mp hf with rfl | hf
        · exact hR w List.mem_cons_self
        · exact p1 f hf
      · intro f hf
        rcases List.mem_cons.mp hf with rfl | hf
        · exact kd
        · exact p2 f hf
      · rw [List.length_cons, List.length_cons, p3]
      · rw [List.map_cons, List.length_cons]
        simp only [szs, sz]
        omega
      · show lcL _ _ _ _ _ (D.str w :: R.map D.str) _ = _
        unfold lcL
        show bindM (noex (fYes _)) _ _ = _
        have hcall' : (fTup (fCons (fVar 7) (fCons (fCall 4 G (fCons (fVar 0) (fCons (fVar 1) (fCons (fVar 2) (fCons (f2 subO (fVar 3) (fC (.int 1))) fNil))))) fNil))) (List.set (wipeS sl [7]) 7 (some (.str w))) (upS s k kx a1 b1 M1) = some (.ok (.tup [.str w, d]) (upS s k kx a2 b2 M2)) := hcall
        simp only [bindM, noex, fYes, retM, if_true, ckM, hcall', if_pos (ck_none _ _), e2]
        rfl
  obtain ⟨fs, a', b', M', p1, p2, p3, p4, p5, p6, e⟩ := go W a b M hWs okM hb
  rw [h.self] at e
  exact ⟨fs, a', b', M', p1, p2, by omega, by omega, p5, p6, fLc_of hit (ck_none _ _) e (by rw [List.length_map]; omega)⟩
end Pr

set_option Elab.async false
set_option linter.all false
set_option maxRecDepth 100000
set_option maxHeartbeats 8000000
namespace Pr
open PySem L2 PD
theorem fOr_b {u v : Sl → M Bool} {sl : Sl} {s : Sto} {x y : Bool} (h1 : u sl s = some (.ok x s)) (h2 : v sl s = some (.ok y s)) : fOr u v sl s = some (.ok (x || y) s) := by
  cases x
  · exact fOr_f h1 h2
  · exact fOr_t h1
theorem own_ix {s : Sto} {k : Nat} {xs : List D} (h : s[k]? = some (.lst xs)) (i : Nat) {d : D} (hd : xs[i]? = some d) : ixO s (.own k) (.int (i : Nat)) = some d := by
  show (seqOf s (.own k)).bind (fun xs => atI xs ((i : Nat) : Int)) = _
  have : seqOf s (.own k) = some xs := by simp only [seqOf, lsOf, h]
  rw [this]
  exact atI_nat hd
theorem mul_lt {i j : Int} (h1 : 0 ≤ i) (h2 : i ≤ 10000000) : mulOk i j = true := by
  unfold mulOk
  rw [Bool.or_eq_true, Bool.and_eq_true]
  exact .inl ⟨decide_eq_true (by omega), decide_eq_true (by omega)⟩
theorem pick_eq (L : List Str) (hL : L.length = 4) (N : Int) (sl : Sl) (s : Sto) (h1 : sl[1]? = some (some (.lst (L.map D.str)))) (h4 : sl[4]? = some (some (.int N))) :
    ∃ P : List Str, (fSl (fLst (fCons (f2 ixO (fVar 1) (f2 modO (f2 fdivO (fVar 4) (fC (.int 7))) (fC (.int 4)))) (fCons (f2 ixO (fVar 1) (f2 modO (f2 fdivO (fVar 4) (fC (.int 28))) (fC (.int 4)))) (fCons (f2 ixO (fVar 1) (f2 modO (f2 fdivO (fVar 4) (fC (.int 112))) (fC (.int 4)))) fNil)))) fNo (fSome (f2 modO (f2 fdivO (fVar 4) (fC (.int 448))) (fC (.int 4))))) sl s = some (.ok (.lst (P.map D.str)) s) := by
  have dm : ∀ q : Int, (0 < q ∧ q < 1073741824) → (f2 modO (f2 fdivO (fVar 4) (fC (.int q))) (fC (.int 4))) sl s = some (.ok (.int (N / q % 4)) s) := fun q hq => by
    simp [f2, fVar, fC, bindM, retM, liftO, h4, modO, fdivO, hq.1, hq.2]
  have ix : ∀ q : Int, (0 < q ∧ q < 1073741824) → ∃ l, (f2 ixO (fVar 1) (f2 modO (f2 fdivO (fVar 4) (fC (.int q))) (fC (.int 4)))) sl s = some (.ok (.str l) s) := fun q hq => by
    obtain ⟨l, _, e⟩ := lab_ix L hL s (N / q % 4) (Int.emod_nonneg _ (by decide)) (Int.emod_lt_of_pos _ (by decide))
    exact ⟨l, f2_of (x := .lst (L.map D.str)) (s1 := s) (by simp only [fVar, h1]) (dm q hq) e⟩
  obtain ⟨l1, e1⟩ := ix 7 (by decide)
  obtain ⟨l2, e2⟩ := ix 28 (by decide)
  obtain ⟨l3, e3⟩ := ix 112 (by decide)
  have h3 : small ([D.str l1, D.str l2, D.str l3] : List D).length = true := small_of (by simp)
  have hl : (fLst (fCons (f2 ixO (fVar 1) (f2 modO (f2 fdivO (fVar 4) (fC (.int 7))) (fC (.int 4)))) (fCons (f2 ixO (fVar 1) (f2 modO (f2 fdivO (fVar 4) (fC (.int 28))) (fC (.int 4)))) (fCons (f2 ixO (fVar 1) (f2 modO (f2 fdivO (fVar 4) (fC (.int 112))) (fC (.int 4)))) fNil)))) sl s = some (.ok (.lst ([l1, l2, l3].map D.str)) s) := by
    simp only [fLst, fCons, fNil, bindM, retM, liftO, e1, e2, e3, h3, if_true]
    rfl
  refine ⟨cutL [l1, l2, l3] none (some (N / 448 % 4)), ?_⟩
  have hd := dm 448 (by decide)
  have hs : slO s (.lst ([l1, l2, l3].map D.str)) none (some (N / 448 % 4)) = some (.lst ((cutL [l1, l2, l3] none (some (N / 448 % 4))).map D.str)) := by
    rw [← cutL_map]
    rfl
  simp only [fSl, bindM, hl, fNo, retM, fSome, hd, liftO, asI, hs]
/-- the number of a rest -/
theorem rest_eq {s : Sto} {k km kx : Nat} {a b m0 : Int} {M : List (List Str)} (h : Stands s k km kx a b m0 M) (hm : 0 ≤ m0) (hm2 : m0 ≤ 2000000) (okM : OkW M) {W : List Str} (hW : ∀ w ∈ W, OkS 13 w) {j : Nat} (hj : firstEq (py (encW W)) (pyAll (M.map encW)) = some j)
    (sl : Sl) (h2 : sl[2]? = some (some (.own km))) (h6 : sl[6]? = some (some (.lst (W.map D.str)))) :
    (f2 mulO (f2 ixO (fVar 2) (fC (.int 0))) (f2 addO (fC (.int 1)) (f2 mulO (fC (.int 2)) (fMP isLs indexO (f2 ixO (fVar 2) (fC (.int 1))) (fCons (fVar 6) fNil))))) sl s = some (.ok (.int (m0 * (1 + 2 * (j : Nat)))) s) := by
  have e0 : (f2 ixO (fVar 2) (fC (.int 0))) sl s = some (.ok (.int m0) s) := f2_of (x := .own km) (y := .int 0) (s1 := s) (by simp only [fVar, h2]) rfl (own_ix h.k2 0 rfl)
  have e1 : (f2 ixO (fVar 2) (fC (.int 1))) sl s = some (.ok (.own kx) s) := f2_of (x := .own km) (y := .int 1) (s1 := s) (by simp only [fVar, h2]) rfl (own_ix h.k2 1 rfl)
  have hl : isLs s (.own kx) = true := by
    unfold isLs
    simp only [lsOf, h.k3]
    rfl
  have hi : (fMP isLs indexO (f2 ixO (fVar 2) (fC (.int 1))) (fCons (fVar 6) fNil)) sl s = some (.ok (.int (j : Nat)) s) := by
    have := met_index h.k3 okM hW hj
    have h6' : fVar 6 sl s = some (.ok (encW W) s) := by simp only [fVar, h6]; rfl
    simp only [fMP, bindM, e1, liftO, hl, if_true, fCons, h6', fNil, retM, this]
  have m2 : mulOk 2 (j : Nat) = true := mul_lt (by decide) (by decide)
  have m3 : mulOk m0 (1 + 2 * (j : Nat)) = true := mul_lt hm (by omega)
  refine f2_of e0 (f2_of (x := .int 1) (y := .int (2 * (j : Nat))) (s1 := s) rfl (f2_of (x := .int 2) (y := .int (j : Nat)) (s1 := s) rfl hi ?_) rfl) ?_
  · show (if mulOk 2 (j : Nat) = true then some (D.int (2 * (j : Nat))) else none) = _
    rw [if_pos m2]
  · show (if mulOk m0 (1 + 2 * (j : Nat)) = true then some (D.int (m0 * (1 + 2 * (j : Nat)))) else none) = _
    rw [if_pos m3]
end Pr

set_option Elab.async false
set_option linter.all false
set_option maxRecDepth 100000
set_option maxHeartbeats 8000000
namespace Pr
open PySem L2 PD
theorem kind_step {G : List D → M D} {n : Nat} (hG : 1 ≤ n → KindSpec G n) : KindSpec (fnD false 9 (g_kind G)) (n + 1) := by
  intro s k km kx a b m0 M left L h hm hm2 okM hb hleft hL hLs
  have hnext : D_next [.own k] s = some (.ok (.int ((a * 48271 + 11) % 2147483647 / 7)) (upS s k kx ((a * 48271 + 11) % 2147483647) (b - 1) M)) := (next_eq s k a b h.k1).trans (by rw [← h.next])
  have hN := next_nn a
  generalize (a * 48271 + 11) % 2147483647 / 7 = N at hnext hN
  generalize (a * 48271 + 11) % 2147483647 = a1 at hnext
  have hs1 := h.up a1 (b - 1) M
  let s1 : Sto := upS s k kx a1 (b - 1) M
  have start : ∀ (g : SD) r, g [some (.own k), some (.lst (L.map D.str)), some (.own km), some (.int left), some (.int N), none, none, none, none] s1 = r →
      (seqS (setS 4 (fCall 1 D_next (fCons (fVar 0) fNil))) g) [some (.own k), some (.lst (L.map D.str)), some (.own km), some (.int left), none, none, none, none, none] s = r := fun g r e => (seqS_nx (setS_ok (fCall_eq (ds := [.own k]) (s1 := s) rfl rfl hnext))).trans e
  have done : ∀ (d : D) (a' b' : Int) (M' : List (List Str)), Kd (n + 1) d → (g_kind G) [some (.own k), some (.lst (L.map D.str)), some (.own km), some (.int left), none, none, none, none, none] s = some (.rt d (upS s k kx a' b' M')) →
      fnD false 9 (g_kind G) [.own k, .lst (L.map D.str), .own km, .int left] s = some (.ok d (upS s k kx a' b' M')) := fun d a' b' M' kd e =>
    fnD_rt e (fin_up s k kx a' b' M' d (dt_low d kd.dt) (no_own kd.dt))
  let sl4 : Sl := [some (.own k), some (.lst (L.map D.str)), some (.own km), some (.int left), some (.int N), none, none, none, none]
  have t1 : (fB (f2 leO (fVar 3) (fC (.int 1)))) sl4 s1 = some (.ok (decide (left ≤ 1)) s1) := fB_of (f2_of (x := .int left) (y := .int 1) (s1 := s1) rfl rfl rfl)
  have t2 : (fB (f2 leO (f2 ixO (fVar 0) (fC (.int 1))) (fC (.int 0)))) sl4 s1 = some (.ok (decide (b - 1 ≤ 0)) s1) :=
    fB_of (f2_of (x := .int (b - 1)) (y := .int 0) (s1 := s1) (f2_of (x := .own k) (y := .int 1) (s1 := s1) rfl rfl (own_ix hs1.k1 1 rfl)) rfl rfl)
  have e7 : (f2 modO (fVar 4) (fC (.int 7))) sl4 s1 = some (.ok (.int (N % 7)) s1) := f2_of (x := .int N) (y := .int 7) (s1 := s1) rfl rfl (by simp [modO])
  have t3 : (fB (f2 ltO (f2 modO (fVar 4) (fC (.int 7))) (fC (.int 2)))) sl4 s1 = some (.ok (decide (N % 7 < 2)) s1) := fB_of (f2_of (x := .int (N % 7)) (y := .int 2) (s1 := s1) e7 rfl rfl)
  have t123 := fOr_b t1 (fOr_b t2 t3)
  cases hc : (decide (left ≤ 1) || (decide (b - 1 ≤ 0) || decide (N % 7 < 2))) with
  | true =>
    rw [hc] at t123
    refine ⟨.tup [.str (S "number")], a1, b - 1, M, .num n, by simp only [sz, szs]; omega, by omega, okM, done _ _ _ _ (.num n) ?_⟩
    unfold g_kind
    refine start _ _ (seqS_rt ((ifS_t t123).trans (retS_ok ?_)))
    have h1 : small ([D.str (S "number")] : List D).length = true := small_of (by simp)
    simp only [fTup, fCons, fNil, fC, bindM, retM, liftO, h1, if_true]
    rfl
  | false =>
    rw [hc] at t123
    simp only [Bool.or_eq_false_iff, decide_eq_false_iff_not] at hc
    obtain ⟨c1, c2, c3⟩ := hc
    have hn1 : 1 ≤ n := by omega
    have hbt : (b - 1).toNat + 1 = b.toNat := by omega
    have t4 : (fB (f2 (eqO false) (f2 modO (fVar 4) (fC (.int 7))) (fC (.int 2)))) sl4 s1 = some (.ok (decide (N % 7 = 2)) s1) := fB_of (f2_of (x := .int (N % 7)) (y := .int 2) (s1 := s1) e7 rfl (eqO_int _ _ _ _))
    by_cases d1 : N % 7 = 2
    · rw [decide_eq_true d1] at t4
      refine ⟨.tup [.str (S "blank"), .int (m0 * 2 * (N / 7 % 3))], a1, b - 1, M, .blank n _, by simp only [sz, szs]; omega, by omega, okM, done _ _ _ _ (.blank n _) ?_⟩
      unfold g_kind
      refine start _ _ ((skip_if t123).trans (seqS_rt ((ifS_t t4).trans (retS_ok ?_))))
      have h2 : small ([D.str (S "blank"), D.int (m0 * 2 * (N / 7 % 3))] : List D).length = true := small_of (by simp)
      have e0 : (f2 ixO (fVar 2) (fC (.int 0))) sl4 s1 = some (.ok (.int m0) s1) := f2_of (x := .own km) (y := .int 0) (s1 := s1) rfl rfl (own_ix hs1.k2 0 rfl)
      have e1 : (f2 mulO (f2 ixO (fVar 2) (fC (.int 0))) (fC (.int 2))) sl4 s1 = some (.ok (.int (m0 * 2)) s1) := f2_of e0 rfl (by
        show (if mulOk m0 2 = true then some (D.int (m0 * 2)) else none) = _
        rw [if_pos (mul_lt hm (by omega))])
      have e2 : (f2 modO (f2 fdivO (fVar 4) (fC (.int 7))) (fC (.int 3))) sl4 s1 = some (.ok (.int (N / 7 % 3)) s1) := f2_of (x := .int (N / 7)) (y := .int 3) (s1 := s1) (f2_of (x := .int N) (y := .int 7) (s1 := s1) rfl rfl (by simp [fdivO])) rfl (by simp [modO])
      have e3 : (f2 mulO (f2 mulO (f2 ixO (fVar 2) (fC (.int 0))) (fC (.int 2))) (f2 modO (f2 fdivO (fVar 4) (fC (.int 7))) (fC (.int 3)))) sl4 s1 = some (.ok (.int (m0 * 2 * (N / 7 % 3))) s1) := f2_of e1 e2 (by
        show (if mulOk (m0 * 2) (N / 7 % 3) = true then some (D.int (m0 * 2 * (N / 7 % 3))) else none) = _
        rw [if_pos (mul_lt (by omega) (by omega))])
      show (fTup (fCons (fC (.str (PySem.Str.ofString "blank"))) (fCons (f2 mulO (f2 mulO (f2 ixO (fVar 2) (fC (.int 0))) (fC (.int 2))) (f2 modO (f2 fdivO (fVar 4) (fC (.int 7))) (fC (.int 3)))) fNil))) sl4 s1 = _
      have hw : fC (.str (PySem.Str.ofString "blank")) sl4 s1 = some (.ok (.str (S "blank")) s1) := rfl
      show bindM (fCons _ _ sl4) _ _ = _
      simp only [fCons, bindM, hw, e3, fNil, retM, liftO]
      simp only [h2, if_true]
      rfl
    · rw [decide_eq_false d1] at t4
      obtain ⟨P, ep⟩ := pick_eq L hL N sl4 s1 rfl rfl
      let sl5 : Sl := [some (.own k), some (.lst (L.map D.str)), some (.own km), some (.int left), some (.int N), some (.lst (P.map D.str)), none, none, none]
      obtain ⟨W, hW4, hWL, ew⟩ := words_eq L P hL sl5 s1 rfl rfl (by simp [sl5])
      have hWs : ∀ w ∈ W, OkS 13 w := fun w hw => hLs w (hWL w hw)
      let sl6 : Sl := [some (.own k), some (.lst (L.map D.str)), some (.own km), some (.int left), some (.int N), some (.lst (P.map D.str)), some (.lst (W.map D.str)), none, none]
      obtain ⟨fs, a', b', M', p1, p2, p3, p4, p5, p6, ef⟩ := fields_lc (hG hn1) s1 k km kx a1 (b - 1) m0 M left L W sl6 hs1 hm hm2 okM (by omega) (by omega) hL hLs hW4 hWs rfl rfl rfl rfl rfl (by simp [sl6])
      rw [h.up_up] at ef
      let s2 : Sto := upS s k kx a' b' M'
      have hs2 := h.up a' b' M'
      let sl8 : Sl := [some (.own k), some (.lst (L.map D.str)), some (.own km), some (.int left), some (.int N), some (.lst (P.map D.str)), some (.lst (W.map D.str)), none, some (.tup (fs.map fun f => D.tup [.str f.1, f.2]))]
      have e8 : (fN tupleO (fCons (fLc (tdName 7) fYes (fTup (fCons (fVar 7) (fCons (fCall 4 G (fCons (fVar 0) (fCons (fVar 1) (fCons (fVar 2) (fCons (f2 subO (fVar 3) (fC (.int 1))) fNil))))) fNil))) (fIt (fVar 6)) [7]) fNil)) sl6 s1 = some (.ok (.tup (fs.map fun f => D.tup [.str f.1, f.2])) s2) := by
        show bindM (fCons _ _ sl6) _ s1 = _
        simp only [fCons, bindM, ef, fNil, retM, liftO, tupleO, lsOf, Option.map_some]
        rfl
      have t5 : (fB (f2 (eqO false) (f2 modO (f2 fdivO (fVar 4) (fC (.int 1792))) (fC (.int 2))) (fC (.int 0)))) sl8 s2 = some (.ok (decide (N / 1792 % 2 = 0)) s2) :=
        fB_of (f2_of (x := .int (N / 1792 % 2)) (y := .int 0) (s1 := s2) (f2_of (x := .int (N / 1792)) (y := .int 2) (s1 := s2) (f2_of (x := .int N) (y := .int 1792) (s1 := s2) rfl rfl (by simp [fdivO])) rfl (by simp [modO])) rfl (eqO_int _ _ _ _))
      have s5 := setS_ok (i := 5) ep
      have s5' : _ = some (RS.nx sl5 s1) := s5
      have s6 := setS_ok (i := 6) ew
      have s6' : _ = some (RS.nx sl6 s1) := s6
      have s8 := setS_ok (i := 8) e8
      have s8' : _ = some (RS.nx sl8 s2) := s8
      have upto : ∀ (g1 g2 g : SD) r, g sl8 s2 = r → _ = r := fun g1 g2 g r e => start _ _ ((skip_if (g := g1) t123).trans ((skip_if (g := g2) t4).trans ((seqS_nx s5').trans ((seqS_nx s6').trans ((seqS_nx s8').trans e)))))
      have szr : ∀ r : Option Int, sz (.tup [.str (S "record"), .tup (fs.map fun f => D.tup [.str f.1, f.2]), restD r]) = szs (fs.map fun f => D.tup [.str f.1, f.2]) + 4 := fun r => by
        cases r <;> (simp only [sz, szs, restD]; omega)
      by_cases d2 : N / 1792 % 2 = 0
      · rw [decide_eq_true d2] at t5
        refine ⟨_, a', b', M', .rcd n fs none p1 p2 p3, ?_, by omega, p6, done _ _ _ _ (.rcd n fs none p1 p2 p3) ?_⟩
        · rw [szr]; omega
        unfold g_kind
        refine upto _ _ _ _ (seqS_rt ((ifS_t t5).trans (retS_ok ?_)))
        have h3 : small ([D.str (S "record"), .tup (fs.map fun f => D.tup [.str f.1, f.2]), .non] : List D).length = true := small_of (by simp)
        show (fTup (fCons (fC (.str (PySem.Str.ofString "record"))) (fCons (fVar 8) (fCons (fC .non) fNil)))) sl8 s2 = _
        have hv8 : fVar 8 sl8 s2 = some (.ok (.tup (fs.map fun f => D.tup [.str f.1, f.2])) s2) := rfl
        simp only [fTup, fCons, fNil, fC, bindM, retM, liftO, hv8, h3, if_true]
        rfl
      · rw [decide_eq_false d2] at t5
        have e1 : (f2 ixO (fVar 2) (fC (.int 1))) sl8 s2 = some (.ok (.own kx) s2) := f2_of (x := .own km) (y := .int 1) (s1 := s2) rfl rfl (own_ix hs2.k2 1 rfl)
        obtain ⟨c, ec, hj⟩ := met_notin hs2.k3 p6 hWs
        have t6 : (fB (f2 (inO true) (fVar 6) (f2 ixO (fVar 2) (fC (.int 1))))) sl8 s2 = some (.ok c s2) := fB_of (f2_of (x := encW W) (y := .own kx) (s1 := s2) rfl e1 ec)
        have fin : ∀ (M2 : List (List Str)) (j : Nat), OkW M2 → firstEq (py (encW W)) (pyAll (M2.map encW)) = some j →
            (retS (fTup (fCons (fC (.str (PySem.Str.ofString "record"))) (fCons (fVar 8) (fCons (f2 mulO (f2 ixO (fVar 2) (fC (.int 0))) (f2 addO (fC (.int 1)) (f2 mulO (fC (.int 2)) (fMP isLs indexO (f2 ixO (fVar 2) (fC (.int 1))) (fCons (fVar 6) fNil))))) fNil))))) sl8 (upS s k kx a' b' M2)
              = some (.rt (.tup [.str (S "record"), .tup (fs.map fun f => D.tup [.str f.1, f.2]), restD (some (m0 * (1 + 2 * (j : Nat))))]) (upS s k kx a' b' M2)) := fun M2 j ok2 hj2 => by
          have hr := rest_eq (h.up a' b' M2) hm hm2 ok2 hWs hj2 sl8 rfl rfl
          have h3 : small ([D.str (S "record"), .tup (fs.map fun f => D.tup [.str f.1, f.2]), .int (m0 * (1 + 2 * (j : Nat)))] : List D).length = true := small_of (by simp)
          have hv8 : fVar 8 sl8 (upS s k kx a' b' M2) = some (.ok (.tup (fs.map fun f => D.tup [.str f.1, f.2])) (upS s k kx a' b' M2)) := rfl
          have hw : fC (.str (PySem.Str.ofString "record")) sl8 (upS s k kx a' b' M2) = some (.ok (.str (S "record")) (upS s k kx a' b' M2)) := rfl
          refine retS_ok ?_
          show bindM (fCons _ _ sl8) _ _ = _
          simp only [fCons, bindM, hw, hv8, hr, fNil, retM, liftO]
          simp only [h3, if_true]
          rfl
        cases c with
        | false =>
          obtain ⟨j, hj⟩ := hj rfl
          refine ⟨_, a', b', M', .rcd n fs (some (m0 * (1 + 2 * (j : Nat)))) p1 p2 p3, ?_, by omega, p6, done _ _ _ _ (.rcd n fs _ p1 p2 p3) ?_⟩
          · rw [szr]; omega
          unfold g_kind
          exact upto _ _ _ _ ((skip_if t5).trans ((skip_if t6).trans (fin M' j p6 hj)))
        | true =>
          obtain ⟨j, hj⟩ := met_last M' hWs
          have ok2 : OkW (M' ++ [W]) := fun w hw => by
            rcases List.mem_append.mp hw with q | q
            · exact p6 w q
            · rw [List.mem_singleton.mp q]; exact hWs
          refine ⟨_, a', b', M' ++ [W], .rcd n fs (some (m0 * (1 + 2 * (j : Nat)))) p1 p2 p3, ?_, by rw [List.length_append]; simp only [List.length_singleton]; omega, ok2, done _ _ _ _ (.rcd n fs _ p1 p2 p3) ?_⟩
          · rw [szr]; omega
          unfold g_kind
          have happ : (ifS (fB (f2 (inO true) (fVar 6) (f2 ixO (fVar 2) (fC (.int 1))))) (exprS (fM1 appendM (f2 ixO (fVar 2) (fC (.int 1))) (fCons (fVar 6) fNil))) nextS) sl8 s2 = some (.nx sl8 (upS s k kx a' b' (M' ++ [W]))) := by
            refine (ifS_t t6).trans (exprS_ok (d := .non) ?_)
            have hsm : small ((M'.map encW).length + 1) = true := small_of (by rw [List.length_map]; omega)
            have hv6 : fVar 6 sl8 s2 = some (.ok (encW W) s2) := rfl
            have hset : s2.set kx (.lst (M'.map encW ++ [encW W])) = upS s k kx a' b' (M' ++ [W]) := by
              show (upS s k kx a' b' M').set kx _ = _
              unfold upS
              rw [List.set_set, List.map_append]
              rfl
            have hk3 : s2[kx]? = some (.lst (M'.map encW)) := hs2.k3
            simp only [fM1, bindM, e1, liftO, lsOf, hk3, Option.map_some, fCons, hv6, fNil, retM, appendM, hsm, if_true, hset]
          exact upto _ _ _ _ ((skip_if t5).trans ((seqS_nx happ).trans (fin (M' ++ [W]) j ok2 hj)))
theorem kind_all : ∀ n, KindSpec (R_kind (n + 1)) (n + 1)
  | 0 => kind_step (fun h => absurd h (by decide))
  | n + 1 => kind_step (fun _ => kind_all n)
theorem kind_eq : KindSpec D_kind 14 := kind_all 13
end Pr

set_option Elab.async false
set_option linter.all false
set_option maxRecDepth 100000
set_option maxHeartbeats 8000000
namespace Pr
open PySem L2 PD
def MergedSpec (G : List D → M D) (n : Nat) : Prop := ∀ (q : Int), 0 < q → ∀ d, Kd n d → ∀ s, ∃ d', Kd n d' ∧ sz d' = sz d ∧ G [d, .int q] s = some (.ok d' s)
theorem merged_lc {G : List D → M D} {n : Nat} (hG : MergedSpec G n) (q : Int) (hq : 0 < q) (d0 : D) (x2 : Option D) (src : List D) (s : Sto) : ∀ fs : List (Str × D), (∀ f ∈ fs, OkS 13 f.1) → (∀ f ∈ fs, Kd n f.2) →
    ∃ gs : List (Str × D), (∀ f ∈ gs, OkS 13 f.1) ∧ (∀ f ∈ gs, Kd n f.2) ∧ gs.length = fs.length ∧ szs (gs.map fun f => D.tup [.str f.1, f.2]) = szs (fs.map fun f => D.tup [.str f.1, f.2]) ∧
      lcL (tdTup (tdCons (tdName 3) (tdCons (tdName 4) tdNil))) fYes (fTup (fCons (fVar 3) (fCons (fCall 2 G (fCons (fVar 4) (fCons (fVar 1) fNil))) fNil))) (src, none) [some d0, some (.int q), x2, none, none] (fs.map fun f => D.tup [.str f.1, f.2]) s
        = some (.ok (gs.map fun f => D.tup [.str f.1, f.2]) s)
  | [], _, _ => ⟨[], fun _ z => (by cases z), fun _ z => (by cases z), rfl, rfl, rfl⟩
  | f :: fs, h1, h2 => by
    obtain ⟨gs, p1, p2, p3, p4, e⟩ := merged_lc hG q hq d0 x2 src s fs (fun x hx => h1 x (List.mem_cons_of_mem _ hx)) (fun x hx => h2 x (List.mem_cons_of_mem _ hx))
    obtain ⟨d', k1, k2, k3⟩ := hG q hq f.2 (h2 f List.mem_cons_self) s
    refine ⟨(f.1, d') :: gs, ?_, ?_, by rw [List.length_cons, List.length_cons, p3], ?_, ?_⟩
    · intro x hx
      rcases List.mem_cons.mp hx with rfl | hx
      · exact h1 f List.mem_cons_self
      · exact p1 x hx
    · intro x hx
      rcases List.mem_cons.mp hx with rfl | hx
      · exact k1
      · exact p2 x hx
    · rw [List.map_cons, List.map_cons]
      simp only [szs, sz, k2, p4]
    · have hs2 : small ([D.str f.1, d'] : List D).length = true := small_of (by simp)
      have hc : fCall 2 G (fCons (fVar 4) (fCons (fVar 1) fNil)) [some d0, some (.int q), x2, some (.str f.1), some f.2] s = some (.ok d' s) := fCall_eq (ds := [f.2, .int q]) (s1 := s) rfl rfl k3
      have hv : fVar 3 [some d0, some (.int q), x2, some (.str f.1), some f.2] s = some (.ok (.str f.1) s) := rfl
      have he : (fTup (fCons (fVar 3) (fCons (fCall 2 G (fCons (fVar 4) (fCons (fVar 1) fNil))) fNil))) [some d0, some (.int q), x2, some (.str f.1), some f.2] s = some (.ok (.tup [.str f.1, d']) s) := by
        show bindM (fCons _ _ _) _ s = _
        simp only [fCons, bindM, hv, hc, fNil, retM, liftO, hs2, if_true]
      rw [List.map_cons, List.map_cons]
      show lcL _ _ _ _ _ (D.tup [.str f.1, f.2] :: _) s = _
      unfold lcL
      show bindM (noex (fYes _)) _ s = _
      have he' : (fTup (fCons (fVar 3) (fCons (fCall 2 G (fCons (fVar 4) (fCons (fVar 1) fNil))) fNil))) (([some d0, some (.int q), x2, none, none].set 3 (some (.str f.1))).set 4 (some f.2)) s = some (.ok (.tup [.str f.1, d']) s) := he
      simp only [bindM, noex, fYes, retM, if_true, ckM, if_pos (ck_none _ _), e]
      rw [he']
      simp only [e]
theorem merged_step {G : List D → M D} {n : Nat} (hG : MergedSpec G n) : MergedSpec (fnD false 5 (g_merged G)) (n + 1) := by
  intro q hq d hd s
  have fin : ∀ d' : D, Kd (n + 1) d' → (g_merged G) [some d, some (.int q), none, none, none] s = some (.rt d' s) → fnD false 5 (g_merged G) [d, .int q] s = some (.ok d' s) := fun d' kd e => fnD_rt e (fin_same s d' (low_mono (Nat.zero_le _) _ (dt_low d' kd.dt)) (no_own kd.dt))
  have df : ∀ {a b : Str}, (a = b) = False → decide (a = b) = false := fun h => decide_eq_false (of_eq_false h)
  cases hd with
  | num n =>
    refine ⟨_, .num n, rfl, fin _ (.num n) ?_⟩
    unfold g_merged
    have w1 := word_is (neg := false) (f := f2 ixO (fVar 0) (fC (.int 0))) (sl := [some (.tup [.str (S "number")]), some (.int q), none, none, none]) (s := s) (s1 := s) (w := S "number") (S "blank") (ix0 rfl)
    rw [df ne_number_blank] at w1
    have w2 := word_is (neg := false) (f := f2 ixO (fVar 0) (fC (.int 0))) (sl := [some (.tup [.str (S "number")]), some (.int q), none, none, none]) (s := s) (s1 := s) (w := S "number") (S "number") (ix0 rfl)
    rw [decide_eq_true rfl] at w2
    exact (skip_if w1).trans (seqS_rt ((ifS_t w2).trans (retS_ok rfl)))
  | blank n i =>
    refine ⟨_, .blank n (i % q), rfl, fin _ (.blank n (i % q)) ?_⟩
    unfold g_merged
    have w1 := word_is (neg := false) (f := f2 ixO (fVar 0) (fC (.int 0))) (sl := [some (.tup [.str (S "blank"), .int i]), some (.int q), none, none, none]) (s := s) (s1 := s) (w := S "blank") (S "blank") (ix0 rfl)
    rw [decide_eq_true rfl] at w1
    refine seqS_rt ((ifS_t w1).trans (retS_ok ?_))
    have hs2 : small ([D.str (S "blank"), .int (i % q)] : List D).length = true := small_of (by simp)
    have hw : fC (.str (PySem.Str.ofString "blank")) [some (.tup [.str (S "blank"), .int i]), some (.int q), none, none, none] s = some (.ok (.str (S "blank")) s) := rfl
    have hm : (f2 modO (f2 ixO (fVar 0) (fC (.int 1))) (fVar 1)) [some (.tup [.str (S "blank"), .int i]), some (.int q), none, none, none] s = some (.ok (.int (i % q)) s) := f2_of (x := .int i) (y := .int q) (s1 := s) (ix1 rfl) rfl (by
      show (if 0 < q then some (D.int (i % q)) else none) = _
      rw [if_pos hq])
    show bindM (fCons _ _ _) _ s = _
    simp only [fCons, bindM, hw, hm, fNil, retM, liftO, hs2, if_true]
  | rcd n fs r h1 h2 h3 =>
    let r' : Option Int := r.map fun i => i % q
    let d0 : D := .tup [.str (S "record"), .tup (fs.map fun f => D.tup [.str f.1, f.2]), restD r]
    obtain ⟨gs, p1, p2, p3, p4, e⟩ := merged_lc hG q hq d0 (some (restD r')) (fs.map fun f => D.tup [.str f.1, f.2]) s fs h1 h2
    refine ⟨_, .rcd n gs r' p1 p2 (by omega), ?_, fin _ (.rcd n gs r' p1 p2 (by omega)) ?_⟩
    · cases r <;> simp only [sz, szs, p4, r', restD, Option.map_none, Option.map_some]
    unfold g_merged
    have w1 := word_is (neg := false) (f := f2 ixO (fVar 0) (fC (.int 0))) (sl := [some d0, some (.int q), none, none, none]) (s := s) (s1 := s) (w := S "record") (S "blank") (ix0 rfl)
    rw [df ne_record_blank] at w1
    have w2 := word_is (neg := false) (f := f2 ixO (fVar 0) (fC (.int 0))) (sl := [some d0, some (.int q), none, none, none]) (s := s) (s1 := s) (w := S "record") (S "number") (ix0 rfl)
    rw [df ne_record_number] at w2
    refine (skip_if w1).trans ((skip_if w2).trans ?_)
    have s3 := setS_ok (i := 2) (f := f2 ixO (fVar 0) (fC (.int 2))) (sl := [some d0, some (.int q), none, none, none]) (s := s) (s' := s) (d := restD r) (ix2 rfl)
    have s3' : setS 2 (f2 ixO (fVar 0) (fC (.int 2))) [some d0, some (.int q), none, none, none] s = some (RS.nx [some d0, some (.int q), some (restD r), none, none] s) := s3
    have s4 : (ifS (fB (f2 (isNO true) (fVar 2) (fC .non))) (setS 2 (f2 modO (fVar 2) (fVar 1))) nextS) [some d0, some (.int q), some (restD r), none, none] s = some (RS.nx [some d0, some (.int q), some (restD r'), none, none] s) := by
      cases r with
      | none => rfl
      | some i =>
        have hm : (f2 modO (fVar 2) (fVar 1)) [some d0, some (.int q), some (.int i), none, none] s = some (.ok (.int (i % q)) s) := f2_of (x := .int i) (y := .int q) (s1 := s) rfl rfl (by
          show (if 0 < q then some (D.int (i % q)) else none) = _
          rw [if_pos hq])
        have hu : (fB (f2 (isNO true) (fVar 2) (fC .non))) [some d0, some (.int q), some (.int i), none, none] s = some (.ok true s) := rfl
        exact (ifS_t hu).trans (setS_ok hm)
    refine (seqS_nx s3').trans ((seqS_nx s4).trans (retS_ok ?_))
    have hit : (fIt (f2 ixO (fVar 0) (fC (.int 1)))) [some d0, some (.int q), some (restD r'), none, none] s = some (.ok (fs.map fun f => D.tup [.str f.1, f.2], none) s) := by
      have h1 : (f2 ixO (fVar 0) (fC (.int 1))) [some d0, some (.int q), some (restD r'), none, none] s = some (.ok (.tup (fs.map fun f => D.tup [.str f.1, f.2])) s) := ix1 rfl
      show bindM _ _ s = _
      unfold bindM
      rw [h1]
      rfl
    have hlc := fLc_pure (vs := [3, 4]) hit (show lcL _ _ _ (fs.map fun f => D.tup [.str f.1, f.2], none) (wipeS [some d0, some (.int q), some (restD r'), none, none] [3, 4]) _ s = _ from e) (by rw [List.length_map]; omega)
    have hs3 : small ([D.str (S "record"), .tup (gs.map fun f => D.tup [.str f.1, f.2]), restD r'] : List D).length = true := small_of (by simp)
    have hw : fC (.str (PySem.Str.ofString "record")) [some d0, some (.int q), some (restD r'), none, none] s = some (.ok (.str (S "record")) s) := rfl
    have hv2 : fVar 2 [some d0, some (.int q), some (restD r'), none, none] s = some (.ok (restD r') s) := rfl
    show bindM (fCons _ _ _) _ s = _
    simp only [fCons, bindM, hw, fN, hlc, fNil, retM, liftO, tupleO, lsOf, Option.map_some, hv2]
    simp only [hs3, if_true]
theorem merged_all : ∀ n, MergedSpec (R_merged n) n
  | 0 => fun q hq d hd => by cases hd
  | n + 1 => merged_step (merged_all n)
theorem merged_eq : MergedSpec D_merged 14 := merged_all 14
end Pr

set_option Elab.async false
set_option linter.all false
set_option maxRecDepth 100000
set_option maxHeartbeats 8000000
namespace Pr
open PySem L2 PD
abbrev numK : D := .tup [.str (S "number")]
def okO (d : D) : Bool := dt d && decide (sz d ≤ 60)
def OddRest (N : Int) (s : Sto) (n : Nat) (g : SD) : Prop := ∀ X : List D, X ≠ [] → X.length ≤ n → X.all okO = true → ∃ d, okO d = true ∧ g [some (.int N), some numK, some (.lst X)] s = some (.rt d s)
theorem odd_step {N : Int} {s : Sto} {n : Nat} {h : Sl → M (List D)} {g : SD} {Y : List D} (e : ∀ x2, h [some (.int N), some numK, x2] s = some (.ok Y s)) (hy : (decide (Y.length ≤ 20) && Y.all okO) = true) (hn : n ≤ 900) (r : OddRest N s (n + 20) g) :
    OddRest N s n (seqS (setS 2 (f2 addO (fVar 2) (fLst h))) g) := by
  intro X hX hl hok
  obtain ⟨y1, y2⟩ := Bool.and_eq_true_iff.mp hy
  have y1 := of_decide_eq_true y1
  obtain ⟨d, hd, hg⟩ := r (X ++ Y) (by simp [hX]) (by rw [List.length_append]; omega) (by rw [List.all_append, hok, y2]; rfl)
  refine ⟨d, hd, (seqS_nx (setS_ok (d := .lst (X ++ Y)) (s' := s) (f2_of (x := .lst X) (y := .lst Y) (s1 := s) rfl ?_ ?_))).trans hg⟩
  · have hs : small Y.length = true := small_of (by omega)
    simp only [fLst, bindM, e, liftO, hs, if_true]
  · have hs : small (X.length + Y.length) = true := small_of (by omega)
    show (if small (X.length + Y.length) = true then some (D.lst (X ++ Y)) else none) = _
    rw [if_pos hs]
theorem odd_end (N : Int) (s : Sto) (n : Nat) : OddRest N s n (retS (f2 ixO (fVar 2) (f2 modO (fVar 0) (fN lenO (fCons (fVar 2) fNil))))) := by
  intro X hX hl hok
  have hpos : 0 < X.length := List.length_pos_iff.mpr hX
  have hpos' : (0 : Int) < X.length := by omega
  have h0 := Int.emod_nonneg N (show (X.length : Int) ≠ 0 by omega)
  have h1 := Int.emod_lt_of_pos N hpos'
  obtain ⟨j, hj⟩ : ∃ j : Nat, N % X.length = (j : Int) := ⟨(N % X.length).toNat, by omega⟩
  have hjl : j < X.length := by omega
  refine ⟨X[j], List.all_eq_true.mp hok _ (List.getElem_mem hjl), retS_ok (f2_of (x := .lst X) (y := .int (N % X.length)) (s1 := s) rfl (f2_of (x := .int N) (y := .int X.length) (s1 := s) rfl rfl ?_) ?_)⟩
  · show (if (0 : Int) < X.length then some (D.int (N % X.length)) else none) = _
    rw [if_pos hpos']
  · rw [hj]
    show (seqOf s (.lst X)).bind (fun xs => atI xs (j : Int)) = _
    exact atI_nat (List.getElem?_eq_getElem hjl)
theorem odd_eq (N : Int) (s : Sto) : ∃ d, okO d = true ∧ D_odd [.int N, numK] s = some (.ok d s) := by
  have main : ∃ d, okO d = true ∧ g_odd [some (.int N), some numK, none] s = some (.rt d s) := by
    have first : ∀ {h : Sl → M (List D)} {g : SD} {Y : List D}, h [some (.int N), some numK, none] s = some (.ok Y s) → (decide (Y.length ≤ 20) && Y.all okO) = true → Y.isEmpty = false → OddRest N s 20 g → ∃ d, okO d = true ∧ seqS (setS 2 (fLst h)) g [some (.int N), some numK, none] s = some (.rt d s) := by
      intro h g Y e hy hne r
      obtain ⟨y1, y2⟩ := Bool.and_eq_true_iff.mp hy
      have y1 := of_decide_eq_true y1
      obtain ⟨d, hd, hg⟩ := r Y (by intro q; subst q; cases hne) y1 y2
      refine ⟨d, hd, (seqS_nx (setS_ok (d := .lst Y) (s' := s) ?_)).trans hg⟩
      have hs : small Y.length = true := small_of (by omega)
      simp only [fLst, bindM, e, liftO, hs, if_true]
    unfold g_odd
    refine first rfl (by decide +kernel) (by decide +kernel) ?_
    repeat (first | exact odd_end _ _ _ | refine odd_step (fun _ => rfl) (by decide +kernel) (by decide) ?_)
  obtain ⟨d, hd, e⟩ := main
  have hd' := (Bool.and_eq_true_iff.mp hd).1
  exact ⟨d, hd, fnD_rt e (fin_same s d (low_mono (Nat.zero_le _) _ (dt_low d hd')) (no_own hd'))⟩
end Pr

set_option Elab.async false
set_option linter.all false
set_option maxRecDepth 100000
set_option maxHeartbeats 8000000
namespace Pr
open PySem L2 PD
theorem Kd.pl {n : Nat} {d : D} (h : Kd n d) : Pl (3 * n) d := by
  have w : ∀ (x : String) (m : Nat), (decide ((S x).length ≤ 13) && (S x).cps.toList.all (· < 1114112)) = true → Pl m (.str (S x)) := fun x m h => by
    obtain ⟨h1, h2⟩ := Bool.and_eq_true_iff.mp h
    exact pl_str m (k := 13) ⟨of_decide_eq_true h1, fun c hc => of_decide_eq_true (List.all_eq_true.mp h2 c hc)⟩
  induction h with
  | num n => exact (pl_tup (n := 3 * n + 2) fun x hx => by
      simp only [List.mem_cons, List.not_mem_nil, or_false] at hx
      subst hx
      exact w _ _ (by decide +kernel)).mono (by omega)
  | blank n i => exact (pl_tup (n := 3 * n + 2) fun x hx => by
      simp only [List.mem_cons, List.not_mem_nil, or_false] at hx
      rcases hx with rfl | rfl
      · exact w _ _ (by decide +kernel)
      · exact pl_int _ _).mono (by omega)
  | rcd n fs r h1 h2 h3 ih => exact (pl_tup (n := 3 * n + 2) fun x hx => by
      simp only [List.mem_cons, List.not_mem_nil, or_false] at hx
      rcases hx with rfl | rfl | rfl
      · exact w _ _ (by decide +kernel)
      · exact pl_tup (n := 3 * n + 1) fun y hy => by
          obtain ⟨f, hf, rfl⟩ := List.mem_map.mp hy
          exact pl_tup (n := 3 * n) fun z hz => by
            simp only [List.mem_cons, List.not_mem_nil, or_false] at hz
            rcases hz with rfl | rfl
            · exact pl_str _ (h1 f hf)
            · exact ih f hf
      · cases r with
        | none => exact ⟨rfl, rfl, by show PyData.depth .none ≤ _; simp [PyData.depth]⟩
        | some i => exact pl_int _ _).mono (by omega)
theorem tup_nil (s : Sto) (xs : List D) (h : Pl 64 (.tup xs)) : eqO false s (.tup xs) (.tup []) = some (.bl xs.isEmpty) := by
  have h1 : plainPy s (.tup xs) = some (py (.tup xs)) := plainPy_of (s := s) (d := .tup xs) h
  have h2 : plainPy s (.tup []) = some (py (.tup [])) := plainPy_of (s := s) (d := .tup []) ((pl_tup (n := 0) fun _ z => by cases z).mono (by decide))
  refine (eqO_deep (.inl rfl) h1 h2).trans ?_
  cases xs <;> rfl
theorem cut_take {α : Type} (xs : List α) (j : Nat) (h : j ≤ xs.length) : cutL xs none (some (j : Int)) = xs.take j := by
  unfold cutL
  rw [HT.sIx_none, show HT.sIx xs.length xs.length (some (j : Int)) = min j xs.length from HT.sIx_nat xs.length xs.length j]
  rw [Nat.min_eq_left h]
  simp
theorem cut_drop {α : Type} (xs : List α) (j : Nat) (h : j ≤ xs.length) : cutL xs (some (j : Int)) none = xs.drop j := by
  unfold cutL
  rw [HT.sIx_none, show HT.sIx xs.length 0 (some (j : Int)) = min j xs.length from HT.sIx_nat xs.length 0 j]
  rw [Nat.min_eq_left h]
  rw [List.take_of_length_le (by rw [List.length_drop]; exact Nat.le_refl _)]
theorem szs_append : ∀ xs ys : List D, szs (xs ++ ys) = szs xs + szs ys
  | [], ys => by simp [szs]
  | x :: xs, ys => by
    show sz x + szs (xs ++ ys) = sz x + szs xs + szs ys
    rw [szs_append xs ys]
    omega
def ChangedSpec (G : List D → M D) (n : Nat) : Prop := ∀ d, Kd n d → ∀ (p : Int) (o : D), dt o = true → ∀ s, ∃ d', dt d' = true ∧ sz d' ≤ sz d + sz o ∧ G [d, .int p, o] s = some (.ok d' s)
theorem changed_step {G : List D → M D} {n : Nat} (hn : n ≤ 20) (hG : ChangedSpec G n) : ChangedSpec (fnD false 5 (g_changed G)) (n + 1) := by
  intro d hd p o ho s
  have fin : ∀ d' : D, dt d' = true → (g_changed G) [some d, some (.int p), some o, none, none] s = some (.rt d' s) → fnD false 5 (g_changed G) [d, .int p, o] s = some (.ok d' s) := fun d' kd e => fnD_rt e (fin_same s d' (low_mono (Nat.zero_le _) _ (dt_low d' kd)) (no_own kd))
  have odd : (fOr (fB (f2 (eqO true) (f2 ixO (fVar 0) (fC (.int 0))) (fC (.str (PySem.Str.ofString "record"))))) (fOr (fB (f2 (eqO false) (f2 ixO (fVar 0) (fC (.int 1))) (fTup fNil))) (fB (f2 (eqO false) (f2 modO (fVar 1) (fC (.int 4))) (fC (.int 0)))))) [some d, some (.int p), some o, none, none] s = some (.ok true s) →
      ∃ d', dt d' = true ∧ sz d' ≤ sz d + sz o ∧ fnD false 5 (g_changed G) [d, .int p, o] s = some (.ok d' s) := fun h => by
    refine ⟨o, ho, Nat.le_add_left _ _, fin o ho ?_⟩
    unfold g_changed
    exact seqS_rt ((ifS_t h).trans (retS_ok rfl))
  have df : ∀ {a b : Str}, (a = b) = False → decide (a = b) = false := fun h => decide_eq_false (of_eq_false h)
  cases hd with
  | num n =>
    have w1 := word_is (neg := true) (f := f2 ixO (fVar 0) (fC (.int 0))) (sl := [some (.tup [.str (S "number")]), some (.int p), some o, none, none]) (s := s) (s1 := s) (w := S "number") (S "record") (ix0 rfl)
    rw [df ne_number_record] at w1
    exact odd (fOr_t w1)
  | blank n i =>
    have w1 := word_is (neg := true) (f := f2 ixO (fVar 0) (fC (.int 0))) (sl := [some (.tup [.str (S "blank"), .int i]), some (.int p), some o, none, none]) (s := s) (s1 := s) (w := S "blank") (S "record") (ix0 rfl)
    rw [df ne_blank_record] at w1
    exact odd (fOr_t w1)
  | rcd n fs r h1 h2 h3 =>
    have hkd := Kd.rcd n fs r h1 h2 h3
    let xs : List D := fs.map fun f => D.tup [.str f.1, f.2]
    let d0 : D := .tup [.str (S "record"), .tup xs, restD r]
    have hdt : dt d0 = true := hkd.dt
    have hparts := dts_iff.mp (show dts [D.str (S "record"), .tup xs, restD r] = true from hdt)
    have hxsdt : ∀ x ∈ xs, dt x = true := dts_iff.mp (hparts (.tup xs) (by simp))
    have hxl : xs.length = fs.length := List.length_map _
    have hpl : Pl 64 (.tup xs) := by
      have hp : Pl (3 * n + 2) (.tup xs) := (pl_tup (n := 3 * n + 1) fun y hy => by
        obtain ⟨f, hf, rfl⟩ := List.mem_map.mp hy
        exact pl_tup (n := 3 * n) fun z hz => by
          simp only [List.mem_cons, List.not_mem_nil, or_false] at hz
          rcases hz with rfl | rfl
          · exact pl_str _ (h1 f hf)
          · exact (h2 f hf).pl)
      exact hp.mono (by omega)
    let sl0 : Sl := [some d0, some (.int p), some o, none, none]
    have w1 := word_is (neg := true) (f := f2 ixO (fVar 0) (fC (.int 0))) (sl := sl0) (s := s) (s1 := s) (w := S "record") (S "record") (ix0 rfl)
    rw [decide_eq_true rfl] at w1
    have hnil : (fB (f2 (eqO false) (f2 ixO (fVar 0) (fC (.int 1))) (fTup fNil))) sl0 s = some (.ok xs.isEmpty s) := by
      refine fB_of (f2_of (x := .tup xs) (y := .tup []) (s1 := s) (ix1 rfl) ?_ (tup_nil s xs hpl))
      have h0 : small ([] : List D).length = true := small_of (by simp)
      simp only [fTup, fNil, bindM, retM, liftO, h0, if_true]
    have hp4 : (fB (f2 (eqO false) (f2 modO (fVar 1) (fC (.int 4))) (fC (.int 0)))) sl0 s = some (.ok (decide (p % 4 = 0)) s) := fB_of (f2_of (x := .int (p % 4)) (y := .int 0) (s1 := s) (f2_of (x := .int p) (y := .int 4) (s1 := s) rfl rfl (by simp [modO])) rfl (eqO_int _ _ _ _))
    have htest := fOr_f w1 (fOr_b hnil hp4)
    cases hc : (xs.isEmpty || decide (p % 4 = 0)) with
    | true =>
      rw [hc] at htest
      exact odd htest
    | false =>
      rw [hc] at htest
      obtain ⟨c1, c2⟩ := Bool.or_eq_false_iff.mp hc
      have hpos : 0 < xs.length := by
        cases hxs : xs with
        | nil => rw [hxs] at c1; cases c1
        | cons _ _ => simp
      have hpos' : (0 : Int) < xs.length := by omega
      have q0 := Int.emod_nonneg (p / 4) (show (xs.length : Int) ≠ 0 by omega)
      have q1 := Int.emod_lt_of_pos (p / 4) hpos'
      obtain ⟨j, hj⟩ : ∃ j : Nat, p / 4 % xs.length = (j : Int) := ⟨(p / 4 % xs.length).toNat, by omega⟩
      have hjl : j < xs.length := by omega
      have hjf : j < fs.length := by omega
      have hxj : xs[j] = D.tup [.str fs[j].1, fs[j].2] := List.getElem_map _
      have e1 : ∀ x3 x4, (f2 ixO (fVar 0) (fC (.int 1))) [some d0, some (.int p), some o, x3, x4] s = some (.ok (.tup xs) s) := fun x3 x4 => ix1 rfl
      have s3 : setS 3 (f2 modO (f2 fdivO (fVar 1) (fC (.int 4))) (fN lenO (fCons (f2 ixO (fVar 0) (fC (.int 1))) fNil))) sl0 s = some (RS.nx [some d0, some (.int p), some o, some (.int (j : Nat)), none] s) := by
        refine setS_ok (d := .int (j : Nat)) (f2_of (x := .int (p / 4)) (y := .int xs.length) (s1 := s) (f2_of (x := .int p) (y := .int 4) (s1 := s) rfl rfl (by simp [fdivO])) ?_ ?_)
        · have : (f2 ixO (fVar 0) (fC (.int 1))) sl0 s = some (.ok (.tup xs) s) := e1 none none
          show bindM (fCons _ _ _) _ s = _
          simp only [fCons, bindM, this, fNil, retM, liftO, lenO, seqOf, Option.map_some]
        · show (if (0 : Int) < xs.length then some (D.int (p / 4 % xs.length)) else none) = _
          rw [if_pos hpos', hj]
      have e2 : (f2 ixO (f2 ixO (fVar 0) (fC (.int 1))) (fVar 3)) [some d0, some (.int p), some o, some (.int (j : Nat)), none] s = some (.ok (.tup [.str fs[j].1, fs[j].2]) s) := f2_of (y := .int (j : Nat)) (s1 := s) (e1 _ _) rfl (by
        show (seqOf s (.tup xs)).bind (fun xs => atI xs (j : Int)) = _
        exact atI_nat (by rw [List.getElem?_eq_getElem hjl, hxj]))
      obtain ⟨d', k1, k2, k3⟩ := hG fs[j].2 (h2 _ (List.getElem_mem hjf)) (p / 16) o ho s
      have ecall : fCall 3 G (fCons (f2 ixO (f2 ixO (f2 ixO (fVar 0) (fC (.int 1))) (fVar 3)) (fC (.int 1))) (fCons (f2 fdivO (fVar 1) (fC (.int 16))) (fCons (fVar 2) fNil))) [some d0, some (.int p), some o, some (.int (j : Nat)), none] s = some (.ok d' s) := by
        have a1 := ix1 e2
        have a2 : (f2 fdivO (fVar 1) (fC (.int 16))) [some d0, some (.int p), some o, some (.int (j : Nat)), none] s = some (.ok (.int (p / 16)) s) := f2_of (x := .int p) (y := .int 16) (s1 := s) rfl rfl (by simp [fdivO])
        refine fCall_eq (ds := [fs[j].2, .int (p / 16), o]) (s1 := s) ?_ rfl k3
        have a3 : fVar 2 [some d0, some (.int p), some o, some (.int (j : Nat)), none] s = some (.ok o s) := rfl
        simp only [fCons, fNil, bindM, retM, a1, a2, a3]
      have s4 : setS 4 (fTup (fCons (f2 ixO (f2 ixO (f2 ixO (fVar 0) (fC (.int 1))) (fVar 3)) (fC (.int 0))) (fCons (fCall 3 G (fCons (f2 ixO (f2 ixO (f2 ixO (fVar 0) (fC (.int 1))) (fVar 3)) (fC (.int 1))) (fCons (f2 fdivO (fVar 1) (fC (.int 16))) (fCons (fVar 2) fNil)))) fNil))) [some d0, some (.int p), some o, some (.int (j : Nat)), none] s
          = some (RS.nx [some d0, some (.int p), some o, some (.int (j : Nat)), some (.tup [.str fs[j].1, d'])] s) := by
        refine setS_ok (d := .tup [.str fs[j].1, d']) ?_
        have a0 := ix0 e2
        have hs2 : small ([D.str fs[j].1, d'] : List D).length = true := small_of (by simp)
        show bindM (fCons _ _ _) _ s = _
        rw [fCons]
        simp only [fCons, bindM, a0, ecall, fNil, retM, liftO]
        simp only [hs2, if_true]
      let new : D := .tup [.str fs[j].1, d']
      let ys : List D := xs.take j ++ [new] ++ xs.drop (j + 1)
      let sl4 : Sl := [some d0, some (.int p), some o, some (.int (j : Nat)), some new]
      have hyl : ys.length = xs.length := by
        show (xs.take j ++ [new] ++ xs.drop (j + 1)).length = _
        simp only [List.length_append, List.length_take, List.length_drop, List.length_singleton]
        omega
      have hmid : (f2 addO (f2 addO (fSl (f2 ixO (fVar 0) (fC (.int 1))) fNo (fSome (fVar 3))) (fTup (fCons (fVar 4) fNil))) (fSl (f2 ixO (fVar 0) (fC (.int 1))) (fSome (f2 addO (fVar 3) (fC (.int 1)))) fNo)) sl4 s = some (.ok (.tup ys) s) := by
        have b1 : fSl (f2 ixO (fVar 0) (fC (.int 1))) fNo (fSome (fVar 3)) sl4 s = some (.ok (.tup (xs.take j)) s) := by
          have : (f2 ixO (fVar 0) (fC (.int 1))) sl4 s = some (.ok (.tup xs) s) := e1 (some (.int (j : Nat))) (some new)
          have v3 : fVar 3 sl4 s = some (.ok (.int (j : Nat)) s) := rfl
          have hsl : slO s (.tup xs) none (some (j : Int)) = some (.tup (xs.take j)) := by
            show some (D.tup (cutL xs none (some (j : Int)))) = _
            rw [cut_take xs j (by omega)]
          show bindM _ _ s = _
          simp only [bindM, this, fNo, retM, fSome, v3, liftO, asI, hsl]
        have b2 : fTup (fCons (fVar 4) fNil) sl4 s = some (.ok (.tup [new]) s) := by
          have hs1 : small ([new] : List D).length = true := small_of (by simp)
          have v4 : fVar 4 sl4 s = some (.ok new s) := rfl
          simp only [fTup, fCons, bindM, v4, fNil, retM, liftO, hs1, if_true]
        have b3 : fSl (f2 ixO (fVar 0) (fC (.int 1))) (fSome (f2 addO (fVar 3) (fC (.int 1)))) fNo sl4 s = some (.ok (.tup (xs.drop (j + 1))) s) := by
          have : (f2 ixO (fVar 0) (fC (.int 1))) sl4 s = some (.ok (.tup xs) s) := e1 (some (.int (j : Nat))) (some new)
          have v3 : (f2 addO (fVar 3) (fC (.int 1))) sl4 s = some (.ok (.int ((j : Int) + 1)) s) := f2_of (x := .int (j : Nat)) (y := .int 1) (s1 := s) rfl rfl rfl
          have hsl : slO s (.tup xs) (some ((j : Int) + 1)) none = some (.tup (xs.drop (j + 1))) := by
            show some (D.tup (cutL xs (some ((j : Int) + 1)) none)) = _
            rw [show (j : Int) + 1 = ((j + 1 : Nat) : Int) by omega, cut_drop xs (j + 1) (by omega)]
          show bindM _ _ s = _
          simp only [bindM, this, fSome, v3, liftO, asI, fNo, retM, hsl]
        refine f2_of (x := .tup (xs.take j ++ [new])) (f2_of b1 b2 ?_) b3 ?_
        · have hs : small ((xs.take j).length + ([new] : List D).length) = true := small_of (by simp only [List.length_take, List.length_singleton]; omega)
          show (if small ((xs.take j).length + ([new] : List D).length) = true then some (D.tup (xs.take j ++ [new])) else none) = _
          rw [if_pos hs]
        · have hs : small ((xs.take j ++ [new]).length + (xs.drop (j + 1)).length) = true := small_of (by simp only [List.length_append, List.length_take, List.length_singleton, List.length_drop]; omega)
          show (if small ((xs.take j ++ [new]).length + (xs.drop (j + 1)).length) = true then some (D.tup (xs.take j ++ [new] ++ xs.drop (j + 1))) else none) = _
          rw [if_pos hs]
      have hnew : dt new = true := dts_iff.mpr (fun z hz => by
        simp only [List.mem_cons, List.not_mem_nil, or_false] at hz
        rcases hz with rfl | rfl
        · exact (h1 _ (List.getElem_mem hjf)).dt (by decide)
        · exact k1)
      have hysdt : dt (.tup ys) = true := dts_iff.mpr (fun z hz => by
        rcases List.mem_append.mp hz with hz | hz
        · rcases List.mem_append.mp hz with hz | hz
          · exact hxsdt z (List.mem_of_mem_take hz)
          · rw [List.mem_singleton.mp hz]; exact hnew
        · exact hxsdt z (List.mem_of_mem_drop hz))
      have hszy : szs ys ≤ szs xs + sz o := by
        have e : szs xs = szs (xs.take j) + (sz xs[j] + szs (xs.drop (j + 1))) := by
          have hsplit : xs = xs.take j ++ (xs[j] :: xs.drop (j + 1)) := by
            rw [← List.drop_eq_getElem_cons hjl, List.take_append_drop]
          have := congrArg szs hsplit
          rw [szs_append] at this
          exact this
        show szs (xs.take j ++ [new] ++ xs.drop (j + 1)) ≤ _
        rw [szs_append, szs_append, e, hxj]
        simp only [szs, sz, new]
        omega
      refine ⟨.tup [.str (S "record"), .tup ys, restD r], ?_, ?_, fin _ ?_ ?_⟩
      · exact dts_iff.mpr (fun z hz => by
          simp only [List.mem_cons, List.not_mem_nil, or_false] at hz
          rcases hz with rfl | rfl | rfl
          · exact hparts _ (by simp)
          · exact hysdt
          · exact hparts _ (by simp))
      · show sz (.tup [.str (S "record"), .tup ys, restD r]) ≤ sz (.tup [.str (S "record"), .tup xs, restD r]) + sz o
        simp only [sz, szs]
        omega
      · exact dts_iff.mpr (fun z hz => by
          simp only [List.mem_cons, List.not_mem_nil, or_false] at hz
          rcases hz with rfl | rfl | rfl
          · exact hparts _ (by simp)
          · exact hysdt
          · exact hparts _ (by simp))
      · unfold g_changed
        refine (skip_if htest).trans ((seqS_nx s3).trans ((seqS_nx s4).trans (retS_ok ?_)))
        have hs3 : small ([D.str (S "record"), .tup ys, restD r] : List D).length = true := small_of (by simp)
        have hw : fC (.str (PySem.Str.ofString "record")) sl4 s = some (.ok (.str (S "record")) s) := rfl
        have h2' : (f2 ixO (fVar 0) (fC (.int 2))) sl4 s = some (.ok (restD r) s) := ix2 rfl
        show bindM (fCons _ _ sl4) _ s = _
        simp only [fCons, bindM, hw, hmid, h2', fNil, retM, liftO]
        simp only [hs3, if_true]
theorem changed_all : ∀ n, n ≤ 20 → ChangedSpec (R_changed n) n
  | 0, _ => fun d hd => by cases hd
  | n + 1, h => changed_step (by omega) (changed_all n (by omega))
end Pr

set_option Elab.async false
set_option linter.all false
set_option maxRecDepth 100000
set_option maxHeartbeats 8000000
namespace Pr
open PySem L2 PD
theorem Kd.mono {n : Nat} {d : D} (h : Kd n d) : ∀ m, n ≤ m → Kd m d := by
  induction h with
  | num n => intro m hm; obtain ⟨k, rfl⟩ : ∃ k, m = k + 1 := ⟨m - 1, by omega⟩; exact .num k
  | blank n i => intro m hm; obtain ⟨k, rfl⟩ : ∃ k, m = k + 1 := ⟨m - 1, by omega⟩; exact .blank k i
  | rcd n fs r h1 h2 h3 ih => intro m hm; obtain ⟨k, rfl⟩ : ∃ k, m = k + 1 := ⟨m - 1, by omega⟩; exact .rcd k fs r h1 (fun f hf => ih f hf k (by omega)) h3
/-- what a thing is: data, not too great -/
def Thing (d : D) : Prop := dt d = true ∧ sz d ≤ 5000
theorem md_eq {i : Nat} {sl : Sl} {s : Sto} {N : Int} (h : sl[i]? = some (some (.int N))) (q : Int) (hq : 0 < q) : (f2 modO (fVar i) (fC (.int q))) sl s = some (.ok (.int (N % q)) s) :=
  f2_of (x := .int N) (y := .int q) (s1 := s) (by simp only [fVar, h]) rfl (by
    show (if 0 < q then some (D.int (N % q)) else none) = _
    rw [if_pos hq])
theorem dv_eq {i : Nat} {sl : Sl} {s : Sto} {N : Int} (h : sl[i]? = some (some (.int N))) (q : Int) (hq : 0 < q ∧ q < 1073741824) : (f2 fdivO (fVar i) (fC (.int q))) sl s = some (.ok (.int (N / q)) s) :=
  f2_of (x := .int N) (y := .int q) (s1 := s) (by simp only [fVar, h]) rfl (by
    show (if 0 < q ∧ q < 1073741824 then some (D.int (N / q)) else none) = _
    rw [if_pos hq])
noncomputable abbrev wrapBody : SD := (setS 4 (fTup (fCons (fC (.str (PySem.Str.ofString "record"))) (fCons (fTup (fCons (fTup (fCons (f2 ixO (fVar 1) (f2 modO (fVar 5) (fC (.int 4)))) (fCons (fVar 4) fNil))) fNil)) (fCons (fC .non) fNil)))))
/-- records around it -/
theorem wrap_eq (d : D) (hd : dt d = true) (L : List Str) (hL : L.length = 4) (hLs : ∀ l ∈ L, OkS 13 l) (w N : Int) (hN : 0 ≤ N) (s : Sto) :
    ∃ d' x5, dt d' = true ∧ sz d' ≤ sz d + 72 ∧ (forS (tdName 5) (fRng1 (f2 modO (fVar 3) (fC (.int 12)))) wrapBody) [some d, some (.lst (L.map D.str)), some (.int w), some (.int N), some d, none, none, none, none, none] s = some (.nx [some d, some (.lst (L.map D.str)), some (.int w), some (.int N), some d', x5, none, none, none, none] s) := by
  let slw (t : D) (x5 : Option D) : Sl := [some d, some (.lst (L.map D.str)), some (.int w), some (.int N), some t, x5, none, none, none, none]
  have h0 := Int.emod_nonneg N (show (12 : Int) ≠ 0 by decide)
  have h1 := Int.emod_lt_of_pos N (show (0 : Int) < 12 by decide)
  have hr : (fRng1 (f2 modO (fVar 3) (fC (.int 12)))) (slw d none) s = some (.ok (rangeD 0 (N % 12).toNat, none) s) := fRng1_of (d := .int (N % 12)) (md_eq rfl 12 (by decide)) (rngO_int h0 (by omega))
  obtain ⟨sl', s', e, t, x5, hsl, hs, ht, hz⟩ := forL_range (T := tdName 5) (g := wrapBody) (a := (rangeD 0 (N % 12).toNat, none)) (fun i sl s' => ∃ t x5, sl = slw t x5 ∧ s' = s ∧ dt t = true ∧ sz t ≤ sz d + 6 * i) (N % 12).toNat
    (fun i sl s' hi ⟨t, x5, e1, e2, e3, e4⟩ => by
      subst e1 e2
      obtain ⟨l, hl, el⟩ := lab_ix L hL s' ((i : Int) % 4) (Int.emod_nonneg _ (by decide)) (Int.emod_lt_of_pos _ (by decide))
      have a1 : (f2 ixO (fVar 1) (f2 modO (fVar 5) (fC (.int 4)))) (slw t (some (.int (i : Nat)))) s' = some (.ok (.str l) s') := f2_of (x := .lst (L.map D.str)) (s1 := s') rfl (md_eq (N := (i : Nat)) rfl 4 (by decide)) el
      have v4 : fVar 4 (slw t (some (.int (i : Nat)))) s' = some (.ok t s') := rfl
      have w0 : fC (.str (PySem.Str.ofString "record")) (slw t (some (.int (i : Nat)))) s' = some (.ok (.str (S "record")) s') := rfl
      have wn : fC .non (slw t (some (.int (i : Nat)))) s' = some (.ok .non s') := rfl
      have z1 : small ([D.str l, t] : List D).length = true := small_of (by simp)
      have z2 : small ([D.tup [.str l, t]] : List D).length = true := small_of (by simp)
      have z3 : small ([D.str (S "record"), .tup [.tup [.str l, t]], .non] : List D).length = true := small_of (by simp)
      have ev : (fTup (fCons (fC (.str (PySem.Str.ofString "record"))) (fCons (fTup (fCons (fTup (fCons (f2 ixO (fVar 1) (f2 modO (fVar 5) (fC (.int 4)))) (fCons (fVar 4) fNil))) fNil)) (fCons (fC .non) fNil)))) (slw t (some (.int (i : Nat)))) s' = some (.ok (.tup [.str (S "record"), .tup [.tup [.str l, t]], .non]) s') := by
        simp only [fTup, fCons, bindM, w0, a1, v4, fNil, retM, liftO, z1, z2, wn, if_true]
        simp only [z3, if_true]
      refine ⟨slw t (some (.int (i : Nat))), slw (.tup [.str (S "record"), .tup [.tup [.str l, t]], .non]) (some (.int (i : Nat))), s', rfl, setS_ok ev, ck_none _ _, _, _, rfl, rfl, ?_, ?_⟩
      · have hl' := (hLs l hl).dt (by decide)
        have hw := word_dt "record" (by decide +kernel)
        simp only [dt, dts, Bool.and_true, Bool.true_and] at hl' hw ⊢
        simp only [hl', hw, e3, Bool.and_self, Bool.and_true]
      · simp only [sz, szs]; omega) (slw d none) s ⟨d, none, rfl, rfl, hd, by omega⟩
  subst hsl hs
  exact ⟨t, x5, ht, by omega, (forS_of hr (ck_none _ _)).trans e⟩
end Pr

set_option Elab.async false
set_option linter.all false
set_option maxRecDepth 100000
set_option maxHeartbeats 8000000
namespace Pr
open PySem L2 PD
/-- the words of a long record -/
theorem long_words (sl : Sl) (s : Sto) (n : Nat) (hn : n ≤ 210) (h6 : sl[6]? = some (some (.str abc))) (h7 : sl[7]? = some (some (.int (n : Nat)))) (h5 : 5 < sl.length) :
    ∃ W : List Str, W.length = n ∧ (∀ w ∈ W, OkS 2 w) ∧ (fLc (tdName 5) fYes (f2 addO (f2 ixO (fVar 6) (f2 fdivO (fVar 5) (fC (.int 26)))) (f2 ixO (fVar 6) (f2 modO (fVar 5) (fC (.int 26))))) (fRng1 (fVar 7)) [5]) sl s = some (.ok (.lst (W.map D.str)) s) := by
  have hr : (fRng1 (fVar 7)) sl s = some (.ok (rangeD 0 n, none) s) := fRng1_of (d := .int (n : Nat)) (by simp only [fVar, h7]) (rngO_nat (by omega))
  have w6 : ∀ x : D, ((wipeS sl [5]).set 5 (some x))[6]? = some (some (.str abc)) := fun x => by
    show ((sl.set 5 none).set 5 (some x))[6]? = _
    rw [List.getElem?_set_ne (by decide), List.getElem?_set_ne (by decide), h6]
  have w5 : ∀ x : D, ((wipeS sl [5]).set 5 (some x))[5]? = some (some x) := fun x => by
    show ((sl.set 5 none).set 5 (some x))[5]? = _
    rw [List.getElem?_set_self (by rw [List.length_set]; exact h5)]
  have go : ∀ xs : List Nat, (∀ x ∈ xs, x < 210) → ∃ W : List Str, W.length = xs.length ∧ (∀ w ∈ W, OkS 2 w) ∧ lcL (tdName 5) fYes (f2 addO (f2 ixO (fVar 6) (f2 fdivO (fVar 5) (fC (.int 26)))) (f2 ixO (fVar 6) (f2 modO (fVar 5) (fC (.int 26))))) (rangeD 0 n, none) (wipeS sl [5]) (xs.map fun i => D.int (0 + (i : Nat))) s = some (.ok (W.map D.str) s) := by
    intro xs
    induction xs with
    | nil => intro _; exact ⟨[], rfl, fun _ z => (by cases z), rfl⟩
    | cons i r ih =>
      intro h
      obtain ⟨W, q1, q2, q3⟩ := ih fun x hx => h x (List.mem_cons_of_mem _ hx)
      have hi := h i List.mem_cons_self
      obtain ⟨x, ex, ox⟩ := abc_ix s ((0 + (i : Int)) / 26) (by omega) (by omega)
      obtain ⟨y, ey, oy⟩ := abc_ix s ((0 + (i : Int)) % 26) (by omega) (by omega)
      have v6 : fVar 6 ((wipeS sl [5]).set 5 (some (.int (0 + (i : Nat))))) s = some (.ok (.str abc) s) := by simp only [fVar, w6]
      have ea : (f2 addO (f2 ixO (fVar 6) (f2 fdivO (fVar 5) (fC (.int 26)))) (f2 ixO (fVar 6) (f2 modO (fVar 5) (fC (.int 26))))) ((wipeS sl [5]).set 5 (some (.int (0 + (i : Nat))))) s = some (.ok (.str (x ++ y)) s) := by
        refine f2_of (x := .str x) (y := .str y) (s1 := s) (f2_of v6 (dv_eq (w5 _) 26 (by decide)) ex) (f2_of v6 (md_eq (w5 _) 26 (by decide)) ey) ?_
        have hs : small (x.length + y.length) = true := small_of (by have := ox.len; have := oy.len; omega)
        show (if small (x.length + y.length) = true then some (D.str (x ++ y)) else none) = _
        rw [if_pos hs]
      refine ⟨(x ++ y) :: W, by rw [List.length_cons, List.length_cons, q1], fun w hw => ?_, ?_⟩
      · rcases List.mem_cons.mp hw with rfl | hw
        · exact ox.app oy
        · exact q2 w hw
      · rw [List.map_cons, List.map_cons]
        show lcL _ _ _ _ _ (D.int (0 + (i : Nat)) :: _) s = _
        unfold lcL
        show bindM (noex (fYes _)) _ s = _
        have ea' : (f2 addO (f2 ixO (fVar 6) (f2 fdivO (fVar 5) (fC (.int 26)))) (f2 ixO (fVar 6) (f2 modO (fVar 5) (fC (.int 26))))) (List.set (wipeS sl [5]) 5 (some (.int (0 + (i : Nat))))) s = some (.ok (.str (x ++ y)) s) := ea
        simp only [bindM, noex, fYes, retM, if_true, ckM, ea', if_pos (ck_none _ _), q3]
  obtain ⟨W, q1, q2, q3⟩ := go (List.range n) (fun x hx => by have := List.mem_range.mp hx; omega)
  rw [List.length_range] at q1
  exact ⟨W, q1, q2, fLc_of hr (ck_none _ _) q3 (by rw [List.length_map]; omega)⟩
/-- the fields of a long record -/
theorem long_fields (sl : Sl) (s : Sto) (W : List Str) (hW : W.length ≤ 210) (h8 : sl[8]? = some (some (.lst (W.map D.str)))) (h9 : 9 < sl.length) :
    (fLc (tdName 9) fYes (fTup (fCons (fVar 9) (fCons (fTup (fCons (fC (.str (PySem.Str.ofString "number"))) fNil)) fNil))) (fIt (fVar 8)) [9]) sl s = some (.ok (.lst (W.map fun w => D.tup [.str w, numK])) s) := by
  have hit : (fIt (fVar 8)) sl s = some (.ok (W.map D.str, none) s) := by simp only [fIt, fVar, bindM, liftO, h8, seqIt, itO]
  have w9 : ∀ x : D, ((wipeS sl [9]).set 9 (some x))[9]? = some (some x) := fun x => by
    show ((sl.set 9 none).set 9 (some x))[9]? = _
    rw [List.getElem?_set_self (by rw [List.length_set]; exact h9)]
  have := lcL_map (T := tdName 9) (u := fYes) (f := (fTup (fCons (fVar 9) (fCons (fTup (fCons (fC (.str (PySem.Str.ofString "number"))) fNil)) fNil)))) (a := (W.map D.str, none)) (sl := wipeS sl [9]) (s := s) (fun d => D.tup [d, numK]) (ck_none _ _) (W.map D.str) (fun x hx => by
    refine ⟨(wipeS sl [9]).set 9 (some x), rfl, rfl, ?_⟩
    have v9 : fVar 9 ((wipeS sl [9]).set 9 (some x)) s = some (.ok x s) := by simp only [fVar, w9]
    have wn : fC (.str (PySem.Str.ofString "number")) ((wipeS sl [9]).set 9 (some x)) s = some (.ok (.str (S "number")) s) := rfl
    have z1 : small ([D.str (S "number")] : List D).length = true := small_of (by simp)
    have z2 : small ([x, numK] : List D).length = true := small_of (by simp)
    simp only [fTup, fCons, bindM, v9, wn, fNil, retM, liftO, z1, if_true]
    simp only [z2, if_true])
  rw [List.map_map] at this
  exact fLc_pure hit this (by rw [List.length_map]; omega)
theorem long_thing (W : List Str) (hW : W.length ≤ 210) (h2 : ∀ w ∈ W, OkS 2 w) : Thing (.tup [.str (S "record"), .tup (W.map fun w => D.tup [.str w, numK]), .non]) := by
  constructor
  · exact dts_iff.mpr (fun x hx => by
      simp only [List.mem_cons, List.not_mem_nil, or_false] at hx
      rcases hx with rfl | rfl | rfl
      · exact word_dt _ (by decide +kernel)
      · exact dts_iff.mpr (fun y hy => by
          obtain ⟨w, hw, rfl⟩ := List.mem_map.mp hy
          exact dts_iff.mpr (fun z hz => by
            simp only [List.mem_cons, List.not_mem_nil, or_false] at hz
            rcases hz with rfl | rfl
            · exact (h2 w hw).dt (by decide)
            · exact (Kd.num 0).dt))
      · rfl)
  · have : ∀ W : List Str, szs (W.map fun w => D.tup [.str w, numK]) = 4 * W.length := by
      intro W
      induction W with
      | nil => rfl
      | cons w r ih =>
        rw [List.map_cons, List.length_cons]
        simp only [szs, sz] at ih ⊢
        rw [ih]
        omega
    simp only [sz, szs, this]
    omega
end Pr

set_option Elab.async false
set_option linter.all false
set_option maxRecDepth 100000
set_option maxHeartbeats 8000000
namespace Pr
open PySem L2 PD
theorem fAnd_b {u v : Sl → M Bool} {sl : Sl} {s : Sto} {x y : Bool} (h1 : u sl s = some (.ok x s)) (h2 : v sl s = some (.ok y s)) : fAnd u v sl s = some (.ok (x && y) s) := by
  cases x <;> simp [fAnd, bindM, retM, h1, h2]
theorem thing_eq (d : D) (kd : Kd 14 d) (hsz : sz d ≤ 900) (L : List Str) (hL : L.length = 4) (hLs : ∀ l ∈ L, OkS 13 l) (w N : Int) (hN : 0 ≤ N) (s : Sto) : ∃ d', Thing d' ∧ D_thing [d, .lst (L.map D.str), .int w, .int N] s = some (.ok d' s) := by
  have hd := kd.dt
  let sl : Sl := [some d, some (.lst (L.map D.str)), some (.int w), some (.int N), none, none, none, none, none, none]
  have fin : ∀ d' : D, Thing d' → g_thing sl s = some (.rt d' s) → ∃ d', Thing d' ∧ D_thing [d, .lst (L.map D.str), .int w, .int N] s = some (.ok d' s) := fun d' h e =>
    ⟨d', h, fnD_rt e (fin_same s d' (low_mono (Nat.zero_le _) _ (dt_low d' h.1)) (no_own h.1))⟩
  have tm : ∀ j : Int, (fB (f2 (eqO false) (f2 modO (fVar 2) (fC (.int 4))) (fC (.int j)))) sl s = some (.ok (decide (w % 4 = j)) s) := fun j => fB_of (f2_of (x := .int (w % 4)) (y := .int j) (s1 := s) (md_eq rfl 4 (by decide)) rfl (eqO_int _ _ _ _))
  have t0 := tm 0
  have t1 := tm 1
  have t2 := tm 2
  by_cases c0 : w % 4 = 0
  · rw [decide_eq_true c0] at t0
    obtain ⟨d', k1, k2, k3⟩ := merged_eq (2 + N % 3) (by omega) d kd s
    refine fin d' ⟨k1.dt, by omega⟩ ?_
    unfold g_thing
    refine seqS_rt ((ifS_t t0).trans (retS_ok (fCall_eq (ds := [d, .int (2 + N % 3)]) (s1 := s) ?_ rfl k3)))
    have a2 : (f2 addO (fC (.int 2)) (f2 modO (fVar 3) (fC (.int 3)))) sl s = some (.ok (.int (2 + N % 3)) s) := f2_of (x := .int 2) (y := .int (N % 3)) (s1 := s) rfl (md_eq rfl 3 (by decide)) rfl
    have v0 : fVar 0 sl s = some (.ok d s) := rfl
    show fCons _ _ sl s = _
    simp only [fCons, bindM, v0, a2, fNil, retM]
  · rw [decide_eq_false c0] at t0
    by_cases c1 : w % 4 = 1
    · rw [decide_eq_true c1] at t1
      obtain ⟨d', x5, k1, k2, k3⟩ := wrap_eq d hd L hL hLs w N hN s
      refine fin d' ⟨k1, by omega⟩ ?_
      unfold g_thing
      have s4 : setS 4 (fVar 0) sl s = some (RS.nx [some d, some (.lst (L.map D.str)), some (.int w), some (.int N), some d, none, none, none, none, none] s) := setS_ok (d := d) (s' := s) rfl
      exact (skip_if t0).trans (seqS_rt ((ifS_t t1).trans ((seqS_nx s4).trans ((seqS_nx k3).trans (retS_ok rfl)))))
    · rw [decide_eq_false c1] at t1
      have t22 : (fB (f2 (eqO false) (f2 modO (f2 fdivO (fVar 2) (fC (.int 4))) (fC (.int 4))) (fC (.int 0)))) sl s = some (.ok (decide (w / 4 % 4 = 0)) s) :=
        fB_of (f2_of (x := .int (w / 4 % 4)) (y := .int 0) (s1 := s) (f2_of (x := .int (w / 4)) (y := .int 4) (s1 := s) (dv_eq rfl 4 (by decide)) rfl (by simp [modO])) rfl (eqO_int _ _ _ _))
      have tt := fAnd_b t2 t22
      cases hc : (decide (w % 4 = 2) && decide (w / 4 % 4 = 0)) with
      | true =>
        rw [hc] at tt
        have s6 : setS 6 (fC (.str (PySem.Str.ofString "abcdefghijklmnopqrstuvwxyz"))) sl s = some (RS.nx [some d, some (.lst (L.map D.str)), some (.int w), some (.int N), none, none, some (.str abc), none, none, none] s) := setS_ok (d := .str abc) (s' := s) rfl
        let sl6 : Sl := [some d, some (.lst (L.map D.str)), some (.int w), some (.int N), none, none, some (.str abc), none, none, none]
        have h1 : (f2 modO (f2 fdivO (fVar 3) (fC (.int 2))) (fC (.int 210))) sl6 s = some (.ok (.int (N / 2 % 210)) s) := f2_of (x := .int (N / 2)) (y := .int 210) (s1 := s) (dv_eq rfl 2 (by decide)) rfl (by simp [modO])
        have h2 : (f2 addO (fC (.int 199)) (f2 modO (f2 fdivO (fVar 3) (fC (.int 2))) (fC (.int 3)))) sl6 s = some (.ok (.int (199 + N / 2 % 3)) s) := f2_of (x := .int 199) (y := .int (N / 2 % 3)) (s1 := s) rfl (f2_of (x := .int (N / 2)) (y := .int 3) (s1 := s) (dv_eq rfl 2 (by decide)) rfl (by simp [modO])) rfl
        have hitem : ∃ n : Nat, n ≤ 210 ∧ (f2 ixO (fLst (fCons (f2 modO (f2 fdivO (fVar 3) (fC (.int 2))) (fC (.int 210))) (fCons (f2 addO (fC (.int 199)) (f2 modO (f2 fdivO (fVar 3) (fC (.int 2))) (fC (.int 3)))) fNil))) (f2 modO (fVar 3) (fC (.int 2)))) sl6 s = some (.ok (.int (n : Nat)) s) := by
          have z2 : small ([D.int (N / 2 % 210), .int (199 + N / 2 % 3)] : List D).length = true := small_of (by simp)
          have hl : (fLst (fCons (f2 modO (f2 fdivO (fVar 3) (fC (.int 2))) (fC (.int 210))) (fCons (f2 addO (fC (.int 199)) (f2 modO (f2 fdivO (fVar 3) (fC (.int 2))) (fC (.int 3)))) fNil))) sl6 s = some (.ok (.lst [.int (N / 2 % 210), .int (199 + N / 2 % 3)]) s) := by
            simp only [fLst, fCons, bindM, h1, h2, fNil, retM, liftO]
            simp only [z2, if_true]
          have c : N % 2 = 0 ∨ N % 2 = 1 := by omega
          rcases c with c | c
          · refine ⟨(N / 2 % 210).toNat, by omega, f2_of (x := .lst [.int (N / 2 % 210), .int (199 + N / 2 % 3)]) (y := .int (N % 2)) (s1 := s) hl (md_eq rfl 2 (by decide)) ?_⟩
            rw [c, show ((N / 2 % 210).toNat : Int) = N / 2 % 210 by omega]
            rfl
          · refine ⟨(199 + N / 2 % 3).toNat, by omega, f2_of (x := .lst [.int (N / 2 % 210), .int (199 + N / 2 % 3)]) (y := .int (N % 2)) (s1 := s) hl (md_eq rfl 2 (by decide)) ?_⟩
            rw [c, show ((199 + N / 2 % 3).toNat : Int) = 199 + N / 2 % 3 by omega]
            rfl
        obtain ⟨n, hn, en⟩ := hitem
        let sl7 : Sl := [some d, some (.lst (L.map D.str)), some (.int w), some (.int N), none, none, some (.str abc), some (.int (n : Nat)), none, none]
        have s7 := setS_ok (i := 7) en
        have s7' : _ = some (RS.nx sl7 s) := s7
        obtain ⟨W, w1, w2, ew⟩ := long_words sl7 s n hn rfl rfl (by simp [sl7])
        let sl8 : Sl := [some d, some (.lst (L.map D.str)), some (.int w), some (.int N), none, none, some (.str abc), some (.int (n : Nat)), some (.lst (W.map D.str)), none]
        have s8 := setS_ok (i := 8) ew
        have s8' : _ = some (RS.nx sl8 s) := s8
        have ef := long_fields sl8 s W (by omega) rfl (by simp [sl8])
        refine fin _ (long_thing W (by omega) w2) ?_
        unfold g_thing
        refine (skip_if t0).trans ((skip_if t1).trans (seqS_rt ((ifS_t tt).trans ((seqS_nx s6).trans ((seqS_nx s7').trans ((seqS_nx s8').trans (retS_ok ?_)))))))
        have wr : fC (.str (PySem.Str.ofString "record")) sl8 s = some (.ok (.str (S "record")) s) := rfl
        have wn : fC .non sl8 s = some (.ok .non s) := rfl
        have z3 : small ([D.str (S "record"), .tup (W.map fun w => D.tup [.str w, numK]), .non] : List D).length = true := small_of (by simp)
        show bindM (fCons _ _ sl8) _ s = _
        simp only [fCons, bindM, wr, fN, ef, fNil, retM, liftO, tupleO, lsOf, Option.map_some, wn]
        simp only [z3, if_true]
      | false =>
        rw [hc] at tt
        obtain ⟨o, ho, eo⟩ := odd_eq N s
        obtain ⟨ho1, ho2⟩ := Bool.and_eq_true_iff.mp ho
        have ho2 := of_decide_eq_true ho2
        obtain ⟨d', k1, k2, k3⟩ := changed_all 20 (by decide) d (kd.mono 20 (by decide)) (w / 4) o ho1 s
        refine fin d' ⟨k1, by omega⟩ ?_
        unfold g_thing
        refine (skip_if t0).trans ((skip_if t1).trans ((skip_if tt).trans (retS_ok (fCall_eq (ds := [d, .int (w / 4), o]) (s1 := s) ?_ rfl k3))))
        have v0 : fVar 0 sl s = some (.ok d s) := rfl
        have v3 : fVar 3 sl s = some (.ok (.int N) s) := rfl
        have a2 : (f2 fdivO (fVar 2) (fC (.int 4))) sl s = some (.ok (.int (w / 4)) s) := dv_eq rfl 4 (by decide)
        have wn : fC (.str (PySem.Str.ofString "number")) sl s = some (.ok (.str (S "number")) s) := rfl
        have z1 : small ([D.str (S "number")] : List D).length = true := small_of (by simp)
        have inn : fTup (fCons (fC (.str (PySem.Str.ofString "number"))) fNil) sl s = some (.ok numK s) := by
          simp only [fTup, fCons, bindM, wn, fNil, retM, liftO]
          simp only [z1, if_true]
        have ec : fCall 2 D_odd (fCons (fVar 3) (fCons (fTup (fCons (fC (.str (PySem.Str.ofString "number"))) fNil)) fNil)) sl s = some (.ok o s) := fCall_eq (ds := [.int N, numK]) (s1 := s) (by simp only [fCons, bindM, v3, inn, fNil, retM]) rfl eo
        show fCons _ _ sl s = _
        rw [fCons]
        simp only [bindM, v0]
        rw [fCons]
        simp only [bindM, a2]
        rw [fCons]
        simp only [bindM, ec, fNil, retM]
end Pr

set_option Elab.async false
set_option linter.all false
set_option maxRecDepth 100000
set_option maxHeartbeats 8000000
namespace Pr
open PySem L2 PD
/-- the slots of the law -/
abbrev CT : Cell := .tab "is_word"
abbrev lw (sc : D) (L : List Str) (d : D) (x6 x7 x8 x9 : Option D) : Sl := [some sc, some (.lst (L.map D.str)), some (.own 1), some (.own 3), some d, some (.own 4), x6, x7, x8, x9]
theorem cell_i (ns : List Int) (i : Nat) (s : Sto) : ∃ v : Int, 0 ≤ v ∧ v < 2147483647 ∧ ∀ (f : Sl → M D) (sl : Sl), sl[0]? = some (some (.scr (ns.map D.int))) → f sl s = some (.ok (.int (i : Nat)) s) → fCall 2 D_cell (fCons (fVar 0) (fCons f fNil)) sl s = some (.ok (.int v) s) := by
  obtain ⟨v, h1, h2, h3⟩ := cell_eq ns i s
  refine ⟨v, h1, h2, fun f sl h0 hf => fCall_eq (ds := [.scr (ns.map D.int), .int (i : Nat)]) (s1 := s) ?_ rfl h3⟩
  have v0 : fVar 0 sl s = some (.ok (.scr (ns.map D.int)) s) := by simp only [fVar, h0]
  simp only [fCons, bindM, v0, hf, fNil, retM]
theorem push (c0 c1 c2 : Cell) (X : List D) (d : D) (hX : X.length ≤ 1000) (sl : Sl) (f : Sl → M D) (h5 : sl[5]? = some (some (.own 4))) (hf : f sl [CT, c0, c1, c2, .lst X] = some (.ok d [CT, c0, c1, c2, .lst X])) :
    (exprS (fM1 appendM (fVar 5) (fCons f fNil))) sl [CT, c0, c1, c2, .lst X] = some (.nx sl [CT, c0, c1, c2, .lst (X ++ [d])]) := by
  have v5 : fVar 5 sl [CT, c0, c1, c2, .lst X] = some (.ok (.own 4) [CT, c0, c1, c2, .lst X]) := by simp only [fVar, h5]
  have hs : small (X.length + 1) = true := small_of (by omega)
  refine exprS_ok (d := .non) ?_
  have hl : lsOf [CT, c0, c1, c2, .lst X] (.own 4) = some X := rfl
  have ha : appendM (.own 4) [d] [CT, c0, c1, c2, .lst X] = some (.ok .non [CT, c0, c1, c2, .lst (X ++ [d])]) := by
    show (if small (X.length + 1) = true then some (R.ok D.non [CT, c0, c1, c2, .lst (X ++ [d])]) else none) = _
    rw [if_pos hs]
  simp only [fM1, bindM, v5, liftO, hl, Option.map_some, fCons, hf, fNil, retM, ha]
noncomputable abbrev sizeBody : SD := (exprS (fM1 appendM (fVar 5) (fCons (fTup (fCons (fC (.str (PySem.Str.ofString "record"))) (fCons (fTup (fCons (fTup (fCons (fSl (f2 addO (f2 ixO (fVar 1) (fC (.int 0))) (fC (.str (PySem.Str.ofString "aaaaaaaaa")))) fNo (fSome (fVar 6))) (fCons (fTup (fCons (fC (.str (PySem.Str.ofString "number"))) fNil)) fNil))) fNil)) (fCons (fC .non) fNil)))) fNil)))
theorem size_turn (sc : D) (L : List Str) (hL : L.length = 4) (hLs : ∀ l ∈ L, OkS 13 l) (d : D) (z : Int) (c0 c1 c2 : Cell) (X : List D) (hX : X.length ≤ 1000) (x7 x8 x9 : Option D) :
    ∃ t, Thing t ∧ sizeBody (lw sc L d (some (.int z)) x7 x8 x9) [CT, c0, c1, c2, .lst X] = some (.nx (lw sc L d (some (.int z)) x7 x8 x9) [CT, c0, c1, c2, .lst (X ++ [t])]) := by
  obtain ⟨l, hl, el⟩ := lab_ix L hL [CT, c0, c1, c2, .lst X] 0 (by decide) (by decide)
  have ol := hLs l hl
  have oa : OkS 9 (S "aaaaaaaaa") := ⟨by decide +kernel, by decide +kernel⟩
  have oo := (ol.app oa).cut none (some z)
  let sl := lw sc L d (some (.int z)) x7 x8 x9
  let s : Sto := [CT, c0, c1, c2, .lst X]
  have a1 : (f2 addO (f2 ixO (fVar 1) (fC (.int 0))) (fC (.str (PySem.Str.ofString "aaaaaaaaa")))) sl s = some (.ok (.str (l ++ S "aaaaaaaaa")) s) := by
    refine f2_of (x := .str l) (y := .str (S "aaaaaaaaa")) (s1 := s) (f2_of (x := .lst (L.map D.str)) (y := .int 0) (s1 := s) rfl rfl el) rfl ?_
    have hs : small (l.length + (S "aaaaaaaaa").length) = true := small_of (by have := ol.len; have := oa.len; omega)
    show (if small (l.length + (S "aaaaaaaaa").length) = true then some (D.str (l ++ S "aaaaaaaaa")) else none) = _
    rw [if_pos hs]
  have a2 : fSl (f2 addO (f2 ixO (fVar 1) (fC (.int 0))) (fC (.str (PySem.Str.ofString "aaaaaaaaa")))) fNo (fSome (fVar 6)) sl s = some (.ok (.str (cutS (l ++ S "aaaaaaaaa") none (some z))) s) := by
    have v6 : fVar 6 sl s = some (.ok (.int z) s) := rfl
    have hs : small (l ++ S "aaaaaaaaa").length = true := small_of (by have := (ol.app oa).len; omega)
    have hsl : slO s (.str (l ++ S "aaaaaaaaa")) none (some z) = some (.str (cutS (l ++ S "aaaaaaaaa") none (some z))) := by
      show (if small (l ++ S "aaaaaaaaa").length = true then some (D.str (cutS (l ++ S "aaaaaaaaa") none (some z))) else none) = _
      rw [if_pos hs]
    show bindM _ _ s = _
    simp only [bindM, a1, fNo, retM, fSome, v6, liftO, asI, hsl]
  let t : D := .tup [.str (S "record"), .tup [.tup [.str (cutS (l ++ S "aaaaaaaaa") none (some z)), numK]], .non]
  have wr : fC (.str (PySem.Str.ofString "record")) sl s = some (.ok (.str (S "record")) s) := rfl
  have wm : fC (.str (PySem.Str.ofString "number")) sl s = some (.ok (.str (S "number")) s) := rfl
  have wn : fC .non sl s = some (.ok .non s) := rfl
  have z1 : small ([D.str (S "number")] : List D).length = true := small_of (by simp)
  have z2 : small ([D.str (cutS (l ++ S "aaaaaaaaa") none (some z)), numK] : List D).length = true := small_of (by simp)
  have z3 : small ([D.tup [.str (cutS (l ++ S "aaaaaaaaa") none (some z)), numK]] : List D).length = true := small_of (by simp)
  have z4 : small ([D.str (S "record"), .tup [.tup [.str (cutS (l ++ S "aaaaaaaaa") none (some z)), numK]], .non] : List D).length = true := small_of (by simp)
  have ev : (fTup (fCons (fC (.str (PySem.Str.ofString "record"))) (fCons (fTup (fCons (fTup (fCons (fSl (f2 addO (f2 ixO (fVar 1) (fC (.int 0))) (fC (.str (PySem.Str.ofString "aaaaaaaaa")))) fNo (fSome (fVar 6))) (fCons (fTup (fCons (fC (.str (PySem.Str.ofString "number"))) fNil)) fNil))) fNil)) (fCons (fC .non) fNil)))) sl s = some (.ok t s) := by
    have i1 : fTup (fCons (fC (.str (PySem.Str.ofString "number"))) fNil) sl s = some (.ok numK s) := by
      simp only [fTup, fCons, bindM, wm, fNil, retM, liftO]
      simp only [z1, if_true]
    have i2 : (fTup (fCons (fSl (f2 addO (f2 ixO (fVar 1) (fC (.int 0))) (fC (.str (PySem.Str.ofString "aaaaaaaaa")))) fNo (fSome (fVar 6))) (fCons (fTup (fCons (fC (.str (PySem.Str.ofString "number"))) fNil)) fNil))) sl s = some (.ok (.tup [.str (cutS (l ++ S "aaaaaaaaa") none (some z)), numK]) s) := by
      show bindM (fCons _ _ sl) _ s = _
      simp only [fCons, bindM, a2]
      rw [i1]
      simp only [fNil, retM, liftO]
      simp only [z2, if_true]
    have i3 : (fTup (fCons (fTup (fCons (fSl (f2 addO (f2 ixO (fVar 1) (fC (.int 0))) (fC (.str (PySem.Str.ofString "aaaaaaaaa")))) fNo (fSome (fVar 6))) (fCons (fTup (fCons (fC (.str (PySem.Str.ofString "number"))) fNil)) fNil))) fNil)) sl s = some (.ok (.tup [.tup [.str (cutS (l ++ S "aaaaaaaaa") none (some z)), numK]]) s) := by
      show bindM (bindM _ _) _ s = _
      unfold bindM
      rw [i2]
      simp only [fNil, bindM, retM, liftO]
      simp only [z3, if_true]
    show bindM (bindM _ _) _ s = _
    unfold bindM
    rw [wr]
    simp only [fCons, bindM]
    rw [i3]
    simp only [wn, fNil, retM, liftO]
    simp only [z4, if_true, t]
  refine ⟨t, ⟨?_, by simp only [t, sz, szs]; omega⟩, push c0 c1 c2 X t hX sl _ rfl ev⟩
  have h1 := oo.dt (by decide)
  have h2 := word_dt "record" (by decide +kernel)
  have h3 := (Kd.num 0).dt
  exact dts_iff.mpr (fun x hx => by
    simp only [List.mem_cons, List.not_mem_nil, or_false] at hx
    rcases hx with rfl | rfl | rfl
    · exact h2
    · exact dts_iff.mpr (fun y hy => by
        rw [List.mem_singleton.mp hy]
        exact dts_iff.mpr (fun z hz => by
          simp only [List.mem_cons, List.not_mem_nil, or_false] at hz
          rcases hz with rfl | rfl
          · exact h1
          · exact h3))
    · rfl)
end Pr

set_option Elab.async false
set_option linter.all false
set_option maxRecDepth 100000
set_option maxHeartbeats 8000000
namespace Pr
open PySem L2 PD
theorem cons_of {f : Sl → M D} {h : Sl → M (List D)} {sl : Sl} {s s1 s2 : Sto} {x : D} {xs : List D} (h1 : f sl s = some (.ok x s1)) (h2 : h sl s1 = some (.ok xs s2)) : fCons f h sl s = some (.ok (x :: xs) s2) := by
  simp only [fCons, bindM, h1, h2, retM]
/-- what the program's word has to be: the law's own -/
def IsKindOk : Prop := ∀ (d : D) (s : Sto), Thing d → HasTab s "is_word" → D_is_kind [d] s = some (.ok (.bl (dueF d)) s)
noncomputable abbrev thingBody : SD := (exprS (fM1 appendM (fVar 5) (fCons (fCall 4 D_thing (fCons (fVar 4) (fCons (fVar 1) (fCons (fCall 2 D_cell (fCons (fVar 0) (fCons (f2 addO (fC (.int 4)) (f2 mulO (fC (.int 2)) (fVar 7))) fNil))) (fCons (fCall 2 D_cell (fCons (fVar 0) (fCons (f2 addO (fC (.int 5)) (f2 mulO (fC (.int 2)) (fVar 7))) fNil))) fNil))))) fNil)))
theorem thing_turn (ns : List Int) (L : List Str) (hL : L.length = 4) (hLs : ∀ l ∈ L, OkS 13 l) (d : D) (kd : Kd 14 d) (hsz : sz d ≤ 900) (i : Nat) (c0 c1 c2 : Cell) (X : List D) (hX : X.length ≤ 1000) (x6 x8 x9 : Option D) :
    ∃ t, Thing t ∧ thingBody (lw (.scr (ns.map D.int)) L d x6 (some (.int (i : Nat))) x8 x9) [CT, c0, c1, c2, .lst X] = some (.nx (lw (.scr (ns.map D.int)) L d x6 (some (.int (i : Nat))) x8 x9) [CT, c0, c1, c2, .lst (X ++ [t])]) := by
  let s : Sto := [CT, c0, c1, c2, .lst X]
  let sl := lw (.scr (ns.map D.int)) L d x6 (some (.int (i : Nat))) x8 x9
  have ix : ∀ j : Nat, (f2 addO (fC (.int (j : Nat))) (f2 mulO (fC (.int 2)) (fVar 7))) sl s = some (.ok (.int ((j + 2 * i : Nat) : Int)) s) := fun j => by
    refine f2_of (x := .int (j : Nat)) (y := .int (2 * (i : Nat))) (s1 := s) rfl (f2_of (x := .int 2) (y := .int (i : Nat)) (s1 := s) rfl rfl ?_) ?_
    · show (if mulOk 2 (i : Nat) = true then some (D.int (2 * (i : Nat))) else none) = _
      rw [if_pos (mul_lt (by decide) (by decide))]
    · show some (D.int ((j : Int) + 2 * (i : Int))) = _
      congr 2
  obtain ⟨v, _, _, e1⟩ := cell_i ns (4 + 2 * i) s
  obtain ⟨u, hu, _, e2⟩ := cell_i ns (5 + 2 * i) s
  have c1' := e1 _ sl rfl (ix 4)
  have c2' := e2 _ sl rfl (ix 5)
  obtain ⟨t, ht, et⟩ := thing_eq d kd hsz L hL hLs v u hu s
  refine ⟨t, ht, push c0 c1 c2 X t hX sl _ rfl (fCall_eq (ds := [d, .lst (L.map D.str), .int v, .int u]) (s1 := s) ?_ rfl et)⟩
  have v4 : fVar 4 sl s = some (.ok d s) := rfl
  have v1 : fVar 1 sl s = some (.ok (.lst (L.map D.str)) s) := rfl
  have c1'' : fCall 2 D_cell (fCons (fVar 0) (fCons (f2 addO (fC (.int 4)) (f2 mulO (fC (.int 2)) (fVar 7))) fNil)) sl s = some (.ok (.int v) s) := c1'
  have c2'' : fCall 2 D_cell (fCons (fVar 0) (fCons (f2 addO (fC (.int 5)) (f2 mulO (fC (.int 2)) (fVar 7))) fNil)) sl s = some (.ok (.int u) s) := c2'
  exact cons_of v4 (cons_of v1 (cons_of c1'' (cons_of c2'' rfl)))
noncomputable abbrev lookBody : SD := (seqS (setS 9 (fCall 1 D_is_kind (fCons (fVar 8) fNil)))
    (ifS (fOr (fNot (fTru (f1 (isiO "bool") (fVar 9)))) (fB (f2 (eqO true) (fVar 9) (fCall 1 D_due (fCons (fVar 8) fNil))))) (retS (fC (.bl false))) nextS))
theorem look_turn (H : IsKindOk) (sc : D) (L : List Str) (d t : D) (ht : Thing t) (s : Sto) (hT : HasTab s "is_word") (x6 x7 x9 : Option D) : ∃ y9, lookBody (lw sc L d x6 x7 (some t) x9) s = some (.nx (lw sc L d x6 x7 (some t) y9) s) := by
  have h1 := H t s ht hT
  have h2 := due_eq t s ht.1 (by have := ht.2; omega)
  refine ⟨some (.bl (dueF t)), ?_⟩
  have s9 : setS 9 (fCall 1 D_is_kind (fCons (fVar 8) fNil)) (lw sc L d x6 x7 (some t) x9) s = some (.nx (lw sc L d x6 x7 (some t) (some (.bl (dueF t)))) s) := setS_ok (d := .bl (dueF t)) (fCall_eq (ds := [t]) (s1 := s) rfl rfl h1)
  refine (seqS_nx s9).trans ((ifS_f (s' := s) (fOr_f (s1 := s) (fNot_of (b := true) (fTru_of rfl)) (fB_of (f2_of (x := .bl (dueF t)) (y := .bl (dueF t)) (s1 := s) rfl (fCall_eq (ds := [t]) (s1 := s) rfl rfl h2) ?_)))).trans rfl)
  cases dueF t <;> rfl
theorem look_all (H : IsKindOk) (sc : D) (L : List Str) (d : D) (s : Sto) (hT : HasTab s "is_word") (a : Src) (ck : Ck a s) (x6 x7 : Option D) : ∀ (xs : List D), (∀ x ∈ xs, Thing x) → ∀ (x8 x9 : Option D), ∃ y8 y9, forL (tdName 8) lookBody a xs (lw sc L d x6 x7 x8 x9) s = some (.nx (lw sc L d x6 x7 y8 y9) s)
  | [], _, x8, x9 => ⟨x8, x9, rfl⟩
  | t :: xs, h, x8, x9 => by
    obtain ⟨y9, e⟩ := look_turn H sc L d t (h t List.mem_cons_self) s hT x6 x7 x9
    obtain ⟨z8, z9, e2⟩ := look_all H sc L d s hT a ck x6 x7 xs (fun x hx => h x (List.mem_cons_of_mem _ hx)) (some t) y9
    exact ⟨z8, z9, (forL_cons (sl1 := lw sc L d x6 x7 (some t) x9) rfl e ck).trans e2⟩
end Pr

set_option Elab.async false
set_option linter.all false
set_option maxRecDepth 100000
set_option maxHeartbeats 8000000
namespace Pr
open PySem L2 PD
theorem law_of (H : IsKindOk) (ns : List Int) (_ : ns.length ≤ 63) : ∃ s, D_law [.scr (ns.map D.int)] [CT] = some (.ok (.bl true) s) := by
  let sc : D := .scr (ns.map D.int)
  obtain ⟨v2, _, _, e2⟩ := cell_i ns 2 [CT]
  obtain ⟨L, hL, hLs, eL⟩ := labels_eq v2 [CT]
  obtain ⟨v0, a0, b0, e0⟩ := cell_i ns 0 [CT]
  obtain ⟨v1, a1, b1, e1⟩ := cell_i ns 1 [CT]
  let A : Int := 1 + v0 % 2147483645
  let B : Int := 1 + v1 % 40
  let S1 : Sto := [CT, stC A B]
  obtain ⟨v3, a3, b3, e3⟩ := cell_i ns 3 S1
  let m0 : Int := 1 + v3 % 1000000
  let S3 : Sto := [CT, stC A B, .lst [], .lst [.int m0, .own 2]]
  obtain ⟨u1, c1, d1, f1'⟩ := cell_i ns 1 S3
  have hst : Stands S3 1 3 2 A B m0 [] := ⟨rfl, rfl, rfl, by decide, by decide, by decide⟩
  obtain ⟨d, A', B', M', kd, hsz, _, _, ek⟩ := kind_eq S3 1 3 2 A B m0 [] (2 + u1 / 40 % 11) L hst (by omega) (by omega) (fun _ z => by cases z) (by show 0 + (1 + v1 % 40).toNat ≤ 1000; omega) (by omega) hL hLs
  have hsz' : sz d ≤ 900 := by
    have hB : B.toNat ≤ 40 := by show (1 + v1 % 40).toNat ≤ 40; omega
    omega
  let K0 : Cell := stC A' B'
  let K1 : Cell := .lst (M'.map encW)
  let K2 : Cell := .lst [.int m0, .own 2]
  have ek' : D_kind [.own 1, .lst (L.map D.str), .own 3, .int (2 + u1 / 40 % 11)] S3 = some (.ok d [CT, K0, K1, K2]) := ek
  have z0 : small ([] : List D).length = true := small_of (by simp)
  have z2 : ∀ x y : D, small ([x, y] : List D).length = true := fun x y => small_of (by simp)
  have z1 : ∀ x : D, small ([x] : List D).length = true := fun x => small_of (by simp)
  refine ⟨[CT], ?_⟩
  have body : ∃ X, g_law [some sc, none, none, none, none, none, none, none, none, none] [CT] = some (.rt (.bl true) [CT, K0, K1, K2, .lst X]) := by
    unfold g_law
    -- 1
    have s1 : setS 1 (fCall 2 D_labels (fCons (fCall 2 D_cell (fCons (fVar 0) (fCons (fC (.int 2)) fNil))) (fCons (fC (.int 4)) fNil))) [some sc, none, none, none, none, none, none, none, none, none] [CT] = some (RS.nx [some sc, some (.lst (L.map D.str)), none, none, none, none, none, none, none, none] [CT]) := by
      refine setS_ok (d := .lst (L.map D.str)) (fCall_eq (ds := [.int v2, .int 4]) (s1 := [CT]) ?_ rfl eL)
      have := e2 (fC (.int 2)) [some sc, none, none, none, none, none, none, none, none, none] rfl rfl
      show bindM _ _ _ = _
      unfold bindM
      rw [this]
      rfl
    -- 2
    let sl1 : Sl := [some sc, some (.lst (L.map D.str)), none, none, none, none, none, none, none, none]
    have s2 : setS 2 (fOwn (fCons (f2 addO (fC (.int 1)) (f2 modO (fCall 2 D_cell (fCons (fVar 0) (fCons (fC (.int 0)) fNil))) (fC (.int 2147483645)))) (fCons (f2 addO (fC (.int 1)) (f2 modO (fCall 2 D_cell (fCons (fVar 0) (fCons (fC (.int 1)) fNil))) (fC (.int 40)))) fNil))) sl1 [CT] = some (RS.nx [some sc, some (.lst (L.map D.str)), some (.own 1), none, none, none, none, none, none, none] S1) := by
      have p0 := e0 (fC (.int 0)) sl1 rfl rfl
      have p1 := e1 (fC (.int 1)) sl1 rfl rfl
      have q0 : (f2 addO (fC (.int 1)) (f2 modO (fCall 2 D_cell (fCons (fVar 0) (fCons (fC (.int 0)) fNil))) (fC (.int 2147483645)))) sl1 [CT] = some (.ok (.int A) [CT]) := f2_of (x := .int 1) (y := .int (v0 % 2147483645)) (s1 := [CT]) rfl (f2_of (x := .int v0) (y := .int 2147483645) (s1 := [CT]) p0 rfl (by simp [modO])) rfl
      have q1 : (f2 addO (fC (.int 1)) (f2 modO (fCall 2 D_cell (fCons (fVar 0) (fCons (fC (.int 1)) fNil))) (fC (.int 40)))) sl1 [CT] = some (.ok (.int B) [CT]) := f2_of (x := .int 1) (y := .int (v1 % 40)) (s1 := [CT]) rfl (f2_of (x := .int v1) (y := .int 40) (s1 := [CT]) p1 rfl (by simp [modO])) rfl
      refine setS_ok (d := .own 1) (s' := S1) ?_
      have k : (fCons (f2 addO (fC (.int 1)) (f2 modO (fCall 2 D_cell (fCons (fVar 0) (fCons (fC (.int 0)) fNil))) (fC (.int 2147483645)))) (fCons (f2 addO (fC (.int 1)) (f2 modO (fCall 2 D_cell (fCons (fVar 0) (fCons (fC (.int 1)) fNil))) (fC (.int 40)))) fNil)) sl1 [CT] = some (.ok [.int A, .int B] [CT]) := by
        exact cons_of q0 (cons_of q1 rfl)
      show bindM _ _ _ = _
      unfold bindM
      rw [k]
      show (if small ([D.int A, D.int B] : List D).length = true then _ else none) = _
      rw [if_pos (z2 _ _)]
      rfl
    -- 3
    let sl2 : Sl := [some sc, some (.lst (L.map D.str)), some (.own 1), none, none, none, none, none, none, none]
    have s3 : setS 3 (fOwn (fCons (f2 addO (fC (.int 1)) (f2 modO (fCall 2 D_cell (fCons (fVar 0) (fCons (fC (.int 3)) fNil))) (f2 powO (fC (.int 10)) (fC (.int 6))))) (fCons (fOwn fNil) fNil))) sl2 S1 = some (RS.nx [some sc, some (.lst (L.map D.str)), some (.own 1), some (.own 3), none, none, none, none, none, none] S3) := by
      have p3 := e3 (fC (.int 3)) sl2 rfl rfl
      have hp : powO S1 (.int 10) (.int 6) = some (.int 1000000) := by simp [powO]
      have q3 : (f2 addO (fC (.int 1)) (f2 modO (fCall 2 D_cell (fCons (fVar 0) (fCons (fC (.int 3)) fNil))) (f2 powO (fC (.int 10)) (fC (.int 6))))) sl2 S1 = some (.ok (.int m0) S1) := f2_of (x := .int 1) (y := .int (v3 % 1000000)) (s1 := S1) rfl (f2_of (x := .int v3) (y := .int 1000000) (s1 := S1) p3 (f2_of (x := .int 10) (y := .int 6) (s1 := S1) rfl rfl hp) (by simp [modO])) rfl
      refine setS_ok (d := .own 3) (s' := S3) ?_
      have k0 : (fOwn fNil) sl2 S1 = some (.ok (.own 2) [CT, stC A B, .lst []]) := by
        show (if small ([] : List D).length = true then _ else none) = _
        rw [if_pos z0]
        rfl
      have k : (fCons (f2 addO (fC (.int 1)) (f2 modO (fCall 2 D_cell (fCons (fVar 0) (fCons (fC (.int 3)) fNil))) (f2 powO (fC (.int 10)) (fC (.int 6))))) (fCons (fOwn fNil) fNil)) sl2 S1 = some (.ok [.int m0, .own 2] [CT, stC A B, .lst []]) := by
        exact cons_of q3 (cons_of k0 rfl)
      show bindM _ _ _ = _
      unfold bindM
      rw [k]
      show (if small ([D.int m0, D.own 2] : List D).length = true then _ else none) = _
      rw [if_pos (z2 _ _)]
      rfl
    -- 4
    let sl3 : Sl := [some sc, some (.lst (L.map D.str)), some (.own 1), some (.own 3), none, none, none, none, none, none]
    have s4 : setS 4 (fCall 4 D_kind (fCons (fVar 2) (fCons (fVar 1) (fCons (fVar 3) (fCons (f2 addO (fC (.int 2)) (f2 modO (f2 fdivO (fCall 2 D_cell (fCons (fVar 0) (fCons (fC (.int 1)) fNil))) (fC (.int 40))) (fC (.int 11)))) fNil))))) sl3 S3 = some (RS.nx [some sc, some (.lst (L.map D.str)), some (.own 1), some (.own 3), some d, none, none, none, none, none] [CT, K0, K1, K2]) := by
      have p1 := f1' (fC (.int 1)) sl3 rfl rfl
      have q1 : (f2 addO (fC (.int 2)) (f2 modO (f2 fdivO (fCall 2 D_cell (fCons (fVar 0) (fCons (fC (.int 1)) fNil))) (fC (.int 40))) (fC (.int 11)))) sl3 S3 = some (.ok (.int (2 + u1 / 40 % 11)) S3) := f2_of (x := .int 2) (y := .int (u1 / 40 % 11)) (s1 := S3) rfl (f2_of (x := .int (u1 / 40)) (y := .int 11) (s1 := S3) (f2_of (x := .int u1) (y := .int 40) (s1 := S3) p1 rfl (by simp [fdivO])) rfl (by simp [modO])) rfl
      refine setS_ok (d := d) (fCall_eq (ds := [.own 1, .lst (L.map D.str), .own 3, .int (2 + u1 / 40 % 11)]) (s1 := S3) ?_ rfl ek')
      have k : fCons (f2 addO (fC (.int 2)) (f2 modO (f2 fdivO (fCall 2 D_cell (fCons (fVar 0) (fCons (fC (.int 1)) fNil))) (fC (.int 40))) (fC (.int 11)))) fNil sl3 S3 = some (.ok [.int (2 + u1 / 40 % 11)] S3) := by
        show bindM _ _ _ = _
        unfold bindM
        rw [q1]
        rfl
      have v2' : fVar 2 sl3 S3 = some (.ok (.own 1) S3) := rfl
      have v1' : fVar 1 sl3 S3 = some (.ok (.lst (L.map D.str)) S3) := rfl
      have v3' : fVar 3 sl3 S3 = some (.ok (.own 3) S3) := rfl
      exact cons_of v2' (cons_of v1' (cons_of v3' k))
    -- 5
    have s5 : setS 5 (fOwn (fCons (fVar 4) fNil)) [some sc, some (.lst (L.map D.str)), some (.own 1), some (.own 3), some d, none, none, none, none, none] [CT, K0, K1, K2] = some (RS.nx (lw sc L d none none none none) [CT, K0, K1, K2, .lst [d]]) := by
      refine setS_ok (d := .own 4) (s' := [CT, K0, K1, K2, .lst [d]]) ?_
      show (if small ([d] : List D).length = true then _ else none) = _
      rw [if_pos (z1 _)]
      rfl
    -- 6
    have td : Thing d := ⟨kd.dt, by omega⟩
    obtain ⟨t8, h8, r8⟩ := size_turn sc L hL hLs d 8 K0 K1 K2 [d] (by simp) none none none
    obtain ⟨t9, h9, r9⟩ := size_turn sc L hL hLs d 9 K0 K1 K2 ([d] ++ [t8]) (by simp) none none none
    have hi6 : (fIt (fLst (fCons (fC (.int 8)) (fCons (fC (.int 9)) fNil)))) (lw sc L d none none none none) [CT, K0, K1, K2, .lst [d]] = some (.ok ([.int 8, .int 9], none) [CT, K0, K1, K2, .lst [d]]) := by
      have k : (fLst (fCons (fC (.int 8)) (fCons (fC (.int 9)) fNil))) (lw sc L d none none none none) [CT, K0, K1, K2, .lst [d]] = some (.ok (.lst [.int 8, .int 9]) [CT, K0, K1, K2, .lst [d]]) := by
        have kk : (fCons (fC (.int 8)) (fCons (fC (.int 9)) fNil)) (lw sc L d none none none none) [CT, K0, K1, K2, .lst [d]] = some (.ok [.int 8, .int 9] [CT, K0, K1, K2, .lst [d]]) := cons_of rfl (cons_of rfl rfl)
        have hz := z2 (.int 8) (.int 9)
        simp only [fLst, bindM, kk, liftO, hz, if_true]
      show bindM _ _ _ = _
      unfold bindM
      rw [k]
      rfl
    have s6 : forS (tdName 6) (fIt (fLst (fCons (fC (.int 8)) (fCons (fC (.int 9)) fNil)))) sizeBody (lw sc L d none none none none) [CT, K0, K1, K2, .lst [d]] = some (RS.nx (lw sc L d (some (.int 9)) none none none) [CT, K0, K1, K2, .lst ([d] ++ [t8] ++ [t9])]) :=
      (forS_of hi6 (ck_none _ _)).trans ((forL_cons (sl1 := lw sc L d (some (.int 8)) none none none) rfl r8 (ck_none _ _)).trans (forL_cons (sl1 := lw sc L d (some (.int 9)) none none none) rfl r9 (ck_none _ _)))
    -- 7
    have hi7 : (fRng1 (fC (.int 4))) (lw sc L d (some (.int 9)) none none none) [CT, K0, K1, K2, .lst ([d] ++ [t8] ++ [t9])] = some (.ok (rangeD 0 4, none) [CT, K0, K1, K2, .lst ([d] ++ [t8] ++ [t9])]) := fRng1_of (d := .int ((4 : Nat) : Int)) rfl (rngO_nat (by decide))
    obtain ⟨sl', st', e7, X, x7, hsl, hst', hX, hXT⟩ := forL_range (T := tdName 7) (g := thingBody) (a := (rangeD 0 4, none)) (fun i sl s' => ∃ X x7, sl = lw sc L d (some (.int 9)) x7 none none ∧ s' = [CT, K0, K1, K2, .lst X] ∧ X.length = 3 + i ∧ ∀ x ∈ X, Thing x) 4
      (fun i sl s' hi ⟨X, x7, q1, q2, q3, q4⟩ => by
        subst q1 q2
        obtain ⟨t, ht, et⟩ := thing_turn ns L hL hLs d kd hsz' i K0 K1 K2 X (by omega) (some (.int 9)) none none
        refine ⟨lw sc L d (some (.int 9)) (some (.int (i : Nat))) none none, _, _, rfl, et, ck_none _ _, X ++ [t], some (.int (i : Nat)), rfl, rfl, by rw [List.length_append, q3]; rfl, fun x hx => ?_⟩
        rcases List.mem_append.mp hx with hx | hx
        · exact q4 x hx
        · rw [List.mem_singleton.mp hx]; exact ht) (lw sc L d (some (.int 9)) none none none) [CT, K0, K1, K2, .lst ([d] ++ [t8] ++ [t9])] ⟨[d] ++ [t8] ++ [t9], none, rfl, rfl, rfl, fun x hx => by
          simp only [List.mem_append, List.mem_singleton] at hx
          rcases hx with (rfl | rfl) | rfl
          · exact td
          · exact h8
          · exact h9⟩
    subst hsl hst'
    have s7 := (forS_of hi7 (ck_none _ _)).trans e7
    -- 8
    have hi8 : (fIt (f2 addO (fVar 5) (fSl (fVar 5) fNo (fSome (fC (.int 2)))))) (lw sc L d (some (.int 9)) x7 none none) [CT, K0, K1, K2, .lst X] = some (.ok (X ++ cutL X none (some 2), none) [CT, K0, K1, K2, .lst X]) := by
      have hlen : (cutL X none (some 2)).length ≤ 2 := by
        rw [show (2 : Int) = ((2 : Nat) : Int) from rfl, cut_take X 2 (by omega), List.length_take]
        omega
      have hs : small (X.length + (cutL X none (some 2)).length) = true := small_of (by omega)
      have ha : addO [CT, K0, K1, K2, .lst X] (.own 4) (.lst (cutL X none (some 2))) = some (.lst (X ++ cutL X none (some 2))) := by
        show (if small (X.length + (cutL X none (some 2)).length) = true then some (D.lst (X ++ cutL X none (some 2))) else none) = _
        rw [if_pos hs]
      have k : (f2 addO (fVar 5) (fSl (fVar 5) fNo (fSome (fC (.int 2))))) (lw sc L d (some (.int 9)) x7 none none) [CT, K0, K1, K2, .lst X] = some (.ok (.lst (X ++ cutL X none (some 2))) [CT, K0, K1, K2, .lst X]) := f2_of (x := .own 4) (y := .lst (cutL X none (some 2))) (s1 := [CT, K0, K1, K2, .lst X]) rfl rfl ha
      show bindM _ _ _ = _
      unfold bindM
      rw [k]
      rfl
    obtain ⟨y8, y9, e8⟩ := look_all H sc L d [CT, K0, K1, K2, .lst X] ⟨0, rfl⟩ (X ++ cutL X none (some 2), none) (ck_none _ _) (some (.int 9)) x7 (X ++ cutL X none (some 2)) (fun x hx => by
      rcases List.mem_append.mp hx with hx | hx
      · exact hXT x hx
      · rw [show (2 : Int) = ((2 : Nat) : Int) from rfl, cut_take X 2 (by omega)] at hx
        exact hXT x (List.mem_of_mem_take hx)) none none
    have s8 := (forS_of hi8 (ck_none _ _)).trans e8
    exact ⟨X, (seqS_nx s1).trans ((seqS_nx s2).trans ((seqS_nx s3).trans ((seqS_nx s4).trans ((seqS_nx s5).trans ((seqS_nx s6).trans ((seqS_nx s7).trans ((seqS_nx s8).trans (retS_ok rfl))))))))⟩
  obtain ⟨X, e⟩ := body
  unfold D_law
  exact fnD_rt (d := .bl true) (s' := [CT] ++ [K0, K1, K2, .lst X]) e (closeM_low (keep := false) (d := .bl true) (s := [CT]) (t := [CT]) (junk := [K0, K1, K2, .lst X]) rfl (keeps_refl _) rfl (fun k z => by cases z))
end Pr

set_option Elab.async false
set_option linter.all false
set_option maxRecDepth 100000
set_option maxHeartbeats 4000000
/-! Q1: words, numbers of blanks, fields, knots: what the program's looks give. -/
namespace Qk
open PySem L2 PD Pr
def wdB (x : Str) : Bool := (decide (1 ≤ (x.length : Int)) && decide ((x.length : Int) ≤ 8)) && x.cps.toList.all fun c => decide (97 ≤ c) && decide (c ≤ 122)
def wdD : D → Bool | .str x => wdB x | _ => false
def nbD : D → Bool | .int i => decide (0 ≤ i) | _ => false
theorem sign_le (c : Nat) : (!decide ([c] < (PySem.Str.ofString "a").cps.toList) && !decide ((PySem.Str.ofString "z").cps.toList < [c])) = (decide (97 ≤ c) && decide (c ≤ 122)) := by
  have ea : (PySem.Str.ofString "a").cps.toList = [97] := by decide +kernel
  have ez : (PySem.Str.ofString "z").cps.toList = [122] := by decide +kernel
  have lt1 : ∀ a b : Nat, ([a] < [b]) ↔ a < b := fun a b => by simp [List.cons_lt_cons_iff]
  rw [ea, ez]
  simp only [lt1]
  by_cases h1 : 97 ≤ c <;> by_cases h2 : c ≤ 122 <;> simp [h1, h2] <;> omega
theorem blank_number_eq (d : D) (s : Sto) (h : pd d = true) : D_is_blank_number [d] s = some (.ok (.bl (nbD d)) s) := by
  cases d with
  | own k => cases h
  | scr xs => cases h
  | par xs => cases h
  | int i => simp [D_is_blank_number, g_is_blank_number, fnD, seqS, setS, bindS, retS, retNS, exprS, ifS, asgS, setIxS, augS, augO, nextS, f1, f2, fN, bindM, liftO, retM, fVar, fC, fTup, fLst, fOwn, fCons, fNil, fB, fTru, fNot, fAnd, fOr, fAndV, fOrV, fIf, asB, truO, fCall, fM0, fM1, tdName, tdTup, tdCons, tdNil, isiO, tyName, isiT, notO, geO, close_bl, nbD]
  | bl b => simp [D_is_blank_number, g_is_blank_number, fnD, seqS, setS, bindS, retS, retNS, exprS, ifS, asgS, setIxS, augS, augO, nextS, f1, f2, fN, bindM, liftO, retM, fVar, fC, fTup, fLst, fOwn, fCons, fNil, fB, fTru, fNot, fAnd, fOr, fAndV, fOrV, fIf, asB, truO, fCall, fM0, fM1, tdName, tdTup, tdCons, tdNil, isiO, tyName, isiT, notO, geO, close_bl, nbD]
  | _ => simp [D_is_blank_number, g_is_blank_number, fnD, seqS, setS, bindS, retS, retNS, exprS, ifS, asgS, setIxS, augS, augO, nextS, f1, f2, fN, bindM, liftO, retM, fVar, fC, fTup, fLst, fOwn, fCons, fNil, fB, fTru, fNot, fAnd, fOr, fAndV, fOrV, fIf, asB, truO, fCall, fM0, fM1, tdName, tdTup, tdCons, tdNil, isiO, tyName, isiT, notO, geO, close_bl, nbD]
theorem word_eq (d : D) (s : Sto) (h : pd d = true) (hT : HasTab s "is_word") : D_is_word [d] s = some (.ok (.bl (wdD d)) s) := by
  have hT' : HasTab s (PySem.Str.ofString "is_word") := hT
  cases d with
  | own k => cases h
  | scr xs => cases h
  | par xs => cases h
  | str x =>
    have hx : x.length ≤ 1000000 := of_decide_eq_true h
    have hs : small x.length = true := smallOf (by omega)
    unfold D_is_word
    refine fnD_rt (d := .bl (wdB x)) (s' := s) ?_ (close_bl s _)
    unfold g_is_word
    have hc : (fChain leO leO (fC (.int 1)) (fN lenO (fCons (fVar 0) fNil)) (fC (.int 8))) [some (.str x), none] s = some (.ok (.bl (decide (1 ≤ (x.length : Int)) && decide ((x.length : Int) ≤ 8))) s) :=
      chain_ok (x := .int 1) (y := .int x.length) (z := .int 8) rfl (fN_ok (one_ok rfl) (by simp [lenO, hs])) rfl rfl rfl
    have ha : (fAllS "is_word" (fun c => !decide ([c] < (PySem.Str.ofString "a").cps.toList) && !decide ((PySem.Str.ofString "z").cps.toList < [c])) (fVar 0)) [some (.str x), none] s = some (.ok (.bl (x.cps.toList.all fun c => decide (97 ≤ c) && decide (c ≤ 122))) s) := by
      show bindM _ _ s = _
      unfold bindM
      show liftO _ s = _
      unfold liftO
      simp only [if_pos hT']
      simp only [sign_le]
    refine retS_ok (andV_t (s1 := s) (by simp [f1, bindM, liftO, fVar, isiO, tyName, isiT]) ?_)
    unfold wdB
    cases hb : (decide (1 ≤ (x.length : Int)) && decide ((x.length : Int) ≤ 8)) with
    | true => rw [hb] at hc; rw [Bool.true_and]; exact andV_t hc ha
    | false => rw [hb] at hc; rw [Bool.false_and]; exact andV_f hc
  | _ => simp [D_is_word, g_is_word, fnD, seqS, setS, bindS, retS, retNS, exprS, ifS, asgS, setIxS, augS, augO, nextS, f1, f2, fN, bindM, liftO, retM, fVar, fC, fTup, fLst, fOwn, fCons, fNil, fB, fTru, fNot, fAnd, fOr, fAndV, fOrV, fIf, asB, truO, fCall, fM0, fM1, tdName, tdTup, tdCons, tdNil, isiO, tyName, isiT, close_bl, wdD]
/-! ### fields -/
def lastLt (L : List Str) (y : Str) : Bool := match L.getLast? with | none => true | some z => !(leS y z)
/-- the pairs of a record's fields: the labels, rising -/
def fldsF : List D → List Str → Option (List Str)
  | [], L => some L
  | p :: fs, L => match p with
    | .tup [.str y, _] => if (wdB y && lastLt L y) = true then fldsF fs (L ++ [y]) else none
    | _ => none
def fldsD : D → Bool | .tup fs => (fldsF fs []).isSome | _ => false
theorem atL (L : List Str) (z : Str) (h : L.getLast? = some z) : atI (L.map D.str) (-1) = some (.str z) := by
  have hne : L ≠ [] := fun e => by subst e; cases h
  have hl : 0 < L.length := List.length_pos_iff.mpr hne
  have h1 : ixN (L.map D.str).length (-1) = some (L.length - 1) := by
    unfold ixN
    rw [List.length_map]
    rw [if_neg (by omega), if_pos (by omega)]
    congr 1
    omega
  unfold atI
  rw [h1]
  show (L.map D.str)[L.length - 1]? = _
  rw [List.getElem?_map, ← List.getLast?_eq_getElem?, h]
  rfl
noncomputable abbrev fldBody : SD := (seqS (ifS (fOr (fNot (fTru (f1 (isiO "tuple") (fVar 2)))) (fOr (fB (f2 (eqO true) (fN lenO (fCons (fVar 2) fNil)) (fC (.int 2)))) (fNot (fTru (fCall 1 D_is_word (fCons (f2 ixO (fVar 2) (fC (.int 0))) fNil)))))) (retS (fC (.bl false))) nextS)
    (seqS (ifS (fAnd (fTru (fVar 1)) (fB (f2 leO (f2 ixO (fVar 2) (fC (.int 0))) (f2 ixO (fVar 1) (f1 negO (fC (.int 1))))))) (retS (fC (.bl false))) nextS)
    (exprS (fM1 appendM (fVar 1) (fCons (f2 ixO (fVar 2) (fC (.int 0))) fNil)))))
def isT (d : D) : Bool := match d with | .tup _ => true | _ => false
theorem isi_t {f : Sl → M D} {sl : Sl} {s s1 : Sto} {d : D} (h : f sl s = some (.ok d s1)) (hd : pd d = true) : (fTru (f1 (isiO "tuple") f)) sl s = some (.ok (isT d) s1) := by
  refine tru_bl (f1_ok h ?_)
  cases d <;> first | rfl | cases hd
theorem len_eq {neg : Bool} {f : Sl → M D} {sl : Sl} {s s1 : Sto} {xs : List D} (n : Int) (h : f sl s = some (.ok (.tup xs) s1)) : (fB (f2 (eqO neg) (fN lenO (fCons f fNil)) (fC (.int n)))) sl s = some (.ok (ng neg (decide ((xs.length : Int) = n))) s1) :=
  fB_ok (f2_ok (x := .int xs.length) (y := .int n) (fN_ok (one_ok h) rfl) rfl (eqO_int _ _ _ _))
def fldOut (td p : D) (L : List Str) (s : Sto) : Option RS := match p with
  | .tup [.str y, _] => if (wdB y && lastLt L y) = true then some (.nx [some td, some (.own s.length), some p] (s ++ [.lst ((L ++ [y]).map D.str)])) else some (.rt (.bl false) (s ++ [.lst (L.map D.str)]))
  | _ => some (.rt (.bl false) (s ++ [.lst (L.map D.str)]))
theorem fldOut_len (td : D) (xs : List D) (L : List Str) (s : Sto) (h : xs.length ≠ 2) : fldOut td (.tup xs) L s = some (.rt (.bl false) (s ++ [.lst (L.map D.str)])) := by
  unfold fldOut
  split
  · rename_i he; cases he; exact absurd rfl h
  · rfl
theorem fld_step (td : D) (p : D) (L : List Str) (s : Sto) (hp : pd p = true) (hT : HasTab s "is_word") (hl : L.length ≤ 1000000) :
    fldBody [some td, some (.own s.length), some p] (s ++ [.lst (L.map D.str)]) = fldOut td p L s := by
  have hT2 : HasTab (s ++ [.lst (L.map D.str)]) "is_word" := by
    obtain ⟨k, hk⟩ := hT
    exact ⟨k, app_old hk _⟩
  have hv2 : fVar 2 [some td, some (.own s.length), some p] (s ++ [.lst (L.map D.str)]) = some (.ok p (s ++ [.lst (L.map D.str)])) := rfl
  have bad : ∀ {u : Sl → M Bool} {g2 : SD}, u [some td, some (.own s.length), some p] (s ++ [.lst (L.map D.str)]) = some (.ok true (s ++ [.lst (L.map D.str)])) → seqS (ifS u (retS (fC (.bl false))) nextS) g2 [some td, some (.own s.length), some p] (s ++ [.lst (L.map D.str)]) = some (.rt (.bl false) (s ++ [.lst (L.map D.str)])) := fun h => sq_ifret h rfl
  have hi := isi_t hv2 hp
  cases ht : isT p with
  | false =>
    rw [ht] at hi
    have e : fldOut td p L s = some (.rt (.bl false) (s ++ [.lst (L.map D.str)])) := by
      cases p <;> first | rfl | cases ht
    exact (bad (or_t (not_ok hi))).trans e.symm
  | true =>
    rw [ht] at hi
    obtain ⟨xs, rfl⟩ : ∃ xs, p = .tup xs := by cases p <;> first | exact ⟨_, rfl⟩ | cases ht
    have hn := len_eq (neg := true) 2 hv2
    by_cases h2 : xs.length = 2
    · obtain ⟨a, b, rfl⟩ : ∃ a b, xs = [a, b] := by
        match xs, h2 with
        | [a, b], _ => exact ⟨a, b, rfl⟩
      have ha : pd a = true := (pds_iff.mp hp) a (by simp)
      have hn' : (fB (f2 (eqO true) (fN lenO (fCons (fVar 2) fNil)) (fC (.int 2)))) [some td, some (.own s.length), some (.tup [a, b])] (s ++ [.lst (L.map D.str)]) = some (.ok false (s ++ [.lst (L.map D.str)])) := hn
      have hx0 : (f2 ixO (fVar 2) (fC (.int 0))) [some td, some (.own s.length), some (.tup [a, b])] (s ++ [.lst (L.map D.str)]) = some (.ok a (s ++ [.lst (L.map D.str)])) := f2_ok hv2 rfl ixT0
      have hw := tru_bl (call_ok (n := 1) (one_ok hx0) (word_eq a _ ha hT2))
      have bad2 : wdD a = false → fldBody [some td, some (.own s.length), some (.tup [a, b])] (s ++ [.lst (L.map D.str)]) = some (.rt (.bl false) (s ++ [.lst (L.map D.str)])) := fun e => by
        rw [e] at hw
        exact bad (or_f (not_ok hi) (or_f hn' (not_ok hw)))
      cases a with
      | str y =>
        unfold fldOut
        cases hy : wdB y with
        | false =>
          simp only [hy, Bool.false_and, Bool.false_eq_true, if_false]
          exact bad2 hy
        | true =>
          have hw' : fTru (fCall 1 D_is_word (fCons (f2 ixO (fVar 2) (fC (.int 0))) fNil)) [some td, some (.own s.length), some (.tup [.str y, b])] (s ++ [.lst (L.map D.str)]) = some (.ok true (s ++ [.lst (L.map D.str)])) := by
            rw [show wdD (.str y) = true from hy] at hw
            exact hw
          have hv1 : fVar 1 [some td, some (.own s.length), some (.tup [.str y, b])] (s ++ [.lst (L.map D.str)]) = some (.ok (.own s.length) (s ++ [.lst (L.map D.str)])) := rfl
          have hls : lsOf (s ++ [.lst (L.map D.str)]) (.own s.length) = some (L.map D.str) := by unfold lsOf; simp only [app_at]
          have htr : fTru (fVar 1) [some td, some (.own s.length), some (.tup [.str y, b])] (s ++ [.lst (L.map D.str)]) = some (.ok (!L.isEmpty) (s ++ [.lst (L.map D.str)])) := by
            unfold fTru bindM
            rw [hv1]
            simp only [liftO, truO, seqOf, hls, Option.map_some, List.isEmpty_map]
          have happ : fM1 appendM (fVar 1) (fCons (f2 ixO (fVar 2) (fC (.int 0))) fNil) [some td, some (.own s.length), some (.tup [.str y, b])] (s ++ [.lst (L.map D.str)]) = some (.ok .non (s ++ [.lst ((L ++ [y]).map D.str)])) := by
            refine m1_ok hv1 hls (one_ok hx0) ?_
            have hsm : small ((L.map D.str).length + 1) = true := smallOf (by rw [List.length_map]; omega)
            simp only [appendM, app_at, hsm, if_true, app_set, List.map_append, List.map_cons, List.map_nil]
          simp only [hy, Bool.true_and]
          refine sq_skip (or_f (not_ok hi) (or_f hn' (not_ok hw'))) ?_
          cases hL : L.getLast? with
          | none =>
            have hLe : L = [] := List.getLast?_eq_none_iff.mp hL
            subst hLe
            refine sq_skip (and_f htr) ?_
            rw [show lastLt [] y = true from rfl]
            simp only [if_true]
            exact exprS_ok happ
          | some z =>
            have hne : L.isEmpty = false := by cases L with | nil => cases hL | cons _ _ => rfl
            rw [hne] at htr
            have hle : (fB (f2 leO (f2 ixO (fVar 2) (fC (.int 0))) (f2 ixO (fVar 1) (f1 negO (fC (.int 1)))))) [some td, some (.own s.length), some (.tup [.str y, b])] (s ++ [.lst (L.map D.str)]) = some (.ok (leS y z) (s ++ [.lst (L.map D.str)])) := by
              refine fB_ok (f2_ok (x := .str y) (y := .str z) (s1 := s ++ [.lst (L.map D.str)]) hx0 (f2_ok (x := .own s.length) (y := .int (-1)) hv1 rfl ?_) ?_)
              · show (seqOf (s ++ [.lst (L.map D.str)]) (.own s.length)).bind _ = _
                simp only [seqOf, hls, Option.bind_some]
                exact atL L z hL
              · show some (D.bl (!decide (z.cps.toList < y.cps.toList))) = _
                unfold leS
                rw [PyProof.Rows.ltCps_eq]
            have hll : lastLt L y = !(leS y z) := by unfold lastLt; rw [hL]
            rw [hll]
            cases hq : leS y z with
            | true =>
              rw [hq] at hle
              simp only [Bool.not_true, Bool.false_eq_true, if_false]
              exact sq_ifret (and_t htr hle) rfl
            | false =>
              rw [hq] at hle
              refine sq_skip (and_t htr hle) ?_
              simp only [Bool.not_false, if_true]
              exact exprS_ok happ
      | _ => exact bad2 rfl
    · rw [decide_eq_false (by omega)] at hn
      exact (bad (or_f (not_ok hi) (or_t hn))).trans (fldOut_len td xs L s h2).symm
end Qk

set_option Elab.async false
set_option linter.all false
set_option maxRecDepth 100000
set_option maxHeartbeats 4000000
/-! Q2: fields, knots, the kinds right within one. -/
namespace Qk
open PySem L2 PD Pr
theorem ne_number_blank : (PySem.Str.ofString "number" = PySem.Str.ofString "blank") = False := eq_false (by decide +kernel)
theorem ne_number_record : (PySem.Str.ofString "number" = PySem.Str.ofString "record") = False := eq_false (by decide +kernel)
theorem ne_blank_number : (PySem.Str.ofString "blank" = PySem.Str.ofString "number") = False := eq_false (by decide +kernel)
theorem ne_blank_record : (PySem.Str.ofString "blank" = PySem.Str.ofString "record") = False := eq_false (by decide +kernel)
theorem ne_record_number : (PySem.Str.ofString "record" = PySem.Str.ofString "number") = False := eq_false (by decide +kernel)
theorem ne_record_blank : (PySem.Str.ofString "record" = PySem.Str.ofString "blank") = False := eq_false (by decide +kernel)
/-- how the walk over the pairs ends -/
def FldEnd (td : D) (s : Sto) (o : Option RS) : Option (List Str) → Prop
  | some L' => ∃ y2, o = some (.nx [some td, some (.own s.length), y2] (s ++ [.lst (L'.map D.str)]))
  | none => ∃ c, o = some (.rt (.bl false) (s ++ [c]))
theorem fld_loop (td : D) (s : Sto) (hT : HasTab s "is_word") (a : Src) (ha : a.2 = none) : ∀ (fs : List D) (L : List Str) (x2 : Option D), pds fs = true → L.length + fs.length ≤ 1000000 →
    FldEnd td s (forL (tdName 2) fldBody a fs [some td, some (.own s.length), x2] (s ++ [.lst (L.map D.str)])) (fldsF fs L)
  | [], L, x2, _, _ => ⟨x2, rfl⟩
  | p :: fs, L, x2, h, hl => by
    have h' : pd p = true ∧ pds fs = true := Bool.and_eq_true_iff.mp h
    have st := fld_step td p L s h'.1 hT (by omega)
    have hck : ∀ s2, Ck a s2 := fun s2 => by unfold Ck; rw [ha]; trivial
    rw [List.length_cons] at hl
    have T1 : tdName 2 p [some td, some (.own s.length), x2] = some [some td, some (.own s.length), some p] := rfl
    have bad : fldOut td p L s = some (.rt (.bl false) (s ++ [.lst (L.map D.str)])) → fldsF (p :: fs) L = none → FldEnd td s (forL (tdName 2) fldBody a (p :: fs) [some td, some (.own s.length), x2] (s ++ [.lst (L.map D.str)])) (fldsF (p :: fs) L) := fun e1 e2 => by
      rw [e2]
      exact ⟨_, forL_rt T1 (st.trans e1)⟩
    cases p with
    | tup xs =>
      by_cases h2 : xs.length = 2
      · obtain ⟨x, b, rfl⟩ : ∃ a b, xs = [a, b] := by
          match xs, h2 with
          | [a, b], _ => exact ⟨a, b, rfl⟩
        cases x with
        | str y =>
          cases hc : (wdB y && lastLt L y) with
          | true =>
            have e1 : fldOut td (.tup [.str y, b]) L s = some (.nx [some td, some (.own s.length), some (.tup [.str y, b])] (s ++ [.lst ((L ++ [y]).map D.str)])) := by unfold fldOut; simp only [hc, if_true]
            have e2 : fldsF (.tup [.str y, b] :: fs) L = fldsF fs (L ++ [y]) := by rw [fldsF]; simp only [hc, if_true]
            have e := fld_loop td s hT a ha fs (L ++ [y]) (some (.tup [.str y, b])) h'.2 (by rw [List.length_append]; simp; omega)
            rw [e2, forL_cons T1 (st.trans e1) (hck _)]
            exact e
          | false => exact bad (by unfold fldOut; simp only [hc]; rfl) (by rw [fldsF]; simp only [hc]; rfl)
        | _ => exact bad rfl rfl
      · exact bad (fldOut_len td xs L s h2) (by
          rw [fldsF]
          intro y hd he
          cases he
          exact absurd rfl h2)
    | _ => exact bad rfl rfl
theorem fields_eq (d : D) (s : Sto) (h : pd d = true) (hs : ∀ fs, d = .tup fs → fs.length ≤ 1000000) (hT : HasTab s "is_word") : D_are_fields [d] s = some (.ok (.bl (fldsD d)) s) := by
  unfold D_are_fields
  have hi := isi_t (f := fVar 0) (sl := [some d, none, none]) (s := s) (s1 := s) rfl h
  cases ht : isT d with
  | false =>
    rw [ht] at hi
    have e : fldsD d = false := by cases d <;> first | rfl | cases ht
    rw [e]
    exact fnD_rt (d := .bl false) (s' := s) (sq_ifret (not_ok hi) rfl) (close_bl s _)
  | true =>
    rw [ht] at hi
    obtain ⟨fs, rfl⟩ : ∃ xs, d = .tup xs := by cases d <;> first | exact ⟨_, rfl⟩ | cases ht
    have e := fld_loop (.tup fs) s hT (fs, none) rfl fs [] none h (by have := hs fs rfl; simpa using this)
    have hset : setS 1 (fOwn fNil) [some (.tup fs), none, none] s = some (.nx [some (.tup fs), some (.own s.length), none] (s ++ [.lst ([] : List D)])) := setS_ok (own_ok nil_ok small0)
    have hit : (fIt (fVar 0)) [some (.tup fs), some (.own s.length), none] (s ++ [.lst ([] : List D)]) = some (.ok (fs, none) (s ++ [.lst ([] : List D)])) := it_ok (x := .tup fs) rfl rfl
    have hf0 := forS_of (T := tdName 2) (g := fldBody) hit (ck_none _ _)
    cases hf : fldsF fs [] with
    | none =>
      rw [hf] at e
      obtain ⟨c, e⟩ := e
      have hfor := hf0.trans e
      have e2 : fldsD (.tup fs) = false := by show (fldsF fs []).isSome = false; rw [hf]; rfl
      rw [e2]
      refine fnD_rt (d := .bl false) (s' := s ++ [c]) ?_ (close_jbl s _ _)
      exact sq_skip (not_ok hi) (sq_nx hset (seqS_rt hfor))
    | some L' =>
      rw [hf] at e
      obtain ⟨y2, e⟩ := e
      have hfor := hf0.trans e
      have e2 : fldsD (.tup fs) = true := by show (fldsF fs []).isSome = true; rw [hf]; rfl
      rw [e2]
      refine fnD_rt (d := .bl true) (s' := s ++ [.lst (L'.map D.str)]) ?_ (close_jbl s _ _)
      exact sq_skip (not_ok hi) (sq_nx hset (sq_nx hfor (retS_ok rfl)))
/-! ### knots -/
def isNon (d : D) : Bool := match d with | .non => true | _ => false
def knotD (d : D) : Bool := match d with
  | .tup [.str w] => decide (w = SS "number")
  | .tup [.str w, x] => decide (w = SS "blank") && nbD x
  | .tup [.str w, f, x] => decide (w = SS "record") && (fldsD f && (isNon x || nbD x))
  | _ => false
/-- an item beside a written text -/
def isW (x : D) (w : Str) : Bool := match x with | .str y => decide (y = w) | _ => false
theorem eq_word (x : D) (s : Sto) (w : Str) (h : pd x = true) : eqO false s x (.str w) = some (.bl (isW x w)) := by
  cases x with
  | own k => cases h
  | scr xs => cases h
  | par xs => cases h
  | str y => exact eqO_str _ _ _ _
  | lst xs => exact eqO_seqStr rfl
  | tup xs => exact eqO_seqStr rfl
  | non => rfl
  | bl b => rfl
  | int i => rfl
theorem is_word_t {f : Sl → M D} {sl : Sl} {s s1 : Sto} {x : D} (w : Str) (h : f sl s = some (.ok x s1)) (hx : pd x = true) : (fB (f2 (eqO false) f (fC (.str w)))) sl s = some (.ok (isW x w) s1) := fB_ok (f2_ok h rfl (eq_word x s1 w hx))
theorem knot_eq (d : D) (s : Sto) (h : pd d = true) (hs : ∀ w fs r, d = .tup (w :: .tup fs :: r) → fs.length ≤ 1000000) (hT : HasTab s "is_word") : D_is_knot [d] s = some (.ok (.bl (knotD d)) s) := by
  unfold D_is_knot
  refine fnD_rt (d := .bl (knotD d)) (s' := s) ?_ (close_bl s _)
  unfold g_is_knot
  have hv : fVar 0 [some d] s = some (.ok d s) := rfl
  have hi := isi_t hv h
  show seqS _ _ [some d] s = _
  cases ht : isT d with
  | false =>
    rw [ht] at hi
    have e : knotD d = false := by cases d <;> first | rfl | cases ht
    rw [e]
    exact sq_ifret (or_t (not_ok hi)) rfl
  | true =>
    rw [ht] at hi
    obtain ⟨xs, rfl⟩ : ∃ xs, d = .tup xs := by cases d <;> first | exact ⟨_, rfl⟩ | cases ht
    have ln := fun (n : Int) => len_eq (neg := false) n hv
    have lnV : ∀ n : Int, (f2 (eqO false) (fN lenO (fCons (fVar 0) fNil)) (fC (.int n))) [some (.tup xs)] s = some (.ok (.bl (decide ((xs.length : Int) = n))) s) := fun n => f2_ok (x := .int xs.length) (y := .int n) (fN_ok (one_ok hv) rfl) rfl (eqO_int _ _ _ _)
    cases xs with
    | nil => exact sq_ifret (or_f (not_ok hi) (ln 0)) rfl
    | cons x0 rest =>
      have l0 := ln 0
      rw [decide_eq_false (by rw [List.length_cons]; omega)] at l0
      refine sq_skip (or_f (not_ok hi) l0) ?_
      have hx : pd x0 = true := (pds_iff.mp h) x0 (by simp)
      have hx0 : (f2 ixO (fVar 0) (fC (.int 0))) [some (.tup (x0 :: rest))] s = some (.ok x0 s) := f2_ok hv rfl ixT0
      have tw := fun (w : Str) => is_word_t w hx0 hx
      by_cases c1 : isW x0 (SS "number") = true
      · have t1 := tw (SS "number")
        rw [c1] at t1
        refine sq_ifret t1 ?_
        rw [lnV 1]
        obtain ⟨y, rfl⟩ : ∃ y, x0 = .str y := by cases x0 <;> first | exact ⟨_, rfl⟩ | cases c1
        have hy : y = SS "number" := of_decide_eq_true c1
        subst hy
        congr 3
        match rest with
        | [] => rfl
        | [x] =>
          show decide (((2 : Nat) : Int) = 1) = (decide (SS "number" = SS "blank") && nbD x)
          rw [decide_eq_false (show ¬ (SS "number" = SS "blank") by simp only [ne_number_blank, ne_number_record, ne_blank_number, ne_blank_record, ne_record_number, ne_record_blank]; exact id)]
          rfl
        | [f, x] =>
          show decide (((3 : Nat) : Int) = 1) = (decide (SS "number" = SS "record") && (fldsD f && (isNon x || nbD x)))
          rw [decide_eq_false (show ¬ (SS "number" = SS "record") by simp only [ne_number_blank, ne_number_record, ne_blank_number, ne_blank_record, ne_record_number, ne_record_blank]; exact id)]
          rfl
        | a :: b :: c :: r =>
          rw [decide_eq_false (by simp only [List.length_cons]; omega)]
          rfl
      · have c1' := Bool.eq_false_iff.mpr c1
        have t1 := tw (SS "number")
        rw [c1'] at t1
        refine sq_skip t1 ?_
        by_cases c2 : isW x0 (SS "blank") = true
        · have t2 := tw (SS "blank")
          rw [c2] at t2
          obtain ⟨y, rfl⟩ : ∃ y, x0 = .str y := by cases x0 <;> first | exact ⟨_, rfl⟩ | cases c2
          have hy : y = SS "blank" := of_decide_eq_true c2
          subst hy
          refine sq_ifret t2 ?_
          match rest with
          | [] => exact andV_f (lnV 2)
          | [x] =>
            have hxx : pd x = true := (pds_iff.mp h) x (by simp)
            refine (andV_t (lnV 2) (call_ok (n := 1) (one_ok (f2_ok hv rfl ixT1)) (blank_number_eq x s hxx))).trans ?_
            rfl
          | [f, x] =>
            refine (andV_f (lnV 2)).trans ?_
            show _ = some (R.ok (D.bl (decide (SS "blank" = SS "record") && (fldsD f && (isNon x || nbD x)))) s)
            rw [decide_eq_false (show ¬ (SS "blank" = SS "record") by simp only [ne_number_blank, ne_number_record, ne_blank_number, ne_blank_record, ne_record_number, ne_record_blank]; exact id)]
            rfl
          | a :: b :: c :: r =>
            have l2 := lnV 2
            rw [decide_eq_false (by simp only [List.length_cons]; omega)] at l2
            exact andV_f l2
        · have c2' := Bool.eq_false_iff.mpr c2
          have t2 := tw (SS "blank")
          rw [c2'] at t2
          refine sq_skip t2 ?_
          by_cases c3 : isW x0 (SS "record") = true
          · have t3 := tw (SS "record")
            rw [c3] at t3
            obtain ⟨y, rfl⟩ : ∃ y, x0 = .str y := by cases x0 <;> first | exact ⟨_, rfl⟩ | cases c3
            have hy : y = SS "record" := of_decide_eq_true c3
            subst hy
            match rest, hs, h, hx0, ln, hv with
            | [], hs, h, hx0, ln, hv =>
              refine (sq_skip (and_t t3 (ln 3)) rfl).trans ?_
              show some (RS.rt (D.bl false) s) = some (RS.rt (D.bl (decide (SS "record" = SS "number"))) s)
              rw [decide_eq_false (show ¬ (SS "record" = SS "number") by simp only [ne_number_blank, ne_number_record, ne_blank_number, ne_blank_record, ne_record_number, ne_record_blank]; exact id)]
            | [x], hs, h, hx0, ln, hv =>
              refine (sq_skip (and_t t3 (ln 3)) rfl).trans ?_
              show some (RS.rt (D.bl false) s) = some (RS.rt (D.bl (decide (SS "record" = SS "blank") && nbD x)) s)
              rw [decide_eq_false (show ¬ (SS "record" = SS "blank") by simp only [ne_number_blank, ne_number_record, ne_blank_number, ne_blank_record, ne_record_number, ne_record_blank]; exact id)]
              rfl
            | [f, x], hs, h, hx0, ln, hv =>
              have hf : pd f = true := (pds_iff.mp h) f (by simp)
              have hxx : pd x = true := (pds_iff.mp h) x (by simp)
              refine sq_ifret (and_t t3 (ln 3)) ?_
              have cf := call_ok (n := 1) (one_ok (f2_ok (f := fVar 0) (g := fC (.int 1)) (o := ixO) (x := .tup [.str (SS "record"), f, x]) (y := .int 1) hv rfl ixT1)) (fields_eq f s hf (fun fs e => hs _ fs _ (by rw [e])) hT)
              have cn := call_ok (n := 1) (one_ok (f2_ok (f := fVar 0) (g := fC (.int 2)) (o := ixO) (x := .tup [.str (SS "record"), f, x]) (y := .int 2) hv rfl ixT2)) (blank_number_eq x s hxx)
              have ci : (f2 (isNO false) (f2 ixO (fVar 0) (fC (.int 2))) (fC .non)) [some (.tup [.str (SS "record"), f, x])] s = some (.ok (.bl (isNon x)) s) :=
                f2_ok (x := x) (y := .non) (f2_ok (x := .tup [.str (SS "record"), f, x]) (y := .int 2) hv rfl ixT2) rfl (by cases x <;> rfl)
              show _ = some (R.ok (D.bl (decide (SS "record" = SS "record") && (fldsD f && (isNon x || nbD x)))) s)
              rw [decide_eq_true (show SS "record" = SS "record" from rfl), Bool.true_and]
              cases e1 : fldsD f with
              | false => rw [e1] at cf; rw [Bool.false_and]; exact andV_f cf
              | true =>
                rw [e1] at cf
                rw [Bool.true_and]
                refine andV_t cf ?_
                cases e2 : isNon x with
                | true => rw [e2] at ci; rw [Bool.true_or]; exact orV_t ci
                | false => rw [e2] at ci; rw [Bool.false_or]; exact orV_f ci cn
            | a :: b :: c :: r, hs, h, hx0, ln, hv =>
              have l3 := ln 3
              rw [decide_eq_false (by simp only [List.length_cons]; omega)] at l3
              exact (sq_skip (and_t t3 l3) rfl).trans rfl
          · have c3' := Bool.eq_false_iff.mpr c3
            have t3 := tw (SS "record")
            rw [c3'] at t3
            refine (sq_skip (and_f t3) rfl).trans ?_
            have e : knotD (.tup (x0 :: rest)) = false := by
              cases x0 with
              | str y =>
                match rest with
                | [] => exact c1'
                | [x] =>
                  show (decide (y = SS "blank") && _) = false
                  rw [show decide (y = SS "blank") = false from c2']
                  rfl
                | [f, x] =>
                  show (decide (y = SS "record") && _) = false
                  rw [show decide (y = SS "record") = false from c3']
                  rfl
                | a :: b :: c :: r => rfl
              | _ => match rest with
                | [] => rfl
                | [x] => rfl
                | [f, x] => rfl
                | a :: b :: c :: r => rfl
            rw [e]
            rfl
end Qk

set_option Elab.async false
set_option linter.all false
set_option maxRecDepth 100000
set_option maxHeartbeats 4000000
/-! Q3: kinds as a type of their own; has_form. -/
namespace Qk
open PySem L2 PD Pr
-- WORDS number blank record
mutual
inductive Ki where
  | num | bl (i : Int) | rc (fs : Fs) (r : Option Int)
inductive Fs where
  | nil | cons (l : Str) (k : Ki) (t : Fs)
end
def encR : Option Int → D | none => .non | some i => .int i
mutual
def Ki.enc : Ki → D
  | .num => .tup [.str (SS "number")]
  | .bl i => .tup [.str (SS "blank"), .int i]
  | .rc fs r => .tup [.str (SS "record"), .tup fs.encs, encR r]
def Fs.encs : Fs → List D
  | .nil => []
  | .cons l k t => .tup [.str l, k.enc] :: t.encs
end
def Fs.labs : Fs → List Str
  | .nil => []
  | .cons l _ t => l :: t.labs
mutual
def Ki.kn : Ki → Nat
  | .num => 1 | .bl _ => 1 | .rc fs _ => fs.kns + 1
def Fs.kns : Fs → Nat
  | .nil => 0 | .cons _ k t => k.kn + t.kns
end
mutual
def Ki.dep : Ki → Nat
  | .num => 1 | .bl _ => 1 | .rc fs _ => fs.deps + 1
def Fs.deps : Fs → Nat
  | .nil => 0 | .cons _ k t => max k.dep t.deps
end
def okR : Option Int → Bool | none => true | some i => decide (0 ≤ i)
/-- labels that are words and rise, behind these -/
def riseF : List Str → List Str → Bool
  | [], _ => true
  | y :: ys, L => (wdB y && lastLt L y) && riseF ys (L ++ [y])
mutual
/-- the form of a kind -/
def Ki.ok : Ki → Bool
  | .num => true | .bl i => decide (0 ≤ i) | .rc fs r => riseF fs.labs [] && okR r && fs.oks
def Fs.oks : Fs → Bool
  | .nil => true | .cons _ k t => k.ok && t.oks
end
abbrev Ents := List (Int × Option (List Str))
mutual
/-- the numbers that stand in it, and where -/
def Ki.ents : Ki → Ents
  | .num => [] | .bl i => [(i, none)] | .rc fs r => fs.entss ++ (match r with | none => [] | some i => [(i, some fs.labs)])
def Fs.entss : Fs → Ents
  | .nil => [] | .cons _ k t => k.ents ++ t.entss
end
theorem Ki.kn_pos : ∀ k : Ki, 0 < k.kn
  | .num => by simp [Ki.kn]
  | .bl _ => by simp [Ki.kn]
  | .rc _ _ => by simp [Ki.kn]
/-! ### from data -/
def decFs (G : D → Option Ki) : List D → Option Fs
  | [] => some .nil
  | p :: t => match p with
    | .tup [.str y, b] => match G b with
      | some k => match decFs G t with
        | some r => some (.cons y k r)
        | none => none
      | none => none
    | _ => none
def decR : D → Option Int | .int i => some i | _ => none
def decK : Nat → D → Option Ki
  | 0, _ => none
  | l + 1, d => if knotD d = true then (match d with
    | .tup [_] => some .num
    | .tup [_, .int i] => some (.bl i)
    | .tup [_, .tup fs, x] => (decFs (decK l) fs).map fun F => .rc F (decR x)
    | _ => none) else none
theorem flds_labs {G : D → Option Ki} : ∀ {fs : List D} {F : Fs}, decFs G fs = some F → ∀ L, fldsF fs L = if riseF F.labs L = true then some (L ++ F.labs) else none
  | [], F, h, L => by cases h; simp [fldsF, riseF, Fs.labs]
  | p :: t, F, h, L => by
    unfold decFs at h
    split at h
    · rename_i y b
      split at h
      · rename_i k hk
        split at h
        · rename_i r hr
          cases h
          have ih := fun L => flds_labs hr L
          rw [fldsF]
          show _ = if ((wdB y && lastLt L y) && riseF r.labs (L ++ [y])) = true then some (L ++ y :: r.labs) else none
          cases hc : (wdB y && lastLt L y) with
          | true =>
            simp only [if_true, Bool.true_and]
            rw [ih]
            simp
          | false => simp
        · cases h
      · cases h
    · cases h
theorem decFs_encs {G : D → Option Ki} (hG : ∀ d k, G d = some k → d = k.enc) : ∀ {fs : List D} {F : Fs}, decFs G fs = some F → fs = F.encs
  | [], F, h => by cases h; rfl
  | p :: t, F, h => by
    unfold decFs at h
    split at h
    · split at h
      · rename_i k hk
        split at h
        · rename_i r hr
          cases h
          rw [hG _ _ hk, decFs_encs hG hr]
          rfl
        · cases h
      · cases h
    · cases h
theorem decFs_ok {G : D → Option Ki} {n : Nat} (hG : ∀ d k, G d = some k → k.ok = true ∧ k.dep ≤ n) : ∀ {fs : List D} {F : Fs}, decFs G fs = some F → F.oks = true ∧ F.deps ≤ n
  | [], F, h => by cases h; exact ⟨rfl, Nat.zero_le _⟩
  | p :: t, F, h => by
    unfold decFs at h
    split at h
    · split at h
      · rename_i k hk
        split at h
        · rename_i r hr
          cases h
          obtain ⟨a1, a2⟩ := hG _ _ hk
          obtain ⟨b1, b2⟩ := decFs_ok hG hr
          refine ⟨?_, ?_⟩
          · show (k.ok && r.oks) = true
            rw [a1, b1]; rfl
          · show max k.dep r.deps ≤ n
            omega
        · cases h
      · cases h
    · cases h
theorem decK_enc : ∀ (l : Nat) (d : D) (k : Ki), decK l d = some k → d = k.enc ∧ k.ok = true ∧ k.dep ≤ l
  | 0, _, _, h => by cases h
  | l + 1, d, k, h => by
    unfold decK at h
    split at h
    · rename_i hk
      split at h
      · rename_i x
        cases h
        refine ⟨?_, rfl, by simp [Ki.dep]⟩
        cases x with
        | str w => rw [show w = SS "number" from of_decide_eq_true hk]; rfl
        | _ => cases hk
      · rename_i x i
        cases h
        cases x with
        | str w =>
          have hk' : (decide (w = SS "blank") && decide (0 ≤ i)) = true := hk
          obtain ⟨h1, h2⟩ := Bool.and_eq_true_iff.mp hk'
          rw [of_decide_eq_true h1]
          exact ⟨rfl, h2, by simp [Ki.dep]⟩
        | _ => cases hk
      · rename_i w fs x
        cases hF : decFs (decK l) fs with
        | none => rw [hF] at h; cases h
        | some F =>
          rw [hF] at h
          cases h
          have e1 := decFs_encs (fun d k h => (decK_enc l d k h).1) hF
          obtain ⟨o1, o2⟩ := decFs_ok (n := l) (fun d k h => (decK_enc l d k h).2) hF
          cases w with
          | str w =>
            have hk' : (decide (w = SS "record") && ((fldsF fs []).isSome && (isNon x || nbD x))) = true := hk
            obtain ⟨h1, h2⟩ := Bool.and_eq_true_iff.mp hk'
            obtain ⟨h3, h4⟩ := Bool.and_eq_true_iff.mp h2
            have hr : encR (decR x) = x ∧ okR (decR x) = true := by
              cases x with
              | non => exact ⟨rfl, rfl⟩
              | int i => exact ⟨rfl, h4⟩
              | _ => cases h4
            have h5 : riseF F.labs [] = true := by
              rw [flds_labs hF []] at h3
              by_cases q : riseF F.labs [] = true
              · exact q
              · rw [if_neg q] at h3; cases h3
            refine ⟨?_, ?_, ?_⟩
            · rw [of_decide_eq_true h1, e1]
              show _ = D.tup [.str (SS "record"), .tup F.encs, encR (decR x)]
              rw [hr.1]
            · show (riseF F.labs [] && okR (decR x) && F.oks) = true
              rw [h5, hr.2, o1]; rfl
            · show F.deps + 1 ≤ l + 1
              omega
          | _ => cases hk
      · cases h
    · cases h
theorem encs_flds {F : Fs} : ∀ L, fldsF F.encs L = if riseF F.labs L = true then some (L ++ F.labs) else none := by
  have go : ∀ (F : Fs) L, fldsF F.encs L = if riseF F.labs L = true then some (L ++ F.labs) else none := by
    intro F
    induction F using Fs.rec (motive_1 := fun _ => True) with
    | num => trivial
    | bl i => trivial
    | rc fs r ih => trivial
    | nil => intro L; simp [Fs.encs, fldsF, riseF, Fs.labs]
    | cons y k t ihk ih =>
      intro L
      show fldsF (.tup [.str y, k.enc] :: t.encs) L = if ((wdB y && lastLt L y) && riseF t.labs (L ++ [y])) = true then some (L ++ y :: t.labs) else none
      rw [fldsF]
      cases hc : (wdB y && lastLt L y) with
      | true =>
        simp only [if_true, Bool.true_and]
        rw [ih]
        simp
      | false => simp
  exact go F
theorem knot_enc : ∀ k : Ki, k.ok = true → knotD k.enc = true
  | .num, _ => decide_eq_true (rfl : SS "number" = SS "number")
  | .bl i, h => by
    show (decide (SS "blank" = SS "blank") && decide (0 ≤ i)) = true
    rw [decide_eq_true (rfl : SS "blank" = SS "blank"), show decide (0 ≤ i) = true from h]; rfl
  | .rc fs r, h => by
    have h' : (riseF fs.labs [] && okR r && fs.oks) = true := h
    obtain ⟨h1, h2⟩ := Bool.and_eq_true_iff.mp h'
    obtain ⟨h3, h4⟩ := Bool.and_eq_true_iff.mp h1
    show (decide (SS "record" = SS "record") && ((fldsF fs.encs []).isSome && (isNon (encR r) || nbD (encR r)))) = true
    rw [decide_eq_true (rfl : SS "record" = SS "record"), encs_flds, if_pos h3]
    cases r with
    | none => rfl
    | some i => show (true && (true && (false || decide (0 ≤ i)))) = true; rw [show decide (0 ≤ i) = true from h4]; rfl
mutual
theorem enc_decK : ∀ (k : Ki) (l : Nat), k.ok = true → k.dep ≤ l → decK l k.enc = some k
  | .num, 0, _, h => by simp [Ki.dep] at h
  | .bl i, 0, _, h => by simp [Ki.dep] at h
  | .rc fs r, 0, _, h => by simp [Ki.dep] at h
  | .num, l + 1, h, _ => by
    unfold decK
    rw [if_pos (knot_enc _ h)]
    rfl
  | .bl i, l + 1, h, _ => by
    unfold decK
    rw [if_pos (knot_enc _ h)]
    rfl
  | .rc fs r, l + 1, h, hd => by
    have h' : (riseF fs.labs [] && okR r && fs.oks) = true := h
    have h2 := (Bool.and_eq_true_iff.mp h').2
    have hd' : fs.deps + 1 ≤ l + 1 := hd
    unfold decK
    rw [if_pos (knot_enc _ h)]
    show (decFs (decK l) fs.encs).map (fun F => Ki.rc F (decR (encR r))) = _
    rw [encs_decFs fs l h2 (by omega)]
    cases r <;> rfl
theorem encs_decFs : ∀ (fs : Fs) (l : Nat), fs.oks = true → fs.deps ≤ l → decFs (decK l) fs.encs = some fs
  | .nil, _, _, _ => rfl
  | .cons y k t, l, h, hd => by
    have h' : (k.ok && t.oks) = true := h
    obtain ⟨h1, h2⟩ := Bool.and_eq_true_iff.mp h'
    have hd' : max k.dep t.deps ≤ l := hd
    show decFs (decK l) (.tup [.str y, k.enc] :: t.encs) = _
    unfold decFs
    simp only [enc_decK k l h1 (by omega), encs_decFs t l h2 (by omega)]
end
/-! ### knots counted -/
def sndD (p : D) : D := match p with | .tup [_, b] => b | _ => .non
/-- the kinds right within a knot -/
def kidsD (d : D) : List D := match d with | .tup [_, .tup fs, _] => fs.map sndD | _ => []
def valD (l : Nat) (d : D) : Option Nat := (decK l d).map Ki.kn
def addO2 : Option Nat → Option Nat → Option Nat | some a, some b => some (a + b) | _, _ => none
def vals (l : Nat) : List D → Option Nat
  | [] => some 0
  | d :: t => addO2 (valD l d) (vals l t)
theorem vals_dec (l : Nat) : ∀ {fs : List D}, (∀ p ∈ fs, ∃ y b, p = .tup [.str y, b]) → vals l (fs.map sndD) = (decFs (decK l) fs).map Fs.kns
  | [], _ => rfl
  | p :: t, h => by
    obtain ⟨y, b, rfl⟩ := h p List.mem_cons_self
    have ih := vals_dec l (fs := t) fun q hq => h q (List.mem_cons_of_mem _ hq)
    show addO2 (valD l b) (vals l (t.map sndD)) = _
    rw [ih, decFs]
    unfold valD
    cases decK l b with
    | none => rfl
    | some k =>
      cases decFs (decK l) t with
      | none => rfl
      | some r => rfl
theorem flds_pairs : ∀ {fs : List D} {L : List Str}, (fldsF fs L).isSome = true → ∀ p ∈ fs, ∃ y b, p = .tup [.str y, b]
  | [], _, _, p, hp => by cases hp
  | q :: t, L, h, p, hp => by
    rw [fldsF.eq_def] at h
    simp only at h
    split at h
    · rename_i y b
      split at h
      · rcases List.mem_cons.mp hp with rfl | hp
        · exact ⟨_, _, rfl⟩
        · exact flds_pairs h p hp
      · cases h
    · cases h
theorem knot_kids (d : D) (h : knotD d = true) : (∃ x, d = .tup [x]) ∨ (∃ x i, d = .tup [x, .int i]) ∨ (∃ fs x, d = .tup [.str (SS "record"), .tup fs, x] ∧ (fldsF fs []).isSome = true) := by
  unfold knotD at h
  split at h
  · exact .inl ⟨_, rfl⟩
  · rename_i w x
    obtain ⟨_, h2⟩ := Bool.and_eq_true_iff.mp h
    cases x with
    | int i => exact .inr (.inl ⟨_, _, rfl⟩)
    | _ => cases h2
  · rename_i w f x
    obtain ⟨h1, h2⟩ := Bool.and_eq_true_iff.mp h
    obtain ⟨h3, _⟩ := Bool.and_eq_true_iff.mp h2
    cases f with
    | tup fs => exact .inr (.inr ⟨fs, x, by rw [of_decide_eq_true h1], h3⟩)
    | _ => cases h3
  · cases h
theorem valD_step (l : Nat) (d : D) (h : knotD d = true) : valD (l + 1) d = (vals l (kidsD d)).map (· + 1) := by
  unfold valD decK
  rw [if_pos h]
  rcases knot_kids d h with ⟨x, rfl⟩ | ⟨x, i, rfl⟩ | ⟨fs, x, rfl, hf⟩
  · rfl
  · rfl
  · show ((decFs (decK l) fs).map fun F => Ki.rc F (decR x)).map Ki.kn = (vals l (fs.map sndD)).map (· + 1)
    rw [vals_dec l (flds_pairs hf)]
    cases decFs (decK l) fs <;> rfl
theorem valD_bad (l : Nat) (d : D) (h : knotD d = false) : valD l d = none := by
  cases l with
  | zero => rfl
  | succ l => unfold valD decK; rw [h]; rfl
end Qk

set_option Elab.async false
set_option linter.all false
set_option maxRecDepth 100000
set_option maxHeartbeats 4000000
/-! Q4: kinds_within, has_form. -/
namespace Qk
open PySem L2 PD Pr
-- WORDS number blank record
mutual
/-- how much data -/
def szD : D → Nat
  | .lst xs => szsD xs + 1 | .tup xs => szsD xs + 1 | .scr xs => szsD xs + 1 | .par xs => szsD xs + 1
  | .non => 1 | .bl _ => 1 | .int _ => 1 | .str _ => 1 | .own _ => 1
def szsD : List D → Nat
  | [] => 0 | x :: xs => szD x + szsD xs
end
theorem szD_pos (d : D) : 0 < szD d := by cases d <;> simp [szD]
theorem szsD_len : ∀ ds : List D, ds.length ≤ szsD ds
  | [] => Nat.le_refl _
  | d :: ds => by
    have := szsD_len ds
    have := szD_pos d
    simp only [szsD, List.length_cons]
    omega
theorem szsD_mem : ∀ {ds : List D} {d : D}, d ∈ ds → szD d ≤ szsD ds
  | x :: xs, d, h => by
    rcases List.mem_cons.mp h with rfl | h
    · simp only [szsD]; omega
    · have := szsD_mem h
      simp only [szsD]; omega
theorem szsD_append : ∀ xs ys : List D, szsD (xs ++ ys) = szsD xs + szsD ys
  | [], ys => by simp [szsD]
  | x :: xs, ys => by
    have := szsD_append xs ys
    simp only [List.cons_append, szsD]
    omega
theorem lcL_snd {s : Sto} {sl0 : Sl} {a : Src} (i j : Nat) (f : Sl → M D) (g : D → D → D) (ck : Ck a s)
    (hf : ∀ y b : D, ∃ sl1, tdTup (tdCons (tdName i) (tdCons (tdName j) tdNil)) (.tup [y, b]) sl0 = some sl1 ∧ f sl1 s = some (.ok (g y b) s)) :
    ∀ (fs : List D), (∀ p ∈ fs, ∃ y b, p = .tup [.str y, b]) → lcL (tdTup (tdCons (tdName i) (tdCons (tdName j) tdNil))) fYes f a sl0 fs s = some (.ok (fs.map fun p => match p with | .tup [y, b] => g y b | _ => .non) s) := fun fs h =>
  lcL_map (fun p => match p with | .tup [y, b] => g y b | _ => .non) ck fs fun p hp => by
    obtain ⟨y, b, rfl⟩ := h p hp
    obtain ⟨sl1, e1, e2⟩ := hf (.str y) b
    exact ⟨sl1, e1, rfl, e2⟩
theorem snd_lc {sl : Sl} {s : Sto} {f : Sl → M D} {x : D} {fs : List D} {r : D} {e : Sl → M D} (i j : Nat) (hi : f sl s = some (.ok (.tup (x :: .tup fs :: [r])) s)) (h : ∀ p ∈ fs, ∃ y b, p = .tup [.str y, b]) (hs : fs.length ≤ 16777216)
    (g : D → D → D) (hf : ∀ y b : D, ∃ sl1, tdTup (tdCons (tdName i) (tdCons (tdName j) tdNil)) (.tup [y, b]) (wipeS sl [i, j]) = some sl1 ∧ e sl1 s = some (.ok (g y b) s)) :
    (fLc (tdTup (tdCons (tdName i) (tdCons (tdName j) tdNil))) fYes e (fIt (f2 ixO f (fC (.int 1)))) [i, j]) sl s = some (.ok (.lst (fs.map fun p => match p with | .tup [y, b] => g y b | _ => .non)) s) := by
  refine fLc_pure (xs := fs) (it_ok (x := .tup fs) (f2_ok (x := .tup (x :: .tup fs :: [r])) (y := .int 1) hi rfl ixT1) rfl) (lcL_snd i j e g (ck_none _ _) hf fs h) ?_
  rw [List.length_map]
  exact hs
theorem isW_ne {a b : Str} (h : (a = b) = False) : isW (.str a) b = false := by simp [isW, h]
theorem isW_self (a : Str) : isW (.str a) a = true := by simp [isW]
theorem within_eq (d : D) (s : Sto) (hp : pd d = true) (h : knotD d = true) (hs : szD d ≤ 1000000) : D_kinds_within [d] s = some (.ok (.lst (kidsD d)) s) := by
  have hsz : ∀ w fs r, d = .tup (w :: .tup fs :: r) → fs.length ≤ 1000000 := fun w fs r e => by
    subst e
    have := szsD_len fs
    simp only [szD, szsD] at hs
    omega
  have fin : ∀ ys : List D, (∀ y ∈ ys, D.low s.length y = true) → closeM false s (.lst ys) s = some (.ok (.lst ys) s) := fun ys hy => close_low s _ (lowAll_iff.mpr hy) (fun _ z => nomatch z)
  have hlow : ∀ y ∈ kidsD d, D.low s.length y = true := fun y hy => by
    have hd := pd_low d hp
    rcases knot_kids d h with ⟨x, rfl⟩ | ⟨x, i, rfl⟩ | ⟨fs, x, rfl, hf⟩
    · cases hy
    · cases hy
    · obtain ⟨p, hpm, rfl⟩ := List.mem_map.mp hy
      obtain ⟨y', b, rfl⟩ := flds_pairs hf p hpm
      have h1 : pd (.tup fs) = true := (pds_iff.mp hp) _ (by simp)
      have h2 : pd (.tup [.str y', b]) = true := (pds_iff.mp h1) _ hpm
      have h3 : pd b = true := (pds_iff.mp h2) _ (by simp)
      exact low_mono (Nat.zero_le _) _ (pd_low b h3)
  unfold D_kinds_within
  refine fnD_rt (d := .lst (kidsD d)) (s' := s) ?_ (fin _ hlow)
  unfold g_kinds_within
  have hv : fVar 0 [some d, none, none] s = some (.ok d s) := rfl
  show retS _ [some d, none, none] s = _
  have no : ∀ x r, d = .tup (x :: r) → pd x = true → isW x (SS "record") = false → kidsD d = [] → retS (fIf (fB (f2 (eqO false) (f2 ixO (fVar 0) (fC (.int 0))) (fC (.str (PySem.Str.ofString "record"))))) (fLc (tdTup (tdCons (tdName 1) (tdCons (tdName 2) tdNil))) fYes (fVar 2) (fIt (f2 ixO (fVar 0) (fC (.int 1)))) [1, 2]) (fLst fNil)) [some d, none, none] s = some (.rt (.lst (kidsD d)) s) := fun x r e hx hw hk => by
    subst e
    rw [hk]
    have t := is_word_t (SS "record") (f2_ok (f := fVar 0) (g := fC (.int 0)) (x := .tup (x :: r)) (y := .int 0) (o := ixO) hv rfl ixT0) hx
    rw [hw] at t
    exact retS_ok (if_f t (lst_ok nil_ok small0))
  rcases knot_kids d h with ⟨x, rfl⟩ | ⟨x, i, rfl⟩ | ⟨fs, x, rfl, hf⟩
  · refine no x [] rfl ((pds_iff.mp hp) _ (by simp)) ?_ rfl
    cases x with
    | str w =>
      rw [show w = SS "number" from of_decide_eq_true h]
      exact isW_ne ne_number_record
    | _ => rfl
  · refine no x [.int i] rfl ((pds_iff.mp hp) _ (by simp)) ?_ rfl
    cases x with
    | str w =>
      have h' : (decide (w = SS "blank") && nbD (.int i)) = true := h
      rw [show w = SS "blank" from of_decide_eq_true (Bool.and_eq_true_iff.mp h').1]
      exact isW_ne ne_blank_record
    | _ => rfl
  · have t := is_word_t (SS "record") (f2_ok (f := fVar 0) (g := fC (.int 0)) (y := .int 0) (o := ixO) hv rfl ixT0) (by have := (pds_iff.mp hp) (.str (SS "record")) (by simp); exact this)
    have t' : (fB (f2 (eqO false) (f2 ixO (fVar 0) (fC (.int 0))) (fC (.str (SS "record"))))) [some (.tup [.str (SS "record"), .tup fs, x]), none, none] s = some (.ok true s) := t.trans (by rw [isW_self])
    refine retS_ok (if_t t' ((snd_lc 1 2 hv (flds_pairs hf) (by have := hsz _ fs _ rfl; omega) (fun _ b => b) (fun y b => ⟨_, rfl, rfl⟩)).trans ?_))
    have : fs.map (fun p => match p with | .tup [y, b] => b | _ => .non) = fs.map sndD := List.map_congr_left fun p hpm => by
      obtain ⟨y', b, rfl⟩ := flds_pairs hf p hpm
      rfl
    rw [this]
    rfl
end Qk

set_option Elab.async false
set_option linter.all false
set_option maxRecDepth 100000
set_option maxHeartbeats 4000000
/-! Q5: has_form. -/
namespace Qk
open PySem L2 PD Pr
noncomputable abbrev formBody : SD := (seqS (asgS (tdTup (tdCons (tdName 4) (tdCons (tdName 5) tdNil))) (fM0 popM (fVar 2)))
    (seqS (augS 3 (fun i j => i + j) (fC (.int 1)))
    (seqS (ifS (fAnd (fB (f2 (isNO true) (fVar 1) (fC .non))) (fB (f2 gtO (fVar 3) (fVar 1)))) (retS (fC (.bl false))) nextS)
    (seqS (ifS (fOr (fB (f2 gtO (fVar 5) (fC (.int 12)))) (fNot (fTru (fCall 1 D_is_knot (fCons (fVar 4) fNil))))) (retS (fC (.bl false))) nextS)
    (exprS (fM1 extendM (fVar 2) (fCons (fLc (tdName 6) fYes (fTup (fCons (fVar 6) (fCons (f2 addO (fVar 5) (fC (.int 1))) fNil))) (fIt (fCall 1 D_kinds_within (fCons (fVar 4) fNil))) [6]) fNil)))))))
def encP (p : D × Nat) : D := .tup [p.1, .int (p.2 : Nat)]
def szP : List (D × Nat) → Nat | [] => 0 | p :: t => szD p.1 + szP t
theorem szP_append : ∀ xs ys : List (D × Nat), szP (xs ++ ys) = szP xs + szP ys
  | [], ys => by simp [szP]
  | x :: xs, ys => by
    have := szP_append xs ys
    simp only [List.cons_append, szP]
    omega
theorem szP_len : ∀ xs : List (D × Nat), xs.length ≤ szP xs
  | [] => Nat.le_refl _
  | x :: xs => by
    have := szP_len xs
    have := szD_pos x.1
    simp only [szP, List.length_cons]
    omega
theorem szP_map (k : Nat) : ∀ ds : List D, szP (ds.map fun d => (d, k)) = szsD ds
  | [] => rfl
  | d :: ds => by
    have := szP_map k ds
    simp only [List.map_cons, szP, szsD]
    omega
def tot : List (D × Nat) → Option Nat | [] => some 0 | p :: t => addO2 (valD (13 - p.2) p.1) (tot t)
theorem addO2_assoc (a b c : Option Nat) : addO2 (addO2 a b) c = addO2 a (addO2 b c) := by
  cases a <;> cases b <;> cases c <;> simp [addO2, Nat.add_assoc]
theorem tot_append : ∀ xs ys : List (D × Nat), tot (xs ++ ys) = addO2 (tot xs) (tot ys)
  | [], ys => by cases h : tot ys <;> simp [tot, addO2, h]
  | x :: xs, ys => by
    show addO2 _ (tot (xs ++ ys)) = addO2 (addO2 _ (tot xs)) (tot ys)
    rw [tot_append xs ys, addO2_assoc]
theorem tot_map (k : Nat) : ∀ ds : List D, tot (ds.map fun d => (d, k)) = vals (13 - k) ds
  | [] => rfl
  | d :: ds => by
    show addO2 _ (tot (ds.map fun d => (d, k))) = addO2 _ _
    rw [tot_map k ds]
def moD : Option Nat → D | none => .non | some q => .int (q : Nat)
/-- what the walk finds: these, when n are counted already -/
def frm (X : List (D × Nat)) (n : Nat) (mo : Option Nat) : Bool := match tot X with
  | none => false
  | some m => match mo with | none => true | some q => decide (n + m ≤ q)
theorem szsD_kids (d : D) : szsD (kidsD d) ≤ szD d - 1 := by
  have hsnd : ∀ fs : List D, szsD (fs.map sndD) ≤ szsD fs := by
    intro fs
    induction fs with
    | nil => exact Nat.le_refl _
    | cons p t ih =>
      have h1 : szD (sndD p) ≤ szD p := by
        unfold sndD
        split
        · simp only [szD, szsD]; omega
        · have := szD_pos p; simp only [szD]; omega
      simp only [List.map_cons, szsD]
      omega
  unfold kidsD
  split
  · rename_i w fs x
    have := hsnd fs
    simp only [szD, szsD]
    omega
  · simp [szsD]
theorem pd_kids (d : D) (h : pd d = true) (hk : knotD d = true) : ∀ c ∈ kidsD d, pd c = true := by
  intro c hc
  rcases knot_kids d hk with ⟨x, rfl⟩ | ⟨x, i, rfl⟩ | ⟨fs, x, rfl, hf⟩
  · cases hc
  · cases hc
  · obtain ⟨p, hpm, rfl⟩ := List.mem_map.mp hc
    obtain ⟨y', b, rfl⟩ := flds_pairs hf p hpm
    have h1 : pd (.tup fs) = true := (pds_iff.mp h) _ (by simp)
    have h2 : pd (.tup [.str y', b]) = true := (pds_iff.mp h1) _ hpm
    exact (pds_iff.mp h2) b (by simp)
theorem tot_pos {X : List (D × Nat)} {p : D × Nat} {m : Nat} (h : tot (X ++ [p]) = some m) : 1 ≤ m := by
  rw [tot_append] at h
  cases h1 : tot X with
  | none => rw [h1] at h; cases h
  | some a =>
    rw [h1] at h
    have h2 : addO2 (some a) (addO2 (valD (13 - p.2) p.1) (some 0)) = some m := h
    cases hv : valD (13 - p.2) p.1 with
    | none => rw [hv] at h2; cases h2
    | some v =>
      rw [hv] at h2
      have : a + (v + 0) = m := Option.some.inj h2
      unfold valD at hv
      cases hk : decK (13 - p.2) p.1 with
      | none => rw [hk] at hv; cases hv
      | some k =>
        rw [hk] at hv
        have : k.kn = v := Option.some.inj hv
        have := k.kn_pos
        omega
def over (mo : Option Nat) (n : Nat) : Bool := match mo with | none => false | some q => decide (q < n + 1)
theorem form_loop (s : Sto) (hT : HasTab s "is_word") (td : D) (mo : Option Nat) : ∀ (N : Nat) (X : List (D × Nat)) (n : Nat) (x4 x5 x6 : Option D), szP X ≤ N → (∀ p ∈ X, pd p.1 = true) → szP X ≤ 900000 → (∀ q, mo = some q → n ≤ q) →
    ∃ n' y4 y5 y6 X', whileS (fTru (fVar 2)) formBody [some td, some (moD mo), some (.own s.length), some (.int (n : Nat)), x4, x5, x6] (s ++ [.lst (X.map encP)]) =
      if frm X n mo = true then some (.nx [some td, some (moD mo), some (.own s.length), some (.int n'), y4, y5, y6] (s ++ [.lst []])) else some (.rt (.bl false) (s ++ [.lst X'])) := by
  intro N
  induction N with
  | zero =>
    intro X n x4 x5 x6 hN hp hs hn
    have hX : X = [] := by
      have := szP_len X
      cases X with
      | nil => rfl
      | cons _ _ => simp at this; omega
    subst hX
    refine ⟨n, x4, x5, x6, [], ?_⟩
    have hf : frm [] n mo = true := by
      unfold frm tot
      cases mo with
      | none => rfl
      | some q => exact decide_eq_true (by have := hn q rfl; omega)
    rw [if_pos hf]
    exact wh_stop (tru_own (xs := []) rfl (app_at _ _ _))
  | succ N ih =>
    intro X n x4 x5 x6 hN hp hs hn
    rcases List.eq_nil_or_concat X with rfl | ⟨Y, p, rfl⟩
    · refine ⟨n, x4, x5, x6, [], ?_⟩
      have hf : frm [] n mo = true := by
        unfold frm tot
        cases mo with
        | none => rfl
        | some q => exact decide_eq_true (by have := hn q rfl; omega)
      rw [if_pos hf]
      exact wh_stop (tru_own (xs := []) rfl (app_at _ _ _))
    · rw [List.concat_eq_append] at *
      obtain ⟨d, k⟩ := p
      have hpd : pd d = true := hp (d, k) (by simp)
      have hsz : szP Y + szD d = szP (Y ++ [(d, k)]) := by rw [szP_append]; simp [szP]
      have hlenY := szP_len Y
      have hu : fTru (fVar 2) [some td, some (moD mo), some (.own s.length), some (.int (n : Nat)), x4, x5, x6] (s ++ [.lst ((Y ++ [(d, k)]).map encP)]) = some (.ok true (s ++ [.lst ((Y ++ [(d, k)]).map encP)])) := by
        refine (tru_own (xs := (Y ++ [(d, k)]).map encP) rfl (app_at _ _ _)).trans ?_
        simp
      have e0 : (Y ++ [(d, k)]).map encP = Y.map encP ++ [encP (d, k)] := by simp
      have s1 : asgS (tdTup (tdCons (tdName 4) (tdCons (tdName 5) tdNil))) (fM0 popM (fVar 2)) [some td, some (moD mo), some (.own s.length), some (.int (n : Nat)), x4, x5, x6] (s ++ [.lst ((Y ++ [(d, k)]).map encP)]) = some (.nx [some td, some (moD mo), some (.own s.length), some (.int (n : Nat)), some d, some (.int (k : Nat)), x6] (s ++ [.lst (Y.map encP)])) := by
        refine asg_ok (d := encP (d, k)) ((pop_own (xs := Y.map encP) (y := encP (d, k)) rfl (by rw [app_at, e0])).trans ?_) rfl
        rw [app_set]
      let sl2 : Sl := [some td, some (moD mo), some (.own s.length), some (.int ((n + 1 : Nat) : Int)), some d, some (.int (k : Nat)), x6]
      let t := s ++ [Cell.lst (Y.map encP)]
      have hTt : HasTab t "is_word" := by
        obtain ⟨j, hj⟩ := hT
        exact ⟨j, app_old hj _⟩
      have s2 : augS 3 (fun i j => i + j) (fC (.int 1)) [some td, some (moD mo), some (.own s.length), some (.int (n : Nat)), some d, some (.int (k : Nat)), x6] t = some (.nx sl2 t) := aug_ok (a := (n : Nat)) (b := 1) rfl rfl
      have hmo : (fAnd (fB (f2 (isNO true) (fVar 1) (fC .non))) (fB (f2 gtO (fVar 3) (fVar 1)))) sl2 t = some (.ok (over mo n) t) := by
        cases mo with
        | none => exact and_f (fB_ok (f2_ok (x := .non) (y := .non) rfl rfl rfl))
        | some q =>
          refine and_t (s1 := t) (fB_ok (f2_ok (x := .int (q : Nat)) (y := .non) rfl rfl rfl)) (fB_ok (f2_ok (x := .int ((n + 1 : Nat) : Int)) (y := .int (q : Nat)) (s1 := t) rfl rfl ?_))
          show some (D.bl (decide (((q : Nat) : Int) < ((n + 1 : Nat) : Int)))) = _
          congr 2
          exact decide_eq_decide.mpr (by omega)
      have out : ∀ X', frm (Y ++ [(d, k)]) n mo = false → formBody [some td, some (moD mo), some (.own s.length), some (.int (n : Nat)), x4, x5, x6] (s ++ [.lst ((Y ++ [(d, k)]).map encP)]) = some (.rt (.bl false) (s ++ [.lst X'])) →
          ∃ n' y4 y5 y6 X', whileS (fTru (fVar 2)) formBody [some td, some (moD mo), some (.own s.length), some (.int (n : Nat)), x4, x5, x6] (s ++ [.lst ((Y ++ [(d, k)]).map encP)]) =
            if frm (Y ++ [(d, k)]) n mo = true then some (.nx [some td, some (moD mo), some (.own s.length), some (.int n'), y4, y5, y6] (s ++ [.lst []])) else some (.rt (.bl false) (s ++ [.lst X'])) := fun X' hf hb => by
        refine ⟨0, none, none, none, X', ?_⟩
        rw [hf]
        exact wh_rt hu hb
      by_cases c1 : over mo n = true
      · rw [c1] at hmo
        refine out _ ?_ (sq_nx s1 (sq_nx s2 (sq_ifret hmo rfl)))
        unfold frm
        cases htot : tot (Y ++ [(d, k)]) with
        | none => rfl
        | some m =>
          cases mo with
          | none => cases c1
          | some q =>
            have := tot_pos htot
            have h2 : q < n + 1 := of_decide_eq_true c1
            exact decide_eq_false (by omega)
      · rw [Bool.eq_false_iff.mpr c1] at hmo
        have hn1 : ∀ q, mo = some q → n + 1 ≤ q := fun q e => by
          subst e
          have h2 : ¬ q < n + 1 := fun h => c1 (decide_eq_true h)
          omega
        have hkn := knot_eq d t hpd (fun w fs r e => by
          subst e
          have := szsD_len fs
          simp only [szD, szsD] at hsz
          omega) hTt
        have hdeep : (fB (f2 gtO (fVar 5) (fC (.int 12)))) sl2 t = some (.ok (decide (12 < k)) t) := by
          refine fB_ok (f2_ok (x := .int (k : Nat)) (y := .int 12) rfl rfl ?_)
          show some (D.bl (decide ((12 : Int) < ((k : Nat) : Int)))) = _
          congr 2
          exact decide_eq_decide.mpr (by omega)
        have hnot : (fNot (fTru (fCall 1 D_is_knot (fCons (fVar 4) fNil)))) sl2 t = some (.ok (!knotD d) t) := not_ok (tru_bl (call_ok (ds := [d]) (one_ok rfl) hkn))
        have badv : valD (13 - k) d = none → frm (Y ++ [(d, k)]) n mo = false := fun hv => by
          unfold frm
          rw [tot_append]
          have : tot [(d, k)] = none := by
            show addO2 (valD (13 - k) d) (some 0) = none
            rw [hv]; rfl
          rw [this]
          cases tot Y <;> rfl
        by_cases c2 : 12 < k
        · rw [decide_eq_true c2] at hdeep
          refine out _ (badv ?_) (sq_nx s1 (sq_nx s2 (sq_skip hmo (sq_ifret (or_t hdeep) rfl))))
          rw [show 13 - k = 0 by omega]
          rfl
        · rw [decide_eq_false c2] at hdeep
          cases c3 : knotD d with
          | false =>
            rw [c3] at hnot
            exact out _ (badv (valD_bad _ _ c3)) (sq_nx s1 (sq_nx s2 (sq_skip hmo (sq_ifret (or_f hdeep hnot) rfl))))
          | true =>
            rw [c3] at hnot
            have hwi := within_eq d t hpd c3 (by omega)
            let X2 := Y ++ (kidsD d).map fun c => (c, k + 1)
            have hkl := szsD_kids d
            have hsd := szD_pos d
            have hX2 : szP X2 = szP Y + szsD (kidsD d) := by rw [szP_append, szP_map]
            have hlc : (fLc (tdName 6) fYes (fTup (fCons (fVar 6) (fCons (f2 addO (fVar 5) (fC (.int 1))) fNil))) (fIt (fCall 1 D_kinds_within (fCons (fVar 4) fNil))) [6]) sl2 t = some (.ok (.lst ((kidsD d).map fun c => .tup [c, .int ((k + 1 : Nat) : Int)])) t) := by
              refine fLc_pure (xs := kidsD d) (it_ok (x := .lst (kidsD d)) (call_ok (ds := [d]) (one_ok rfl) hwi) rfl) (lcL_map (fun c => .tup [c, .int ((k + 1 : Nat) : Int)]) (ck_none _ _) (kidsD d) fun c hc => ⟨_, rfl, rfl, ?_⟩) ?_
              · exact tup_ok (two_ok (x := c) (y := .int ((k + 1 : Nat) : Int)) (s1 := t) rfl (f2_ok (x := .int (k : Nat)) (y := .int 1) (s1 := t) rfl rfl rfl)) small2
              · have := szsD_len (kidsD d)
                rw [List.length_map]
                omega
            have s5 : exprS (fM1 extendM (fVar 2) (fCons (fLc (tdName 6) fYes (fTup (fCons (fVar 6) (fCons (f2 addO (fVar 5) (fC (.int 1))) fNil))) (fIt (fCall 1 D_kinds_within (fCons (fVar 4) fNil))) [6]) fNil)) sl2 t = some (.nx sl2 (s ++ [.lst (X2.map encP)])) := by
              have hk2 := szsD_len (kidsD d)
              refine exprS_ok (d := .non) ((ext_own (k := s.length) (xs := Y.map encP) rfl ⟨_, app_at _ _ _⟩ hlc rfl (app_at _ _ _) (by simp only [List.length_map]; omega)).trans ?_)
              rw [app_set]
              simp [X2, encP]
            have hbody : formBody [some td, some (moD mo), some (.own s.length), some (.int (n : Nat)), x4, x5, x6] (s ++ [.lst ((Y ++ [(d, k)]).map encP)]) = some (.nx sl2 (s ++ [.lst (X2.map encP)])) :=
              sq_nx s1 (sq_nx s2 (sq_skip hmo (sq_skip (or_f hdeep hnot) s5)))
            obtain ⟨n', y4, y5, y6, X', e⟩ := ih X2 (n + 1) (some d) (some (.int (k : Nat))) x6 (by omega) (fun q hq => by
              rcases List.mem_append.mp hq with hq | hq
              · exact hp q (by simp [hq])
              · obtain ⟨c, hc, rfl⟩ := List.mem_map.mp hq
                exact pd_kids d hpd c3 c hc) (by omega) hn1
            have hfr : frm X2 (n + 1) mo = frm (Y ++ [(d, k)]) n mo := by
              have e1 : tot (Y ++ [(d, k)]) = addO2 (tot Y) ((vals (12 - k) (kidsD d)).map (· + 1)) := by
                rw [tot_append]
                congr 1
                show addO2 (valD (13 - k) d) (some 0) = _
                rw [show 13 - k = (12 - k) + 1 by omega, valD_step _ _ c3]
                cases vals (12 - k) (kidsD d) <;> simp [addO2]
              have e2 : tot X2 = addO2 (tot Y) (vals (12 - k) (kidsD d)) := by
                show tot (Y ++ _) = _
                rw [tot_append, tot_map, show 13 - (k + 1) = 12 - k by omega]
              unfold frm
              rw [e1, e2]
              cases tot Y with
              | none => rfl
              | some a =>
                cases vals (12 - k) (kidsD d) with
                | none => rfl
                | some b =>
                  cases mo with
                  | none => rfl
                  | some q =>
                    show decide (n + 1 + (a + b) ≤ q) = decide (n + (a + (b + 1)) ≤ q)
                    exact decide_eq_decide.mpr (by omega)
            rw [hfr] at e
            refine ⟨n', y4, y5, y6, X', ?_⟩
            split
            · rename_i hc
              rw [if_pos hc] at e
              exact wh_nx hu hbody e
            · rename_i hc
              rw [if_neg hc] at e
              exact wh_nx hu hbody e
/-- a thing has the form of a kind: the kind it is -/
def formK (d : D) (mo : Option Nat) : Bool := frm [(d, 1)] 0 mo
theorem form_eq (d : D) (mo : Option Nat) (s : Sto) (h : pd d = true) (hs : szD d ≤ 900000) (hT : HasTab s "is_word") : D_has_form [d, moD mo] s = some (.ok (.bl (formK d mo)) s) := by
  obtain ⟨n', y4, y5, y6, X', e⟩ := form_loop s hT d mo (szP [(d, 1)]) [(d, 1)] 0 none none none (Nat.le_refl _) (fun p hp => by rw [List.mem_singleton.mp hp]; exact h) (by simpa [szP] using hs) (fun _ _ => Nat.zero_le _)
  unfold D_has_form
  have s1 : setS 2 (fOwn (fCons (fTup (fCons (fVar 0) (fCons (fC (.int 1)) fNil))) fNil)) [some d, some (moD mo), none, none, none, none, none] s = some (.nx [some d, some (moD mo), some (.own s.length), none, none, none, none] (s ++ [.lst ([(d, 1)].map encP)])) :=
    setS_ok (own_ok (one_ok (tup_ok (two_ok (x := d) (y := .int 1) (s1 := s) rfl rfl) small2)) small1)
  have s2 : setS 3 (fC (.int 0)) [some d, some (moD mo), some (.own s.length), none, none, none, none] (s ++ [.lst ([(d, 1)].map encP)]) = some (.nx [some d, some (moD mo), some (.own s.length), some (.int ((0 : Nat) : Int)), none, none, none] (s ++ [.lst ([(d, 1)].map encP)])) := setS_ok rfl
  unfold formK
  by_cases hf : frm [(d, 1)] 0 mo = true
  · rw [if_pos hf] at e
    rw [hf]
    exact fnD_rt (d := .bl true) (s' := s ++ [.lst []]) (sq_nx s1 (sq_nx s2 (sq_nx e (retS_ok rfl)))) (close_jbl s _ _)
  · rw [if_neg hf] at e
    rw [Bool.eq_false_iff.mpr hf]
    exact fnD_rt (d := .bl false) (s' := s ++ [.lst X']) (sq_nx s1 (sq_nx s2 (seqS_rt e))) (close_jbl s _ _)
theorem formK_iff (d : D) (mo : Option Nat) : formK d mo = true ↔ ∃ k : Ki, decK 12 d = some k ∧ ∀ q, mo = some q → k.kn ≤ q := by
  unfold formK frm tot valD tot
  show (match addO2 ((decK 12 d).map Ki.kn) (some 0) with | none => false | some m => match mo with | none => true | some q => decide (0 + m ≤ q)) = true ↔ _
  cases decK 12 d with
  | none => exact ⟨fun h => (by cases h), fun ⟨k, h, _⟩ => (by cases h)⟩
  | some k =>
    cases mo with
    | none => exact ⟨fun _ => ⟨k, rfl, fun q h => (by cases h)⟩, fun _ => rfl⟩
    | some q =>
      show decide (0 + (k.kn + 0) ≤ q) = true ↔ _
      constructor
      · intro h
        have := of_decide_eq_true h
        exact ⟨k, rfl, fun q' e => by cases e; omega⟩
      · intro ⟨k', h1, h2⟩
        cases h1
        have := h2 q rfl
        exact decide_eq_true (by omega)
end Qk

set_option Elab.async false
set_option linter.all false
set_option maxRecDepth 100000
set_option maxHeartbeats 4000000
/-! Q6: standing. -/
namespace Qk
open PySem L2 PD Pr
-- WORDS number blank record
def Fs.kids : Fs → List Ki | .nil => [] | .cons _ k t => k :: t.kids
def Ki.kids : Ki → List Ki | .rc fs _ => fs.kids | _ => []
def Ki.num? : Ki → Option Int | .num => none | .bl i => some i | .rc _ r => r
def Ki.lab : Ki → Option (List Str) | .rc fs _ => some fs.labs | _ => none
def Ki.entry (k : Ki) : Ents := match k.num? with | none => [] | some i => [(i, k.lab)]
def knL : List Ki → Nat | [] => 0 | k :: t => k.kn + knL t
theorem knL_append : ∀ xs ys : List Ki, knL (xs ++ ys) = knL xs + knL ys
  | [], ys => by simp [knL]
  | x :: xs, ys => by
    have := knL_append xs ys
    simp only [List.cons_append, knL]
    omega
theorem knL_len : ∀ xs : List Ki, xs.length ≤ knL xs
  | [] => Nat.le_refl _
  | x :: xs => by
    have := knL_len xs
    have := x.kn_pos
    simp only [knL, List.length_cons]
    omega
theorem Fs.knL_kids : ∀ fs : Fs, knL fs.kids = fs.kns
  | .nil => rfl
  | .cons _ k t => by
    show k.kn + knL t.kids = k.kn + t.kns
    rw [Fs.knL_kids t]
theorem Ki.kn_kids (k : Ki) : k.kn = knL k.kids + 1 := by
  cases k with
  | num => rfl
  | bl i => rfl
  | rc fs r => show fs.kns + 1 = knL fs.kids + 1; rw [fs.knL_kids]
theorem Fs.oks_kids : ∀ (fs : Fs), fs.oks = true → ∀ c ∈ fs.kids, c.ok = true
  | .nil, _, c, h => by cases h
  | .cons _ k t, h, c, hc => by
    obtain ⟨h1, h2⟩ := Bool.and_eq_true_iff.mp (show (k.ok && t.oks) = true from h)
    rcases List.mem_cons.mp hc with rfl | hc
    · exact h1
    · exact Fs.oks_kids t h2 c hc
theorem Ki.ok_kids (k : Ki) (h : k.ok = true) : ∀ c ∈ k.kids, c.ok = true := by
  cases k with
  | num => intro c hc; cases hc
  | bl i => intro c hc; cases hc
  | rc fs r => exact fs.oks_kids (Bool.and_eq_true_iff.mp (show (riseF fs.labs [] && okR r && fs.oks) = true from h)).2
/-- the entries as they are met -/
def popE : Nat → List Ki → Ents
  | 0, _ => []
  | n + 1, X => match X.getLast? with
    | none => []
    | some k => k.entry ++ popE n (X.dropLast ++ k.kids)
def entsL : List Ki → Ents | [] => [] | k :: t => k.ents ++ entsL t
theorem entsL_append : ∀ xs ys : List Ki, entsL (xs ++ ys) = entsL xs ++ entsL ys
  | [], ys => rfl
  | x :: xs, ys => by
    show x.ents ++ entsL (xs ++ ys) = (x.ents ++ entsL xs) ++ entsL ys
    rw [entsL_append xs ys, List.append_assoc]
theorem Fs.entsL_kids : ∀ fs : Fs, entsL fs.kids = fs.entss
  | .nil => rfl
  | .cons _ k t => by
    show k.ents ++ entsL t.kids = k.ents ++ t.entss
    rw [Fs.entsL_kids t]
theorem Ki.mem_ents (k : Ki) (e : Int × Option (List Str)) : e ∈ k.ents ↔ e ∈ k.entry ∨ e ∈ entsL k.kids := by
  cases k with
  | num => simp [Ki.ents, Ki.entry, Ki.num?, Ki.kids, entsL]
  | bl i => simp [Ki.ents, Ki.entry, Ki.num?, Ki.kids, entsL, Ki.lab]
  | rc fs r =>
    show e ∈ fs.entss ++ (match r with | none => [] | some i => [(i, some fs.labs)]) ↔ e ∈ (match r with | none => [] | some i => [(i, some fs.labs)]) ∨ e ∈ entsL fs.kids
    rw [fs.entsL_kids, List.mem_append]
    exact Or.comm
theorem popE_mem : ∀ (n : Nat) (X : List Ki), knL X ≤ n → ∀ e, e ∈ popE n X ↔ e ∈ entsL X
  | 0, X, h, e => by
    have := knL_len X
    cases X with
    | nil => simp [popE, entsL]
    | cons _ _ => simp at this; omega
  | n + 1, X, h, e => by
    rcases List.eq_nil_or_concat X with rfl | ⟨Y, k, rfl⟩
    · simp [popE, entsL]
    · rw [List.concat_eq_append] at *
      have ek := k.kn_kids
      have h1 : knL (Y ++ [k]) = knL Y + k.kn := by rw [knL_append]; simp [knL]
      unfold popE
      rw [List.getLast?_concat, List.dropLast_concat]
      simp only
      rw [List.mem_append, popE_mem n (Y ++ k.kids) (by rw [knL_append]; omega) e, entsL_append, entsL_append, List.mem_append, List.mem_append]
      have : entsL [k] = k.ents := by simp [entsL]
      rw [this, Ki.mem_ents]
      constructor
      · rintro (h | h | h)
        · exact .inr (.inl h)
        · exact .inl h
        · exact .inr (.inr h)
      · rintro (h | h | h)
        · exact .inr (.inl h)
        · exact .inl h
        · exact .inr (.inr h)
/-! ### the table -/
def lkE (m : Ents) (i : Int) : Option (Option (List Str)) := (m.find? fun q => decide (q.1 = i)).map (·.2)
def putE (m : Ents) (e : Int × Option (List Str)) : Option Ents := match lkE m e.1 with
  | some w => if w = e.2 then some m else none
  | none => some (m ++ [e])
def putAll : Ents → Ents → Option Ents
  | m, [] => some m
  | m, e :: es => match putE m e with | some m' => putAll m' es | none => none
theorem putAll_append : ∀ (m a b : Ents), putAll m (a ++ b) = (putAll m a).bind fun m' => putAll m' b
  | m, [], b => rfl
  | m, e :: a, b => by
    show (match putE m e with | some m' => putAll m' (a ++ b) | none => none) = (match putE m e with | some m' => putAll m' a | none => none).bind _
    cases putE m e with
    | none => rfl
    | some m' => exact putAll_append m' a b
def Cons (es : Ents) : Prop := ∀ p ∈ es, ∀ q ∈ es, p.1 = q.1 → p.2 = q.2
def ND (m : Ents) : Prop := (m.map (·.1)).Nodup
theorem lkE_none {m : Ents} {i : Int} (h : lkE m i = none) : ∀ p ∈ m, p.1 ≠ i := fun p hp e => by
  have : m.find? (fun q => decide (q.1 = i)) = none := by
    unfold lkE at h
    cases q : m.find? (fun q => decide (q.1 = i)) with
    | none => rfl
    | some x => rw [q] at h; cases h
  have := List.find?_eq_none.mp this p hp
  simp [e] at this
theorem lkE_some {m : Ents} {i : Int} {w : Option (List Str)} (h : lkE m i = some w) : (i, w) ∈ m := by
  unfold lkE at h
  cases q : m.find? (fun q => decide (q.1 = i)) with
  | none => rw [q] at h; cases h
  | some x =>
    rw [q] at h
    cases h
    have h1 := List.mem_of_find?_eq_some q
    have h2 := List.find?_some q
    have : x.1 = i := of_decide_eq_true h2
    subst this
    exact h1
theorem nd_uni : ∀ {m : Ents}, ND m → ∀ p ∈ m, ∀ q ∈ m, p.1 = q.1 → p = q
  | [], _, p, hp, _, _, _ => by cases hp
  | x :: m, nd, p, hp, q, hq, e => by
    unfold ND at nd
    rw [List.map_cons, List.nodup_cons] at nd
    rcases List.mem_cons.mp hp with h1 | h1
    · rcases List.mem_cons.mp hq with h2 | h2
      · rw [h1, h2]
      · exact (nd.1 (List.mem_map.mpr ⟨q, h2, by rw [← e, h1]⟩)).elim
    · rcases List.mem_cons.mp hq with h2 | h2
      · exact (nd.1 (List.mem_map.mpr ⟨p, h1, by rw [e, h2]⟩)).elim
      · exact nd_uni nd.2 p h1 q h2 e
theorem nd_put {m m' : Ents} {e : Int × Option (List Str)} (nd : ND m) (h : putE m e = some m') : ND m' ∧ (∀ p, p ∈ m' ↔ p ∈ m ∨ p = e) := by
  unfold putE at h
  split at h
  · rename_i w hw
    split at h
    · rename_i hv
      cases h
      refine ⟨nd, fun p => ⟨.inl, fun z => z.elim id fun z => ?_⟩⟩
      have := lkE_some hw
      rw [hv] at this
      rw [z]
      exact this
    · cases h
  · rename_i hw
    cases h
    refine ⟨?_, fun p => by simp⟩
    unfold ND
    rw [List.map_append, List.nodup_append]
    refine ⟨nd, by simp, fun a ha b hb => ?_⟩
    obtain ⟨p, hp, rfl⟩ := List.mem_map.mp ha
    rw [show b = e.1 by simpa using hb]
    exact lkE_none hw p hp
theorem putAll_ok : ∀ {es m m' : Ents}, ND m → putAll m es = some m' → ND m' ∧ (∀ p, p ∈ m' ↔ p ∈ m ∨ p ∈ es)
  | [], m, m', nd, h => by cases h; exact ⟨nd, fun p => by simp⟩
  | e :: es, m, m', nd, h => by
    unfold putAll at h
    split at h
    · rename_i m1 h1
      obtain ⟨n1, q1⟩ := nd_put nd h1
      obtain ⟨n2, q2⟩ := putAll_ok n1 h
      refine ⟨n2, fun p => ?_⟩
      rw [q2, q1, List.mem_cons]
      exact ⟨fun z => z.elim (fun z => z.elim .inl fun z => .inr (.inl z)) fun z => .inr (.inr z), fun z => z.elim (fun z => .inl (.inl z)) fun z => z.elim (fun z => .inl (.inr z)) .inr⟩
    · cases h
theorem putAll_cons {es m m' : Ents} (nd : ND m) (h : putAll m es = some m') : Cons (m ++ es) := fun p hp q hq e => by
  obtain ⟨n1, q1⟩ := putAll_ok nd h
  have a := (q1 p).mpr (List.mem_append.mp hp)
  have b := (q1 q).mpr (List.mem_append.mp hq)
  rw [nd_uni n1 p a q b e]
theorem cons_putAll : ∀ {es m : Ents}, ND m → Cons (m ++ es) → ∃ m', putAll m es = some m'
  | [], m, _, _ => ⟨m, rfl⟩
  | e :: es, m, nd, h => by
    have hput : ∃ m1, putE m e = some m1 := by
      unfold putE
      cases hw : lkE m e.1 with
      | none => exact ⟨_, rfl⟩
      | some w =>
        have := h (e.1, w) (by simp [lkE_some hw]) e (by simp) rfl
        have this' : w = e.2 := this
        exact ⟨m, by simp [this']⟩
    obtain ⟨m1, h1⟩ := hput
    obtain ⟨n1, q1⟩ := nd_put nd h1
    have hc : Cons (m1 ++ es) := fun p hp q hq ee => h p (by
      rcases List.mem_append.mp hp with z | z
      · rcases (q1 p).mp z with z | z
        · simp [z]
        · simp [z]
      · simp [z]) q (by
      rcases List.mem_append.mp hq with z | z
      · rcases (q1 q).mp z with z | z
        · simp [z]
        · simp [z]
      · simp [z]) ee
    obtain ⟨m', h'⟩ := cons_putAll n1 hc
    exact ⟨m', by unfold putAll; rw [h1]; exact h'⟩
/-! ### as data -/
def encLab : Option (List Str) → D | none => .non | some L => .tup (L.map D.str)
def encM (m : Ents) : List (Key × D) := m.map fun q => (Sum.inl q.1, encLab q.2)
theorem atD_encM (i : Int) : ∀ m : Ents, atD (encM m) (.inl i) = (lkE m i).map encLab
  | [] => rfl
  | q :: m => by
    have ih := atD_encM i m
    unfold atD lkE encM at *
    rw [List.map_cons, List.find?_cons, List.find?_cons]
    by_cases e : q.1 = i
    · simp [e]
    · have e' : ¬ ((Sum.inl q.1 : Key) = Sum.inl i) := fun h => e (Sum.inl.inj h)
      simp only [e, e', decide_false]
      exact ih
theorem any_encM (m : Ents) (i : Int) : ((encM m).any fun q => decide (q.1 = (Sum.inl i : Key))) = (lkE m i).isSome := by
  have h := atD_encM i m
  unfold atD at h
  have : ((encM m).any fun q => decide (q.1 = (Sum.inl i : Key))) = ((encM m).find? fun q => decide (q.1 = (Sum.inl i : Key))).isSome := by
    rw [Bool.eq_iff_iff, List.any_eq_true, List.find?_isSome]
  rw [this]
  cases e1 : (encM m).find? (fun q => decide (q.1 = (Sum.inl i : Key))) <;> cases e2 : lkE m i <;> rw [e1, e2] at h <;> first | rfl | cases h
theorem putD_encM {m m' : Ents} {e : Int × Option (List Str)} (nd : ND m) (h : putE m e = some m') : putD (encM m) (.inl e.1) (encLab e.2) = encM m' := by
  unfold putD
  rw [any_encM]
  unfold putE at h
  split at h
  · rename_i w hw
    split at h
    · rename_i hv
      cases h
      rw [hw]
      simp only [Option.isSome_some, if_true]
      unfold encM
      rw [List.map_map]
      refine List.map_congr_left fun q hq => ?_
      by_cases c : q.1 = e.1
      · have := nd_uni nd q hq (e.1, w) (lkE_some hw) c
        simp [this, hv]
      · simp [c]
    · cases h
  · rename_i hw
    cases h
    rw [hw]
    simp [encM]
theorem wd_strOk {x : Str} (h : wdB x = true) : PyData.strOk x = true := by
  unfold wdB at h
  obtain ⟨_, h2⟩ := Bool.and_eq_true_iff.mp h
  unfold PyData.strOk
  rw [Array.all_eq_true']
  intro c hc
  have := List.all_eq_true.mp h2 c (by simpa using hc)
  have := of_decide_eq_true (Bool.and_eq_true_iff.mp this).2
  exact decide_eq_true (by omega)
theorem rise_words : ∀ {ys L : List Str}, riseF ys L = true → ∀ y ∈ ys, wdB y = true
  | [], _, _, y, hy => by cases hy
  | z :: ys, L, h, y, hy => by
    obtain ⟨h1, h2⟩ := Bool.and_eq_true_iff.mp (show ((wdB z && lastLt L z) && riseF ys (L ++ [z])) = true from h)
    rcases List.mem_cons.mp hy with rfl | hy
    · exact (Bool.and_eq_true_iff.mp h1).1
    · exact rise_words h2 y hy
def OkLab (v : Option (List Str)) : Prop := ∀ L, v = some L → ∀ y ∈ L, wdB y = true
theorem Ki.okLab (k : Ki) (h : k.ok = true) : OkLab k.lab := by
  cases k with
  | num => intro L e; cases e
  | bl i => intro L e; cases e
  | rc fs r =>
    intro L e
    cases e
    have h' : (riseF fs.labs [] && okR r && fs.oks) = true := h
    exact rise_words (Bool.and_eq_true_iff.mp (Bool.and_eq_true_iff.mp h').1).1
theorem cl_strs {L : List Str} (h : ∀ y ∈ L, wdB y = true) : cls (L.map D.str) = true := by
  rw [cls_iff]
  intro d hd
  obtain ⟨y, hy, rfl⟩ := List.mem_map.mp hd
  exact wd_strOk (h y hy)
theorem dp_strs (L : List Str) : dpsD (L.map D.str) ≤ 0 := dps_le fun d hd => by
  obtain ⟨y, _, rfl⟩ := List.mem_map.mp hd
  exact Nat.le_of_eq (dp_str y)
theorem lab_ne {v w : Option (List Str)} (s : Sto) (hv : OkLab v) (hw : OkLab w) : eqO true s (encLab v) (encLab w) = some (.bl (!decide (v = w))) := by
  have inj : (encLab v = encLab w) ↔ v = w := by
    constructor
    · intro h
      cases v with
      | none => cases w with | none => rfl | some M => cases h
      | some L =>
        cases w with
        | none => cases h
        | some M =>
          have h' : L.map D.str = M.map D.str := by injection h
          have : L = M := (List.map_inj_right fun a b e => by injection e).mp h'
          rw [this]
    · intro h; rw [h]
  have c : ∀ {v}, OkLab v → cl (encLab v) = true ∧ dpD (encLab v) ≤ 64 := fun {v} h => by
    cases v with
    | none => exact ⟨rfl, by rw [show encLab none = .non from rfl, dp_non]; omega⟩
    | some L => exact ⟨cl_strs (h L rfl), by
        rw [show encLab (some L) = .tup (L.map D.str) from rfl, dp_tup]
        have := dp_strs L
        omega⟩
  rw [eqO_cl (c hv).1 (c hw).1 (c hv).2 (c hw).2]
  congr 2
  show (!decide _) = _
  congr 1
  exact decide_eq_decide.mpr inj
end Qk

set_option Elab.async false
set_option linter.all false
set_option maxRecDepth 100000
set_option maxHeartbeats 4000000
/-! Q7: standing, is_kind. -/
namespace Qk
open PySem L2 PD Pr
-- WORDS number blank record
theorem wd_len {x : Str} (h : wdB x = true) : x.length ≤ 8 := by
  unfold wdB at h
  have h1 := (Bool.and_eq_true_iff.mp h).1
  have := of_decide_eq_true (Bool.and_eq_true_iff.mp h1).2
  omega
theorem word_pd (x : String) (h : (decide ((SS x).length ≤ 1000000)) = true) : pd (.str (SS x)) = true := h
mutual
theorem Ki.pd : ∀ (k : Ki), k.ok = true → PD.pd k.enc = true
  | .num, _ => pds_iff.mpr fun x hx => by
      rw [List.mem_singleton.mp hx]
      exact word_pd _ (by decide +kernel)
  | .bl i, _ => pds_iff.mpr fun x hx => by
      simp only [List.mem_cons, List.not_mem_nil, or_false] at hx
      rcases hx with rfl | rfl
      · exact word_pd _ (by decide +kernel)
      · rfl
  | .rc fs r, h => pds_iff.mpr fun x hx => by
      have h' : (riseF fs.labs [] && okR r && fs.oks) = true := h
      simp only [List.mem_cons, List.not_mem_nil, or_false] at hx
      rcases hx with rfl | rfl | rfl
      · exact word_pd _ (by decide +kernel)
      · exact Fs.pd fs (Bool.and_eq_true_iff.mp h').2 (rise_words (Bool.and_eq_true_iff.mp (Bool.and_eq_true_iff.mp h').1).1)
      · cases r <;> rfl
theorem Fs.pd : ∀ (fs : Fs), fs.oks = true → (∀ y ∈ fs.labs, wdB y = true) → pds fs.encs = true
  | .nil, _, _ => rfl
  | .cons y k t, h, hl => by
    obtain ⟨h1, h2⟩ := Bool.and_eq_true_iff.mp (show (k.ok && t.oks) = true from h)
    show (PD.pd (.tup [.str y, k.enc]) && pds t.encs) = true
    have hy : PD.pd (.str y) = true := decide_eq_true (by have := wd_len (hl y List.mem_cons_self); omega)
    have e : PD.pd (.tup [.str y, k.enc]) = true := pds_iff.mpr fun x hx => by
      simp only [List.mem_cons, List.not_mem_nil, or_false] at hx
      rcases hx with rfl | rfl
      · exact hy
      · exact Ki.pd k h1
    rw [e, Fs.pd t h2 fun z hz => hl z (List.mem_cons_of_mem _ hz)]
    rfl
end
mutual
theorem Ki.sz : ∀ k : Ki, szD k.enc + 2 ≤ 6 * k.kn
  | .num => by simp [Ki.enc, szD, szsD, Ki.kn]
  | .bl i => by simp [Ki.enc, szD, szsD, Ki.kn]
  | .rc fs r => by
    have := Fs.sz fs
    have hr : szD (encR r) = 1 := by cases r <;> simp [encR, szD]
    simp only [Ki.enc, szD, szsD, Ki.kn, hr]
    omega
theorem Fs.sz : ∀ fs : Fs, szsD fs.encs ≤ 6 * fs.kns
  | .nil => by simp [Fs.encs, szsD, Fs.kns]
  | .cons y k t => by
    have a := Ki.sz k
    have b := Fs.sz t
    have c := k.kn_pos
    simp only [Fs.encs, szD, szsD, Fs.kns]
    omega
end
theorem kids_enc (k : Ki) : kidsD k.enc = k.kids.map Ki.enc := by
  have go : ∀ fs : Fs, fs.encs.map sndD = fs.kids.map Ki.enc := by
    intro fs
    induction fs using Fs.rec (motive_1 := fun _ => True) with
    | num => trivial
    | bl i => trivial
    | rc fs r ih => trivial
    | nil => rfl
    | cons y k t _ ih =>
      show k.enc :: t.encs.map sndD = k.enc :: t.kids.map Ki.enc
      rw [ih]
  cases k with
  | num => rfl
  | bl i => rfl
  | rc fs r => exact go fs
theorem within_ki (k : Ki) (s : Sto) (h : k.ok = true) (hk : k.kn ≤ 100000) : D_kinds_within [k.enc] s = some (.ok (.lst (k.kids.map Ki.enc)) s) := by
  rw [within_eq k.enc s (k.pd h) (knot_enc k h) (by have := k.sz; omega), kids_enc]
theorem numE (k : Ki) (s : Sto) (h : k.ok = true) : D_number_right_in [k.enc] s = some (.ok (encR k.num?) s) := by
  unfold D_number_right_in
  refine fnD_rt (d := encR k.num?) (s' := s) ?_ (close_low s _ (by cases k.num? <;> rfl) (by cases k.num? <;> exact fun _ z => nomatch z))
  unfold g_number_right_in
  have hv : fVar 0 [some k.enc] s = some (.ok k.enc s) := rfl
  show seqS _ _ [some k.enc] s = _
  have wp : ∀ x : String, (decide ((SS x).length ≤ 1000000)) = true → PD.pd (.str (SS x)) = true := word_pd
  cases k with
  | num =>
    have t := fun w => is_word_t (f := f2 ixO (fVar 0) (fC (.int 0))) (sl := [some Ki.num.enc]) (s := s) (s1 := s) (x := .str (SS "number")) w (f2_ok (x := Ki.num.enc) (y := .int 0) hv rfl ixT0) (wp "number" (by decide +kernel))
    refine sq_skip ((t (SS "blank")).trans (by rw [isW_ne ne_number_blank])) (retS_ok (if_f ((t (SS "record")).trans (by rw [isW_ne ne_number_record])) rfl))
  | bl i =>
    have t := fun w => is_word_t (f := f2 ixO (fVar 0) (fC (.int 0))) (sl := [some (Ki.bl i).enc]) (s := s) (s1 := s) (x := .str (SS "blank")) w (f2_ok (x := (Ki.bl i).enc) (y := .int 0) hv rfl ixT0) (wp "blank" (by decide +kernel))
    exact sq_ifret ((t (SS "blank")).trans (by rw [isW_self])) (f2_ok (x := (Ki.bl i).enc) (y := .int 1) hv rfl ixT1)
  | rc fs r =>
    have t := fun w => is_word_t (f := f2 ixO (fVar 0) (fC (.int 0))) (sl := [some (Ki.rc fs r).enc]) (s := s) (s1 := s) (x := .str (SS "record")) w (f2_ok (x := (Ki.rc fs r).enc) (y := .int 0) hv rfl ixT0) (wp "record" (by decide +kernel))
    refine sq_skip ((t (SS "blank")).trans (by rw [isW_ne ne_record_blank])) (retS_ok (if_t ((t (SS "record")).trans (by rw [isW_self])) (f2_ok (x := (Ki.rc fs r).enc) (y := .int 2) hv rfl ixT2)))
noncomputable abbrev stBody : SD := (seqS (setS 3 (fM0 popM (fVar 2)))
    (seqS (exprS (fM1 extendM (fVar 2) (fCons (fCall 1 D_kinds_within (fCons (fVar 3) fNil)) fNil)))
    (seqS (setS 4 (fCall 1 D_number_right_in (fCons (fVar 3) fNil)))
    (ifS (fB (f2 (isNO true) (fVar 4) (fC .non))) (seqS (setS 5 (fIf (fB (f2 (eqO false) (f2 ixO (fVar 3) (fC (.int 0))) (fC (.str (PySem.Str.ofString "record"))))) (fN tupleO (fCons (fLc (tdTup (tdCons (tdName 6) (tdCons (tdName 7) tdNil))) fYes (fVar 6) (fIt (f2 ixO (fVar 3) (fC (.int 1)))) [6, 7]) fNil)) (fC .non)))
    (seqS (ifS (fAnd (fB (f2 (dinO false) (fVar 4) (fVar 1))) (fB (f2 (eqO true) (f2 dgetO (fVar 1) (fVar 4)) (fVar 5)))) (retS (fC .non)) nextS)
    (putIxS (fVar 5) (fVar 1) (fVar 4)))) nextS))))
theorem encs_pairs : ∀ (fs : Fs), ∀ p ∈ fs.encs, ∃ y b, p = .tup [.str y, b]
  | .nil, p, hp => by cases hp
  | .cons y k t, p, hp => by
    rcases List.mem_cons.mp hp with rfl | hp
    · exact ⟨_, _, rfl⟩
    · exact encs_pairs t p hp
theorem encs_labs : ∀ (fs : Fs), fs.encs.map (fun p => match p with | .tup [y, _] => y | _ => D.non) = fs.labs.map D.str
  | .nil => rfl
  | .cons y k t => by
    show D.str y :: _ = D.str y :: _
    rw [encs_labs t]
/-- where the labels ahead are told -/
theorem lab_eq (k : Ki) (h : k.ok = true) (hk : k.kn ≤ 100000) (x0 x1 x2 x4 x5 x6 x7 : Option D) (s : Sto) :
    (fIf (fB (f2 (eqO false) (f2 ixO (fVar 3) (fC (.int 0))) (fC (.str (PySem.Str.ofString "record"))))) (fN tupleO (fCons (fLc (tdTup (tdCons (tdName 6) (tdCons (tdName 7) tdNil))) fYes (fVar 6) (fIt (f2 ixO (fVar 3) (fC (.int 1)))) [6, 7]) fNil)) (fC .non)) [x0, x1, x2, some k.enc, x4, x5, x6, x7] s = some (.ok (encLab k.lab) s) := by
  have hv : fVar 3 [x0, x1, x2, some k.enc, x4, x5, x6, x7] s = some (.ok k.enc s) := rfl
  have wp : ∀ x : String, (decide ((SS x).length ≤ 1000000)) = true → PD.pd (.str (SS x)) = true := word_pd
  cases k with
  | num =>
    have t := is_word_t (f := f2 ixO (fVar 3) (fC (.int 0))) (sl := [x0, x1, x2, some Ki.num.enc, x4, x5, x6, x7]) (s := s) (s1 := s) (x := .str (SS "number")) (SS "record") (f2_ok (x := Ki.num.enc) (y := .int 0) hv rfl ixT0) (wp "number" (by decide +kernel))
    exact if_f (t.trans (by rw [isW_ne ne_number_record])) rfl
  | bl i =>
    have t := is_word_t (f := f2 ixO (fVar 3) (fC (.int 0))) (sl := [x0, x1, x2, some (Ki.bl i).enc, x4, x5, x6, x7]) (s := s) (s1 := s) (x := .str (SS "blank")) (SS "record") (f2_ok (x := (Ki.bl i).enc) (y := .int 0) hv rfl ixT0) (wp "blank" (by decide +kernel))
    exact if_f (t.trans (by rw [isW_ne ne_blank_record])) rfl
  | rc fs r =>
    have t := is_word_t (f := f2 ixO (fVar 3) (fC (.int 0))) (sl := [x0, x1, x2, some (Ki.rc fs r).enc, x4, x5, x6, x7]) (s := s) (s1 := s) (x := .str (SS "record")) (SS "record") (f2_ok (x := (Ki.rc fs r).enc) (y := .int 0) hv rfl ixT0) (wp "record" (by decide +kernel))
    have hl : fs.encs.length ≤ 16777216 := by
      have := szsD_len fs.encs
      have := Fs.sz fs
      simp only [Ki.kn] at hk
      omega
    refine if_t (t.trans (by rw [isW_self])) (fN_ok (one_ok (snd_lc 6 7 (x := .str (SS "record")) (fs := fs.encs) (r := encR r) hv (encs_pairs fs) hl (fun y _ => y) (fun y b => ⟨_, rfl, rfl⟩))) ?_)
    exact congrArg (fun z => some (D.tup z)) (encs_labs fs)
theorem set2 (s : Sto) (a b c : Cell) : (s ++ [a, b]).set s.length c = s ++ [c, b] := app_set s a c [b]
theorem set3 (s : Sto) (a b c : Cell) : (s ++ [a, b]).set (s.length + 1) c = s ++ [a, c] := app_set1 s a b c []
theorem get2 (s : Sto) (a b : Cell) : (s ++ [a, b])[s.length]? = some a := app_at s a [b]
theorem get3 (s : Sto) (a b : Cell) : (s ++ [a, b])[s.length + 1]? = some b := app_at1 s a b []
theorem st_loop (s : Sto) (d0 : D) : ∀ (n : Nat) (X : List Ki) (m : Ents) (x3 x4 x5 x6 x7 : Option D), knL X ≤ n → knL X ≤ 100000 → m.length + knL X ≤ 100000 → (∀ k ∈ X, k.ok = true) → ND m → (∀ e ∈ m, 0 ≤ e.1 ∧ OkLab e.2) →
    ∃ y3 y4 y5 y6 y7 c1 c2, whileS (fTru (fVar 2)) stBody [some d0, some (.own s.length), some (.own (s.length + 1)), x3, x4, x5, x6, x7] (s ++ [.dic (encM m), .lst (X.map Ki.enc)]) =
      (match putAll m (popE n X) with
        | some m' => some (.nx [some d0, some (.own s.length), some (.own (s.length + 1)), y3, y4, y5, y6, y7] (s ++ [.dic (encM m'), .lst []]))
        | none => some (.rt .non (s ++ [c1, c2]))) := by
  intro n
  induction n with
  | zero =>
    intro X m x3 x4 x5 x6 x7 hn _ _ _ _ _
    have hX : X = [] := by
      have := knL_len X
      cases X with
      | nil => rfl
      | cons _ _ => simp at this; omega
    subst hX
    exact ⟨x3, x4, x5, x6, x7, .gone, .gone, wh_stop (tru_own (xs := []) rfl (get3 _ _ _))⟩
  | succ n ih =>
    intro X m x3 x4 x5 x6 x7 hn h1 h2 hok nd hm
    rcases List.eq_nil_or_concat X with rfl | ⟨Y, k, rfl⟩
    · exact ⟨x3, x4, x5, x6, x7, .gone, .gone, wh_stop (tru_own (xs := []) rfl (get3 _ _ _))⟩
    · rw [List.concat_eq_append] at *
      have hko : k.ok = true := hok k (by simp)
      have ek := k.kn_kids
      have e1 : knL (Y ++ [k]) = knL Y + k.kn := by rw [knL_append]; simp [knL]
      have hpe : popE (n + 1) (Y ++ [k]) = k.entry ++ popE n (Y ++ k.kids) := by
        rw [popE, List.getLast?_concat, List.dropLast_concat]
      rw [hpe, putAll_append]
      have hu : fTru (fVar 2) [some d0, some (.own s.length), some (.own (s.length + 1)), x3, x4, x5, x6, x7] (s ++ [.dic (encM m), .lst ((Y ++ [k]).map Ki.enc)]) = some (.ok true (s ++ [.dic (encM m), .lst ((Y ++ [k]).map Ki.enc)])) := by
        refine (tru_own (xs := (Y ++ [k]).map Ki.enc) rfl (get3 _ _ _)).trans ?_
        simp
      have s1 : setS 3 (fM0 popM (fVar 2)) [some d0, some (.own s.length), some (.own (s.length + 1)), x3, x4, x5, x6, x7] (s ++ [.dic (encM m), .lst ((Y ++ [k]).map Ki.enc)]) = some (.nx [some d0, some (.own s.length), some (.own (s.length + 1)), some k.enc, x4, x5, x6, x7] (s ++ [.dic (encM m), .lst (Y.map Ki.enc)])) := by
        refine setS_ok ((pop_own (k := s.length + 1) (xs := Y.map Ki.enc) (y := k.enc) rfl (by rw [get3]; simp)).trans ?_)
        rw [set3]
      let sl3 : Sl := [some d0, some (.own s.length), some (.own (s.length + 1)), some k.enc, x4, x5, x6, x7]
      have s2 : exprS (fM1 extendM (fVar 2) (fCons (fCall 1 D_kinds_within (fCons (fVar 3) fNil)) fNil)) sl3 (s ++ [.dic (encM m), .lst (Y.map Ki.enc)]) = some (.nx sl3 (s ++ [.dic (encM m), .lst ((Y ++ k.kids).map Ki.enc)])) := by
        refine exprS_ok (d := .non) ((ext_own (k := s.length + 1) (xs := Y.map Ki.enc) (ys := k.kids.map Ki.enc) rfl ⟨_, get3 _ _ _⟩ (call_ok (ds := [k.enc]) (one_ok rfl) (within_ki k _ hko (by omega))) rfl (get3 _ _ _) ?_).trans ?_)
        · have := knL_len Y
          have := knL_len k.kids
          simp only [List.length_map]
          omega
        · rw [set3]
          simp
      let t := s ++ [Cell.dic (encM m), .lst ((Y ++ k.kids).map Ki.enc)]
      let sl4 : Sl := [some d0, some (.own s.length), some (.own (s.length + 1)), some k.enc, some (encR k.num?), x5, x6, x7]
      have s3 : setS 4 (fCall 1 D_number_right_in (fCons (fVar 3) fNil)) sl3 t = some (.nx sl4 t) := setS_ok (call_ok (ds := [k.enc]) (one_ok rfl) (numE k t hko))
      have hrest : ∀ (m1 : Ents) (z5 : Option D), stBody [some d0, some (.own s.length), some (.own (s.length + 1)), x3, x4, x5, x6, x7] (s ++ [.dic (encM m), .lst ((Y ++ [k]).map Ki.enc)]) = some (.nx [some d0, some (.own s.length), some (.own (s.length + 1)), some k.enc, some (encR k.num?), z5, x6, x7] (s ++ [.dic (encM m1), .lst ((Y ++ k.kids).map Ki.enc)])) → m1.length ≤ m.length + 1 → ND m1 → (∀ e ∈ m1, 0 ≤ e.1 ∧ OkLab e.2) →
          ∃ y3 y4 y5 y6 y7 c1 c2, whileS (fTru (fVar 2)) stBody [some d0, some (.own s.length), some (.own (s.length + 1)), x3, x4, x5, x6, x7] (s ++ [.dic (encM m), .lst ((Y ++ [k]).map Ki.enc)]) =
          (match putAll m1 (popE n (Y ++ k.kids)) with
            | some m' => some (.nx [some d0, some (.own s.length), some (.own (s.length + 1)), y3, y4, y5, y6, y7] (s ++ [.dic (encM m'), .lst []]))
            | none => some (.rt .non (s ++ [c1, c2]))) := fun m1 z5 hb hl nd1 hm1 => by
        obtain ⟨y3, y4, y5, y6, y7, c1, c2, e⟩ := ih (Y ++ k.kids) m1 (some k.enc) (some (encR k.num?)) z5 x6 x7 (by rw [knL_append]; omega) (by rw [knL_append]; omega) (by rw [knL_append]; omega) (fun c hc => by
          rcases List.mem_append.mp hc with hc | hc
          · exact hok c (by simp [hc])
          · exact k.ok_kids hko c hc) nd1 hm1
        have : whileS (fTru (fVar 2)) stBody [some d0, some (.own s.length), some (.own (s.length + 1)), x3, x4, x5, x6, x7] (s ++ [.dic (encM m), .lst ((Y ++ [k]).map Ki.enc)]) =
          (match putAll m1 (popE n (Y ++ k.kids)) with
            | some m' => some (.nx [some d0, some (.own s.length), some (.own (s.length + 1)), y3, y4, y5, y6, y7] (s ++ [.dic (encM m'), .lst []]))
            | none => some (.rt .non (s ++ [c1, c2]))) := by
          cases hp : putAll m1 (popE n (Y ++ k.kids)) with
          | none => rw [hp] at e; exact wh_nx hu hb e
          | some m' => rw [hp] at e; exact wh_nx hu hb e
        exact ⟨y3, y4, y5, y6, y7, c1, c2, this⟩
      cases hnum : k.num? with
      | none =>
        have he : k.entry = [] := by unfold Ki.entry; rw [hnum]
        rw [he]
        rw [show putAll m [] = some m from rfl, Option.bind_some]
        refine hrest m x5 ?_ (Nat.le_succ _) nd hm
        refine sq_nx s1 (sq_nx s2 (sq_nx s3 (ifF (fB_ok (f2_ok (x := encR k.num?) (y := .non) rfl rfl ?_)) rfl)))
        rw [hnum]; rfl
      | some i =>
        have he : k.entry = [(i, k.lab)] := by unfold Ki.entry; rw [hnum]
        rw [he]
        have hi : 0 ≤ i := by
          cases k with
          | num => cases hnum
          | bl j => cases hnum; exact of_decide_eq_true hko
          | rc fs r =>
            have hnum' : r = some i := hnum
            subst hnum'
            have h' : (riseF fs.labs [] && okR (some i) && fs.oks) = true := hko
            exact of_decide_eq_true (Bool.and_eq_true_iff.mp (Bool.and_eq_true_iff.mp h').1).2
        have hlab := k.okLab hko
        have hnn : (fB (f2 (isNO true) (fVar 4) (fC .non))) sl4 t = some (.ok true t) := fB_ok (f2_ok (x := encR k.num?) (y := .non) rfl rfl (by rw [hnum]; rfl))
        let sl5 : Sl := [some d0, some (.own s.length), some (.own (s.length + 1)), some k.enc, some (encR k.num?), some (encLab k.lab), x6, x7]
        have s5 := setS_ok (i := 5) (lab_eq k hko (by omega) (some d0) (some (.own s.length)) (some (.own (s.length + 1))) (some (encR k.num?)) x5 x6 x7 t)
        have hdc : dcOf t (.own s.length) = some (encM m) := by unfold dcOf; simp only [t, get2]
        have hin : (fB (f2 (dinO false) (fVar 4) (fVar 1))) sl5 t = some (.ok (lkE m i).isSome t) := by
          refine fB_ok (f2_ok (x := encR k.num?) (y := .own s.length) (s1 := t) rfl rfl ?_)
          unfold dinO
          rw [hdc, hnum]
          show some (D.bl (ng false (atD (encM m) (.inl i)).isSome)) = _
          rw [atD_encM, Option.isSome_map]
          rfl
        have hput : ∀ m1, putE m (i, k.lab) = some m1 → putIxS (fVar 5) (fVar 1) (fVar 4) sl5 t = some (.nx sl5 (s ++ [.dic (encM m1), .lst ((Y ++ k.kids).map Ki.enc)])) := fun m1 h1' => by
          have hp : putIx t (.own s.length) (encR k.num?) (encLab k.lab) = some (s ++ [.dic (encM m1), .lst ((Y ++ k.kids).map Ki.enc)]) := by
            unfold putIx
            have hs : small ((encM m).length + 1) = true := smallOf (by unfold encM; rw [List.length_map]; omega)
            simp only [t, get2]
            rw [hnum]
            show (if small ((encM m).length + 1) = true then some ((s ++ [Cell.dic (encM m), .lst ((Y ++ k.kids).map Ki.enc)]).set s.length (.dic (putD (encM m) (.inl i) (encLab k.lab)))) else none) = _
            rw [if_pos hs, putD_encM (e := (i, k.lab)) nd h1', set2]
          unfold putIxS bindS
          have v5 : fVar 5 sl5 t = some (.ok (encLab k.lab) t) := rfl
          have v1 : fVar 1 sl5 t = some (.ok (.own s.length) t) := rfl
          have v4 : fVar 4 sl5 t = some (.ok (encR k.num?) t) := rfl
          simp only [v5, v1, v4, hp]
        have good : ∀ m1, putE m (i, k.lab) = some m1 → (fAnd (fB (f2 (dinO false) (fVar 4) (fVar 1))) (fB (f2 (eqO true) (f2 dgetO (fVar 1) (fVar 4)) (fVar 5)))) sl5 t = some (.ok false t) → ∃ y3 y4 y5 y6 y7 c1 c2, whileS (fTru (fVar 2)) stBody [some d0, some (.own s.length), some (.own (s.length + 1)), x3, x4, x5, x6, x7] (s ++ [.dic (encM m), .lst ((Y ++ [k]).map Ki.enc)]) =
          (match (putAll m [(i, k.lab)]).bind fun m' => putAll m' (popE n (Y ++ k.kids)) with
            | some m' => some (.nx [some d0, some (.own s.length), some (.own (s.length + 1)), y3, y4, y5, y6, y7] (s ++ [.dic (encM m'), .lst []]))
            | none => some (.rt .non (s ++ [c1, c2]))) := fun m1 h1' hf => by
          have ha : putAll m [(i, k.lab)] = some m1 := by unfold putAll; rw [h1']; rfl
          rw [ha]
          obtain ⟨nd1, mm⟩ := nd_put nd h1'
          have hl : m1.length ≤ m.length + 1 := by
            unfold putE at h1'
            split at h1'
            · split at h1'
              · cases h1'; omega
              · cases h1'
            · cases h1'; simp
          refine hrest m1 (some (encLab k.lab)) ?_ hl nd1 fun e he' => ?_
          · exact sq_nx s1 (sq_nx s2 (sq_nx s3 (ifT hnn (sq_nx s5 (sq_skip hf (hput m1 h1'))))))
          · rcases (mm e).mp he' with z | z
            · exact hm e z
            · rw [z]; exact ⟨hi, hlab⟩
        cases hlk : lkE m i with
        | none =>
          rw [hlk] at hin
          exact good (m ++ [(i, k.lab)]) (by unfold putE; simp only [hlk]) (and_f hin)
        | some w =>
          rw [hlk] at hin
          have hw := (hm _ (lkE_some hlk)).2
          have hne : (fB (f2 (eqO true) (f2 dgetO (fVar 1) (fVar 4)) (fVar 5))) sl5 t = some (.ok (!decide (w = k.lab)) t) := by
            refine fB_ok (f2_ok (x := encLab w) (y := encLab k.lab) (s1 := t) (f2_ok (x := .own s.length) (y := encR k.num?) (s1 := t) rfl rfl ?_) rfl (lab_ne t hw hlab))
            unfold dgetO
            rw [hdc, hnum]
            show atD (encM m) (.inl i) = _
            rw [atD_encM, hlk]
            rfl
          by_cases c : w = k.lab
          · rw [decide_eq_true c] at hne
            exact good m (by unfold putE; simp only [hlk, if_pos c]) (and_t hin hne)
          · rw [decide_eq_false c] at hne
            have ha : putAll m [(i, k.lab)] = none := by unfold putAll putE; simp only [hlk, if_neg c]
            rw [ha]
            refine ⟨none, none, none, none, none, .dic (encM m), .lst ((Y ++ k.kids).map Ki.enc), ?_⟩
            exact wh_rt hu (sq_nx s1 (sq_nx s2 (sq_nx s3 (ifT hnn (sq_nx s5 (sq_ifret (and_t hin hne) rfl))))))
theorem standing_eq (d : D) (ks : List Ki) (s : Sto) (hd : seqOf s d = some (ks.map Ki.enc)) (hk : knL ks ≤ 50000) (hok : ∀ k ∈ ks, k.ok = true) :
    D_standing [d] s = (match putAll [] (popE (knL ks) ks) with
      | some m => some (.ok (.own s.length) (s ++ [.dic (encM m)]))
      | none => some (.ok .non s)) := by
  obtain ⟨y3, y4, y5, y6, y7, c1, c2, e⟩ := st_loop s d (knL ks) ks [] none none none none none (Nat.le_refl _) (by omega) (by simp; omega) hok (by unfold ND; simp) (fun e h => by cases h)
  have s1 : setS 1 fDNew [some d, none, none, none, none, none, none, none] s = some (.nx [some d, some (.own s.length), none, none, none, none, none, none] (s ++ [.dic []])) := setS_ok rfl
  have hd' : seqOf (s ++ [.dic []]) d = some (ks.map Ki.enc) := by
    cases d with
    | own j =>
      have : (match s[j]? with | some (.lst xs) => some xs | _ => none) = some (ks.map Ki.enc) := hd
      split at this
      · rename_i xs hj
        show (match (s ++ [Cell.dic []])[j]? with | some (.lst xs) => some xs | _ => none) = _
        rw [app_old hj]
        exact this
      · cases this
    | _ => exact hd
  have s2 : setS 2 (fNM listOwnO (fCons (fVar 0) fNil)) [some d, some (.own s.length), none, none, none, none, none, none] (s ++ [.dic []]) = some (.nx [some d, some (.own s.length), some (.own (s.length + 1)), none, none, none, none, none] (s ++ [.dic [], .lst (ks.map Ki.enc)])) := by
    refine setS_ok (d := .own (s.length + 1)) ?_
    have hv : fCons (fVar 0) fNil [some d, some (.own s.length), none, none, none, none, none, none] (s ++ [.dic []]) = some (.ok [d] (s ++ [.dic []])) := rfl
    unfold fNM bindM
    rw [hv]
    simp only [listOwnO, hd', Option.map_some]
    simp
  unfold D_standing
  cases hp : putAll [] (popE (knL ks) ks) with
  | none =>
    rw [hp] at e
    exact fnD_rt (d := .non) (s' := s ++ [c1, c2]) (sq_nx s1 (sq_nx s2 (seqS_rt e))) (closeM_low (keep := true) rfl (keeps_refl s) rfl (fun _ z => nomatch z))
  | some m =>
    rw [hp] at e
    refine fnD_rt (d := .own s.length) (s' := s ++ [.dic (encM m), .lst []]) (sq_nx s1 (sq_nx s2 (sq_nx e (retS_ok rfl)))) ?_
    unfold closeM
    have ht : (s ++ [Cell.dic (encM m), .lst []]).take s.length = s := List.take_left
    have hlow : CellLow s.length (.dic (encM m)) := fun q hq => by
      obtain ⟨p, _, rfl⟩ := List.mem_map.mp hq
      show D.low s.length (encLab p.2) = true
      cases p.2 with
      | none => rfl
      | some L =>
        show D.lowAll s.length (L.map D.str) = true
        rw [lowAll_iff]
        intro d hd
        obtain ⟨x, _, rfl⟩ := List.mem_map.mp hd
        rfl
    rw [ht, if_pos (keeps_refl s)]
    simp only [Nat.lt_irrefl, if_false, get2]
    rw [if_pos ⟨trivial, hlow⟩]
/-- may the numbers of these stand together -/
def stands (ks : List Ki) : Prop := Cons (entsL ks)
theorem stands_iff (ks : List Ki) : (∃ m, putAll [] (popE (knL ks) ks) = some m) ↔ stands ks := by
  have nd : ND [] := by unfold ND; simp
  have hmem := popE_mem (knL ks) ks (Nat.le_refl _)
  constructor
  · intro ⟨m, h⟩ p hp q hq e
    exact putAll_cons nd h p ((hmem p).mpr hp) q ((hmem q).mpr hq) e
  · intro h
    exact cons_putAll nd fun p hp q hq e => h p ((hmem p).mp hp) q ((hmem q).mp hq) e
noncomputable instance (ks : List Ki) : Decidable (stands ks) := Classical.propDecidable _
/-- a kind: its form, its numbers, at most 200 knots, 12 deep -/
def IsK (d : D) : Prop := ∃ k : Ki, decK 12 d = some k ∧ k.kn ≤ 200 ∧ stands [k]
noncomputable instance (d : D) : Decidable (IsK d) := Classical.propDecidable _
theorem is_kind_eq (d : D) (s : Sto) (h : PD.pd d = true) (hs : szD d ≤ 900000) (hT : HasTab s "is_word") : D_is_kind [d] s = some (.ok (.bl (decide (IsK d))) s) := by
  unfold D_is_kind
  have hf := form_eq d (some 200) s h hs hT
  have hcf : fCall 2 D_has_form (fCons (fVar 0) (fCons (fC (.int 200)) fNil)) [some d] s = some (.ok (.bl (formK d (some 200))) s) := call_ok (ds := [d, .int 200]) rfl hf
  cases hk : formK d (some 200) with
  | false =>
    rw [hk] at hcf
    have : ¬ IsK d := fun ⟨k, h1, h2, _⟩ => by
      rw [(formK_iff d (some 200)).mpr ⟨k, h1, fun q e => by cases e; exact h2⟩] at hk
      cases hk
    rw [decide_eq_false this]
    exact fnD_rt (d := .bl false) (s' := s) (retS_ok (andV_f hcf)) (close_bl s _)
  | true =>
    rw [hk] at hcf
    obtain ⟨k, h1, h2⟩ := (formK_iff d (some 200)).mp hk
    have h2 := h2 200 rfl
    obtain ⟨he, hko, _⟩ := decK_enc 12 d k h1
    subst he
    have hst := standing_eq (.lst [k.enc]) [k] s rfl (by simp [knL]; omega) (fun c hc => by rw [List.mem_singleton.mp hc]; exact hko)
    have hcs := call_ok (n := 1) (F := D_standing) (sl := [some k.enc]) (h := fCons (fLst (fCons (fVar 0) fNil)) fNil) (s := s) (s1 := s) (ds := [.lst [k.enc]]) (one_ok (lst_ok (one_ok rfl) small1)) hst
    cases hp : putAll [] (popE (knL [k]) [k]) with
    | none =>
      rw [hp] at hcs
      have : ¬ IsK k.enc := fun ⟨k', g1, g2, g3⟩ => by
        rw [h1] at g1
        cases g1
        obtain ⟨m, hm⟩ := (stands_iff [k]).mpr g3
        rw [hm] at hp
        cases hp
      rw [decide_eq_false this]
      exact fnD_rt (d := .bl false) (s' := s) (retS_ok (andV_t hcf (f2_ok (x := .non) (y := .non) hcs rfl rfl))) (close_bl s _)
    | some m =>
      rw [hp] at hcs
      have : IsK k.enc := ⟨k, h1, h2, (stands_iff [k]).mp ⟨m, hp⟩⟩
      rw [decide_eq_true this]
      exact fnD_rt (d := .bl true) (s' := s ++ [.dic (encM m)]) (retS_ok (andV_t hcf (f2_ok (x := .own s.length) (y := .non) hcs rfl rfl))) (close_jbl s _ _)
end Qk

set_option Elab.async false
set_option linter.all false
set_option maxRecDepth 100000
set_option maxHeartbeats 8000000
namespace Pr
open PySem L2 PD Qk
-- WORDS number blank record
theorem isWord_eq (x : Str) : isWord x = wdB x := by
  have e : letters.cps.toList = List.range' 97 26 := by decide +kernel
  have h : ∀ c : Nat, decide (c ∈ letters.cps.toList) = (decide (97 ≤ c) && decide (c ≤ 122)) := fun c => by
    rw [e, Bool.eq_iff_iff]
    simp only [decide_eq_true_eq, Bool.and_eq_true, List.mem_range'_1]
    omega
  unfold isWord wdB
  simp only [h]
theorem lastOk_eq (L : List Str) (y : Str) : lastOk L y = lastLt L y := by
  unfold lastOk lastLt
  cases L.getLast? with
  | none => rfl
  | some z =>
    show decide (z.cps.toList < y.cps.toList) = !(!_)
    rw [Bool.not_not, PyProof.Rows.ltCps_eq]
theorem blankF_put {T : Tab} (nd : ND T.m) (i : Int) (v : Lab) : blankF T i v = match putE T.m (i, v) with | some m' => (true, ⟨T.n, m'⟩) | none => (false, T) := by
  have hlk : lkT T.m i = lkE T.m i := rfl
  unfold blankF putE
  rw [hlk]
  have hany : (T.m.any fun q => decide (q.1 = i)) = (lkE T.m i).isSome := by
    unfold lkE
    rw [Option.isSome_map, Bool.eq_iff_iff, List.any_eq_true, List.find?_isSome]
  cases h : lkE T.m i with
  | none =>
    rw [h] at hany
    simp only
    unfold putT
    rw [hany]
    rfl
  | some w =>
    rw [h] at hany
    simp only
    by_cases c : w = v
    · rw [if_pos c, if_pos c]
      have e : putT T.m i v = T.m := by
        unfold putT
        rw [hany]
        simp only [Option.isSome_some, if_true]
        conv => rhs; rw [← List.map_id T.m]
        refine List.map_congr_left fun q hq => ?_
        by_cases c2 : q.1 = i
        · have := nd_uni nd q hq (i, w) (lkE_some h) c2
          rw [this, c]
          simp
        · simp [c2]
      rw [e]
    · rw [if_neg c, if_neg c]
def restE (L : List Str) : Option Int → Ents | none => [] | some i => [(i, some L)]
theorem rc_ents (fs : Fs) (r : Option Int) : (Ki.rc fs r).ents = fs.entss ++ restE fs.labs r := by cases r <;> rfl
/-- what the law's look gives: the kind that it is, its numbers put into the table -/
structure GoodIs (G : D → Tab → Bool × Tab) (l : Nat) : Prop where
  yes : ∀ (d : D) (T : Tab) (k : Ki) (m' : Ents), ND T.m → decK l d = some k → putAll T.m k.ents = some m' → G d T = (true, ⟨T.n + k.kn, m'⟩)
  no : ∀ (d : D) (T : Tab), ND T.m → (G d T).1 = true → ∃ k m', decK l d = some k ∧ putAll T.m k.ents = some m'
theorem fields_yes {G : D → Tab → Bool × Tab} {l : Nat} (hG : GoodIs G l) : ∀ (fs : List D) (F : Fs) (L : List Str) (T : Tab) (m' : Ents), ND T.m → decFs (decK l) fs = some F → riseF F.labs L = true → putAll T.m F.entss = some m' → fieldsF G fs L T = (some (L ++ F.labs), ⟨T.n + F.kns, m'⟩)
  | [], F, L, T, m', _, h, _, hp => by
    cases h
    cases hp
    simp [fieldsF, Fs.labs, Fs.kns]
  | p :: t, F, L, T, m', nd, h, hr, hp => by
    unfold decFs at h
    split at h
    · rename_i y b
      split at h
      · rename_i k hk
        split at h
        · rename_i r hr2
          cases h
          obtain ⟨h1, h2⟩ := Bool.and_eq_true_iff.mp (show ((wdB y && lastLt L y) && riseF r.labs (L ++ [y])) = true from hr)
          obtain ⟨h3, h4⟩ := Bool.and_eq_true_iff.mp h1
          have hp' : putAll T.m (k.ents ++ r.entss) = some m' := hp
          rw [putAll_append] at hp'
          cases hk1 : putAll T.m k.ents with
          | none => rw [hk1] at hp'; cases hp'
          | some m1 =>
            rw [hk1] at hp'
            have e1 := hG.yes b T k m1 nd hk hk1
            have nd1 := (putAll_ok nd hk1).1
            have e2 := fields_yes hG t r (L ++ [y]) ⟨T.n + k.kn, m1⟩ m' nd1 hr2 h2 hp'
            unfold fieldsF
            simp only
            rw [if_pos ⟨by rw [isWord_eq]; exact h3, by rw [lastOk_eq]; exact h4⟩, e1]
            simp only [if_true]
            rw [e2]
            have : T.n + (k.kn : Int) + (r.kns : Int) = T.n + ((k.kn + r.kns : Nat) : Int) := by omega
            simp only [Fs.labs, Fs.kns, List.append_assoc, List.singleton_append, this]
        · cases h
      · cases h
    · cases h
theorem fields_no {G : D → Tab → Bool × Tab} {l : Nat} (hG : GoodIs G l) : ∀ (fs : List D) (L L' : List Str) (T T' : Tab), ND T.m → fieldsF G fs L T = (some L', T') → ∃ F m', decFs (decK l) fs = some F ∧ riseF F.labs L = true ∧ putAll T.m F.entss = some m' ∧ L' = L ++ F.labs ∧ T'.m = m'
  | [], L, L', T, T', _, h => by
    cases h
    exact ⟨.nil, T.m, rfl, rfl, rfl, by simp [Fs.labs], rfl⟩
  | p :: t, L, L', T, T', nd, h => by
    unfold fieldsF at h
    split at h
    · rename_i y b
      split at h
      · rename_i c
        split at h
        · rename_i g
          obtain ⟨k, m1, hk, hp1⟩ := hG.no b T nd g
          have e1 := hG.yes b T k m1 nd hk hp1
          rw [e1] at h
          obtain ⟨F, m', q1, q2, q3, q4, q5⟩ := fields_no hG t (L ++ [y]) L' _ T' (putAll_ok nd hp1).1 h
          refine ⟨.cons y k F, m', ?_, ?_, ?_, ?_, q5⟩
          · unfold decFs
            simp only [hk, q1]
          · show ((wdB y && lastLt L y) && riseF F.labs (L ++ [y])) = true
            rw [← isWord_eq, ← lastOk_eq, c.1, c.2, q2]
            rfl
          · show putAll T.m (k.ents ++ F.entss) = some m'
            rw [putAll_append, hp1]
            exact q3
          · rw [q4]
            simp [Fs.labs]
        · cases h
      · cases h
    · cases h
theorem good_is : ∀ l, GoodIs (goodF l) l
  | 0 => ⟨fun d T k m' _ h => (by cases h), fun d T _ h => (by cases h)⟩
  | l + 1 => by
    have ih := good_is l
    have hn : ∀ (T : Tab), ND T.m → ∀ (k : Ki) m' (r : Int), putAll T.m k.ents = some m' → (true, (⟨T.n + 1 + r, m'⟩ : Tab)) = (true, ⟨T.n + (1 + r), m'⟩) := fun T _ k m' r _ => by rw [Int.add_assoc]
    refine ⟨fun d T k m' nd h hp => ?_, fun d T nd h => ?_⟩
    · obtain ⟨rfl, hok, hdep⟩ := decK_enc (l + 1) d k h
      cases k with
      | num =>
        cases hp
        show headF (goodF l) (S "number") [] ⟨T.n + 1, T.m⟩ = _
        unfold headF
        rw [if_pos rfl]
        rfl
      | bl i =>
        have hi : 0 ≤ i := of_decide_eq_true hok
        have hput : putE T.m (i, none) = some m' := by
          have hp' : (match putE T.m (i, none) with | some m1 => putAll m1 [] | none => none) = some m' := hp
          cases hq : putE T.m (i, none) with
          | none => rw [hq] at hp'; cases hp'
          | some m1 => rw [hq] at hp'; exact hp'
        show headF (goodF l) (S "blank") [.int i] ⟨T.n + 1, T.m⟩ = _
        unfold headF
        rw [if_neg (show ¬ S "blank" = S "number" by simp only [ne_number_blank, ne_number_record, ne_blank_number, ne_blank_record, ne_record_number, ne_record_blank]; exact id), if_pos rfl]
        show numF (.int i) ⟨T.n + 1, T.m⟩ none = _
        unfold numF
        simp only
        rw [if_pos hi, blankF_put (T := ⟨T.n + 1, T.m⟩) nd, hput]
        rfl
      | rc fs r =>
        have h' : (riseF fs.labs [] && okR r && fs.oks) = true := hok
        obtain ⟨h1, h2⟩ := Bool.and_eq_true_iff.mp h'
        obtain ⟨h3, h4⟩ := Bool.and_eq_true_iff.mp h1
        have hd : fs.deps ≤ l := by simp only [Ki.dep] at hdep; omega
        have hdec := encs_decFs fs l h2 hd
        have hp' := hp
        rw [rc_ents, putAll_append] at hp'
        cases hk1 : putAll T.m fs.entss with
        | none => rw [hk1] at hp'; cases hp'
        | some m1 =>
          rw [hk1] at hp'
          have hf := fields_yes ih fs.encs fs [] ⟨T.n + 1, T.m⟩ m1 nd hdec h3 hk1
          show headF (goodF l) (S "record") [.tup fs.encs, encR r] ⟨T.n + 1, T.m⟩ = _
          unfold headF
          rw [if_neg (show ¬ S "record" = S "number" by simp only [ne_number_blank, ne_number_record, ne_blank_number, ne_blank_record, ne_record_number, ne_record_blank]; exact id), if_neg (show ¬ S "record" = S "blank" by simp only [ne_number_blank, ne_number_record, ne_blank_number, ne_blank_record, ne_record_number, ne_record_blank]; exact id), if_pos rfl]
          show recE (encR r) (fieldsF (goodF l) fs.encs [] ⟨T.n + 1, T.m⟩) = _
          rw [hf]
          have ek : T.n + 1 + (fs.kns : Int) = T.n + ((Ki.rc fs r).kn : Nat) := by simp only [Ki.kn]; omega
          unfold recE
          simp only [List.nil_append]
          cases r with
          | none =>
            cases hp'
            rw [← ek]
            rfl
          | some i =>
            have hi : 0 ≤ i := of_decide_eq_true h4
            have hput : putE m1 (i, some fs.labs) = some m' := by
              have hp2 : (match putE m1 (i, some fs.labs) with | some m1 => putAll m1 [] | none => none) = some m' := hp'
              cases hq : putE m1 (i, some fs.labs) with
              | none => rw [hq] at hp2; cases hp2
              | some m2 => rw [hq] at hp2; exact hp2
            show numF (.int i) ⟨T.n + 1 + (fs.kns : Int), m1⟩ (some fs.labs) = _
            unfold numF
            simp only
            rw [if_pos hi, blankF_put (T := ⟨T.n + 1 + (fs.kns : Int), m1⟩) (putAll_ok nd hk1).1, hput, ← ek]
    · cases d with
      | tup xs =>
        cases xs with
        | nil => cases h
        | cons w rest =>
          cases w with
          | str w =>
            have h0 : (headF (goodF l) w rest ⟨T.n + 1, T.m⟩).1 = true := h
            unfold headF at h0
            split at h0
            · rename_i c
              subst c
              cases rest with
              | nil =>
                refine ⟨.num, T.m, ?_, rfl⟩
                unfold decK
                rw [if_pos (show knotD (.tup [.str (S "number")]) = true by show decide (S "number" = SS "number") = true; exact decide_eq_true rfl)]
              | cons _ _ => cases h0
            · split at h0
              · rename_i c0 c
                subst c
                match rest, h0 with
                | [], h0 => cases h0
                | [x], h0 =>
                  have h1 : (numF x ⟨T.n + 1, T.m⟩ none).1 = true := h0
                  unfold numF at h1
                  split at h1
                  · rename_i i
                    split at h1
                    · rename_i hi
                      rw [blankF_put (T := ⟨T.n + 1, T.m⟩) nd] at h1
                      cases hq : putE T.m (i, none) with
                      | none => simp only [hq] at h1; cases h1
                      | some m1 =>
                        refine ⟨.bl i, m1, ?_, ?_⟩
                        · unfold decK
                          rw [if_pos (show knotD (.tup [.str (S "blank"), .int i]) = true by
                            show (decide (S "blank" = SS "blank") && decide (0 ≤ i)) = true
                            rw [decide_eq_true (show S "blank" = SS "blank" from rfl), decide_eq_true hi]; rfl)]
                        · show (match putE T.m (i, none) with | some m1 => putAll m1 [] | none => none) = some m1
                          rw [hq]
                          rfl
                    · cases h1
                  · cases h1
                | _ :: _ :: _, h0 => cases h0
              · split at h0
                · rename_i c0 c1 c
                  subst c
                  match rest, h0 with
                  | [], h0 => exact absurd h0 (by simp [recR])
                  | [_], h0 => exact absurd h0 (by simp [recR])
                  | [a, x], h0 =>
                    cases a with
                    | tup fs =>
                      have h1 : (recE x (fieldsF (goodF l) fs [] ⟨T.n + 1, T.m⟩)).1 = true := h0
                      unfold recE at h1
                      split at h1
                      · rename_i L' hL'
                        obtain ⟨F, m1, q1, q2, q3, q4, q5⟩ := fields_no ih fs [] L' ⟨T.n + 1, T.m⟩ (fieldsF (goodF l) fs [] ⟨T.n + 1, T.m⟩).2 nd (by rw [← hL'])
                        have nd1 := (putAll_ok nd q3).1
                        have hL2 : L' = F.labs := by rw [q4]; rfl
                        have hfl : (fldsF fs []).isSome = true := by rw [flds_labs q1 [], if_pos q2]; rfl
                        unfold endF at h1
                        split at h1
                        · refine ⟨.rc F none, m1, ?_, ?_⟩
                          · unfold decK
                            rw [if_pos (show knotD (.tup [.str (S "record"), .tup fs, .non]) = true by
                              show (decide (S "record" = SS "record") && ((fldsF fs []).isSome && (Qk.isNon .non || nbD .non))) = true
                              rw [decide_eq_true (show S "record" = SS "record" from rfl), hfl]; rfl)]
                            show (decFs (decK l) fs).map (fun F => Ki.rc F (decR .non)) = _
                            rw [q1]
                            rfl
                          · show putAll T.m (F.entss ++ []) = _
                            rw [List.append_nil]
                            exact q3
                        · unfold numF at h1
                          split at h1
                          · rename_i i _
                            split at h1
                            · rename_i hi
                              rw [blankF_put (by rw [q5]; exact nd1), q5, hL2] at h1
                              cases hq : putE m1 (i, some F.labs) with
                              | none => simp only [hq] at h1; cases h1
                              | some m2 =>
                                refine ⟨.rc F (some i), m2, ?_, ?_⟩
                                · unfold decK
                                  rw [if_pos (show knotD (.tup [.str (S "record"), .tup fs, .int i]) = true by
                                    show (decide (S "record" = SS "record") && ((fldsF fs []).isSome && (Qk.isNon (.int i) || nbD (.int i)))) = true
                                    rw [decide_eq_true (show S "record" = SS "record" from rfl), hfl, show nbD (.int i) = true from decide_eq_true hi]; rfl)]
                                  show (decFs (decK l) fs).map (fun F => Ki.rc F (decR (.int i))) = _
                                  rw [q1]
                                  rfl
                                · show putAll T.m (F.entss ++ [(i, some F.labs)]) = _
                                  rw [putAll_append, q3]
                                  show (match putE m1 (i, some F.labs) with | some m1 => putAll m1 [] | none => none) = _
                                  rw [hq]
                                  rfl
                            · cases h1
                          · cases h1
                      · cases h1
                    | _ => cases h0
                  | _ :: _ :: _ :: _, h0 => exact absurd h0 (by simp [recR])
                · cases h0
          | _ => cases h
      | _ => cases h
theorem due_IsK (d : D) : dueF d = decide (IsK d) := by
  have hG := good_is 12
  have nd : ND T0.m := by unfold ND; simp [T0]
  have iff : dueF d = true ↔ IsK d := by
    unfold dueF
    rw [Bool.and_eq_true]
    constructor
    · intro ⟨h1, h2⟩
      obtain ⟨k, m', hk, hp⟩ := hG.no d T0 nd h1
      rw [hG.yes d T0 k m' nd hk hp] at h2
      have h2' : (0 : Int) + (k.kn : Int) ≤ 200 := of_decide_eq_true h2
      refine ⟨k, hk, by omega, fun p hp' q hq e => ?_⟩
      have es : entsL [k] = k.ents := by simp [entsL]
      rw [es] at hp' hq
      exact putAll_cons nd hp p (by simp [hp']) q (by simp [hq]) e
    · intro ⟨k, hk, hn, hs⟩
      have es : entsL [k] = k.ents := by simp [entsL]
      obtain ⟨m', hp⟩ := cons_putAll (es := k.ents) (m := T0.m) nd (by
        intro p hp' q hq e
        exact hs p (by rw [es]; simpa [T0] using hp') q (by rw [es]; simpa [T0] using hq) e)
      rw [hG.yes d T0 k m' nd hk hp]
      exact ⟨rfl, decide_eq_true (by show (0 : Int) + (k.kn : Int) ≤ 200; omega)⟩
  by_cases c : IsK d
  · rw [decide_eq_true c]; exact iff.mpr c
  · rw [decide_eq_false c]; exact Bool.eq_false_iff.mpr fun z => c (iff.mp z)
mutual
theorem dt_pd : ∀ d : D, dt d = true → pd d = true
  | .non, _ => rfl
  | .bl _, _ => rfl
  | .int _, _ => rfl
  | .str _, h => h
  | .lst xs, h => dts_pds xs h
  | .tup xs, h => dts_pds xs h
theorem dts_pds : ∀ ds : List D, dts ds = true → pds ds = true
  | [], _ => rfl
  | d :: ds, h => by
    have h' : dt d = true ∧ dts ds = true := Bool.and_eq_true_iff.mp h
    show (pd d && pds ds) = true
    rw [dt_pd d h'.1, dts_pds ds h'.2]
    rfl
end
mutual
theorem sz_szD : ∀ d : D, szD d = sz d
  | .non => rfl
  | .bl _ => rfl
  | .int _ => rfl
  | .str _ => rfl
  | .own _ => rfl
  | .lst xs => congrArg (· + 1) (szs_szD xs)
  | .tup xs => congrArg (· + 1) (szs_szD xs)
  | .par xs => congrArg (· + 1) (szs_szD xs)
  | .scr xs => congrArg (· + 1) (szs_szD xs)
theorem szs_szD : ∀ ds : List D, szsD ds = szs ds
  | [] => rfl
  | d :: ds => by
    show szD d + szsD ds = sz d + szs ds
    rw [sz_szD d, szs_szD ds]
end
theorem is_kind_ok : IsKindOk := fun d s hd hT => by
  rw [due_IsK]
  exact is_kind_eq d s (dt_pd d hd.1) (by rw [sz_szD]; have := hd.2; omega) hT
end Pr

namespace Pr
open PySem L2 PD
theorem law_true (ns : List Int) (h : ns.length ≤ 63) : ∃ s, D_law [.scr (ns.map D.int)] [.tab "is_word"] = some (.ok (.bl true) s) := law_of is_kind_ok ns h
end Pr

set_option Elab.async false
set_option linter.all false
set_option maxRecDepth 100000
set_option maxHeartbeats 8000000
open PySem PySem.W PyProof.Rows
set_option maxHeartbeats 0 in
theorem PySem.Challenge.cw_fieldrest_k02_kinds_holds : PySem.Challenge.rw_fieldrest_k02_kinds.Holds := by
  w_on; o_law; k_head; (case hw => w_witness2)
  k_fill
  refine PD.walk_ofD (l := PySem.Challenge.rw_fieldrest_k02_kinds) (n := 63) (k := 22) (x := "_law_script") (CX := fun w => L2.CX PySem.Challenge.rw_fieldrest_k02_kinds.prog w) [("is_word" : PySem.Str)] rfl (by decide) rfl ⟨rfl, by decide, by decide⟩ (by decide +kernel) (fun w h Y => PySem.W.kIn_of Y) ?F (fun _ _ _ _ _ h => PD.cx_none h)
  case F =>
    intro w mg fa h Y KX G hmg own
    refine' Pr.all_mk Pr.law_true KX G hmg own ?ha_is_kind ?hl_is_kind ?hc_is_kind ?hk_is_kind ?ha_has_form ?hl_has_form ?hc_has_form ?hk_has_form ?ha_is_knot ?hl_is_knot ?hc_is_knot ?hk_is_knot ?ha_is_blank_number ?hl_is_blank_number ?hc_is_blank_number ?hk_is_blank_number ?ha_are_fields ?hl_are_fields ?hc_are_fields ?hk_are_fields ?ha_is_word ?hl_is_word ?hc_is_word ?hk_is_word ?ha_kinds_within ?hl_kinds_within ?hc_kinds_within ?hk_kinds_within ?ha_standing ?hl_standing ?hc_standing ?hk_standing ?ha_number_right_in ?hl_number_right_in ?hc_number_right_in ?hk_number_right_in ?ha_cell ?hl_cell ?hc_cell ?hk_cell ?ha_next ?hl_next ?hc_next ?hk_next ?ha_labels ?hl_labels ?hc_labels ?hk_labels ?ha_kind ?hl_kind ?hc_kind ?hk_kind ?ha_odd ?hl_odd ?hc_odd ?hk_odd ?ha_changed ?hl_changed ?hc_changed ?hk_changed ?ha_word ?hl_word ?hc_word ?hk_word ?ha_number ?hl_number ?hc_number ?hk_number ?ha_blank ?hl_blank ?hc_blank ?hk_blank ?ha_good ?hl_good ?hc_good ?hk_good ?ha_due ?hl_due ?hc_due ?hk_due ?ha_merged ?hl_merged ?hc_merged ?hk_merged ?ha_thing ?hl_thing ?hc_thing ?hk_thing ?ha_law ?hl_law ?hc_law ?hk_law ?he_is_word ?hd_is_word ?hP_is_word ?hR_is_word ?hN_is_word ?hz_all ?hz_bool ?hz_int ?hz_isinstance ?hz_len ?hz_list ?hz_range ?hz_sorted ?hz_str ?hz_tuple ?hq_MOST_DEEP ?hq_MOST_KNOTS
    (case ha_is_kind => k_is)
    (case hl_is_kind => k_is)
    (case hc_is_kind => k_is)
    (case hk_is_kind => k_is)
    (case ha_has_form => k_is)
    (case hl_has_form => k_is)
    (case hc_has_form => k_is)
    (case hk_has_form => k_is)
    (case ha_is_knot => k_is)
    (case hl_is_knot => k_is)
    (case hc_is_knot => k_is)
    (case hk_is_knot => k_is)
    (case ha_is_blank_number => k_is)
    (case hl_is_blank_number => k_is)
    (case hc_is_blank_number => k_is)
    (case hk_is_blank_number => k_is)
    (case ha_are_fields => k_is)
    (case hl_are_fields => k_is)
    (case hc_are_fields => k_is)
    (case hk_are_fields => k_is)
    (case ha_is_word => k_is)
    (case hl_is_word => k_is)
    (case hc_is_word => k_is)
    (case hk_is_word => k_is)
    (case ha_kinds_within => k_is)
    (case hl_kinds_within => k_is)
    (case hc_kinds_within => k_is)
    (case hk_kinds_within => k_is)
    (case ha_standing => k_is)
    (case hl_standing => k_is)
    (case hc_standing => k_is)
    (case hk_standing => k_is)
    (case ha_number_right_in => k_is)
    (case hl_number_right_in => k_is)
    (case hc_number_right_in => k_is)
    (case hk_number_right_in => k_is)
    (case ha_cell => k_is)
    (case hl_cell => k_is)
    (case hc_cell => k_is)
    (case hk_cell => k_is)
    (case ha_next => k_is)
    (case hl_next => k_is)
    (case hc_next => k_is)
    (case hk_next => k_is)
    (case ha_labels => k_is)
    (case hl_labels => k_is)
    (case hc_labels => k_is)
    (case hk_labels => k_is)
    (case ha_kind => k_is)
    (case hl_kind => k_is)
    (case hc_kind => k_is)
    (case hk_kind => k_is)
    (case ha_odd => k_is)
    (case hl_odd => k_is)
    (case hc_odd => k_is)
    (case hk_odd => k_is)
    (case ha_changed => k_is)
    (case hl_changed => k_is)
    (case hc_changed => k_is)
    (case hk_changed => k_is)
    (case ha_word => k_is)
    (case hl_word => k_is)
    (case hc_word => k_is)
    (case hk_word => k_is)
    (case ha_number => k_is)
    (case hl_number => k_is)
    (case hc_number => k_is)
    (case hk_number => k_is)
    (case ha_blank => k_is)
    (case hl_blank => k_is)
    (case hc_blank => k_is)
    (case hk_blank => k_is)
    (case ha_good => k_is)
    (case hl_good => k_is)
    (case hc_good => k_is)
    (case hk_good => k_is)
    (case ha_due => k_is)
    (case hl_due => k_is)
    (case hc_due => k_is)
    (case hk_due => k_is)
    (case ha_merged => k_is)
    (case hl_merged => k_is)
    (case hc_merged => k_is)
    (case hk_merged => k_is)
    (case ha_thing => k_is)
    (case hl_thing => k_is)
    (case hc_thing => k_is)
    (case hk_thing => k_is)
    (case ha_law => k_is)
    (case hl_law => k_is)
    (case hc_law => k_is)
    (case hk_law => k_is)
    (case he_is_word => rfl)
    (case hd_is_word => k_is)
    (case hP_is_word => rfl)
    (case hR_is_word => exact ⟨_, _, _, _, _, _, _, rfl, rfl, rfl, rfl, rfl, by decide⟩)
    (case hN_is_word => first | rfl | k_is)
    (case hz_all => k_is)
    (case hz_bool => k_is)
    (case hz_int => k_is)
    (case hz_isinstance => k_is)
    (case hz_len => k_is)
    (case hz_list => k_is)
    (case hz_range => k_is)
    (case hz_sorted => k_is)
    (case hz_str => k_is)
    (case hz_tuple => k_is)
    (case hq_MOST_DEEP => k_is)
    (case hq_MOST_KNOTS => k_is)